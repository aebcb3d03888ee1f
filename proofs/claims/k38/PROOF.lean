import PyProof.Rows.All
import Wide.All
import OpenK.AllK
import Wide.FinOn
import Lean
import PyProof.EqAt
import PyProof.EqKinds
import PyProof.TupleCall
import PyProof.StationsW
import OpenK.KCls
import OpenK.KDescr
import OpenK.KWalk
import PyProof.ExcAttrAll.ValueError
import OpenK.KMake
import PyProof.InstStoreFacts
import PyProof.ExcClass3
import PyProof.StrBlockI
import PyProof.StrBlock2
import PyProof.StrLawsIn
import PyProof.StrLawsIdx
import PyProof.Rows.ReprOcc
import KE.IntTextLaws
import PyProof.CompFree
import PyProof.CompUse
import PyProof.ListRange
import PyProof.Rows.Range3
import KE.KStateDown
import PyProof.MaxThree
import PyProof.ListNew
import PyProof.WalksMore
import PyProof.ReprLoop
import KE.KRevIter
import PySem.PyData
import PyProof.ZipIter
import PyProof.TupleIter
import PyProof.Draws
import PyProof.EnumMake
import PyProof.AttrMiss
import PyProof.IsiH_list
import KE.KDictOf
import PyProof.DictItems
import KE.KPairComp
import KE.KEqDict
import PyProof.SumAny
import PyProof.Rows.SumGenD
import PyProof.Claim2
import KE.KDictList
import KE.KxText
import PySem.Challenge.RW_leadersplice_k38_whole_same_numbers
set_option Elab.async false
set_option linter.all false
set_option maxRecDepth 100000
namespace L2
open PySem PySem.Spec PyProof.Rows
abbrev Key:=Sum Int Str
def keyIs : Key->Value->Bool
 | .inl k,v=>Value.isInt k v
 | .inr x,v=>Value.isStrOf x v
def keyH (w : World) : Key->Int
 | .inl k=>hashInt k
 | .inr x=>hashStr w x
theorem keyIs_shape : ∀ {k : Key} {v : Value},keyIs k v = true->(∃ i t,k = Sum.inl i/\v = Value.int i t) \/ (∃ x t,k = Sum.inr x/\v = Value.str x t)
 | .inl i,v,h=>by
  obtain ⟨t,e⟩:=Value.isInt_shape (k:=i) (v:=v) h
  exact .inl ⟨i,t,rfl,e⟩
 | .inr x,v,h=>by
  obtain ⟨t,e⟩:=Value.isStrOf_shape (x:=x) (v:=v) h
  exact .inr ⟨x,t,rfl,e⟩
theorem keyIs_int (i : Int) (t : Tok) : keyIs (.inl i) (.int i t) = true:=by simp [keyIs,Value.isInt]
theorem keyIs_str (x : Str) (t : Tok) : keyIs (.inr x) (.str x t) = true:=by simp [keyIs,Value.isStrOf]
theorem key_ll (a b : Int) : decide ((Sum.inl a : Key) = Sum.inl b) = (a == b):=by
 by_cases e : a = b
 ·subst e; simp
 ·have h : ¬ (Sum.inl a : Key) = Sum.inl b:=fun q=>e (Sum.inl.inj q)
  rw [decide_eq_false h]
  exact (beq_eq_false_iff_ne.mpr e).symm
theorem key_rr (a b : Str) : decide ((Sum.inr a : Key) = Sum.inr b) = decide (a = b):=by
 by_cases e : a = b
 ·subst e; simp
 ·have h : ¬ (Sum.inr a : Key) = Sum.inr b:=fun q=>e (Sum.inr.inj q)
  rw [decide_eq_false h,decide_eq_false e]
theorem key_lr (a : Int) (b : Str) : decide ((Sum.inl a : Key) = Sum.inr b) = false:=decide_eq_false (fun q=>nomatch q)
theorem key_rl (a : Str) (b : Int) : decide ((Sum.inr a : Key) = Sum.inl b) = false:=decide_eq_false (fun q=>nomatch q)
def mixKind (prog : Program) (w : World) : PySem.KeyKind prog w Key where
 is:=keyIs
 hash:=keyH w
 inj:=fun v a b ha hb=>by
  rcases keyIs_shape ha with ⟨i,t,rfl,rfl⟩ | ⟨x,t,rfl,rfl⟩
  ·rcases keyIs_shape hb with ⟨j,u,rfl,e⟩ | ⟨y,u,rfl,e⟩
   ·injection e with e1 _; rw [e1]
   ·exact nomatch e
  ·rcases keyIs_shape hb with ⟨j,u,rfl,e⟩ | ⟨y,u,rfl,e⟩
   ·exact nomatch e
   ·injection e with e1 _; rw [e1]
 byValue:=fun k v h=>by
  rcases keyIs_shape h with ⟨i,t,rfl,rfl⟩ | ⟨x,t,rfl,rfl⟩ <;> rfl
 pyHash:=fun hv h=>by
  rcases keyIs_shape hv with ⟨i,t,rfl,rfl⟩ | ⟨x,t,rfl,rfl⟩
  ·exact wpAny_pyHash_int h
  ·exact wpAny_pyHash_str h
 eqBool:=fun hu hv h=>by
  rcases keyIs_shape hu with ⟨i,t,rfl,rfl⟩ | ⟨x,t,rfl,rfl⟩
  ·rcases keyIs_shape hv with ⟨j,u,rfl,rfl⟩ | ⟨y,u,rfl,rfl⟩
   ·rw [key_ll] at h; exact wpAny_eqBool_int h
   ·rw [key_lr] at h; exact SeqAt.EqAt.int_str i t y u _ _ _ _ h
  ·rcases keyIs_shape hv with ⟨j,u,rfl,rfl⟩ | ⟨y,u,rfl,rfl⟩
   ·rw [key_rl] at h; exact SeqAt.EqAt.str_int x t j u _ _ _ _ h
   ·rw [key_rr] at h; exact wpAny_eqBool_str h
 «strs»:=fun k x t v h=>by
  rcases keyIs_shape h with ⟨i,u,rfl,e⟩ | ⟨y,u,rfl,e⟩
  ·exact nomatch e
  ·injection e with e1 _
   subst e1
   cases v <;> rfl
theorem mixKind_int (prog : Program) (w : World) (i : Int) (t : Tok) : (mixKind prog w).is (.inl i) (.int i t) = true:=keyIs_int i t
theorem mixKind_str (prog : Program) (w : World) (x : Str) (t : Tok) : (mixKind prog w).is (.inr x) (.str x t) = true:=keyIs_str x t
end L2
namespace L2
open PySem PySem.Spec PyProof.Rows
inductive V where
 | non | bl (b : Bool) | int (i : Int) | str (x : Str) | byt (b : Array UInt8) | flt (b : UInt64) | ref (a : Addr) | ty (n : String)
 deriving DecidableEq
def RelV : V->Value->Prop
 | .non,u=>u = Value.none
 | .bl b,u=>u = Value.bool b
 | .int i,u=>∃ t,u = Value.int i t
 | .str x,u=>∃ t,u = Value.str x t
 | .byt b,u=>∃ t,u = Value.bytes b t
 | .flt b,u=>∃ t,u = Value.float b t
 | .ref a,u=>u = Value.ref a
 | .ty n,u=>u = Value.type n
abbrev Vals : List V->List Value->Prop:=Paired RelV
theorem Vals.length {xs : List V} {us : List Value} (r : Vals xs us) : xs.length = us.length:=Paired.length r
theorem Vals.get : ∀ {xs : List V} {us : List Value} {i : Nat} {x : V},Vals xs us->xs[i]? = some x->∃ u,us[i]? = some u/\RelV x u
 | _,_,_,_,.nil,e=>by simp at e
 | _,_,0,_,.cons r _,e=>by simp at e; subst e; exact ⟨_,rfl,r⟩
 | _,_,i + 1,x,.cons _ t,e=>by
  obtain ⟨u,h1,h2⟩:=Vals.get (i:=i) (x:=x) t (by simpa using e)
  exact ⟨u,by simpa using h1,h2⟩
theorem Vals.set {x : V} {u : Value} (r : RelV x u) : ∀ {xs : List V} {us : List Value} (i : Nat),Vals xs us->Vals (xs.set i x) (us.set i u)
 | _,_,_,.nil=>.nil
 | _,_,0,.cons _ t=>.cons r t
 | _,_,i + 1,.cons q t=>.cons q (Vals.set r i t)
theorem Vals.append : ∀ {xs ys : List V} {us ws : List Value},Vals xs us->Vals ys ws->Vals (xs ++ ys) (us ++ ws)
 | _,_,_,_,.nil,s=>s
 | _,_,_,_,.cons r t,s=>.cons r (Vals.append t s)
theorem Vals.take : ∀ {xs : List V} {us : List Value} (n : Nat),Vals xs us->Vals (xs.take n) (us.take n)
 | _,_,0,_=>.nil
 | _,_,_ + 1,.nil=>.nil
 | _,_,n + 1,.cons r t=>.cons r (Vals.take n t)
theorem Vals.drop : ∀ {xs : List V} {us : List Value} (n : Nat),Vals xs us->Vals (xs.drop n) (us.drop n)
 | _,_,0,r=>r
 | _,_,_ + 1,.nil=>.nil
 | _,_,n + 1,.cons _ t=>Vals.drop n t
def RelO : Option V->Option Value->Prop
 | some v,some u=>RelV v u
 | none,none=>True
 | _,_=>False
def KV {κ : Type} : List (κ × V)->List (κ × Value)->Prop:=Paired fun (p : κ × V) (q : κ × Value)=>p.1 = q.1/\RelV p.2 q.2
def kV : Key->V
 | .inl i=>.int i
 | .inr x=>.str x
inductive HO where
  | lst (xs : List V)
  | tup (xs : List V)
  | dK (kvs : List (Key × V)) | dT (kvs : List (List Key × V))
  | set (S : Int->Bool) (n : Nat)
  | ins (C dx : Addr) (fs : List (Str × V))
  | own (x : Addr)
  | xd (fs : List (Str × V))
  | met (f x : Addr)
  | rng (lo hi : Int)
  | frz (o : Obj) (u : HO)
  | tbl (ps : Array Value)
  | ext (φ : Heap->Prop)
abbrev Hp:=Addr->Option HO
def upd (H : Hp) (a : Addr) (o : HO) : Hp:=fun b=>if b = a then some o else H b
theorem upd_same {H : Hp} {a : Addr} {o : HO} : upd H a o a = some o:=by unfold upd; rw [if_pos rfl]
theorem upd_ne {H : Hp} {a b : Addr} {o : HO} (h : b ≠ a) : upd H a o b = H b:=by unfold upd; rw [if_neg h]
theorem ne_of {H : Hp} {a b : Addr} {o u : HO} (h : H a = some o) (h' : H b = some u) (d : o ≠ u) : a ≠ b:=by
 intro e; subst e; rw [h] at h'; exact d (Option.some.inj h')
theorem ne_of_none {H : Hp} {a b : Addr} {o : HO} (h : H a = some o) (h' : H b = none) : a ≠ b:=by
 intro e; subst e; rw [h] at h'; cases h'
section
variable (P : Program) (w : World)
def ObjOk (H : Hp) (h : Heap) (a : Addr) : HO->Prop
 | .lst xs=>xs.length <= sizeLine/\∃ (its : List Value) (n : Nat),Vals xs its/\h.get? a = some { cls:=.type "list",data:=.seq its.toArray n }
 | .tup xs=>xs.length <= sizeLine/\∃ its : List Value,Vals xs its/\IsTup h a its.toArray
 | .dK kvs=>kvs.length <= sizeLine/\(a == sysModules) = false/\∃ vs,KV kvs vs/\h.DictOf (mixKind P w) a vs
 | .dT kvs=>kvs.length <= sizeLine/\(a == sysModules) = false/\∃ xs : List (List Key × Addr × Value),
   Paired (fun (p : List Key × V) (q : List Key × Addr × Value)=>p.1 = q.1/\H q.2.1 = some (.tup (p.1.map kV))/\RelV p.2 q.2.2) kvs xs /\
   ∃ o es ep,h.get? a = some o/\o.ExactDict/\o.data = .dict es ep/\es.toList = xs.map (entryOfKey (tupleKind (mixKind P w)))/\(xs.map (·.1)).Nodup
 | .set S n=>h.SetOf (intKind P w) a S n
 | .ins C dx fs=>H dx = some (.own a)/\fs.length <= 1000/\dx ≠ a/\h.get? a = some (PySem.W.instObj C dx) /\
   ∃ mA,h.Ns1 dx mA/\(∀ f,RelO (fs.lookup f) (mA f))/\PySem.Within mA (fs.map (·.1))
 | .own _=>∃ o,h.get? a = some o
 | .xd fs=>∃ mA,h.Ns1 a mA/\∀ f,RelO (fs.lookup f) (mA f)
 | .rng lo hi=>∃ t u v,h.get? a = some { cls:=.type "range",data:=.fields #[.int lo t,.int hi u,.int 1 v] }
 | .frz o u=>h.get? a = some o/\ObjOk H h a u
 | .tbl ps=>h.get? a = some { cls:=.none,data:=.fields ps }
 | .met f x=>h.get? a = some (PySem.W.methodObj (.ref f) (.ref x))
 | .ext φ=>φ h/\(∃ o,h.get? a = some o)/\∀ h1 h2 : Heap,φ h1->(∀ o,h1.get? a = some o->h2.get? a = some o)->φ h2
def HOk (H : Hp) (h : Heap) : Prop:=∀ a o,H a = some o->ObjOk P w H h a o
end
section
variable {P : Program} {w : World} {H H' : Hp} {h h' : Heap} {a : Addr} {o : HO}
theorem ObjOk.lt (x : ObjOk P w H h a o) : a < h.objs.size:=by
 cases o with
 | lst xs=>obtain ⟨_,_,_,_,e⟩:=x; exact Heap.lt_size e
 | tup xs=>obtain ⟨_,_,_,p⟩:=x; exact p.lt
 | dK kvs=>obtain ⟨_,_,_,_,o,_,_,e,_⟩:=x; exact Heap.lt_size e
 | dT kvs=>obtain ⟨_,_,_,_,o,_,_,e,_⟩:=x; exact Heap.lt_size e
 | set S n=>obtain ⟨o,_,_,_,e,_⟩:=x; exact Heap.lt_size e
 | ins C dx fs=>obtain ⟨_,_,_,e,_⟩:=x; exact Heap.lt_size e
 | own y=>obtain ⟨_,e⟩:=x; exact Heap.lt_size e
 | xd fs=>obtain ⟨_,⟨_,_,_,e,_⟩,_⟩:=x; exact Heap.lt_size e
 | rng lo hi=>obtain ⟨_,_,_,e⟩:=x; exact Heap.lt_size e
 | frz ob u=>obtain ⟨e,_⟩:=x; exact Heap.lt_size e
 | tbl ps=>exact Heap.lt_size (show h.get? a = some _ from x)
 | met f y=>exact Heap.lt_size (show h.get? a = some _ from x)
 | ext φ=>obtain ⟨_,⟨_,e⟩,_⟩:=x; exact Heap.lt_size e
theorem Paired.mapP {α β : Type} {F G : α->β->Prop} : ∀ {l₁ : List α} {l₂ : List β},Paired F l₁ l₂->(∀ a b,F a b->G a b)->Paired G l₁ l₂
 | _,_,.nil,_=>.nil
 | _,_,.cons r t,f=>.cons (f _ _ r) (Paired.mapP t f)
theorem ObjOk.stay (x : ObjOk P w H h a o) (k : ∀ b u,(b = a \/ H b = some (.own a))->h.get? b = some u->h'.get? b = some u)
  (ho : ∀ b,H b = some (.own a)->H' b = some (.own a)) (ht : ∀ b xs,H b = some (.tup xs)->H' b = some (.tup xs)) : ObjOk P w H' h' a o:=by
 induction o with
 | lst xs=>obtain ⟨z,its,n,r,e⟩:=x; exact ⟨z,its,n,r,k _ _ (.inl rfl) e⟩
 | tup xs=>obtain ⟨z,its,r,ob,e,c⟩:=x; exact ⟨z,its,r,ob,k _ _ (.inl rfl) e,c⟩
 | dK kvs=>obtain ⟨z,y,vs,r,ob,es,ep,e,c⟩:=x; exact ⟨z,y,vs,r,ob,es,ep,k _ _ (.inl rfl) e,c⟩
 | dT kvs =>
  obtain ⟨z,y,xs,r,ob,es,ep,e,c⟩:=x
  exact ⟨z,y,xs,Paired.mapP r fun p q z=>⟨z.1,ht _ _ z.2.1,z.2.2⟩,ob,es,ep,k _ _ (.inl rfl) e,c⟩
 | set S n=>obtain ⟨ob,es,ep,t,e,c⟩:=x; exact ⟨ob,es,ep,t,k _ _ (.inl rfl) e,c⟩
 | ins C dx fs =>
  obtain ⟨d,z,ne,e,mA,⟨od,es,ep,e2,c⟩,r⟩:=x
  exact ⟨ho _ d,z,ne,k _ _ (.inl rfl) e,mA,⟨od,es,ep,k _ _ (.inr d) e2,c⟩,r⟩
 | own y=>obtain ⟨ob,e⟩:=x; exact ⟨ob,k _ _ (.inl rfl) e⟩
 | xd fs=>obtain ⟨mA,⟨od,es,ep,e,c⟩,r⟩:=x; exact ⟨mA,⟨od,es,ep,k _ _ (.inl rfl) e,c⟩,r⟩
 | rng lo hi=>obtain ⟨t,u,v,e⟩:=x; exact ⟨t,u,v,k _ _ (.inl rfl) e⟩
 | frz ob u ih=>obtain ⟨e,q⟩:=x; exact ⟨k _ _ (.inl rfl) e,ih q⟩
 | tbl ps =>
  have e : h.get? a = some { cls:=.none,data:=.fields ps }:=x
  show h'.get? a = some { cls:=.none,data:=.fields ps }
  exact k a _ (.inl rfl) e
 | met f y =>
  have e : h.get? a = some (PySem.W.methodObj (.ref f) (.ref y)):=x
  show h'.get? a = some (PySem.W.methodObj (.ref f) (.ref y))
  exact k a _ (.inl rfl) e
 | ext φ=>obtain ⟨p,⟨o,e⟩,st⟩:=x; exact ⟨st _ _ p fun o q=>k _ _ (.inl rfl) q,⟨o,k _ _ (.inl rfl) e⟩,st⟩
theorem HOk.lt (x : HOk P w H h) (e : H a = some o) : a < h.objs.size:=(x a o e).lt
theorem HOk.fresh (x : HOk P w H h) (e : h.objs.size <= a) : H a = none:=by
 cases q : H a with
 | none=>rfl
 | some u=>exact absurd (Nat.lt_of_lt_of_le (x.lt q) e) (Nat.lt_irrefl _)
theorem HOk.kept (x : HOk P w H h) (k : ∀ b u,h.get? b = some u->h'.get? b = some u) : HOk P w H h':=fun a o e =>
 (x a o e).stay (fun b u _ q=>k b u q) (fun _ q=>q) fun _ _ q=>q
theorem HOk.laid (x : HOk P w H h) (k : ∀ b u,h.get? b = some u->h'.get? b = some u) (hp : h.objs.size <= a) (new : ObjOk P w (upd H a o) h' a o) : HOk P w (upd H a o) h':=fun b u e=>by
 have hn:=x.fresh hp
 by_cases hb : b = a
 ·subst hb; rw [upd_same] at e; cases e; exact new
 ·rw [upd_ne hb] at e
  exact (x b u e).stay (fun c v _ q=>k c v q) (fun c q=>by rw [upd_ne (ne_of_none q hn)]; exact q) fun c xs q=>by rw [upd_ne (ne_of_none q hn)]; exact q
end
def Rd (H : Hp) (a : Addr) (u : HO) : Prop:=H a = some u \/ ∃ o,H a = some (.frz o u)
theorem Rd.ok {P : Program} {w : World} {H : Hp} {h : Heap} {a : Addr} {u : HO} (r : Rd H a u) (x : HOk P w H h) : ObjOk P w H h a u:=by
 rcases r with r | ⟨o,r⟩
 ·exact x a u r
 ·obtain ⟨_,q⟩:=x a _ r
  exact q
def Mut : Option HO->Prop
 | some (.lst _)=>True
 | some (.dK _)=>True
 | some (.dT _)=>True
 | some (.set _ _)=>True
 | some (.ins _ _ _)=>True
 | some (.ext _)=>True
 | _=>False
section
variable {P : Program} {w : World} {H : Hp} {h h' : Heap} {x e : Addr} {o' : HO}
theorem HOk.write (ok : HOk P w H h) (mu : Mut (H x)) (he : e = x \/ H e = some (.own x)) (k : ∀ b u,b ≠ e->h.get? b = some u->h'.get? b = some u) (heo : ∃ u,h'.get? e = some u)
  (new : ObjOk P w (upd H x o') h' x o') : HOk P w (upd H x o') h':=fun b u q=>by
 have nown : ∀ c y,H c = some (.own y)->c ≠ x:=fun c y r z=>by subst z; rw [r] at mu; exact mu
 have ntup : ∀ c xs,H c = some (.tup xs)->c ≠ x:=fun c xs r z=>by subst z; rw [r] at mu; exact mu
 by_cases hb : b = x
 ·subst hb; rw [upd_same] at q; cases q; exact new
 ·rw [upd_ne hb] at q
  by_cases hbe : b = e
  ·have q' : H b = some (.own x):=by
    rcases he with z | z
    ·exact absurd (hbe.trans z) hb
    ·rw [hbe]; exact z
   rw [q] at q'; cases q'
   obtain ⟨v,hv⟩:=heo
   exact ⟨v,by rw [hbe]; exact hv⟩
  ·refine (ok b u q).stay (fun c v hc r=>k c v ?_ r) (fun c r=>by rw [upd_ne (nown c b r)]; exact r) fun c xs r=>by rw [upd_ne (ntup c xs r)]; exact r
   rcases hc with rfl | hc
   ·exact hbe
   ·rintro rfl
    rcases he with z | z
    ·exact nown c b hc z
    ·rw [hc] at z; cases z; exact hb rfl
end
structure Un (fs ex : List Addr) (H H' : Hp) (h h' : Heap) : Prop where
 keep : ∀ b o,h.get? b = some o->H b = none->b ∉ fs->b ∉ ex->h'.get? b = some o
 slot : ∀ b o,h.get? b = some o->H b = none->b ∈ fs->b ∉ ex->∃ sl,h'.get? b = some { o with slots:=sl }
 free : ∀ b o,h.get? b = some o->H b = none->b ∉ ex->H' b = none
 there : ∀ b o,h.get? b = some o->b ∉ ex->∃ o',h'.get? b = some o'
 tups : ∀ b xs,H b = some (.tup xs)->H' b = some (.tup xs)
 frzs : ∀ b o u,H b = some (.frz o u)->H' b = some (.frz o u)
 tbls : ∀ b ps,H b = some (.tbl ps)->∃ more,H' b = some (.tbl (ps ++ more))
section
variable {fs fs' ex ex' : List Addr} {H H1 H2 : Hp} {h h1 h2 h' : Heap} {a x e : Addr} {o : HO}
theorem Un.any (u : Un fs ex H H1 h h1) {b : Addr} {ob : Obj} (q : h.get? b = some ob) (n : H b = none) (hx : b ∉ ex) : ∃ sl,h1.get? b = some { ob with slots:=sl }:=by
 by_cases hb : b ∈ fs
 ·exact u.slot b ob q n hb hx
 ·exact ⟨ob.slots,u.keep b ob q n hb hx⟩
theorem Un.kept (k : ∀ b u,h.get? b = some u->h'.get? b = some u) : Un fs ex H H h h' :=
 ⟨fun b ob q _ _ _=>k b ob q,fun b ob q _ _ _=>⟨ob.slots,k b ob q⟩,fun _ _ _ n _=>n,fun b ob q _=>⟨ob,k b ob q⟩,fun _ _ q=>q,fun _ _ _ q=>q,fun _ ps q=>⟨#[],by rw [q]; simp⟩⟩
theorem Un.refl : Un fs ex H H h h:=Un.kept fun _ _ q=>q
theorem Un.laid (k : ∀ b u,h.get? b = some u->h'.get? b = some u) (hp : h.objs.size <= a) (hn : H a = none) : Un fs ex H (upd H a o) h h' where
 keep:=fun b u q _ _ _=>k b u q
 slot:=fun b u q _ _ _=>⟨u.slots,k b u q⟩
 free:=fun b u q n _=>by rw [upd_ne (Nat.ne_of_lt (Nat.lt_of_lt_of_le (Heap.lt_size q) hp))]; exact n
 there:=fun b u q _=>⟨u,k b u q⟩
 tups:=fun b xs q=>by rw [upd_ne (ne_of_none q hn)]; exact q
 frzs:=fun b u xs q=>by rw [upd_ne (ne_of_none q hn)]; exact q
 tbls:=fun b ps q=>⟨#[],by rw [upd_ne (ne_of_none q hn),q]; simp⟩
theorem Un.write (mu : Mut (H x)) (he : e = x \/ H e = some (.own x)) (k : ∀ b u,b ≠ e->h.get? b = some u->h'.get? b = some u) (heo : ∃ u,h'.get? e = some u) : Un fs ex H (upd H x o) h h':=by
 have hx : ∀ b,H b = none->b ≠ x:=fun b n z=>by subst z; rw [n] at mu; exact mu
 have hb : ∀ b,H b = none->b ≠ e:=fun b n z=>by
  subst z
  rcases he with r | r
  ·exact hx b n r
  ·rw [n] at r; cases r
 have hm : ∀ b u,H b = some u->¬ Mut (some u)->b ≠ x:=fun b u q nm z=>by subst z; rw [q] at mu; exact nm mu
 refine ⟨fun b u q n _ _=>k b u (hb b n) q,fun b u q n _ _=>⟨u.slots,k b u (hb b n) q⟩,fun b u q n _=>by rw [upd_ne (hx b n)]; exact n,fun b u q _=>?_,
  fun b xs q=>by rw [upd_ne (hm b _ q fun z=>z)]; exact q,fun b u xs q=>by rw [upd_ne (hm b _ q fun z=>z)]; exact q,fun b ps q=>⟨#[],by rw [upd_ne (hm b _ q fun z=>z),q]; simp⟩⟩
 by_cases hbe : b = e
 ·subst hbe; exact heo
 ·exact ⟨u,k b u hbe q⟩
end
def trk (h : Heap) (H : Hp) : List Addr:=(List.range h.objs.size).filter fun a=>(H a).isSome
def hidT (h : Heap) (H : Hp) : Heap:=PySem.W.hideAll h (trk h H)
theorem hidT_size (h : Heap) (H : Hp) : (hidT h H).objs.size = h.objs.size:=PySem.W.hideAll_size _ _
theorem hidT_get {h : Heap} {H : Hp} {b : Addr} {o : Obj} (e : h.get? b = some o) (n : H b = none) : (hidT h H).get? b = some o :=
 PySem.W.hideAll_get _ e fun hm=>by
  have q : (H b).isSome = true:=(List.mem_filter.mp hm).2
  rw [n] at q; simp at q
theorem of_hidT {h : Heap} {H : Hp} {b : Addr} {o : Obj} (e : (hidT h H).get? b = some o) : h.get? b = some o/\H b = none:=by
 have e' : h.get? b = some o:=PySem.W.of_hideAll (trk h H) e
 refine ⟨e',?_⟩
 cases q : H b with
 | none=>rfl
 | some x =>
  have hm : b ∈ trk h H:=List.mem_filter.mpr ⟨List.mem_range.mpr (Heap.lt_size e'),by simp [q]⟩
  have z : (hidT h H).get? b = none:=PySem.W.hideAll_none (trk h H) hm
  rw [z] at e; cases e
def allNews (g h : Heap) (L : Addr) : List (Addr × Obj):=(List.range h.objs.size).filterMap fun a=>if a = L \/ (g.get? a).isSome = true then none else (h.get? a).map fun o=>(a,o)
def rest (g h : Heap) (L d : Addr) : List (Addr × Obj):=(allNews g h L).filter fun p=>decide (p.1 ≠ d)
end L2
namespace L2
open PySem PySem.Spec PyProof.Rows
structure Mod (K : PySem.W.Frag) (mg : Str->Option Value) (base : Heap) : Prop where
 kin : K.In base
 glob : base.Ns mainGlobals mg
 blt : ∃ mb,base.Ns builtinsNs mb/\∀ x : Str,x ≠ "__name__"->mb x = bootBuiltins x
 nolimit : base.NoLimit
structure Cx where
 prog : Program
 w : World
 K : PySem.W.Frag
 mg : Str->Option Value
 base : Heap
 A : Around
 N : List Str
 s₀ : Shared
 H₀ : Hp
 env : Env
 outer : List Env
 stack : List Env
 ex : List Addr
 fn : Str->Bool
 calm : Bool
 pn : List (Addr × Obj)
 xe : Value->Shared->Prop
def frs (l : List Env) : List Addr:=l.filterMap (·.frame)
abbrev Cx.fs (X : Cx) : List Addr:=frs X.outer
def Vis (sc : Scope) (x : Str) : Prop:=sc.names.lookup x = some .local \/ sc.names.lookup x = some .cell \/ sc.names.lookup x = some .free
def Loc (sc : Scope) (x : Str) : Prop:=sc.names.lookup x = some .local \/ sc.names.lookup x = some .cell
def Look (env : Env) (h : Heap) (m : Str->Option Value) (x : Str) (u : Value) : Prop :=
 (env.kindOf x = some .local/\m x = some u) \/ ((env.kindOf x = some .cell \/ env.kindOf x = some .free)/\∃ c,env.cells.lookup x = some c/\h.IsCell c (some u))
structure Cx.Ok (X : Cx) : Prop where
 mod : Mod X.K X.mg X.base
 kind : X.env.scope.kind = .function
 glob : X.env.globals = mainGlobals
 blt : X.env.builtins = builtinsNs
 above : X.s₀.heap.objs.size <= X.env.locals
 inj : ∀ x y c,X.env.cells.lookup x = some c->X.env.cells.lookup y = some c->x = y
 has : ∀ x,(X.env.kindOf x = some .cell \/ X.env.kindOf x = some .free)->∃ c,X.env.cells.lookup x = some c
 cab : ∀ x c,X.fn x = true->X.env.cells.lookup x = some c->X.s₀.heap.objs.size <= c
 hd : X.calm = true->X.A.handled = none
 frames : X.A.frames = some X.stack
 stk : X.stack = X.outer \/ (X.stack = X.env :: X.outer/\X.env.frame = some X.env.locals)
 exf : ∀ b ∈ X.ex,b ≠ X.env.locals/\∀ x c,X.env.cells.lookup x = some c->c ≠ b
 bs : ∀ b o,X.base.get? b = some o->X.s₀.heap.get? b = some o/\X.H₀ b = none
 bsz : X.base.objs.size <= X.s₀.heap.objs.size
 noex : ∀ b o,X.base.get? b = some o->b ∉ X.ex
 exfs : ∀ b ∈ X.ex,b ∉ X.fs
 funs : X.s₀.heap.FunFrames X.base X.outer
 frf : ∀ b ∈ X.fs,X.H₀ b = none
structure Inv (X : Cx) (pins : List (Addr × Obj)) (σ : List (Option V)) (H : Hp) (s : Shared) : Prop where
 ok : X.Ok
 os : s.os = X.s₀.os
 bare : AllBare s.gens
 base : Un X.fs X.ex X.H₀ H X.s₀.heap s.heap
 loc : ∃ m,s.heap.Ns X.env.locals m/\∀ (i : Nat) (x : Str) (v : V),X.N[i]? = some x->σ[i]? = some (some v)->Vis X.env.scope x->∃ u,RelV v u/\Look X.env s.heap m x u
 cell : ∀ x c,X.env.cells.lookup x = some c->∃ v,s.heap.IsCell c v
 free : H X.env.locals = none
 freeC : ∀ x c,X.env.cells.lookup x = some c->H c = none
 pin : ∀ p ∈ X.pn ++ pins,s.heap.get? p.1 = some p.2/\H p.1 = none/\p.1 ≠ X.env.locals/\p.1 ∉ X.fs/\∀ v,p.2.data ≠ .cell v
 hok : HOk X.prog X.w H s.heap
 len : σ.length = X.N.length
section
variable {X : Cx} {pins : List (Addr × Obj)} {σ : List (Option V)} {H H' : Hp} {s : Shared} {h' : Heap}
theorem Cx.Ok.nofr (ok : X.Ok) {b : Addr} {o : Obj} (e : X.base.get? b = some o) : b ∉ X.fs:=fun hb=>by
 have:=(ok.funs.mem hb).1
 rw [e] at this; cases this
theorem Inv.bs (I : Inv X pins σ H s) : ∀ b o,X.base.get? b = some o->s.heap.get? b = some o/\H b = none:=fun b o e =>
 ⟨I.base.keep b o (I.ok.bs b o e).1 (I.ok.bs b o e).2 (I.ok.nofr e) (I.ok.noex b o e),I.base.free b o (I.ok.bs b o e).1 (I.ok.bs b o e).2 (I.ok.noex b o e)⟩
theorem Inv.bk (I : Inv X pins σ H s) : ∀ b o,X.base.get? b = some o->s.heap.get? b = some o:=fun b o e=>(I.bs b o e).1
theorem Inv.mod (I : Inv X pins σ H s) : Mod X.K X.mg X.base:=I.ok.mod
theorem Inv.kIn (I : Inv X pins σ H s) : X.K.In s.heap:=I.ok.mod.kin.keeps I.bk
theorem Inv.lt (I : Inv X pins σ H s) : X.env.locals < s.heap.objs.size:=let ⟨_,hn,_⟩:=I.loc; hn.lt
theorem Inv.sz (I : Inv X pins σ H s) : X.s₀.heap.objs.size <= s.heap.objs.size:=Nat.le_trans I.ok.above (Nat.le_of_lt I.lt)
theorem Inv.nofs (I : Inv X pins σ H s) {a : Addr} (h : s.heap.objs.size <= a) : a ∉ X.fs:=fun hb=>by
 obtain ⟨_,o,ho,_⟩:=I.ok.funs.mem hb
 exact absurd (Nat.lt_of_lt_of_le (Heap.lt_size ho) (Nat.le_trans I.sz h)) (Nat.lt_irrefl _)
theorem Inv.cne (I : Inv X pins σ H s) : ∀ x c,X.env.cells.lookup x = some c->c ≠ X.env.locals:=fun x c e z=>by
 obtain ⟨v,o,ho,hd⟩:=I.cell x c e
 obtain ⟨m,⟨o',es,ep,ho',hd',_⟩,_⟩:=I.loc
 rw [z,ho'] at ho; cases ho; rw [hd'] at hd; cases hd
theorem Inv.funs (I : Inv X pins σ H s) : s.heap.FunFrames X.base X.outer:=by
 have all : ∀ (l : List Env),(∀ b ∈ frs l,b ∈ X.fs)->X.s₀.heap.FunFrames X.base l->s.heap.FunFrames X.base l:=by
  intro l
  induction l with
  | nil=>intro _ _; trivial
  | cons env r ih =>
   intro hs hl
   obtain ⟨hk,⟨L,o,hf,hn,ho,hd⟩,hr⟩:=hl
   have hL : L ∈ X.fs:=hs L (by unfold frs; rw [List.filterMap_cons,hf]; exact List.mem_cons_self)
   obtain ⟨sl,e⟩:=I.base.slot L o ho (I.ok.frf L hL) hL fun z=>I.ok.exfs L z hL
   exact ⟨hk,⟨L,_,hf,hn,e,hd⟩,ih (fun b hb=>hs b (by unfold frs; rw [List.filterMap_cons,hf]; exact List.mem_cons_of_mem _ hb)) hr⟩
 exact all X.outer (fun _ hb=>hb) I.ok.funs
theorem Inv.stack (I : Inv X pins σ H s) : s.heap.FunFrames X.base X.stack:=by
 rcases I.ok.stk with e | ⟨e,hf⟩
 ·rw [e]; exact I.funs
 ·rw [e]
  obtain ⟨m,hn,_⟩:=I.loc
  refine .cons (by rw [I.ok.kind]; decide) hf hn ?_ I.funs
  exact Heap.get?_none_of_le (Nat.le_trans I.ok.bsz I.ok.above)
theorem Inv.stkSub (I : Inv X pins σ H s) : ∀ b ∈ frs X.stack,b ∈ X.env.locals :: X.fs:=fun b hb=>by
 rcases I.ok.stk with e | ⟨e,hf⟩
 ·rw [e] at hb; exact List.mem_cons_of_mem _ hb
 ·rw [e] at hb
  unfold frs at hb
  rw [List.filterMap_cons,hf] at hb
  exact hb
theorem Inv.stkFree (I : Inv X pins σ H s) : ∀ b ∈ frs X.stack,H b = none:=fun b hb=>by
 rcases List.mem_cons.mp (I.stkSub b hb) with e | hb
 ·rw [e]; exact I.free
 ·obtain ⟨_,o,ho,_⟩:=I.ok.funs.mem hb
  exact I.base.free b o ho (I.ok.frf b hb) fun z=>I.ok.exfs b z hb
/-- THE STEP: the untracked objects but the frame and the records at ch are kept (the callers' frames up to slots),the frame's map is kept,the new abstract heap is held -/
theorem Inv.step {g' : Array GenState} {t' : Nat} {d' : Drawn} {ch : List Addr} (I : Inv X pins σ H s)
  (hch : ∀ b ∈ ch,(b ∈ X.ex \/ X.s₀.heap.objs.size <= b)/\b ≠ X.env.locals/\(∀ x c,X.env.cells.lookup x = some c->c ≠ b)/\∀ p ∈ X.pn ++ pins,p.1 ≠ b)
  (keep : ∀ b o,b ≠ X.env.locals->b ∉ X.fs->b ∉ ch->s.heap.get? b = some o->H b = none->h'.get? b = some o)
  (slot : ∀ b o,b ≠ X.env.locals->b ∈ X.fs->b ∉ ch->s.heap.get? b = some o->H b = none->∃ sl,h'.get? b = some { o with slots:=sl }) (free : ∀ b o,b ∉ ch->s.heap.get? b = some o->H b = none->H' b = none)
  (there : ∀ b o,b ∉ ch->s.heap.get? b = some o->∃ o',h'.get? b = some o')
  (tups : ∀ b xs,H b = some (.tup xs)->H' b = some (.tup xs)) (frzs : ∀ b o u,H b = some (.frz o u)->H' b = some (.frz o u)) (tbls : ∀ b ps,H b = some (.tbl ps)->∃ more,H' b = some (.tbl (ps ++ more)))
  (ns : ∀ m,s.heap.Ns X.env.locals m->h'.Ns X.env.locals m) (hok : HOk X.prog X.w H' h') (hg : AllBare g') :
  Inv X pins σ H' { s with heap:=h',gens:=g',drawn:=d',toks:=t' }:=by
 have neL : ∀ b o,X.s₀.heap.get? b = some o->b ≠ X.env.locals:=fun b o e=>Nat.ne_of_lt (Nat.lt_of_lt_of_le (Heap.lt_size e) I.ok.above)
 have neC : ∀ b o,X.s₀.heap.get? b = some o->b ∉ X.ex->b ∉ ch:=fun b o e hx hb=>by
  rcases (hch b hb).1 with z | z
  ·exact hx z
  ·exact absurd (Nat.lt_of_lt_of_le (Heap.lt_size e) z) (Nat.lt_irrefl _)
 have cellK : ∀ x c,X.env.cells.lookup x = some c->∀ v,s.heap.IsCell c v->h'.IsCell c v:=fun x c e v ⟨o,ho,hd⟩=>by
  have nch : c ∉ ch:=fun z=>(hch c z).2.2.1 x c e rfl
  by_cases hc : c ∈ X.fs
  ·obtain ⟨sl,q⟩:=slot c o (I.cne x c e) hc nch ho (I.freeC x c e)
   exact ⟨_,q,hd⟩
  ·exact ⟨o,keep c o (I.cne x c e) hc nch ho (I.freeC x c e),hd⟩
 refine ⟨I.ok,I.os,hg,⟨fun b o e n hb hx=>?_,fun b o e n hb hx=>?_,fun b o e n hx=>?_,fun b o e hx=>?_,fun b xs e=>tups b xs (I.base.tups b xs e),fun b o xs e=>frzs b o xs (I.base.frzs b o xs e),fun b ps e=>?_⟩,?_,fun x c e=>?_,?_,fun x c e=>?_,fun p hp=>?_,hok,I.len⟩
 ·exact keep b o (neL b o e) hb (neC b o e hx) (I.base.keep b o e n hb hx) (I.base.free b o e n hx)
 ·obtain ⟨sl,e1⟩:=I.base.slot b o e n hb hx
  obtain ⟨sl',e2⟩:=slot b _ (neL b o e) hb (neC b o e hx) e1 (I.base.free b o e n hx)
  exact ⟨sl',e2⟩
 ·obtain ⟨o',e1⟩:=I.base.there b o e hx
  exact free b o' (neC b o e hx) e1 (I.base.free b o e n hx)
 ·obtain ⟨o',e1⟩:=I.base.there b o e hx
  exact there b o' (neC b o e hx) e1
 ·obtain ⟨m1,e1⟩:=I.base.tbls b ps e
  obtain ⟨m2,e2⟩:=tbls b _ e1
  exact ⟨m1 ++ m2,by rw [e2,Array.append_assoc]⟩
 ·obtain ⟨m,hn,hl⟩:=I.loc
  refine ⟨m,ns m hn,fun i x v e1 e2 e3=>?_⟩
  obtain ⟨u,r,l⟩:=hl i x v e1 e2 e3
  refine ⟨u,r,?_⟩
  rcases l with l | ⟨k,c,e,z⟩
  ·exact .inl l
  ·exact .inr ⟨k,c,e,cellK x c e _ z⟩
 ·obtain ⟨v,z⟩:=I.cell x c e
  exact ⟨v,cellK x c e v z⟩
 ·obtain ⟨m,⟨o,_,_,ho,_⟩,_⟩:=I.loc
  exact free _ o (fun z=>(hch _ z).2.1 rfl) ho I.free
 ·obtain ⟨v,o,ho,hd⟩:=I.cell x c e
  exact free c o (fun z=>(hch c z).2.2.1 x c e rfl) ho (I.freeC x c e)
 ·obtain ⟨e,n,ne,nf,d⟩:=I.pin p hp
  have nch : p.1 ∉ ch:=fun z=>(hch p.1 z).2.2.2 p hp rfl
  exact ⟨keep p.1 p.2 ne nf nch e n,free p.1 p.2 nch e n,ne,nf,d⟩
theorem Inv.un {t' : Nat} (I : Inv X pins σ H s) (u : Un X.fs [] H H' s.heap h') (hok : HOk X.prog X.w H' h') : Inv X pins σ H' { s with heap:=h',toks:=t' }:=by
 obtain ⟨m,⟨o,es,ep,ho,r⟩,_⟩:=id I.loc
 obtain ⟨sl,hL⟩:=u.any ho I.free (by simp)
 exact I.step (g':=s.gens) (d':=s.drawn) (ch:=[]) (fun _ z=>nomatch z) (fun b o _ hb _ e n=>u.keep b o e n hb (by simp)) (fun b o _ hb _ e n=>u.slot b o e n hb (by simp)) (fun b o _ e n=>u.free b o e n (by simp)) (fun b o _ e=>u.there b o e (by simp)) u.tups u.frzs u.tbls (fun m' hm=>by
  obtain ⟨o',es',ep',ho',r'⟩:=hm
  rw [ho] at ho'; cases ho'
  exact ⟨_,es',ep',hL,r'⟩) hok I.bare
theorem Inv.call {g' : Array GenState} {t' : Nat} {d' : Drawn} {ch : List Addr} (I : Inv X pins σ H s) (u : Un (frs X.stack) ch H H' s.heap h') (hok : HOk X.prog X.w H' h') (hg : AllBare g')
  (hch : ∀ b ∈ ch,(b ∈ X.ex \/ X.s₀.heap.objs.size <= b)/\b ≠ X.env.locals/\(∀ x c,X.env.cells.lookup x = some c->c ≠ b)/\∀ p ∈ X.pn ++ pins,p.1 ≠ b) :
  Inv X pins σ H' { s with heap:=h',gens:=g',drawn:=d',toks:=t' }:=by
 obtain ⟨m,⟨o,es,ep,ho,r⟩,_⟩:=id I.loc
 obtain ⟨sl,hL⟩:=u.any ho I.free fun z=>(hch _ z).2.1 rfl
 exact I.step (ch:=ch) hch (fun b o hL hb hc e n=>u.keep b o e n (fun z=>(List.mem_cons.mp (I.stkSub b z)).elim hL hb) hc) (fun b o _ _ hc e n=>u.any e n hc) (fun b o hc e n=>u.free b o e n hc) (fun b o hc e=>u.there b o e hc) u.tups u.frzs u.tbls (fun m' hm=>by
  obtain ⟨o',es',ep',ho',r'⟩:=hm
  rw [ho] at ho'; cases ho'
  exact ⟨_,es',ep',hL,r'⟩) hok hg
theorem Inv.turned {t' : Nat} {it : Addr} (I : Inv X pins σ H s) (k : ∀ b o,b ≠ it->s.heap.get? b = some o->h'.get? b = some o) (hn : H it = none) (hL : it ≠ X.env.locals)
  (h1 : it ∈ X.ex \/ X.s₀.heap.objs.size <= it) (h2 : ∀ x c,X.env.cells.lookup x = some c->c ≠ it) (h3 : ∀ p ∈ X.pn ++ pins,p.1 ≠ it) : Inv X pins σ H { s with heap:=h',toks:=t' }:=by
 have nit : ∀ b u,H b = some u->b ≠ it:=fun b u e z=>by rw [z,hn] at e; cases e
 refine I.step (g':=s.gens) (d':=s.drawn) (ch:=[it]) (fun b hb=>?_) (fun b o _ _ hc e _=>k b o (fun z=>hc (by simp [z])) e) (fun b o _ _ hc e _=>⟨o.slots,k b o (fun z=>hc (by simp [z])) e⟩) (fun _ _ _ _ n=>n)
  (fun b o hc e=>⟨o,k b o (fun z=>hc (by simp [z])) e⟩) (fun _ _ e=>e) (fun _ _ _ e=>e) (fun b ps e=>⟨#[],by rw [e]; simp⟩) (fun m hm=>?_) (fun b u e=>?_) I.bare
 ·have e : b = it:=by simpa using hb
  subst e
  exact ⟨h1,hL,h2,h3⟩
 ·obtain ⟨o,es,ep,ho,r⟩:=hm
  exact ⟨o,es,ep,k _ o (Ne.symm hL) ho,r⟩
 ·refine (I.hok b u e).stay (fun c v hc q=>k c v ?_ q) (fun _ q=>q) fun _ _ q=>q
  rcases hc with z | z
  ·rw [z]; exact nit b u e
  ·exact nit c _ z
theorem Inv.tok (I : Inv X pins σ H s) (t : Nat) : Inv X pins σ H { s with toks:=t }:=I.un (h':=s.heap) (t':=t) Un.refl I.hok
theorem Inv.kept {t' : Nat} (I : Inv X pins σ H s) (k : ∀ b u,s.heap.get? b = some u->h'.get? b = some u) : Inv X pins σ H { s with heap:=h',toks:=t' }:=I.un (Un.kept k) (I.hok.kept k)
theorem Inv.laid {a : Addr} {o : HO} {t' : Nat} (I : Inv X pins σ H s) (k : ∀ b u,s.heap.get? b = some u->h'.get? b = some u) (hp : s.heap.objs.size <= a) (new : ObjOk X.prog X.w (upd H a o) h' a o) :
  Inv X pins σ (upd H a o) { s with heap:=h',toks:=t' }:=I.un (Un.laid k hp (I.hok.fresh hp)) (I.hok.laid k hp new)
theorem Inv.write {x e : Addr} {o : HO} {t' : Nat} (I : Inv X pins σ H s) (mu : Mut (H x)) (he : e = x \/ H e = some (.own x)) (k : ∀ b u,b ≠ e->s.heap.get? b = some u->h'.get? b = some u) (heo : ∃ u,h'.get? e = some u)
  (new : ObjOk X.prog X.w (upd H x o) h' x o) : Inv X pins σ (upd H x o) { s with heap:=h',toks:=t' }:=I.un (Un.write mu he k heo) (I.hok.write mu he k heo new)
theorem Inv.pins_of {pins' : List (Addr × Obj)} (I : Inv X pins σ H s) (h : ∀ p ∈ pins',s.heap.get? p.1 = some p.2/\H p.1 = none/\p.1 ≠ X.env.locals/\p.1 ∉ X.fs/\∀ v,p.2.data ≠ .cell v) : Inv X pins' σ H s :=
 ⟨I.ok,I.os,I.bare,I.base,I.loc,I.cell,I.free,I.freeC,fun p hp=>(List.mem_append.mp hp).elim (fun z=>I.pin p (List.mem_append_left _ z)) (h p),I.hok,I.len⟩
theorem nodup_ix {N : List Str} (hN : N.Nodup) {i j : Nat} {x : Str} (a : N[i]? = some x) (b : N[j]? = some x) : i = j:=by
 obtain ⟨h1,e1⟩:=List.getElem?_eq_some_iff.mp a
 obtain ⟨h2,e2⟩:=List.getElem?_eq_some_iff.mp b
 exact (List.getElem_inj hN).mp (e1.trans e2.symm)
theorem store_ok2 {M : Model} {A : Around} {E : Value->Shared->Prop} {i : Nat} {x : Str} {v : V} {u : Value} {Q : Unit->Shared->Prop} (I : Inv X pins σ H s) (hN : X.N.Nodup) (hi : X.N[i]? = some x) (hx : Loc X.env.scope x) (r : RelV v u)
  (h : ∀ s',Inv X pins (σ.set i (some v)) H s'->(∃ a,Heap.SameBut a s.heap s'.heap/\(a = X.env.locals \/ X.env.cells.lookup x = some a))->Q () s') (hf : X.fn x = true \/ X.env.scope.names.lookup x = some .local:=by first | exact .inl rfl | exact .inr rfl | assumption) : wpAny M A (storeName X.env x u) Q E s:=by
 obtain ⟨m,hn,hl⟩:=id I.loc
 have hcls : (X.env.scope.kind == .class || (X.env.scope.kind == .module && X.env.locals != X.env.globals)) = false:=by rw [I.ok.kind]; rfl
 have hiσ : i < σ.length:=by rw [I.len]; exact (List.getElem?_eq_some_iff.mp hi).1
 have cne:=I.cne
 have tracked : ∀ {a : Addr} {h' : Heap},(∃ o,s.heap.get? a = some o/\H a = none)->Heap.SameBut a s.heap h'->HOk X.prog X.w H h':=fun {a h'} ha hs b ob e=>by
  obtain ⟨_,_,hfree⟩:=ha
  refine (I.hok b ob e).stay (fun c w' hc q=>(hs.2 c ?_).trans q) (fun _ q=>q) fun _ _ q=>q
  rintro rfl
  rcases hc with rfl | hc
  ·rw [hfree] at e; cases e
  ·rw [hfree] at hc; cases hc
 rcases hx with hk | hk
 ·refine wpAny_storeName_local hk hn (fun h' hn' hs=>?_) hcls
  obtain ⟨oL,_,_,hoL,_⟩:=id hn
  refine h _ ⟨I.ok,I.os,I.bare,⟨fun b o e n hb hx=>?_,fun b o e n hb hx=>?_,I.base.free,fun b o e hx=>?_,I.base.tups,I.base.frzs,I.base.tbls⟩,⟨_,hn',fun j y v' e1 e2 e3=>?_⟩,fun y c e=>?_,I.free,I.freeC,fun p hp=>?_,tracked ⟨oL,hoL,I.free⟩ hs,by simpa using I.len⟩ ⟨_,hs,.inl rfl⟩
  ·exact (hs.2 b (Nat.ne_of_lt (Nat.lt_of_lt_of_le (Heap.lt_size e) I.ok.above))).trans (I.base.keep b o e n hb hx)
  ·obtain ⟨sl,e1⟩:=I.base.slot b o e n hb hx
   exact ⟨sl,(hs.2 b (Nat.ne_of_lt (Nat.lt_of_lt_of_le (Heap.lt_size e) I.ok.above))).trans e1⟩
  ·obtain ⟨o',e1⟩:=I.base.there b o e hx
   exact ⟨o',(hs.2 b (Nat.ne_of_lt (Nat.lt_of_lt_of_le (Heap.lt_size e) I.ok.above))).trans e1⟩
  ·by_cases hj : j = i
   ·subst hj
    rw [hi] at e1; cases e1
    rw [List.getElem?_set_self hiσ] at e2
    cases e2
    exact ⟨u,r,.inl ⟨hk,by simp⟩⟩
   ·rw [List.getElem?_set_ne (Ne.symm hj)] at e2
    obtain ⟨u',r',q⟩:=hl j y v' e1 e2 e3
    refine ⟨u',r',?_⟩
    rcases q with ⟨k,e⟩ | ⟨k,c,e,z⟩
    ·refine .inl ⟨k,?_⟩
     have : y ≠ x:=fun e=>hj (nodup_ix hN e1 (e ▸ hi))
     simp [this,e]
    ·exact .inr ⟨k,c,e,z.sameBut hs (cne y c e)⟩
  ·obtain ⟨w',z⟩:=I.cell y c e
   exact ⟨w',z.sameBut hs (cne y c e)⟩
  ·obtain ⟨e,n,ne,nf,d⟩:=I.pin p hp
   exact ⟨(hs.2 p.1 ne).trans e,n,ne,nf,d⟩
 ·have hfn : X.fn x = true:=by
   rcases hf with z | z
   ·exact z
   ·rw [z] at hk; cases hk
  obtain ⟨c,hc⟩:=I.ok.has x (.inl hk)
  obtain ⟨w',z⟩:=I.cell x c hc
  refine wpAny_storeName_cell I.ok.kind hk hc z (fun h' hc' hs=>?_)
  obtain ⟨oc,hoc,hocd⟩:=id z
  refine h { s with heap:=h' } ⟨I.ok,I.os,I.bare,⟨fun b o e n hb hx=>?_,fun b o e n hb hx=>?_,I.base.free,fun b o e hx=>?_,I.base.tups,I.base.frzs,I.base.tbls⟩,⟨m,hn.sameBut hs (Ne.symm (cne x c hc)),fun j y v' e1 e2 e3=>?_⟩,fun y c' e=>?_,I.free,I.freeC,fun p hp=>?_,tracked ⟨oc,hoc,I.freeC x c hc⟩ hs,by simpa using I.len⟩ ⟨c,hs,.inr hc⟩
  ·exact (hs.2 b (Nat.ne_of_lt (Nat.lt_of_lt_of_le (Heap.lt_size e) (I.ok.cab x c hfn hc)))).trans (I.base.keep b o e n hb hx)
  ·obtain ⟨sl,e1⟩:=I.base.slot b o e n hb hx
   exact ⟨sl,(hs.2 b (Nat.ne_of_lt (Nat.lt_of_lt_of_le (Heap.lt_size e) (I.ok.cab x c hfn hc)))).trans e1⟩
  ·obtain ⟨o',e1⟩:=I.base.there b o e hx
   exact ⟨o',(hs.2 b (Nat.ne_of_lt (Nat.lt_of_lt_of_le (Heap.lt_size e) (I.ok.cab x c hfn hc)))).trans e1⟩
  ·by_cases hj : j = i
   ·subst hj
    rw [hi] at e1; cases e1
    rw [List.getElem?_set_self hiσ] at e2
    cases e2
    exact ⟨u,r,.inr ⟨.inl hk,c,hc,hc'⟩⟩
   ·rw [List.getElem?_set_ne (Ne.symm hj)] at e2
    obtain ⟨u',r',q⟩:=hl j y v' e1 e2 e3
    refine ⟨u',r',?_⟩
    rcases q with q | ⟨k,c',e,z'⟩
    ·exact .inl q
    ·refine .inr ⟨k,c',e,z'.sameBut hs ?_⟩
     rintro rfl
     exact hj (nodup_ix hN e1 (I.ok.inj _ _ _ e hc ▸ hi))
  ·by_cases hcc : c' = c
   ·subst hcc; exact ⟨_,hc'⟩
   ·obtain ⟨w2,z2⟩:=I.cell y c' e
    exact ⟨w2,z2.sameBut hs hcc⟩
  ·obtain ⟨e,n,ne,nf,d⟩:=I.pin p hp
   refine ⟨(hs.2 p.1 ?_).trans e,n,ne,nf,d⟩
   intro q
   rw [q,hoc] at e
   have q' : oc = p.2:=Option.some.inj e
   exact d w' (by rw [<- q']; exact hocd)
theorem store_ok {M : Model} {A : Around} {E : Value->Shared->Prop} {i : Nat} {x : Str} {v : V} {u : Value} {Q : Unit->Shared->Prop} (I : Inv X pins σ H s) (hN : X.N.Nodup) (hi : X.N[i]? = some x) (hx : Loc X.env.scope x) (r : RelV v u)
  (h : ∀ s',Inv X pins (σ.set i (some v)) H s'->Q () s') (hf : X.fn x = true \/ X.env.scope.names.lookup x = some .local:=by first | exact .inl rfl | exact .inr rfl | assumption) : wpAny M A (storeName X.env x u) Q E s :=
 store_ok2 I hN hi hx r (fun s' I' _=>h s' I') hf
theorem Inv.call' {s' : Shared} {ch : List Addr} (I : Inv X pins σ H s) (ho : s'.os = s.os) (u : Un (frs X.stack) ch H H' s.heap s'.heap) (hok : HOk X.prog X.w H' s'.heap) (hg : AllBare s'.gens)
  (hch : ∀ b ∈ ch,(b ∈ X.ex \/ X.s₀.heap.objs.size <= b)/\b ≠ X.env.locals/\(∀ x c,X.env.cells.lookup x = some c->c ≠ b)/\∀ p ∈ X.pn ++ pins,p.1 ≠ b) : Inv X pins σ H' s':=by
 obtain ⟨h',g',d',t',o'⟩:=s'
 have e : o' = s.os:=ho
 subst e
 exact I.call (g':=g') (t':=t') (d':=d') u hok hg hch
end
abbrev XK:=Value->Option Addr->Hp->Prop
abbrev St:=List (Option V)
abbrev VK:=V->Hp->Prop
abbrev TE:=St->Hp->VK->Prop
abbrev TT:=St->Hp->(Bool->Hp->Prop)->Prop
abbrev TA:=St->Hp->(List V->Hp->Prop)->Prop
structure Ends where
 nx : St->Hp->Prop
 rt : VK
 bk : St->Hp->Prop:=fun _ _=>False
 ct : St->Hp->Prop:=fun _ _=>False
abbrev TS:=Ends->St->Hp->Prop
def EP (X : Cx) (pins : List (Addr × Obj)) (σ : St) (Q : VK) (u : Value) (s' : Shared) : Prop:=∃ v H',Inv X pins σ H' s'/\RelV v u/\Q v H'
def TP (X : Cx) (pins : List (Addr × Obj)) (σ : St) (Q : Bool->Hp->Prop) (b : Bool) (s' : Shared) : Prop:=∃ H',Inv X pins σ H' s'/\Q b H'
def AP (X : Cx) (pins : List (Addr × Obj)) (σ : St) (Q : List V->Hp->Prop) (us : List Value) (s' : Shared) : Prop:=∃ vs H',Inv X pins σ H' s'/\Vals vs us/\Q vs H'
def SP (X : Cx) (pins : List (Addr × Obj)) (D : Ends) (f : Flow) (s' : Shared) : Prop :=
 match f with
 | .next=>∃ σ' H',Inv X pins σ' H' s'/\D.nx σ' H'
 | .brk=>∃ σ' H',Inv X pins σ' H' s'/\D.bk σ' H'
 | .cont=>∃ σ' H',Inv X pins σ' H' s'/\D.ct σ' H'
 | .ret u=>∃ v σ' H',Inv X pins σ' H' s'/\RelV v u/\D.rt v H'
def PE (X : Cx) (e : Expr) (t : TE) : Prop :=
 ∀ (pins : List (Addr × Obj)) (s : Shared) (σ : St) (H : Hp) (Q : VK),Inv X pins σ H s->t σ H Q->wpAny (model X.prog X.w) X.A (eval e X.env) (EP X pins σ Q) X.xe s
def PT (X : Cx) (e : Expr) (t : TT) : Prop :=
 ∀ (pins : List (Addr × Obj)) (s : Shared) (σ : St) (H : Hp) (Q : Bool->Hp->Prop),Inv X pins σ H s->t σ H Q->wpAny (model X.prog X.w) X.A (isTrue e X.env (eval e X.env)) (TP X pins σ Q) X.xe s
def PW (X : Cx) (e : Expr) (t : TT) : Prop :=
 ∀ (whole : Sem Value) (pins : List (Addr × Obj)) (s : Shared) (σ : St) (H : Hp) (Q : Bool->Hp->Prop),Inv X pins σ H s->t σ H Q->wpAny (model X.prog X.w) X.A (isTrue e X.env whole) (TP X pins σ Q) X.xe s
theorem PW.pt {X : Cx} {e : Expr} {t : TT} (h : PW X e t) : PT X e t:=h _
def PA (X : Cx) (es : List Expr) (t : TA) : Prop :=
 ∀ (pos : Pos) (pins : List (Addr × Obj)) (s : Shared) (σ : St) (H : Hp) (Q : List V->Hp->Prop),Inv X pins σ H s->t σ H Q->wpAny (model X.prog X.w) X.A (spliced (backTo pos (starEach es X.env))) (AP X pins σ Q) X.xe s
def PS (X : Cx) (st : Stmt) (t : TS) : Prop :=
 ∀ (pins : List (Addr × Obj)) (s : Shared) (σ : St) (H : Hp) (D : Ends),Inv X pins σ H s->t D σ H->wpAny (model X.prog X.w) X.A (exec st X.env) (SP X pins D) X.xe s
def PSs (X : Cx) (st : List Stmt) (t : TS) : Prop :=
 ∀ (pins : List (Addr × Obj)) (s : Shared) (σ : St) (H : Hp) (D : Ends),Inv X pins σ H s->t D σ H->wpAny (model X.prog X.w) X.A (execs st X.env) (SP X pins D) X.xe s
theorem thn {α : Type} {t : Sem α} {Q Q' : α->Shared->Prop} {M : Model} {A : Around} {E : Value->Shared->Prop} {s : Shared} (h : wpAny M A t Q E s) (hQ : ∀ a s,Q a s->Q' a s) : wpAny M A t Q' E s:=wpAny_mono h hQ fun _ _ x=>x
end L2
namespace L2
open PySem PySem.Spec PyProof.Rows
section
variable {X : Cx}
def tVar (i : Nat) : TE:=fun σ H Q=>∃ v,σ[i]? = some (some v)/\Q v H
def tC (v : V) : TE:=fun _ H Q=>Q v H
theorem pe_var {i : Nat} {x : Str} {pos : Pos} (hN : X.N[i]? = some x) (hv : Vis X.env.scope x) (hd : (x == ("__debug__" : Str)) = false:=by decide) (hcd : (x == ("__classdict__" : Str)) = false:=by decide) : PE X (.Name x pos) (tVar i):=by
 intro pins s σ H Q I h
 obtain ⟨v,e,h⟩:=h
 obtain ⟨m,hn,hl⟩:=I.loc
 obtain ⟨u,r,l⟩:=hl i x v hN e hv
 have fin : EP X pins σ Q u s:=⟨v,H,I,r,h⟩
 rcases l with ⟨hk,hm⟩ | ⟨hk,c,hc,hcell⟩
 ·exact wpAny_Name (wpAny_loadName_local I.ok.kind hk hn hm fin) hd
 ·rcases hk with hk | hk
  ·exact wpAny_Name (wpAny_loadName_cell I.ok.kind hk hc hcell fin) hd
  ·exact wpAny_Name (wpAny_loadName_free I.ok.kind hk hc hcell fin hcd) hd
theorem pe_int {i j pos} : PE X (.Constant (.int i) j pos) (tC (.int i)):=fun _ _ _ H _ I h=>wpAny_Constant_int ⟨.int i,H,I.tok _,⟨_,rfl⟩,h⟩
theorem pe_bl {b j pos} : PE X (.Constant (.bool b) j pos) (tC (.bl b)):=fun _ _ _ H _ I h=>Constant_bool ⟨.bl b,H,I,rfl,h⟩
theorem pe_non {j pos} : PE X (.Constant .none j pos) (tC .non):=fun _ _ _ H _ I h=>Constant_none ⟨.non,H,I,rfl,h⟩
theorem pe_str {x j pos} : PE X (.Constant (.str x) j pos) (tC (.str x)):=fun _ _ _ H _ I h=>Calls.Constant_str ⟨.str x,H,I.tok _,⟨_,rfl⟩,h⟩
def Gl (X : Cx) (x : Str) : Prop:=X.env.kindOf x = some .globalImplicit
theorem ld_glob {E : Value->Shared->Prop} {pins : List (Addr × Obj)} {s : Shared} {σ : St} {H : Hp} {x : Str} {u : Value} {pos : Pos} {Q : Value->Shared->Prop} (I : Inv X pins σ H s) (hg : Gl X x) (hm : X.mg x = some u) (h : Q u s)
  (hd : (x == ("__debug__" : Str)) = false:=by decide) : wpAny (model X.prog X.w) X.A (eval (.Name x pos) X.env) Q E s :=
 Calls.Name_function_global I.ok.kind hg (Calls.loadGlobal_global (by rw [I.ok.glob]; exact I.mod.glob.keeps I.bk) hm h) hd
theorem ld_blt {E : Value->Shared->Prop} {pins : List (Addr × Obj)} {s : Shared} {σ : St} {H : Hp} {x : Str} {u : Value} {pos : Pos} {Q : Value->Shared->Prop} (I : Inv X pins σ H s) (hg : Gl X x) (hm : X.mg x = none) (hv : bootBuiltins x = some u) (h : Q u s)
  (hn : x ≠ "__name__":=by decide) (hd : (x == ("__debug__" : Str)) = false:=by decide) : wpAny (model X.prog X.w) X.A (eval (.Name x pos) X.env) Q E s:=by
 obtain ⟨mb,h1,h2⟩:=I.mod.blt
 exact Calls.Name_function_global I.ok.kind hg (Calls.loadGlobal_builtin (by rw [I.ok.glob]; exact I.mod.glob.keeps I.bk) hm (by rw [I.ok.blt]; exact h1.keeps I.bk) ((h2 x hn).trans hv) h) hd
theorem pe_glob {x : Str} {v : V} {u : Value} {pos : Pos} (hg : Gl X x) (hm : X.mg x = some u) (r : RelV v u) (hd : (x == ("__debug__" : Str)) = false:=by decide) : PE X (.Name x pos) (tC v) :=
 fun _ _ _ H _ I h=>ld_glob I hg hm ⟨v,H,I,r,h⟩ hd
theorem pe_bltn {x : Str} {v : V} {u : Value} {pos : Pos} (hg : Gl X x) (hm : X.mg x = none) (hv : bootBuiltins x = some u) (r : RelV v u) (hn : x ≠ "__name__":=by decide) (hd : (x == ("__debug__" : Str)) = false:=by decide) : PE X (.Name x pos) (tC v) :=
 fun _ _ _ H _ I h=>ld_blt I hg hm hv ⟨v,H,I,r,h⟩ hn hd
def t2I (ta tb : TE) (k : Int->Int->Hp->Prop) : St->Hp->Prop:=fun σ H=>ta σ H fun x H1=>tb σ H1 fun y H2=>∃ i j,x = .int i/\y = .int j/\k i j H2
def tAdd (ta tb : TE) : TE:=fun σ H Q=>t2I ta tb (fun i j H2=>Q (.int (i + j)) H2) σ H
def tSub (ta tb : TE) : TE:=fun σ H Q=>t2I ta tb (fun i j H2=>Q (.int (i - j)) H2) σ H
def tMul (ta tb : TE) : TE:=fun σ H Q=>t2I ta tb (fun i j H2=>(-(2 ^ 64) < i/\i < 2 ^ 64)/\Q (.int (i * j)) H2) σ H
variable {a b : Expr} {ta tb : TE} {pos : Pos}
def PC (X : Cx) (op : CmpOp) (a b : Expr) (t : TE) : Prop :=
 ∀ (pins : List (Addr × Obj)) (s : Shared) (σ : St) (H : Hp) (Q : VK),Inv X pins σ H s->t σ H Q ->
  wpAny (model X.prog X.w) X.A (eval a X.env) (fun v s₁=>wpAny (model X.prog X.w) X.A (eval b X.env) (fun u s₂=>wpAny (model X.prog X.w) X.A (compareOp op v u) (EP X pins σ Q) X.xe s₂) X.xe s₁) X.xe s
theorem nobehind (b : Expr) {op : CmpOp} (h : op ≠ .In) (h2 : op ≠ .NotIn) : behindInMarks op b = false:=by
 have e1 : (op == CmpOp.In) = false:=by cases op <;> first | rfl | exact absurd rfl h
 have e2 : (op == CmpOp.NotIn) = false:=by cases op <;> first | rfl | exact absurd rfl h2
 cases b <;> simp [behindInMarks,e1,e2]
def tCmp (p : Int->Int->Bool) (ta tb : TE) : TE:=fun σ H Q=>t2I ta tb (fun i j H2=>Q (.bl (p i j)) H2) σ H
abbrev tLt : TE->TE->TE:=tCmp fun i j=>decide (i < j)
abbrev tLe : TE->TE->TE:=tCmp fun i j=>decide (i <= j)
abbrev tGt : TE->TE->TE:=tCmp fun i j=>decide (j < i)
abbrev tGe : TE->TE->TE:=tCmp fun i j=>decide (j <= i)
abbrev tEqI : TE->TE->TE:=tCmp fun i j=>decide (i = j)
abbrev tNeI : TE->TE->TE:=tCmp fun i j=>!decide (i = j)
def tIsN (ta : TE) : TE:=fun σ H Q=>ta σ H fun x H1=>Q (.bl (decide (x = .non))) H1
def tNotN (ta : TE) : TE:=fun σ H Q=>ta σ H fun x H1=>Q (.bl (!decide (x = .non))) H1
theorem RelV.none_iff {x : V} {v : Value} (r : RelV x v) : (v == Value.none) = decide (x = .non):=by
 cases x with
 | non=>cases r; rfl
 | bl _=>cases r; rfl
 | int _=>obtain ⟨t,rfl⟩:=r; rfl
 | str _=>obtain ⟨t,rfl⟩:=r; rfl
 | byt _=>obtain ⟨t,rfl⟩:=r; rfl
 | flt _=>obtain ⟨t,rfl⟩:=r; rfl
 | ref _=>cases r; rfl
 | ty _=>cases r; rfl
theorem pc_isN {j pos'} (ha : PE X a ta) : PC X .Is a (.Constant .none j pos') (tIsN ta):=by
 intro pins s σ H Q I h
 refine thn (ha pins s σ H _ I h) fun v s1 ⟨x,H1,I1,r1,q1⟩=>?_
 exact Constant_none (is_none_gen ⟨.bl _,H1,I1,by rw [r1.none_iff]; rfl,q1⟩)
def tB (t : TE) : TT:=fun σ H Q=>t σ H fun x H1=>∃ c,x = .bl c/\Q c H1
theorem pt_cmp {op : CmpOp} {t : TE} (h : PC X op a b t) (h1 : behindInMarks op b = false:=by first | exact nobehind _ (by decide) (by decide) | rfl) : PT X (.Compare a [op] [b] pos) (tB t):=by
 intro pins s σ H Q I hw
 refine wpAny_isTrue_Compare1 (thn (h pins s σ H _ I hw) fun v s1 h1=>thn h1 fun u s2 h2=>thn h2 fun c s3 ⟨x,H1,I1,r1,q1⟩=>?_) h1
 obtain ⟨d,rfl,q⟩:=q1
 cases r1
 exact wpAny_truthy_bool ⟨H1,I1,q⟩
theorem pt_val {e : Expr} {t : TE} (h : PE X e t) (he : ∀ whole,isTrue e X.env whole = (do let v <- whole; standAt e.pos; holding [v] (truthy v)):=by intro _; rfl) : PT X e (tB t):=by
 intro pins s σ H Q I hw
 refine isTrue_plain (thn (h pins s σ H _ I hw) fun v s1 ⟨x,H1,I1,r1,q1⟩=>?_) (he _)
 obtain ⟨d,rfl,q⟩:=q1
 cases r1
 exact wpAny_truthy_bool ⟨H1,I1,q⟩
variable {tA tB' : TT} {rest : List Expr}
def tAnd (t u : TT) : TT:=fun σ H Q=>t σ H fun c H1=>if c = true then u σ H1 Q else Q false H1
def tOr (t u : TT) : TT:=fun σ H Q=>t σ H fun c H1=>if c = true then Q true H1 else u σ H1 Q
def tNot (t : TT) : TT:=fun σ H Q=>t σ H fun c H1=>Q (!c) H1
theorem pw_and1 (ha : PT X a tA) : PW X (.BoolOp .And [a] pos) tA:=by
 intro wh pins s σ H Q I h
 refine isTrue_and (thn (ha pins s σ H Q I h) fun c s1 e=>?_)
 cases c with
 | true=>exact isTrue_and_nil e
 | false=>exact e
theorem pw_or1 (ha : PT X a tA) : PW X (.BoolOp .Or [a] pos) tA:=by
 intro wh pins s σ H Q I h
 refine isTrue_or (thn (ha pins s σ H Q I h) fun c s1 e=>?_)
 cases c with
 | false=>exact isTrue_or_nil e
 | true=>exact e
theorem pw_and (ha : PT X a tA) (hb : PW X (.BoolOp .And (b :: rest) pos) tB') : PW X (.BoolOp .And (a :: b :: rest) pos) (tAnd tA tB'):=by
 intro wh pins s σ H Q I h
 refine isTrue_and (thn (ha pins s σ H _ I h) fun c s1 ⟨H1,I1,q1⟩=>?_)
 cases c with
 | true=>exact hb wh pins s1 σ H1 Q I1 q1
 | false=>exact ⟨H1,I1,q1⟩
theorem pw_or (ha : PT X a tA) (hb : PW X (.BoolOp .Or (b :: rest) pos) tB') : PW X (.BoolOp .Or (a :: b :: rest) pos) (tOr tA tB'):=by
 intro wh pins s σ H Q I h
 refine isTrue_or (thn (ha pins s σ H _ I h) fun c s1 ⟨H1,I1,q1⟩=>?_)
 cases c with
 | true=>exact ⟨H1,I1,q1⟩
 | false=>exact hb wh pins s1 σ H1 Q I1 q1
theorem pt_not (ha : PT X a tA) : PT X (.UnaryOp .Not a pos) (tNot tA):=by
 intro pins s σ H Q I h
 exact isTrue_not (ha pins s σ H (fun c H1=>Q (!c) H1) I h)
def tAndV (ta tb : TE) : TE:=fun σ H Q=>ta σ H fun x H1=>∃ c,x = .bl c/\if c = true then tb σ H1 Q else Q (.bl false) H1
def tOrV (ta tb : TE) : TE:=fun σ H Q=>ta σ H fun x H1=>∃ c,x = .bl c/\if c = true then Q (.bl true) H1 else tb σ H1 Q
def tNotV (ta : TE) : TE:=fun σ H Q=>ta σ H fun x H1=>∃ c,x = .bl c/\Q (.bl (!c)) H1
theorem pe_one {op} {t : TE} (h : PE X a t) : PE X (.BoolOp op [a] pos) t:=fun pins s σ H Q I hw=>BoolOp_one (h pins s σ H Q I hw)
theorem pe_and (ha : PE X a ta) (hb : PE X (.BoolOp .And (b :: rest) pos) tb) : PE X (.BoolOp .And (a :: b :: rest) pos) (tAndV ta tb):=by
 intro pins s σ H Q I h
 refine BoolOp_and (thn (ha pins s σ H _ I h) fun v s1 ⟨x,H1,I1,r1,q1⟩=>?_)
 obtain ⟨c,rfl,q1⟩:=q1
 cases r1
 refine wpAny_truthy_bool ?_
 cases c with
 | true=>exact hb pins s1 σ H1 Q I1 q1
 | false=>exact ⟨.bl false,H1,I1,rfl,q1⟩
theorem pe_not (ha : PE X a ta) : PE X (.UnaryOp .Not a pos) (tNotV ta):=by
 intro pins s σ H Q I h
 refine UnaryOp_ (thn (ha pins s σ H _ I h) fun v s1 ⟨x,H1,I1,r1,q1⟩=>?_)
 obtain ⟨c,rfl,q1⟩:=q1
 cases r1
 exact not_of (wpAny_truthy_bool ⟨.bl (!c),H1,I1,rfl,q1⟩)
def tIf (t : TT) (ta tb : TE) : TE:=fun σ H Q=>t σ H fun c H1=>if c = true then ta σ H1 Q else tb σ H1 Q
theorem pe_ifExp {c : Expr} (hc : PT X c tA) (ha : PE X a ta) (hb : PE X b tb) : PE X (.IfExp c a b pos) (tIf tA ta tb):=by
 intro pins s σ H Q I h
 refine wpAny_IfExp (thn (hc pins s σ H _ I h) fun d s1 ⟨H1,I1,q1⟩=>?_)
 cases d with
 | true=>exact ha pins s1 σ H1 Q I1 q1
 | false=>exact hb pins s1 σ H1 Q I1 q1
end
end L2
namespace L2
open PySem PySem.Spec PyProof.Rows
def SqL (K : PySem.W.Frag) (H : Hp) (a : Addr) (xs : List V) : Prop :=
 Rd H a (.lst xs) \/
  ∃ (o : Obj) (its : Array Value) (n : Nat),K.lookup a = some o/\o.cls = .type "list"/\o.dict = none/\o.data = .seq its n/\its.size <= sizeLine/\Vals xs its.toList
def SqT (K : PySem.W.Frag) (H : Hp) (a : Addr) (xs : List V) : Prop :=
 Rd H a (.tup xs) \/
  ∃ (o : Obj) (its : Array Value) (n : Nat),K.lookup a = some o/\o.cls = .type "tuple"/\o.data = .seq its n/\its.size <= sizeLine/\Vals xs its.toList
def absV : Value->Option V
 | .none=>some .non
 | .bool b=>some (.bl b)
 | .int i _=>some (.int i)
 | .str x _=>some (.str x)
 | .bytes b _=>some (.byt b)
 | .float b _=>some (.flt b)
 | .ref a=>some (.ref a)
 | .type n=>some (.ty n)
 | _=>none
theorem RelV.abs {x : V} {u : Value} (r : RelV x u) : absV u = some x:=by
 cases x with
 | non=>cases r; rfl
 | bl _=>cases r; rfl
 | int _=>obtain ⟨t,rfl⟩:=r; rfl
 | str _=>obtain ⟨t,rfl⟩:=r; rfl
 | byt _=>obtain ⟨t,rfl⟩:=r; rfl
 | flt _=>obtain ⟨t,rfl⟩:=r; rfl
 | ref _=>cases r; rfl
 | ty _=>cases r; rfl
theorem RelV.inj {x y : V} {u : Value} (r : RelV x u) (q : RelV y u) : x = y:=Option.some.inj (r.abs.symm.trans q.abs)
theorem Vals.inj : ∀ {xs ys : List V} {us : List Value},Vals xs us->Vals ys us->xs = ys
 | _,_,_,.nil,.nil=>rfl
 | _,_,_,.cons r t,.cons r' t'=>by rw [r.inj r',Vals.inj t t']
section
variable {X : Cx} {pins : List (Addr × Obj)} {σ : St} {H : Hp} {s : Shared} {a : Addr} {xs ys : List V}
theorem SqL.of {K : PySem.W.Frag} (h : H a = some (.lst xs)) : SqL K H a xs:=.inl (.inl h)
theorem SqT.of {K : PySem.W.Frag} (h : H a = some (.tup xs)) : SqT K H a xs:=.inl (.inl h)
theorem Inv.list (I : Inv X pins σ H s) (h : SqL X.K H a xs) : ∃ its : List Value,Vals xs its/\PlainL s.heap a its.toArray/\xs.length <= sizeLine:=by
 rcases h with h | ⟨o,its,n,hk,hc,hd,hs,hz,r⟩
 ·obtain ⟨z,its,n,r,e⟩:=h.ok I.hok
  exact ⟨its,r,⟨_,n,e,rfl,rfl,rfl⟩,z⟩
 ·refine ⟨its.toList,r,⟨o,n,I.kIn a o hk,hc,hd,by simpa using hs⟩,?_⟩
  have e:=r.length
  simp only [Array.length_toList] at e
  omega
theorem Inv.tuple (I : Inv X pins σ H s) (h : SqT X.K H a xs) : ∃ its : List Value,Vals xs its/\IsTup s.heap a its.toArray/\xs.length <= sizeLine:=by
 rcases h with h | ⟨o,its,n,hk,hc,hs,hz,r⟩
 ·obtain ⟨z,its,r,p⟩:=h.ok I.hok
  exact ⟨its,r,p,z⟩
 ·refine ⟨its.toList,r,⟨o,I.kIn a o hk,hc,n,by simpa using hs⟩,?_⟩
  have e:=r.length
  simp only [Array.length_toList] at e
  omega
theorem Inv.list_inj (I : Inv X pins σ H s) (h : SqL X.K H a xs) (h' : SqL X.K H a ys) : xs = ys:=by
 obtain ⟨its,r,⟨o,n,e,_,_,d⟩,_⟩:=I.list h
 obtain ⟨its',r',⟨o',n',e',_,_,d'⟩,_⟩:=I.list h'
 rw [e] at e'; cases e'
 rw [d] at d'
 injection d' with d1 _
 have : its = its':=by simpa using congrArg Array.toList d1
 subst this
 exact r.inj r'
theorem Inv.tuple_inj (I : Inv X pins σ H s) (h : SqT X.K H a xs) (h' : SqT X.K H a ys) : xs = ys:=by
 obtain ⟨its,r,⟨o,e,_,n,d⟩,_⟩:=I.tuple h
 obtain ⟨its',r',⟨o',e',_,n',d'⟩,_⟩:=I.tuple h'
 rw [e] at e'; cases e'
 rw [d] at d'
 injection d' with d1 _
 have : its = its':=by simpa using congrArg Array.toList d1
 subst this
 exact r.inj r'
end
abbrev Cx.wish (X : Cx) (E : Value->Shared->Prop) : Cx:={ X with xe:=E }
abbrev Cx.nox (X : Cx) : Cx:=X.wish fun _ _=>False
theorem Cx.Ok.wish {X : Cx} (ok : X.Ok) (E : Value->Shared->Prop) : (X.wish E).Ok :=
 ⟨ok.mod,ok.kind,ok.glob,ok.blt,ok.above,ok.inj,ok.has,ok.cab,ok.hd,ok.frames,ok.stk,ok.exf,ok.bs,ok.bsz,ok.noex,ok.exfs,ok.funs,ok.frf⟩
theorem Cx.Ok.unwish {X : Cx} {E : Value->Shared->Prop} (ok : (X.wish E).Ok) : X.Ok :=
 ⟨ok.mod,ok.kind,ok.glob,ok.blt,ok.above,ok.inj,ok.has,ok.cab,ok.hd,ok.frames,ok.stk,ok.exf,ok.bs,ok.bsz,ok.noex,ok.exfs,ok.funs,ok.frf⟩
section
variable {X : Cx} {pins : List (Addr × Obj)} {σ : St} {H : Hp} {s : Shared} {E : Value->Shared->Prop}
theorem Inv.wish (I : Inv X pins σ H s) (E : Value->Shared->Prop) : Inv (X.wish E) pins σ H s:=⟨I.ok.wish E,I.os,I.bare,I.base,I.loc,I.cell,I.free,I.freeC,I.pin,I.hok,I.len⟩
theorem Inv.unwish (I : Inv (X.wish E) pins σ H s) : Inv X pins σ H s:=⟨I.ok.unwish,I.os,I.bare,I.base,I.loc,I.cell,I.free,I.freeC,I.pin,I.hok,I.len⟩
theorem SP.unwish {D : Ends} {f : Flow} {s' : Shared} (h : SP (X.wish E) pins D f s') : SP X pins D f s':=by
 cases f with
 | next=>obtain ⟨σ',H',I,q⟩:=h; exact ⟨σ',H',I.unwish,q⟩
 | brk=>obtain ⟨σ',H',I,q⟩:=h; exact ⟨σ',H',I.unwish,q⟩
 | cont=>obtain ⟨σ',H',I,q⟩:=h; exact ⟨σ',H',I.unwish,q⟩
 | ret u=>obtain ⟨v,σ',H',I,r,q⟩:=h; exact ⟨v,σ',H',I.unwish,r,q⟩
theorem PSs.nox {st : List Stmt} {t : TS} (h : PSs X.nox st t) : PSs X st t:=fun pins s σ H D I hw =>
 wpAny_mono (h pins s σ H D (I.wish _) hw) (fun _ _ q=>q.unwish) fun _ _ z=>False.elim z
end
section
variable {X : Cx} {st : Stmt} {rest : List Stmt} {t u : TS} {e : Expr} {te : TE} {pos : Pos}
def tNext : TS:=fun D σ H=>D.nx σ H
def tSeq (t u : TS) : TS:=fun D σ H=>t { D with nx:=u D } σ H
theorem pss_nil : PSs X [] tNext:=fun _ _ σ H _ I h=>wpAny_execs_nil ⟨σ,H,I,h⟩
theorem pss_cons (h1 : PS X st t) (h2 : PSs X rest u) : PSs X (st :: rest) (tSeq t u):=by
 intro pins s σ H D I h
 refine wpAny_execs_cons (thn (h1 pins s σ H { D with nx:=u D } I h) fun f s1 q=>?_)
 cases f with
 | next =>
  obtain ⟨σ',H',I',q⟩:=q
  exact h2 pins s1 σ' H' D I' q
 | ret v=>exact q
 | brk=>exact q
 | cont=>exact q
theorem pss_one (h1 : PS X st t) : PSs X [st] t:=by
 intro pins s σ H D I h
 refine wpAny_execs_cons (thn (h1 pins s σ H D I h) fun f s1 q=>?_)
 cases f with
 | next=>exact wpAny_execs_nil q
 | ret v=>exact q
 | brk=>exact q
 | cont=>exact q
def tBreak : TS:=fun D σ H=>D.bk σ H
def tCont : TS:=fun D σ H=>D.ct σ H
theorem Inv.quiet {pins : List (Addr × Obj)} {σ : St} {H : Hp} {s : Shared} (I : Inv X pins σ H s) : interactive X.env = false:=by simp [interactive,I.ok.kind]
def tDrop (te : TE) : TS:=fun D σ H=>te σ H fun _ H1=>D.nx σ H1
theorem ps_expr (he : PE X e te) (hs : swapsWith e none pos.line X.env = pure false:=by rfl) : PS X (.Expr e pos) (tDrop te):=by
 intro pins s σ H D I h
 exact wpAny_Expr_any (thn (he pins s σ H _ I h) fun v s1 ⟨x,H1,I1,r1,q1⟩=>⟨σ,H1,I1,q1⟩) I.quiet hs
def tRet (te : TE) : TS:=fun D σ H=>te σ H D.rt
theorem ps_ret (he : PE X e te) : PS X (.Return (some e) pos) (tRet te):=by
 intro pins s σ H D I h
 exact wpAny_Return_some (thn (he pins s σ H _ I h) fun v s1 ⟨x,H1,I1,r1,q1⟩=>⟨x,σ,H1,I1,r1,q1⟩)
def tRetN : TS:=fun D _ H=>D.rt .non H
def tIfS (c : TT) (t u : TS) : TS:=fun D σ H=>c σ H fun b H1=>if b = true then t D σ H1 else u D σ H1
theorem ps_if {c : Expr} {a b : List Stmt} {tc : TT} (hc : PT X c tc) (ha : PSs X a t) (hb : PSs X b u) : PS X (.If c a b pos) (tIfS tc t u):=by
 intro pins s σ H D I h
 refine wpAny_If (thn (hc pins s σ H _ I h) fun d s1 ⟨H1,I1,q1⟩=>?_)
 cases d with
 | true=>exact ha pins s1 σ H1 D I1 q1
 | false=>exact hb pins s1 σ H1 D I1 q1
def tNever : TS:=fun _ _ _=>False
end
abbrev TG:=V->St->Hp->(St->Hp->Prop)->Prop
abbrev TGs:=List V->St->Hp->(St->Hp->Prop)->Prop
def PG (X : Cx) (target : Expr) (t : TG) : Prop :=
 ∀ (pins : List (Addr × Obj)) (s : Shared) (σ : St) (H : Hp) (v : V) (u : Value) (Q : St->Hp->Prop),Inv X pins σ H s->RelV v u->t v σ H Q ->
  wpAny (model X.prog X.w) X.A (assign target X.env u) (fun _ s'=>∃ σ' H',Inv X pins σ' H' s'/\Q σ' H') X.xe s
def PGs (X : Cx) (ts : List Expr) (t : TGs) : Prop :=
 ∀ (pins : List (Addr × Obj)) (s : Shared) (σ : St) (H : Hp) (vs : List V) (us : List Value) (Q : St->Hp->Prop),Inv X pins σ H s->Vals vs us->t vs σ H Q ->
  wpAny (model X.prog X.w) X.A (assignInOrder ((assignEach ts X.env).map (·.2)) us) (fun _ s'=>∃ σ' H',Inv X pins σ' H' s'/\Q σ' H') X.xe s
abbrev TSet:=V->V->V->Hp->(Hp->Prop)->Prop
def PSet (X : Cx) (t : TSet) : Prop :=
 ∀ (pins : List (Addr × Obj)) (s : Shared) (σ : St) (H : Hp) (o i v : V) (ov iv u : Value) (Q : Hp->Prop),Inv X pins σ H s->RelV o ov->RelV i iv->RelV v u->t o i v H Q ->
  wpAny (model X.prog X.w) X.A (setItem ov iv u) (fun _ s'=>∃ H',Inv X pins σ H' s'/\Q H') X.xe s
abbrev TIp:=V->V->Hp->VK->Prop
def PIp (X : Cx) (op : Operator) (t : TIp) : Prop :=
 ∀ (pins : List (Addr × Obj)) (s : Shared) (σ : St) (H : Hp) (x y : V) (v u : Value) (Q : VK),Inv X pins σ H s->RelV x v->RelV y u->t x y H Q ->
  wpAny (model X.prog X.w) X.A (inplaceOp op v u) (EP X pins σ Q) X.xe s
section
variable {X : Cx} {pos : Pos}
def gName (i : Nat) : TG:=fun v σ H Q=>Q (σ.set i (some v)) H
theorem pg_name {i : Nat} {x : Str} (hN : X.N.Nodup) (hi : X.N[i]? = some x) (hx : Loc X.env.scope x) (hf : X.fn x = true \/ X.env.scope.names.lookup x = some .local:=by first | exact .inl rfl | exact .inr rfl | assumption) : PG X (.Name x pos) (gName i):=by
 intro pins s σ H v u Q I r h
 exact wpAny_assign_Name (store_ok I hN hi hx r (fun s' I'=>⟨_,H,I',h⟩) hf)
def gNil : TGs:=fun vs σ H Q=>vs = []/\Q σ H
def gCons (t : TG) (u : TGs) : TGs:=fun vs σ H Q=>∃ v r,vs = v :: r/\t v σ H fun σ' H'=>u r σ' H' Q
theorem pgs_nil : PGs X [] gNil:=by
 intro pins s σ H vs us Q I r h
 obtain ⟨e,h⟩:=h
 subst e
 cases r
 exact assignInOrder_nil ⟨σ,H,I,h⟩
theorem pgs_cons {e : Expr} {es : List Expr} {t : TG} {u : TGs} (h1 : PG X e t) (h2 : PGs X es u)
  (hs : (assignEach (e :: es) X.env).map (·.2) = assign e X.env :: (assignEach es X.env).map (·.2):=by rfl) : PGs X (e :: es) (gCons t u):=by
 intro pins s σ H vs us Q I r h
 obtain ⟨v,vr,e1,h⟩:=h
 subst e1
 cases r with
 | cons r rr =>
  rw [hs]
  refine assignInOrder_cons (thn (h1 pins s σ H _ _ _ I r h) fun _ s1 ⟨σ1,H1,I1,q1⟩=>?_)
  exact h2 pins s1 σ1 H1 _ _ Q I1 rr q1
def gTup (K : PySem.W.Frag) (n : Nat) (t : TGs) : TG:=fun v σ H Q=>∃ a xs,v = .ref a/\SqT K H a xs/\xs.length = n/\t xs σ H Q
theorem pg_tup {es : List Expr} {k : Nat} {t : TGs} {n : Nat} (hc : X.calm = true) (h : PGs X es t)
  (hn : (assignEach es X.env).length = n:=by rfl) (hst : (assignEach es X.env).findIdx? (·.1) = none:=by rfl) : PG X (.Tuple es k pos) (gTup X.K n t):=by
 intro pins s σ H v u Q I r hw
 obtain ⟨a,xs,e1,hq,hl,hw⟩:=hw
 subst e1
 cases r
 obtain ⟨its,rv,ht,hz⟩:=I.tuple hq
 refine assign_Tuple_tuple (I.ok.hd hc) ht (by simp [hn,<- hl,rv.length]) hst fun h' hx=>?_
 have I1 : Inv X pins σ H { s with heap:=h' }:=I.kept (t':=s.toks) fun b o e=>hx b o (Nat.ne_of_lt (Heap.lt_size e)) e
 exact h pins _ σ H xs _ Q I1 (by simpa using rv) hw
def gSub (to ti : TE) (t : TSet) : TG:=fun v σ H Q=>to σ H fun o H1=>ti σ H1 fun i H2=>t o i v H2 fun H3=>Q σ H3
theorem pg_sub {o i : Expr} {to ti : TE} {t : TSet} (ho : PE X o to) (hi : PE X i ti) (hs : PSet X t)
  (ha : ∀ v,assign (.Subscript o i pos) X.env v = (do
   let ov <- holding [v] (eval o X.env)
   let iv <- holding [v,ov] (eval i X.env)
   standAt pos
   holding [v,ov,iv] (setItem ov iv v)
   release [v,ov,iv] []):=by intro _; rfl) : PG X (.Subscript o i pos) (gSub to ti t):=by
 intro pins s σ H v u Q I r h
 rw [ha]
 refine wpAny_bind (wpAny_holding (thn (ho pins s σ H _ I h) fun ov s1 ⟨x,H1,I1,r1,q1⟩=>?_))
 refine wpAny_bind (wpAny_holding (thn (hi pins s1 σ H1 _ I1 q1) fun iv s2 ⟨y,H2,I2,r2,q2⟩=>?_))
 refine wpAny_bind (wpAny_standAt (wpAny_bind (wpAny_holding (thn (hs pins s2 σ H2 x y v ov iv u _ I2 r1 r2 r q2) fun _ s3 ⟨H3,I3,q3⟩=>?_))))
 exact wpAny_release ⟨σ,H3,I3,q3⟩
def tAsg (te : TE) (g : TG) : TS:=fun D σ H=>te σ H fun x H1=>g x σ H1 D.nx
theorem ps_asg {tg e : Expr} {te : TE} {g : TG} (he : PE X e te) (hg : PG X tg g) (hs : swapsWithSole [tg] e pos.line X.env = pure false:=by rfl) (hw : swappedStores [tg] e X.env = pure none:=by rfl)
  (h1 : (assignEach [tg] X.env).map (·.2) = [assign tg X.env]:=by rfl) : PS X (.Assign [tg] e pos) (tAsg te g):=by
 intro pins s σ H D I h
 refine wpAny_Assign_stores (thn (he pins s σ H _ I h) fun v s1 ⟨x,H1,I1,r1,q1⟩=>?_) hs hw
 rw [h1]
 exact thn (hg pins s1 σ H1 x v _ I1 r1 q1) fun _ s2 q=>q
theorem ps_set {i : Nat} {x : Str} {e : Expr} {te : TE} {pos' : Pos} (hN : X.N.Nodup) (hi : X.N[i]? = some x) (hx : Loc X.env.scope x) (he : PE X e te) (hs : swapsWith e (some (.Name x pos')) pos.line X.env = pure false:=by rfl) (hf : X.fn x = true \/ X.env.scope.names.lookup x = some .local:=by first | exact .inl rfl | exact .inr rfl | assumption) :
  PS X (.Assign [.Name x pos'] e pos) (tAsg te (gName i)):=by
 intro pins s σ H D I h
 refine wpAny_Assign_Name (thn (he pins s σ H _ I h) fun v s1 ⟨y,H1,I1,r1,q1⟩=>?_) hs
 exact store_ok I1 hN hi hx r1 (fun s2 I2=>⟨_,H1,I2,q1⟩) hf
def tPar (i j : Nat) (ta : TA) : TS:=fun D σ H=>ta σ H fun vs H1=>∃ v w,vs = [v,w]/\D.nx ((σ.set i (some v)).set j (some w)) H1
def tAug (i : Nat) (te : TE) (ti : TIp) : TS:=fun D σ H=>∃ x,σ[i]? = some (some x)/\te σ H fun y H1=>ti x y H1 fun z H2=>D.nx (σ.set i (some z)) H2
def tAugS (to ti te : TE) (tget : V->V->Hp->VK->Prop) (tip : TIp) (tset : TSet) : TS:=fun D σ H=>to σ H fun o H1=>ti σ H1 fun i H2=>tget o i H2 fun x H3=>te σ H3 fun y H4=>tip x y H4 fun z H5=>tset o i z H5 fun H6=>D.nx σ H6
def PGet (X : Cx) (t : V->V->Hp->VK->Prop) : Prop :=
 ∀ (pins : List (Addr × Obj)) (s : Shared) (σ : St) (H : Hp) (o i : V) (ov iv : Value) (Q : VK),Inv X pins σ H s->RelV o ov->RelV i iv->t o i H Q ->
  wpAny (model X.prog X.w) X.A (getItem ov iv) (EP X pins σ Q) X.xe s
def ipI (f : Int->Int->Int) : TIp:=fun x y H Q=>∃ i j,x = .int i/\y = .int j/\Q (.int (f i j)) H
end
section
variable {X : Cx} {pos : Pos}
def tWhile (c : TT) (tb : TS) : TS:=fun D σ H=>∃ W : Nat->St->Hp->Prop,(∃ m,W m σ H)/\∀ m σ H,W m σ H ->
 c σ H fun b H1=>if b = true then ∃ N : St->Hp->Prop,(∀ σ' H',N σ' H'->∃ m',m' < m/\W m' σ' H')/\tb { D with nx:=N,ct:=N,bk:=D.nx } σ H1 else D.nx σ H1
theorem ps_while {c : Expr} {body : List Stmt} {tc : TT} {tb : TS} (hp : PassesOwn (model X.prog X.w) X.A X.env X.xe) (hc : PT X c tc) (hb : PSs X body tb) : PS X (.While c body [] pos) (tWhile tc tb):=by
 intro pins s σ H D I h
 obtain ⟨W,⟨m0,w0⟩,turn⟩:=h
 refine wpAny_While (codeAny_whileLoop (fun n s'=>∃ σ' H',Inv X pins σ' H' s'/\W n σ' H') ?_ m0 ⟨σ,H,I,w0⟩)
 rintro n s1 ⟨σ1,H1,I1,w1⟩
 refine wpAny_passesOwn hp (thn (hc pins s1 σ1 H1 _ I1 (turn n σ1 H1 w1)) fun b s2 ⟨H2,I2,q2⟩=>?_)
 cases b with
 | true =>
  obtain ⟨N,hN,q2⟩:=q2
  rw [if_pos rfl]
  refine wpAny_passesOwn hp (thn (hb pins s2 σ1 H2 _ I2 q2) fun f s3 q3=>?_)
  cases f with
  | next =>
   obtain ⟨σ3,H3,I3,n3⟩:=q3
   obtain ⟨m',hm,w3⟩:=hN σ3 H3 n3
   exact ⟨m',hm,σ3,H3,I3,w3⟩
  | cont =>
   obtain ⟨σ3,H3,I3,n3⟩:=q3
   obtain ⟨m',hm,w3⟩:=hN σ3 H3 n3
   exact ⟨m',hm,σ3,H3,I3,w3⟩
  | brk=>exact q3
  | ret v=>exact q3
 | false =>
  rw [if_neg Bool.false_ne_true]
  exact wpAny_execs_nil ⟨σ1,H2,I2,q2⟩
end
structure It where
 go : Nat->Hp->Prop
 yld : Nat->Hp->V->Hp->Prop
 stop : Nat->Hp->Prop
def FpOk (X : Cx) (pins : List (Addr × Obj)) (H : Hp) (b : Addr) : Prop :=
 H b = none/\b ≠ X.env.locals/\b ∉ X.fs/\(b ∈ X.ex \/ X.s₀.heap.objs.size <= b)/\(∀ x c,X.env.cells.lookup x = some c->c ≠ b)/\∀ p ∈ X.pn ++ pins,p.1 ≠ b
theorem Inv.fpOk {X : Cx} {pins : List (Addr × Obj)} {σ : St} {H H' : Hp} {s : Shared} {b : Addr} (I : Inv X pins σ H s) (hb : s.heap.objs.size <= b) (hn : H' b = none) : FpOk X pins H' b:=by
 refine ⟨hn,Nat.ne_of_gt (Nat.lt_of_lt_of_le I.lt hb),I.nofs hb,.inr (Nat.le_trans I.sz hb),fun x c e z=>?_,fun p hp z=>?_⟩
 ·obtain ⟨v,q⟩:=I.cell x c e
  exact absurd (Nat.lt_of_lt_of_le q.lt (by rw [z]; exact hb)) (Nat.lt_irrefl _)
 ·exact absurd (Nat.lt_of_lt_of_le (Heap.lt_size (I.pin p hp).1) (by rw [z]; exact hb)) (Nat.lt_irrefl _)
structure Turn (P : Program) (w : World) (K : PySem.W.Frag) (tg : Expr) (J : It) (fp : List Addr) (it : Addr) (tn : Nat->Heap->Prop) : Prop where
 mem : it ∈ fp
 obj : ∀ i h,tn i h->∀ b ∈ fp,∃ o,h.get? b = some o/\∀ v,o.data ≠ .cell v
 keep : ∀ i h h',tn i h->(∀ b ∈ fp,∀ o,h.get? b = some o->h'.get? b = some o)->tn i h'
 item : ∀ (X : Cx),X.prog = P->X.w = w->X.K = K->X.calm = true->∀ (i : Nat) (pins : List (Addr × Obj)) (s : Shared) (σ : St) (H : Hp) (E : Value->Shared->Prop),Inv X pins σ H s->(∀ b ∈ fp,FpOk X pins H b)->tn i s.heap->J.go i H ->
  wpAny (model P w) X.A (pyNext (.ref it)) (fun r s1=>∃ u,r = some u /\
   wpAny (model P w) X.A (letOwnedTupleGo tg (.ref it) u) (fun _ s2=>∃ x H',Inv X pins σ H' s2/\RelV x u/\J.yld i H x H'/\tn (i + 1) s2.heap/\∀ b ∈ fp,H' b = none) E s1) E s
 done : ∀ (X : Cx),X.prog = P->X.w = w->X.K = K->X.calm = true->∀ (i : Nat) (pins : List (Addr × Obj)) (s : Shared) (σ : St) (H : Hp) (E : Value->Shared->Prop),Inv X pins σ H s->(∀ b ∈ fp,FpOk X pins H b)->tn i s.heap->J.stop i H ->
  wpAny (model P w) X.A (pyNext (.ref it)) (fun r s1=>r = none/\Inv X pins σ H s1) E s
 self : ∀ (A : Around) (i : Nat) (s : Shared) (Q : Value->Shared->Prop) (E : Value->Shared->Prop),tn i s.heap->Q (.ref it) s->wpAny (model P w) A (pyIter (.ref it)) Q E s
abbrev TI:=St->Hp->(It->Hp->Prop)->Prop
def PIE (X : Cx) (pins : List (Addr × Obj)) (σ : St) (tg : Expr) (R : It->Hp->Prop) (itv : Value) (s2 : Shared) : Prop :=
 ∃ (it : Addr) (fp : List Addr) (tn : Nat->Heap->Prop) (J : It) (H' : Hp),itv = .ref it/\Inv X pins σ H' s2/\Turn X.prog X.w X.K tg J fp it tn/\tn 0 s2.heap/\(∀ b ∈ fp,FpOk X pins H' b)/\R J H'
def PI (X : Cx) (tg iter : Expr) (wi : TI) : Prop :=
 ∀ (pins : List (Addr × Obj)) (s : Shared) (σ : St) (H : Hp) (R : It->Hp->Prop),Inv X pins σ H s->wi σ H R ->
  wpAny (model X.prog X.w) X.A (eval iter X.env) (fun v s1=>wpAny (model X.prog X.w) X.A (pyIter v) (PIE X pins σ tg R) X.xe s1) X.xe s
theorem go_of {M : Model} {A : Around} {E : Value->Shared->Prop} {s : Shared} {tg : Expr} {it : Addr} {u : Value} {o : Obj} {n : String} {vs : Array Value} {Q : Unit->Shared->Prop} (ho : s.heap.get? it = some o) (hc : o.cls = .type n) (hd : o.data = .fields vs)
    (hn : ["enumerate", "zip", "dict_itemiterator", "dict_reverseitemiterator", "odict_iterator", "itertools.zip_longest", "itertools.pairwise"].contains n = false) (hQ : Q () s) : wpAny M A (letOwnedTupleGo tg (.ref it) u) Q E s:=by
  unfold letOwnedTupleGo
  cases tg <;> first
    | exact wpAny_pure hQ
    | (cases u <;> first
        | exact wpAny_pure hQ
        | (refine wpAny_bind (wpAny_load ho ?_)
           rw [hc,hd]
           show wpAny M A (if (["enumerate", "zip", "dict_itemiterator", "dict_reverseitemiterator", "odict_iterator", "itertools.zip_longest", "itertools.pairwise"].contains n && vs[0]? == some (rawInt _)) = true then _ else _) Q E s
           rw [if_neg (by intro h; rw [hn,Bool.false_and] at h; cases h)]
           exact wpAny_pure hQ))
def Itl (K : PySem.W.Frag) (a : Addr) : It :=
 ⟨fun i H=>∃ xs x,SqL K H a xs/\xs[i]? = some x,fun i H x H'=>H' = H/\∀ xs,SqL K H a xs->xs[i]? = some x,fun i H=>∃ xs,SqL K H a xs/\xs.length <= i⟩
def Itt (K : PySem.W.Frag) (a : Addr) : It :=
 ⟨fun i H=>∃ xs x,SqT K H a xs/\xs[i]? = some x,fun i H x H'=>H' = H/\∀ xs,SqT K H a xs->xs[i]? = some x,fun i H=>∃ xs,SqT K H a xs/\xs.length <= i⟩
def Itr (lo : Int) (n : Nat) : It:=⟨fun i _=>i < n,fun i H x H'=>H' = H/\x = .int (lo + i),fun i _=>n <= i⟩
theorem turn_list {P : Program} {w : World} {K : PySem.W.Frag} {tg : Expr} (a it : Addr) : Turn P w K tg (Itl K a) [it] it (fun i h=>h.IsListIter it a i) where
 mem:=by simp
 obj:=fun i h st b hb=>by
  have e : b = it:=by simpa using hb
  subst e
  obtain ⟨o,e,c,d⟩:=st
  exact ⟨o,e,fun v z=>by rw [d] at z; cases z⟩
 keep:=fun i h h' st k=>st.at fun o e=>k it (by simp) o e
 item:=by
  intro X hP hw hK hc i pins s σ H E I hf st hg
  subst hP hw hK
  obtain ⟨xs,x,hq,hx⟩:=hg
  obtain ⟨its,rv,p,hz⟩:=I.list hq
  obtain ⟨u,hu,ru⟩:=rv.get hx
  obtain ⟨f0,f1,f2,f3,f4,f5⟩:=hf it (by simp)
  refine wpAny_pyNext_list_item st p.isList (x:=u) (by simpa using hu) fun h' st' sb=>?_
  have I1 : Inv X pins σ H { s with heap:=h' }:=I.turned (t':=s.toks) (fun b o hb e=>(sb.2 b hb).trans e) f0 f1 f3 f4 f5
  obtain ⟨o,e,c,d⟩:=id st'
  exact ⟨u,rfl,go_of (s:={ s with heap:=h' }) e c d (by decide) ⟨x,H,I1,ru,⟨rfl,fun ys hy=>by rw [I.list_inj hy hq]; exact hx⟩,st',fun b hb=>(hf b hb).1⟩⟩
 done:=by
  intro X hP hw hK hc i pins s σ H E I hf st hg
  subst hP hw hK
  obtain ⟨xs,hq,hx⟩:=hg
  obtain ⟨its,rv,p,hz⟩:=I.list hq
  obtain ⟨f0,f1,f2,f3,f4,f5⟩:=hf it (by simp)
  have hl:=rv.length
  exact wpAny_pyNext_list_end (I.ok.hd hc) st p.isList (by simp; omega) fun h' eb=>⟨rfl,I.turned (t':=s.toks) (fun b o hb e=>eb b o hb e) f0 f1 f3 f4 f5⟩
 self:=fun _ _ _ _ _ st h=>wpAny_pyIter_listiter st h
theorem turn_tuple {P : Program} {w : World} {K : PySem.W.Frag} {tg : Expr} (a it : Addr) : Turn P w K tg (Itt K a) [it] it (fun i h=>h.IsTupleIter it a i) where
 mem:=by simp
 obj:=fun i h st b hb=>by
  have e : b = it:=by simpa using hb
  subst e
  obtain ⟨o,e,c,d⟩:=st
  exact ⟨o,e,fun v z=>by rw [d] at z; cases z⟩
 keep:=fun i h h' st k=>st.at fun o e=>k it (by simp) o e
 item:=by
  intro X hP hw hK hc i pins s σ H E I hf st hg
  subst hP hw hK
  obtain ⟨xs,x,hq,hx⟩:=hg
  obtain ⟨its,rv,p,hz⟩:=I.tuple hq
  obtain ⟨u,hu,ru⟩:=rv.get hx
  obtain ⟨f0,f1,f2,f3,f4,f5⟩:=hf it (by simp)
  refine wpAny_pyNext_tuple_item st (show s.heap.IsTuple a its.toArray from p) (x:=u) (by simpa using hu) fun h' st' sb=>?_
  have I1 : Inv X pins σ H { s with heap:=h' }:=I.turned (t':=s.toks) (fun b o hb e=>(sb.2 b hb).trans e) f0 f1 f3 f4 f5
  obtain ⟨o,e,c,d⟩:=id st'
  exact ⟨u,rfl,go_of (s:={ s with heap:=h' }) e c d (by decide) ⟨x,H,I1,ru,⟨rfl,fun ys hy=>by rw [I.tuple_inj hy hq]; exact hx⟩,st',fun b hb=>(hf b hb).1⟩⟩
 done:=by
  intro X hP hw hK hc i pins s σ H E I hf st hg
  subst hP hw hK
  obtain ⟨xs,hq,hx⟩:=hg
  obtain ⟨its,rv,p,hz⟩:=I.tuple hq
  obtain ⟨f0,f1,f2,f3,f4,f5⟩:=hf it (by simp)
  have hl:=rv.length
  exact wpAny_pyNext_tuple_end (I.ok.hd hc) st (show s.heap.IsTuple a its.toArray from p) (by simp; omega) fun h' eb=>⟨rfl,I.turned (t':=s.toks) (fun b o hb e=>eb b o hb e) f0 f1 f3 f4 f5⟩
 self:=fun _ _ _ _ _ st h=>wpAny_pyIter_tupleiter st h
theorem turn_range {P : Program} {w : World} {K : PySem.W.Frag} {tg : Expr} (it : Addr) (lo : Int) (n : Nat) : Turn P w K tg (Itr lo n) [it] it (fun i h=>IsRangeIter h it (lo + (i : Nat) * 1) ((n : Int) - (i : Nat)) 1) where
 mem:=by simp
 obj:=fun i h st b hb=>by
  have e : b = it:=by simpa using hb
  subst e
  exact ⟨_,st,fun v z=>by
   have z' : Data.fields _ = Data.cell v:=z
   cases z'⟩
 keep:=fun i h h' st k=>k it (by simp) _ st
 item:=by
  intro X hP hw hK hc i pins s σ H E I hf st hg
  subst hP hw hK
  obtain ⟨f0,f1,f2,f3,f4,f5⟩:=hf it (by simp)
  have W:=Walks.range (prog:=X.prog) (w:=X.w) (I.ok.hd hc) it lo 1 n
  refine W.item i s _ _ hg st fun v h' tk hv st' kk=>?_
  obtain ⟨t,rfl⟩:=hv
  have I1 : Inv X pins σ H { s with heap:=h',toks:=tk }:=I.turned (fun b o hb e=>kk b o (by simpa using hb) e) f0 f1 f3 f4 f5
  refine ⟨_,rfl,go_of (s:={ s with heap:=h',toks:=tk }) (n:="range_iterator") st' rfl rfl (by decide) ⟨.int (lo + i),H,I1,⟨t,?_⟩,⟨rfl,rfl⟩,st',fun b hb=>(hf b hb).1⟩⟩
  rw [Int.mul_one]
 done:=by
  intro X hP hw hK hc i pins s σ H E I hf st hg
  subst hP hw hK
  obtain ⟨f0,f1,f2,f3,f4,f5⟩:=hf it (by simp)
  exact wpAny_pyNext_range_end (I.ok.hd hc) st (by have : n <= i:=hg; omega) fun h' eb=>⟨rfl,I.turned (t':=s.toks) (fun b o hb e=>eb b o hb e) f0 f1 f3 f4 f5⟩
 self:=fun _ _ _ _ _ st h=>wpAny_pyIter_rangeiter st h
end L2
namespace L2
open PySem PySem.Spec PyProof.Rows
section
variable {X : Cx} {tg : Expr}
def iList (K : PySem.W.Frag) (tl : TE) : TI:=fun σ H R=>tl σ H fun x H1=>∃ a,x = .ref a/\(∃ xs,SqL K H1 a xs)/\R (Itl K a) H1
def iTup (K : PySem.W.Frag) (tl : TE) : TI:=fun σ H R=>tl σ H fun x H1=>∃ a,x = .ref a/\(∃ xs,SqT K H1 a xs)/\R (Itt K a) H1
theorem pi_list {l : Expr} {tl : TE} (hl : PE X l tl) : PI X tg l (iList X.K tl):=by
 intro pins s σ H R I h
 refine thn (hl pins s σ H _ I h) fun v s1 ⟨x,H1,I1,r1,q1⟩=>?_
 obtain ⟨a,e,⟨xs,hq⟩,q⟩:=q1
 subst e
 cases r1
 obtain ⟨its,rv,p,hz⟩:=I1.list hq
 refine wpAny_pyIter_list p.isList ?_
 refine ⟨s1.heap.objs.size,[s1.heap.objs.size],_,_,H1,rfl,I1.kept (t':=s1.toks) fun b o e=>Heap.get?_push_of_some _ e,turn_list a _,⟨_,Heap.get?_push_size _ rfl,rfl,rfl⟩,fun b hb=>?_,q⟩
 have e : b = s1.heap.objs.size:=by simpa using hb
 subst e
 exact I1.fpOk (Nat.le_refl _) (I1.hok.fresh (Nat.le_refl _))
theorem pi_tup {l : Expr} {tl : TE} (hl : PE X l tl) : PI X tg l (iTup X.K tl):=by
 intro pins s σ H R I h
 refine thn (hl pins s σ H _ I h) fun v s1 ⟨x,H1,I1,r1,q1⟩=>?_
 obtain ⟨a,e,⟨xs,hq⟩,q⟩:=q1
 subst e
 cases r1
 obtain ⟨its,rv,p,hz⟩:=I1.tuple hq
 refine wpAny_pyIter_tuple (show s1.heap.IsTuple a its.toArray from p) ?_
 refine ⟨s1.heap.objs.size,[s1.heap.objs.size],_,_,H1,rfl,I1.kept (t':=s1.toks) fun b o e=>Heap.get?_push_of_some _ e,turn_tuple a _,⟨_,Heap.get?_push_size _ rfl,rfl,rfl⟩,fun b hb=>?_,q⟩
 have e : b = s1.heap.objs.size:=by simpa using hb
 subst e
 exact I1.fpOk (Nat.le_refl _) (I1.hok.fresh (Nat.le_refl _))
theorem range_it {pins : List (Addr × Obj)} {σ : St} {H : Hp} {s : Shared} {R : It->Hp->Prop} {E : Value->Shared->Prop} {lo hi : Int} {t u v : Tok} {tk : Nat} (I : Inv X pins σ H s) (h1 : -(2 ^ 62) <= lo) (h2 : lo < 2 ^ 62) (h3 : -(2 ^ 62) <= hi) (h4 : hi < 2 ^ 62)
  (q : R (Itr lo (hi - lo).toNat) H) : wpAny (model X.prog X.w) X.A (pyIter (.ref s.heap.objs.size)) (PIE X pins σ tg R) E { s with heap:=s.heap.push { cls:=.type "range",data:=.fields #[.int lo t,.int hi u,.int 1 v] },toks:=tk }:=by
 refine wpAny_pyIter_range (IsRange.new ..) (small_one h1 h2 h3 h4) ?_
 have I1 : Inv X pins σ H { s with heap:=s.heap.push { cls:=.type "range",data:=.fields #[.int lo t,.int hi u,.int 1 v] },toks:=tk }:=I.kept fun b o e=>Heap.get?_push_of_some _ e
 refine ⟨(s.heap.push { cls:=.type "range",data:=.fields #[.int lo t,.int hi u,.int 1 v] }).objs.size,[(s.heap.push { cls:=.type "range",data:=.fields #[.int lo t,.int hi u,.int 1 v] }).objs.size],_,_,H,rfl,
  I1.kept (t':=tk) fun b o e=>Heap.get?_push_of_some _ e,turn_range _ lo (hi - lo).toNat,?_,fun b hb=>?_,q⟩
 ·have e1 : lo + ((0 : Nat) : Int) * 1 = lo:=by simp
  have e2 : (((hi - lo).toNat : Nat) : Int) - ((0 : Nat) : Int) = Builtin.Range.rangeSize lo hi 1:=by rw [rangeSize_one]; split <;> omega
  show IsRangeIter _ _ (lo + ((0 : Nat) : Int) * 1) ((((hi - lo).toNat : Nat) : Int) - ((0 : Nat) : Int)) 1
  rw [e1,e2]
  exact Heap.get?_push_size _ rfl
 ·have e : b = (s.heap.push { cls:=.type "range",data:=.fields #[.int lo t,.int hi u,.int 1 v] }).objs.size:=by simpa using hb
  subst e
  exact I1.fpOk (Nat.le_refl _) (I1.hok.fresh (Nat.le_refl _))
def iRng1 (ta : TA) : TI:=fun σ H R=>ta σ H fun vs H1=>∃ j : Int,vs = [.int j]/\-(2 ^ 62) <= j/\j < 2 ^ 62/\R (Itr 0 j.toNat) H1
def iRng2 (ta : TA) : TI:=fun σ H R=>ta σ H fun vs H1=>∃ i j : Int,vs = [.int i,.int j]/\(-(2 ^ 62) <= i/\i < 2 ^ 62/\-(2 ^ 62) <= j/\j < 2 ^ 62)/\R (Itr i (j - i).toNat) H1
theorem pi_range1 {a : Expr} {ta : TA} {p pos : Pos} (hg : Gl X "range") (hm : X.mg "range" = none) (ha : PA X [a] ta) (hs : starEach [a] X.env = [(false,eval a X.env)]:=by rfl) : PI X tg (.Call (.Name "range" p) [a] [] pos) (iRng1 ta):=by
 intro pins s σ H R I h
 refine Call_ (ld_blt I hg hm boot_range (PyProof.Rows.callWith_type1 (thn (ha pos pins s σ H _ I h) fun us s1 ⟨vs,H1,I1,r1,q1⟩=>?_) hs rfl))
 obtain ⟨j,e,q1,q2,q⟩:=q1
 subst e
 cases r1 with
 | cons r rr =>
  cases rr
  obtain ⟨t,rfl⟩:=r
  exact call_range_1 (range_it I1 (by omega) (by omega) q1 q2 (by simpa using q))
def tFor (wi : TI) (g : TG) (tb : TS) : TS:=fun D σ H=>wi σ H fun J H1=>∃ W : Nat->Nat->St->Hp->Prop,(∃ m,W 0 m σ H1)/\∀ i m σ H,W i m σ H ->
 (J.stop i H/\D.nx σ H) \/ (J.go i H/\∃ N : St->Hp->Prop,(∀ σ' H',N σ' H'->∃ m',m' < m/\W (i + 1) m' σ' H')/\∀ x H',J.yld i H x H'->g x σ H' fun σ2 H2=>tb { D with nx:=N,ct:=N,bk:=D.nx } σ2 H2)
def pinsAt (fp : List Addr) (h : Heap) : List (Addr × Obj):=fp.filterMap fun b=>(h.get? b).map fun o=>(b,o)
theorem mem_pinsAt {fp : List Addr} {h : Heap} {b : Addr} {o : Obj} (hb : b ∈ fp) (e : h.get? b = some o) : (b,o) ∈ pinsAt fp h:=List.mem_filterMap.mpr ⟨b,hb,by rw [e]; rfl⟩
theorem of_pinsAt {fp : List Addr} {h : Heap} {p : Addr × Obj} (hp : p ∈ pinsAt fp h) : p.1 ∈ fp/\h.get? p.1 = some p.2:=by
 obtain ⟨b,hb,e⟩:=List.mem_filterMap.mp hp
 cases q : h.get? b with
 | none=>rw [q] at e; cases e
 | some o =>
  rw [q] at e
  have e' : (b,o) = p:=Option.some.inj e
  subst e'
  exact ⟨hb,q⟩
theorem Inv.pinned {pins : List (Addr × Obj)} {σ : St} {H : Hp} {s : Shared} {fp : List Addr} (I : Inv X pins σ H s) (hf : ∀ b ∈ fp,FpOk X pins H b) (ho : ∀ b ∈ fp,∃ o,s.heap.get? b = some o/\∀ v,o.data ≠ .cell v) : Inv X (pins ++ pinsAt fp s.heap) σ H s :=
 I.pins_of fun p hp=>(List.mem_append.mp hp).elim (fun z=>I.pin p (List.mem_append_right _ z)) fun z=>by
  obtain ⟨hb,e⟩:=of_pinsAt z
  obtain ⟨f0,f1,f2,_⟩:=hf p.1 hb
  obtain ⟨o,e',d⟩:=ho p.1 hb
  rw [e] at e'; cases e'
  exact ⟨e,f0,f1,f2,d⟩
theorem Inv.unpinned {pins pl : List (Addr × Obj)} {σ : St} {H : Hp} {s : Shared} (I : Inv X (pins ++ pl) σ H s) : Inv X pins σ H s:=I.pins_of fun p hp=>I.pin p (List.mem_append_right _ (List.mem_append_left _ hp))
theorem ps_for {iter : Expr} {body : List Stmt} {wi : TI} {g : TG} {tb : TS} {pos : Pos} (hp : PassesOwn (model X.prog X.w) X.A X.env X.xe) (hc : X.calm = true) (hi : PI X tg iter wi) (hg : PG X tg g) (hb : PSs X body tb)
  (hs : ∀ x,foldedSetIterable iter X.env x = pure x:=by intro _; rfl) : PS X (.For tg iter body [] pos) (tFor wi g tb):=by
 intro pins s σ H D I h
 refine wpAny_For (thn (hi pins s σ H _ I h) fun v s1 h1=>thn h1 fun itv s2 h2=>?_) hs
 obtain ⟨it,fp,tn,J,H2,e,I2,T,st2,f2,W,⟨m0,w0⟩,turn⟩:=h2
 subst e
 have stat : ∀ {H' : Hp},(∀ b ∈ fp,H' b = none)->∀ b ∈ fp,FpOk X pins H' b:=fun hn b hb=>⟨hn b hb,(f2 b hb).2⟩
 refine codeAny_forLoop_any (fun n s'=>∃ i σ' H',Inv X pins σ' H' s'/\tn i s'.heap/\(∀ b ∈ fp,H' b = none)/\W i n σ' H') ?_ m0 ⟨0,σ,H2,I2,st2,fun b hb=>(f2 b hb).1,w0⟩
 rintro n s3 ⟨i,σ3,H3,I3,st3,fr3,w3⟩
 rcases turn i n σ3 H3 w3 with ⟨stop,qn⟩ | ⟨go,N,hN,step⟩
 ·refine wpAny_passesOwn hp (thn (T.done X rfl rfl rfl hc i pins s3 σ3 H3 X.xe I3 (stat fr3) st3 stop) fun r s4 ⟨hr,I4⟩=>?_)
  subst hr
  exact wpAny_execs_nil ⟨σ3,H3,I4,qn⟩
 ·refine wpAny_passesOwn hp (thn (T.item X rfl rfl rfl hc i pins s3 σ3 H3 X.xe I3 (stat fr3) st3 go) fun r s4 ⟨u,hr,h4⟩=>?_)
  subst hr
  refine wpAny_passesOwn hp (thn h4 fun _ s5 ⟨x,H5,I5,r5,y5,st5,fr5⟩=>?_)
  have I5':=I5.pinned (stat fr5) (T.obj _ _ st5)
  refine wpAny_passesOwn hp (thn (hg _ s5 σ3 H5 x u _ I5' r5 (step x H5 y5)) fun _ s6 ⟨σ6,H6,I6,q6⟩=>?_)
  refine wpAny_passesOwn hp (thn (hb _ s6 σ6 H6 _ I6 q6) fun f s7 q7=>?_)
  have again : ∀ {σ7 : St} {H7 : Hp},Inv X (pins ++ pinsAt fp s5.heap) σ7 H7 s7->N σ7 H7->∃ m,m < n/\∃ i σ' H',Inv X pins σ' H' s7/\tn i s7.heap/\(∀ b ∈ fp,H' b = none)/\W i m σ' H':=fun {σ7 H7} I7 n7=>by
   obtain ⟨m',hm,w7⟩:=hN σ7 H7 n7
   refine ⟨m',hm,i + 1,σ7,H7,I7.unpinned,T.keep _ _ _ st5 fun b hb o e=>(I7.pin (b,o) (List.mem_append_right _ (List.mem_append_right _ (mem_pinsAt hb e)))).1,fun b hb=>?_,w7⟩
   obtain ⟨o,e,d⟩:=T.obj _ _ st5 b hb
   exact (I7.pin (b,o) (List.mem_append_right _ (List.mem_append_right _ (mem_pinsAt hb e)))).2.1
  cases f with
  | next=>obtain ⟨σ7,H7,I7,n7⟩:=q7; exact again I7 n7
  | cont=>obtain ⟨σ7,H7,I7,n7⟩:=q7; exact again I7 n7
  | brk=>obtain ⟨σ7,H7,I7,q7⟩:=q7; exact ⟨σ7,H7,I7.unpinned,q7⟩
  | ret v=>obtain ⟨x7,σ7,H7,I7,r7,q7⟩:=q7; exact ⟨x7,σ7,H7,I7.unpinned,r7,q7⟩
end
theorem for_list {K : PySem.W.Frag} {a : Addr} {xs : List V} {g : TG} {tb : TS} {D : Ends} {σ : St} {H : Hp} (Pv : Nat->St->Hp->Prop) (h0 : Pv 0 σ H) (hl : ∀ i σ H,i <= xs.length->Pv i σ H->SqL K H a xs)
  (hs : ∀ i x σ H,xs[i]? = some x->Pv i σ H->g x σ H fun σ2 H2=>tb { D with nx:=Pv (i + 1),ct:=Pv (i + 1),bk:=D.nx } σ2 H2) (hd : ∀ σ H,Pv xs.length σ H->D.nx σ H) :
  ∃ W : Nat->Nat->St->Hp->Prop,(∃ m,W 0 m σ H)/\∀ i m σ H,W i m σ H ->
   ((Itl K a).stop i H/\D.nx σ H) \/ ((Itl K a).go i H/\∃ N : St->Hp->Prop,(∀ σ' H',N σ' H'->∃ m',m' < m/\W (i + 1) m' σ' H')/\∀ x H',(Itl K a).yld i H x H'->g x σ H' fun σ2 H2=>tb { D with nx:=N,ct:=N,bk:=D.nx } σ2 H2):=by
 refine ⟨fun i m σ H=>m = xs.length - i/\i <= xs.length/\Pv i σ H,⟨xs.length,by simp,Nat.zero_le _,h0⟩,?_⟩
 rintro i m σ H ⟨rfl,hi,p⟩
 have q:=hl i σ H hi p
 by_cases hlt : i < xs.length
 ·refine .inr ⟨⟨xs,xs[i],q,by simp [hlt]⟩,Pv (i + 1),fun σ' H' p'=>⟨xs.length - (i + 1),by omega,rfl,hlt,p'⟩,fun x H' y=>?_⟩
  obtain ⟨e,y⟩:=y
  subst e
  exact hs i x σ _ (y xs q) p
 ·have e : i = xs.length:=by omega
  subst e
  exact .inl ⟨⟨xs,q,Nat.le_refl _⟩,hd σ H p⟩
theorem for_tup {K : PySem.W.Frag} {a : Addr} {xs : List V} {g : TG} {tb : TS} {D : Ends} {σ : St} {H : Hp} (Pv : Nat->St->Hp->Prop) (h0 : Pv 0 σ H) (hl : ∀ i σ H,i <= xs.length->Pv i σ H->SqT K H a xs)
  (hs : ∀ i x σ H,xs[i]? = some x->Pv i σ H->g x σ H fun σ2 H2=>tb { D with nx:=Pv (i + 1),ct:=Pv (i + 1),bk:=D.nx } σ2 H2) (hd : ∀ σ H,Pv xs.length σ H->D.nx σ H) :
  ∃ W : Nat->Nat->St->Hp->Prop,(∃ m,W 0 m σ H)/\∀ i m σ H,W i m σ H ->
   ((Itt K a).stop i H/\D.nx σ H) \/ ((Itt K a).go i H/\∃ N : St->Hp->Prop,(∀ σ' H',N σ' H'->∃ m',m' < m/\W (i + 1) m' σ' H')/\∀ x H',(Itt K a).yld i H x H'->g x σ H' fun σ2 H2=>tb { D with nx:=N,ct:=N,bk:=D.nx } σ2 H2):=by
 refine ⟨fun i m σ H=>m = xs.length - i/\i <= xs.length/\Pv i σ H,⟨xs.length,by simp,Nat.zero_le _,h0⟩,?_⟩
 rintro i m σ H ⟨rfl,hi,p⟩
 have q:=hl i σ H hi p
 by_cases hlt : i < xs.length
 ·refine .inr ⟨⟨xs,xs[i],q,by simp [hlt]⟩,Pv (i + 1),fun σ' H' p'=>⟨xs.length - (i + 1),by omega,rfl,hlt,p'⟩,fun x H' y=>?_⟩
  obtain ⟨e,y⟩:=y
  subst e
  exact hs i x σ _ (y xs q) p
 ·have e : i = xs.length:=by omega
  subst e
  exact .inl ⟨⟨xs,q,Nat.le_refl _⟩,hd σ H p⟩
theorem for_range {lo : Int} {n : Nat} {g : TG} {tb : TS} {D : Ends} {σ : St} {H : Hp} (Pv : Nat->St->Hp->Prop) (h0 : Pv 0 σ H)
  (hs : ∀ i σ H,i < n->Pv i σ H->g (.int (lo + i)) σ H fun σ2 H2=>tb { D with nx:=Pv (i + 1),ct:=Pv (i + 1),bk:=D.nx } σ2 H2) (hd : ∀ σ H,Pv n σ H->D.nx σ H) :
  ∃ W : Nat->Nat->St->Hp->Prop,(∃ m,W 0 m σ H)/\∀ i m σ H,W i m σ H ->
   ((Itr lo n).stop i H/\D.nx σ H) \/ ((Itr lo n).go i H/\∃ N : St->Hp->Prop,(∀ σ' H',N σ' H'->∃ m',m' < m/\W (i + 1) m' σ' H')/\∀ x H',(Itr lo n).yld i H x H'->g x σ H' fun σ2 H2=>tb { D with nx:=N,ct:=N,bk:=D.nx } σ2 H2):=by
 refine ⟨fun i m σ H=>m = n - i/\i <= n/\Pv i σ H,⟨n,by simp,Nat.zero_le _,h0⟩,?_⟩
 rintro i m σ H ⟨rfl,hi,p⟩
 by_cases hlt : i < n
 ·refine .inr ⟨hlt,Pv (i + 1),fun σ' H' p'=>⟨n - (i + 1),by omega,rfl,hlt,p'⟩,fun x H' y=>?_⟩
  obtain ⟨e,y⟩:=y
  subst e y
  exact hs i σ _ hlt p
 ·have e : i = n:=by omega
  subst e
  exact .inl ⟨Nat.le_refl _,hd σ H p⟩
end L2
namespace L2
open PySem PySem.Spec PyProof.Rows
abbrev R2:=V->V->Hp->VK->Prop
def OpR (X : Cx) (f : Value->Value->Sem Value) (r : R2) : Prop :=
 ∀ (pins : List (Addr × Obj)) (s : Shared) (σ : St) (H : Hp) (x y : V) (v u : Value) (Q : VK),Inv X pins σ H s->RelV x v->RelV y u->r x y H Q ->
  wpAny (model X.prog X.w) X.A (f v u) (EP X pins σ Q) X.xe s
def UnR (X : Cx) (f : Value->Sem Value) (r : V->Hp->VK->Prop) : Prop :=
 ∀ (pins : List (Addr × Obj)) (s : Shared) (σ : St) (H : Hp) (x : V) (v : Value) (Q : VK),Inv X pins σ H s->RelV x v->r x H Q ->
  wpAny (model X.prog X.w) X.A (f v) (EP X pins σ Q) X.xe s
def CallR (X : Cx) (f : Value) (r : List V->Hp->VK->Prop) : Prop :=
 ∀ (pins : List (Addr × Obj)) (s : Shared) (σ : St) (H : Hp) (xs : List V) (us : List Value) (Q : VK),Inv X pins σ H s->Vals xs us->r xs H Q ->
  wpAny (model X.prog X.w) X.A (call f us) (EP X pins σ Q) X.xe s
def TruR (X : Cx) (r : V->Hp->(Bool->Hp->Prop)->Prop) : Prop :=
 ∀ (pins : List (Addr × Obj)) (s : Shared) (σ : St) (H : Hp) (x : V) (v : Value) (Q : Bool->Hp->Prop),Inv X pins σ H s->RelV x v->r x H Q ->
  wpAny (model X.prog X.w) X.A (truthy v) (TP X pins σ Q) X.xe s
def tOp (r : R2) (ta tb : TE) : TE:=fun σ H Q=>ta σ H fun x H1=>tb σ H1 fun y H2=>r x y H2 Q
def tUn (r : V->Hp->VK->Prop) (ta : TE) : TE:=fun σ H Q=>ta σ H fun x H1=>r x H1 Q
def rI (C : Int->Int->Prop) (g : Int->Int->V) : R2:=fun x y H Q=>∃ i j,x = .int i/\y = .int j/\C i j/\Q (g i j) H
def rI0 (g : Int->Int->V) : R2:=fun x y H Q=>∃ i j,x = .int i/\y = .int j/\Q (g i j) H
def rU (g : Int->V) : V->Hp->VK->Prop:=fun x H Q=>∃ i,x = .int i/\Q (g i) H
section
variable {X : Cx} {a b c : Expr} {ta tb tc : TE} {pos : Pos}
theorem binT (ha : PE X a ta) (hb : PE X b tb) {pins : List (Addr × Obj)} {s : Shared} {σ : St} {H : Hp} {R : V->V->Hp->Prop} (I : Inv X pins σ H s)
  (h : ta σ H fun x H1=>tb σ H1 fun y H2=>R x y H2) {Q : Value->Shared->Prop} {f : Value->Value->Sem Value}
  (hf : ∀ v u s2 x y H2,Inv X pins σ H2 s2->RelV x v->RelV y u->R x y H2->wpAny (model X.prog X.w) X.A (f v u) Q X.xe s2) :
  wpAny (model X.prog X.w) X.A (eval a X.env) (fun v s₁=>wpAny (model X.prog X.w) X.A (eval b X.env) (fun u s₂=>wpAny (model X.prog X.w) X.A (f v u) Q X.xe s₂) X.xe s₁) X.xe s:=by
 refine thn (ha pins s σ H _ I h) fun v s1 ⟨x,H1,I1,r1,q1⟩=>?_
 refine thn (hb pins s1 σ H1 _ I1 q1) fun u s2 ⟨y,H2,I2,r2,q2⟩=>?_
 exact hf v u s2 x y H2 I2 r1 r2 q2
theorem pe_op {op : Operator} {r : R2} (ho : OpR X (binaryOp op) r) (ha : PE X a ta) (hb : PE X b tb) : PE X (.BinOp a op b pos) (tOp r ta tb):=by
 intro pins s σ H Q I h
 exact wpAny_BinOp (binT ha hb I h fun v u s2 x y H2 I2 rx ry q=>ho pins s2 σ H2 x y v u Q I2 rx ry q)
theorem pe_un {op : UnaryOp} {r : V->Hp->VK->Prop} (ho : UnR X (unaryOp op) r) (ha : PE X a ta) : PE X (.UnaryOp op a pos) (tUn r ta):=by
 intro pins s σ H Q I h
 exact UnaryOp_ (thn (ha pins s σ H _ I h) fun v s1 ⟨x,H1,I1,r1,q1⟩=>ho pins s1 σ H1 x v Q I1 r1 q1)
theorem opI {f : Value->Value->Sem Value} {C : Int->Int->Prop} {g : Int->Int->Int}
  (rule : ∀ (i j : Int) (t u : Tok) (s : Shared) (Q : Value->Shared->Prop) (E : Value->Shared->Prop),C i j->Q (.int (g i j) s.toks) { s with toks:=s.toks + 1 }->wpAny (model X.prog X.w) X.A (f (.int i t) (.int j u)) Q E s) :
  OpR X f (rI C fun i j=>.int (g i j)):=by
 intro pins s σ H x y v u Q I rx ry h
 obtain ⟨i,j,rfl,rfl,hc,q⟩:=h
 obtain ⟨t,rfl⟩:=rx
 obtain ⟨t',rfl⟩:=ry
 exact rule i j t t' s _ _ hc ⟨.int (g i j),H,I.tok _,⟨_,rfl⟩,q⟩
theorem opI0 {f : Value->Value->Sem Value} {g : Int->Int->Int}
  (rule : ∀ (i j : Int) (t u : Tok) (s : Shared) (Q : Value->Shared->Prop) (E : Value->Shared->Prop),Q (.int (g i j) s.toks) { s with toks:=s.toks + 1 }->wpAny (model X.prog X.w) X.A (f (.int i t) (.int j u)) Q E s) :
  OpR X f (rI0 fun i j=>.int (g i j)):=by
 intro pins s σ H x y v u Q I rx ry h
 obtain ⟨i,j,rfl,rfl,q⟩:=h
 obtain ⟨t,rfl⟩:=rx
 obtain ⟨t',rfl⟩:=ry
 exact rule i j t t' s _ _ ⟨.int (g i j),H,I.tok _,⟨_,rfl⟩,q⟩
theorem opB0 {f : Value->Value->Sem Value} {g : Int->Int->Bool}
  (rule : ∀ (i j : Int) (t u : Tok) (s : Shared) (Q : Value->Shared->Prop) (E : Value->Shared->Prop),Q (.bool (g i j)) s->wpAny (model X.prog X.w) X.A (f (.int i t) (.int j u)) Q E s) :
  OpR X f (rI0 fun i j=>.bl (g i j)):=by
 intro pins s σ H x y v u Q I rx ry h
 obtain ⟨i,j,rfl,rfl,q⟩:=h
 obtain ⟨t,rfl⟩:=rx
 obtain ⟨t',rfl⟩:=ry
 exact rule i j t t' s _ _ ⟨.bl (g i j),H,I,rfl,q⟩
def CDiv (i j : Int) : Prop:=0 < j/\j < 1073741824
def CDivN (i j : Int) : Prop:=j ≠ 0/\j.natAbs < 1073741824
def CPow (i j : Int) : Prop:=0 <= j/\j <= 1000000/\i.natAbs < 2 ^ 64
def CMul (i j : Int) : Prop:=(-(2 ^ 64) < i/\i < 2 ^ 64) \/ (-(2 ^ 64) < j/\j < 2 ^ 64)
theorem CMul.ok {i j : Int} (h : CMul i j) : IntMulOk i j:=by
 rcases h with ⟨h1,h2⟩ | ⟨h1,h2⟩
 ·exact .of_left (intBits_le_64 h1 h2)
 ·exact .of_right (intBits_le_64 h1 h2)
theorem op_add : OpR X (binaryOp .Add) (rI0 fun i j=>.int (i + j)):=opI0 fun _ _ _ _ _ _ _ q=>add_int q
theorem op_sub : OpR X (binaryOp .Sub) (rI0 fun i j=>.int (i - j)):=opI0 fun _ _ _ _ _ _ _ q=>sub_int q
theorem op_mul : OpR X (binaryOp .Mult) (rI CMul fun i j=>.int (i * j)):=opI fun _ _ _ _ _ _ _ hc q=>mul_int q hc.ok
theorem op_fdiv : OpR X (binaryOp .FloorDiv) (rI CDiv fun i j=>.int (i / j)):=opI fun i j _ _ _ _ _ hc q=>by
 have h1 : (0 : Int) < j:=hc.1
 have h2 : j < 1073741824:=hc.2
 exact floordiv_int (by omega) (by rw [Int.fdiv_eq_ediv_of_nonneg i (by omega)]; exact q) (.inl (PyProof.noPylong_small (by omega)))
theorem op_mod : OpR X (binaryOp .Mod) (rI (fun _ j=>0 < j) fun i j=>.int (i % j)):=opI fun i j _ _ _ _ _ hc q=>by
 have h1 : (0 : Int) < j:=hc
 exact mod_int' (by omega) (by rw [Int.fmod_eq_emod_of_nonneg i (by omega)]; exact q)
theorem op_pow : OpR X (binaryOp .Pow) (rI CPow fun i j=>.int (i ^ j.toNat)):=opI fun _ _ _ _ _ _ _ hc q=>pow_int_small hc.1 hc.2.1 hc.2.2 q
theorem unI {f : Value->Sem Value} {g : Int->Int}
  (rule : ∀ (i : Int) (t : Tok) (s : Shared) (Q : Value->Shared->Prop) (E : Value->Shared->Prop),Q (.int (g i) s.toks) { s with toks:=s.toks + 1 }->wpAny (model X.prog X.w) X.A (f (.int i t)) Q E s) :
  UnR X f (rU fun i=>.int (g i)):=by
 intro pins s σ H x v Q I rx h
 obtain ⟨i,rfl,q⟩:=h
 obtain ⟨t,rfl⟩:=rx
 exact rule i t s _ _ ⟨.int (g i),H,I.tok _,⟨_,rfl⟩,q⟩
theorem un_neg : UnR X (unaryOp .USub) (rU fun i=>.int (-i)):=unI fun _ _ _ _ _ q=>neg_int q
end
def scal : V->V->Bool
 | .non,.non=>true | .non,.int _=>true | .int _,.non=>true | .non,.bl _=>true | .bl _,.non=>true | .non,.str _=>true | .str _,.non=>true
 | .int _,.int _=>true | .bl _,.bl _=>true | .str _,.str _=>true | .byt _,.byt _=>true
 | .int _,.str _=>true | .str _,.int _=>true | .bl _,.str _=>true | .str _,.bl _=>true
 | _,_=>false
def rEq : R2:=fun x y H Q=>scal x y = true/\Q (.bl (decide (x = y))) H
def rNe : R2:=fun x y H Q=>scal x y = true/\Q (.bl (!decide (x = y))) H
theorem dec_int {i j : Int} : decide (V.int i = V.int j) = (i == j):=by
 rw [Bool.eq_iff_iff]
 simp
theorem dec_bl {i j : Bool} : decide (V.bl i = V.bl j) = (i == j):=by
 rw [Bool.eq_iff_iff]
 simp
theorem dec_str {i j : Str} : decide (V.str i = V.str j) = (i == j):=by
 rw [Bool.eq_iff_iff]
 simp
theorem dec_byt {i j : Array UInt8} : decide (V.byt i = V.byt j) = (i.toList == j.toList):=by
 rw [Bool.eq_iff_iff]
 cases i
 cases j
 simp
section
variable {X : Cx} {a b c : Expr} {ta tb tc : TE} {pos : Pos}
theorem fin_bl {pins : List (Addr × Obj)} {σ : St} {H : Hp} {s : Shared} {Q : VK} {k k' : Bool} (I : Inv X pins σ H s) (q : Q (.bl k) H) (e : k = k') : EP X pins σ Q (.bool k') s:=by
 subst e
 exact ⟨.bl k,H,I,rfl,q⟩
theorem op_eq : OpR X (compareOp .Eq) rEq:=by
 intro pins s σ H x y v u Q I rx ry h
 obtain ⟨hs,q⟩:=h
 cases x with
 | non =>
  cases rx
  cases y with
  | non=>cases ry; exact PySem.EqNone.eq_none_none (fin_bl I q (by simp))
  | bl j=>cases ry; exact PySem.EqNone.eq_none_bool (fin_bl I q (by simp))
  | int j=>obtain ⟨t',rfl⟩:=ry; exact PySem.EqNone.eq_none_int (fin_bl I q (by simp))
  | str j=>obtain ⟨t',rfl⟩:=ry; exact PySem.EqNone.eq_none_str (fin_bl I q (by simp))
  | _=>exact absurd (show false = true from hs) Bool.false_ne_true
 | bl i =>
  cases rx
  cases y with
  | non=>cases ry; exact PySem.EqNone.eq_bool_none (fin_bl I q (by simp))
  | bl j=>cases ry; exact eq_bool (fin_bl I q dec_bl)
  | str j=>obtain ⟨t',rfl⟩:=ry; exact PySem.EqMixed.eq_bool_str (fin_bl I q (by simp))
  | _=>exact absurd (show false = true from hs) Bool.false_ne_true
 | int i =>
  obtain ⟨t,rfl⟩:=rx
  cases y with
  | non=>cases ry; exact PySem.EqNone.eq_int_none (fin_bl I q (by simp))
  | int j=>obtain ⟨t',rfl⟩:=ry; exact eq_int (fin_bl I q dec_int)
  | str j=>obtain ⟨t',rfl⟩:=ry; exact PySem.EqMixed.eq_int_str (fin_bl I q (by simp))
  | _=>exact absurd (show false = true from hs) Bool.false_ne_true
 | str i =>
  obtain ⟨t,rfl⟩:=rx
  cases y with
  | non=>cases ry; exact PySem.EqNone.eq_str_none (fin_bl I q (by simp))
  | bl j=>cases ry; exact PySem.EqMixed.eq_str_bool (fin_bl I q (by simp))
  | int j=>obtain ⟨t',rfl⟩:=ry; exact PySem.EqMixed.eq_str_int (fin_bl I q (by simp))
  | str j=>obtain ⟨t',rfl⟩:=ry; exact eq_str (fin_bl I q dec_str)
  | _=>exact absurd (show false = true from hs) Bool.false_ne_true
 | byt i =>
  obtain ⟨t,rfl⟩:=rx
  cases y with
  | byt j=>obtain ⟨t',rfl⟩:=ry; exact PySem.W.eq_bytes (fin_bl I q dec_byt)
  | _=>exact absurd (show false = true from hs) Bool.false_ne_true
 | _=>cases y <;> exact absurd (show false = true from hs) Bool.false_ne_true
theorem op_ne : OpR X (compareOp .NotEq) rNe:=by
 intro pins s σ H x y v u Q I rx ry h
 obtain ⟨hs,q⟩:=h
 cases x with
 | non =>
  cases rx
  cases y with
  | non=>cases ry; exact PySem.EqNone.ne_none_none (fin_bl I q (by simp))
  | bl j=>cases ry; exact PySem.EqNone.ne_none_bool (fin_bl I q (by simp))
  | int j=>obtain ⟨t',rfl⟩:=ry; exact PySem.EqNone.ne_none_int (fin_bl I q (by simp))
  | str j=>obtain ⟨t',rfl⟩:=ry; exact PySem.EqNone.ne_none_str (fin_bl I q (by simp))
  | _=>exact absurd (show false = true from hs) Bool.false_ne_true
 | bl i =>
  cases rx
  cases y with
  | non=>cases ry; exact PySem.EqNone.ne_bool_none (fin_bl I q (by simp))
  | bl j=>cases ry; exact ne_bool (fin_bl I q (congrArg not dec_bl))
  | str j=>obtain ⟨t',rfl⟩:=ry; exact PySem.EqMixed.ne_bool_str (fin_bl I q (by simp))
  | _=>exact absurd (show false = true from hs) Bool.false_ne_true
 | int i =>
  obtain ⟨t,rfl⟩:=rx
  cases y with
  | non=>cases ry; exact PySem.EqNone.ne_int_none (fin_bl I q (by simp))
  | int j=>obtain ⟨t',rfl⟩:=ry; exact ne_int (fin_bl I q (congrArg not dec_int))
  | str j=>obtain ⟨t',rfl⟩:=ry; exact PySem.EqMixed.ne_int_str (fin_bl I q (by simp))
  | _=>exact absurd (show false = true from hs) Bool.false_ne_true
 | str i =>
  obtain ⟨t,rfl⟩:=rx
  cases y with
  | non=>cases ry; exact PySem.EqNone.ne_str_none (fin_bl I q (by simp))
  | bl j=>cases ry; exact PySem.EqMixed.ne_str_bool (fin_bl I q (by simp))
  | int j=>obtain ⟨t',rfl⟩:=ry; exact PySem.EqMixed.ne_str_int (fin_bl I q (by simp))
  | str j=>obtain ⟨t',rfl⟩:=ry; exact ne_str (fin_bl I q (congrArg not dec_str))
  | _=>exact absurd (show false = true from hs) Bool.false_ne_true
 | byt i =>
  obtain ⟨t,rfl⟩:=rx
  cases y with
  | byt j=>obtain ⟨t',rfl⟩:=ry; exact PySem.W.ne_bytes (fin_bl I q (congrArg not dec_byt))
  | _=>exact absurd (show false = true from hs) Bool.false_ne_true
 | _=>cases y <;> exact absurd (show false = true from hs) Bool.false_ne_true
theorem op_lt : OpR X (compareOp .Lt) (rI0 fun i j=>.bl (decide (i < j))):=opB0 fun _ _ _ _ _ _ _ q=>lt_int q
theorem op_le : OpR X (compareOp .LtE) (rI0 fun i j=>.bl (decide (i <= j))):=opB0 fun _ _ _ _ _ _ _ q=>le_int q
theorem op_gt : OpR X (compareOp .Gt) (rI0 fun i j=>.bl (decide (j < i))):=opB0 fun _ _ _ _ _ _ _ q=>gt_int q
theorem op_ge : OpR X (compareOp .GtE) (rI0 fun i j=>.bl (decide (j <= i))):=opB0 fun _ _ _ _ _ _ _ q=>ge_int q
def isObj : HO->Bool
 | .lst _=>true
 | .ins _ _ _=>true
 | _=>false
theorem nomark (b : Expr) {op : CmpOp} (h : op ≠ .In:=by decide) (h2 : op ≠ .NotIn:=by decide) : behindInMarks op b = false:=by
 have e1 : (op == CmpOp.In) = false:=by cases op <;> first | rfl | exact absurd rfl h
 have e2 : (op == CmpOp.NotIn) = false:=by cases op <;> first | rfl | exact absurd rfl h2
 cases b <;> simp [behindInMarks,e1,e2]
theorem pe_cmpR {op : CmpOp} {r : R2} (ho : OpR X (compareOp op) r) (ha : PE X a ta) (hb : PE X b tb) (hm : behindInMarks op b = false) : PE X (.Compare a [op] [b] pos) (tOp r ta tb):=by
 intro pins s σ H Q I h
 exact wpAny_Compare1 (binT ha hb I h fun v u s2 x y H2 I2 rx ry q=>ho pins s2 σ H2 x y v u Q I2 rx ry q) hm
def tTest (t : TE) : TT:=fun σ H Q=>t σ H fun x H'=>∃ k,x = .bl k/\Q k H'
theorem pt_cmpR {op : CmpOp} {r : R2} (ho : OpR X (compareOp op) r) (ha : PE X a ta) (hb : PE X b tb) (hm : behindInMarks op b = false) : PT X (.Compare a [op] [b] pos) (tTest (tOp r ta tb)):=by
 intro pins s σ H Q I h
 refine wpAny_isTrue_Compare1 (thn (ha pins s σ H _ I h) fun v s1 ⟨x,H1,I1,r1,q1⟩=>thn (hb pins s1 σ H1 _ I1 q1) fun u s2 ⟨y,H2,I2,r2,q2⟩ =>
  thn (ho pins s2 σ H2 x y v u _ I2 r1 r2 q2) fun c s3 ⟨z,H3,I3,r3,k,e,q3⟩=>?_) hm
 subst e
 cases r3
 exact wpAny_truthy_bool ⟨H3,I3,q3⟩
def tChain (r r' : R2) (ta tb tc : TE) : TE:=fun σ H Q=>ta σ H fun x H1=>tb σ H1 fun y H2=>r x y H2 fun z H3=>∃ k,z = .bl k /\
 (if k = true then tc σ H3 fun w' H4=>r' y w' H4 Q else Q (.bl false) H3)
theorem pe_chain {op op' : CmpOp} {r r' : R2} (ho : OpR X (compareOp op) r) (ho' : OpR X (compareOp op') r') (ha : PE X a ta) (hb : PE X b tb) (hc : PE X c tc)
  (hm : lastMarks [op,op'] [b,c] = false:=by with_unfolding_all rfl) : PE X (.Compare a [op,op'] [b,c] pos) (tChain r r' ta tb tc):=by
 intro pins s σ H Q I h
 refine Compare_chain (thn (ha pins s σ H _ I h) fun v s1 ⟨x,H1,I1,r1,q1⟩=>chain_link (thn (hb pins s1 σ H1 _ I1 q1) fun u s2 ⟨y,H2,I2,r2,q2⟩ =>
  thn (ho pins s2 σ H2 x y v u _ I2 r1 r2 q2) fun d s3 ⟨z,H3,I3,r3,k,e,q3⟩=>?_)) hm
 subst e
 cases r3
 refine wpAny_truthy_bool ?_
 cases k with
 | false=>exact ite_ff ⟨.bl false,H3,I3,rfl,q3⟩
 | true=>exact ite_tt (chain_last (thn (hc pins s3 σ H3 _ I3 q3) fun w' s4 ⟨z',H4,I4,r4,q4⟩=>ho' pins s4 σ H4 y z' u w' Q I4 r2 r4 q4))
def TruV (K : PySem.W.Frag) (x : V) (H : Hp) (k : Bool) : Prop :=
 match x with
 | .non=>k = false
 | .bl b=>k = b
 | .int i=>k = (i != 0)
 | .str y=>y.length <= sizeLine/\k = ((y.length : Int) != 0)
 | .byt y=>y.size <= sizeLine/\k = ((y.size : Int) != 0)
 | .ref p=>(∃ xs,SqL K H p xs/\k = !xs.isEmpty) \/ (∃ xs,SqT K H p xs/\k = !xs.isEmpty) \/ ∃ kvs,H p = some (.dK kvs)/\k = !kvs.isEmpty
 | _=>False
theorem line63 : (sizeLine : Nat) < 2 ^ 63:=by rw [sizeLine_eq]; decide
def PlainIxT (b : Expr) : Prop:=∀ o i,subscripted b false o i = operate [o,i] (getItem o i)
theorem vals1 {x : V} {us : List Value} (r : Vals [x] us) : ∃ u,us = [u]/\RelV x u:=by
 cases r with
 | cons r1 r2=>cases r2; exact ⟨_,rfl,r1⟩
theorem vals2 {x y : V} {us : List Value} (r : Vals [x,y] us) : ∃ u w',us = [u,w']/\RelV x u/\RelV y w':=by
 cases r with
 | cons r1 r2 =>
  cases r2 with
  | cons r3 r4=>cases r4; exact ⟨_,_,rfl,r1,r3⟩
theorem call_abs : CallR X (.builtin "abs") (fun xs H Q=>∃ i,xs = [.int i]/\Q (.int (if i < 0 then -i else i)) H):=by
 intro pins s σ H xs us Q I r h
 obtain ⟨i,rfl,q⟩:=h
 obtain ⟨u,rfl,t,rfl⟩:=vals1 r
 exact call_abs_int fun u tk=>⟨.int (if i < 0 then -i else i),H,I.tok _,⟨_,rfl⟩,q⟩
theorem call_min2 (hc : X.calm = true) : CallR X (.builtin "min") (fun xs H Q=>∃ i j,xs = [.int i,.int j]/\Q (.int (if j < i then j else i)) H):=by
 intro pins s σ H xs us Q I r h
 obtain ⟨i,j,rfl,q⟩:=h
 obtain ⟨u,w',rfl,⟨t,rfl⟩,⟨t',rfl⟩⟩:=vals2 r
 refine min_two_ints (I.ok.hd hc) fun h' tk k=>⟨_,H,I.kept k,?_,q⟩
 by_cases hj : j < i
 ·rw [if_pos hj,if_pos hj]; exact ⟨_,rfl⟩
 ·rw [if_neg hj,if_neg hj]; exact ⟨_,rfl⟩
theorem call_int1 : CallR X (.type "int") (fun xs H Q=>(∃ i,xs = [.int i]/\Q (.int i) H) \/ ∃ k,xs = [.bl k]/\Q (.int (if k then 1 else 0)) H):=by
 intro pins s σ H xs us Q I r h
 rcases h with ⟨i,rfl,q⟩ | ⟨k,rfl,q⟩
 ·obtain ⟨u,rfl,t,rfl⟩:=vals1 r
  exact call_int_int ⟨.int i,H,I,⟨_,rfl⟩,q⟩
 ·obtain ⟨u,rfl,r1⟩:=vals1 r
  cases r1
  exact call_int_bool ⟨.int (if k then 1 else 0),H,I.tok _,⟨_,rfl⟩,q⟩
def LenV (K : PySem.W.Frag) (x : V) (H : Hp) (n : Nat) : Prop :=
 match x with
 | .str y=>y.length <= sizeLine/\n = y.length
 | .byt y=>y.size <= sizeLine/\n = y.size
 | .ref p=>(∃ xs,SqL K H p xs/\n = xs.length) \/ ∃ xs,SqT K H p xs/\n = xs.length
 | _=>False
end
end L2
namespace L2
open PySem PySem.Spec PyProof.Rows
structure ObjM (h : Heap) (x dx C : Addr) (mA : Str->Option Value) : Prop where
 obj : h.get? x = some (PySem.W.instObj C dx)
 ns : h.Ns1 dx mA
 ne : dx ≠ x
theorem lookIn_ns {h : Heap} {dx : Addr} {mA : Str->Option Value} (n : h.Ns1 dx mA) : ∃ od,h.get? dx = some od/\∀ name,PySem.W.lookIn name od = some (mA name):=by
 obtain ⟨o,es,ep,ho,hd,hk,_,hm⟩:=n
 refine ⟨o,ho,fun name=>?_⟩
 have e:=hm name
 unfold nsFind findBy at e
 rw [<- Array.find?_toList] at e
 unfold PySem.W.lookIn
 rw [hd]
 dsimp only
 split
 ·rename_i y q
  rw [q] at e
  exact congrArg some e
 ·rename_i q
  rw [q] at e
  have a : es.toList.any (·.refKey) = false:=by
   rw [List.any_eq_false]
   intro y hy
   obtain ⟨z,t,hkey⟩:=hk y (Array.mem_toList_iff.mp hy)
   simp [DictEntry.refKey,hkey]
  have a' : ¬ es.toList.any (·.refKey) = true:=by rw [a]; exact Bool.false_ne_true
  rw [if_neg a']
  exact congrArg some e
theorem ObjM.look {h : Heap} {x dx C : Addr} {mA : Str->Option Value} (I : ObjM h x dx C mA) : ∃ od,PySem.W.InstAt h x (PySem.W.instObj C dx) C (some od)/\∀ name,PySem.W.lookIn name od = some (mA name) :=
 let ⟨od,ho,hl⟩:=lookIn_ns I.ns
 ⟨od,⟨I.obj,rfl,rfl,ho⟩,hl⟩
section
variable {prog : Program} {w : World} {A : Around} {E : Value->Shared->Prop} {s : Shared} {K : PySem.W.Frag} {x dx C f : Addr} {mA : Str->Option Value} {name : Str} {v : Value}
end
def putF (f : Str) (v : V) : List (Str × V)->List (Str × V)
 | []=>[(f,v)]
 | (g,x) :: r=>if g = f then (g,v) :: r else (g,x) :: putF f v r
theorem lookup_putF (f g : Str) (v : V) : ∀ fs : List (Str × V),(putF f v fs).lookup g = if g = f then some v else fs.lookup g
 | []=>by
  show List.lookup g [(f,v)] = _
  by_cases h : g = f
  ·have hb : (g == f) = true:=beq_iff_eq.mpr h
   simp only [List.lookup,hb,if_pos h]
  ·have hb : (g == f) = false:=beq_eq_false_iff_ne.mpr h
   simp only [List.lookup,hb,if_neg h]
 | (k,x) :: r=>by
  have ih:=lookup_putF f g v r
  rw [show putF f v ((k,x) :: r) = (if k = f then (k,v) :: r else (k,x) :: putF f v r) from rfl]
  by_cases hk : k = f
  ·rw [if_pos hk]
   by_cases h : g = k
   ·have hb : (g == k) = true:=beq_iff_eq.mpr h
    simp only [List.lookup,hb,if_pos (h.trans hk)]
   ·have hb : (g == k) = false:=beq_eq_false_iff_ne.mpr h
    simp only [List.lookup,hb,if_neg (fun e : g = f=>h (e.trans hk.symm))]
  ·rw [if_neg hk]
   by_cases h : g = k
   ·have hb : (g == k) = true:=beq_iff_eq.mpr h
    simp only [List.lookup,hb,if_neg (fun e : g = f=>hk (h.symm.trans e))]
   ·have hb : (g == k) = false:=beq_eq_false_iff_ne.mpr h
    simp only [List.lookup,hb]
    exact ih
theorem RelO.some_of {v : V} {o : Option Value} (r : RelO (some v) o) : ∃ u,o = some u/\RelV v u:=by
 cases o with
 | none=>exact (show False from r).elim
 | some u=>exact ⟨u,rfl,r⟩
theorem RelO.none_of {o : Option Value} (r : RelO none o) : o = none:=by
 cases o with
 | none=>rfl
 | some u=>exact (show False from r).elim
theorem handed_of {v : V} {u : Value} (r : RelV v u) : PySem.W.handedIn u = true:=by
 cases v with
 | non=>cases (show u = Value.none from r); rfl
 | bl b=>cases (show u = Value.bool b from r); rfl
 | int i=>obtain ⟨t,e⟩:=(show ∃ t,u = Value.int i t from r); cases e; rfl
 | str x=>obtain ⟨t,e⟩:=(show ∃ t,u = Value.str x t from r); cases e; rfl
 | byt b=>obtain ⟨t,e⟩:=(show ∃ t,u = Value.bytes b t from r); cases e; rfl
 | flt b=>obtain ⟨t,e⟩:=(show ∃ t,u = Value.float b t from r); cases e; rfl
 | ref a=>cases (show u = Value.ref a from r); rfl
 | ty n=>cases (show u = Value.type n from r); rfl
section
variable {P : Program} {w : World} {H H' : Hp} {h h' : Heap} {a C dx : Addr} {fs fs' : List (Str × V)}
theorem ins_get (hok : HOk P w H h) (e : H a = some (.ins C dx fs)) : ∃ mA,ObjM h a dx C mA/\(∀ f,RelO (fs.lookup f) (mA f))/\PySem.Within mA (fs.map (·.1))/\fs.length <= 1000/\H dx = some (.own a):=by
 obtain ⟨d,z,ne,ob,mA,n,r,q⟩:=(show ObjOk P w H h a (.ins C dx fs) from hok a _ e)
 exact ⟨mA,⟨ob,n,ne⟩,r,q,z,d⟩
end
structure Cls (K : PySem.W.Frag) (C : Addr) : Prop where
 pg : PySem.W.plainGet K C Str.empty = true
 hd : PySem.W.hasDictIn K C = true
 po : PySem.W.plainOver K C = true
 sa : PySem.W.findIn K (.ref C) "__setattr__" = some (some (.builtin "object.__setattr__"))
theorem Cls.get {K : PySem.W.Frag} {C : Addr} (c : Cls K C) (f : Str) : PySem.W.plainGet K C f = true:=c.pg
def NoAttr (K : PySem.W.Frag) (C : Addr) (f : Str) : Prop:=PySem.W.findIn K (.ref C) f = some none
structure Con (K : PySem.W.Frag) (C : Addr) (f : Str) (v : V) (u : Value) : Prop where
 at_ : PySem.W.findIn K (.ref C) f = some (some u)
 rel : RelV v u
 get : PySem.W.specialIn K u "__get__" = some none
 cp : PySem.W.copiedNames.contains f = false
structure Meth (K : PySem.W.Frag) (C : Addr) (m : Str) (f : Addr) : Prop where
 at_ : PySem.W.findIn K (.ref C) m = some (some (.ref f))
 fn : PySem.W.isFn K (.ref f) = true
 kp : PySem.W.keepIn K (.ref f) = true
section
variable {X : Cx} {pins : List (Addr × Obj)} {σ : St} {H : Hp} {s : Shared} {a C dx : Addr} {fs : List (Str × V)} {f : Str} {v : V} {A : Around} {E : Value->Shared->Prop}
theorem attr_of {prog : Program} {w : World} {env : Env} {e : Expr} {f : Str} {pos : Pos} {s : Shared} {Q : Value->Shared->Prop} (hb : attributeBase e f env (eval e env) = eval e env)
  (h : wpAny (model prog w) A (eval e env) (fun o s₁=>wpAny (model prog w) A (getAttr o f true) Q E s₁) E s) : wpAny (model prog w) A (eval (.Attribute e f pos) env) Q E s :=
 Attribute_any_ h (by rw [arm_eval_Attribute,hb])
end
def tFld (K : PySem.W.Frag) (ta : TE) (f : Str) : TE:=fun σ H Q=>ta σ H fun x H1=>∃ a C dx fs v,x = .ref a/\H1 a = some (.ins C dx fs)/\Cls K C/\NoAttr K C f/\fs.lookup f = some v/\Q v H1
def tCon (K : PySem.W.Frag) (ta : TE) (f : Str) : TE:=fun σ H Q=>ta σ H fun x H1=>∃ a C dx fs v u,x = .ref a/\H1 a = some (.ins C dx fs)/\Cls K C/\Con K C f v u/\fs.lookup f = none/\Q v H1
def sFld (K : PySem.W.Frag) (ta tv : TE) (f : Str) : TS:=fun D σ H=>tv σ H fun y H1=>ta σ H1 fun x H2=>∃ a C dx fs,x = .ref a/\H2 a = some (.ins C dx fs)/\Cls K C/\NoAttr K C f/\fs.length < 1000 /\
 D.nx σ (upd H2 a (.ins C dx (putF f y fs)))
def InOp (X : Cx) (op : Operator) (rd : V->V->Hp->VK->Prop) : Prop :=
 ∀ (pins : List (Addr × Obj)) (s : Shared) (σ : St) (H : Hp) (x y : V) (u v : Value) (Q : VK),Inv X pins σ H s->RelV x u->RelV y v->rd x y H Q->wpAny (model X.prog X.w) X.A (inplaceOp op u v) (EP X pins σ Q) X.xe s
def sFldAug (K : PySem.W.Frag) (ta tv : TE) (rd : V->V->Hp->VK->Prop) (f : Str) : TS:=fun D σ H=>ta σ H fun x H1=>∃ a C dx fs v,x = .ref a/\H1 a = some (.ins C dx fs)/\Cls K C/\NoAttr K C f/\fs.lookup f = some v /\
 tv σ H1 fun y H2=>rd v y H2 fun z H3=>∃ dx' fs',H3 a = some (.ins C dx' fs')/\fs'.length < 1000/\D.nx σ (upd H3 a (.ins C dx' (putF f z fs')))
section
variable {X : Cx} {o e value : Expr} {f : Str} {pos pos' tpos : Pos} {ta tv : TE}
def rAdd : V->V->Hp->VK->Prop:=fun x y H Q=>∃ i j,x = .int i/\y = .int j/\Q (.int (i + j)) H
def rSub : V->V->Hp->VK->Prop:=fun x y H Q=>∃ i j,x = .int i/\y = .int j/\Q (.int (i - j)) H
end
section
variable {X : Cx} {pins : List (Addr × Obj)} {σ : St} {H : Hp} {s : Shared} {A : Around} {E : Value->Shared->Prop} {Q : Value->Shared->Prop} {c : Value} {b : Bool}
inductive TyOf (K : PySem.W.Frag) (H : Hp) : V->Value->Prop where
 | non : TyOf K H .non (.type "NoneType")
 | bl (x : Bool) : TyOf K H (.bl x) (.type "bool")
 | int (i : Int) : TyOf K H (.int i) (.type "int")
 | str (x : Str) : TyOf K H (.str x) (.type "str")
 | flt (x : UInt64) : TyOf K H (.flt x) (.type "float")
 | lst {a : Addr} {xs : List V} (e : H a = some (.lst xs)) : TyOf K H (.ref a) (.type "list")
 | frz {a : Addr} {o : Obj} {xs : List V} (e : H a = some (.frz o (.lst xs))) : TyOf K H (.ref a) (.type "list")
 | tup {a : Addr} {xs : List V} (e : H a = some (.tup xs)) : TyOf K H (.ref a) (.type "tuple")
 | dK {a : Addr} {kvs : List (Key × V)} (e : H a = some (.dK kvs)) : TyOf K H (.ref a) (.type "dict")
 | dT {a : Addr} {kvs : List (List Key × V)} (e : H a = some (.dT kvs)) : TyOf K H (.ref a) (.type "dict")
 | ins {a C dx : Addr} {fs : List (Str × V)} (e : H a = some (.ins C dx fs)) (cl : Cls K C) (ha : PySem.W.findIn K (.ref C) "__class__" = some (some (.builtin "object.__class__")))
   (hn : PySem.W.specialIn K (.builtin "object.__class__") "__get__" = some (some (.builtin "getset_descriptor.__get__"))) (htk : PySem.W.takesIn K (.builtin "object.__class__") = some true)
   (hm : PySem.W.mroIn K C (.type "object") = some true) : TyOf K H (.ref a) (.ref C)
theorem isinst_ok {x : V} {u t : Value} (I : Inv X pins σ H s) (rx : RelV x u) (ty : TyOf X.K H x t) (e : PySem.W.kitOne X.K t c = some b) (h : ∀ tk,Q (.bool b) { s with toks:=tk }) :
  wpAny (model X.prog X.w) A (call (.builtin "isinstance") [u,c]) Q E s:=by
 cases ty with
 | non=>cases (show u = Value.none from rx); exact PySem.W.kia_one PySem.W.kitx_none I.kIn True.intro e (fun z=>nomatch z) h
 | bl y=>cases (show u = Value.bool y from rx); exact PySem.W.kia_one PySem.W.kitx_bool I.kIn True.intro e (fun z=>nomatch z) h
 | int i=>obtain ⟨t,q⟩:=(show ∃ t,u = Value.int i t from rx); cases q; exact PySem.W.kia_one PySem.W.kitx_int I.kIn True.intro e (fun z=>nomatch z) h
 | str y=>obtain ⟨t,q⟩:=(show ∃ t,u = Value.str y t from rx); cases q; exact PySem.W.kia_one PySem.W.kitx_str I.kIn True.intro e (fun z=>nomatch z) h
 | flt y=>obtain ⟨t,q⟩:=(show ∃ t,u = Value.float y t from rx); cases q; exact PySem.W.kia_one PySem.W.kitx_float I.kIn True.intro e (fun z=>nomatch z) h
 | @lst a xs ea =>
  cases (show u = Value.ref a from rx)
  obtain ⟨_,_,n,_,h1⟩:=(show ObjOk X.prog X.w H s.heap a (.lst xs) from I.hok a _ ea)
  exact PySem.W.kia_one PySem.W.kitx_list I.kIn ⟨_,h1,rfl⟩ e (fun z=>nomatch z) h
 | @frz a ob xs ea =>
  cases (show u = Value.ref a from rx)
  obtain ⟨_,_,_,n,_,h1⟩:=(show ObjOk X.prog X.w H s.heap a (.frz ob (.lst xs)) from I.hok a _ ea)
  exact PySem.W.kia_one PySem.W.kitx_list I.kIn ⟨_,h1,rfl⟩ e (fun z=>nomatch z) h
 | @tup a xs ea =>
  cases (show u = Value.ref a from rx)
  obtain ⟨_,_,_,p⟩:=(show ObjOk X.prog X.w H s.heap a (.tup xs) from I.hok a _ ea)
  obtain ⟨o,h1,h2,_⟩:=p
  exact PySem.W.kia_one PySem.W.kitx_tuple I.kIn ⟨o,h1,h2⟩ e (fun z=>nomatch z) h
 | @dK a kvs ea =>
  cases (show u = Value.ref a from rx)
  obtain ⟨_,_,vs,_,p⟩:=(show ObjOk X.prog X.w H s.heap a (.dK kvs) from I.hok a _ ea)
  obtain ⟨o,es,ep,h1,h2,_⟩:=p
  exact PySem.W.kia_one PySem.W.kitx_dict I.kIn ⟨o,h1,h2.1⟩ e (fun z=>nomatch z) h
 | @dT a kvs ea =>
  cases (show u = Value.ref a from rx)
  obtain ⟨_,_,xs,_,o,es,ep,h1,h2,_⟩:=(show ObjOk X.prog X.w H s.heap a (.dT kvs) from I.hok a _ ea)
  exact PySem.W.kia_one PySem.W.kitx_dict I.kIn ⟨o,h1,h2.1⟩ e (fun z=>nomatch z) h
 | @ins a C dx fs ea cl ha hn htk hm =>
  cases (show u = Value.ref a from rx)
  obtain ⟨mA,O,_⟩:=ins_get I.hok ea
  obtain ⟨od,J,_⟩:=O.look
  exact PySem.W.kia_one (PySem.W.kitx_own (cl.get _) cl.hd ha hn htk hm) I.kIn J e (fun z=>nomatch z) h
end
end L2
namespace L2
open PySem PySem.Spec PyProof.Rows
structure Room (k : Nat) (A : Around) : Prop where
 hd : A.handled = none
 dp : A.depth + 3 * k + 5 < recursionLimit
 un : A.units + 16 * k + 200 < cLine
theorem Room.mono {j k : Nat} {A : Around} (r : Room k A) (h : j <= k) : Room j A:=⟨r.hd,by have:=r.dp; omega,by have:=r.un; omega⟩
theorem Room.deeper {k : Nat} {A : Around} (r : Room (k + 1) A) (env : Env) : Room k (A.deeper env) :=
 ⟨r.hd,by have:=r.dp; show A.depth + 1 + 3 * k + 5 < _; omega,by have:=r.un; show A.units + 3 + 16 * k + 200 < _; omega⟩
theorem make_depth {A : Around} {C : Addr} {us : List Value} {kw : List (Str × Value)} : (A.under (.builtin "type.__call__" ⟨.ref C :: us,kw⟩)).depth = A.depth + 1:=by
 first | rfl | simp [Around.under,Code.weight,Code.isCreation,Code.isGuard,Code.isCaller,Code.frames,Code.isFrame,guardIds]
theorem make_units {A : Around} {C : Addr} {us : List Value} {kw : List (Str × Value)} : (A.under (.builtin "type.__call__" ⟨.ref C :: us,kw⟩)).units = A.units + 1:=by
 first | rfl | simp [Around.under,Code.cUnits,Code.frames,Code.isFrame]
theorem Room.make {k : Nat} {A : Around} (r : Room (k + 1) A) (C : Addr) (us : List Value) (kw : List (Str × Value)) : Room k (A.under (.builtin "type.__call__" ⟨.ref C :: us,kw⟩)) :=
 ⟨r.hd,by have:=r.dp; rw [make_depth]; omega,by have:=r.un; rw [make_units]; omega⟩
theorem Room.depth {k : Nat} {A : Around} (r : Room k A) : A.depth < recursionLimit:=by have:=r.dp; omega
theorem Room.units {k : Nat} {A : Around} (r : Room k A) : A.units + 64 < cLine:=by have:=r.un; omega
def tNil : TA:=fun _ H Q=>Q [] H
def tCons (ta : TE) (tr : TA) : TA:=fun σ H Q=>ta σ H fun x H1=>tr σ H1 fun xs H2=>Q (x :: xs) H2
section
variable {X : Cx} {e : Expr} {es : List Expr} {te : TE} {t : TA} {pos : Pos}
theorem pa_nil : PA X [] tNil:=fun _ _ _ _ H Q I h=>Calls.spliced_nil ⟨[],H,I,.nil,h⟩
theorem pa_cons (ha : PE X e te) (hr : PA X es t) (hs : starEach (e :: es) X.env = (false,eval e X.env) :: starEach es X.env:=by rfl) : PA X (e :: es) (tCons te t):=by
 intro pos pins s σ H Q I h
 rw [hs]
 show wpAny _ _ (spliced ((false,eval e X.env) :: backTo pos (starEach es X.env))) _ _ s
 refine Calls.spliced_cons (thn (ha pins s σ H _ I h) fun u s1 ⟨x,H1,I1,r1,q1⟩=>?_)
 exact thn (hr pos pins s1 σ H1 _ I1 q1) fun us s2 ⟨xs,H2,I2,r2,q2⟩=>⟨x :: xs,H2,I2,.cons r1 r2,q2⟩
def tTup (t : TA) : TE:=fun σ H Q=>t σ H fun xs H1=>xs.length <= sizeLine/\∀ p,H1 p = none->Q (.ref p) (upd H1 p (.tup xs))
def tLst (t : TA) : TE:=fun σ H Q=>t σ H fun xs H1=>xs.length <= sizeLine/\∀ p,H1 p = none->Q (.ref p) (upd H1 p (.lst xs))
theorem pe_tup {x1} (h : PA X es t) : PE X (.Tuple es x1 pos) (tTup t):=by
 intro pins s σ H Q I hq
 refine wpAny_Tuple_spliced (thn (h pos pins s σ H _ I hq) fun us s1 ⟨xs,H1,I1,r,z,q⟩=>⟨by rw [<- r.length]; exact z,?_⟩)
 have hf : H1 s1.heap.objs.size = none:=I1.hok.fresh (Nat.le_refl _)
 refine ⟨.ref s1.heap.objs.size,upd H1 s1.heap.objs.size (.tup xs),I1.laid (t':=s1.toks) (fun b u e=>Heap.get?_push_of_some _ e) (Nat.le_refl _) ?_,rfl,q _ hf⟩
 exact ⟨z,us,r,⟨_,Heap.get?_push_size _ rfl,rfl,_,rfl⟩⟩
theorem pe_lst (h : PA X es t) : PE X (.List es pos) (tLst t):=by
 intro pins s σ H Q I hq
 refine wpAny_List_spliced (thn (h pos pins s σ H _ I hq) fun us s1 ⟨xs,H1,I1,r,z,q⟩=>⟨by rw [<- r.length]; exact z,?_⟩)
 have hf : H1 s1.heap.objs.size = none:=I1.hok.fresh (Nat.le_refl _)
 refine ⟨.ref s1.heap.objs.size,upd H1 s1.heap.objs.size (.lst xs),I1.laid (t':=s1.toks) (fun b u e=>Heap.get?_push_of_some _ e) (Nat.le_refl _) ?_,rfl,q _ hf⟩
 exact ⟨z,us,0,r,Heap.get?_push_size _ rfl⟩
end
abbrev Sp:=List V->Hp->VK->XK->Prop
abbrev CXT:=List Env->Hp->Shared->XK->Value->Shared->Prop
structure Env0 (P : Program) (w : World) (K : PySem.W.Frag) (mg : Str->Option Value) (base : Heap) (A : Around) (outer : List Env) (s : Shared) (H : Hp) : Prop where
 frames : A.frames = some outer
 mod : Mod K mg base
 bs : ∀ b o,base.get? b = some o->s.heap.get? b = some o/\H b = none
 bsz : base.objs.size <= s.heap.objs.size
 funs : s.heap.FunFrames base outer
 frf : ∀ b ∈ frs outer,H b = none
 hok : HOk P w H s.heap
 bare : AllBare s.gens
def CE (outer : List Env) (P : Program) (w : World) (H : Hp) (s : Shared) (Q : VK) (u : Value) (s' : Shared) : Prop :=
 ∃ v H',s'.os = s.os/\AllBare s'.gens/\Un (frs outer) [] H H' s.heap s'.heap/\HOk P w H' s'.heap/\RelV v u/\Q v H'
def CR (CX : CXT) (outer : List Env) (P : Program) (w : World) (H : Hp) (s : Shared) (Q : VK) (E : XK) (r : Result) (s' : Shared) : Prop :=
 match r with
 | .ok (.ret u)=>CE outer P w H s Q u s'
 | .ok _=>False
 | .error e=>CX outer H s E e s'
structure FnOk (P : Program) (w : World) (K : PySem.W.Frag) (mg : Str->Option Value) (base : Heap) (CX : CXT) (k : Nat) (f : Addr) (fd : FuncData) (ps : List Str) (sp : Sp) : Prop where
 len : ∀ vs H Q E,sp vs H Q E->vs.length = ps.length
 run : ∀ (A : Around) (outer : List Env) (s : Shared) (H : Hp) (args : Args) (us : List Value) (vs : List V) (Q : VK) (E : XK),Room k A->Env0 P w K mg base A outer s H->BindsTo s fd args (ps.zip us)->Vals vs us->sp vs H Q E ->
  codeAny (model P w) A (.call (.ref f) args) (CR CX outer P w H s Q E) s
theorem Env0.make {P : Program} {w : World} {K : PySem.W.Frag} {mg : Str->Option Value} {base : Heap} {A : Around} {outer : List Env} {s : Shared} {H : Hp} (e : Env0 P w K mg base A outer s H) (C : Addr) (us : List Value) (kw : List (Str × Value)) :
  Env0 P w K mg base (A.under (.builtin "type.__call__" ⟨.ref C :: us,kw⟩)) outer s H:=⟨by first | exact e.frames | (simpa [Around.under,Code.envs,Code.isFrame,pushEnvs] using e.frames),e.mod,e.bs,e.bsz,e.funs,e.frf,e.hok,e.bare⟩
section
variable {X : Cx} {pins : List (Addr × Obj)} {σ : St} {H : Hp} {s s' : Shared}
theorem Inv.env0 (I : Inv X pins σ H s) : Env0 X.prog X.w X.K X.mg X.base X.A X.stack s H :=
 ⟨I.ok.frames,I.ok.mod,I.bs,Nat.le_trans I.ok.bsz I.sz,I.stack,I.stkFree,I.hok,I.bare⟩
theorem Inv.after {Q : VK} {u : Value} (I : Inv X pins σ H s) (h : CE X.stack X.prog X.w H s Q u s') : EP X pins σ Q u s':=by
 obtain ⟨v,H',os,bare,un,hok,r,q⟩:=h
 obtain ⟨hh,g,d,t,os'⟩:=s'
 obtain rfl : os' = s.os:=os
 exact ⟨v,H',I.call (h':=hh) (g':=g) (d':=d) (t':=t) (ch:=[]) un hok bare (fun b z=>absurd z (by simp)),r,q⟩
end
def tCall (sp : Sp) (dvs : List V) (E : XK) (t : TA) : TE:=fun σ H Q=>t σ H fun vs H1=>sp (vs ++ dvs) H1 Q E
def tMeth (C : Addr) (m : Str) (sp : Sp) (dvs : List V) (E : XK) (ta : TE) (t : TA) : TE:=fun σ H Q=>ta σ H fun x H1=>∃ a dx fs,x = .ref a/\H1 a = some (.ins C dx fs)/\fs.lookup m = none /\
 t σ H1 fun vs H2=>sp (x :: (vs ++ dvs)) H2 Q E
def tMake (C : Addr) (sp : Sp) (dvs : List V) (E : XK) (t : TA) : TE:=fun σ H Q=>t σ H fun vs H1=>∀ x dx,H1 x = none->H1 dx = none->dx ≠ x ->
 sp (.ref x :: (vs ++ dvs)) (upd (upd H1 dx (.own x)) x (.ins C dx [])) (fun v H2=>v = .non/\Q (.ref x) H2) E
def Binds (K : PySem.W.Frag) (fd : FuncData) (ps : List Str) (ds : List Value) : Prop :=
 ∀ (s : Shared) (us : List Value),K.In s.heap->(us ++ ds).length = ps.length->BindsTo s fd ⟨us,[]⟩ (ps.zip (us ++ ds))
theorem Binds.all {K : PySem.W.Frag} {fd : FuncData} {ps : List Str} (h : ∀ us : List Value,us.length = ps.length->bindArgs fd ⟨us,[]⟩ = pure (ps.zip us)) : Binds K fd ps []:=fun s us _ hl=>by
 rw [List.append_nil] at hl ⊢
 exact .of_eq (h us hl)
def Passes (CX : CXT) (X : Cx) (E : XK) : Prop:=∀ (pins : List (Addr × Obj)) (σ : St) (H : Hp) (s : Shared) (e : Value) (s' : Shared),Inv X pins σ H s->CX X.stack H s E e s'->X.xe e s'
section
variable {X : Cx} {CX : CXT} {k : Nat} {f C : Addr} {fd : FuncData} {ps : List Str} {sp : Sp} {dvs : List V} {ds : List Value} {E : XK} {x m : Str} {p pos apos : Pos} {e o : Expr} {es : List Expr} {ta : TE} {t : TA}
theorem run_fn {pins : List (Addr × Obj)} {σ : St} {H : Hp} {s : Shared} {Q : VK} {us : List Value} {vs : List V} (F : FnOk X.prog X.w X.K X.mg X.base CX k f fd ps sp) (hr : Room k X.A) (hb : Binds X.K fd ps ds) (hd : Vals dvs ds) (hx : Passes CX X E)
  (I : Inv X pins σ H s) (r : Vals vs us) (h : sp (vs ++ dvs) H Q E) : wpAny (model X.prog X.w) X.A (call (.ref f) us) (EP X pins σ Q) X.xe s:=by
 have r2 : Vals (vs ++ dvs) (us ++ ds):=r.append hd
 have hl : (us ++ ds).length = ps.length:=by rw [<- r2.length]; exact F.len _ _ _ _ h
 refine wpAny_call (codeAny_mono (F.run X.A X.stack s H ⟨us,[]⟩ (us ++ ds) (vs ++ dvs) Q E hr I.env0 (hb s us I.kIn hl) r2 h) fun r s' hq=>?_)
 cases r with
 | error e=>exact hx pins σ H s e s' I hq
 | ok fl =>
  cases fl with
  | ret u=>exact I.after hq
  | next=>exact False.elim hq
  | brk=>exact False.elim hq
  | cont=>exact False.elim hq
theorem pe_call (F : FnOk X.prog X.w X.K X.mg X.base CX k f fd ps sp) (hr : Room k X.A) (hg : Gl X x) (hm : X.mg x = some (.ref f)) (hk : PySem.W.keepIn X.K (.ref f) = true) (hb : Binds X.K fd ps ds) (hd : Vals dvs ds) (hx : Passes CX X E)
  (ha : PA X (e :: es) t) (hdb : (x == ("__debug__" : Str)) = false:=by decide) (he : starEach (e :: es) X.env = (false,eval e X.env) :: starEach es X.env:=by rfl) (hpl : (backTo pos (starEach es X.env)).any (·.1) = false:=by rfl) :
  PE X (.Call (.Name x p) (e :: es) [] pos) (tCall sp dvs E t):=by
 intro pins s σ H Q I h
 refine wpAny_Call_Name_kw (ld_glob I hg hm ?_ hdb)
 refine PySem.W.callWith_K (h₀:=X.base) I.ok.mod.kin hk (thn (ha pos pins s σ H _ I h) fun us s1 ⟨vs,H1,I1,r,q⟩=>⟨I1.kIn,?_⟩) he hpl
 exact run_fn F hr hb hd hx I1 r q
structure Mk (K : PySem.W.Frag) (C f : Addr) : Prop where
 makes : PySem.W.makesIn K C = true
 init : PySem.W.findIn K (.ref C) "__init__" = some (some (.ref f))
 fn : PySem.W.isFn K (.ref f) = true
 kp : PySem.W.keepIn K (.ref C) = true
end
def PK (X : Cx) (kws : List Keyword) (t : TA) : Prop :=
 ∀ (pos : Pos) (pins : List (Addr × Obj)) (s : Shared) (σ : St) (H : Hp) (Q : List V->Hp->Prop),Inv X pins σ H s->t σ H Q->wpAny (model X.prog X.w) X.A (evalAll ((backToKw pos (keywordEach kws X.env)).map (·.2))) (AP X pins σ Q) X.xe s
section
variable {X : Cx} {CX : CXT} {k : Nat} {f C : Addr} {fd : FuncData} {ps ks : List Str} {sp : Sp} {E : XK} {x m : Str} {p pos apos kpos : Pos} {e o : Expr} {es : List Expr} {kws : List Keyword} {te ta : TE} {t tk : TA} {nm : Option Str}
structure KBinds (K : PySem.W.Frag) (fd : FuncData) (ps ks : List Str) (g : List Value->List Value->List Value) (gV : List V->List V->List V) : Prop where
 to : ∀ (s : Shared) (us ws : List Value),K.In s.heap->(g us ws).length = ps.length->BindsTo s fd ⟨us,ks.zip ws⟩ (ps.zip (g us ws))
 rel : ∀ {vs : List V} {us : List Value} {zs : List V} {ws : List Value},Vals vs us->Vals zs ws->Vals (gV vs zs) (g us ws)
def tCallK (sp : Sp) (gV : List V->List V->List V) (E : XK) (t tk : TA) : TE:=fun σ H Q=>t σ H fun vs H1=>tk σ H1 fun zs H2=>sp (gV vs zs) H2 Q E
variable {g : List Value->List Value->List Value} {gV : List V->List V->List V}
end
structure FnScope (N P : List Str) (sc : Scope) : Prop where
 kind : sc.kind = .function
 co : sc.isCoroutine = false
 gen : sc.isGenerator = false
 nd : N.Nodup
 pre : N.take P.length = P
 par : ∀ x ∈ P,sc.names.lookup x = some .local \/ sc.names.lookup x = some .cell
 nofree : ∀ y ∈ sc.names,y.2 ≠ .free
theorem bindL_out {kindOf : Str->Option NameKind} {x : Str} : ∀ {binds : List (Str × Value)} {m : Str->Option Value},(∀ v,(x,v) ∉ binds)->bindL kindOf binds m x = m x
 | [],_,_=>rfl
 | (n,v) :: r,m,h=>by
  unfold bindL
  rw [bindL_out fun w hw=>h w (List.mem_cons_of_mem _ hw)]
  split
  ·have : x ≠ n:=by rintro rfl; exact h v List.mem_cons_self
   simp [this]
  ·rfl
theorem bindC_out {kindOf : Str->Option NameKind} {x : Str} : ∀ {binds : List (Str × Value)} {m : Str->Option Value},(∀ v,(x,v) ∉ binds)->bindC kindOf binds m x = m x
 | [],_,_=>rfl
 | (n,v) :: r,m,h=>by
  unfold bindC
  rw [bindC_out fun w hw=>h w (List.mem_cons_of_mem _ hw)]
  split
  ·rfl
  ·have : x ≠ n:=by rintro rfl; exact h v List.mem_cons_self
   simp [this]
theorem bindL_get {kindOf : Str->Option NameKind} {x : Str} {v : Value} : ∀ {P : List Str} {vs : List Value} {i : Nat} {m : Str->Option Value},P.Nodup->P[i]? = some x->vs[i]? = some v->kindOf x = some .local ->
  bindL kindOf (P.zip vs) m x = some v
 | [],_,_,_,_,h,_,_=>by simp at h
 | _ :: _,[],_,_,_,_,h,_=>by simp at h
 | p :: P,w :: vs,0,m,nd,h1,h2,hk=>by
  simp at h1 h2; subst h1; subst h2
  show bindL kindOf ((p,w) :: P.zip vs) m p = _
  unfold bindL
  rw [bindL_out fun v hv=>(List.nodup_cons.mp nd).1 (List.of_mem_zip hv).1,if_pos hk]
  simp
 | p :: P,w :: vs,i + 1,m,nd,h1,h2,hk=>by
  show bindL kindOf ((p,w) :: P.zip vs) m x = _
  unfold bindL
  exact bindL_get (i:=i) (List.nodup_cons.mp nd).2 (by simpa using h1) (by simpa using h2) hk
theorem bindC_get {kindOf : Str->Option NameKind} {x : Str} {v : Value} : ∀ {P : List Str} {vs : List Value} {i : Nat} {m : Str->Option Value},P.Nodup->P[i]? = some x->vs[i]? = some v->kindOf x ≠ some .local ->
  bindC kindOf (P.zip vs) m x = some v
 | [],_,_,_,_,h,_,_=>by simp at h
 | _ :: _,[],_,_,_,_,h,_=>by simp at h
 | p :: P,w :: vs,0,m,nd,h1,h2,hk=>by
  simp at h1 h2; subst h1; subst h2
  show bindC kindOf ((p,w) :: P.zip vs) m p = _
  unfold bindC
  rw [bindC_out fun v hv=>(List.nodup_cons.mp nd).1 (List.of_mem_zip hv).1,if_neg hk]
  simp
 | p :: P,w :: vs,i + 1,m,nd,h1,h2,hk=>by
  show bindC kindOf ((p,w) :: P.zip vs) m x = _
  unfold bindC
  exact bindC_get (i:=i) (List.nodup_cons.mp nd).2 (by simpa using h1) (by simpa using h2) hk
def start (N : List Str) (vs : List V) : St:=vs.map some ++ List.replicate (N.length - vs.length) none
def cxOf (CX : CXT) (P : Program) (w : World) (K : PySem.W.Frag) (mg : Str->Option Value) (base : Heap) (N : List Str) (qual : Str) (scope : Scope) (f : Addr) (cd : Value) (A : Around) (outer : List Env) (s : Shared) (H : Hp) (E : XK) : Cx where
 prog:=P
 w:=w
 K:=K
 mg:=mg
 base:=base
 A:=A.deeper (envOfC qual scope s.heap.objs.size f cd)
 N:=N
 s₀:=s
 H₀:=H
 env:=envOfC qual scope s.heap.objs.size f cd
 outer:=outer
 stack:=envOfC qual scope s.heap.objs.size f cd :: outer
 ex:=[]
 calm:=true
 fn:=fun _=>true
 pn:=[]
 xe:=fun e s'=>wpAny (model P w) (A.deeper (envOfC qual scope s.heap.objs.size f cd)) (leaving (envOfC qual scope s.heap.objs.size f cd) e) (fun _ s''=>CX outer H s E e s'') (fun e' s''=>CX outer H s E e' s'') s'
theorem cell_has {sc : Scope} {n : Nat} {x : Str} (h : sc.names.lookup x = some .cell) : ∃ c,(cellsFrom n sc.names []).lookup x = some c:=by
 have q:=PySem.W.cellsFrom_some sc.names n [] (.inl h)
 exact Option.isSome_iff_exists.mp q
theorem inv_start {CX : CXT} {P : Program} {w : World} {K : PySem.W.Frag} {mg : Str->Option Value} {base : Heap} {N ps : List Str} {qual : Str} {scope : Scope} {f : Addr} {cd : Value} {A : Around} {outer : List Env} {s s1 : Shared} {H : Hp} {E : XK} {us : List Value} {vs : List V}
  (S : FnScope N ps scope) (hd : A.handled = none) (e0 : Env0 P w K mg base A outer s H) (hl : vs.length = ps.length) (r : Vals vs us)
  (x : InCallC s s.heap.objs.size (bindL (envOfC qual scope s.heap.objs.size f cd).kindOf (ps.zip us) fun _=>none) (cellsFrom (s.heap.objs.size + 1) scope.names []) (bindC (envOfC qual scope s.heap.objs.size f cd).kindOf (ps.zip us) fun _=>none) s1) :
  Inv (cxOf CX P w K mg base N qual scope f cd A outer s H E) [] (start N vs) H s1:=by
 have hpl : ps.length <= N.length:=by have:=congrArg List.length S.pre; rw [List.length_take] at this; omega
 obtain ⟨h1,tk,rfl,hk⟩:=x.done
 have noA : ∀ b : Addr,b ∉ (cxOf CX P w K mg base N qual scope f cd A outer s H E).ex:=fun b z=>absurd (show b ∈ ([] : List Addr) from z) (by simp)
 refine ⟨⟨e0.mod,S.kind,rfl,rfl,Nat.le_refl _,fun y z c h1 h2=>?_,fun y hy=>?_,fun y c _ h=>?_,fun _=>hd,Around.frames_deeper e0.frames,.inr ⟨rfl,rfl⟩,fun b z=>absurd z (noA b),e0.bs,e0.bsz,fun b _ _=>noA b,fun b z=>absurd z (noA b),e0.funs,e0.frf⟩,
  rfl,e0.bare,Un.kept hk,⟨_,x.toInCall.ns,fun i y v h1 h2 h3=>?_⟩,fun y c h=>⟨_,x.cell y c h⟩,e0.hok.fresh (Nat.le_refl _),fun y c h=>?_,fun p hp=>absurd (show p ∈ ([] : List (Addr × Obj)) from hp) (by simp),e0.hok.kept hk,?_⟩
 ·exact name_of_addr x.apart (PySem.mem_of_lookup h1) (PySem.mem_of_lookup h2)
 ·have hy : scope.names.lookup y = some .cell \/ scope.names.lookup y = some .free:=hy
  rcases hy with hy | hy
  ·exact cell_has hy
  ·exact absurd rfl (S.nofree _ (PySem.mem_of_lookup hy))
 ·exact Nat.le_of_lt (x.above y c (PySem.mem_of_lookup h))
 ·have hi : i < vs.length:=by
   unfold start at h2
   by_cases hi : i < vs.length
   ·exact hi
   ·rw [List.getElem?_append_right (by simpa using hi)] at h2
    rw [List.getElem?_replicate] at h2
    split at h2 <;> cases h2
  have ha : vs[i]? = some v:=by
   unfold start at h2
   rw [List.getElem?_append_left (by simpa using hi),List.getElem?_map] at h2
   cases e : vs[i]? with
   | none=>rw [e] at h2; cases h2
   | some a=>rw [e] at h2; cases h2; rfl
  obtain ⟨u,hu,rv⟩:=r.get ha
  have hp : ps[i]? = some y:=by
   rw [<- S.pre,List.getElem?_take_of_lt (by omega)]; exact h1
  have ndP : ps.Nodup:=by rw [<- S.pre]; exact S.nd.sublist (List.take_sublist _ _)
  refine ⟨u,rv,?_⟩
  rcases S.par y (List.mem_of_getElem? hp) with k | k
  ·exact .inl ⟨k,bindL_get ndP hp hu k⟩
  ·obtain ⟨c,e⟩:=cell_has (n:=s.heap.objs.size + 1) k
   refine .inr ⟨.inl k,c,e,?_⟩
   have q:=x.cell y c e
   rw [bindC_get ndP hp hu (by show scope.names.lookup y ≠ _; rw [k]; decide)] at q
   exact q
 ·exact e0.hok.fresh (Nat.le_of_lt (x.above y c (PySem.mem_of_lookup h)))
 ·unfold start
  show _ = N.length
  rw [List.length_append,List.length_map,List.length_replicate]
  omega
/-- THE RULE: a def (or a method) of the text,by its body. The body's reading t is chosen for each entry; it is run at the parameters' values -/
theorem fn_of {CX : CXT} {P : Program} {w : World} {K : PySem.W.Frag} {mg : Str->Option Value} {base : Heap} {k : Nat} {f : Addr} {name qual : Str} {params : Arguments} {body : List Stmt} {scope : Scope} {dV kV doc pm cdv ct oc : Value} {an od : Option Addr}
  {osl : Array (Option Value)} {N ps : List Str} {sp : Sp} (lk : K.lookup f = some ⟨oc,od,.func (PySem.W.fnOf name qual params body scope dV kV doc pm an cdv ct),osl⟩) (hcd : PySem.W.codeIn K cdv qual = true) (S : FnScope N ps scope)
  (len : ∀ vs H Q E,sp vs H Q E->vs.length = ps.length)
  (hbody : ∀ (A : Around) (outer : List Env) (s : Shared) (H : Hp) (vs : List V) (Q : VK) (E : XK),Room k (A.deeper (envOfC qual scope s.heap.objs.size f cdv))->sp vs H Q E ->
   ∃ t,PSs (cxOf CX P w K mg base N qual scope f cdv A outer s H E) body t/\t { nx:=fun _ H'=>Q .non H',rt:=Q } (start N vs) H) :
  FnOk P w K mg base CX (k + 1) f (PySem.W.fnOf name qual params body scope dV kV doc pm an cdv ct) ps sp:=by
 refine ⟨len,fun A outer s H args us vs Q E hr e0 hb r hsp=>?_⟩
 have hl:=len _ _ _ _ hsp
 have KX : K.In s.heap:=e0.mod.kin.keeps fun b o e=>(e0.bs b o e).1
 have lim : s.heap.NoLimit:=e0.mod.nolimit.keeps fun b o e=>(e0.bs b o e).1
 have hkind : ∀ y ∈ ps.zip us,scope.names.lookup y.1 = some .local \/ (scope.names.lookup y.1 = some .cell/\((cellsFrom (s.heap.objs.size + 1) scope.names []).lookup y.1).isSome = true):=fun ⟨n,v⟩ hy=>by
  rcases S.par n (List.of_mem_zip hy).1 with q | q
  ·exact .inl q
  ·exact .inr ⟨q,PySem.W.cellsFrom_some _ _ _ (.inl q)⟩
 refine codeAny_call_function hr.depth (KX _ _ lk) rfl S.co S.gen rfl (PySem.W.codeRec_of KX hcd) (hb _ _ _ _ ?_)
 refine wpAny_newFunctionEnv_cells S.kind hkind fun env he s1 x=>?_
 subst he
 refine ⟨lim.keeps x.toInCall.keep,codeAny_func ?_⟩
 obtain ⟨t,ht,hq⟩:=hbody A outer s H vs Q E (hr.deeper _) hsp
 have I : Inv (cxOf CX P w K mg base N qual scope f cdv A outer s H E) [] (start N vs) H s1:=inv_start S hr.hd e0 hl r x
 refine wpAny_mono (ht [] s1 (start N vs) H _ I hq) (fun fl s' hs=>?_) fun e s' hs=>hs
 have fin : ∀ {σ' : St} {H' : Hp} {v : V} {u : Value},Inv (cxOf CX P w K mg base N qual scope f cdv A outer s H E) [] σ' H' s'->RelV v u->Q v H'->CE outer P w H s Q u s' :=
  fun {σ' H' v u} J rv q=>⟨v,H',J.os,J.bare,J.base,J.hok,rv,q⟩
 cases fl with
 | ret u =>
  obtain ⟨v,σ',H',J,rv,q⟩:=hs
  exact fin J rv q
 | next =>
  obtain ⟨σ',H',J,q⟩:=hs
  exact fin (v:=V.non) (u:=Value.none) J rfl q
 | brk =>
  obtain ⟨_,_,_,q⟩:=hs
  exact False.elim q
 | cont =>
  obtain ⟨_,_,_,q⟩:=hs
  exact False.elim q
end L2
namespace L2
open PySem PySem.Spec PyProof.Rows
section
variable {X : Cx} {x : Str} {p pos : Pos} {e : Expr} {es : List Expr} {t : TA} {id T : String} {r : List V->Hp->VK->Prop}
def tCB (r : List V->Hp->VK->Prop) (t : TA) : TE:=fun σ H Q=>t σ H fun vs H1=>r vs H1 Q
theorem pe_callB (hc : CallR X (.builtin id) r) (hg : Gl X x) (hm : X.mg x = none) (hv : bootBuiltins x = some (.builtin id)) (ha : PA X (e :: es) t) (hn : x ≠ "__name__":=by decide) (hdb : (x == ("__debug__" : Str)) = false:=by decide)
  (he : starEach (e :: es) X.env = (false,eval e X.env) :: starEach es X.env:=by rfl) (hpl : (backTo pos (starEach es X.env)).any (·.1) = false:=by rfl) : PE X (.Call (.Name x p) (e :: es) [] pos) (tCB r t):=by
 intro pins s σ H Q I h
 refine wpAny_Call_Name_kw (ld_blt I hg hm hv ?_ hn hdb)
 exact PyProof.Rows.callWith_builtin1 (thn (ha pos pins s σ H _ I h) fun us s1 ⟨vs,H1,I1,r1,q1⟩=>hc pins s1 σ H1 vs us Q I1 r1 q1) he hpl
theorem pe_callTy (hc : CallR X (.type T) r) (hg : Gl X x) (hm : X.mg x = none) (hv : bootBuiltins x = some (.type T)) (ha : PA X (e :: es) t) (hn : x ≠ "__name__":=by decide) (hdb : (x == ("__debug__" : Str)) = false:=by decide)
  (he : starEach (e :: es) X.env = (false,eval e X.env) :: starEach es X.env:=by rfl) (hpl : (backTo pos (starEach es X.env)).any (·.1) = false:=by rfl) : PE X (.Call (.Name x p) (e :: es) [] pos) (tCB r t):=by
 intro pins s σ H Q I h
 refine wpAny_Call_Name_kw (ld_blt I hg hm hv ?_ hn hdb)
 exact PyProof.Rows.callWith_type1 (thn (ha pos pins s σ H _ I h) fun us s1 ⟨vs,H1,I1,r1,q1⟩=>hc pins s1 σ H1 vs us Q I1 r1 q1) he hpl
end
end L2
namespace HT
open PySem PyProof.Rows
def lexLt : List Int->List Int->Bool
 | [],[]=>false
 | [],_ :: _=>true
 | _ :: _,[]=>false
 | x :: xs,y :: ys=>if x = y then lexLt xs ys else decide (x < y)
section
open PySem.SeqAt
open PySem.AutoSeq1 (wpAny_loadPart')
open PySem.MeetsSeq PySem.MeetsSeq2 PySem.MeetsSeq3
end
section
variable {prog : Program} {w : World} {A : Around} {E : Value->Shared->Prop} {s : Shared}
theorem cat_tup {t b : Addr} {vs ws : List Value} {Q : Value->Shared->Prop} (ht : IsTup s.heap t vs.toArray) (hb : IsTup s.heap b ws.toArray) (hv : vs ≠ [])
  (h1 : ws = []->Q (.ref t) s) (h2 : ws ≠ []->Q (.ref s.heap.objs.size) { s with heap:=s.heap.push { cls:=.type "tuple",data:=.seq (vs ++ ws).toArray } })
  (hsz : vs.length + ws.length <= sizeLine) : wpAny (model prog w) A (binaryOp .Add (.ref t) (.ref b)) Q E s:=by
 obtain ⟨⟨cls,dd,data,sl⟩,ho,hc,n,hd⟩:=id ht
 obtain ⟨⟨cls2,dd2,data2,sl2⟩,ho2,hc2,n2,hd2⟩:=id hb
 simp only at hc hd hc2 hd2
 subst hc hd hc2 hd2
 have e : vs.toArray ++ ws.toArray = (vs ++ ws).toArray:=by simp
 by_cases hw : ws = []
 ·exact concat_meets ⟨_,ho,rfl⟩ ⟨_,ho2,rfl⟩ noFill_tuple_add seq_tuple_add PySem.F.slot_tuple_add PySem.F.entry_tuple_add (PySem.F.args_tuple_add_2 _ _)
   (tuple_addW1 t b vs.toArray ws.toArray n n2 dd dd2 sl sl2 (by simpa using hv) (by simp [hw])) ⟨ho,ho2,h1 hw⟩
 ·refine concat_meets ⟨_,ho,rfl⟩ ⟨_,ho2,rfl⟩ noFill_tuple_add seq_tuple_add PySem.F.slot_tuple_add PySem.F.entry_tuple_add (PySem.F.args_tuple_add_2 _ _)
   (tuple_addW2 t b vs.toArray ws.toArray n n2 dd dd2 sl sl2 (by simpa using hv) (by simpa using hw) (by rw [List.size_toArray,List.size_toArray]; exact hsz)) ⟨ho,ho2,?_⟩
  rw [e]
  exact h2 hw
def sIx (n d : Nat) : Option Int->Nat
 | none=>d
 | some v=>if v < 0 then (v + (n : Int)).toNat else min v.toNat n
theorem sIx_none (n d : Nat) : sIx n d none = d:=rfl
theorem sIx_nat (n d k : Nat) : sIx n d (some (k : Int)) = min k n:=by
 show (if (k : Int) < 0 then ((k : Int) + (n : Int)).toNat else min (k : Int).toNat n) = min k n
 rw [if_neg (by omega),Int.toNat_natCast]
theorem sIx_le (n d : Nat) (hd : d <= n) (o : Option Int) : sIx n d o <= n:=by
 cases o with
 | none=>exact hd
 | some v =>
  show (if v < 0 then (v + (n : Int)).toNat else min v.toNat n) <= n
  by_cases hv : v < 0
  ·rw [if_pos hv]; omega
  ·rw [if_neg hv]; exact Nat.min_le_right _ _
theorem clip_eq (v : Int) (n d : Nat) : (if v < 0 then max (v + (n : Int)) 0 else min v (n : Int)) = ((sIx n d (some v) : Nat) : Int):=by
 show (if v < 0 then max (v + (n : Int)) 0 else min v (n : Int)) = (((if v < 0 then (v + (n : Int)).toNat else min v.toNat n) : Nat) : Int)
 by_cases hv : v < 0
 ·simp only [if_pos hv]; omega
 ·simp only [if_neg hv]; omega
theorem adjust_gen (lo hi : Option Int) (n : Nat) : Builtin.Slice.sliceAdjust lo hi 1 (n : Int) = (((sIx n 0 lo : Nat) : Int),((sIx n n hi : Nat) : Int)):=by
 have h1 : ¬ ((1 : Int) < 0):=by omega
 unfold Builtin.Slice.sliceAdjust
 simp only [h1,if_false]
 refine Prod.ext ?_ ?_
 ·cases lo with
  | none=>rfl
  | some v=>exact clip_eq v n 0
 ·cases hi with
  | none=>rfl
  | some v=>exact clip_eq v n n
theorem places_gen (i j : Nat) : Builtin.Slice.slicePlaces (i : Int) (j : Int) 1 = j - i:=by
 unfold Builtin.Slice.slicePlaces
 have h1 : (1 : Int) > 0:=by omega
 simp only [h1,if_true,Int.ediv_one]
 split <;> omega
theorem slicePart_ {v : Value} {o : Option Int} {Q : Option Int->Shared->Prop} (p : IsPart v o) (h : Q o s) : wpAny (model prog w) A (Builtin.Slice.slicePartIndex v) Q E s:=by
 cases p with
 | none=>exact slicePart_none h
 | int i t=>exact slicePart_int h
theorem sliceApplied_gen {sl : Addr} {vl vu : Value} {lo hi : Option Int} {n : Nat} {Q : Int × Int × Nat->Shared->Prop} (hs : s.heap.IsSliceOf sl vl vu .none) (pl : IsPart vl lo) (pu : IsPart vu hi)
  (h : Q (((sIx n 0 lo : Nat) : Int),1,sIx n n hi - sIx n 0 lo) s) : wpAny (model prog w) A (Builtin.Slice.sliceApplied (.ref sl) (pure (n : Int))) Q E s:=by
 obtain ⟨os,hos,hcs,hds⟩:=id hs
 unfold Builtin.Slice.sliceApplied Builtin.Slice.sliceFields
 refine wpAny_bind (wpAny_bind (wpAny_field hos hds (x:=vl) rfl (wpAny_bind (wpAny_field hos hds (x:=vu) rfl (wpAny_bind (wpAny_field hos hds (x:=.none) rfl (wpAny_pure ?_)))))))
 refine wpAny_bind (slicePart_none ?_)
 show wpAny _ _ (if ((1 : Int) == 0) = true then _ else _) _ _ s
 rw [if_neg (by decide)]
 refine wpAny_bind (slicePart_ pl (wpAny_bind (slicePart_ pu (wpAny_bind (wpAny_pure ?_)))))
 show wpAny _ _ (match Builtin.Slice.sliceAdjust lo hi 1 (n : Int) with | (lo,hi)=>pure (lo,(1 : Int),Builtin.Slice.slicePlaces lo hi 1)) _ _ s
 rw [adjust_gen lo hi n]
 show wpAny _ _ (pure (((sIx n 0 lo : Nat) : Int),(1 : Int),Builtin.Slice.slicePlaces ((sIx n 0 lo : Nat) : Int) ((sIx n n hi : Nat) : Int) 1)) _ _ s
 rw [places_gen]
 exact wpAny_pure h
theorem pick_gen (xs : Array Value) (i k : Nat) : ((List.range k).filterMap fun (m : Nat)=>xs[((i : Int) + (m : Int) * 1).toNat]?).toArray = ((xs.toList.drop i).take k).toArray:=by
 have e : (fun (m : Nat)=>xs[((i : Int) + (m : Int) * 1).toNat]?) = fun m=>xs[i + m]?:=by
  funext m
  have : ((i : Int) + (m : Int) * 1).toNat = i + m:=by omega
  rw [this]
 rw [e]
 have:=pick_run xs i k
 rw [List.filterMap_map] at this
 have e2 : ((fun x=>xs[x]?) ∘ fun x=>i + x) = fun m=>xs[i + m]?:=rfl
 rw [e2] at this
 rw [this]
theorem getItem_tuple_cut {t sl : Addr} {items : Array Value} {vl vu : Value} {lo hi : Option Int} {Q : Value->Shared->Prop} (ht : IsTup s.heap t items) (hs : s.heap.IsSliceOf sl vl vu .none) (pl : IsPart vl lo) (pu : IsPart vu hi)
  (hw : ¬ (sIx items.size 0 lo = 0/\sIx items.size items.size hi = items.size))
  (h : Q (.ref s.heap.objs.size) { s with heap:=s.heap.push { cls:=.type "tuple",data:=.seq ((items.toList.drop (sIx items.size 0 lo)).take (sIx items.size items.size hi - sIx items.size 0 lo)).toArray } })
  (hsz : items.size <= sizeLine) : wpAny (model prog w) A (getItem (.ref t) (.ref sl)) Q E s:=by
 have htake : sizeOk (.seq ((items.toList.drop (sIx items.size 0 lo)).take (sIx items.size items.size hi - sIx items.size 0 lo)).toArray):=by
  show ((items.toList.drop (sIx items.size 0 lo)).take (sIx items.size items.size hi - sIx items.size 0 lo)).toArray.size <= sizeLine
  rw [List.size_toArray,List.length_take,List.length_drop,Array.length_toList]
  omega
 have hj : sIx items.size items.size hi <= items.size:=sIx_le _ _ (Nat.le_refl _) hi
 obtain ⟨os,hos,hcs,hds⟩:=id hs
 have hTs : s.TypeIs (.ref sl) "slice":=⟨os,hos,hcs⟩
 unfold getItem
 try with_reducible refine wpAny_holding ?_
 first | refine wpAny_bind (wpAny_pure ?_) | skip
 refine wpAny_bind (wpAny_sequenceKey ht.typeIs (by decide) ?_)
 refine wpAny_bind (wpAny_callSpecial?_slot (name:=Str.ofString "__getitem__") ht.typeIs PyProof.Rows.slot_tuple_getitem
  (wpAny_call_entry PyProof.Rows.slot_tuple_getitem ht.typeIs entry_tuple_getitem ?_ (args_tuple_getitem _ _)))
 show wpAny _ _ (Builtin.Tuple.tupleItemsOf (.ref t) >>= _) _ _ s
 refine wpAny_bind (tupleItemsOf_ ht ?_)
 refine wpAny_bind (wpAny_typeOf hTs ?_)
 rw [if_pos (by decide)]
 refine wpAny_bind (sliceApplied_gen hs pl pu ?_)
 have hno : ¬ ((((sIx items.size 0 lo : Nat) : Int) == 0 && (1 : Int) == 1 && (sIx items.size items.size hi - sIx items.size 0 lo) == items.size) = true):=by
  intro q
  rw [Bool.and_eq_true,Bool.and_eq_true] at q
  have q1 : ((sIx items.size 0 lo : Nat) : Int) = 0:=eq_of_beq q.1.1
  have q2 : sIx items.size items.size hi - sIx items.size 0 lo = items.size:=eq_of_beq q.2
  exact hw ⟨by omega,by omega⟩
 show wpAny _ _ (if (((sIx items.size 0 lo : Nat) : Int) == 0 && (1 : Int) == 1 && (sIx items.size items.size hi - sIx items.size 0 lo) == items.size) = true then _ else _) _ _ s
 rw [if_neg hno,pick_gen]
 first
  | exact wpAny_bind (m:=Builtin.Tuple.tupleExact _) (wpAny_newObj_type (wpAny_pure ⟨_,rfl,wpAny_pure h⟩) htake)
  | exact wpAny_bind (m:=Builtin.Tuple.tupleExact _) (wpAny_newObj_type (wpAny_bind (wpAny_pure (wpAny_pure ⟨_,rfl,wpAny_pure h⟩))) htake)
  | exact wpAny_bind (wpAny_bind (m:=Builtin.Tuple.tupleExact _) (wpAny_newObj_type (wpAny_pure (wpAny_pure ⟨_,rfl,wpAny_pure h⟩)) htake))
  | exact wpAny_bind (wpAny_bind (m:=Builtin.Tuple.tupleExact _) (wpAny_newObj_type (wpAny_pure ⟨_,rfl,wpAny_pure h⟩) htake))
end
end HT
namespace L2
open PySem PySem.Spec PyProof.Rows
abbrev TO:=St->Hp->(Option Int->Hp->Prop)->Prop
def PO (X : Cx) (e : Option Expr) (t : TO) : Prop :=
 ∀ (pins : List (Addr × Obj)) (s : Shared) (σ : St) (H : Hp) (Q : Option Int->Hp->Prop),Inv X pins σ H s->t σ H Q ->
  wpAny (model X.prog X.w) X.A (evalPart e X.env) (fun u s'=>∃ o H',Inv X pins σ H' s'/\IsPart u o/\Q o H') X.xe s
def tNoPart : TO:=fun _ H Q=>Q none H
def tPart (t : TE) : TO:=fun σ H Q=>t σ H fun x H1=>∃ i,x = .int i/\Q (some i) H1
section
variable {X : Cx} {e : Expr} {te : TE} {lo hi : Option Expr} {tl th : TO} {pos p2 : Pos}
theorem po_none : PO X none tNoPart:=by
 intro pins s σ H Q I h
 rw [evalPart_none]
 exact wpAny_pure ⟨none,H,I,.none,h⟩
theorem po_some (h : PE X e te) : PO X (some e) (tPart te):=by
 intro pins s σ H Q I hw
 rw [evalPart_some]
 refine thn (h pins s σ H _ I hw) fun u s1 ⟨x,H1,I1,r1,q1⟩=>?_
 obtain ⟨i,rfl,q⟩:=q1
 obtain ⟨t,rfl⟩:=r1
 exact ⟨some i,H1,I1,.int i t,q⟩
def SlR (X : Cx) (r : V->Option Int->Option Int->Hp->VK->Prop) : Prop :=
 ∀ (pins : List (Addr × Obj)) (s : Shared) (σ : St) (H : Hp) (x : V) (v vl vu : Value) (lo hi : Option Int) (sl : Addr) (Q : VK),Inv X pins σ H s->RelV x v->s.heap.IsSliceOf sl vl vu .none->IsPart vl lo->IsPart vu hi->r x lo hi H Q ->
  ∃ T id,typeLookup (.type T) "__getitem__" = pure (some (.builtin id))/\s.TypeIs v T/\wpAny (model X.prog X.w) X.A (getItem v (.ref sl)) (EP X pins σ Q) X.xe s
def tSl (r : V->Option Int->Option Int->Hp->VK->Prop) (te : TE) (tl th : TO) : TE:=fun σ H Q=>te σ H fun x H1=>tl σ H1 fun l H2=>th σ H2 fun u H3=>r x l u H3 Q
theorem pe_slice {r : V->Option Int->Option Int->Hp->VK->Prop} (hr : SlR X r) (he : PE X e te) (hl : PO X lo tl) (hu : PO X hi th) : PE X (.Subscript e (.Slice lo hi none p2) pos) (tSl r te tl th):=by
 intro pins s σ H Q I h
 refine Subscript_ (thn (he pins s σ H _ I h) fun v s1 ⟨x,H1,I1,r1,q1⟩=>?_)
 refine wpAny_Slice (thn (hl pins s1 σ H1 _ I1 q1) fun vl s2 ⟨l,H2,I2,pl,q2⟩=>thn (hu pins s2 σ H2 _ I2 q2) fun vu s3 ⟨u,H3,I3,pu,q3⟩=>?_)
 rw [evalPart_none]
 refine wpAny_pure ?_
 have I4 : Inv X pins σ H3 { s3 with heap:=s3.heap.push { cls:=.type "slice",data:=.fields #[vl,vu,.none] } }:=I3.kept (t':=s3.toks) fun b ob q=>Heap.get?_push_of_some _ q
 obtain ⟨T,id,hT,ht,hg⟩:=hr pins { s3 with heap:=s3.heap.push { cls:=.type "slice",data:=.fields #[vl,vu,.none] } } σ H3 x v vl vu l u s3.heap.objs.size Q I4 r1 (Heap.IsSliceOf.new ..) pl pu q3
 show wpAny (model X.prog X.w) X.A (subscriptTail e (.Slice lo hi none p2) v (.ref s3.heap.objs.size)) (EP X pins σ Q) X.xe { s3 with heap:=s3.heap.push { cls:=.type "slice",data:=.fields #[vl,vu,.none] } }
 exact tail_any (ops:=[.ref s3.heap.objs.size,v]) ht hT hg (by with_unfolding_all rfl)
def cutV (xs : List V) (lo hi : Option Int) : List V:=(xs.drop (HT.sIx xs.length 0 lo)).take (HT.sIx xs.length xs.length hi - HT.sIx xs.length 0 lo)
theorem cutV_length (xs : List V) (lo hi : Option Int) : (cutV xs lo hi).length <= xs.length:=by
 unfold cutV
 rw [List.length_take,List.length_drop]
 omega
def rSlT (K : PySem.W.Frag) : V->Option Int->Option Int->Hp->VK->Prop:=fun x lo hi H Q=>∃ a xs,x = .ref a/\SqT K H a xs /\
 ¬ (HT.sIx xs.length 0 lo = 0/\HT.sIx xs.length xs.length hi = xs.length)/\∀ p,H p = none->Q (.ref p) (upd H p (.tup (cutV xs lo hi)))
def rLtT (K : PySem.W.Frag) : R2:=fun x y H Q=>∃ a b ns ms,x = .ref a/\y = .ref b/\SqT K H a (ns.map V.int)/\SqT K H b (ms.map V.int)/\Q (.bl (HT.lexLt ns ms)) H
def rCatT (K : PySem.W.Frag) : R2:=fun x y H Q=>∃ a b xs ys,x = .ref a/\y = .ref b/\SqT K H a xs/\SqT K H b ys/\xs ≠ []/\xs.length + ys.length <= sizeLine /\
 (ys = []->Q (.ref a) H)/\(ys ≠ []->∀ p,H p = none->Q (.ref p) (upd H p (.tup (xs ++ ys))))
theorem Vals.nil_iff {xs : List V} {us : List Value} (r : Vals xs us) : us = [] ↔ xs = []:=by
 cases r with
 | nil=>simp
 | cons _ _=>simp
end
end L2
namespace L2
open PySem PySem.Spec PyProof.Rows
def ixN (n : Nat) (i : Int) : Option Nat:=if 0 <= i then (if i < n then some i.toNat else none) else if -(n : Int) <= i then some (i + n).toNat else none
def atI {α : Type} (xs : List α) (i : Int) : Option α:=(ixN xs.length i).bind fun j=>xs[j]?
theorem ixN_seq {n : Nat} {i : Int} {j : Nat} (h : ixN n i = some j) : seqIndex? i n = some j/\j < n/\-(n : Int) <= i/\i < n:=by
 unfold ixN at h
 by_cases h0 : 0 <= i
 ·rw [if_pos h0] at h
  by_cases h1 : i < n
  ·rw [if_pos h1] at h
   have e : i.toNat = j:=Option.some.inj h
   exact ⟨by rw [seqIndex_of h0 h1,e],by omega,by omega,h1⟩
  ·rw [if_neg h1] at h; cases h
 ·rw [if_neg h0] at h
  by_cases h1 : -(n : Int) <= i
  ·rw [if_pos h1] at h
   have e : (i + n).toNat = j:=Option.some.inj h
   exact ⟨by rw [seqIndex_neg (by omega) h1,e],by omega,h1,by omega⟩
  ·rw [if_neg h1] at h; cases h
theorem atI_get {α : Type} {xs : List α} {i : Int} {v : α} (h : atI xs i = some v) : ∃ j,seqIndex? i xs.length = some j/\xs[j]? = some v/\j < xs.length/\-(xs.length : Int) <= i/\i < xs.length:=by
 unfold atI at h
 cases e : ixN xs.length i with
 | none=>rw [e] at h; cases h
 | some j =>
  rw [e] at h
  obtain ⟨h1,h2,h3,h4⟩:=ixN_seq e
  exact ⟨j,h1,h,h2,h3,h4⟩
theorem atI_nat {α : Type} {xs : List α} {j : Nat} {v : α} (h : xs[j]? = some v) : atI xs (j : Int) = some v:=by
 have hj : j < xs.length:=(List.getElem?_eq_some_iff.mp h).1
 have e : ixN xs.length (j : Int) = some j:=by
  unfold ixN
  rw [if_pos (by omega),if_pos (by omega)]; simp
 unfold atI; rw [e]; exact h
def PlainIx (b : Expr) : Prop:=∀ o i,subscripted b false o i = operate [o,i] (getItem o i)
def IxR (X : Cx) (r : R2) : Prop :=
 ∀ (value slice : Expr) (pins : List (Addr × Obj)) (s : Shared) (σ : St) (H : Hp) (x y : V) (v u : Value) (Q : VK),Inv X pins σ H s->RelV x v->RelV y u->r x y H Q ->
  subscripted slice false v u = operate [v,u] (getItem v u)->wpAny (model X.prog X.w) X.A (subscriptTail value slice v u) (EP X pins σ Q) X.xe s
def MtR (X : Cx) (id : String) (r : V->List V->Hp->VK->Prop) : Prop :=
 ∀ (pins : List (Addr × Obj)) (s : Shared) (σ : St) (H : Hp) (x : V) (xs : List V) (v : Value) (us : List Value) (Q : VK),Inv X pins σ H s->RelV x v->Vals xs us->r x xs H Q ->
  wpAny (model X.prog X.w) X.A (call (.builtin id) (v :: us)) (EP X pins σ Q) X.xe s
section
variable {X : Cx} {a b : Expr} {ta tb : TE} {pos : Pos}
theorem pe_ix {r : R2} (hr : IxR X r) (ha : PE X a ta) (hb : PE X b tb) (hs : PlainIx b) : PE X (.Subscript a b pos) (tOp r ta tb):=by
 intro pins s σ H Q I h
 exact Subscript_ (binT ha hb I h fun v u s2 x y H2 I2 rx ry q=>hr a b pins s2 σ H2 x y v u Q I2 rx ry q (hs _ _))
def rIxL (K : PySem.W.Frag) : R2:=fun x y H Q=>∃ p xs i v,x = .ref p/\y = .int i/\SqL K H p xs/\atI xs i = some v/\Q v H
def rIxT (K : PySem.W.Frag) : R2:=fun x y H Q=>∃ p xs i v,x = .ref p/\y = .int i/\SqT K H p xs/\atI xs i = some v/\Q v H
def rIxS : R2:=fun x y H Q=>∃ z i c,x = .str z/\y = .int i/\z.length <= sizeLine/\atI z.cps.toList i = some c/\Q (.str ⟨#[c]⟩) H
theorem ix_list : IxR X (rIxL X.K):=by
 intro value slice pins s σ H x y v u Q I rx ry h hs
 obtain ⟨p,xs,i,z,rfl,rfl,hq,he,q⟩:=h
 cases rx
 obtain ⟨t,rfl⟩:=ry
 obtain ⟨its,r,pl,hz⟩:=I.list hq
 obtain ⟨j,h1,h2,h3,h4,h5⟩:=atI_get he
 obtain ⟨w,ew,rw'⟩:=r.get h2
 have hl:=r.length
 have hn:=line63
 have fin : EP X pins σ Q w s:=⟨z,H,I,rw',q⟩
 by_cases h0 : 0 <= i
 ·have hj : i.toNat = j:=by
   rw [seqIndex_of h0 h5] at h1
   exact Option.some.inj h1
  exact item_listR pl.isList h0 (by omega) (by rw [hj]; simpa using ew) fin hs
 ·have hj : (i + (its.toArray.size : Int)).toNat = j:=by
   rw [seqIndex_neg (by omega) h4] at h1
   rw [List.size_toArray,<- hl]
   exact Option.some.inj h1
  exact subscriptTail_builtinR (x:=w) pl.isList.typeIs slot_list_getitem.lookup
   (wpAny_getItem_list_neg (Q:=fun r s'=>r = w/\EP X pins σ Q r s') pl.isList (by omega) (by rw [List.size_toArray] <;> omega) (by omega) (by rw [hj]; simpa using ew) ⟨rfl,fin⟩) hs
theorem ix_tup : IxR X (rIxT X.K):=by
 intro value slice pins s σ H x y v u Q I rx ry h hs
 obtain ⟨p,xs,i,z,rfl,rfl,hq,he,q⟩:=h
 cases rx
 obtain ⟨t,rfl⟩:=ry
 obtain ⟨its,r,pl,hz⟩:=I.tuple hq
 obtain ⟨j,h1,h2,h3,h4,h5⟩:=atI_get he
 obtain ⟨w,ew,rw'⟩:=r.get h2
 have hl:=r.length
 have hn:=line63
 have fin : EP X pins σ Q w s:=⟨z,H,I,rw',q⟩
 exact subscriptTail_builtinR (x:=w) pl.typeIs slot_tuple_getitem.lookup
  (getItem_tuple (j:=j) (Q:=fun r s'=>r = w/\EP X pins σ Q r s') pl (by omega) (by omega) (by rw [List.size_toArray,<- hl]; exact h1) (by simpa using ew) ⟨rfl,fin⟩) hs
def rIx (K : PySem.W.Frag) : R2:=fun x y H Q=>rIxL K x y H Q \/ rIxT K x y H Q \/ rIxS x y H Q
theorem mapSeq_set (its : List Value) (n j : Nat) (u : Value) : Obj.mapSeq (·.setIfInBounds j u) { cls:=.type "list",data:=.seq its.toArray n } = { cls:=.type "list",data:=.seq (its.set j u).toArray n }:=by
 simp [Obj.mapSeq]
theorem Inv.lst {pins : List (Addr × Obj)} {σ : St} {H : Hp} {s : Shared} {p : Addr} {xs : List V} (I : Inv X pins σ H s) (h : H p = some (.lst xs)) :
  ∃ (its : List Value) (n : Nat),Vals xs its/\s.heap.get? p = some { cls:=.type "list",data:=.seq its.toArray n }/\xs.length <= sizeLine:=by
 obtain ⟨z,its,n,r,e⟩:=I.hok p _ h
 exact ⟨its,n,r,e,z⟩
theorem Inv.lstUpd {pins : List (Addr × Obj)} {σ : St} {H : Hp} {s : Shared} {p : Addr} {xs ys : List V} {its its' : List Value} {n n' : Nat} {f : Obj->Obj} (I : Inv X pins σ H s) (h : H p = some (.lst xs))
  (ho : s.heap.get? p = some { cls:=.type "list",data:=.seq its.toArray n }) (hf : f { cls:=.type "list",data:=.seq its.toArray n } = { cls:=.type "list",data:=.seq its'.toArray n' }) (r : Vals ys its') (hz : ys.length <= sizeLine) (t : Nat) :
  Inv X pins σ (upd H p (.lst ys)) { s with heap:=s.heap.update p f,toks:=t }:=by
 have e : (s.heap.update p f).get? p = some { cls:=.type "list",data:=.seq its'.toArray n' }:=by
  rw [Heap.get?_update_self f ho (by rw [hf] <;> rfl),hf]
 refine I.write (x:=p) (e:=p) (by rw [h]; trivial) (.inl rfl) (fun b u hb q=>(Heap.get?_update_other _ _ (Ne.symm hb)).trans q) ⟨_,e⟩ ?_
 exact ⟨hz,its',n',r,e⟩
def rSetL : V->V->V->Hp->(Hp->Prop)->Prop:=fun o i v H Q=>∃ p xs k j,o = .ref p/\i = .int k/\H p = some (.lst xs)/\ixN xs.length k = some j/\Q (upd H p (.lst (xs.set j v)))
theorem set_list : PSet X rSetL:=by
 intro pins s σ H o i v ov iv u Q I ro ri rv h
 obtain ⟨p,xs,k,j,rfl,rfl,hp,hj,q⟩:=h
 cases ro
 obtain ⟨t,rfl⟩:=ri
 obtain ⟨its,n,r,ho,hz⟩:=I.lst hp
 obtain ⟨h1,h2,h3,h4⟩:=ixN_seq hj
 have hl:=r.length
 have hn:=line63
 have I' : Inv X pins σ (upd H p (.lst (xs.set j v))) { s with heap:=s.heap.update p (Obj.mapSeq (·.setIfInBounds j u)) } :=
  I.lstUpd hp ho (mapSeq_set its n j u) (r.set rv j) (by rw [List.length_set]; exact hz) s.toks
 by_cases h0 : 0 <= k
 ·have hk : k.toNat = j:=by
   rw [seqIndex_of h0 h4] at h1
   exact Option.some.inj h1
  exact PySem.W.ki_setAt ho h0 (by omega) (by rw [List.size_toArray,<- hl]; exact h4) (by rw [hk]; exact ⟨_,I',q⟩)
 ·have hk : (k + (its.toArray.size : Int)).toNat = j:=by
   rw [seqIndex_neg (by omega) h3] at h1
   rw [List.size_toArray,<- hl]
   exact Option.some.inj h1
  exact PySem.W.ki_setBack ho (by omega) (by rw [List.size_toArray,<- hl]; exact h3) (by omega) (by rw [hk]; exact ⟨_,I',q⟩)
theorem slice_bounds (lo hi : Option Int) (n : Nat) : (sliceBounds lo hi none n).1 = ((HT.sIx n 0 lo : Nat) : Int)/\(sliceBounds lo hi none n).2.1 = ((HT.sIx n n hi : Nat) : Int)/\(sliceBounds lo hi none n).2.2 = 1:=by
 refine ⟨?_,?_,rfl⟩
 ·cases lo with
  | none=>simp [sliceBounds,HT.sIx]
  | some i =>
   simp only [sliceBounds,HT.sIx,Option.getD_none,show (1 : Int) > 0 by decide,if_true]
   by_cases h : i < 0
   ·simp only [h,if_true] <;> omega
   ·simp only [h,if_false] <;> omega
 ·cases hi with
  | none=>simp [sliceBounds,HT.sIx]
  | some i =>
   simp only [sliceBounds,HT.sIx,Option.getD_none,show (1 : Int) > 0 by decide,if_true]
   by_cases h : i < 0
   ·simp only [h,if_true] <;> omega
   ·simp only [h,if_false] <;> omega
theorem slicePick_cut (its : List Value) (lo hi : Option Int) : slicePick its.toArray lo hi none = ((its.drop (HT.sIx its.length 0 lo)).take (HT.sIx its.length its.length hi - HT.sIx its.length 0 lo)).toArray:=by
 obtain ⟨h1,h2,h3⟩:=slice_bounds lo hi its.toArray.size
 unfold slicePick
 rw [h1,h2,h3]
 simp only [sliceRange_one,pick_run,List.size_toArray] <;> rfl
def rSlL (K : PySem.W.Frag) : V->Option Int->Option Int->Hp->VK->Prop:=fun x lo hi H Q=>∃ a xs,x = .ref a/\SqL K H a xs/\∀ p,H p = none->Q (.ref p) (upd H p (.lst (cutV xs lo hi)))
theorem sl_list : SlR X (rSlL X.K):=by
 intro pins s σ H x v vl vu lo hi sl Q I rx hs pl pu h
 obtain ⟨a,xs,rfl,hx,q⟩:=h
 cases rx
 obtain ⟨its,r,ht,hz⟩:=I.list hx
 have hlen:=r.length
 refine ⟨"list",_,slot_list_getitem.lookup,ht.isList.typeIs,?_⟩
 refine wpAny_getItem_list_slice ht.isList hs pl pu .none (by simp) ?_ (by rw [List.size_toArray] <;> omega)
 rw [slicePick_cut,<- hlen]
 refine ⟨.ref s.heap.objs.size,_,I.laid (t':=s.toks) (o:=.lst (cutV xs lo hi)) (fun b ob q=>Heap.get?_push_of_some _ q) (Nat.le_refl _) ?_,rfl,q _ (I.hok.fresh (Nat.le_refl _))⟩
 exact ⟨Nat.le_trans (cutV_length xs lo hi) hz,_,0,(r.drop (HT.sIx xs.length 0 lo)).take (HT.sIx xs.length xs.length hi - HT.sIx xs.length 0 lo),Heap.get?_push_size _ rfl⟩
def flatV : V->Bool
 | .non=>true
 | .bl _=>true
 | .int _=>true
 | .str _=>true
 | _=>false
def eqV : V->V->Bool
 | .non,.non=>true
 | .bl a,.bl b=>a == b
 | .bl a,.int b=>(if a then 1 else 0) == b
 | .int a,.bl b=>a == (if b then 1 else 0)
 | .int a,.int b=>a == b
 | .str a,.str b=>a == b
 | _,_=>false
theorem eqAt_V {A : Around} {s : Shared} {y x : V} {u v : Value} (ry : RelV y u) (rx : RelV x v) (fy : flatV y = true) (fx : flatV x = true) : SeqAt.EqAt A s u v (eqV y x):=by
 cases y with
 | non =>
  cases ry
  cases x with
  | non=>cases rx; exact SeqAt.EqAt.same _
  | bl b=>cases rx; exact SeqAt.EqAt.none_bool b
  | int b=>obtain ⟨t,rfl⟩:=rx; exact SeqAt.EqAt.none_int b t
  | str b=>obtain ⟨t,rfl⟩:=rx; exact SeqAt.EqAt.none_str b t
  | _=>exact absurd (show false = true from fx) Bool.false_ne_true
 | bl a =>
  cases ry
  cases x with
  | non=>cases rx; exact SeqAt.EqAt.bool_none a
  | bl b=>cases rx; exact SeqAt.EqAt.bool_bool a b
  | int b=>obtain ⟨t,rfl⟩:=rx; exact SeqAt.EqAt.bool_int a b t
  | str b=>obtain ⟨t,rfl⟩:=rx; exact SeqAt.EqAt.bool_str a b t
  | _=>exact absurd (show false = true from fx) Bool.false_ne_true
 | int a =>
  obtain ⟨t',rfl⟩:=ry
  cases x with
  | non=>cases rx; exact SeqAt.EqAt.int_none a t'
  | bl b=>cases rx; exact SeqAt.EqAt.int_bool a t' b
  | int b=>obtain ⟨t,rfl⟩:=rx; exact SeqAt.EqAt.int_int a t' b t
  | str b=>obtain ⟨t,rfl⟩:=rx; exact SeqAt.EqAt.int_str a t' b t
  | _=>exact absurd (show false = true from fx) Bool.false_ne_true
 | str a =>
  obtain ⟨t',rfl⟩:=ry
  cases x with
  | non=>cases rx; exact SeqAt.EqAt.str_none a t'
  | bl b=>cases rx; exact SeqAt.EqAt.str_bool a t' b
  | int b=>obtain ⟨t,rfl⟩:=rx; exact SeqAt.EqAt.str_int a t' b t
  | str b=>obtain ⟨t,rfl⟩:=rx; exact SeqAt.EqAt.str_str a t' b t
  | _=>exact absurd (show false = true from fx) Bool.false_ne_true
 | _=>exact absurd (show false = true from fy) Bool.false_ne_true
def eqU (x : V) (u : Value) : Bool:=match u with
 | .none=>eqV .non x
 | .bool b=>eqV (.bl b) x
 | .int i _=>eqV (.int i) x
 | .str z _=>eqV (.str z) x
 | _=>false
theorem eqU_of {x y : V} {u : Value} (r : RelV y u) (f : flatV y = true) : eqU x u = eqV y x:=by
 cases y with
 | non=>cases r; rfl
 | bl b=>cases r; rfl
 | int i=>obtain ⟨t,rfl⟩:=r; rfl
 | str z=>obtain ⟨t,rfl⟩:=r; rfl
 | _=>exact absurd (show false = true from f) Bool.false_ne_true
theorem any_eqU {x : V} : ∀ {xs : List V} {us : List Value},Vals xs us->xs.all flatV = true->us.any (eqU x) = xs.any fun y=>eqV y x
 | _,_,.nil,_=>rfl
 | y :: xs,u :: us,.cons r t,f=>by
  rw [List.all_cons,Bool.and_eq_true] at f
  rw [List.any_cons,List.any_cons,eqU_of r f.1,any_eqU t f.2]
theorem mem_eqAt {A : Around} {s : Shared} {x : V} {v : Value} (rx : RelV x v) (fx : flatV x = true) : ∀ {xs : List V} {us : List Value},Vals xs us->xs.all flatV = true->∀ u ∈ us,SeqAt.EqAt A s u v (eqU x u)
 | _,_,.nil,_=>fun u hu=>by cases hu
 | y :: xs,u :: us,.cons r t,f=>fun u' hu=>by
  rw [List.all_cons,Bool.and_eq_true] at f
  rcases List.mem_cons.mp hu with rfl | hu
  ·rw [eqU_of r f.1]; exact eqAt_V r rx f.1 fx
  ·exact mem_eqAt rx fx t f.2 u' hu
def inV (x : V) (xs : List V) : Bool:=xs.any fun y=>eqV y x
def rIn (K : PySem.W.Frag) (neg : Bool) : R2:=fun x y H Q=>∃ p xs,y = .ref p/\(SqL K H p xs \/ SqT K H p xs)/\flatV x = true/\xs.all flatV = true/\Q (.bl (if neg then !inV x xs else inV x xs)) H
theorem op_in_seq : OpR X (compareOp .In) (rIn X.K false):=by
 intro pins s σ H x y v u Q I rx ry h
 obtain ⟨p,xs,rfl,hq,fx,fs,q⟩:=h
 cases ry
 rcases hq with hq | hq
 ·obtain ⟨its,r,pl,hz⟩:=I.list hq
  refine SeqAt.in_listAt (eqU x) pl.isList (fun w hw=>mem_eqAt rx fx r fs w (by simpa using hw)) ⟨.bl _,H,I,rfl,?_⟩
  rw [show its.toArray.any (eqU x) = its.any (eqU x) by simp,any_eqU r fs]
  exact q
 ·obtain ⟨its,r,pl,hz⟩:=I.tuple hq
  refine SeqAt.in_tupleAt (eqU x) pl (fun w hw=>mem_eqAt rx fx r fs w (by simpa using hw)) ⟨.bl _,H,I,rfl,?_⟩
  rw [show its.toArray.any (eqU x) = its.any (eqU x) by simp,any_eqU r fs]
  exact q
theorem call_len_seq : CallR X (.builtin "len") (fun xs H Q=>∃ p ys,xs = [.ref p]/\(SqL X.K H p ys \/ SqT X.K H p ys)/\Q (.int ys.length) H):=by
 intro pins s σ H xs us Q I r h
 obtain ⟨p,ys,rfl,hq,q⟩:=h
 obtain ⟨u,rfl,rx⟩:=vals1 r
 cases rx
 have hn:=line63
 rcases hq with hq | hq
 ·obtain ⟨its,r',pl,hz⟩:=I.list hq
  have hlen:=r'.length
  exact Calls.call_len_list pl.isList (by simp only [List.size_toArray] <;> omega) ⟨.int ys.length,H,I.tok _,⟨s.toks + 1,by rw [List.size_toArray,hlen]⟩,q⟩
 ·obtain ⟨its,r',pl,hz⟩:=I.tuple hq
  have hlen:=r'.length
  exact len_tuple pl (by simp only [List.size_toArray] <;> omega) ⟨.int ys.length,H,I.tok _,⟨s.toks + 1,by rw [List.size_toArray,hlen]⟩,q⟩
theorem call_list_of : CallR X (.type "list") (fun xs H Q=>∃ p ys,xs = [.ref p]/\(SqL X.K H p ys \/ SqT X.K H p ys)/\∀ l,H l = none->Q (.ref l) (upd H l (.lst ys))):=by
 intro pins s σ H xs us Q I r h
 obtain ⟨p,ys,rfl,hq,q⟩:=h
 obtain ⟨u,rfl,rx⟩:=vals1 r
 cases rx
 have fin : ∀ (its : List Value),Vals ys its->ys.length <= sizeLine->∀ (h' : Heap) (c' : Nat),(∀ b o',s.heap.get? b = some o'->h'.get? b = some o') ->
   h'.get? s.heap.objs.size = some { cls:=.type "list",dict:=none,data:=.seq its.toArray c',slots:=#[] }->EP X pins σ Q (.ref s.heap.objs.size) { s with heap:=h' }:=fun its r' hz h' c' kp e =>
  ⟨.ref s.heap.objs.size,_,I.laid (t':=s.toks) kp (Nat.le_refl _) (show ObjOk X.prog X.w _ h' _ (.lst ys) from ⟨hz,its,c',r',e⟩),rfl,q _ (I.hok.fresh (Nat.le_refl _))⟩
 rcases hq with hq | hq
 ·obtain ⟨its,r',pl,hz⟩:=I.list hq
  have hlen:=r'.length
  obtain ⟨o,ho,hc,n,hd⟩:=pl.isList
  exact call_list_seq p (.inl rfl) ho hc hd (fun h' c' kp e=>fin its r' hz h' c' kp e) (by simp only [List.size_toArray] <;> omega)
 ·obtain ⟨its,r',pl,hz⟩:=I.tuple hq
  have hlen:=r'.length
  obtain ⟨o,ho,hc,n,hd⟩:=pl
  exact call_list_seq p (.inr rfl) ho hc hd (fun h' c' kp e=>fin its r' hz h' c' kp e) (by simp only [List.size_toArray] <;> omega)
theorem call_tuple_of : CallR X (.type "tuple") (fun xs H Q=>∃ p ys,xs = [.ref p]/\((SqL X.K H p ys/\∀ l,H l = none->Q (.ref l) (upd H l (.tup ys))) \/ (SqT X.K H p ys/\Q (.ref p) H))):=by
 intro pins s σ H xs us Q I r h
 obtain ⟨p,ys,rfl,h⟩:=h
 obtain ⟨u,rfl,rx⟩:=vals1 r
 cases rx
 rcases h with ⟨hq,q⟩ | ⟨hq,q⟩
 ·obtain ⟨its,r',pl,hz⟩:=I.list hq
  have hlen:=r'.length
  refine call_tuple_list pl.isList (fun h' kp=>?_) (by simp only [List.size_toArray] <;> omega)
  have I1 : Inv X pins σ H { s with heap:=h' }:=I.kept (t':=s.toks) kp
  have I2 : Inv X pins σ (upd H h'.objs.size (.tup ys)) { s with heap:=h'.push { cls:=.type "tuple",data:=.seq its.toArray } } :=
   I1.laid (t':=s.toks) (fun b o e=>Heap.get?_push_of_some _ e) (Nat.le_refl _) (show ObjOk X.prog X.w _ _ _ (.tup ys) from ⟨hz,its,r',IsTup.new _ _⟩)
  exact ⟨.ref h'.objs.size,_,I2,rfl,q _ (I1.hok.fresh (Nat.le_refl _))⟩
 ·obtain ⟨its,r',pl,hz⟩:=I.tuple hq
  exact call_tuple_same pl ⟨.ref p,H,I,rfl,q⟩
def tyV (K : PySem.W.Frag) (T : String) (x : V) (H : Hp) : Prop:=match x with
 | .str _=>T = "str"
 | .int _=>T = "int"
 | .ref p=>(T = "list"/\∃ xs,SqL K H p xs) \/ (T = "tuple"/\∃ o,K.lookup p = some o/\o.cls = .type "tuple"/\o.dict = none) \/
   (T = "dict"/\((∃ kvs,H p = some (.dK kvs)) \/ ∃ kvs,H p = some (.dT kvs))) \/ (T = "set"/\∃ S n,H p = some (.set S n))
 | _=>False
theorem tyV_is {pins : List (Addr × Obj)} {σ : St} {H : Hp} {s : Shared} {T : String} {x : V} {v : Value} (I : Inv X pins σ H s) (r : RelV x v) (ty : tyV X.K T x H) :
  s.TypeIs v T/\∀ a,v = .ref a->∃ ob,s.heap.get? a = some ob/\ob.dict = none:=by
 cases x with
 | str z =>
  obtain ⟨t,rfl⟩:=r
  cases (show T = "str" from ty)
  exact ⟨typeIs_str s z t,fun _ e=>nomatch e⟩
 | int i =>
  obtain ⟨t,rfl⟩:=r
  cases (show T = "int" from ty)
  exact ⟨typeIs_int s i t,fun _ e=>nomatch e⟩
 | ref p =>
  cases r
  rcases ty with ⟨rfl,xs,hq⟩ | ⟨rfl,o,hk,hc,hd⟩ | ⟨rfl,hk⟩ | ⟨rfl,S,n,hk⟩
  ·obtain ⟨its,_,pl,_⟩:=I.list hq
   refine ⟨pl.isList.typeIs,fun a e=>?_⟩
   cases e
   obtain ⟨o,n,e,c,hd,_⟩:=pl
   exact ⟨o,e,hd⟩
  ·refine ⟨⟨o,I.kIn p o hk,hc⟩,fun a e=>?_⟩
   cases e
   exact ⟨o,I.kIn _ o hk,hd⟩
  ·have z : ∃ o,s.heap.get? p = some o/\o.ExactDict:=by
    rcases hk with ⟨kvs,hk⟩ | ⟨kvs,hk⟩
    ·obtain ⟨_,_,_,_,o,_,_,e,ex,_⟩:=I.hok p _ hk
     exact ⟨o,e,ex⟩
    ·obtain ⟨_,_,_,_,o,_,_,e,ex,_⟩:=I.hok p _ hk
     exact ⟨o,e,ex⟩
   obtain ⟨o,e,ex⟩:=z
   refine ⟨⟨o,e,ex.1⟩,fun a e2=>?_⟩
   cases e2
   exact ⟨o,e,ex.2.1⟩
  ·obtain ⟨o,_,_,_,e,ex,_⟩:=I.hok p _ hk
   refine ⟨⟨o,e,ex.1⟩,fun a e2=>?_⟩
   cases e2
   exact ⟨o,e,ex.2.1⟩
 | _=>exact False.elim ty
def tBM0 (K : PySem.W.Frag) (T : String) (r : V->List V->Hp->VK->Prop) (to : TE) : TE:=fun σ H Q=>to σ H fun x H1=>tyV K T x H1/\r x [] H1 Q
def tBM (K : PySem.W.Frag) (T : String) (r : V->List V->Hp->VK->Prop) (to : TE) (t : TA) : TE:=fun σ H Q=>to σ H fun x H1=>tyV K T x H1/\t σ H1 fun xs H2=>r x xs H2 Q
variable {o e : Expr} {es : List Expr} {to : TE} {t : TA} {name : Str} {apos cpos : Pos} {T id : String} {r : V->List V->Hp->VK->Prop}
theorem pe_bm0 (pa : PlainAttrs T) (slot : Slot T name id) (hty : typeOf (.builtin id) = pure (.type "method_descriptor")) (hm : MtR X id r) (ho : PE X o to)
  (hbase : attributeBase o name X.env (eval o X.env) = eval o X.env:=by rfl) (hline : (apos.endLine == cpos.line) = true:=by rfl) : PE X (.Call (.Attribute o name apos) [] [] cpos) (tBM0 X.K T r to):=by
 intro pins s σ H Q I h
 refine wpAny_Call_method0_late hbase hline (thn (ho pins s σ H _ I h) fun v s1 ⟨x,H1,I1,r1,ty,q1⟩=>?_)
 obtain ⟨h1,h2⟩:=tyV_is I1 r1 ty
 exact ⟨T,id,pa,slot,hty,h1,h2,Calls.callWith_builtin rfl (PySem.evalArgs_none (hm pins s1 σ H1 x [] v [] Q I1 r1 .nil q1))⟩
theorem pe_bm (pa : PlainAttrs T) (slot : Slot T name id) (hty : typeOf (.builtin id) = pure (.type "method_descriptor")) (hm : MtR X id r) (ho : PE X o to) (ha : PA X (e :: es) t)
  (hbase : attributeBase o name X.env (eval o X.env) = eval o X.env:=by rfl)
  (hfew : ((backTo cpos (starEach (e :: es) X.env)).all (fun x=>!x.1) && (backToKw cpos (keywordEach [] X.env)).all (fun x=>x.1.isSome)
   && decide ((e :: es).length + ([] : List Keyword).length + (if ([] : List Keyword).isEmpty then 0 else 1) < 30)) = true:=by rfl)
  (hline : (apos.endLine == cpos.line) = true:=by rfl) (hs : starEach (e :: es) X.env = (false,eval e X.env) :: starEach es X.env:=by rfl) (hplain : (backTo cpos (starEach es X.env)).any (·.1) = false:=by rfl) :
  PE X (.Call (.Attribute o name apos) (e :: es) [] cpos) (tBM X.K T r to t):=by
 intro pins s σ H Q I h
 refine wpAny_Call_method_late hbase hfew hline rfl (thn (ho pins s σ H _ I h) fun v s1 ⟨x,H1,I1,r1,ty,q1⟩=>?_)
 obtain ⟨h1,h2⟩:=tyV_is I1 r1 ty
 refine ⟨T,id,pa,slot,hty,h1,h2,?_⟩
 have hA:=ha cpos pins s1 σ H1 _ I1 q1
 rw [hs] at hA ⊢
 refine Calls.callWith_builtin (by show (false || (backTo cpos (starEach es X.env)).any (·.1)) = false; rw [hplain] <;> rfl) (Calls.evalArgs_plain ?_)
 exact thn hA fun us s2 ⟨vs,H2,I2,r2,q2⟩=>hm pins s2 σ H2 x vs v us Q I2 r1 r2 q2
end
end L2
namespace L2
open PySem PySem.Spec PyProof.Rows
def MtM (X : Cx) (id : String) (r : V->List V->Hp->VK->Prop) : Prop :=
 ∀ (pins : List (Addr × Obj)) (s : Shared) (σ : St) (H : Hp) (x : V) (xs : List V) (v : Value) (us : List Value) (Q : VK),Inv X pins σ H s->RelV x v->Vals xs us->r x xs H Q ->
  wpAny (model X.prog X.w) X.A (call (.builtin id) (v :: us)) (EP X pins σ Q) X.xe s
theorem Vals.one : ∀ {x : V} {us : List Value},Vals [x] us->∃ u,us = [u]/\RelV x u
 | _,_,.cons r .nil=>⟨_,rfl,r⟩
theorem Vals.zero : ∀ {us : List Value},Vals [] us->us = []
 | _,.nil=>rfl
theorem Vals.dropLast {xs : List V} {us : List Value} (h : Vals xs us) : Vals xs.dropLast us.dropLast:=by
 induction h with
 | nil=>exact .nil
 | cons r t ih =>
  cases t with
  | nil=>exact .nil
  | cons q t'=>exact .cons r ih
theorem Vals.rep {xs : List V} {us : List Value} (h : Vals xs us) : ∀ k : Nat,Vals (List.replicate k xs).flatten (List.replicate k us).flatten
 | 0=>.nil
 | k + 1=>by
  rw [List.replicate_succ,List.replicate_succ,List.flatten_cons,List.flatten_cons]
  exact Vals.append h (Vals.rep h k)
theorem erase_last {α : Type} (l : List α) : l.eraseIdx (l.length - 1) = l.dropLast:=by
 induction l with
 | nil=>rfl
 | cons a r ih =>
  cases r with
  | nil=>rfl
  | cons b r =>
   have e : (a :: b :: r).length - 1 = ((b :: r).length - 1) + 1:=by
    have h1 : (a :: b :: r).length = r.length + 2:=rfl
    have h2 : (b :: r).length = r.length + 1:=rfl
    omega
   rw [e,List.eraseIdx_cons_succ,ih]
   all_goals rfl
theorem foldl_rep (its : List Value) : ∀ (k : Nat) (acc : List Value),
  List.foldl (fun x1 x2=>x1 ++ x2) acc.toArray (List.replicate k its.toArray) = (acc ++ (List.replicate k its).flatten).toArray
 | 0,acc=>by simp
 | k + 1,acc=>by
  have e : acc.toArray ++ its.toArray = (acc ++ its).toArray:=by simp
  have e2 : (acc ++ its) ++ (List.replicate k its).flatten = acc ++ (List.replicate (k + 1) its).flatten:=by
   rw [List.replicate_succ,List.flatten_cons,List.append_assoc]
  rw [<- e2,<- foldl_rep its k (acc ++ its),<- e,List.replicate_succ,List.foldl_cons]
section
variable {X : Cx} {pins : List (Addr × Obj)} {σ : St} {H : Hp} {s : Shared} {l b : Addr} {xs ys zs : List V}
theorem Inv.lset {its its' : List Value} {n : Nat} {f : Array Value->Array Value} {t' : Nat} (I : Inv X pins σ H s) (hH : H l = some (.lst xs))
  (e : s.heap.get? l = some { cls:=.type "list",data:=.seq its.toArray n }) (hf : f its.toArray = its'.toArray) (hv : Vals ys its') (hz : ys.length <= sizeLine) :
  Inv X pins σ (upd H l (.lst ys)) { s with heap:=s.heap.update l (Obj.mapSeq f),toks:=t' }:=by
 have q:=PySem.IsL.update e f
 rw [hf] at q
 refine I.write (x:=l) (e:=l) (by rw [hH]; exact trivial) (.inl rfl) (fun b' u hb hu=>(Heap.get?_update_other s.heap (Obj.mapSeq f) (Ne.symm hb)).trans hu) ⟨_,q⟩ ?_
 exact ⟨hz,its',_,hv,q⟩
theorem Inv.lnew {its : List Value} {t' : Nat} (I : Inv X pins σ H s) (hv : Vals ys its) (hz : ys.length <= sizeLine) :
  Inv X pins σ (upd H s.heap.objs.size (.lst ys)) { s with heap:=s.heap.push { cls:=.type "list",data:=.seq its.toArray },toks:=t' } :=
 I.laid (fun _ _ q=>Heap.get?_push_of_some _ q) (Nat.le_refl _) ⟨hz,its,0,hv,Heap.get?_push_size _ rfl⟩
theorem Inv.fresh (I : Inv X pins σ H s) : H s.heap.objs.size = none:=I.hok.fresh (Nat.le_refl _)
theorem Inv.lstM (I : Inv X pins σ H s) (hH : H l = some (.lst xs)) : xs.length <= sizeLine/\∃ (its : List Value) (n : Nat),Vals xs its/\xs.length = its.length/\s.heap.get? l = some { cls:=.type "list",data:=.seq its.toArray n }:=by
 obtain ⟨z,its,n,r,e⟩:=I.hok l _ hH
 exact ⟨z,its,n,r,r.length,e⟩
theorem notLongL {n : Nat} (h : n <= sizeLine) : Builtin.List.listTooLong n = false:=by
 unfold Builtin.List.listTooLong
 exact decide_eq_false (by omega)
end
section
variable {X : Cx}
def rAppend : V->List V->Hp->VK->Prop:=fun x vs H Q=>∃ l xs y,x = .ref l/\vs = [y]/\H l = some (.lst xs)/\xs.length < sizeLine/\Q .non (upd H l (.lst (xs ++ [y])))
theorem mt_append : MtM X "list.append" rAppend:=by
 intro pins s σ H x vs v us Q I rx rv h
 obtain ⟨l,xs,y,rfl,rfl,hH,hz,q⟩:=h
 cases rx
 obtain ⟨u,rfl,ru⟩:=rv.one
 obtain ⟨z,its,n,r,hl,e⟩:=I.lstM hH
 refine call_meets F.slot_list_append ⟨_,e,rfl⟩ F.entry_list_append (F.args_list_append_2 _ _) (PySem.list_append l its.toArray n u (by rw [List.size_toArray]; omega)) ⟨e,?_⟩
 refine ⟨.non,_,I.lset (its':=its ++ [u]) hH e (by simp) (r.append (.cons ru .nil)) ?_,rfl,q⟩
 rw [List.length_append,List.length_singleton]
 omega
def rExtend : V->List V->Hp->VK->Prop:=fun x vs H Q=>∃ l b xs zs,x = .ref l/\vs = [.ref b]/\H l = some (.lst xs)/\H b = some (.lst zs)/\xs.length + zs.length <= sizeLine/\Q .non (upd H l (.lst (xs ++ zs)))
theorem mt_extend : MtM X "list.extend" rExtend:=by
 intro pins s σ H x vs v us Q I rx rv h
 obtain ⟨l,b,xs,zs,rfl,rfl,hH,hB,hz,q⟩:=h
 cases rx
 obtain ⟨u,rfl,ru⟩:=rv.one
 cases ru
 obtain ⟨z,its,n,r,hl,e⟩:=I.lstM hH
 obtain ⟨z2,its2,n2,r2,hl2,e2⟩:=I.lstM hB
 have hsz : its.toArray.size + its2.toArray.size <= sizeLine:=by rw [List.size_toArray,List.size_toArray]; omega
 have hlong : ¬ (!its.toArray.isEmpty && Builtin.List.listTooLong (its.toArray.size + its2.toArray.size)) = true:=by
  rw [notLongL hsz,Bool.and_false]
  exact Bool.false_ne_true
 refine call_meets F.slot_list_extend ⟨_,e,rfl⟩ F.entry_list_extend (F.args_list_extend_2 _ _)
  (AutoSeq1.list_extend_list_list_0 l its.toArray n b its2.toArray n2 hlong (by rw [List.size_toArray]; omega) (by omega)) ⟨e,e2,?_⟩
 refine ⟨.non,_,I.lset (its':=its ++ its2) hH e (by simp) (r.append r2) ?_,rfl,q⟩
 rw [List.length_append]
 omega
def rPop : V->List V->Hp->VK->Prop:=fun x vs H Q=>∃ l xs y,x = .ref l/\vs = []/\H l = some (.lst xs)/\xs[xs.length - 1]? = some y/\Q y (upd H l (.lst xs.dropLast))
theorem mt_pop : MtM X "list.pop" rPop:=by
 intro pins s σ H x vs v us Q I rx rv h
 obtain ⟨l,xs,y,rfl,rfl,hH,hy,q⟩:=h
 cases rx
 have hus:=rv.zero
 subst hus
 obtain ⟨z,its,n,r,hl,e⟩:=I.lstM hH
 obtain ⟨u,hu,ru⟩:=r.get hy
 have hy' : its.toArray[its.toArray.size - 1]? = some u:=by
  show its.toArray[its.length - 1]? = some u
  rw [<- Array.getElem?_toList,<- hl]
  exact hu
 refine call_meets F.slot_list_pop ⟨_,e,rfl⟩ F.entry_list_pop (F.args_list_pop_1 _) (MeetsSeq.list_pop_last l its.toArray n u hy' (by rw [List.size_toArray]; omega)) ⟨e,?_⟩
 refine ⟨y,_,I.lset (its':=its.dropLast) hH e ?_ r.dropLast ?_,ru,q⟩
 ·show its.toArray.eraseIdxIfInBounds (its.toArray.size - 1) = its.dropLast.toArray
  rw [List.size_toArray,List.eraseIdxIfInBounds_toArray,erase_last]
 ·rw [List.length_dropLast]
  omega
def rPopAt : V->List V->Hp->VK->Prop:=fun x vs H Q=>∃ l xs i k y,x = .ref l/\vs = [.int i]/\H l = some (.lst xs)/\-(2 ^ 63) <= i/\i < 2 ^ 63/\seqIndex? i xs.length = some k/\xs[k]? = some y/\Q y (upd H l (.lst (xs.eraseIdx k)))
def rReverse : V->List V->Hp->VK->Prop:=fun x vs H Q=>∃ l xs,x = .ref l/\vs = []/\H l = some (.lst xs)/\Q .non (upd H l (.lst xs.reverse))
def rClear : V->List V->Hp->VK->Prop:=fun x vs H Q=>∃ l xs,x = .ref l/\vs = []/\H l = some (.lst xs)/\Q .non (upd H l (.lst []))
def rCat : R2:=fun x y H Q=>∃ l b xs zs,x = .ref l/\y = .ref b/\H l = some (.lst xs)/\H b = some (.lst zs)/\xs.length + zs.length <= sizeLine/\∀ p,H p = none->Q (.ref p) (upd H p (.lst (xs ++ zs)))
theorem op_cat : OpR X (binaryOp .Add) rCat:=by
 intro pins s σ H x y v u Q I rx ry h
 obtain ⟨l,b,xs,zs,rfl,rfl,hH,hB,hz,q⟩:=h
 cases rx
 cases ry
 obtain ⟨z,its,n,r,hl,e⟩:=I.lstM hH
 obtain ⟨z2,its2,n2,r2,hl2,e2⟩:=I.lstM hB
 refine PySem.P.add_list e e2 ?_ (by rw [List.size_toArray,List.size_toArray]; omega)
 have ea : its.toArray ++ its2.toArray = (its ++ its2).toArray:=by simp
 rw [ea]
 exact ⟨.ref _,_,I.lnew (t':=s.toks) (r.append r2) (by rw [List.length_append]; omega),rfl,q _ I.fresh⟩
def rRep : R2:=fun x y H Q=>∃ l k xs,x = .ref l/\y = .int k/\H l = some (.lst xs)/\-(2 ^ 63) <= k/\k < 2 ^ 63/\xs.length * k.toNat <= sizeLine /\
 ∀ p,H p = none->Q (.ref p) (upd H p (.lst (List.replicate k.toNat xs).flatten))
theorem len_rep {α : Type} (xs : List α) (k : Nat) : (List.replicate k xs).flatten.length = k * xs.length:=by
 induction k with
 | zero=>simp
 | succ k ih=>rw [List.replicate_succ,List.flatten_cons,List.length_append,ih,Nat.succ_mul,Nat.add_comm]
theorem op_rep : OpR X (binaryOp .Mult) rRep:=by
 intro pins s σ H x y v u Q I rx ry h
 obtain ⟨l,k,xs,rfl,rfl,hH,h1,h2,hz,q⟩:=h
 cases rx
 obtain ⟨t,rfl⟩:=ry
 obtain ⟨z,its,n,r,hl,e⟩:=I.lstM hH
 have hlen : its.toArray.size * k.toNat <= sizeLine:=by rw [List.size_toArray,<- hl]; exact hz
 have hcap : ¬ its.toArray.size * k.toNat > (2 ^ 63 - 1) / 8:=by
  have : (sizeLine : Nat) <= (2 ^ 63 - 1) / 8:=by decide
  omega
 have hfit : ¬ (!Builtin.List.listFitsIndex k) = true:=by
  rw [fitsIndex_both h1 h2]
  exact Bool.false_ne_true
 have hlong : ¬ Builtin.List.listTooLong (its.toArray.size * k.toNat) = true:=by
  rw [notLongL hlen]
  exact Bool.false_ne_true
 have hnew : List.foldl (fun x1 x2=>x1 ++ x2) #[] (List.replicate (if its.toArray.isEmpty = true then 0 else k.toNat) its.toArray) = (List.replicate k.toNat its).flatten.toArray:=by
  have f0 : ∀ m : Nat,List.foldl (fun x1 x2=>x1 ++ x2) #[] (List.replicate m its.toArray) = (List.replicate m its).flatten.toArray:=fun m=>by
   have:=foldl_rep its m []
   rw [List.nil_append] at this
   exact this
  rw [f0]
  cases its with
  | nil=>simp
  | cons a r'=>rw [if_neg (by simp)]
 refine wpAny_binaryOp_repeat_ref (T:="list") (U:="int") (by decide) ⟨_,e,rfl⟩ (fun s'=>typeIs_int s' k t) noFill_list_mul F.fills_int_mul F.slot_int_rmul repeat_list F.slot_int_index.lookup
  (call_meets F.slot_int_rmul (typeIs_int s k t) F.entry_int_rmul (F.args_int_rmul_2 _ _) (int___rmul___int_list k t l its.toArray n)
   ⟨e,rfl,⟨_,e,rfl⟩,call_meets F.slot_list_mul ⟨_,e,rfl⟩ F.entry_list_mul (F.args_list_mul_2 _ _) (AutoListH.list___mul___list_int_3 l its.toArray n k t hfit hcap hlong) ⟨e,?_⟩⟩)
 rw [hnew]
 exact ⟨.ref _,_,I.lnew (t':=s.toks) (r.rep k.toNat) (by rw [len_rep,Nat.mul_comm]; exact hz),rfl,q _ I.fresh⟩
end
section
variable {prog : Program} {w : World} {A : Around} {E : Value->Shared->Prop} {s : Shared}
set_option maxRecDepth 100000 in
end
section
variable {X : Cx}
end
end L2
namespace Att
open PySem PySem.W PySem.Calls PyProof.Rows
theorem ints_of_wellAll {P : Params} {h : Heap} : ∀ (ns : List Int) (vs : List Value),WellAll P h vs (ns.map WData.int)->IntsAre vs ns:=by
 intro ns
 induction ns with
 | nil =>
  intro vs w
  rw [List.map_nil] at w
  cases w
  exact .nil
 | cons n ns ih =>
  intro vs w
  rw [List.map_cons] at w
  cases w with
  | cons a b =>
   cases a
   exact .cons _ _ (ih _ b)
theorem script_of {l : OpenLaw} {n : Nat} (hn : l.most = some n) {P : Params} {h : Heap} {args : List WData} {vals : List Value}
  (hpre : l.row.toRowW.claim.pre args = true) (hwl : WellAll P h vals args) :
  ∃ a vs ns,vals = [Value.ref a]/\args = [WData.list (ns.map WData.int)]/\h.get? a = some { cls:=.type "list",data:=.seq vs.toArray }/\IntsAre vs ns/\ns.length <= n:=by
 have hsh : WShape.hasAll [] args [.list .int] = true:=(pre_splitW hpre).1
 have hc : l.pre.holds [] { args:=args } = true:=(pre_splitW hpre).2
 obtain ⟨d,r,rfl,h1,h2⟩:=hasAllW_cons hsh
 obtain rfl:=hasAllW_nil h2
 obtain ⟨xs,rfl,h3⟩:=hasW_list h1
 obtain ⟨ns,rfl⟩:=items_int h3
 have hlen : ns.length <= n:=by
  unfold OpenLaw.pre at hc
  have h4 : (WTm.not (.lt (.lit (.int (n : Int))) (.len (.arg 0)))).holds [] { args:=[.list (ns.map .int)] } = true:=by
   have h4:=(holds_andW hc).1
   rw [hn] at h4
   exact h4
  have h5:=condW_of h4 (w_not (w_lt w_lit (w_len_list (w_arg rfl))))
  rw [List.length_map] at h5
  refine Nat.le_of_not_lt fun q=>?_
  have q' : (n : Int) < ((ns.length : Nat) : Int):=by omega
  first
   | (rw [decide_eq_true q'] at h5; exact absurd h5 (by decide))
   | (simp at h5; omega)
 cases hwl with
 | cons w1 w2 =>
  cases w2
  cases w1 with
  | list ho hall=>exact ⟨_,_,ns,rfl,rfl,ho,ints_of_wellAll ns _ hall,hlen⟩
theorem post_true (l : OpenLaw) (args : List WData) : l.row.toRowW.claim.post args (.bool true) args = true :=
 postW_of (r:=l.row.toRowW) (X:=(true == true))
  (show WShape.has [] (.bool true) .bool = true by first | rfl | decide | simp [WShape.has,WShape.arms,WShape.armsAll])
  (show (WTm.eq .res (.lit (.bool true))).value [] { args:=args,res:=some (.bool true),after:=args } = some (.bool (true == true)) from w_eq_bool (w_res rfl) w_lit) rfl
theorem attach_call {l : OpenLaw} {n : Nat} {q : Program} {loose : List Str} {XP : (Str->Option Value)->Heap->Prop} {YP : World->Heap->Prop} {d : DefRec}
  (hn : l.most = some n) (hdf : d.params.defaults = [])
  (call : ∀ (w : World) (s₀ s₁ : Shared) (mg mb : Str->Option Value) (fa : Addr) (o : Obj) (pm cd doc : Value) (a : Addr) (vs : List Value) (ns : List Int),
   Ground q loose [] XP w s₀ mg mb s₁.heap->YP w s₁.heap ->
   s₁.heap.get? fa = some o->o.data = .func (docDef d.name d.params d.body d.scope pm cd doc)->s₁.heap.CodeRec cd d.name->mg d.name = some (.ref fa) ->
   s₁.heap.get? a = some { cls:=.type "list",data:=.seq vs.toArray }->IntsAre vs ns->ns.length <= n->s₁.gens = #[] ->
   codeAny (model l.prog w) callerA (.call (.ref fa) ⟨[.ref a],[]⟩) (fun r s'=>r = .ok (.ret (.bool true))/\OldK s₁.heap s'.heap/\s'.os = s₁.os/\AllBare s'.gens) s₁) :
  WalkO q loose XP YP l.row.toRowW d [] (fun f vs=>PySem.call f vs):=by
 intro w s₀ s₁ mg mb G Y fa o pm cd doc dV kV ho hd hcd hD hmg hg args vals as hpre hlay hrd hwl hlo
 obtain rfl : dV = .none:=Dflts.none hD hdf
 obtain rfl : kV = .none:=Dflts.noKw hD
 obtain ⟨a,vs,ns,rfl,rfl,hobj,hints,hlen⟩:=script_of hn hpre hwl
 refine enter_call (codeAny_mono (call w s₀ s₁ mg mb fa o pm cd doc a vs ns G Y ho (fd_plain hd) hcd hmg hobj hints hlen hg) fun r s' hq=>?_)
 obtain ⟨rfl,h2,h3,h4⟩:=hq
 exact ⟨.inl ⟨.bool true,.bool true,[],rfl,fun _=>rfl,.bool true,post_true l _,fun _=>⟨List.Pairwise.nil,fun _ hm=>(nomatch hm)⟩⟩,h2,h3,h4⟩
section
variable {prog : Program} {w : World} {A : Around} {E : Value->Shared->Prop} {s : Shared} {K : Frag}
def noObjs (h : Heap) : Heap:={ h with objs:=#[] }
def ledger (h : Heap) (L d : Addr) : List (Addr × Obj):=(List.range h.objs.size).filterMap fun a=>if a = L \/ a = d then none else (h.get? a).map fun o=>(a,o)
end
end Att
namespace L2
open PySem PySem.Spec PyProof.Rows
theorem vals_ints : ∀ {vs : List Value} {ns : List Int},IntsAre vs ns->Vals (ns.map V.int) vs
 | _,_,.nil=>.nil
 | _,_,.cons n t h=>.cons ⟨t,rfl⟩ (vals_ints h)
def Only (H : Hp) : Prop:=∀ b,H b = none \/ ∃ o xs,H b = some (.frz o (.lst xs))
/-- THE HEAD: the law's promise,at the heap behind the top. F,the promise of the law's def,may use that base is part of the heap (so K.In base,base.Ns mainGlobals mg stand in Mod) -/
theorem law_call {P : Program} {w : World} {K : PySem.W.Frag} {mg mb : Str->Option Value} {CX : CXT} {k : Nat} {fa a : Addr} {fd : FuncData} {x : Str} {sp : Sp} {s₁ : Shared} {vs : List Value} {ns : List Int}
  (KX : K.In s₁.heap) (hns : s₁.heap.Ns mainGlobals mg) (hb : s₁.heap.Ns builtinsNs mb) (hbb : ∀ x : Str,x ≠ "__name__"->mb x = bootBuiltins x) (hlim : s₁.heap.NoLimit) (hg : s₁.gens = #[])
  (ha : s₁.heap.get? a = some { cls:=.type "list",data:=.seq vs.toArray }) (hi : IntsAre vs ns) (hl : ns.length <= sizeLine) (hr : Room k callerA)
  (F : ∀ base : Heap,K.In base->base.Ns mainGlobals mg->FnOk P w K mg base CX k fa fd [x] sp) (hbind : ∀ (s : Shared) (u : Value),BindsTo s fd ⟨[u],[]⟩ [(x,u)])
  (hsp : ∀ H : Hp,Only H->SqL K H a (ns.map V.int)->sp [.ref a] H (fun v _=>v = .bl true) fun _ _ _=>False)
  (hCX : ∀ H e s',CX [] H s₁ (fun _ _ _=>False) e s'->False) :
  codeAny (model P w) callerA (.call (.ref fa) ⟨[.ref a],[]⟩) (fun r s'=>r = .ok (.ret (.bool true))/\OldK s₁.heap s'.heap/\s'.os = s₁.os/\AllBare s'.gens) s₁:=by
 have rv:=vals_ints hi
 have lenV:=hi.length
 have core : ∀ H : Hp,Only H->SqL K H a (ns.map V.int)->HOk P w H s₁.heap->(∀ b,H b ≠ none->b = a)->(H a ≠ none->K.lookup a = none) ->
   codeAny (model P w) callerA (.call (.ref fa) ⟨[.ref a],[]⟩) (fun r s'=>r = .ok (.ret (.bool true))/\OldK s₁.heap s'.heap/\s'.os = s₁.os/\AllBare s'.gens) s₁:=by
  intro H hO hS hok hA hK
  have base_of : ∀ {b : Addr} {o : Obj},s₁.heap.get? b = some o->H b = none->(hidT s₁.heap H).get? b = some o:=fun e n=>hidT_get e n
  have noA : ∀ {b : Addr} {o : Obj} {es : Array DictEntry} {ep : Nat},s₁.heap.get? b = some o->o.data = .dict es ep->H b = none:=fun {b o es ep} e d=>by
   cases q : H b with
   | none=>rfl
   | some u =>
    have e' : b = a:=hA b (by rw [q]; simp)
    subst e'
    rw [ha] at e; cases e
    have d' : Data.seq vs.toArray _ = Data.dict es ep:=d
    cases d'
  have nsK : ∀ {b : Addr} {m : Str->Option Value},s₁.heap.Ns b m->(hidT s₁.heap H).Ns b m:=fun {b m} ⟨o,es,ep,e,d,r⟩=>⟨o,es,ep,base_of e (noA e d),d,r⟩
  have hKb : K.In (hidT s₁.heap H):=fun b o e=>base_of (KX b o e) (by
   cases q : H b with
   | none=>rfl
   | some u =>
    have e' : b = a:=hA b (by rw [q]; simp)
    subst e'
    rw [hK (by rw [q]; simp)] at e; cases e)
  have hM : Mod K mg (hidT s₁.heap H):=⟨hKb,nsK hns,⟨mb,nsK hb,hbb⟩,let ⟨mc,h1,h2⟩:=hlim; ⟨mc,nsK h1,h2⟩⟩
  have e0 : Env0 P w K mg (hidT s₁.heap H) callerA [] s₁ H:=⟨rfl,hM,fun b o e=>of_hidT e,Nat.le_of_eq (hidT_size _ _),trivial,fun b hb=>absurd (show b ∈ ([] : List Addr) from hb) (by simp),hok,.of_eq hg⟩
  refine codeAny_mono ((F _ hKb (nsK hns)).run callerA [] s₁ H ⟨[.ref a],[]⟩ [.ref a] [.ref a] _ _ hr e0 (hbind s₁ (.ref a)) (.cons rfl .nil) (hsp H hO hS)) fun r s' h=>?_
  cases r with
  | error e=>exact (hCX H e s' h).elim
  | ok fl =>
   cases fl with
   | next=>exact False.elim h
   | brk=>exact False.elim h
   | cont=>exact False.elim h
   | ret u =>
    obtain ⟨v,H',os,bare,un,hok',r',q⟩:=h
    have q' : v = .bl true:=q
    subst q'
    obtain rfl : u = Value.bool true:=r'
    refine ⟨rfl,OldK.of_keep fun b o e=>?_,os,bare⟩
    cases q : H b with
    | none=>exact un.keep b o e q (by intro z; exact absurd (show b ∈ ([] : List Addr) from z) (by simp)) (by simp)
    | some u =>
     rcases hO b with z | ⟨ob,xs,z⟩
     ·rw [q] at z; cases z
     ·have z2:=un.frzs b ob _ z
      obtain ⟨e1,_⟩:=hok b _ z
      obtain ⟨e2,_⟩:=hok' b _ z2
      rw [e] at e1; cases e1
      exact e2
 cases hk : K.lookup a with
 | some o =>
  have e:=KX a o hk
  rw [ha] at e
  cases e
  refine core (fun _=>none) (fun _=>.inl rfl) (.inr ⟨_,vs.toArray,_,hk,rfl,rfl,rfl,by rw [List.size_toArray,lenV]; exact hl,by simpa using rv⟩) (fun b u z=>by have z' : (none : Option HO) = some u:=z; cases z') (fun b z=>absurd rfl z) fun z=>absurd rfl z
 | none =>
  refine core (fun b=>if b = a then some (.frz { cls:=.type "list",data:=.seq vs.toArray } (.lst (ns.map V.int))) else none) (fun b=>?_) (.inl (.inr ⟨{ cls:=.type "list",data:=.seq vs.toArray },if_pos rfl⟩)) (fun b u z=>?_) (fun b z=>?_) fun _=>hk
  ·by_cases hb : b = a
   ·exact .inr ⟨_,_,if_pos hb⟩
   ·exact .inl (if_neg hb)
  ·by_cases hb : b = a
   ·have z':=(if_pos hb).symm.trans z
    cases z'
    subst hb
    exact ⟨ha,by rw [List.length_map]; exact hl,vs,_,rv,ha⟩
   ·have z':=(if_neg hb).symm.trans z
    cases z'
  ·by_cases hb : b = a
   ·exact hb
   ·exact absurd (if_neg hb) z
end L2
namespace L2
open PySem PySem.Spec PyProof.Rows
abbrev KOf {K : PySem.W.Frag} {h : Heap} (_ : K.In h) : PySem.W.Frag:=K
theorem walk_of {l : PySem.W.OpenLaw} {n k : Nat} {q : Program} {loose : List Str} {XP : (Str->Option Value)->Heap->Prop} {YP : World->Heap->Prop} {d : DefRec} {K : Params->PySem.W.Frag} {CX : World->CXT} {sp : World->Sp} {x : Str}
  (hn : l.most = some n) (hn2 : n <= sizeLine) (hdf : d.params.defaults = []) (hr : Room k callerA)
  (hY : ∀ (w : World) (h : Heap),YP w h->(K w.params).In h)
  (F : ∀ (w : World) (mg : Str->Option Value) (fa : Addr) (h : Heap),(K w.params).In h->h.Ns mainGlobals mg->mg d.name = some (.ref fa) ->
   ∃ fd : FuncData,(∀ (s : Shared) (u : Value),BindsTo s fd ⟨[u],[]⟩ [(x,u)]) /\
    ∀ base : Heap,(K w.params).In base->base.Ns mainGlobals mg->FnOk l.prog w (K w.params) mg base (CX w) k fa fd [x] (sp w))
  (hsp : ∀ (w : World) (H : Hp) (a : Addr) (ns : List Int),ns.length <= n->Only H->SqL (K w.params) H a (ns.map V.int)->sp w [.ref a] H (fun v _=>v = .bl true) fun _ _ _=>False)
  (hCX : ∀ (w : World) (H : Hp) (s : Shared) (e : Value) (s' : Shared),CX w [] H s (fun _ _ _=>False) e s'->False) :
  PySem.W.WalkO q loose XP YP l.row.toRowW d [] (fun f vs=>PySem.call f vs):=by
 refine Att.attach_call hn hdf fun w s₀ s₁ mg mb fa o pm cd doc a vs ns G Y ho hd hcd hmg hobj hints hlen hg=>?_
 have KX:=hY w _ Y
 obtain ⟨fd,hb,hF⟩:=F w mg fa _ KX G.T.g hmg
 exact law_call KX G.T.g G.T.b G.T.builtins G.T.nolimit hg hobj hints (Nat.le_trans hlen hn2) hr hF hb (fun H hO hS=>hsp w H a ns hlen hO hS) fun H e s'=>hCX w H s₁ e s'
theorem walk_ofK {l : PySem.W.OpenLaw} {n k : Nat} {q : Program} {loose : List Str} {XP : (Str->Option Value)->Heap->Prop} {YP : World->Heap->Prop} {d : DefRec} {K : Params->PySem.W.Frag} {CX : CXT} {sp : PySem.W.Frag->Sp} {x : Str}
  (hn : l.most = some n) (hn2 : n <= sizeLine) (hdf : d.params.defaults = []) (hr : Room k callerA)
  (hY : ∀ (w : World) (h : Heap),YP w h->(K w.params).In h)
  (F : ∀ (w : World) (mg : Str->Option Value) (fa : Addr) (h : Heap),(K w.params).In h->h.Ns mainGlobals mg->mg d.name = some (.ref fa) ->
   ∃ fd : FuncData,(∀ (s : Shared) (u : Value),BindsTo s fd ⟨[u],[]⟩ [(x,u)]) /\
    ∀ base : Heap,(K w.params).In base->base.Ns mainGlobals mg->FnOk l.prog w (K w.params) mg base CX k fa fd [x] (sp (K w.params)))
  (hsp : ∀ (K : PySem.W.Frag) (H : Hp) (a : Addr) (ns : List Int),ns.length <= n->Only H->SqL K H a (ns.map V.int)->sp K [.ref a] H (fun v _=>v = .bl true) fun _ _ _=>False)
  (hCX : ∀ (H : Hp) (s : Shared) (e : Value) (s' : Shared),CX [] H s (fun _ _ _=>False) e s'->False) :
  PySem.W.WalkO q loose XP YP l.row.toRowW d [] (fun f vs=>PySem.call f vs) :=
 walk_of (K:=K) (CX:=fun _=>CX) (sp:=fun w=>sp (K w.params)) hn hn2 hdf hr hY F (fun w H a ns h1 h2 h3=>hsp (K w.params) H a ns h1 h2 h3) fun _ H s e s'=>hCX H s e s'
end L2
namespace L2
open PySem PySem.Spec PyProof.Rows
def inClass (s : Stmt) (j : Nat) : Stmt:=match s with
 | .ClassDef _ _ _ body _ _ _ _ _ _ _=>body.getD j (.Pass ⟨0,0,0,0⟩)
 | _=>.Pass ⟨0,0,0,0⟩
def defArgs (s : Stmt) : Arguments:=match s with
 | .FunctionDef _ a _ _ _ _ _ _ _ _=>a
 | _=>{ posonlyargs:=[],args:=[],vararg:=none,kwonlyargs:=[],kw_defaults:=[],kwarg:=none,defaults:=[] }
def defBody (s : Stmt) : List Stmt:=match s with
 | .FunctionDef _ _ b _ _ _ _ _ _ _=>b
 | _=>[]
def defScope (s : Stmt) : Scope:=match s with
 | .FunctionDef _ _ _ _ _ _ sc _ _ _=>sc
 | _=>{ kind:=.function,names:=[],isGenerator:=false,isCoroutine:=false }
abbrev CX0 : CXT:=fun _ _ _ _ _ _=>False
abbrev E0 : XK:=fun _ _ _=>False
theorem pass0 {X : Cx} : Passes CX0 X E0:=fun _ _ _ _ _ _ _ h=>h.elim
structure Fun (K : PySem.W.Frag) (x qual : Str) (st : Stmt) (f : Addr) (fd : FuncData) : Prop where
 ex : ∃ (oc : Value) (od : Option Addr) (kV doc pm : Value) (an : Option Addr) (cdv ct : Value) (osl : Array (Option Value)),
  fd = PySem.W.fnOf x qual (defArgs st) (defBody st) (defScope st) .none kV doc pm an cdv ct/\K.lookup f = some ⟨oc,od,.func fd,osl⟩/\PySem.W.codeIn K cdv qual = true
 kp : PySem.W.keepIn K (.ref f) = true
section
variable {P : Program} {w : World} {K : PySem.W.Frag} {mg : Str->Option Value} {base : Heap}
/-- THE RULE for a def: its body as a term of rules,and the reading of that term -/
theorem Fun.ok {x qual : Str} {st : Stmt} {f : Addr} {fd : FuncData} {N ps : List Str} {k : Nat} {sp : Sp} (F : Fun K x qual st f fd) (S : FnScope N ps (defScope st)) (len : ∀ vs H Q E,sp vs H Q E->vs.length = ps.length)
  (hbody : ∀ (cdv : Value) (A : Around) (outer : List Env) (s : Shared) (H : Hp) (vs : List V) (Q : VK) (E : XK),Room k (A.deeper (envOfC qual (defScope st) s.heap.objs.size f cdv))->sp vs H Q E ->
   ∃ t,PSs (cxOf CX0 P w K mg base N qual (defScope st) f cdv A outer s H E).nox (defBody st) t/\t { nx:=fun _ H'=>Q .non H',rt:=Q } (start N vs) H) : FnOk P w K mg base CX0 (k + 1) f fd ps sp:=by
 obtain ⟨oc,od,kV,doc,pm,an,cdv,ct,osl,rfl,lk,hcd⟩:=F.ex
 refine fn_of lk hcd S len fun A outer s H vs Q E hr hsp=>?_
 obtain ⟨t,h,q⟩:=hbody cdv A outer s H vs Q E hr hsp
 exact ⟨t,h.nox,q⟩
theorem Fun.binds {x qual : Str} {st : Stmt} {f : Addr} {fd : FuncData} {ps : List Str} (F : Fun K x qual st f fd)
  (h : ∀ (kV doc pm : Value) (an : Option Addr) (cdv ct : Value) (us : List Value),us.length = ps.length->bindArgs (PySem.W.fnOf x qual (defArgs st) (defBody st) (defScope st) .none kV doc pm an cdv ct) ⟨us,[]⟩ = pure (ps.zip us)) : Binds K fd ps []:=by
 obtain ⟨oc,od,kV,doc,pm,an,cdv,ct,osl,rfl,lk,hcd⟩:=F.ex
 exact .all (h kV doc pm an cdv ct)
theorem fun_mk {x qual : Str} {st : Stmt} {f : Addr} {oc : Value} {od an : Option Addr} {osl : Array (Option Value)} {kV doc pm cdv ct : Value} (l : K.lookup f = some ⟨oc,od,.func (PySem.W.fnOf x qual (defArgs st) (defBody st) (defScope st) .none kV doc pm an cdv ct),osl⟩)
  (c : PySem.W.codeIn K cdv qual = true) (k : PySem.W.keepIn K (.ref f) = true) : Fun K x qual st f (PySem.W.fnOf x qual (defArgs st) (defBody st) (defScope st) .none kV doc pm an cdv ct):=⟨⟨oc,od,kV,doc,pm,an,cdv,ct,osl,rfl,l,c⟩,k⟩
end
theorem hu_of {A : Around} {k : Nat} (hr : Room k A) : A.units + 1 < cLine:=Nat.lt_of_le_of_lt (Nat.add_le_add_left (by decide : 1 <= 64) _) hr.units
section
variable {X : Cx}
end
theorem iteF {A B : Prop} (h : B) : if false = true then A else B:=by
 rw [if_neg Bool.false_ne_true]
 exact h
theorem iteT {A B : Prop} (h : A) : if true = true then A else B:=by
 rw [if_pos rfl]
 exact h
theorem ite2 {c A B : Prop} [Decidable c] (h1 : c->A) (h2 : ¬ c->B) : if c then A else B:=by
 by_cases h : c
 ·rw [if_pos h]
  exact h1 h
 ·rw [if_neg h]
  exact h2 h
def Same (H H' : Hp) : Prop:=∀ b o,H b = some o->H' b = some o
theorem Same.refl (H : Hp) : Same H H:=fun _ _ h=>h
theorem Same.trans {H H1 H2 : Hp} (a : Same H H1) (b : Same H1 H2) : Same H H2:=fun c o h=>b c o (a c o h)
theorem Same.free {H H' : Hp} (e : Same H H') {l : Addr} (h : H' l = Option.none) : H l = Option.none:=by
 cases q : H l with
 | none=>rfl
 | some o =>
  rw [e l o q] at h
  cases h
theorem Same.seq {K : PySem.W.Frag} {H H' : Hp} {a : Addr} {xs : List V} (e : Same H H') (h : SqL K H a xs) : SqL K H' a xs:=by
 rcases h with (h | ⟨o,h⟩) | h
 ·exact .inl (.inl (e _ _ h))
 ·exact .inl (.inr ⟨o,e _ _ h⟩)
 ·exact .inr h
end L2
set_option maxHeartbeats 4000000
namespace L2
open PySem
structure Flt (B : Heap) (l : List Env) (e : Addr) (cls : Value) (d : Option Addr) (fl : Value) (h : Heap) : Prop where
 stays : B.StaysIn h
 new : B.get? e = none
 frames : h.FunFrames B l
 tr : ∃ ox ws T oT ts,h.get? e = some ox/\ox.cls = cls/\ox.dict = d/\ox.data = .fields ws/\ws[1]? = some (.ref T) /\
  B.get? T = none/\T ≠ e/\h.get? T = some oT/\oT.data = .fields ts/\ts[3]? = some fl
theorem dict_mapF (o : Obj) (f : Array Value->Array Value) : (o.mapFields f).dict = o.dict:=by
 unfold Obj.mapFields
 split <;> rfl
section
variable {M : Model} {A : Around} {E : Value->Shared->Prop} {s : Shared} {B : Heap} {env : Env} {outer l : List Env} {L e : Addr} {cls fl : Value} {d : Option Addr} {Q : Unit->Shared->Prop}
theorem Flt.obj {h : Heap} (x : Flt B l e cls d fl h) : ∃ ox ws,h.get? e = some ox/\ox.cls = cls/\ox.dict = d/\ox.data = .fields ws:=by
 obtain ⟨ox,ws,_,_,_,a1,a2,a3,a4,_⟩:=x.tr
 exact ⟨ox,ws,a1,a2,a3,a4⟩
theorem note_tail {ox : Obj} {ws : Array Value} {head : Value} {more : Bool} (hA : A.frames = some (env :: outer)) (hF : s.heap.FunFrames B (env :: outer)) (hL : env.frame = some L)
  (h1 : s.heap.get? e = some ox) (hB : B.StaysIn s.heap) (hn : B.get? e = none) (hw : ox.data = .fields ws) (hz : 1 < ws.size)
  (k : ∀ h',Flt B (env :: outer) e ox.cls ox.dict (rawInt L) h'->s.heap.UpToSlots h'->Q () { s with heap:=h' }) :
  wpAny M A (do let a <- frameOf env; let pl <- entryPlaceOf L more; let b <- EntryCells.newEntry head a .none (rawInt L) .none pl; setField (.ref e) 1 b) Q E s:=by
 have nf : e ∉ (env :: outer).filterMap (·.frame):=by
  intro z
  obtain ⟨_,o,q,r⟩:=hF.mem z
  rw [h1] at q
  cases q
  exact r ws hw
 refine wpAny_bind (wpAny_frameOf_fun hA hF hL ?_)
 intro g1 k1
 refine wpAny_bind (wpAny_entryPlaceOf ?_)
 intro pl hp
 unfold EntryCells.newEntry newFields
 refine wpAny_bind (wpAny_newObj_type ?_ (hp.sizeOk5 _ _ _ _ _))
 have e1 : g1.get? e = some ox:=(k1.2.1 e nf).trans h1
 have B1 : B.StaysIn g1:=by
  intro b o q
  refine (k1.2.1 b ?_).trans (hB b o q)
  intro z
  rw [(hF.mem z).1] at q
  cases q
 generalize hR : ({ cls:=.type "traceback",dict:=none,data:=.fields ([head,.ref L,.none,rawInt L,.none] ++ (if pl.isEmpty then List.replicate 6 Value.none else pl)).toArray } : Obj) = R
 have R3 : ∃ ts,R.data = .fields ts/\ts[3]? = some (rawInt L):=by
  subst hR
  exact ⟨_,rfl,by simp⟩
 have Rf : R.isFreed = false:=by subst hR; rfl
 have e2:=Heap.get?_push_of_some (h:=g1) R e1
 refine wpAny_setField e2 hw hz (k _ ?_ ?_)
 ·have hT : g1.objs.size ≠ e:=Nat.ne_of_gt (Heap.lt_size e1)
  have w3:=Obj.data_mapFields hw (·.setIfInBounds 1 (Value.ref g1.objs.size))
  have e3:=Heap.get?_update_self (Obj.mapFields (·.setIfInBounds 1 (Value.ref g1.objs.size))) e2 (Obj.isFreed_of_fields w3)
  have T3:=(Heap.get?_update_other (g1.push R) (Obj.mapFields (·.setIfInBounds 1 (Value.ref g1.objs.size))) (Ne.symm hT)).trans (Heap.get?_push_size g1 Rf)
  refine ⟨?_,hn,?_,?_⟩
  ·intro b o q
   have ne : e ≠ b:=by intro z; subst z; rw [hn] at q; cases q
   rw [Heap.get?_update_other _ _ ne]
   exact Heap.get?_push_of_some _ (B1 b o q)
  ·refine hF.of_keeps ?_
   intro b o q r
   obtain ⟨sl,z⟩:=k1.2.2 b o q
   have ne : e ≠ b:=by intro y; subst y; rw [h1] at q; cases q; exact r ws hw
   refine ⟨{ o with slots:=sl },?_,rfl⟩
   rw [Heap.get?_update_other _ _ ne]
   exact Heap.get?_push_of_some _ z
  ·obtain ⟨ts,r1,r2⟩:=R3
   exact ⟨_,_,g1.objs.size,R,ts,e3,Obj.cls_mapFields _ _,dict_mapF _ _,w3,by simp [hz],B1.fresh,hT,T3,r1,r2⟩
 ·intro b o q r
  obtain ⟨sl,z⟩:=k1.2.2 b o q
  have ne : e ≠ b:=by intro y; subst y; rw [h1] at q; cases q; exact r ws hw
  refine ⟨sl,?_⟩
  rw [Heap.get?_update_other _ _ ne]
  exact Heap.get?_push_of_some _ z
theorem note_first {ox : Obj} {ws : Array Value} (hA : A.frames = some (env :: outer)) (hF : s.heap.FunFrames B (env :: outer)) (hL : env.frame = some L)
  (h1 : s.heap.get? e = some ox) (hB : B.StaysIn s.heap) (hn : B.get? e = none) (hw : ox.data = .fields ws) (hz : ws[1]? = some .none)
  (k : ∀ h',Flt B (env :: outer) e ox.cls ox.dict (rawInt L) h'->s.heap.UpToSlots h'->Q () { s with heap:=h' }) : wpAny M A (noteFrame (.ref e) env) Q E s:=by
 unfold noteFrame
 simp only [hL]
 refine wpAny_bind (wpAny_field h1 hw hz ?_)
 rw [if_neg (by decide)]
 exact note_tail hA hF hL h1 hB hn hw (Array.getElem?_eq_some_iff.mp hz).1 k
theorem note_next (hA : A.frames = some (env :: outer)) (hL : env.frame = some L) (x : Flt B (env :: outer) e cls d .none s.heap)
  (k : ∀ h',Flt B (env :: outer) e cls d (rawInt L) h'->s.heap.UpToSlots h'->Q () { s with heap:=h' }) : wpAny M A (noteFrame (.ref e) env) Q E s:=by
 obtain ⟨ox,ws,T,oT,ts,a1,a2,a3,a4,a5,a6,a7,a8,a9,a10⟩:=x.tr
 subst a2 a3
 unfold noteFrame
 simp only [hL]
 refine wpAny_bind (wpAny_field a1 a4 a5 ?_)
 rw [if_pos (show (Value.ref T != Value.none) = true by simp)]
 refine wpAny_bind (wpAny_field a8 a9 a10 ?_)
 rw [if_neg (show ¬ ((Value.none == rawInt L) = true) by simp [rawInt])]
 refine wpAny_bind (wpAny_setField a8 a9 (Array.getElem?_eq_some_iff.mp a10).1 ?_)
 have oth : ∀ b,b ≠ T->(s.heap.update T (Obj.mapFields (·.setIfInBounds 3 Value.none))).get? b = s.heap.get? b:=by
  intro b z
  exact Heap.get?_update_other _ _ (Ne.symm z)
 have nT : ∀ b o,s.heap.get? b = some o->(∀ us,o.data ≠ .fields us)->b ≠ T:=by
  intro b o q r z
  rw [z,a8] at q
  cases q
  exact r ts a9
 refine note_tail hA ?_ hL ((oth e (Ne.symm a7)).trans a1) ?_ x.new a4 (Array.getElem?_eq_some_iff.mp a5).1 ?_
 ·refine x.frames.of_keeps ?_
  intro b o q r
  exact ⟨o,(oth b (nT b o q r)).trans q,rfl⟩
 ·intro b o q
  refine (oth b ?_).trans (x.stays b o q)
  intro z
  rw [z,a6] at q
  cases q
 ·intro h' y1 y2
  refine k h' y1 ?_
  intro b o q r
  exact y2 b o ((oth b (nT b o q r)).trans q) r
theorem fly_on (x : Flt B l e cls d fl s.heap) (k : ∀ h',Flt B l e cls d .none h'->s.heap.UpToSlots h'->Q () { s with heap:=h' }) : wpAny M A (setFlight (.ref e) none) Q E s:=by
 obtain ⟨ox,ws,T,oT,ts,a1,a2,a3,a4,a5,a6,a7,a8,a9,a10⟩:=x.tr
 have z3 : 3 < ts.size:=(Array.getElem?_eq_some_iff.mp a10).1
 have oth : ∀ b,b ≠ T->(s.heap.update T (Obj.mapFields (·.setIfInBounds 3 ((none : Option Addr).elim Value.none fun f=>rawInt f)))).get? b = s.heap.get? b:=by
  intro b z
  exact Heap.get?_update_other _ _ (Ne.symm z)
 have nT : ∀ b o,s.heap.get? b = some o->(∀ us,o.data ≠ .fields us)->b ≠ T:=by
  intro b o q r z
  rw [z,a8] at q
  cases q
  exact r ts a9
 unfold setFlight
 refine wpAny_bind (wpAny_field a1 a4 a5 ?_)
 rw [if_pos (show (Value.ref T != Value.none) = true by simp)]
 refine wpAny_setField a8 a9 z3 (k _ ⟨?_,x.new,?_,?_⟩ ?_)
 ·intro b o q
  refine (oth b ?_).trans (x.stays b o q)
  intro z
  rw [z,a6] at q
  cases q
 ·refine x.frames.of_keeps ?_
  intro b o q r
  exact ⟨o,(oth b (nT b o q r)).trans q,rfl⟩
 ·have w3:=Obj.data_mapFields a9 (·.setIfInBounds 3 ((none : Option Addr).elim Value.none fun f=>rawInt f))
  exact ⟨ox,ws,T,_,_,(oth e (Ne.symm a7)).trans a1,a2,a3,a4,a5,a6,a7,Heap.get?_update_self _ a8 (Obj.isFreed_of_fields w3),w3,by simp [z3]⟩
 ·intro b o q r
  exact ⟨o.slots,(oth b (nT b o q r)).trans q⟩
theorem Flt.out {h : Heap} (x : Flt B (env :: outer) e cls d fl h) : Flt B outer e cls d fl h:=by
 obtain ⟨a1,a2,⟨_,_,a3⟩,a4⟩:=x
 exact ⟨a1,a2,a3,a4⟩
theorem leave_first {ox : Obj} {ws : Array Value} (hA : A.frames = some (env :: outer)) (hF : s.heap.FunFrames B (env :: outer)) (hL : env.frame = some L)
  (h1 : s.heap.get? e = some ox) (hB : B.StaysIn s.heap) (hn : B.get? e = none) (hw : ox.data = .fields ws) (hz : ws[1]? = some .none)
  (k : ∀ h',Flt B outer e ox.cls ox.dict .none h'->s.heap.UpToSlots h'->Q () { s with heap:=h' }) : wpAny M A (leaving env (.ref e)) Q E s:=by
 unfold leaving
 refine wpAny_bind (note_first hA hF hL h1 hB hn hw hz ?_)
 intro h' x y
 refine fly_on x ?_
 intro h'' x' y'
 exact k h'' x'.out (y.trans y')
theorem leave_next (hA : A.frames = some (env :: outer)) (hL : env.frame = some L) (x : Flt B (env :: outer) e cls d .none s.heap)
  (k : ∀ h',Flt B outer e cls d .none h'->s.heap.UpToSlots h'->Q () { s with heap:=h' }) : wpAny M A (leaving env (.ref e)) Q E s:=by
 unfold leaving
 refine wpAny_bind (note_next hA hL x ?_)
 intro h' x y
 refine fly_on x ?_
 intro h'' x' y'
 exact k h'' x'.out (y.trans y')
end
end L2
set_option maxHeartbeats 4000000
namespace L2
open PySem PySem.Spec PyProof.Rows
def CX1 (P : Program) (w : World) : CXT:=fun outer H s E e s' =>
 ∃ (a : Addr) (cls : Value) (d : Option Addr) (B : Heap) (H' : Hp),e = .ref a/\s'.os = s.os/\AllBare s'.gens/\Un (frs outer) [] H H' s.heap s'.heap/\HOk P w H' s'.heap /\
  Flt B outer a cls d .none s'.heap/\H' a = none /\
  (∀ b o,s.heap.get? b = some o->b ∉ frs outer->H b = none->B.get? b = some o) /\
  (∀ b u,H' b = some u->∃ o,B.get? b = some o) /\
  (∀ b o,s.heap.get? b = some o->b ∈ frs outer \/ ∃ o',B.get? b = some o')/\E cls d H'
theorem frs_cons {env : Env} {outer : List Env} {L : Addr} (h : env.frame = some L) : frs (env :: outer) = L :: frs outer:=by
 unfold frs
 rw [List.filterMap_cons,h]
theorem ObjOk.ex {P : Program} {w : World} {H : Hp} {h : Heap} {a : Addr} {o : HO} (x : ObjOk P w H h a o) : ∃ ob,h.get? a = some ob:=by
 cases o with
 | lst xs=>obtain ⟨_,_,_,_,e⟩:=x; exact ⟨_,e⟩
 | tup xs=>obtain ⟨_,_,_,ob,e,_⟩:=x; exact ⟨_,e⟩
 | dK kvs=>obtain ⟨_,_,_,_,o,_,_,e,_⟩:=x; exact ⟨_,e⟩
 | dT kvs=>obtain ⟨_,_,_,_,o,_,_,e,_⟩:=x; exact ⟨_,e⟩
 | set S n=>obtain ⟨o,_,_,_,e,_⟩:=x; exact ⟨_,e⟩
 | ins C dx fs=>obtain ⟨_,_,_,e,_⟩:=x; exact ⟨_,e⟩
 | own y=>exact x
 | xd fs=>obtain ⟨_,⟨_,_,_,e,_⟩,_⟩:=x; exact ⟨_,e⟩
 | rng lo hi=>obtain ⟨_,_,_,e⟩:=x; exact ⟨_,e⟩
 | frz ob u=>obtain ⟨e,_⟩:=x; exact ⟨_,e⟩
 | tbl ps=>exact ⟨_,(show h.get? a = some _ from x)⟩
 | met f y=>exact ⟨_,(show h.get? a = some _ from x)⟩
 | ext φ=>obtain ⟨_,e,_⟩:=x; exact e
section
variable {X : Cx} {pins : List (Addr × Obj)} {σ : St} {H H' : Hp} {s s1 : Shared} {B h' : Heap}
theorem Inv.flown (I : Inv X pins σ H s) (os : s1.os = s.os) (bare : AllBare s1.gens) (un : Un (frs X.stack) [] H H' s.heap s1.heap) (hok : HOk X.prog X.w H' s1.heap) (bs : B.StaysIn s1.heap)
  (b1 : ∀ b o,s.heap.get? b = some o->b ∉ frs X.stack->H b = none->B.get? b = some o) (b2 : ∀ b u,H' b = some u->∃ o,B.get? b = some o)
  (b3 : ∀ b o,s.heap.get? b = some o->b ∈ frs X.stack \/ ∃ o',B.get? b = some o') (st : B.StaysIn h') (up : s1.heap.UpToSlots h') : Inv X pins σ H' { s1 with heap:=h' }:=by
 have nf : ∀ b ∈ frs X.stack,∀ o,s.heap.get? b = some o->∀ vs,o.data ≠ .fields vs:=fun b hb o e=>by
  obtain ⟨_,o',e',r⟩:=I.stack.mem hb
  rw [e] at e'
  cases e'
  exact r
 have sl : ∀ b o,s.heap.get? b = some o->b ∈ frs X.stack->∃ sl,h'.get? b = some { o with slots:=sl }:=fun b o e hb=>by
  obtain ⟨s2,e2⟩:=un.slot b o e (I.stkFree b hb) hb (by simp)
  obtain ⟨s3,e3⟩:=up b _ e2 (nf b hb o e)
  exact ⟨s3,e3⟩
 refine I.call' (s':={ s1 with heap:=h' }) os ⟨fun b o e n hb _=>st b o (b1 b o e hb n),fun b o e n hb _=>sl b o e hb,un.free,fun b o e hx=>?_,un.tups,un.frzs,un.tbls⟩ (fun b u e=>?_) bare fun b z=>nomatch z
 ·rcases b3 b o e with z | ⟨o',z⟩
  ·obtain ⟨_,q⟩:=sl b o e z
   exact ⟨_,q⟩
  ·exact ⟨o',st b o' z⟩
 ·refine (hok b u e).stay (fun c v hc q=>?_) (fun _ q=>q) fun _ _ q=>q
  have ht : ∃ u',H' c = some u':=by
   rcases hc with rfl | hc
   ·exact ⟨u,e⟩
   ·exact ⟨_,hc⟩
  obtain ⟨u',hu⟩:=ht
  obtain ⟨o,ho⟩:=b2 c u' hu
  have q':=bs c o ho
  rw [q] at q'
  cases q'
  exact st c v ho
end
section
variable {P : Program} {w : World} {K : PySem.W.Frag} {mg : Str->Option Value} {base : Heap} {N : List Str} {qual : Str} {scope : Scope} {f : Addr} {cd : Value} {A : Around} {outer : List Env} {s₀ : Shared} {H₀ : Hp} {E : XK}
theorem passX : Passes (CX1 P w) (cxOf (CX1 P w) P w K mg base N qual scope f cd A outer s₀ H₀ E) E:=by
 intro pins σ H s e s1 I h
 obtain ⟨a,cls,d,B,H',rfl,os,bare,un,hok,fl,ha,b1,b2,b3,q⟩:=h
 have hfr : (envOfC qual scope s₀.heap.objs.size f cd).frame = some s₀.heap.objs.size:=rfl
 refine leave_next (B:=B) (outer:=outer) I.ok.frames hfr fl fun h' x y=>?_
 have J:=I.flown (s1:=s1) os bare un hok fl.stays b1 b2 b3 x.stays y
 have nL : ∀ b o,s₀.heap.get? b = some o->b ∉ frs outer->b ∉ frs (envOfC qual scope s₀.heap.objs.size f cd :: outer):=fun b o e hb z=>by
  rw [frs_cons hfr] at z
  rcases List.mem_cons.mp z with z | z
  ·exact absurd (Heap.lt_size e) (by rw [z]; exact Nat.lt_irrefl _)
  ·exact hb z
 refine ⟨a,cls,d,B,H',rfl,J.os,J.bare,J.base,J.hok,x,ha,fun b o e hb n=>?_,b2,fun b o e=>?_,q⟩
 ·exact b1 b o (I.base.keep b o e n hb (by intro z; cases z)) (nL b o e hb) (I.base.free b o e n (by intro z; cases z))
 ·obtain ⟨o',e'⟩:=I.base.there b o e (by intro z; cases z)
  by_cases hb : b ∈ frs outer
  ·exact .inl hb
  ·rcases b3 b o' e' with z | z
   ·exact absurd z (nL b o e hb)
   ·exact .inr z
theorem leaves_new {pins : List (Addr × Obj)} {σ : St} {H : Hp} {s : Shared} {h1 : Heap} {a : Addr} {cls : Value} {args : List Value} (I : Inv (cxOf (CX1 P w) P w K mg base N qual scope f cd A outer s₀ H₀ E) pins σ H s)
  (mk : Heap.MadeExcOf s.heap h1 a cls args) (q : E cls none H) : (cxOf (CX1 P w) P w K mg base N qual scope f cd A outer s₀ H₀ E).xe (.ref a) { s with heap:=h1 }:=by
 have hfr : (envOfC qual scope s₀.heap.objs.size f cd).frame = some s₀.heap.objs.size:=rfl
 have hstk : s.heap.FunFrames base (envOfC qual scope s₀.heap.objs.size f cd :: outer):=I.stack
 have hin : ∀ env ∈ (envOfC qual scope s₀.heap.objs.size f cd :: outer),∀ b,env.frame = some b->b ∈ frs (envOfC qual scope s₀.heap.objs.size f cd :: outer):=fun env he b hb=>List.mem_filterMap.mpr ⟨env,he,hb⟩
 have hB:=PySem.W.funFrames_hide hstk hin
 generalize hBB : PySem.W.hideAll s.heap (frs (envOfC qual scope s₀.heap.objs.size f cd :: outer)) = B at hB
 have inB : ∀ b o,s.heap.get? b = some o->b ∉ frs (envOfC qual scope s₀.heap.objs.size f cd :: outer)->B.get? b = some o:=fun b o e n=>by rw [<- hBB]; exact PySem.W.hideAll_get _ e n
 have ofB : ∀ b o,B.get? b = some o->s.heap.get? b = some o:=fun b o e=>by rw [<- hBB] at e; exact PySem.W.of_hideAll _ e
 have fresh : ∀ b,s.heap.get? b = none->B.get? b = none:=fun b e=>by
  cases z : B.get? b with
  | none=>rfl
  | some o=>rw [ofB b o z] at e; cases e
 obtain ⟨t,e1,e2,e3⟩:=mk.there
 have htr : H a = none:=by
  cases z : H a with
  | none=>rfl
  | some u =>
   obtain ⟨ob,e⟩:=(I.hok a u z).ex
   rw [mk.new] at e
   cases e
 show wpAny _ _ (leaving _ (.ref a)) _ _ _
 refine leave_first (B:=B) (outer:=outer) (s:={ s with heap:=h1 }) I.ok.frames (hB.of_keeps fun b o e _=>⟨o,mk.keeps b o e,rfl⟩) hfr e1 (fun b o e=>mk.keeps b o (ofB b o e)) (fresh a mk.new) rfl rfl fun h' x y=>?_
 have hok1 : HOk P w H h1:=I.hok.kept mk.keeps
 have b3 : ∀ b o,s.heap.get? b = some o->b ∈ frs (envOfC qual scope s₀.heap.objs.size f cd :: outer) \/ ∃ o',B.get? b = some o':=fun b o e=>by
  by_cases hb : b ∈ frs (envOfC qual scope s₀.heap.objs.size f cd :: outer)
  ·exact .inl hb
  ·exact .inr ⟨o,inB b o e hb⟩
 have b2 : ∀ b u,H b = some u->∃ o,B.get? b = some o:=fun b u e=>by
  obtain ⟨o,eo⟩:=(I.hok b u e).ex
  refine ⟨o,inB b o eo fun z=>?_⟩
  rw [I.stkFree b z] at e
  cases e
 have J:=I.flown (s1:={ s with heap:=h1 }) (H':=H) rfl I.bare (Un.kept mk.keeps) hok1 (fun b o e=>mk.keeps b o (ofB b o e)) (fun b o e hb _=>inB b o e hb) b2 b3 x.stays y
 have nL : ∀ b o,s₀.heap.get? b = some o->b ∉ frs outer->b ∉ frs (envOfC qual scope s₀.heap.objs.size f cd :: outer):=fun b o e hb z=>by
  rw [frs_cons hfr] at z
  rcases List.mem_cons.mp z with z | z
  ·exact absurd (Heap.lt_size e) (by rw [z]; exact Nat.lt_irrefl _)
  ·exact hb z
 refine ⟨a,cls,none,B,H,rfl,J.os,J.bare,J.base,J.hok,x,htr,fun b o e hb n=>?_,b2,fun b o e=>?_,q⟩
 ·exact inB b o (I.base.keep b o e n hb (by intro z; cases z)) (nL b o e hb)
 ·obtain ⟨o',e'⟩:=I.base.there b o e (by intro z; cases z)
  by_cases hb : b ∈ frs outer
  ·exact .inl hb
  ·exact .inr ⟨o',inB b o' e' (nL b o e hb)⟩
end
theorem Fun.okX {P : Program} {w : World} {K : PySem.W.Frag} {mg : Str->Option Value} {base : Heap} {x qual : Str} {st : Stmt} {f : Addr} {fd : FuncData} {N ps : List Str} {k : Nat} {sp : Sp} (F : Fun K x qual st f fd) (S : FnScope N ps (defScope st))
  (len : ∀ vs H Q E,sp vs H Q E->vs.length = ps.length)
  (hbody : ∀ (cdv : Value) (A : Around) (outer : List Env) (s : Shared) (H : Hp) (vs : List V) (Q : VK) (E : XK),Room k (A.deeper (envOfC qual (defScope st) s.heap.objs.size f cdv))->sp vs H Q E ->
   ∃ t,PSs (cxOf (CX1 P w) P w K mg base N qual (defScope st) f cdv A outer s H E) (defBody st) t/\t { nx:=fun _ H'=>Q .non H',rt:=Q } (start N vs) H) : FnOk P w K mg base (CX1 P w) (k + 1) f fd ps sp:=by
 obtain ⟨oc,od,kV,doc,pm,an,cdv,ct,osl,rfl,lk,hcd⟩:=F.ex
 exact fn_of lk hcd S len fun A outer s H vs Q E hr hsp=>hbody cdv A outer s H vs Q E hr hsp
end L2
set_option maxHeartbeats 4000000
namespace L2
open PySem PySem.Spec PyProof.Rows
abbrev bmVE : List Value:=[.type "ValueError",.type "Exception",.type "BaseException",.type "object"]
theorem exc_of_in {K : PySem.W.Frag} {h : Heap} {C : Addr} {bmB : List Value} {nid : String} (X : K.In h) (q : PySem.W.excIn K C bmB nid = true) :
  ∃ bm N nm qn bs hd sn sub ab col dd k0 k1 k2 k3 k5 mN,h.get? C = some (excClassObj nm qn C N bs bm hd sn sub ab col dd k0 k1 k2 k3 k5 nid)/\h.Ns N mN/\mN "__init__" = none/\OwnTail h bmB bm:=by
 unfold PySem.W.excIn at q
 split at q
 ·rename_i dd cd sl ho
  split at q
  ·rename_i C2 bm k0 k1 k2 k3 n k5 hm hs
   rw [Bool.and_eq_true,Bool.and_eq_true,Bool.and_eq_true,Bool.and_eq_true,Bool.and_eq_true] at q
   obtain ⟨⟨⟨⟨⟨q1,q2⟩,q3⟩,q4⟩,q5⟩,q6⟩:=q
   have e1:=beq_iff_eq.mp q1
   have e2:=beq_iff_eq.mp q2
   have e6:=beq_iff_eq.mp q6
   subst e1 e2
   obtain ⟨nm,bs,mro,ns,qn,hd,sn,sub,ab,col,del⟩:=cd
   have e3 : del = false:=by simpa using q3
   have hm' : mro = .ref C2 :: bm:=hm
   subst e3 hm'
   have hsl : sl = #[k0,k1,k2,k3,some (.builtin n),k5]:=by
    cases sl with
    | mk l=>exact congrArg Array.mk hs
   subst hsl
   exact ⟨bm,ns,nm,qn,bs,hd,sn,sub,ab,col,dd,k0,k1,k2,k3,k5,_,X _ _ ho,.of_isNs (PySem.W.isNs_of_in X q5),PySem.W.nsMap_none_of_in X q5 e6,PySem.W.tail_of_in X q4⟩
  ·cases q
 ·cases q
def tRaise (C : Addr) (E : XK) (t : TA) : TS:=fun _ σ H=>t σ H fun vs H1=>vs.length <= sizeLine/\E (.ref C) none H1
section
variable {P : Program} {w : World} {K : PySem.W.Frag} {mg : Str->Option Value} {base : Heap} {N : List Str} {qual : Str} {scope : Scope} {f : Addr} {cd : Value} {A : Around} {outer : List Env} {s₀ : Shared} {H₀ : Hp} {E : XK}
theorem ps_raise {x : Str} {C : Addr} {e : Expr} {es : List Expr} {t : TA} {np cpos pos : Pos} (hg : Gl (cxOf (CX1 P w) P w K mg base N qual scope f cd A outer s₀ H₀ E) x) (hm : mg x = some (.ref C)) (hq : PySem.W.excIn K C bmVE "ValueError.__new__" = true)
  (ha : PA (cxOf (CX1 P w) P w K mg base N qual scope f cd A outer s₀ H₀ E) (e :: es) t) (hd : (x == ("__debug__" : Str)) = false:=by decide)
  (he : starEach (e :: es) (cxOf (CX1 P w) P w K mg base N qual scope f cd A outer s₀ H₀ E).env = (false,eval e (cxOf (CX1 P w) P w K mg base N qual scope f cd A outer s₀ H₀ E).env) :: starEach es (cxOf (CX1 P w) P w K mg base N qual scope f cd A outer s₀ H₀ E).env:=by rfl)
  (hpl : (backTo cpos (starEach es (cxOf (CX1 P w) P w K mg base N qual scope f cd A outer s₀ H₀ E).env)).any (·.1) = false:=by rfl) :
  PS (cxOf (CX1 P w) P w K mg base N qual scope f cd A outer s₀ H₀ E) (.Raise (some (.Call (.Name x np) (e :: es) [] cpos)) none pos) (tRaise C E t):=by
 intro pins s σ H D I h
 obtain ⟨bm,NN,nm,qn,bs,hdd,sn,sub,ab,col,dd,k0,k1,k2,k3,k5,mN,hC,hN,hni,T⟩:=exc_of_in I.mod.kin hq
 have hbase : bm.contains (.type "BaseException") = true:=T.hasType (by decide)
 refine wpAny_Raise_call_subU (C:=C) (nm:=nm) (q:=qn) (N:=NN) (bs:=bs) (bm:=bm) (hdct:=hdd) (sn:=sn) (sub:=sub) (ab:=ab) (col:=col) (dd:=dd) (k0:=k0) (k1:=k1) (k2:=k2) (k3:=k3) (k5:=k5) (mN:=mN)
  PySem.F.excBase_ValueError (by decide : bmVE.contains (.type "ValueError") = true) PySem.F.excBase_ValueError hbase (I.ok.hd rfl) ?_ hni (ld_glob I hg hm ⟨rfl,?_⟩ hd)
 ·rw [he]
  show (false || (backTo cpos (starEach es _)).any (·.1)) = false
  rw [hpl]
  rfl
 ·have hp:=ha cpos pins s σ H _ I h
  rw [he] at hp ⊢
  refine Calls.evalArgs_plain (thn hp ?_)
  rintro us s2 ⟨vs,H1,I2,r,hz,q⟩
  exact ⟨rfl,by rw [<- r.length]; exact hz,I2.bk _ _ hC,hN.keeps I2.bk,T.keeps I2.bk,fun h' a mk=>leaves_new I2 mk q⟩
end
def excO (a : Addr) (cls : Value) (d : Option Addr) : HO:=.ext fun h=>∃ ox ws,h.get? a = some ox/\ox.cls = cls/\ox.dict = d/\ox.data = .fields ws
theorem excO_ok {P : Program} {w : World} {H : Hp} {h : Heap} {a : Addr} {cls : Value} {d : Option Addr} (x : ∃ ox ws,h.get? a = some ox/\ox.cls = cls/\ox.dict = d/\ox.data = .fields ws) : ObjOk P w H h a (excO a cls d):=by
 obtain ⟨ox,ws,e1,e2,e3,e4⟩:=x
 refine ⟨⟨ox,ws,e1,e2,e3,e4⟩,⟨ox,e1⟩,?_⟩
 rintro h1 h2 ⟨o,us,f1,f2,f3,f4⟩ k
 exact ⟨o,us,k o f1,f2,f3,f4⟩
section
variable {X : Cx} {pins : List (Addr × Obj)} {σ : St} {H : Hp} {s : Shared}
theorem Inv.track {a : Addr} {o : HO} (I : Inv X pins σ H s) (n : H a = none) (nL : a ≠ X.env.locals) (nC : ∀ x c,X.env.cells.lookup x = some c->c ≠ a) (nP : ∀ p ∈ X.pn ++ pins,p.1 ≠ a) (n0 : X.s₀.heap.get? a = none)
  (new : ObjOk X.prog X.w (upd H a o) s.heap a o) : Inv X pins σ (upd H a o) s:=by
 have ne : ∀ b u,H b = some u->b ≠ a:=fun b u e z=>by rw [z,n] at e; cases e
 refine ⟨I.ok,I.os,I.bare,⟨I.base.keep,I.base.slot,fun b ob e m hx=>?_,I.base.there,fun b xs e=>?_,fun b ob u e=>?_,fun b ps e=>?_⟩,I.loc,I.cell,?_,fun x c e=>?_,fun p hp=>?_,fun b u e=>?_,I.len⟩
 ·rw [upd_ne (by intro z; rw [z,n0] at e; cases e)]
  exact I.base.free b ob e m hx
 ·have e1:=I.base.tups b xs e
  rw [upd_ne (ne _ _ e1)]
  exact e1
 ·have e1:=I.base.frzs b ob u e
  rw [upd_ne (ne _ _ e1)]
  exact e1
 ·obtain ⟨m,e1⟩:=I.base.tbls b ps e
  exact ⟨m,by rw [upd_ne (ne _ _ e1)]; exact e1⟩
 ·rw [upd_ne (Ne.symm nL)]
  exact I.free
 ·rw [upd_ne (nC x c e)]
  exact I.freeC x c e
 ·obtain ⟨e1,e2,e3⟩:=I.pin p hp
  exact ⟨e1,by rw [upd_ne (nP p hp)]; exact e2,e3⟩
 ·by_cases hb : b = a
  ·subst hb
   rw [upd_same] at e
   cases e
   exact new
  ·rw [upd_ne hb] at e
   refine (I.hok b u e).stay (fun _ _ _ q=>q) (fun c q=>?_) fun c xs q=>?_
   ·rw [upd_ne (ne _ _ q)]
    exact q
   ·rw [upd_ne (ne _ _ q)]
    exact q
theorem Inv.unname {M : Model} {A : Around} {E : Value->Shared->Prop} {i : Nat} {n : Str} {pos : Pos} {Q : Unit->Shared->Prop} (I : Inv X pins σ H s) (hN : X.N.Nodup) (hi : X.N[i]? = some n) (hk : X.env.scope.names.lookup n = some .local)
  (k : ∀ s',Inv X pins (σ.set i none) H s'->Q () s') : wpAny M A (do bindName X.env n .none; unbindBehindTheSuite X.env n pos) Q E s:=by
 obtain ⟨m,hn,hl⟩:=id I.loc
 obtain ⟨oL,_,_,hoL,_⟩:=id hn
 refine wpAny_nameGoes_keeps hk hn (by rw [I.ok.kind]; rfl) fun h' v hn' sb=>k _ ?_
 have ne0 : ∀ b o,X.s₀.heap.get? b = some o->b ≠ X.env.locals:=fun b o e=>Nat.ne_of_lt (Nat.lt_of_lt_of_le (Heap.lt_size e) I.ok.above)
 refine ⟨I.ok,I.os,I.bare,⟨fun b o e m hb hx=>(sb.2 b (ne0 b o e)).trans (I.base.keep b o e m hb hx),fun b o e m hb hx=>?_,I.base.free,fun b o e hx=>?_,I.base.tups,I.base.frzs,I.base.tbls⟩,⟨_,hn',fun j y w e1 e2 e3=>?_⟩,fun y c e=>?_,I.free,I.freeC,fun p hp=>?_,fun b u e=>?_,?_⟩
 ·obtain ⟨sl,e1⟩:=I.base.slot b o e m hb hx
  exact ⟨sl,(sb.2 b (ne0 b o e)).trans e1⟩
 ·obtain ⟨o',e1⟩:=I.base.there b o e hx
  exact ⟨o',(sb.2 b (ne0 b o e)).trans e1⟩
 ·have hj : j ≠ i:=by
   intro z
   subst z
   have hz : j < σ.length:=by rw [I.len]; exact (List.getElem?_eq_some_iff.mp hi).1
   rw [List.getElem?_set_self hz] at e2
   cases e2
  rw [List.getElem?_set_ne (Ne.symm hj)] at e2
  obtain ⟨u,r,l⟩:=hl j y w e1 e2 e3
  have hy : y ≠ n:=by
   intro z
   subst z
   exact hj (nodup_ix hN e1 hi)
  refine ⟨u,r,?_⟩
  rcases l with ⟨l1,l2⟩ | ⟨l1,c,l2,l3⟩
  ·exact .inl ⟨l1,(if_neg hy).trans l2⟩
  ·exact .inr ⟨l1,c,l2,l3.sameBut sb (I.cne y c l2)⟩
 ·obtain ⟨w,z⟩:=I.cell y c e
  exact ⟨w,z.sameBut sb (I.cne y c e)⟩
 ·obtain ⟨e1,e2,e3,e4⟩:=I.pin p hp
  exact ⟨(sb.2 p.1 e3).trans e1,e2,e3,e4⟩
 ·refine (I.hok b u e).stay (fun c w hc q=>(sb.2 c ?_).trans q) (fun _ q=>q) fun _ _ q=>q
  intro z
  subst z
  rcases hc with hc | hc
  ·rw [<- hc,I.free] at e
   cases e
  ·rw [I.free] at hc
   cases hc
 ·rw [List.length_set]
  exact I.len
end
def XP (X : Cx) (pins : List (Addr × Obj)) (σ : St) (Ex : XK) (e : Value) (s' : Shared) : Prop:=∃ H s,Inv X pins σ H s/\CX1 X.prog X.w X.stack H s Ex e s'
abbrev TX:=St->Hp->VK->XK->Prop
def PEX (X : Cx) (e : Expr) (t : TX) : Prop :=
 ∀ (pins : List (Addr × Obj)) (s : Shared) (σ : St) (H : Hp) (Q : VK) (Ex : XK),Inv X pins σ H s->t σ H Q Ex->wpAny (model X.prog X.w) X.A (eval e X.env) (EP X pins σ Q) (XP X pins σ Ex) s
def tCallX (sp : Sp) (dvs : List V) (t : TA) : TX:=fun σ H Q Ex=>t σ H fun vs H1=>sp (vs ++ dvs) H1 Q Ex
section
variable {X : Cx} {k : Nat} {f : Addr} {fd : FuncData} {ps : List Str} {sp : Sp} {dvs : List V} {ds : List Value} {x : Str} {p pos : Pos} {e : Expr} {es : List Expr} {t : TA}
theorem PA.nox' {es : List Expr} {t : TA} (h : PA X.nox es t) {pos : Pos} {pins : List (Addr × Obj)} {s : Shared} {σ : St} {H : Hp} {Q : List V->Hp->Prop} {E : Value->Shared->Prop} (I : Inv X pins σ H s) (q : t σ H Q) :
  wpAny (model X.prog X.w) X.A (spliced (backTo pos (starEach es X.env))) (AP X pins σ Q) E s :=
 wpAny_mono (h pos pins s σ H Q (I.wish _) q) (fun _ _ ⟨vs,H',I',r,z⟩=>⟨vs,H',I'.unwish,r,z⟩) fun _ _ z=>False.elim z
theorem pex_call (F : FnOk X.prog X.w X.K X.mg X.base (CX1 X.prog X.w) k f fd ps sp) (hr : Room k X.A) (hg : Gl X x) (hm : X.mg x = some (.ref f)) (hk : PySem.W.keepIn X.K (.ref f) = true) (hb : Binds X.K fd ps ds) (hd : Vals dvs ds)
  (ha : PA X.nox (e :: es) t) (hdb : (x == ("__debug__" : Str)) = false:=by decide) (he : starEach (e :: es) X.env = (false,eval e X.env) :: starEach es X.env:=by rfl) (hpl : (backTo pos (starEach es X.env)).any (·.1) = false:=by rfl) :
  PEX X (.Call (.Name x p) (e :: es) [] pos) (tCallX sp dvs t):=by
 intro pins s σ H Q Ex I h
 refine wpAny_Call_Name_kw (ld_glob I hg hm ?_ hdb)
 refine PySem.W.callWith_K (h₀:=X.base) I.ok.mod.kin hk (thn (ha.nox' I h) ?_) he hpl
 rintro us s1 ⟨vs,H1,I1,r,q⟩
 refine ⟨I1.kIn,?_⟩
 have r2 : Vals (vs ++ dvs) (us ++ ds):=r.append hd
 have hl : (us ++ ds).length = ps.length:=by rw [<- r2.length]; exact F.len _ _ _ _ q
 refine wpAny_call (codeAny_mono (F.run X.A X.stack s1 H1 ⟨us,[]⟩ (us ++ ds) (vs ++ dvs) Q Ex hr I1.env0 (hb s1 us I1.kIn hl) r2 q) ?_)
 intro r s' z
 cases r with
 | error e=>exact ⟨H1,s1,I1,z⟩
 | ok fl =>
  cases fl with
  | ret u=>exact I1.after z
  | next=>exact False.elim z
  | brk=>exact False.elim z
  | cont=>exact False.elim z
end
abbrev Cx.caught (X : Cx) (a : Addr) : Cx:={ X with A:=X.A.mark (some (.ref a)),calm:=false }
theorem Inv.caught {X : Cx} {pins : List (Addr × Obj)} {σ : St} {H : Hp} {s : Shared} (I : Inv X pins σ H s) (a : Addr) : Inv (X.caught a) pins σ H s :=
 ⟨⟨I.ok.mod,I.ok.kind,I.ok.glob,I.ok.blt,I.ok.above,I.ok.inj,I.ok.has,I.ok.cab,(fun z=>nomatch z),I.ok.frames,I.ok.stk,I.ok.exf,I.ok.bs,I.ok.bsz,I.ok.noex,I.ok.exfs,I.ok.funs,I.ok.frf⟩,I.os,I.bare,I.base,I.loc,I.cell,I.free,I.freeC,I.pin,I.hok,I.len⟩
theorem Inv.uncaught {X : Cx} {pins : List (Addr × Obj)} {σ : St} {H : Hp} {s : Shared} {a : Addr} (ok : X.Ok) (I : Inv (X.caught a) pins σ H s) : Inv X pins σ H s :=
 ⟨ok,I.os,I.bare,I.base,I.loc,I.cell,I.free,I.freeC,I.pin,I.hok,I.len⟩
theorem matches_up {M : Model} {A : Around} {E : Value->Shared->Prop} {nm q nm' q' : Str} {C N S N' : Addr} {bs bm bs' bm' : List Value} {hd hd' : Bool} {sn sn' : List Str} {sub sub' : List Value} {ab ab' : Bool} {col col' : Option Bool} {dd dd' : Option Addr}
  {k0 k1 k2 k3 k5 l0 l1 l2 l3 l5 : Option Value} {id id' : String} {s : Shared} {e : Addr} {oe : Obj} {Q : Bool->Shared->Prop}
  (hC : s.heap.get? C = some (excClassObj nm q C N bs bm hd sn sub ab col dd k0 k1 k2 k3 k5 id)) (hS : s.heap.get? S = some (excClassObj nm' q' S N' bs' bm' hd' sn' sub' ab' col' dd' l0 l1 l2 l3 l5 id'))
  (he : s.heap.get? e = some oe) (hc : oe.cls = .ref C) (hb : bm'.contains (.type "BaseException") = true) (hup : (Value.ref C :: bm).contains (.ref S) = true) (k : Q true s) : wpAny M A (excMatches (.ref e) (.ref S)) Q E s:=by
 obtain ⟨h,g,d,t,os⟩:=s
 have hcB : (Value.ref S :: bm').contains (.type "BaseException") = true:=by rw [List.contains_cons,hb,Bool.or_true]
 have nt:=tc_notTuple
 unfold excMatches
 repeat (first | (with_reducible refine wpAny_loadPart_at he ?_; rw [hc]) | with_reducible refine wpAny_loadPart_at hS ?_ | (with_reducible refine wpAny_isSubtype_exc hS ?_; rw [hcB]) | (with_reducible refine wpAny_isSubtype_exc hC ?_; rw [hup]) | wp_step)
 exact k
def ExcC (K : PySem.W.Frag) (C : Addr) (bm : List Value) (nid : String) : Prop :=
 ∃ nm qn N bs hd sn sub ab col dd k0 k1 k2 k3 k5,K.lookup C = some (excClassObj nm qn C N bs bm hd sn sub ab col dd k0 k1 k2 k3 k5 nid)
theorem ExcC.mk {K : PySem.W.Frag} {C N : Addr} {bm bs sub : List Value} {nid : String} {nm qn : Str} {hd ab : Bool} {sn : List Str} {col : Option Bool} {dd : Option Addr} {k0 k1 k2 k3 k5 : Option Value}
  (h : K.lookup C = some (excClassObj nm qn C N bs bm hd sn sub ab col dd k0 k1 k2 k3 k5 nid)) : ExcC K C bm nid:=⟨nm,qn,N,bs,hd,sn,sub,ab,col,dd,k0,k1,k2,k3,k5,h⟩
def tTryAs (K : PySem.W.Frag) (i j : Nat) (S : Addr) (tx : TX) (ts : Addr->TS) : TS:=fun D σ H =>
 tx σ H (fun v H1=>D.nx (σ.set i (some v)) H1) fun cls d H1=>∃ C bm nid,cls = .ref C/\ExcC K C bm nid/\(Value.ref C :: bm).contains (.ref S) = true /\
  ∀ a,H1 a = none->ts a { nx:=fun σ' H'=>D.nx (σ'.set j none) H',rt:=D.rt,bk:=fun σ' H'=>D.bk (σ'.set j none) H',ct:=fun σ' H'=>D.ct (σ'.set j none) H' } (σ.set j (some (.ref a))) (upd H1 a (excO a cls d))
section
variable {X : Cx}
theorem fresh_exc {pins : List (Addr × Obj)} {σ : St} {H H' : Hp} {s s1 : Shared} {B : Heap} {a : Addr} {cls fl : Value} {d : Option Addr} {l : List Env} (I : Inv X pins σ H s) (un : Un (frs X.stack) [] H H' s.heap s1.heap) (x : Flt B l a cls d fl s1.heap)
  (b3 : ∀ b o,s.heap.get? b = some o->b ∈ frs X.stack \/ ∃ o',B.get? b = some o') : s.heap.get? a = none:=by
 cases e : s.heap.get? a with
 | none=>rfl
 | some o =>
  rcases b3 a o e with z | ⟨o',z⟩
  ·obtain ⟨_,o2,e2,r⟩:=I.stack.mem z
   rw [e] at e2
   cases e2
   obtain ⟨sl,e3⟩:=un.slot a o e (I.stkFree a z) z (by simp)
   obtain ⟨ox,ws,e4,_,_,e5⟩:=x.obj
   rw [e3] at e4
   cases e4
   exact absurd e5 (r ws)
  ·rw [x.new] at z
   cases z
end
end L2
set_option maxHeartbeats 4000000
namespace L2
open PySem PySem.Spec PyProof.Rows
theorem comp_loop {prog : Program} {w : World} {A : Around} {R : Result->Shared->Prop} {s : Shared} {elt target iter : Expr} {sc : Scope} {pos : Pos} {it acc : Value} {env : Env} (J : Nat->Shared->Prop)
  (turn : ∀ n s,J n s->wpAny (model prog w) A (pyNext it) (fun r s1=>match r with
   | none=>R (.ok .next) s1
   | some v=>wpAny (model prog w) A (letOwnedTupleGo target it v) (fun _ s2=>wpAny (model prog w) A (assign target env v) (fun _ s3=>wpAny (model prog w) A (eval elt env) (fun x s4 =>
     wpAny (model prog w) A (call (.builtin "list.append") [acc,x]) (fun _ s5=>∃ m,m < n/\J m s5) (fun _ _=>False) s4) (fun _ _=>False) s3) (fun _ _=>False) s2) (fun _ _=>False) s1) (fun _ _=>False) s)
  (n : Nat) (h : J n s) : codeAny (model prog w) A (.compLoop (.ListComp elt [⟨target,iter,[],0⟩] sc pos) 0 it acc env) R s:=by
 refine codeAny_loop rfl J ?_ n h
 intro n s hJ
 show wpAny _ _ ((compTurn (.ListComp elt [⟨target,iter,[],0⟩] sc pos) 0 it acc env).onRaise (fun x=>do noteFrame x env; theTreesLotGoes x)) _ _ s
 refine wpAny_noted ?_
 rw [compTurn_list1]
 refine wpAny_bind (wpAny_standAt (wpAny_bind (wpAny_mono (turn n s hJ) ?_ fun _ _ z=>False.elim z)))
 intro r s1 h1
 cases r with
 | none=>exact wpAny_pure h1
 | some v =>
  refine wpAny_bind (wpAny_mono h1 ?_ fun _ _ z=>False.elim z)
  intro _ s2 h2
  refine wpAny_bind (wpAny_mono h2 ?_ fun _ _ z=>False.elim z)
  intro _ s3 h3
  refine wpAny_bind (wpAny_bind (wpAny_mono h3 ?_ fun _ _ z=>False.elim z))
  intro x s4 h4
  refine wpAny_bind (wpAny_mono h4 ?_ fun _ _ z=>False.elim z)
  intro _ s5 h5
  exact wpAny_pure (wpAny_pure ⟨rfl,h5⟩)
def compCx (X : Cx) (sc : Scope) (N' : List Str) (cl : List (Str × Addr)) (s2 : Shared) (H2 : Hp) (C : Addr) (ex : List Addr) : Cx :=
 { X with N:=N',s₀:=s2,H₀:=H2,env:=compEnvC sc cl C X.env,outer:=X.stack,ex:=ex,fn:=fun _=>false,pn:=[],xe:=fun _ _=>False }
def Caps (X : Cx) (sc : Scope) (cl : List (Str × Addr)) : List Str->List Nat->Prop
 | [],[]=>True
 | y :: ys,j :: js=>X.N[j]? = some y/\X.env.kindOf y = some .cell/\cl.lookup y = X.env.cells.lookup y/\(relabel sc X.env).names.lookup y = some .cell/\Caps X sc cl ys js
 | _,_=>False
theorem Caps.get {X : Cx} {sc : Scope} {cl : List (Str × Addr)} : ∀ {ys : List Str} {js : List Nat} {i : Nat} {y : Str},Caps X sc cl ys js->ys[i]? = some y ->
  ∃ j,js[i]? = some j/\X.N[j]? = some y/\X.env.kindOf y = some .cell/\cl.lookup y = X.env.cells.lookup y/\(relabel sc X.env).names.lookup y = some .cell
 | [],[],i,y,_,e=>by simp at e
 | _ :: _,j :: _,0,y,h,e=>by
  simp at e
  subst e
  exact ⟨j,rfl,h.1,h.2.1,h.2.2.1,h.2.2.2.1⟩
 | _ :: _,_ :: _,i + 1,y,h,e=>by
  have q:=Caps.get (i:=i) (y:=y) h.2.2.2.2 (by simpa using e)
  simpa using q
 | [],_ :: _,_,_,h,_=>False.elim h
 | _ :: _,[],_,_,h,_=>False.elim h
theorem Caps.len {X : Cx} {sc : Scope} {cl : List (Str × Addr)} : ∀ {ys : List Str} {js : List Nat},Caps X sc cl ys js->ys.length = js.length
 | [],[],_=>rfl
 | _ :: _,_ :: _,h=>by simp [Caps.len h.2.2.2.2]
 | [],_ :: _,h=>False.elim h
 | _ :: _,[],h=>False.elim h
def capt (σ : St) (js : List Nat) : St:=js.map fun j=>(σ[j]?).join
def Comped (J : It) (cap : St) (te : TE) (Q : VK) (H1 : Hp) : Prop:=∀ D,H1 D = none->∃ W : Nat->Nat->List V->Hp->Prop,(∃ m,W 0 m [] (upd H1 D (.lst [])))/\∀ i m ys H2,W i m ys H2->H2 D = some (.lst ys) /\
 ((J.stop i H2/\Q (.ref D) H2) \/ (J.go i H2/\∀ x H3,J.yld i H2 x H3->te (some x :: cap) H3 fun y H4=>H4 D = some (.lst ys)/\ys.length < sizeLine/\∃ m',m' < m/\W (i + 1) m' (ys ++ [y]) (upd H4 D (.lst (ys ++ [y])))))
def tComp (wi : TI) (js : List Nat) (te : TE) : TE:=fun σ H Q=>wi σ H fun J H1=>Comped J (capt σ js) te Q H1
section
variable {X : Cx} {x : Str} {px pos : Pos} {elt iter : Expr} {sc : Scope} {ys : List Str} {js : List Nat} {cl : List (Str × Addr)}
theorem inv_comp {pins : List (Addr × Obj)} {σ : St} {H : Hp} {s s4 : Shared} {fp : List Addr} {C : Addr} {H4 : Hp} {m : Str->Option Value} (I : Inv X pins σ H s) (hf : ∀ b ∈ fp,FpOk X pins H b)
  (hkind : sc.kind = .function) (hcap : Caps X sc cl ys js) (hin : ∀ y c,cl.lookup y = some c->X.env.cells.lookup y = some c) (hhas : ∀ y,((relabel sc X.env).names.lookup y = some .cell \/ (relabel sc X.env).names.lookup y = some .free)->∃ c,cl.lookup y = some c)
  (hfl : ∀ b ∈ fp,b < s.heap.objs.size) (hC : s.heap.objs.size <= C) (hos : s4.os = s.os) (hb : AllBare s4.gens) (un : Un (frs X.stack) fp H H4 s.heap s4.heap) (kp : ∀ b o,s.heap.get? b = some o->s4.heap.get? b = some o) (hn : s4.heap.Ns C m) (hC4 : H4 C = none)
  (hok : HOk X.prog X.w H4 s4.heap) : Inv (compCx X sc (x :: ys) cl s H C fp) [] (none :: capt σ js) H4 s4:=by
 have frb : ∀ b ∈ fp,b ∉ frs X.stack:=fun b hb z=>by
  rcases List.mem_cons.mp (I.stkSub b z) with q | q
  ·exact (hf b hb).2.1 q
  ·exact (hf b hb).2.2.1 q
 refine ⟨⟨I.ok.mod,hkind,I.ok.glob,I.ok.blt,hC,fun y z c h1 h2=>I.ok.inj y z c (hin y c h1) (hin z c h2),hhas,(fun _ _ z=>nomatch z),I.ok.hd,I.ok.frames,.inl rfl,fun b z=>⟨?_,fun y c e=>?_⟩,I.bs,Nat.le_trans I.ok.bsz I.sz,fun b o e z=>?_,frb,I.stack,I.stkFree⟩,
  hos,hb,un,⟨m,hn,fun i y v e1 e2 e3=>?_⟩,fun y c e=>?_,hC4,fun y c e=>?_,fun p hp=>?_,hok,?_⟩
 ·exact Nat.ne_of_lt (Nat.lt_of_lt_of_le (hfl b z) hC)
 ·exact (hf b z).2.2.2.2.1 y c (hin y c e)
 ·rcases (hf b z).2.2.2.1 with q | q
  ·exact I.ok.noex b o e q
  ·exact absurd (Nat.lt_of_lt_of_le (Heap.lt_size e) (Nat.le_trans I.ok.bsz q)) (Nat.lt_irrefl _)
 ·cases i with
  | zero =>
   have z : (none : Option V) = some v:=by simpa using e2
   cases z
  | succ i =>
   have e1' : ys[i]? = some y:=by simpa [compCx] using e1
   have e2' : (capt σ js)[i]? = some (some v):=by simpa using e2
   obtain ⟨j,q1,q2,q3,q4,q5⟩:=hcap.get e1'
   unfold capt at e2'
   rw [List.getElem?_map,q1] at e2'
   have e2'' : (σ[j]?).join = some v:=by simpa using e2'
   have e3' : σ[j]? = some (some v):=by
    cases z : σ[j]? with
    | none=>rw [z] at e2''; cases e2''
    | some o =>
     cases o with
     | none=>rw [z] at e2''; cases e2''
     | some w'=>rw [z] at e2''; cases e2''; rfl
   obtain ⟨m0,_,hl⟩:=I.loc
   obtain ⟨u,r,l⟩:=hl j y v q2 e3' (.inr (.inl q3))
   refine ⟨u,r,.inr ⟨.inl q5,?_⟩⟩
   rcases l with ⟨l1,_⟩ | ⟨_,c,l2,l3⟩
   ·rw [q3] at l1; cases l1
   ·obtain ⟨o,ho,hd⟩:=l3
    exact ⟨c,q4.trans l2,o,kp c o ho,hd⟩
 ·obtain ⟨v,o,ho,hd⟩:=I.cell y c (hin y c e)
  exact ⟨v,o,kp c o ho,hd⟩
 ·obtain ⟨v,o,ho,hd⟩:=I.cell y c (hin y c e)
  exact un.free c o ho (I.freeC y c (hin y c e)) fun z=>(hf c z).2.2.2.2.1 y c (hin y c e) rfl
 ·exact absurd (show p ∈ ([] : List (Addr × Obj)) from hp) (by simp)
 ·show (none :: capt σ js).length = (x :: ys).length
  unfold capt
  rw [List.length_cons,List.length_cons,List.length_map,hcap.len]
theorem pe_comp {wi : TI} {te : TE} (hclos : closureFor sc X.env = pure cl) (hcell : ∀ y ∈ sc.names,y.2 ≠ .cell) (hkind : sc.kind = .function) (hnames : ∀ y ∈ sc.names,y.2 = .local->sc.names.lookup y.1 = some .local)
  (hx : (relabel sc X.env).names.lookup x = some .local) (hcap : Caps X sc cl ys js) (hin : ∀ y c,cl.lookup y = some c->X.env.cells.lookup y = some c)
  (hhas : ∀ y,((relabel sc X.env).names.lookup y = some .cell \/ (relabel sc X.env).names.lookup y = some .free)->∃ c,cl.lookup y = some c) (hnd : (x :: ys).Nodup) (hc : X.calm = true)
  (hi : PI X.nox (.Name x px) iter wi) (he : ∀ s2 H2 C ex,PE (compCx X sc (x :: ys) cl s2 H2 C ex) elt te) (hs : ∀ v,foldedSetIterable iter X.env v = pure v:=by intro _; rfl) :
  PE X (.ListComp elt [⟨.Name x px,iter,[],0⟩] sc pos) (tComp wi js te):=by
 intro pins s σ H Q I h
 rw [eval_ListComp]
 refine wpAny_mono (E:=fun _ _=>False) (wpAny_comprehension_free (use:=none) rfl hs hclos hkind hnames (wpAny_mono (hi pins s σ H _ (I.wish _) h) ?_ fun _ _ z=>False.elim z)) (fun _ _ z=>z) fun _ _ z=>False.elim z
 intro v s1 h1
 refine wpAny_mono h1 ?_ fun _ _ z=>False.elim z
 rintro itv s2 ⟨it,fp,tn,J,H2,rfl,I2w,T,st2,f2w,q⟩
 have I2:=I2w.unwish
 have f2 : ∀ b ∈ fp,FpOk X pins H2 b:=f2w
 refine wpAny_newObj_type (wpAny_newFunctionEnv hcell (by intro y hy; simp at hy) (fun h4 hns hsb=>?_) hkind)
 dsimp only at hns hsb ⊢
 generalize hE : s2.heap.push { cls:=.type "list",dict:=none,data:=.seq ([] : List Value).toArray } = g3 at hns hsb ⊢
 have hsz : g3.objs.size = s2.heap.objs.size + 1:=by rw [<- hE,Heap.size_push]
 have hDC : s2.heap.objs.size ≠ g3.objs.size:=by omega
 have old : ∀ b o,s2.heap.get? b = some o->h4.get? b = some o:=fun b o e=>by
  have lt : b < s2.heap.objs.size:=Heap.lt_size e
  rw [hsb.2 b (Nat.ne_of_lt (by rw [hsz]; exact Nat.lt_succ_of_lt lt))]
  exact Heap.get?_push_of_some _ (hE ▸ Heap.get?_push_of_some _ e)
 have hD0 : H2 s2.heap.objs.size = none:=I2.hok.fresh (Nat.le_refl _)
 have hC0 : H2 g3.objs.size = none:=I2.hok.fresh (by omega)
 have hDat : h4.get? s2.heap.objs.size = some { cls:=.type "list",data:=.seq ([] : List Value).toArray }:=by
  rw [hsb.2 _ hDC]
  exact Heap.get?_push_of_some _ (hE ▸ Heap.get?_push_size _ rfl)
 obtain ⟨W,⟨m0,w0⟩,turn⟩:=q s2.heap.objs.size hD0
 have hfl : ∀ b ∈ fp,b < s2.heap.objs.size:=fun b hb=>by
  obtain ⟨o,e,_⟩:=T.obj _ _ st2 b hb
  exact Heap.lt_size e
 have J0 : Inv (compCx X sc (x :: ys) cl s2 H2 g3.objs.size fp) [] (none :: capt σ js) (upd H2 s2.heap.objs.size (.lst [])) { s2 with heap:=h4,toks:=s2.toks + ([] : List (Str × Value)).length }:=by
  refine inv_comp (m:=fun y=>([] : List (Str × Value)).reverse.lookup y) I2 f2 hkind hcap hin hhas hfl (by omega) rfl I2.bare (Un.laid old (Nat.le_refl _) hD0) old hns ?_ ?_
  ·rw [upd_ne (Ne.symm hDC)]; exact hC0
  ·exact I2.hok.laid old (Nat.le_refl _) ⟨Nat.zero_le _,[],0,.nil,hDat⟩
 have st4 : tn 0 h4:=T.keep _ _ _ st2 fun b hb o e=>old b o e
 have xcell : ∀ y c,(compCx X sc (x :: ys) cl s2 H2 g3.objs.size fp).env.cells.lookup y = some c->X.env.cells.lookup y = some c:=hin
 have stat : ∀ {H' : Hp},(∀ b ∈ fp,H' b = none)->∀ b ∈ fp,FpOk (compCx X sc (x :: ys) cl s2 H2 g3.objs.size fp) [] H' b:=fun hn b hb=>by
  refine ⟨hn b hb,?_,?_,.inl hb,fun y c e=>(f2 b hb).2.2.2.2.1 y c (hin y c e),fun p hp=>absurd (show p ∈ ([] : List (Addr × Obj)) from hp) (by simp)⟩
  ·have lt : b < s2.heap.objs.size:=hfl b hb
   exact Nat.ne_of_lt (by show b < g3.objs.size; rw [hsz]; exact Nat.lt_succ_of_lt lt)
  ·intro z
   rcases List.mem_cons.mp (I2.stkSub b z) with q | q
   ·exact (f2 b hb).2.1 q
   ·exact (f2 b hb).2.2.1 q
 have fin : ∀ {σ' : St} {H' : Hp} {s' : Shared},Inv (compCx X sc (x :: ys) cl s2 H2 g3.objs.size fp) [] σ' H' s'->Q (.ref s2.heap.objs.size) H' ->
   compPost (model X.prog X.w) X.A (fun _ _=>False) none (EP X pins σ Q) (.ref s2.heap.objs.size) g3.objs.size (.ok .next) s':=fun {σ' H' s'} J' q'=>by
  obtain ⟨m,hm,_⟩:=J'.loc
  refine ⟨m,hm,fun h' sb=>?_⟩
  have neC : ∀ b o,s2.heap.get? b = some o->b ≠ g3.objs.size:=fun b o e=>by
   have lt : b < s2.heap.objs.size:=Heap.lt_size e
   exact Nat.ne_of_lt (by rw [hsz]; exact Nat.lt_succ_of_lt lt)
  have ub:=J'.base
  refine ⟨.ref s2.heap.objs.size,H',?_,rfl,q'⟩
  refine I2.call' (s':={ s' with heap:=h' }) (ch:=fp) J'.os ⟨fun b o e n hb hx=>(sb.2 b (neC b o e)).trans (ub.keep b o e n hb hx),fun b o e n hb hx=>?_,ub.free,fun b o e hx=>?_,ub.tups,ub.frzs,ub.tbls⟩ (fun b u e=>?_) J'.bare fun b hb=>⟨(f2 b hb).2.2.2.1,(f2 b hb).2.1,(f2 b hb).2.2.2.2.1,(f2 b hb).2.2.2.2.2⟩
  ·obtain ⟨sl,e1⟩:=ub.slot b o e n hb hx
   exact ⟨sl,(sb.2 b (neC b o e)).trans e1⟩
  ·obtain ⟨o',e1⟩:=ub.there b o e hx
   exact ⟨o',(sb.2 b (neC b o e)).trans e1⟩
  ·have hCn : H' g3.objs.size = none:=J'.free
   refine (J'.hok b u e).stay (fun c v hc z=>(sb.2 c ?_).trans z) (fun _ z=>z) fun _ _ z=>z
   rintro rfl
   rcases hc with hc | hc
   ·rw [<- hc,hCn] at e; cases e
   ·rw [hCn] at hc; cases hc
 have loop : ∀ s4 : Shared,s4 = { s2 with heap:=h4,toks:=s2.toks + ([] : List (Str × Value)).length } ->
   codeAny (model X.prog X.w) X.A (.compLoop (.ListComp elt [⟨.Name x px,iter,[],0⟩] sc pos) 0 (.ref it) (.ref s2.heap.objs.size) (compEnvC sc cl g3.objs.size X.env))
    (compPost (model X.prog X.w) X.A (fun _ _=>False) none (EP X pins σ Q) (.ref s2.heap.objs.size) g3.objs.size) s4:=by
  rintro s4 rfl
  refine comp_loop (fun n s'=>∃ i xo ys' H',Inv (compCx X sc (x :: ys) cl s2 H2 g3.objs.size fp) [] (xo :: capt σ js) H' s'/\tn i s'.heap/\(∀ b ∈ fp,H' b = none)/\W i n ys' H') ?_ m0 ⟨0,none,[],_,J0,st4,fun b hb=>?_,w0⟩
  ·rintro n s' ⟨i,xo,ys',H',J',st',fr',w'⟩
   obtain ⟨hD,alt⟩:=turn i n ys' H' w'
   rcases alt with ⟨stop,qn⟩ | ⟨go,step⟩
   ·refine wpAny_mono (T.done (compCx X sc (x :: ys) cl s2 H2 g3.objs.size fp) rfl rfl rfl hc i [] s' _ H' (fun _ _=>False) J' (stat fr') st' stop) ?_ fun _ _ z=>z
    rintro r s'' ⟨rfl,J''⟩
    exact fin J'' qn
   ·refine wpAny_mono (T.item (compCx X sc (x :: ys) cl s2 H2 g3.objs.size fp) rfl rfl rfl hc i [] s' _ H' (fun _ _=>False) J' (stat fr') st' go) ?_ fun _ _ z=>z
    rintro r s'' ⟨u,rfl,hu⟩
    refine wpAny_mono hu ?_ fun _ _ z=>z
    rintro _ s5 ⟨xv,H5,J5,r5,y5,st5,fr5⟩
    have J5':=J5.pinned (stat fr5) (T.obj _ _ st5)
    refine wpAny_assign_Name (store_ok (X:=compCx X sc (x :: ys) cl s2 H2 g3.objs.size fp) (i:=0) J5' hnd rfl (.inl hx) r5 (fun s6 J6=>?_) (.inr hx))
    refine wpAny_mono (he s2 H2 g3.objs.size fp _ s6 _ H5 _ J6 (step xv H5 y5)) ?_ fun _ _ z=>z
    rintro yv s7 ⟨yy,H7,J7,r7,hD7,hlen,m',hm',w7⟩
    refine wpAny_mono (mt_append (X:=compCx X sc (x :: ys) cl s2 H2 g3.objs.size fp) _ s7 _ H7 (.ref s2.heap.objs.size) [yy] (.ref s2.heap.objs.size) [yv] (fun _ H8=>H8 = upd H7 s2.heap.objs.size (.lst (ys' ++ [yy]))) J7 rfl (.cons r7 .nil) ⟨_,ys',yy,rfl,rfl,hD7,hlen,rfl⟩) ?_ fun _ _ z=>z
    rintro _ s8 ⟨_,H8,J8,_,rfl⟩
    have pinned : ∀ b ∈ fp,∀ o,s5.heap.get? b = some o->s8.heap.get? b = some o/\(upd H7 s2.heap.objs.size (.lst (ys' ++ [yy]))) b = none:=fun b hb o e=>by
     obtain ⟨q1,q2,_⟩:=J8.pin (b,o) (List.mem_append_right _ (List.mem_append_right _ (mem_pinsAt hb e)))
     exact ⟨q1,q2⟩
    refine ⟨m',hm',i + 1,some xv,ys' ++ [yy],_,J8.unpinned,T.keep _ _ _ st5 fun b hb o e=>(pinned b hb o e).1,fun b hb=>?_,w7⟩
    obtain ⟨o,e,_⟩:=T.obj _ _ st5 b hb
    exact (pinned b hb o e).2
  ·rw [upd_ne (Nat.ne_of_lt (hfl b hb))]
   exact (f2 b hb).1
 exact codeAny_compStart_list (loop _ rfl) (T.self _ _ _ _ _ st4 (loop _ rfl))
end
end L2
set_option maxHeartbeats 4000000
namespace L2
open PySem PySem.Spec PyProof.Rows
section
variable {X : Cx}
def rSlS : V->Option Int->Option Int->Hp->VK->Prop:=fun x lo hi H Q=>∃ z,x = .str z/\z.length <= sizeLine/\Q (.str (Txt.slice z lo hi)) H
def rZfill : V->List V->Hp->VK->Prop:=fun x vs H Q=>∃ z k,x = .str z/\vs = [.int k]/\PadOk k = true/\Q (.str (Txt.zfill z k)) H
def Its (x : Str) : It:=⟨fun i _=>i < x.cps.size,fun i H v H'=>H' = H/\∃ c,x.cps[i]? = some c/\v = .str ⟨#[c]⟩,fun i _=>x.cps.size <= i⟩
def iStr (tl : TE) : TI:=fun σ H R=>tl σ H fun v H1=>∃ x,v = .str x/\R (Its x) H1
theorem call_all : CallR X (.builtin "all") (fun xs H Q=>∃ (a : Addr) (bs : List Bool),xs = [.ref a]/\SqL X.K H a (bs.map V.bl)/\X.calm = true/\Q (.bl (bs.all id)) H):=by
 intro pins s σ H xs us Q I r h
 obtain ⟨a,bs,rfl,hS,hc,q⟩:=h
 obtain ⟨u,rfl,rx⟩:=vals1 r
 cases rx
 obtain ⟨its,rv,pl,hz⟩:=I.list hS
 have hlen : its.length = bs.length:=by rw [<- rv.length,List.length_map]
 refine call_all_walk (wpAny_pyIter_list pl.isList ?_)
 have ne : a ≠ s.heap.objs.size:=by
  obtain ⟨o,e,_⟩:=pl.isList
  exact Nat.ne_of_lt (Heap.lt_size e)
 have hh : X.A.in1.handled = none:=I.ok.hd hc
 refine ⟨s.heap.objs.size,_,_,_,_,_,fun i=>bs.getD i true,rfl,Walks.list hh s.heap.objs.size a ne its.toArray,⟨⟨_,Heap.get?_push_size _ rfl,rfl,rfl⟩,?_⟩,?_,?_⟩
 ·obtain ⟨o,e,r⟩:=pl.isList
  exact ⟨o,Heap.get?_push_of_some _ e,r⟩
 ·intro i v s' Q' E' hv hq
  have hv' : its[i]? = some v:=by simpa using hv
  have hi : i < its.length:=(List.getElem?_eq_some_iff.mp hv').1
  have hb : bs[i]? = some bs[i]:=List.getElem?_eq_getElem (by omega)
  obtain ⟨u,hu,ru⟩:=rv.get (i:=i) (x:=V.bl bs[i]) (by rw [List.getElem?_map,hb]; rfl)
  rw [hv'] at hu
  cases hu
  cases ru
  refine wpAny_truthy_bool ?_
  have e : bs.getD i true = bs[i]:=by rw [List.getD_eq_getElem?_getD,hb]; rfl
  exact e ▸ hq
 ·intro h' tk kp
  have e : (List.range its.toArray.size).all (fun i=>bs.getD i true) = bs.all id:=by
   rw [List.size_toArray,hlen]
   clear q hS rv hz hlen pl
   induction bs with
   | nil=>rfl
   | cons b r ih =>
    rw [List.length_cons,List.range_succ_eq_map,List.all_cons,List.all_cons,<- ih,List.all_map]
    rfl
  rw [e]
  refine ⟨.bl _,H,?_,rfl,q⟩
  refine I.kept (h':=h') fun b o e=>kp b o ?_ (Heap.get?_push_of_some _ e)
  have lt : b < s.heap.objs.size:=Heap.lt_size e
  rw [List.mem_singleton]
  exact Nat.ne_of_lt lt
end
mutual
inductive Den (K : PySem.W.Frag) (H : Hp) : V->PyData->Prop
 | non : Den K H .non .none
 | bl (b : Bool) : Den K H (.bl b) (.bool b)
 | int (i : Int) : Den K H (.int i) (.int i)
 | str (x : Str) : Den K H (.str x) (.str x)
 | lst {a : Addr} {xs : List V} {ds : List PyData} : SqL K H a xs->DenAll K H xs ds->Den K H (.ref a) (.list ds)
 | tup {a : Addr} {xs : List V} {ds : List PyData} : SqT K H a xs->DenAll K H xs ds->Den K H (.ref a) (.tuple ds)
inductive DenAll (K : PySem.W.Frag) (H : Hp) : List V->List PyData->Prop
 | nil : DenAll K H [] []
 | cons {x : V} {xs : List V} {d : PyData} {ds : List PyData} : Den K H x d->DenAll K H xs ds->DenAll K H (x :: xs) (d :: ds)
end
section
variable {X : Cx} {pins : List (Addr × Obj)} {σ : St} {H : Hp} {s : Shared}
mutual
theorem Den.reads (I : Inv X pins σ H s) : ∀ {v : V} {d : PyData} {u : Value},Den X.K H v d->RelV v u->∃ as,Reads s.heap u d as
 | _,_,_,.non,r=>by cases r; exact ⟨_,.none⟩
 | _,_,_,.bl b,r=>by cases r; exact ⟨_,.bool b⟩
 | _,_,_,.int i,r=>by obtain ⟨t,rfl⟩:=r; exact ⟨_,.int i t⟩
 | _,_,_,.str x,r=>by obtain ⟨t,rfl⟩:=r; exact ⟨_,.str x t⟩
 | _,_,_,.lst hS ha,r=>by
  cases r
  obtain ⟨its,rv,⟨o,n,e,c,_,d⟩,_⟩:=I.list hS
  obtain ⟨as,ra⟩:=DenAll.reads I ha rv
  exact ⟨_,.list e c d (by simpa using ra)⟩
 | _,_,_,.tup hS ha,r=>by
  cases r
  obtain ⟨its,rv,⟨o,e,c,n,d⟩,_⟩:=I.tuple hS
  obtain ⟨as,ra⟩:=DenAll.reads I ha rv
  exact ⟨_,.tuple e c d (by simpa using ra)⟩
theorem DenAll.reads (I : Inv X pins σ H s) : ∀ {vs : List V} {ds : List PyData} {us : List Value},DenAll X.K H vs ds->Vals vs us->∃ as,ReadsAll s.heap us ds as
 | _,_,_,.nil,r=>by cases r; exact ⟨_,.nil⟩
 | _,_,_,.cons h t,r=>by
  cases r with
  | cons r1 r2 =>
   obtain ⟨as,ra⟩:=Den.reads I h r1
   obtain ⟨bs,rb⟩:=DenAll.reads I t r2
   exact ⟨_,.cons ra rb⟩
end
end
section
variable {X : Cx}
def rEqD (K : PySem.W.Frag) : R2:=fun x y H Q=>∃ da db,Den K H x da/\Den K H y db/\da.canLay0 = true/\db.canLay0 = true/\min da.depth db.depth <= 60/\Q (.bl (PyData.eqv da db)) H
def rNeD (K : PySem.W.Frag) : R2:=fun x y H Q=>∃ da db,Den K H x da/\Den K H y db/\da.canLay0 = true/\db.canLay0 = true/\min da.depth db.depth <= 60/\Q (.bl (!PyData.eqv da db)) H
theorem op_eqD {k : Nat} (hr : Room k X.A) : OpR X (compareOp .Eq) (rEqD X.K):=by
 intro pins s σ H x y v u Q I rx ry h
 obtain ⟨da,db,ha,hb,ca,cb,hd,q⟩:=h
 obtain ⟨as,ra⟩:=ha.reads I rx
 obtain ⟨bs,rb⟩:=hb.reads I ry
 have hu:=hr.units
 exact PySem.SeqAt.compareEq_reads ra rb ca cb (by omega) ⟨.bl _,H,I,rfl,q⟩
theorem op_neD {k : Nat} (hr : Room k X.A) : OpR X (compareOp .NotEq) (rNeD X.K):=by
 intro pins s σ H x y v u Q I rx ry h
 obtain ⟨da,db,ha,hb,ca,cb,hd,q⟩:=h
 obtain ⟨as,ra⟩:=ha.reads I rx
 obtain ⟨bs,rb⟩:=hb.reads I ry
 have hu:=hr.units
 exact PySem.SeqAt.compareNe_reads ra rb ca cb (by omega) ⟨.bl _,H,I,rfl,q⟩
def valOf : V->Value
 | .ref a=>.ref a
 | .ty n=>.type n
 | _=>.none
theorem call_isinst : CallR X (.builtin "isinstance") (fun xs H Q=>∃ x c t b,xs = [x,c]/\TyOf X.K H x t/\(c = .ref (match c with | .ref a=>a | _=>0) \/ ∃ n,c = .ty n)/\PySem.W.kitOne X.K t (valOf c) = some b/\Q (.bl b) H):=by
 intro pins s σ H xs us Q I r h
 obtain ⟨x,c,t,b,rfl,ty,hc,hk,q⟩:=h
 obtain ⟨u,w',rfl,rx,rc⟩:=vals2 r
 have e : w' = valOf c:=by
  cases c with
  | ref a=>exact rc
  | ty n=>exact rc
  | _=>rcases hc with z | ⟨n,z⟩ <;> cases z
 subst e
 exact isinst_ok I rx ty hk fun tk=>⟨.bl b,H,I.tok _,rfl,q⟩
end
end L2
set_option maxHeartbeats 4000000
namespace L2
open PySem PySem.W
section
variable {prog : Program} {w : World} {A : Around} {E : Value->Shared->Prop} {K : Frag} {x C : Addr} {ox : Obj} {od : Option Obj} {name : Str}
def foundGoes (prog : Program) (w : World) (A : Around) (x C : Addr) (Q : Value->Shared->Prop) (s : Shared) : Builtin.ObjectAttr.Found->Prop
 | .value v=>handedIn v = true/\Q v s
 | .bind g a=>wpAny (model prog w) A (call g [a,.ref x,.ref C]) (fun v s'=>handedIn v = true/\Q v s') (fun _ _=>False) s
 | .missing=>False
theorem exc_entry {s : Shared} {tk : Tok} {r : Builtin.ObjectAttr.Found} {Q : Value->Shared->Prop} (X : K.In s.heap) (I : InstAt s.heap x ox C od) (hf : findObj K C od name = some r) (h : foundGoes prog w A x C Q s r) :
  wpAny (model prog w) A (Builtin.«object.__getattribute__» ⟨[.ref x,.str name tk],[]⟩) (fun fin s'=>match fin with | .done (.ret v)=>handedIn v = true/\Q v s' | _=>False) (fun _ _=>False) s:=by
 obtain ⟨hh,g,d,t,os⟩:=s
 have L0:=I.type (M:=model prog w)
 have L1:=looks_find (M:=model prog w) X I hf
 unfold Builtin.«object.__getattribute__»
 refine wpAny_bind (wpAny_pure ?_)
 dsimp only
 refine wpAny_bind (wpAny_pure ?_)
 refine wpAny_bind (L0.at ?_)
 refine wpAny_bind (L1.at ?_)
 cases r with
 | value v=>exact wpAny_pure h
 | bind g a =>
  dsimp only
  unfold Builtin.ObjectAttr.bindTo
  exact wpAny_bind (wpAny_holding (wpAny_mono h (fun v s' q=>wpAny_pure q) fun _ _ z=>z))
 | missing=>exact False.elim h
theorem exc_call {s : Shared} {tk : Tok} {r : Builtin.ObjectAttr.Found} {Q : Value->Shared->Prop} (X : K.In s.heap) (I : InstAt s.heap x ox C od) (hm : mroIn K C (.type "BaseException") = some true) (hf : findObj K C od name = some r)
  (h : foundGoes prog w A.in1 x C Q s r) :
  wpAny (model prog w) A (call (.builtin "BaseException.__getattribute__") [.ref x,.str name tk]) (fun v s'=>handedIn v = true/\Q v s') (fun _ _=>False) s:=by
 have hk : builtinKind "BaseException.__getattribute__" = some .slot:=by decide +kernel
 have hsplit : splitId "BaseException.__getattribute__" = some ("BaseException", "__getattribute__"):=by decide +kernel
 have ha:=PySem.F.args_bexc_ga (.ref x) (.str name tk)
 have L0:=I.type (M:=model prog w)
 have L1:=looks_mroIn (M:=model prog w) X hm
 refine wpAny_call (codeAny_call_builtin PySem.F.attr_ValueError.ga.plain PySem.F.entry_bexc_ga ?_)
 simp only [checkBuiltinCall,hk,hsplit]
 refine wpAny_bind ?_
 unfold isInstance
 refine wpAny_bind (L0.here (L1.here ?_))
 rw [if_neg (by decide)]
 unfold argsOk at ha
 have go:=wpAny_mono (exc_entry (tk:=tk) X I hf h) (Q':=fun fin s'=>match fin with
  | .done f=>(match (Except.ok f : Result) with | .ok (.ret v)=>handedIn v = true/\Q v s' | .ok _=>False | .error _=>False)
  | .again c'=>c'.quiet = true/\codeAny (model prog w) A c' (fun r s'=>match r with | .ok (.ret v)=>handedIn v = true/\Q v s' | .ok _=>False | .error _=>False) s') (fun fin s' z=>by
   rcases fin with (_ | _ | _ | _) | _ <;> first | exact z | exact False.elim z) fun _ _ z=>z
 cases hs : Manifest.signature? "BaseException.__getattribute__" with
 | none=>exact wpAny_pure go
 | some sg =>
  rw [hs] at ha
  dsimp only at ha ⊢
  rw [ha]
  exact wpAny_pure go
theorem exc_by {s : Shared} {tk : Tok} {fill expr : Bool} {r : Builtin.ObjectAttr.Found} {Q : Value->Shared->Prop} (X : K.In s.heap) (I : InstAt s.heap x ox C od) (hm : mroIn K C (.type "BaseException") = some true) (hf : findObj K C od name = some r)
  (hga : findIn K (.ref C) "__getattribute__" = some (some (.builtin "BaseException.__getattribute__"))) (hgn : findIn K (.ref C) "__getattr__" = some none) (h : foundGoes prog w A.in1 x C Q s r) :
  wpAny (model prog w) A (getAttrBy (.ref x) (.str name tk) fill expr) Q E s:=by
 have L0:=I.type (M:=model prog w)
 have L1:=looks_findIn (M:=model prog w) X hga
 have L2:=looks_findIn (M:=model prog w) X hgn
 have hx2 : (Value.builtin "BaseException.__getattribute__" == Value.builtin "object.__getattribute__") = false:=by decide +kernel
 unfold getAttrBy
 refine wpAny_holding (wpAny_bind (L0.here (wpAny_bind (L1.here ?_))))
 dsimp only
 rw [hx2,Bool.and_false,if_neg (by decide)]
 unfold getAttrByItsOwn hookBefore
 rw [if_pos (show onTheHeap (Value.ref C) = true from rfl)]
 refine wpAny_bind (L2.here (wpAny_bind (wpAny_attempt (wpAny_holding ?_))))
 unfold callGetattribute
 rw [show (expr && onTheHeap (Value.builtin "BaseException.__getattribute__")) = false by cases expr <;> rfl,if_neg (by decide)]
 unfold boundAndCalled
 rw [PySem.F.attr_ValueError.ga.bind (.ref x)]
 refine wpAny_bind (wpAny_pure (wpAny_mono (exc_call X I hm hf h) ?_ fun _ _ z=>False.elim z))
 rintro v s' ⟨hv,q⟩
 exact handed_on hv q
theorem exc_attr {s : Shared} {expr : Bool} {r : Builtin.ObjectAttr.Found} {Q : Value->Shared->Prop} (X : K.In s.heap) (I : InstAt s.heap x ox C od) (hm : mroIn K C (.type "BaseException") = some true) (hf : findObj K C od name = some r)
  (hga : findIn K (.ref C) "__getattribute__" = some (some (.builtin "BaseException.__getattribute__"))) (hgn : findIn K (.ref C) "__getattr__" = some none) (h : foundGoes prog w A.in1 x C Q { s with toks:=s.toks + 1 } r) :
  wpAny (model prog w) A (getAttr (.ref x) name expr) Q E s:=by
 unfold getAttr
 exact wpAny_bind (wpAny_mkText (exc_by (s:={ s with toks:=s.toks + 1 }) X I hm hf hga hgn h))
end
end L2
set_option maxHeartbeats 4000000
namespace L2
open PySem PySem.Spec PyProof.Rows
structure ExcK (K : PySem.W.Frag) (C : Addr) : Prop where
 hm : PySem.W.mroIn K C (.type "BaseException") = some true
 hmo : PySem.W.mroIn K C (.type "object") = some true
 hga : PySem.W.findIn K (.ref C) "__getattribute__" = some (some (.builtin "BaseException.__getattribute__"))
 hgn : PySem.W.findIn K (.ref C) "__getattr__" = some none
 hc : (PySem.W.clsIn K C).isSome = true
 ha : PySem.W.findIn K (.ref C) "__class__" = some (some (.builtin "object.__class__"))
 hn : PySem.W.specialIn K (.builtin "object.__class__") "__get__" = some (some (.builtin "getset_descriptor.__get__"))
 ht : PySem.W.takesIn K (.builtin "object.__class__") = some true
section
variable {X : Cx}
end
end L2
set_option maxHeartbeats 4000000
namespace L2
open PySem PySem.Spec PyProof.Rows
theorem Same.new {H : Hp} {p : Addr} (h : H p = none) (o : HO) : Same H (upd H p o):=fun b u q=>by rw [upd_ne (ne_of_none q h)]; exact q
theorem Same.seqT {K : PySem.W.Frag} {H H' : Hp} {a : Addr} {xs : List V} (e : Same H H') (h : SqT K H a xs) : SqT K H' a xs:=by
 rcases h with (h | ⟨o,h⟩) | h
 ·exact .inl (.inl (e _ _ h))
 ·exact .inl (.inr ⟨o,e _ _ h⟩)
 ·exact .inr h
end L2
namespace L2
open PySem PySem.Spec PyProof.Rows
def ClIn (env : Env) : List (Str × Addr)->Prop
 | []=>True
 | p :: r=>env.cells.lookup p.1 = some p.2/\ClIn env r
theorem ClIn.mem {env : Env} : ∀ {cl : List (Str × Addr)} {p : Str × Addr},ClIn env cl->p ∈ cl->env.cells.lookup p.1 = some p.2
 | [],_,_,h=>by cases h
 | q :: r,p,k,h=>by
  rcases List.mem_cons.mp h with z | z
  ·subst z; exact k.1
  ·exact ClIn.mem k.2 z
theorem pe_compR {X : Cx} {x : Str} {px pos : Pos} {elt iter : Expr} {sc : Scope} {wi : TI} {te : TE} (ys : List Str) (js : List Nat) (cl : List (Str × Addr)) (hclos : closureFor sc X.env = pure cl) (hcap : Caps X sc cl ys js) (hin : ClIn X.env cl)
  (hi : PI X.nox (.Name x px) iter wi) (he : ∀ s2 H2 C ex,PE (compCx X sc (x :: ys) cl s2 H2 C ex) elt te) (hc : X.calm = true:=by rfl)
  (hcell : (sc.names.all fun p=>p.2 != NameKind.cell) = true:=by rfl) (hkind : sc.kind = .function:=by rfl) (hnames : (sc.names.all fun p=>p.2 != NameKind.local || sc.names.lookup p.1 == some NameKind.local) = true:=by rfl)
  (hx : (relabel sc X.env).names.lookup x = some .local:=by rfl) (hhas : ((relabel sc X.env).names.all fun p=>p.2 == NameKind.local || p.2 == NameKind.globalImplicit || (cl.lookup p.1).isSome) = true:=by rfl)
  (hnd : (x :: ys).Nodup:=by decide +kernel) (hs : ∀ v,foldedSetIterable iter X.env v = pure v:=by intro _; rfl) : PE X (.ListComp elt [⟨.Name x px,iter,[],0⟩] sc pos) (tComp wi js te):=by
 refine pe_comp hclos (fun y hy z=>?_) hkind (fun y hy z=>?_) hx hcap (fun y c e=>hin.mem (PySem.mem_of_lookup e)) (fun y h=>?_) hnd hc hi he hs
 ·have:=List.all_eq_true.mp hcell y hy
  rw [z] at this
  exact absurd this (by decide)
 ·have:=List.all_eq_true.mp hnames y hy
  rw [z] at this
  simpa using this
 ·have hm : ∃ k,(y,k) ∈ (relabel sc X.env).names/\(k = .cell \/ k = .free):=by
   rcases h with h | h
   ·exact ⟨_,PySem.mem_of_lookup h,.inl rfl⟩
   ·exact ⟨_,PySem.mem_of_lookup h,.inr rfl⟩
  obtain ⟨k,hk,hz⟩:=hm
  have:=List.all_eq_true.mp hhas _ hk
  rcases hz with rfl | rfl
  ·exact Option.isSome_iff_exists.mp (by simpa using this)
  ·exact Option.isSome_iff_exists.mp (by simpa using this)
end L2
set_option maxHeartbeats 4000000
namespace L2
open PySem PySem.Spec PyProof.Rows
def Def (P : Program) (w : World) (K : PySem.W.Frag) (mg : Str->Option Value) (base : Heap) (CX : CXT) (x : Str) (k : Nat) (ps : List Str) (sp : Sp) : Prop :=
 ∃ f fd,FnOk P w K mg base CX k f fd ps sp/\Binds K fd ps []/\PySem.W.keepIn K (.ref f) = true/\mg x = some (.ref f)
section
variable {X : Cx} {CX : CXT} {j k : Nat} {ps : List Str} {sp : Sp} {E : XK} {x : Str} {p pos : Pos} {e : Expr} {es : List Expr} {t : TA}
theorem pe_callD (D : Def X.prog X.w X.K X.mg X.base CX x j ps sp) (hr : Room k X.A) (hx : Passes CX X E) (ha : PA X (e :: es) t) (hj : j <= k:=by decide) (hg : Gl X x:=by rfl)
  (hdb : (x == ("__debug__" : Str)) = false:=by decide) (he : starEach (e :: es) X.env = (false,eval e X.env) :: starEach es X.env:=by rfl) (hpl : (backTo pos (starEach es X.env)).any (·.1) = false:=by rfl) :
  PE X (.Call (.Name x p) (e :: es) [] pos) (tCall sp [] E t):=by
 obtain ⟨f,fd,F,b,kk,m⟩:=D
 exact pe_call F (hr.mono hj) hg m kk b .nil hx ha hdb he hpl
theorem pex_callD (D : Def X.prog X.w X.K X.mg X.base (CX1 X.prog X.w) x j ps sp) (hr : Room k X.A) (ha : PA X.nox (e :: es) t) (hj : j <= k:=by decide) (hg : Gl X x:=by rfl)
  (hdb : (x == ("__debug__" : Str)) = false:=by decide) (he : starEach (e :: es) X.env = (false,eval e X.env) :: starEach es X.env:=by rfl) (hpl : (backTo pos (starEach es X.env)).any (·.1) = false:=by rfl) :
  PEX X (.Call (.Name x p) (e :: es) [] pos) (tCallX sp [] t):=by
 obtain ⟨f,fd,F,b,kk,m⟩:=D
 exact pex_call F (hr.mono hj) hg m kk b .nil ha hdb he hpl
theorem passN : Passes (CX1 X.prog X.w) X E0:=fun _ _ _ _ _ _ _ h=>by
 obtain ⟨a,cls,d,B,H',_,_,_,_,_,_,_,_,_,_,q⟩:=h
 exact q.elim
def tCut (t : TS) : TS:=fun D σ H=>∃ P : St->Hp->Prop,t { D with nx:=P } σ H/\∀ σ' H',P σ' H'->D.nx σ' H'
theorem ps_cut {st : Stmt} {t : TS} (h : PS X st t) : PS X st (tCut t):=by
 rintro pins s σ H D I ⟨P,hp,hq⟩
 refine thn (h pins s σ H _ I hp) fun f s' q=>?_
 cases f with
 | next =>
  obtain ⟨σ',H',I',q⟩:=q
  exact ⟨σ',H',I',hq _ _ q⟩
 | brk=>exact q
 | cont=>exact q
 | ret v=>exact q
def tCutE (t : TE) : TE:=fun σ H Q=>∃ P : VK,t σ H P/\∀ v H',P v H'->Q v H'
end
end L2
set_option maxHeartbeats 4000000
namespace L2
open PySem PySem.Spec PyProof.Rows
def FunIn (K : PySem.W.Frag) (x : Str) (st : Stmt) : Prop:=∃ f fd,PySem.W.nsIn K mainGlobals x = some (some (.ref f))/\Fun K x x st f fd
theorem funIn_mk {K : PySem.W.Frag} {x : Str} {st : Stmt} {f : Addr} {oc : Value} {od an : Option Addr} {osl : Array (Option Value)} {kV doc pm cdv ct : Value} (a : PySem.W.nsIn K mainGlobals x = some (some (.ref f)))
  (l : K.lookup f = some ⟨oc,od,.func (PySem.W.fnOf x x (defArgs st) (defBody st) (defScope st) .none kV doc pm an cdv ct),osl⟩) (c : PySem.W.codeIn K cdv x = true) (k : PySem.W.keepIn K (.ref f) = true) : FunIn K x st :=
 ⟨f,_,a,fun_mk l c k⟩
theorem Def.of {P : Program} {w : World} {K : PySem.W.Frag} {mg : Str->Option Value} {base h : Heap} {CX : CXT} {x : Str} {k : Nat} {ps : List Str} {sp : Sp} {st : Stmt} (X : K.In h) (G : h.Ns mainGlobals mg) (FI : FunIn K x st)
  (ok : ∀ f fd,Fun K x x st f fd->FnOk P w K mg base CX k f fd ps sp)
  (hb : ∀ (kV doc pm : Value) (an : Option Addr) (cdv ct : Value) (us : List Value),us.length = ps.length->bindArgs (PySem.W.fnOf x x (defArgs st) (defBody st) (defScope st) .none kV doc pm an cdv ct) ⟨us,[]⟩ = pure (ps.zip us)) :
  Def P w K mg base CX x k ps sp:=by
 obtain ⟨f,fd,a,F⟩:=FI
 exact ⟨f,fd,ok f fd F,F.binds hb,F.kp,PySem.W.mg_of X G a⟩
end L2
set_option maxHeartbeats 4000000
namespace L2
open PySem PySem.W Builtin Builtin.ObjectAttr
def onlyVE : List Value->Bool
 | .ref _ :: r=>onlyVE r
 | l=>l == [.type "ValueError",.type "Exception",.type "BaseException",.type "object"]
theorem onlyVE_nil : onlyVE [] = false:=by decide
theorem onlyVE_other {v : Value} {r : List Value} (h : ∀ c,v ≠ .ref c) (e : onlyVE (v :: r) = true) : v :: r = [.type "ValueError",.type "Exception",.type "BaseException",.type "object"]:=by
 have z : onlyVE (v :: r) = (v :: r == [.type "ValueError",.type "Exception",.type "BaseException",.type "object"]):=by
  cases v <;> first | rfl | exact absurd rfl (h _)
 rw [z] at e
 exact beq_iff_eq.mp e
theorem refuse_VE (self : Value) : ∀ {l : List Value},onlyVE l = true->refuseLoop self "__setattr__" l = pure ()
 | [],e=>by rw [onlyVE_nil] at e; cases e
 | v :: r,e=>by
  by_cases h : ∃ c,v = .ref c
  ·obtain ⟨c,rfl⟩:=h
   rw [refuseLoop_ref]
   exact refuse_VE self (l:=r) e
  ·rw [onlyVE_other (fun c z=>h ⟨c,z⟩) e]
   exact PySem.F.store_ValueError.passes self
theorem has_VE : ∀ {l : List Value},onlyVE l = true->l.contains (.type "object") = true
 | [],e=>by rw [onlyVE_nil] at e; cases e
 | v :: r,e=>by
  by_cases h : ∃ c,v = .ref c
  ·obtain ⟨c,rfl⟩:=h
   rw [List.contains_cons,has_VE (l:=r) e,Bool.or_true]
  ·rw [onlyVE_other (fun c z=>h ⟨c,z⟩) e]
   decide
section
variable {prog : Program} {w : World} {A : Around} {E : Value->Shared->Prop} {K : Frag} {x C : Addr} {ox : Obj} {od : Option Obj} {name : Str} {s : Shared} {cd : ClassData} {v : Value} {R : Result->Shared->Prop}
theorem osa_exc {tk : Tok} (X : K.In s.heap) (I : InstAt s.heap x ox C od) (hc : clsIn K C = some cd) (ho : onlyVE cd.mro = true) (ht : takerIn K C name = some none)
  (h : ∀ b,wpAny (model prog w) A.in1 (storeInOwnDict (.ref x) (.ref C) (.str name tk) name v b)
   (fun fin s'=>match fin with | .done f=>R (.ok f) s' | .again c'=>c'.quiet = true/\codeAny (model prog w) A c' R s') (fun e s'=>R (.error e) s') s) :
  codeAny (model prog w) A (.call (.builtin "object.__setattr__") ⟨[.ref x,.str name tk,v],[]⟩) R s:=by
 have SF:=PySem.F.store_object
 have ne : cd.mro.isEmpty = false:=by cases q : cd.mro with | nil=>rw [q,onlyVE_nil] at ho; cases ho | cons _ _=>rfl
 have sub : Looks (model prog w) s.heap (isInstance (.ref x) (.type "object")) true:=I.type.andThen (looks_mroIn X (by unfold mroIn; rw [hc,Option.bind_some,if_neg (by rw [ne]; decide),has_VE ho]))
 refine codeAny_call_builtin SF.slot.plain SF.entry (@check_slot (model prog w) _ _ s "object.__setattr__" "object" "__setattr__" (.ref x) [.str name tk,v] [] _ SF.kind SF.split sub (SF.args (.ref x) (.str name tk) v) ?_)
 obtain ⟨attr,ha,hr⟩:=Option.bind_eq_some_iff.mp ht
 have hm : Looks (model prog w) s.heap (mroOf (.ref C)) cd.mro:=(looks_clsIn X hc).andThen .now
 have L3 : Looks (model prog w) s.heap (storeTaker? attr) none:=by
  cases attr with
  | none=>exact .now
  | some a =>
   obtain ⟨b,hb,e⟩:=Option.map_eq_some_iff.mp hr
   refine (looks_takesIn X hb).andThen ?_
   cases b with
   | true=>cases e
   | false=>exact .now
 rw [osa_eq,refuse_eq]
 refine wpAny_bind (wpAny_bind (I.type.here (wpAny_bind (hm.here ?_))))
 rw [refuse_VE _ ho]
 refine wpAny_pure (wpAny_bind (I.type.here (wpAny_bind ((looks_findIn X ha).here (wpAny_bind (L3.here ?_))))))
 exact h _
theorem exc_set_new {ws : Array Value} {Q : Unit->Shared->Prop} (X : K.In s.heap) (I : InstAt s.heap x ox C od) (hc : clsIn K C = some cd) (ho : onlyVE cd.mro = true) (ht : takerIn K C name = some none)
  (hs : findIn K (.ref C) "__setattr__" = some (some (.builtin "object.__setattr__"))) (hdd : cd.hasDict = true) (hn : ox.dict = none) (hf : ox.data = .fields ws)
  (h : ∀ h',h'.get? x = some { ox with dict:=some s.heap.objs.size }->h'.Ns1 s.heap.objs.size (fun y=>if y = name then some v else none) ->
   (∀ b o,b ≠ x->s.heap.get? b = some o->h'.get? b = some o)->Q () { s with heap:=h',toks:=s.toks + 2 }) :
  wpAny (model prog w) A (setAttr (.ref x) name v) Q E s:=by
 refine PySem.W.set_plain X I hs (osa_exc (s:={ s with toks:=s.toks + 1 }) X I hc ho ht fun b=>?_)
 obtain ⟨hx,hcl,_,_⟩:=I
 have hxs : x ≠ s.heap.objs.size:=Nat.ne_of_lt (Heap.lt_size hx)
 unfold storeInOwnDict ownStreamTells
 refine wpAny_bind (wpAny_pure ?_)
 rw [if_neg (by intro z; cases (beq_iff_eq.mp z))]
 refine wpAny_bind ?_
 unfold ownDictForStores instanceDict
 refine wpAny_bind (wpAny_loadPart hx ?_)
 rw [hcl]
 dsimp only
 refine wpAny_bind (Looks.here (s:={ s with toks:=s.toks + 1 }) (looks_clsIn X hc) ?_)
 rw [hdd,hn,hf]
 dsimp only
 rw [if_neg (by decide),if_neg (show ¬ ((!true || !typeHasDict (Value.ref C)) = true) by simp [typeHasDict])]
 have hx1 : (s.heap.push { cls:=.type "dict",data:=.dict #[] }).get? x = some ox:=Heap.get?_push_of_some _ hx
 refine wpAny_bind (wpAny_alloc' ?_)
 refine wpAny_bind (wpAny_update' hx1 ?_)
 refine wpAny_pure ?_
 have hgd : ((s.heap.push { cls:=.type "dict",data:=.dict #[] }).update x fun o=>{ cls:=o.cls,dict:=some s.heap.objs.size,data:=o.data,slots:=o.slots }).get? s.heap.objs.size = some { cls:=.type "dict",data:=.dict #[] } :=
  (Heap.get?_update_ne _ _ _ _ hxs.symm).trans (Heap.get?_push_at rfl rfl)
 have hnd : ((s.heap.push { cls:=.type "dict",data:=.dict #[] }).update x fun o=>{ cls:=o.cls,dict:=some s.heap.objs.size,data:=o.data,slots:=o.slots }).Ns s.heap.objs.size (fun _=>none) :=
  ⟨_,#[],_,hgd,rfl,fun e he=>absurd he (by simp),fun _=>rfl⟩
 show wpAny _ _ (storeInDict s.heap.objs.size (.str name _) name v) _ _ _
 unfold storeInDict newKeyGuard
 refine wpAny_bind (wpAny_pure (wpAny_bind (wpAny_nsSet1 (Heap.Ns1.of_empty hnd) fun h' hn' hs'=>?_)))
 obtain ⟨oD,esD,epD,hoD,hdD,hcD⟩:=hn'.count (Within.cons name v Within.nil)
 refine wpAny_bind (wpAny_lookBehind hoD (by rw [hdD]; exact pastItsLine_dict (Nat.le_trans hcD (by rw [List.length_cons,List.length_nil,sizeLine_eq]; omega))) ?_)
 refine wpAny_pure (h h' ?_ hn' fun b ob hbx hb=>?_)
 ·refine (hs'.2 x hxs).trans (Heap.get?_update_self _ hx1 ?_)
  exact Obj.isFreed_of_fields (o:={ ox with dict:=some s.heap.objs.size }) (by exact hf)
 ·exact (hs'.2 b (Nat.ne_of_lt (Heap.lt_size hb))).trans ((Heap.get?_update_ne _ _ _ _ hbx).trans (Heap.get?_push_of_some _ hb))
theorem exc_set_old {dx : Addr} {mA : Str->Option Value} {ns : List Str} {Q : Unit->Shared->Prop} (X : K.In s.heap) (I : InstAt s.heap x ox C od) (hc : clsIn K C = some cd) (ho : onlyVE cd.mro = true) (ht : takerIn K C name = some none)
  (hs : findIn K (.ref C) "__setattr__" = some (some (.builtin "object.__setattr__"))) (hdd : cd.hasDict = true) (hn : ox.dict = some dx) (hm : s.heap.Ns1 dx mA) (hw : PySem.Within mA ns) (hsz : ns.length <= 1000)
  (h : ∀ h',h'.Ns1 dx (fun y=>if y = name then some v else mA y)->Heap.SameBut dx s.heap h'->Q () { s with heap:=h',toks:=s.toks + 2 }) :
  wpAny (model prog w) A (setAttr (.ref x) name v) Q E s:=by
 refine PySem.W.set_plain X I hs (osa_exc (s:={ s with toks:=s.toks + 1 }) X I hc ho ht fun b=>?_)
 obtain ⟨hx,hcl,_,_⟩:=I
 unfold storeInOwnDict ownStreamTells
 refine wpAny_bind (wpAny_pure ?_)
 rw [if_neg (by intro z; cases (beq_iff_eq.mp z))]
 refine wpAny_bind ?_
 unfold ownDictForStores instanceDict
 refine wpAny_bind (wpAny_loadPart hx ?_)
 rw [hcl]
 dsimp only
 refine wpAny_bind (Looks.here (s:={ s with toks:=s.toks + 1 }) (looks_clsIn X hc) ?_)
 rw [hdd,hn]
 dsimp only
 rw [if_neg (by decide)]
 refine wpAny_pure ?_
 show wpAny _ _ (storeInDict dx (.str name _) name v) _ _ _
 unfold storeInDict newKeyGuard
 refine wpAny_bind (wpAny_pure (wpAny_bind (wpAny_nsSet1 hm fun h' hn' hs'=>?_)))
 obtain ⟨oD,esD,epD,hoD,hdD,hcD⟩:=hn'.count (Within.cons name v hw)
 refine wpAny_bind (wpAny_lookBehind hoD (by rw [hdD]; exact pastItsLine_dict (Nat.le_trans hcD (by rw [List.length_cons,sizeLine_eq]; omega))) ?_)
 exact wpAny_pure (h h' hn' hs')
end
end L2
set_option maxHeartbeats 4000000
namespace L2
open PySem PySem.W
section
variable {prog : Program} {w : World} {A : Around} {E : Value->Shared->Prop} {h : Heap} {g : Array GenState} {d : Drawn} {t : Nat} {os : OsState}
variable {nm q : Str} {C N fI : Addr} {bs bm bmB : List Value} {hdct : Bool} {sn : List Str} {sub : List Value} {ab : Bool} {col : Option Bool} {dd : Option Addr} {k0 k1 k2 k3 k5 : Option Value} {B Bn newId nid initId inN : String} {bmN : List Value} {K : Frag}
abbrev excObj (C t : Addr) : Obj:={ cls:=.ref C,data:=.fields #[.ref t,.none,.none,.none,.bool false,.none] }
abbrev excObjD (C t : Addr) (dO : Option Addr) : Obj:={ cls:=.ref C,dict:=dO,data:=.fields #[.ref t,.none,.none,.none,.bool false,.none] }
abbrev excHeap (h : Heap) (C : Addr) (rest : List Value) : Heap:=(h.push { cls:=.type "tuple",data:=.seq rest.toArray }).push (excObj C h.objs.size)
theorem type_call_init (Fn : ExcBaseFacts Bn newId inN bmN) (hBn : bmB.contains (.type Bn) = true) (F : ExcBaseFacts B nid initId bmB) (T : OwnTail h bmB bm) {rest : List Value} {Q : Fin->Shared->Prop} (X : K.In h)
  (hC : h.get? C = some (excClassObj nm q C N bs bm hdct sn sub ab col dd k0 k1 k2 k3 k5 newId)) (hi : findIn K (.ref C) "__init__" = some (some (.ref fI))) (hf : typeIn K (.ref fI) = some (.type "function"))
  (hq : wpAny (model prog w) A (call (.ref fI) (.ref (h.objs.size + 1) :: rest)) (fun v s'=>v = .none/\Q (.done (.ret (.ref (h.objs.size + 1)))) s') E ⟨excHeap h C rest,g,d,t,os⟩) (hrest : rest.length <= sizeLine) :
  wpAny (model prog w) A (Builtin.«type.__call__» ⟨.ref C :: rest,[]⟩) Q E ⟨h,g,d,t,os⟩:=by
 repeat (first | with_reducible refine wpAny_loadPart_at hC ?_ | with_reducible refine wpAny_madeBy_exc hC ?_ | wp_step)
 refine codeAny_call_builtin_code (Code.quiet_builtin _ Fn.quiet) (wpAny_check_new_subU Fn hBn T hC ?_)
 refine codeAny_exc_new_subU Fn hBn F T hC ?_ hrest
 show wpAny _ _ _ _ _ _
 have hC₁:=Heap.get?_push_of_some { cls:=.ref C,data:=.fields #[.ref h.objs.size,.none,.none,.none,.bool false,.none] }
  (Heap.get?_push_of_some { cls:=.type "tuple",data:=.seq rest.toArray } hC)
 have hget : ((h.push { cls:=.type "tuple",data:=.seq rest.toArray }).push
   { cls:=.ref C,data:=.fields #[.ref h.objs.size,.none,.none,.none,.bool false,.none] }).get? (h.objs.size + 1) = some
   { cls:=.ref C,data:=.fields #[.ref h.objs.size,.none,.none,.none,.bool false,.none] }:=by heap_get
 have hcC : (Value.ref C :: bm).contains (.ref C) = true:=by simp
 have X₁ : K.In (excHeap h C rest):=X.keeps fun b o e=>Heap.get?_push_of_some _ (Heap.get?_push_of_some _ e)
 unfold isInstance
 repeat (first | with_reducible refine wpAny_loadPart_at hget ?_ | (with_reducible refine wpAny_isSubtype_exc hC₁ ?_; rw [hcC]) | wp_step)
 show wpAny _ _ (typeLookup (.ref C) _) _ _ _
 refine (looks_findIn X₁ hi).at ?_
 refine wpAny_holding (wpAny_bind ((bind_fn X₁ _ hf).at ?_))
 refine wpAny_bind (wpAny_mono hq ?_ fun _ _ z=>z)
 rintro v s' ⟨rfl,z⟩
 wp_walk
 exact z
theorem call_init (Fn : ExcBaseFacts Bn newId inN bmN) (hBn : bmB.contains (.type Bn) = true) (F : ExcBaseFacts B nid initId bmB) (T : OwnTail h bmB bm) {rest : List Value} {Q : Value->Shared->Prop} (X : K.In h)
  (hC : h.get? C = some (excClassObj nm q C N bs bm hdct sn sub ab col dd k0 k1 k2 k3 k5 newId)) (hi : findIn K (.ref C) "__init__" = some (some (.ref fI))) (hf : typeIn K (.ref fI) = some (.type "function"))
  (hq : wpAny (model prog w) (A.under (.builtin "type.__call__" ⟨.ref C :: rest,[]⟩)) (call (.ref fI) (.ref (h.objs.size + 1) :: rest)) (fun v s'=>v = .none/\Q (.ref (h.objs.size + 1)) s') E ⟨excHeap h C rest,g,d,t,os⟩) (hrest : rest.length <= sizeLine) :
  wpAny (model prog w) A (call (.ref C) rest) Q E ⟨h,g,d,t,os⟩:=by
 have f1:=tc_lookup
 have f2:=tc_bind (.ref C)
 have hT : (⟨h,g,d,t,os⟩ : Shared).TypeIs (.ref C) "type":=⟨_,hC,rfl⟩
 refine wpAny_call (codeAny_of_tree ?_)
 show wpAny _ _ (callAny (.ref C) _) _ _ _
 repeat (any_goals (first | assumption | with_reducible refine wpAny_loadPart_at hC ?_ | wp_step))
 refine ⟨rfl,?_⟩
 refine codeAny_call_builtin_at (Code.quiet_builtin _ (by decide +kernel)) entry_typeCall (wpAny_check_type_call_sub hC (type_call_init Fn hBn F T X hC hi hf ?_ hrest))
 exact hq
end
section
variable {prog : Program} {w : World} {A : Around} {E : Value->Shared->Prop} {s : Shared} {env : Env}
variable {nm q : Str} {C N fI : Addr} {bs bm bmB : List Value} {hdct : Bool} {sn : List Str} {sub : List Value} {ab : Bool} {col : Option Bool} {dd : Option Addr} {k0 k1 k2 k3 k5 : Option Value} {B Bn newId nid initId inN : String} {bmN : List Value} {K : Frag}
theorem raiseStmt_any {M : Model} {x : Sem Value} {Q : Flow->Shared->Prop} (hbase : bm.contains (.type "BaseException") = true) (hh : A.handled = none)
  (h : wpAny M A x (fun v s₁=>∃ e t dO,v = .ref e/\s₁.heap.get? C = some (excClassObj nm q C N bs bm hdct sn sub ab col dd k0 k1 k2 k3 k5 newId)/\s₁.heap.get? e = some (excObjD C t dO)/\E (.ref e) s₁) E s) :
  wpAny M A (raiseStmt env (some x) none) Q E s:=by
 have hcB : (Value.ref C :: bm).contains (.type "BaseException") = true:=by rw [List.contains_cons,hbase,Bool.or_true]
 unfold raiseStmt
 refine wpAny_bind (wpAny_mono h (fun v s₁ h₁=>?_) fun _ _ x=>x)
 obtain ⟨e,t,dO,rfl,hC,he,hE⟩:=h₁
 obtain ⟨hp,g,d,tk,os⟩:=s₁
 repeat (first | with_reducible refine wpAny_loadPart_at he ?_ | with_reducible refine wpAny_loadPart_at hC ?_ | (with_reducible refine wpAny_isSubtype_exc hC ?_; rw [hcB]) | wp_step)
 exact wpAny_raiseNew_none hh hE
theorem Raise_init (Fn : ExcBaseFacts Bn newId inN bmN) (hBn : bmB.contains (.type Bn) = true) (F : ExcBaseFacts B nid initId bmB) {x : Str} {np cpos pos : Pos} {args : List Expr} {Q : Flow->Shared->Prop}
  (hbase : bm.contains (.type "BaseException") = true) (hh : A.handled = none) (hplain : (backTo cpos (starEach args env)).any (·.1) = false) (hi : findIn K (.ref C) "__init__" = some (some (.ref fI))) (hf : typeIn K (.ref fI) = some (.type "function"))
  (h : wpAny (model prog w) A (eval (.Name x np) env) (fun f s₁=>f = .ref C/\wpAny (model prog w) A (evalArgs (.ref C) true (backTo cpos (starEach args env)) [])
   (fun a s₂=>a.kw = []/\a.pos.length <= sizeLine/\s₂.heap.get? C = some (excClassObj nm q C N bs bm hdct sn sub ab col dd k0 k1 k2 k3 k5 newId)/\K.In s₂.heap/\OwnTail s₂.heap bmB bm /\
    wpAny (model prog w) (A.under (.builtin "type.__call__" ⟨.ref C :: a.pos,[]⟩)) (call (.ref fI) (.ref (s₂.heap.objs.size + 1) :: a.pos)) (fun v s'=>v = .none/\s'.heap.get? C = some (excClassObj nm q C N bs bm hdct sn sub ab col dd k0 k1 k2 k3 k5 newId) /\
     (∃ t dO,s'.heap.get? (s₂.heap.objs.size + 1) = some (excObjD C t dO))/\E (.ref (s₂.heap.objs.size + 1)) s') E { s₂ with heap:=excHeap s₂.heap C a.pos }) E s₁) E s) :
  wpAny (model prog w) A (exec (.Raise (some (.Call (.Name x np) args [] cpos)) none pos) env) Q E s:=by
 rw [arm_exec_Raise]
 first
  | refine wpAny_bind (wpAny_standAt (raiseStmt_any (C:=C) (nm:=nm) (q:=q) (N:=N) (bs:=bs) (bm:=bm) (hdct:=hdct) (sn:=sn) (sub:=sub) (ab:=ab) (col:=col) (dd:=dd) (k0:=k0) (k1:=k1) (k2:=k2) (k3:=k3) (k5:=k5) (newId:=newId) hbase hh (wpAny_bind (wpAny_mono (wpAny_Call_ofName (wpAny_mono h (fun f s₁ h₁=>?_) fun _ _ x=>x)) (fun v s₃ h₃=>wpAny_bind (wpAny_standAt (wpAny_pure h₃))) fun _ _ x=>x))))
  | (simp only [evalOpt,Option.map]; refine wpAny_bind (wpAny_standAt (raiseStmt_any (C:=C) (nm:=nm) (q:=q) (N:=N) (bs:=bs) (bm:=bm) (hdct:=hdct) (sn:=sn) (sub:=sub) (ab:=ab) (col:=col) (dd:=dd) (k0:=k0) (k1:=k1) (k2:=k2) (k3:=k3) (k5:=k5) (newId:=newId) hbase hh (wpAny_bind (wpAny_mono (wpAny_Call_ofName (wpAny_mono h (fun f s₁ h₁=>?_) fun _ _ x=>x)) (fun v s₃ h₃=>wpAny_bind (wpAny_standAt (wpAny_pure h₃))) fun _ _ x=>x)))))
 obtain ⟨rfl,h₁⟩:=h₁
 unfold callWith
 refine wpAny_bind (wpAny_holding (wpAny_mono h₁ (fun a s₂ h₂=>wpAny_bind (wpAny_standAt ?_)) fun _ _ x=>x))
 obtain ⟨apos,akw⟩:=a
 obtain ⟨hkw,hlen,hC,X,T,h₂⟩:=h₂
 obtain rfl : akw = []:=hkw
 obtain ⟨hp,g,d,tk,os⟩:=s₂
 simp only [hplain]
 refine wpAny_bind (wpAny_keeperOf_exc hC ?_)
 refine wpAny_bind (call_init Fn hBn F T X hC hi hf (wpAny_mono h₂ ?_ fun _ _ z=>z) hlen)
 rintro v s' ⟨rfl,hC',⟨t,dO,he⟩,hE⟩
 exact ⟨rfl,wpAny_bind (wpAny_holding (wpAny_point (wpAny_pure ⟨_,t,dO,rfl,hC',he,hE⟩)))⟩
end
end L2
set_option maxHeartbeats 4000000
namespace L2
open PySem PySem.Spec PyProof.Rows
def newO (a C : Addr) (d : Option Addr) : HO:=.ext fun h=>∃ t,h.get? a = some (excObjD C t d)
def xdO (a : Addr) (fs : List (Str × V)) : HO:=.ext fun h=>∃ mA,h.Ns1 a mA/\∀ f,RelO (fs.lookup f) (mA f)
section
variable {P : Program} {w : World} {H : Hp} {h : Heap} {a C : Addr} {d : Option Addr} {fs : List (Str × V)}
theorem newO_ok (x : ∃ t,h.get? a = some (excObjD C t d)) : ObjOk P w H h a (newO a C d):=by
 obtain ⟨t,e⟩:=x
 refine ⟨⟨t,e⟩,⟨_,e⟩,?_⟩
 rintro h1 h2 ⟨t,f⟩ k
 exact ⟨t,k _ f⟩
theorem newO_get (x : ObjOk P w H h a (newO a C d)) : ∃ t,h.get? a = some (excObjD C t d):=x.1
theorem xdO_ok (x : ∃ mA,h.Ns1 a mA/\∀ f,RelO (fs.lookup f) (mA f)) : ObjOk P w H h a (xdO a fs):=by
 obtain ⟨mA,n,r⟩:=x
 refine ⟨⟨mA,n,r⟩,?_,?_⟩
 ·obtain ⟨o,_,_,e,_⟩:=n
  exact ⟨o,e⟩
 ·rintro h1 h2 ⟨mA,n,r⟩ k
  obtain ⟨o,es,ep,e,q⟩:=n
  exact ⟨mA,⟨o,es,ep,k _ e,q⟩,r⟩
theorem xdO_get (x : ObjOk P w H h a (xdO a fs)) : ∃ mA,h.Ns1 a mA/\∀ f,RelO (fs.lookup f) (mA f):=x.1
theorem within_of {mA : Str->Option Value} (r : ∀ f,RelO (fs.lookup f) (mA f)) : PySem.Within mA (fs.map (·.1)):=by
 intro g hg
 cases q : fs.lookup g with
 | none =>
  have z:=r g
  rw [q] at z
  exact absurd z.none_of hg
 | some v =>
  exact List.mem_map.mpr ⟨(g,v),PySem.mem_of_lookup q,rfl⟩
end
structure XCls (K : PySem.W.Frag) (C : Addr) : Prop where
 cd : ∃ cd,PySem.W.clsIn K C = some cd/\onlyVE cd.mro = true/\cd.hasDict = true
 sa : PySem.W.findIn K (.ref C) "__setattr__" = some (some (.builtin "object.__setattr__"))
def XNo (K : PySem.W.Frag) (C : Addr) (f : Str) : Prop:=PySem.W.findIn K (.ref C) f = some none
theorem XNo.taker {K : PySem.W.Frag} {C : Addr} {f : Str} (n : XNo K C f) : PySem.W.takerIn K C f = some none:=by
 unfold PySem.W.takerIn
 rw [n]
 rfl
theorem get_push_ne {h : Heap} {o v : Obj} {b : Addr} (z : (h.push o).get? b = some v) (hb : b ≠ h.objs.size) : h.get? b = some v:=by
 rw [<- z]
 exact (Heap.get?_push_ne h b o hb).symm
def sX (K : PySem.W.Frag) (ta tv : TE) (f : Str) : TS:=fun D σ H=>tv σ H fun y H1=>ta σ H1 fun x H2=>∃ a C,x = .ref a/\XCls K C/\XNo K C f /\
 ((H2 a = some (newO a C none)/\∀ dx,H2 dx = none->dx ≠ a->D.nx σ (upd (upd H2 dx (xdO dx [(f,y)])) a (newO a C (some dx)))) \/
  (∃ dx fs,H2 a = some (newO a C (some dx))/\H2 dx = some (xdO dx fs)/\fs.length < 1000/\D.nx σ (upd H2 dx (xdO dx (putF f y fs)))))
section
variable {X : Cx} {o value : Expr} {f : Str} {pos pos' : Pos} {ta tv : TE}
theorem ps_xset (ha : PE X o ta) (hv : PE X value tv) (hs : swapsWith value (some (.Attribute o f pos')) pos.line X.env = pure false:=by rfl) : PS X (.Assign [.Attribute o f pos'] value pos) (sX X.K ta tv f):=by
 intro pins s σ H D I h
 refine plainObj_wpAny_Assign_Attribute (thn (hv pins s σ H _ I h) fun u s1 ⟨y,H1,I1,ry,q⟩=>thn (ha pins s1 σ H1 _ I1 q) fun ov s2 ⟨x,H2,I2,rx,a,C,ex,c,n,q2⟩=>?_) hs
 subst ex
 obtain rfl : ov = Value.ref a:=rx
 obtain ⟨cd,c1,c2,c3⟩:=c.cd
 rcases q2 with ⟨ea,q2⟩ | ⟨dx,fs,ea,ed,hl,q2⟩
 ·obtain ⟨t,et⟩:=newO_get (I2.hok a _ ea)
  have hI : PySem.W.InstAt s2.heap a (excObjD C t none) C none:=⟨et,rfl,rfl,trivial⟩
  refine exc_set_new I2.kIn hI c1 c2 n.taker c.sa c3 rfl rfl fun h' g1 g2 g3=>?_
  have nd : H2 s2.heap.objs.size = none:=I2.hok.fresh (Nat.le_refl _)
  have na : s2.heap.objs.size ≠ a:=Ne.symm (Nat.ne_of_lt (Heap.lt_size et))
  obtain ⟨od,es,ep,e1,e2⟩:=id g2
  have hfr : od.isFreed = false:=(Heap.get?_some_iff.mp e1).2
  have p1 : (s2.heap.push od).get? s2.heap.objs.size = some od:=Heap.get?_push_size _ hfr
  have J1:=I2.laid (a:=s2.heap.objs.size) (o:=xdO s2.heap.objs.size [(f,y)]) (h':=s2.heap.push od) (t':=s2.toks) (fun b v z=>Heap.get?_push_of_some _ z) (Nat.le_refl _) (xdO_ok ⟨_,⟨od,es,ep,p1,e2⟩,fun g=>by
   by_cases z : g = f
   ·subst z
    simp only [List.lookup,beq_self_eq_true,if_pos]
    exact ry
   ·have z' : (g == f) = false:=beq_eq_false_iff_ne.mpr z
    simp only [List.lookup,z',if_neg z]
    trivial⟩)
  refine ⟨σ,_,J1.write (x:=a) (e:=a) (o:=newO a C (some s2.heap.objs.size)) (h':=h') (t':=s2.toks + 2) ?_ (.inl rfl) ?_ ⟨_,g1⟩ (newO_ok ⟨t,g1⟩),q2 _ nd na⟩
  ·rw [upd_ne (Ne.symm na),ea]
   exact True.intro
  ·intro b v hb z
   by_cases hd : b = s2.heap.objs.size
   ·subst hd
    rw [p1] at z
    cases z
    exact e1
   ·refine g3 b v hb ?_
    exact get_push_ne z hd
 ·obtain ⟨t,et⟩:=newO_get (I2.hok a _ ea)
  obtain ⟨mA,hm,r⟩:=xdO_get (I2.hok dx _ ed)
  obtain ⟨od,es,ep,e1,e2⟩:=id hm
  have hI : PySem.W.InstAt s2.heap a (excObjD C t (some dx)) C (some od):=⟨et,rfl,rfl,e1⟩
  refine exc_set_old I2.kIn hI c1 c2 n.taker c.sa c3 rfl hm (within_of r) (by rw [List.length_map]; omega) fun h' g1 g2=>?_
  refine ⟨σ,_,I2.write (x:=dx) (e:=dx) (o:=xdO dx (putF f y fs)) (h':=h') (t':=s2.toks + 2) (by rw [ed]; exact True.intro) (.inl rfl) (fun b v hb z=>(g2.2 b hb).trans z) (let ⟨o,_,_,e',_⟩:=g1; ⟨o,e'⟩) (xdO_ok ⟨_,g1,fun g=>?_⟩),q2⟩
  rw [lookup_putF]
  by_cases z : g = f
  ·rw [if_pos z,if_pos z]; exact ry
  ·rw [if_neg z,if_neg z]; exact r g
end
end L2
set_option maxHeartbeats 4000000
namespace L2
open PySem PySem.Spec PyProof.Rows
def del (H : Hp) (a : Addr) : Hp:=fun b=>if b = a then none else H b
theorem del_same {H : Hp} {a : Addr} : del H a a = none:=if_pos rfl
theorem del_ne {H : Hp} {a b : Addr} (h : b ≠ a) : del H a b = H b:=if_neg h
theorem del_some {H : Hp} {a b : Addr} {u : HO} (h : del H a b = some u) : b ≠ a/\H b = some u:=by
 by_cases e : b = a
 ·subst e; rw [del_same] at h; cases h
 ·rw [del_ne e] at h; exact ⟨e,h⟩
theorem del_none {H : Hp} {a b : Addr} (h : H b = none) : del H a b = none:=by
 by_cases e : b = a
 ·subst e; exact del_same
 ·rw [del_ne e]; exact h
theorem Same.del {H H' : Hp} {a : Addr} (e : Same H H') (n : H a = none) : Same H (del H' a):=fun b o q=>by
 rw [del_ne (ne_of_none q n)]
 exact e b o q
section
variable {X : Cx} {pins : List (Addr × Obj)} {σ : St} {H H' : Hp} {s s1 : Shared} {B h' : Heap} {a C : Addr} {d : Option Addr}
theorem un_del {fs : List Addr} {φ : Heap->Prop} (e : H a = some (.ext φ)) : Un fs [] H (del H a) s.heap s.heap where
 keep:=fun b o q _ _ _=>q
 slot:=fun b o q _ _ _=>⟨o.slots,q⟩
 free:=fun b o q n _=>del_none n
 there:=fun b o q _=>⟨o,q⟩
 tups:=fun b xs q=>by rw [del_ne (by intro z; subst z; rw [e] at q; cases q)]; exact q
 frzs:=fun b o u q=>by rw [del_ne (by intro z; subst z; rw [e] at q; cases q)]; exact q
 tbls:=fun b ps q=>⟨#[],by rw [del_ne (by intro z; subst z; rw [e] at q; cases q)]; simpa using q⟩
theorem hok_del {φ : Heap->Prop} {P : Program} {w : World} {h : Heap} (ok : HOk P w H h) (e : H a = some (.ext φ)) : HOk P w (del H a) h:=fun b u q=>by
 obtain ⟨hb,q⟩:=del_some q
 refine (ok b u q).stay (fun _ _ _ z=>z) (fun c z=>?_) fun c xs z=>?_
 ·rw [del_ne (by intro y; subst y; rw [e] at z; cases z)]; exact z
 ·rw [del_ne (by intro y; subst y; rw [e] at z; cases z)]; exact z
theorem Inv.flown2 (I : Inv X pins σ H s) (os : s1.os = s.os) (bare : AllBare s1.gens) (un : Un (frs X.stack) [] H H' s.heap s1.heap) (hok : HOk X.prog X.w H' s1.heap) (bs : B.StaysIn s1.heap)
  (b1 : ∀ b o,s.heap.get? b = some o->b ∉ frs X.stack->H b = none->B.get? b = some o) (b2 : ∀ b u,H' b = some u->∃ o,B.get? b = some o)
  (b3 : ∀ b o,s.heap.get? b = some o->b ∈ frs X.stack \/ (∃ o',B.get? b = some o') \/ ∃ o',h'.get? b = some o') (st : B.StaysIn h') (up : s1.heap.UpToSlots h') : Inv X pins σ H' { s1 with heap:=h' }:=by
 have nf : ∀ b ∈ frs X.stack,∀ o,s.heap.get? b = some o->∀ vs,o.data ≠ .fields vs:=fun b hb o e=>by
  obtain ⟨_,o',e',r⟩:=I.stack.mem hb
  rw [e] at e'
  cases e'
  exact r
 have sl : ∀ b o,s.heap.get? b = some o->b ∈ frs X.stack->∃ sl,h'.get? b = some { o with slots:=sl }:=fun b o e hb=>by
  obtain ⟨s2,e2⟩:=un.slot b o e (I.stkFree b hb) hb (by simp)
  obtain ⟨s3,e3⟩:=up b _ e2 (nf b hb o e)
  exact ⟨s3,e3⟩
 refine I.call' (s':={ s1 with heap:=h' }) os ⟨fun b o e n hb _=>st b o (b1 b o e hb n),fun b o e n hb _=>sl b o e hb,un.free,fun b o e hx=>?_,un.tups,un.frzs,un.tbls⟩ (fun b u e=>?_) bare fun b z=>nomatch z
 ·rcases b3 b o e with z | ⟨o',z⟩ | z
  ·obtain ⟨_,q⟩:=sl b o e z
   exact ⟨_,q⟩
  ·exact ⟨o',st b o' z⟩
  ·exact z
 ·refine (hok b u e).stay (fun c v hc q=>?_) (fun _ q=>q) fun _ _ q=>q
  have ht : ∃ u',H' c = some u':=by
   rcases hc with rfl | hc
   ·exact ⟨u,e⟩
   ·exact ⟨_,hc⟩
  obtain ⟨u',hu⟩:=ht
  obtain ⟨o,ho⟩:=b2 c u' hu
  have q':=bs c o ho
  rw [q] at q'
  cases q'
  exact st c v ho
end
section
variable {P : Program} {w : World} {K : PySem.W.Frag} {mg : Str->Option Value} {base : Heap} {N : List Str} {qual : Str} {scope : Scope} {f : Addr} {cd : Value} {A : Around} {outer : List Env} {s₀ : Shared} {H₀ : Hp} {E : XK}
theorem leaves_any {pins : List (Addr × Obj)} {σ : St} {H : Hp} {s : Shared} {a C : Addr} {d : Option Addr} (I : Inv (cxOf (CX1 P w) P w K mg base N qual scope f cd A outer s₀ H₀ E) pins σ H s)
  (hd : H a = some (newO a C d)) (n0 : s₀.heap.get? a = none) (q : E (.ref C) d (del H a)) : (cxOf (CX1 P w) P w K mg base N qual scope f cd A outer s₀ H₀ E).xe (.ref a) s:=by
 have hfr : (envOfC qual scope s₀.heap.objs.size f cd).frame = some s₀.heap.objs.size:=rfl
 have hstk : s.heap.FunFrames base (envOfC qual scope s₀.heap.objs.size f cd :: outer):=I.stack
 obtain ⟨t,et⟩:=newO_get (I.hok a _ hd)
 have nfr : a ∉ frs (envOfC qual scope s₀.heap.objs.size f cd :: outer):=fun z=>by
  have:=I.stkFree a z
  rw [hd] at this
  cases this
 have hin : ∀ env ∈ (envOfC qual scope s₀.heap.objs.size f cd :: outer),∀ b,env.frame = some b->b ∈ a :: frs (envOfC qual scope s₀.heap.objs.size f cd :: outer):=fun env he b hb=>.tail _ (List.mem_filterMap.mpr ⟨env,he,hb⟩)
 have hB:=PySem.W.funFrames_hide hstk hin
 have hBa : (PySem.W.hideAll s.heap (a :: frs (envOfC qual scope s₀.heap.objs.size f cd :: outer))).get? a = none:=PySem.W.hideAll_none _ (.head _)
 generalize hBB : PySem.W.hideAll s.heap (a :: frs (envOfC qual scope s₀.heap.objs.size f cd :: outer)) = B at hB hBa
 have inB : ∀ b o,s.heap.get? b = some o->b ≠ a->b ∉ frs (envOfC qual scope s₀.heap.objs.size f cd :: outer)->B.get? b = some o:=fun b o e n1 n=>by
  rw [<- hBB]
  refine PySem.W.hideAll_get _ e fun z=>?_
  rcases List.mem_cons.mp z with z | z
  ·exact n1 z
  ·exact n z
 have ofB : ∀ b o,B.get? b = some o->s.heap.get? b = some o:=fun b o e=>by rw [<- hBB] at e; exact PySem.W.of_hideAll _ e
 show wpAny _ _ (leaving _ (.ref a)) _ _ _
 refine leave_first (B:=B) (outer:=outer) (s:=s) I.ok.frames hB hfr et (fun b o e=>ofB b o e) hBa rfl rfl fun h' x y=>?_
 have b2 : ∀ b u,del H a b = some u->∃ o,B.get? b = some o:=fun b u e=>by
  obtain ⟨hb,e⟩:=del_some e
  obtain ⟨o,eo⟩:=(I.hok b u e).ex
  refine ⟨o,inB b o eo hb fun z=>?_⟩
  have:=I.stkFree b z
  rw [this] at e
  cases e
 have J:=I.flown2 (s1:=s) (H':=del H a) rfl I.bare (un_del hd) (hok_del I.hok hd) (fun b o e=>ofB b o e) (fun b o e hb n=>inB b o e (by intro z; subst z; rw [hd] at n; cases n) hb) b2 (fun b o e=>by
  by_cases hb : b ∈ frs (envOfC qual scope s₀.heap.objs.size f cd :: outer)
  ·exact .inl hb
  ·by_cases hba : b = a
   ·subst hba
    obtain ⟨ox,ws,e1,_⟩:=x.obj
    exact .inr (.inr ⟨ox,e1⟩)
   ·exact .inr (.inl ⟨o,inB b o e hba hb⟩)) x.stays y
 have nL : ∀ b o,s₀.heap.get? b = some o->b ∉ frs outer->b ∉ frs (envOfC qual scope s₀.heap.objs.size f cd :: outer):=fun b o e hb z=>by
  rw [frs_cons hfr] at z
  rcases List.mem_cons.mp z with z | z
  ·exact absurd (Heap.lt_size e) (by rw [z]; exact Nat.lt_irrefl _)
  ·exact hb z
 have nA : ∀ b o,s₀.heap.get? b = some o->b ≠ a:=fun b o e z=>by rw [z,n0] at e; cases e
 refine ⟨a,.ref C,d,B,del H a,rfl,J.os,J.bare,J.base,J.hok,x,del_same,fun b o e hb n=>?_,b2,fun b o e=>?_,q⟩
 ·exact inB b o (I.base.keep b o e n hb (by intro z; cases z)) (nA b o e) (nL b o e hb)
 ·obtain ⟨o',e'⟩:=I.base.there b o e (by intro z; cases z)
  by_cases hb : b ∈ frs outer
  ·exact .inl hb
  ·exact .inr ⟨o',inB b o' e' (nA b o e) (nL b o e hb)⟩
structure XRaise (K : PySem.W.Frag) (C fI : Addr) : Prop where
 obj : ∃ nm qn NN bs bm hd sn sub ab col dd k0 k1 k2 k3 k5,K.lookup C = some (excClassObj nm qn C NN bs bm hd sn sub ab col dd k0 k1 k2 k3 k5 "ValueError.__new__")/\PySem.W.tailIn K bmVE bm = true
 init : PySem.W.findIn K (.ref C) "__init__" = some (some (.ref fI))
 fn : PySem.W.typeIn K (.ref fI) = some (.type "function")
def tRaiseI (C : Addr) (sp : Sp) (E : XK) (t : TA) : TS:=fun _ σ H=>t σ H fun vs H1=>vs.length <= sizeLine/\∀ a,H1 a = none ->
 sp (.ref a :: vs) (upd H1 a (newO a C none)) (fun v H2=>v = .non/\∃ d,H2 a = some (newO a C d)/\E (.ref C) d (del H2 a)) E0
theorem ps_raiseI {x : Str} {C fI : Addr} {fd : FuncData} {ps : List Str} {sp : Sp} {k : Nat} {e : Expr} {es : List Expr} {t : TA} {np cpos pos : Pos} (hg : Gl (cxOf (CX1 P w) P w K mg base N qual scope f cd A outer s₀ H₀ E) x) (hm : mg x = some (.ref C)) (R : XRaise K C fI)
  (G : FnOk P w K mg base CX0 k fI fd ps sp) (hr : Room (k + 1) (cxOf (CX1 P w) P w K mg base N qual scope f cd A outer s₀ H₀ E).A) (hb : Binds K fd ps [])
  (ha : PA (cxOf (CX1 P w) P w K mg base N qual scope f cd A outer s₀ H₀ E) (e :: es) t) (hdb : (x == ("__debug__" : Str)) = false:=by decide)
  (he : starEach (e :: es) (cxOf (CX1 P w) P w K mg base N qual scope f cd A outer s₀ H₀ E).env = (false,eval e (cxOf (CX1 P w) P w K mg base N qual scope f cd A outer s₀ H₀ E).env) :: starEach es (cxOf (CX1 P w) P w K mg base N qual scope f cd A outer s₀ H₀ E).env:=by rfl)
  (hpl : (backTo cpos (starEach es (cxOf (CX1 P w) P w K mg base N qual scope f cd A outer s₀ H₀ E).env)).any (·.1) = false:=by rfl) :
  PS (cxOf (CX1 P w) P w K mg base N qual scope f cd A outer s₀ H₀ E) (.Raise (some (.Call (.Name x np) (e :: es) [] cpos)) none pos) (tRaiseI C sp E t):=by
 intro pins s σ H D I h
 obtain ⟨nm,qn,NN,bs,bm,hdd,sn,sub,ab,col,dd,k0,k1,k2,k3,k5,lC,ht⟩:=R.obj
 have hbase : bm.contains (.type "BaseException") = true:=(PySem.W.tail_of_in I.kIn ht).hasType (by decide)
 refine Raise_init (K:=K) (C:=C) (nm:=nm) (q:=qn) (N:=NN) (bs:=bs) (bm:=bm) (hdct:=hdd) (sn:=sn) (sub:=sub) (ab:=ab) (col:=col) (dd:=dd) (k0:=k0) (k1:=k1) (k2:=k2) (k3:=k3) (k5:=k5) (newId:="ValueError.__new__")
  PySem.F.excBase_ValueError (by decide : bmVE.contains (.type "ValueError") = true) PySem.F.excBase_ValueError hbase (I.ok.hd rfl) ?_ R.init R.fn (ld_glob I hg hm ⟨rfl,?_⟩ hdb)
 ·rw [he]
  show (false || (backTo cpos (starEach es _)).any (·.1)) = false
  rw [hpl]
  rfl
 ·have hp:=ha cpos pins s σ H _ I h
  rw [he] at hp ⊢
  refine Calls.evalArgs_plain (thn hp ?_)
  rintro us s2 ⟨vs,H1,I2,r,hz,q⟩
  refine ⟨rfl,by rw [<- r.length]; exact hz,I2.kIn _ _ lC,I2.kIn,PySem.W.tail_of_in I2.kIn ht,?_⟩
  have I3 : Inv (cxOf (CX1 P w) P w K mg base N qual scope f cd A outer s₀ H₀ E) pins σ (upd H1 (s2.heap.objs.size + 1) (newO (s2.heap.objs.size + 1) C none)) { s2 with heap:=excHeap s2.heap C us }:=by
   have J:=I2.kept (h':=s2.heap.push { cls:=.type "tuple",data:=.seq us.toArray }) (t':=s2.toks) fun b o e=>Heap.get?_push_of_some _ e
   refine J.laid (a:=s2.heap.objs.size + 1) (h':=excHeap s2.heap C us) (t':=s2.toks) (fun b o e=>Heap.get?_push_of_some _ e) (Nat.le_of_eq (Heap.size_push _ _)) (newO_ok ⟨s2.heap.objs.size,?_⟩)
   exact Heap.get?_push_at (by rw [Heap.size_push]) rfl
  have nA : H1 (s2.heap.objs.size + 1) = none:=I2.hok.fresh (Nat.le_succ _)
  have hq:=q _ nA
  have r2 : Vals (V.ref (s2.heap.objs.size + 1) :: vs) (Value.ref (s2.heap.objs.size + 1) :: us):=.cons rfl r
  have hl : ((Value.ref (s2.heap.objs.size + 1) :: us) ++ []).length = ps.length:=by
   rw [List.append_nil,<- r2.length]
   exact G.len _ _ _ _ hq
  have hbd:=hb { s2 with heap:=excHeap s2.heap C us } (Value.ref (s2.heap.objs.size + 1) :: us) I3.kIn hl
  rw [List.append_nil] at hbd
  refine wpAny_call (codeAny_mono (G.run _ (cxOf (CX1 P w) P w K mg base N qual scope f cd A outer s₀ H₀ E).stack _ _ ⟨Value.ref (s2.heap.objs.size + 1) :: us,[]⟩ (Value.ref (s2.heap.objs.size + 1) :: us) _ _ _ (hr.make C us []) (I3.env0.make C us []) hbd r2 hq) fun r s' hq'=>?_)
  cases r with
  | error e=>exact False.elim hq'
  | ok fl =>
   cases fl with
   | ret u =>
    obtain ⟨v,H4,I4,rv,ev,d,hd,q4⟩:=I3.after hq'
    subst ev
    have n0 : s₀.heap.get? (s2.heap.objs.size + 1) = none:=Heap.get?_none_of_le (Nat.le_trans I2.sz (Nat.le_succ _))
    obtain ⟨t,et⟩:=newO_get (I4.hok _ _ hd)
    exact ⟨rv,I4.kIn _ _ lC,⟨t,d,et⟩,leaves_any I4 hd n0 q4⟩
   | next=>exact False.elim hq'
   | brk=>exact False.elim hq'
   | cont=>exact False.elim hq'
end
section
variable {X : Cx}
def XDict (H : Hp) (d : Option Addr) : Prop:=d = none \/ ∃ dx fs,d = some dx/\H dx = some (xdO dx fs)
def tXFld (K : PySem.W.Frag) (ta : TE) (f : Str) : TE:=fun σ H Q=>ta σ H fun x H1=>∃ a C dx fs v,x = .ref a/\H1 a = some (excO a (.ref C) (some dx))/\H1 dx = some (xdO dx fs)/\ExcK K C/\XCls K C/\XNo K C f/\fs.lookup f = some v/\Q v H1
theorem pe_xfld {e : Expr} {f : Str} {pos : Pos} {ta : TE} (he : PE X e ta) (hb : attributeBase e f X.env (eval e X.env) = eval e X.env:=by rfl) : PE X (.Attribute e f pos) (tXFld X.K ta f):=by
 intro pins s σ H Q I h
 refine attr_of hb (thn (he pins s σ H _ I h) ?_)
 rintro u s1 ⟨x,H1,I1,rx,a,C,dx,fs,v,rfl,hH,hx,k,c,n,l,q⟩
 obtain rfl : u = Value.ref a:=rx
 obtain ⟨⟨ox,ws,e1,e2,e3,e4⟩,_,_⟩:=(show ObjOk X.prog X.w H1 s1.heap a (excO a (.ref C) (some dx)) from I1.hok a _ hH)
 obtain ⟨mA,hn,r⟩:=xdO_get (I1.hok dx _ hx)
 obtain ⟨od,ho,hl⟩:=lookIn_ns hn
 have hI : PySem.W.InstAt s1.heap a ox C (some od):=⟨e1,e2,by unfold PySem.W.notCls; rw [e4],by rw [e3]; exact ho⟩
 obtain ⟨cd,c1,c2,c3⟩:=c.cd
 have rv:=r f
 rw [l] at rv
 obtain ⟨u,hu,ru⟩:=rv.some_of
 have hf : PySem.W.findObj X.K C (some od) f = some (.value u):=by
  unfold PySem.W.findObj
  rw [c1,Option.bind_some,n,Option.bind_some]
  simp only [Option.bind_some,PySem.W.ownOf,c3,hl f,hu,if_true]
 exact exc_attr I1.kIn hI k.hm hf k.hga k.hgn ⟨handed_of ru,⟨v,H1,I1.tok _,ru,q⟩⟩
end
end L2
namespace L2
open PySem PySem.Spec PyProof.Rows
section
variable {κ : Type} [DecidableEq κ]
def valV (kvs : List (κ × V)) (k : κ) : Option V:=(kvs.find? fun kv=>decide (kv.1 = k)).map (·.2)
def putK (kvs : List (κ × V)) (k : κ) (v : V) : List (κ × V) :=
 if (kvs.any fun kv=>decide (kv.1 = k)) = true then kvs.map (fun kv=>if kv.1 = k then (kv.1,v) else kv) else kvs ++ [(k,v)]
def dropK (kvs : List (κ × V)) (k : κ) : List (κ × V):=kvs.filter fun kv=>decide (kv.1 ≠ k)
theorem valV_pos {p : κ × V} {r : List (κ × V)} {k : κ} (e : p.1 = k) : valV (p :: r) k = some p.2:=by simp [valV,List.find?_cons,e]
theorem valV_neg {p : κ × V} {r : List (κ × V)} {k : κ} (e : ¬ p.1 = k) : valV (p :: r) k = valV r k:=by simp [valV,List.find?_cons,e]
theorem valV_any (k : κ) : ∀ kvs : List (κ × V),(kvs.any fun kv=>decide (kv.1 = k)) = (valV kvs k).isSome
 | []=>rfl
 | p :: r=>by
  rw [List.any_cons]
  by_cases e : p.1 = k
  ·simp only [valV_pos e,decide_eq_true e,Bool.true_or,Option.isSome_some]
  ·rw [valV_neg e,decide_eq_false e,Bool.false_or]; exact valV_any k r
theorem valV_map (k j : κ) (y : V) : ∀ kvs : List (κ × V),valV (kvs.map fun kv=>if kv.1 = k then (kv.1,y) else kv) j = (valV kvs j).map fun x=>if j = k then y else x
 | []=>rfl
 | p :: r=>by
  have ih:=valV_map k j y r
  rw [List.map_cons]
  by_cases h : p.1 = k
  ·rw [if_pos h]
   by_cases e : p.1 = j
   ·rw [valV_pos (p:=(p.1,y)) e,valV_pos e,Option.map_some,if_pos (e.symm.trans h)]
   ·rw [valV_neg (p:=(p.1,y)) e,valV_neg e,ih]
  ·rw [if_neg h]
   by_cases e : p.1 = j
   ·rw [valV_pos (p:=p) e,valV_pos e,Option.map_some,if_neg (fun z=>h (e.trans z))]
   ·rw [valV_neg (p:=p) e,valV_neg e,ih]
theorem valV_snoc (k j : κ) (y : V) : ∀ kvs : List (κ × V),valV kvs k = none->valV (kvs ++ [(k,y)]) j = if j = k then some y else valV kvs j
 | [],_=>by
  by_cases e : k = j
  ·rw [if_pos e.symm]; exact valV_pos (p:=(k,y)) e
  ·rw [if_neg (fun z=>e z.symm)]; exact valV_neg (p:=(k,y)) e
 | p :: r,hn=>by
  rw [List.cons_append]
  have hk : ¬ p.1 = k:=fun z=>by rw [valV_pos z] at hn; cases hn
  rw [valV_neg hk] at hn
  have ih:=valV_snoc k j y r hn
  by_cases e : p.1 = j
  ·rw [valV_pos e,valV_pos e,if_neg (fun z=>hk (e.trans z))]
  ·rw [valV_neg e,valV_neg e,ih]
theorem valV_put (kvs : List (κ × V)) (k j : κ) (y : V) : valV (putK kvs k y) j = if j = k then some y else valV kvs j:=by
 unfold putK
 by_cases a : (kvs.any fun kv=>decide (kv.1 = k)) = true
 ·rw [if_pos a,valV_map]
  rw [valV_any] at a
  by_cases e : j = k
  ·obtain ⟨x,hx⟩:=Option.isSome_iff_exists.mp a
   rw [if_pos e,e,hx,Option.map_some,if_pos rfl]
  ·rw [if_neg e]
   cases valV kvs j with
   | none=>rfl
   | some x=>rw [Option.map_some,if_neg e]
 ·rw [if_neg a]
  refine valV_snoc k j y kvs ?_
  rw [valV_any] at a
  cases q : valV kvs k with
  | none=>rfl
  | some x=>rw [q] at a; exact (a rfl).elim
theorem length_putK (kvs : List (κ × V)) (k : κ) (v : V) : (putK kvs k v).length <= kvs.length + 1:=by
 unfold putK
 split
 ·rw [List.length_map]; omega
 ·rw [List.length_append,List.length_cons,List.length_nil]; omega
theorem putK_new {kvs : List (κ × V)} {k : κ} (v : V) (h : valV kvs k = none) : putK kvs k v = kvs ++ [(k,v)]:=by
 unfold putK
 rw [valV_any,h]
 exact if_neg (by decide)
theorem RelO.isSome_eq {o : Option V} {u : Option Value} (r : RelO o u) : o.isSome = u.isSome:=by
 cases o with
 | none=>cases u with
  | none=>rfl
  | some _=>exact (show False from r).elim
 | some _=>cases u with
  | none=>exact (show False from r).elim
  | some _=>rfl
theorem RelO.getD {o : Option V} {u : Option Value} {d : V} {d' : Value} (r : RelO o u) (rd : RelV d d') : RelV (o.getD d) (u.getD d'):=by
 cases o with
 | none=>cases u with
  | none=>exact rd
  | some _=>exact (show False from r).elim
 | some _=>cases u with
  | none=>exact (show False from r).elim
  | some _=>exact r
theorem KV.val {kvs : List (κ × V)} {vs : List (κ × Value)} (r : KV kvs vs) (k : κ) : RelO (valV kvs k) (valueAt vs k):=by
 unfold KV at r
 induction r with
 | nil=>exact True.intro
 | @cons p q ps qs h t ih =>
  obtain ⟨h1,h2⟩:=h
  by_cases e : p.1 = k
  ·have e' : q.1 = k:=h1.symm.trans e
   have b : valueAt (q :: qs) k = some q.2:=by simp [valueAt,List.find?_cons,e']
   rw [valV_pos e,b]; exact h2
  ·have e' : ¬ q.1 = k:=fun z=>e (h1.trans z)
   have b : valueAt (q :: qs) k = valueAt qs k:=by simp [valueAt,List.find?_cons,e']
   rw [valV_neg e,b]; exact ih
theorem KV.any {kvs : List (κ × V)} {vs : List (κ × Value)} (r : KV kvs vs) (k : κ) : (kvs.any fun kv=>decide (kv.1 = k)) = vs.any fun kv=>decide (kv.1 = k):=by
 unfold KV at r
 induction r with
 | nil=>rfl
 | cons h t ih=>rw [List.any_cons,List.any_cons,ih,h.1]
theorem KV.repl {kvs : List (κ × V)} {vs : List (κ × Value)} (r : KV kvs vs) (k : κ) {y : V} {u : Value} (ry : RelV y u) :
  KV (kvs.map fun kv=>if kv.1 = k then (kv.1,y) else kv) (vs.map fun kv=>if kv.1 = k then (kv.1,u) else kv):=by
 unfold KV at r ⊢
 induction r with
 | nil=>exact .nil
 | @cons p q ps qs h t ih =>
  rw [List.map_cons,List.map_cons]
  refine .cons ?_ ih
  obtain ⟨h1,h2⟩:=h
  by_cases e : p.1 = k
  ·rw [if_pos e,if_pos (h1.symm.trans e)]; exact ⟨h1,ry⟩
  ·rw [if_neg e,if_neg (fun z=>e (h1.trans z))]; exact ⟨h1,h2⟩
theorem KV.put {kvs : List (κ × V)} {vs : List (κ × Value)} (r : KV kvs vs) (k : κ) {y : V} {u : Value} (ry : RelV y u) : KV (putK kvs k y) (stored vs k u):=by
 unfold putK stored
 rw [r.any k]
 by_cases e : (vs.any fun kv=>decide (kv.1 = k)) = true
 ·rw [if_pos e,if_pos e]; exact r.repl k ry
 ·rw [if_neg e,if_neg e]; exact Paired.snoc r ⟨rfl,ry⟩
theorem KV.length {kvs : List (κ × V)} {vs : List (κ × Value)} (r : KV kvs vs) : kvs.length = vs.length:=Paired.length r
end
theorem kV_is {P : Program} {w : World} {k : Key} {u : Value} (r : RelV (kV k) u) : (mixKind P w).is k u = true:=by
 cases k with
 | inl i=>obtain ⟨t,e⟩:=(show ∃ t,u = Value.int i t from r); subst e; exact mixKind_int P w i t
 | inr x=>obtain ⟨t,e⟩:=(show ∃ t,u = Value.str x t from r); subst e; exact mixKind_str P w x t
theorem items_are {P : Program} {w : World} : ∀ {ks : List Key} {us : List Value},Vals (ks.map kV) us->ItemsAre (mixKind P w) ks us
 | [],_,r=>by rw [List.map_nil] at r; cases r; exact .nil
 | k :: ks,_,r=>by
  rw [List.map_cons] at r
  cases r with
  | cons h t=>exact .cons (kV_is h) (items_are t)
abbrev KT (H : Hp) : List (List Key × V)->List (List Key × Addr × Value)->Prop:=Paired fun p q=>p.1 = q.1/\H q.2.1 = some (.tup (p.1.map kV))/\RelV p.2 q.2.2
theorem KT.val {H : Hp} {kvs : List (List Key × V)} {xs : List (List Key × Addr × Value)} (r : KT H kvs xs) (k : List Key) : RelO (valV kvs k) ((atKey xs k).map (·.2)):=by
 induction r with
 | nil=>exact True.intro
 | @cons p q ps qs h t ih =>
  obtain ⟨h1,_,h2⟩:=h
  by_cases e : p.1 = k
  ·have e' : q.1 = k:=h1.symm.trans e
   have b : atKey (q :: qs) k = some q.2:=by simp [atKey,List.find?_cons,e']
   rw [valV_pos e,b]; exact h2
  ·have e' : ¬ q.1 = k:=fun z=>e (h1.trans z)
   have b : atKey (q :: qs) k = atKey qs k:=by simp [atKey,List.find?_cons,e']
   rw [valV_neg e,b]; exact ih
theorem KT.repl {H : Hp} {kvs : List (List Key × V)} {xs : List (List Key × Addr × Value)} (r : KT H kvs xs) (k : List Key) {y : V} {u : Value} (ry : RelV y u) :
  KT H (kvs.map fun kv=>if kv.1 = k then (kv.1,y) else kv) (xs.map (putAt k u)):=by
 induction r with
 | nil=>exact .nil
 | @cons p q ps qs h t ih =>
  rw [List.map_cons,List.map_cons]
  refine .cons ?_ ih
  obtain ⟨h1,h2,h3⟩:=h
  unfold putAt
  by_cases e : p.1 = k
  ·rw [if_pos e,if_pos (h1.symm.trans e)]; exact ⟨h1,h2,ry⟩
  ·rw [if_neg e,if_neg (fun z=>e (h1.trans z))]; exact ⟨h1,h2,h3⟩
theorem KT.put {H : Hp} {kvs : List (List Key × V)} {xs : List (List Key × Addr × Value)} (r : KT H kvs xs) (k : List Key) {b : Addr} {y : V} {u : Value} (hb : H b = some (.tup (k.map kV))) (ry : RelV y u) :
  KT H (putK kvs k y) (storedH xs k b u):=by
 have e : (kvs.any fun kv=>decide (kv.1 = k)) = (atKey xs k).isSome:=by
  rw [valV_any,(r.val k).isSome_eq,Option.isSome_map]
 unfold putK storedH
 rw [e]
 by_cases q : (atKey xs k).isSome = true
 ·rw [if_pos q,if_pos q]; exact r.repl k ry
 ·rw [if_neg q,if_neg q]; exact Paired.snoc r ⟨rfl,hb,ry⟩
theorem KT.keeps {H H' : Hp} {kvs : List (List Key × V)} {xs : List (List Key × Addr × Value)} (r : KT H kvs xs) (ht : ∀ b ys,H b = some (.tup ys)->H' b = some (.tup ys)) : KT H' kvs xs :=
 Paired.mapP r fun _ _ z=>⟨z.1,ht _ _ z.2.1,z.2.2⟩
section
variable {P : Program} {w : World} {H : Hp} {h : Heap} {a : Addr}
theorem rd_of {u : HO} (ok : HOk P w H h) (e : Rd H a u) : ObjOk P w H h a u:=e.ok ok
theorem dk_rd {kvs : List (Key × V)} (ok : HOk P w H h) (e : Rd H a (.dK kvs)) : kvs.length <= sizeLine/\(a == sysModules) = false/\∃ vs,KV kvs vs/\h.DictOf (mixKind P w) a vs :=
 show ObjOk P w H h a (.dK kvs) from rd_of ok e
theorem dk_of {kvs : List (Key × V)} (ok : HOk P w H h) (e : H a = some (.dK kvs)) : kvs.length <= sizeLine/\(a == sysModules) = false/\∃ vs,KV kvs vs/\h.DictOf (mixKind P w) a vs:=dk_rd ok (.inl e)
theorem key_of {ks : List Key} (ok : HOk P w H h) (e : H a = some (.tup (ks.map kV))) : (tupleKind (mixKind P w)).is h ks a:=by
 obtain ⟨_,its,r,o,h1,h2,n,h3⟩:=(show ObjOk P w H h a (.tup (ks.map kV)) from ok a _ e)
 exact ⟨o,its.toArray,n,h1,h2,h3,by simpa using items_are r⟩
theorem dt_rd {kvs : List (List Key × V)} (ok : HOk P w H h) (e : Rd H a (.dT kvs)) : kvs.length <= sizeLine/\(a == sysModules) = false /\
  ∃ xs,KT H kvs xs/\h.DictOfH (tupleKind (mixKind P w)) a xs:=by
 obtain ⟨z,y,xs,r,o,es,ep,h1,h2,h3,h4,h5⟩:=(show ObjOk P w H h a (.dT kvs) from rd_of ok e)
 refine ⟨z,y,xs,r,o,es,ep,h1,h2,h3,h4,fun x hx=>?_,h5⟩
 have all : ∀ {l : List (List Key × V)} {m : List (List Key × Addr × Value)},KT H l m->∀ x ∈ m,(tupleKind (mixKind P w)).is h x.1 x.2.1:=by
  intro l m q
  induction q with
  | nil=>intro x hx; exact nomatch hx
  | @cons p q ps qs hq t ih =>
   intro x hx
   rcases List.mem_cons.mp hx with e | hx
   ·subst e
    exact key_of ok (by rw [<- hq.1]; exact hq.2.1)
   ·exact ih x hx
 exact all r x hx
theorem dt_of {kvs : List (List Key × V)} (ok : HOk P w H h) (e : H a = some (.dT kvs)) : kvs.length <= sizeLine/\(a == sysModules) = false /\
  ∃ xs,KT H kvs xs/\h.DictOfH (tupleKind (mixKind P w)) a xs:=dt_rd ok (.inl e)
end
def DGet (H : Hp) (a : Addr) (y : V) (r : Option V) : Prop :=
 (∃ kvs k,Rd H a (.dK kvs)/\y = kV k/\r = valV kvs k) \/ ∃ kvs k b,Rd H a (.dT kvs)/\y = .ref b/\H b = some (.tup (k.map kV))/\r = valV kvs k
def DPut (H : Hp) (a : Addr) (y v : V) (H' : Hp) : Prop :=
 (∃ kvs k,H a = some (.dK kvs)/\y = kV k/\kvs.length < sizeLine/\H' = upd H a (.dK (putK kvs k v))) \/
 ∃ kvs k b,H a = some (.dT kvs)/\y = .ref b/\H b = some (.tup (k.map kV))/\kvs.length < sizeLine/\H' = upd H a (.dT (putK kvs k v))
theorem DGet.k {H : Hp} {a : Addr} {kvs : List (Key × V)} {k : Key} (e : H a = some (.dK kvs)) : DGet H a (kV k) (valV kvs k):=.inl ⟨kvs,k,.inl e,rfl,rfl⟩
section
variable {X : Cx} {pins : List (Addr × Obj)} {σ : St} {H : Hp} {s : Shared} {a : Addr} {y v : V} {u r : Value} {o : Option V} {A : Around} {E : Value->Shared->Prop}
theorem Inv.big (I : Inv X pins σ H s) : sysModules < s.heap.objs.size:=by
 have h : mainGlobals < s.heap.objs.size:=(I.mod.glob.keeps I.bk).lt
 exact Nat.lt_trans (by decide) h
theorem d_getItem {Q : Value->Shared->Prop} (hu : A.units + 1 < cLine) (I : Inv X pins σ H s) (g : DGet H a y (some v)) (ry : RelV y u) (h : ∀ w' s',Inv X pins σ H s'->RelV v w'->Q w' s') :
  wpAny (model X.prog X.w) A (getItem (.ref a) u) Q E s:=by
 rcases g with ⟨kvs,k,e,ey,l⟩ | ⟨kvs,k,b,e,ey,eb,l⟩
 ·subst ey
  obtain ⟨z,hd,vs,rel,dd⟩:=dk_rd I.hok e
  obtain ⟨w',hw,rw'⟩:=RelO.some_of (v:=v) (o:=valueAt vs k) (by rw [l]; exact rel.val k)
  exact wpAny_getItem_of (kV_is ry) dd.mapOf hw (h w' _ (I.tok _) rw')
 ·subst ey
  cases (show u = Value.ref b from ry)
  obtain ⟨z,hd,xs,rel,dd⟩:=dt_rd I.hok e
  obtain ⟨w',hw,rw'⟩:=RelO.some_of (v:=v) (o:=(atKey xs k).map (·.2)) (by rw [l]; exact rel.val k)
  obtain ⟨p,hp,hp2⟩:=Option.map_eq_some_iff.mp hw
  refine wpAny_getItem_heap (tupleKind_room_in1 hu) (key_of I.hok eb) dd hp ?_
  rw [hp2]
  exact h w' _ (I.tok _) rw'
theorem d_notIn {Q : Value->Shared->Prop} (hu : A.units + 1 < cLine) (I : Inv X pins σ H s) (g : DGet H a y o) (ry : RelV y u) (h : ∀ s',Inv X pins σ H s'->Q (.bool (!o.isSome)) s') :
  wpAny (model X.prog X.w) A (compareOp .NotIn u (.ref a)) Q E s:=by
 rcases g with ⟨kvs,k,e,ey,l⟩ | ⟨kvs,k,b,e,ey,eb,l⟩
 ·subst ey
  obtain ⟨z,hd,vs,rel,dd⟩:=dk_rd I.hok e
  refine wpAny_notIn_of (kV_is ry) hd dd.mapOf ?_
  rw [<- (rel.val k).isSome_eq,<- l]
  exact h _ (I.tok _)
 ·subst ey
  cases (show u = Value.ref b from ry)
  obtain ⟨z,hd,xs,rel,dd⟩:=dt_rd I.hok e
  refine wpAny_notIn_heap (tupleKind_room_in1 hu) (key_of I.hok eb) hd dd ?_
  have q:=(rel.val k).isSome_eq
  rw [Option.isSome_map] at q
  rw [<- q,<- l]
  exact h _ (I.tok _)
theorem d_write {h' : Heap} {t' : Nat} {ob : HO} (I : Inv X pins σ H s) (mu : Mut (H a)) (hs : Heap.SameBut a s.heap h') (he : ∃ q,h'.get? a = some q) (new : ObjOk X.prog X.w (upd H a ob) h' a ob) :
  Inv X pins σ (upd H a ob) { s with heap:=h',toks:=t' } :=
 I.write (x:=a) (e:=a) mu (.inl rfl) (fun b q hb z=>(hs.2 b hb).trans z) he new
theorem dk_new {P : Program} {w : World} {H' : Hp} {h' : Heap} {kvs : List (Key × V)} {vs : List (Key × Value)} (z : kvs.length <= sizeLine) (hd : (a == sysModules) = false) (rel : KV kvs vs) (dd : h'.DictOf (mixKind P w) a vs) :
  ObjOk P w H' h' a (.dK kvs):=⟨z,hd,vs,rel,dd⟩
theorem d_setItem {H' : Hp} {Q : Unit->Shared->Prop} (hu : A.units + 1 < cLine) (I : Inv X pins σ H s) (g : DPut H a y v H') (ry : RelV y u) (rv : RelV v r) (h : ∀ s',Inv X pins σ H' s'->Q () s') :
  wpAny (model X.prog X.w) A (setItem (.ref a) u r) Q E s:=by
 rcases g with ⟨kvs,k,e,ey,l,eH⟩ | ⟨kvs,k,b,e,ey,eb,l,eH⟩
 ·subst ey eH
  obtain ⟨z,hd,vs,rel,dd⟩:=dk_of I.hok e
  have hz : vs.length <= sizeLine:=by rw [<- rel.length]; exact z
  have hl : (putK kvs k v).length <= sizeLine:=by have:=length_putK kvs k v; omega
  refine wpAny_setItem_pairs (hsz:=hz) (kV_is ry) dd fun h' dd' hs=>h _ ?_
  have he : ∃ q,h'.get? a = some q:=let ⟨q,_,_,hq,_⟩:=dd'; ⟨q,hq⟩
  exact d_write I (by rw [e]; exact True.intro) hs he (dk_new hl hd (rel.put k rv) dd')
 ·subst ey eH
  cases (show u = Value.ref b from ry)
  obtain ⟨z,hd,xs,rel,dd⟩:=dt_of I.hok e
  have hz : xs.length <= sizeLine:=by rw [<- Paired.length rel]; exact z
  have hl : (putK kvs k v).length <= sizeLine:=by have:=length_putK kvs k v; omega
  refine wpAny_setItem_heap (hsz:=hz) (tupleKind_room_in1 hu) (key_of I.hok eb) dd fun h' dd' hs=>h _ ?_
  obtain ⟨q,es,ep,hq,h2,h3,h4,_,h5⟩:=dd'
  refine d_write I (by rw [e]; exact True.intro) hs ⟨q,hq⟩ ⟨hl,hd,_,(rel.put k eb rv).keeps fun c ys ec=>?_,q,es,ep,hq,h2,h3,h4,h5⟩
  rw [upd_ne (ne_of ec e (fun z=>nomatch z))]
  exact ec
end
section
variable {X : Cx} {pins : List (Addr × Obj)} {σ : St} {H : Hp} {s : Shared} {a : Addr} {kvs : List (Key × V)} {k : Key} {u : Value} {A : Around} {E : Value->Shared->Prop}
end
def NoSl (i : Expr) : Prop:=∀ ov iv,subscripted i false ov iv = operate [ov,iv] (getItem ov iv)
theorem subD_of {prog : Program} {w : World} {A : Around} {E : Value->Shared->Prop} {s : Shared} {env : Env} {value slice : Expr} {pos : Pos} {T id : String} {Q : Value->Shared->Prop}
  (hl : typeLookup (.type T) "__getitem__" = pure (some (.builtin id))) (hs : NoSl slice)
  (h : wpAny (model prog w) A (eval value env) (fun o s₁=>wpAny (model prog w) A (eval slice env) (fun i s₂=>s₂.TypeIs o T/\wpAny (model prog w) A (getItem o i) Q E s₂) E s₁) E s) :
  wpAny (model prog w) A (eval (.Subscript value slice pos) env) Q E s:=by
 refine Subscript_ (wpAny_mono h (fun o s₁ h₁=>wpAny_mono h₁ (fun i s₂ h₂=>?_) fun _ _ x=>x) fun _ _ x=>x)
 obtain ⟨hT,h₂⟩:=h₂
 unfold subscriptTail
 refine wpAny_bind ?_
 rw [getitemInPython_of_ne hT.not_modules]
 refine wpAny_bind (wpAny_specialOf hT hl ?_)
 have fin : wpAny (model prog w) A (subscripted slice false o i) (fun r s₃=>wpAny (model prog w) A (letTemporaryGo value o r >>= fun _=>pure r) Q E s₃) E s₂:=by
  rw [hs o i]
  exact wpAny_operating (wpAny_mono h₂ (fun r s₃ h₃=>wpAny_bind (wpAny_letTemporaryGo (wpAny_pure h₃))) fun _ _ x=>x)
 first
  | exact wpAny_pure (wpAny_bind fin)
  | exact wpAny_bind (wpAny_pure (wpAny_bind fin))
  | exact wpAny_bind fin
theorem dict_typeIs {X : Cx} {pins : List (Addr × Obj)} {σ : St} {H : Hp} {s : Shared} {a : Addr} {y : V} {o : Option V} (I : Inv X pins σ H s) (g : DGet H a y o) : s.TypeIs (.ref a) "dict":=by
 rcases g with ⟨kvs,k,e,_,_⟩ | ⟨kvs,k,b,e,_,_,_⟩
 ·obtain ⟨_,_,vs,_,dd⟩:=dk_rd I.hok e
  exact dd.typeIs
 ·obtain ⟨_,_,xs,_,dd⟩:=dt_rd I.hok e
  exact dd.typeIs
def tDGet (td ty : TE) : TE:=fun σ H Q=>td σ H fun x H1=>ty σ H1 fun y H2=>∃ a v,x = .ref a/\DGet H2 a y (some v)/\Q v H2
def tDIn (ty td : TE) : TE:=fun σ H Q=>ty σ H fun y H1=>td σ H1 fun x H2=>∃ a o,x = .ref a/\DGet H2 a y o/\Q (.bl o.isSome) H2
def tDNotIn (ty td : TE) : TE:=fun σ H Q=>ty σ H fun y H1=>td σ H1 fun x H2=>∃ a o,x = .ref a/\DGet H2 a y o/\Q (.bl (!o.isSome)) H2
def sDPut (td ty tv : TE) : TS:=fun D σ H=>tv σ H fun v H1=>td σ H1 fun x H2=>ty σ H2 fun y H3=>∃ a H4,x = .ref a/\DPut H3 a y v H4/\D.nx σ H4
def sDAug (td ty tv : TE) (rd : V->V->Hp->VK->Prop) : TS:=fun D σ H=>td σ H fun x H1=>ty σ H1 fun y H2=>∃ a v,x = .ref a/\DGet H2 a y (some v) /\
 tv σ H2 fun y2 H3=>rd v y2 H3 fun z H4=>∃ H5,DPut H4 a y z H5/\D.nx σ H5
def sDDel (td ty : TE) : TS:=fun D σ H=>td σ H fun x H1=>ty σ H1 fun y H2=>∃ a kvs k,x = .ref a/\H2 a = some (.dK kvs)/\y = kV k/\(valV kvs k).isSome = true/\D.nx σ (upd H2 a (.dK (dropK kvs k)))
section
variable {X : Cx} {o i e value : Expr} {pos pos' tpos : Pos} {td ty tv : TE}
theorem pe_dget (hu : X.A.units + 1 < cLine) (ho : PE X o td) (hi : PE X i ty) (hs : NoSl i) : PE X (.Subscript o i pos) (tDGet td ty):=by
 intro pins s σ H Q I h
 refine subD_of PySem.F.slot_dict_getitem.lookup hs (thn (ho pins s σ H _ I h) fun u s1 ⟨x,H1,I1,rx,q1⟩=>thn (hi pins s1 σ H1 _ I1 q1) fun iv s2 ⟨y,H2,I2,ry,a,v,ex,g,q2⟩=>?_)
 subst ex
 obtain rfl : u = Value.ref a:=rx
 exact ⟨dict_typeIs I2 g,d_getItem hu I2 g ry fun w' s3 I3 rw'=>⟨v,H2,I3,rw',q2⟩⟩
theorem pc_dnotin (hu : X.A.units + 1 < cLine) (hi : PE X i ty) (ho : PE X o td) : PC X .NotIn i o (tDNotIn ty td):=by
 intro pins s σ H Q I h
 refine thn (hi pins s σ H _ I h) fun iv s1 ⟨y,H1,I1,ry,q1⟩=>thn (ho pins s1 σ H1 _ I1 q1) fun u s2 ⟨x,H2,I2,rx,a,ov,ex,g,q2⟩=>?_
 subst ex
 obtain rfl : u = Value.ref a:=rx
 exact d_notIn hu I2 g ry fun s3 I3=>⟨.bl (!ov.isSome),H2,I3,rfl,q2⟩
theorem ps_dput (hu : X.A.units + 1 < cLine) (ho : PE X o td) (hi : PE X i ty) (hv : PE X value tv) (hs : swapsWith value (some (.Subscript o i pos')) pos.line X.env = pure false) :
  PS X (.Assign [.Subscript o i pos'] value pos) (sDPut td ty tv):=by
 intro pins s σ H D I h
 refine wpAny_Assign_Subscript (thn (hv pins s σ H _ I h) fun r s1 ⟨v,H1,I1,rv,q1⟩=>thn (ho pins s1 σ H1 _ I1 q1) fun u s2 ⟨x,H2,I2,rx,q2⟩=>thn (hi pins s2 σ H2 _ I2 q2) fun iv s3 ⟨y,H3,I3,ry,a,H4,ex,g,q3⟩=>?_) hs
 subst ex
 obtain rfl : u = Value.ref a:=rx
 exact d_setItem hu I3 g ry rv fun s4 I4=>⟨σ,H4,I4,q3⟩
end
theorem dk_empty {P : Program} {w : World} {H : Hp} (h : Heap) (hb : sysModules < h.objs.size) : ObjOk P w H (h.push { cls:=.type "dict",data:=.dict #[] }) h.objs.size (.dK []) :=
 ⟨Nat.zero_le _,beq_eq_false_iff_ne.mpr (Ne.symm (Nat.ne_of_lt hb)),[],.nil,Heap.DictOf.new h⟩
def tDNewK : TE:=fun _ H Q=>∀ p,H p = none->Q (.ref p) (upd H p (.dK []))
def tDNewT : TE:=fun _ H Q=>∀ p,H p = none->Q (.ref p) (upd H p (.dT []))
section
variable {X : Cx} {pos : Pos}
theorem pe_dnewK : PE X (.Dict [] [] pos) tDNewK:=fun pins s σ H Q I h =>
 wpAny_Dict_empty ⟨.ref s.heap.objs.size,_,I.laid (a:=s.heap.objs.size) (o:=.dK []) (t':=s.toks) (fun _ _ q=>Heap.get?_push_of_some _ q) (Nat.le_refl _) (dk_empty s.heap I.big),rfl,h _ (I.hok.fresh (Nat.le_refl _))⟩
end
def tPairs : List (TE × TE)->St->Hp->(List (V × V)->Hp->Prop)->Prop
 | [],_,H,Q=>Q [] H
 | (tk,tv) :: r,σ,H,Q=>tk σ H fun x H1=>tv σ H1 fun y H2=>tPairs r σ H2 fun ps H3=>Q ((x,y) :: ps) H3
abbrev VV : List (V × V)->List (Value × Value)->Prop:=Paired fun p q=>RelV p.1 q.1/\RelV p.2 q.2
def PPs (X : Cx) (pos : Pos) (keys : List (Option Expr)) (values : List Expr) (trs : List (TE × TE)) : Prop :=
 ∀ (pins : List (Addr × Obj)) (s : Shared) (σ : St) (H : Hp) (Q : List (V × V)->Hp->Prop),Inv X pins σ H s->tPairs trs σ H Q ->
  wpAny (model X.prog X.w) X.A (evalPairs (pairTrees keys values X.env pos)) (fun vs s'=>∃ ps H',Inv X pins σ H' s'/\VV ps vs/\Q ps H') X.xe s
def mergeK (kvs more : List (Key × V)) : List (Key × V):=more.foldl (fun acc kv=>putK acc kv.1 kv.2) kvs
def tDisp (trs : List (TE × TE)) : TE:=fun σ H Q=>∀ p,H p = none->tPairs trs σ (upd H p (.dK [])) fun ps H2=>H2 p = some (.dK [])/\∃ kvs : List (Key × V),ps = kvs.map (fun kv=>(kV kv.1,kv.2))/\kvs.length <= 15/\Q (.ref p) (upd H2 p (.dK (mergeK [] kvs)))
structure M1 (X : Cx) (o : Expr) (m : Str) (apos : Pos) (e : Expr) (cpos : Pos) : Prop where
 base : attributeBase o m X.env (eval o X.env) = eval o X.env
 few : ((backTo cpos (starEach [e] X.env)).all (fun x=>!x.1) && (backToKw cpos (keywordEach [] X.env)).all (fun x=>x.1.isSome)
  && decide (([e] : List Expr).length + ([] : List Keyword).length + (if ([] : List Keyword).isEmpty then 0 else 1) < 30)) = true
 line : (apos.endLine == cpos.line) = true
 trees : backTo cpos (starEach [e] X.env) = [(false,eval e X.env)]
structure M2 (X : Cx) (o : Expr) (m : Str) (apos : Pos) (e f : Expr) (cpos : Pos) : Prop where
 base : attributeBase o m X.env (eval o X.env) = eval o X.env
 few : ((backTo cpos (starEach [e,f] X.env)).all (fun x=>!x.1) && (backToKw cpos (keywordEach [] X.env)).all (fun x=>x.1.isSome)
  && decide (([e,f] : List Expr).length + ([] : List Keyword).length + (if ([] : List Keyword).isEmpty then 0 else 1) < 30)) = true
 line : (apos.endLine == cpos.line) = true
 trees : backTo cpos (starEach [e,f] X.env) = [(false,eval e X.env),(false,eval f X.env)]
def IsD (H : Hp) (a : Addr) : Prop:=(∃ kvs,Rd H a (.dK kvs)) \/ ∃ kvs,Rd H a (.dT kvs)
theorem isD_at {X : Cx} {pins : List (Addr × Obj)} {σ : St} {H : Hp} {s : Shared} {a : Addr} (I : Inv X pins σ H s) (d : IsD H a) :
  s.TypeIs (.ref a) "dict"/\(∀ b,Value.ref a = .ref b->∃ ob,s.heap.get? b = some ob/\ob.dict = none)/\(a == sysModules) = false:=by
 rcases d with ⟨kvs,e⟩ | ⟨kvs,e⟩
 ·obtain ⟨_,hd,vs,_,dd⟩:=dk_rd I.hok e
  refine ⟨dd.typeIs,fun b q=>?_,hd⟩
  cases q
  obtain ⟨ob,_,_,h1,h2,_⟩:=dd
  exact ⟨ob,h1,h2.2.1⟩
 ·obtain ⟨_,hd,xs,_,dd⟩:=dt_rd I.hok e
  refine ⟨dd.typeIs,fun b q=>?_,hd⟩
  cases q
  obtain ⟨ob,_,_,h1,h2,_⟩:=dd
  exact ⟨ob,h1,h2.2.1⟩
section
variable {X : Cx} {pins : List (Addr × Obj)} {σ : St} {H : Hp} {s : Shared} {a : Addr} {y d : V} {u r : Value} {o : Option V} {A : Around} {E : Value->Shared->Prop}
theorem d_get2 {Q : Value->Shared->Prop} (hu : A.units + 1 < cLine) (I : Inv X pins σ H s) (g : DGet H a y o) (ry : RelV y u) (rd : RelV d r) (h : ∀ w' s',Inv X pins σ H s'->RelV (o.getD d) w'->Q w' s') :
  wpAny (model X.prog X.w) A (call (.builtin "dict.get") [.ref a,u,r]) Q E s:=by
 rcases g with ⟨kvs,k,e,ey,l⟩ | ⟨kvs,k,b,e,ey,eb,l⟩
 ·subst ey
  obtain ⟨z,hd,vs,rel,dd⟩:=dk_rd I.hok e
  refine call_meetsIn PySem.F.slot_dict_get dd.typeIs PySem.F.entry_dict_get (PySem.F.args_dict_get_3 _ _ _) (meets_dict_get_default (mixKind X.prog X.w) a (kV_is ry) hd r) ⟨_,dd.mapOf,h _ _ (I.tok _) ?_⟩
  rw [l]
  exact (rel.val k).getD rd
 ·subst ey
  cases (show u = Value.ref b from ry)
  obtain ⟨z,hd,xs,rel,dd⟩:=dt_rd I.hok e
  refine call_meetsIn PySem.F.slot_dict_get dd.typeIs PySem.F.entry_dict_get (PySem.F.args_dict_get_3 _ _ _) (meetsH_dict_get_default (tupleKind (mixKind X.prog X.w)) a b hd r) ⟨tupleKind_room_in1 hu,k,xs,key_of I.hok eb,dd,h _ _ (I.tok _) ?_⟩
  rw [l]
  exact (rel.val k).getD rd
end
def tDGet1 (td ty : TE) : TE:=fun σ H Q=>td σ H fun x H1=>∃ a,x = .ref a/\IsD H1 a/\ty σ H1 fun y H2=>∃ o,DGet H2 a y o/\Q (o.getD .non) H2
def tDGet2 (td ty tx : TE) : TE:=fun σ H Q=>td σ H fun x H1=>∃ a,x = .ref a/\IsD H1 a/\ty σ H1 fun y H2=>tx σ H2 fun z H3=>∃ o,DGet H3 a y o/\Q (o.getD z) H3
def tDPop1 (td ty : TE) : TE:=fun σ H Q=>td σ H fun x H1=>∃ a,x = .ref a/\IsD H1 a/\ty σ H1 fun y H2=>∃ kvs k v,H2 a = some (.dK kvs)/\y = kV k/\valV kvs k = some v/\Q v (upd H2 a (.dK (dropK kvs k)))
def tDPop2 (td ty tx : TE) : TE:=fun σ H Q=>td σ H fun x H1=>∃ a,x = .ref a/\IsD H1 a/\ty σ H1 fun y H2=>tx σ H2 fun z H3=>∃ kvs k,H3 a = some (.dK kvs)/\y = kV k /\
 (∀ v,valV kvs k = some v->Q v (upd H3 a (.dK (dropK kvs k))))/\(valV kvs k = none->Q z H3)
section
variable {X : Cx} {o e f : Expr} {apos cpos : Pos} {td ty tx : TE}
theorem pe_dget2 (hu : X.A.units + 1 < cLine) (ho : PE X o td) (he : PE X e ty) (hf : PE X f tx) (m : M2 X o "get" apos e f cpos) : PE X (.Call (.Attribute o "get" apos) [e,f] [] cpos) (tDGet2 td ty tx):=by
 intro pins s σ H Q I h
 refine wpAny_Call_method m.base m.few m.line PySem.F.plainAttrs_dict PySem.F.slot_dict_get PySem.F.type_dict_get (thn (ho pins s σ H _ I h) fun u s1 ⟨x,H1,I1,rx,a,ex,d,q1⟩=>?_)
 subst ex
 obtain rfl : u = Value.ref a:=rx
 obtain ⟨t1,t2,_⟩:=isD_at I1 d
 refine ⟨t1,t2,?_⟩
 rw [m.trees]
 refine Calls.callWith_builtin rfl (Calls.evalArgs_plain (Calls.spliced_cons (thn (he pins s1 σ H1 _ I1 q1) fun iv s2 ⟨y,H2,I2,ry,q2⟩ =>
  Calls.spliced_cons (thn (hf pins s2 σ H2 _ I2 q2) fun fv s3 ⟨z,H3,I3,rz,ov,g,q3⟩=>Calls.spliced_nil ?_))))
 exact d_get2 hu I3 g ry rz fun w' s4 I4 rw'=>⟨_,H3,I4,rw',q3⟩
end
section
variable {X : Cx} {pins : List (Addr × Obj)} {σ : St} {H : Hp} {s : Shared} {a : Addr} {kvs : List (Key × V)} {A : Around} {E : Value->Shared->Prop}
end
section
variable {X : Cx} {pins : List (Addr × Obj)} {σ : St} {H : Hp} {s : Shared} {a : Addr} {y : V} {u : Value} {A : Around} {E : Value->Shared->Prop}
end
end L2
namespace L2
open PySem PySem.Spec PyProof.Rows
section
variable {X : Cx}
end
section
variable {κ : Type} [DecidableEq κ]
theorem valV_not {kvs : List (κ × V)} {k : κ} (h : valV kvs k = none) : ¬ k ∈ kvs.map (·.1):=by
 intro m
 obtain ⟨p,hp,e⟩:=List.mem_map.mp m
 have q : (kvs.any fun kv=>decide (kv.1 = k)) = true:=List.any_eq_true.mpr ⟨p,hp,decide_eq_true e⟩
 rw [valV_any,h] at q
 exact absurd q (by simp)
theorem nd_snoc : ∀ {l : List κ} {k : κ},l.Nodup->¬ k ∈ l->(l ++ [k]).Nodup
 | [],k,_,_=>by simp
 | a :: r,k,h,hk=>by
  obtain ⟨h1,h2⟩:=List.nodup_cons.mp h
  show (a :: (r ++ [k])).Nodup
  refine List.nodup_cons.mpr ⟨fun m=>?_,nd_snoc h2 fun m=>hk (List.mem_cons.mpr (Or.inr m))⟩
  rcases List.mem_append.mp m with q | q
  ·exact h1 q
  ·exact hk (List.mem_cons.mpr (Or.inl (List.mem_singleton.mp q).symm))
theorem nd_putK {kvs : List (κ × V)} {k : κ} (v : V) (hn : (kvs.map (·.1)).Nodup) (h : valV kvs k = none) : ((putK kvs k v).map (·.1)).Nodup:=by
 rw [putK_new v h,List.map_append]
 exact nd_snoc hn (valV_not h)
end
end L2
set_option maxHeartbeats 4000000
namespace L2
open PySem PySem.Spec PyProof.Rows
section
variable {X : Cx} {pins : List (Addr × Obj)} {σ : St} {H : Hp} {s : Shared} {h' : Heap}
theorem Inv.turnedL {t' : Nat} {ch : List Addr} (I : Inv X pins σ H s) (k : ∀ b o,b ∉ ch->s.heap.get? b = some o->h'.get? b = some o) (hf : ∀ b ∈ ch,FpOk X pins H b) : Inv X pins σ H { s with heap:=h',toks:=t' }:=by
 have nit : ∀ b u,H b = some u->b ∉ ch:=fun b u e z=>by rw [(hf b z).1] at e; cases e
 refine I.step (g':=s.gens) (d':=s.drawn) (ch:=ch) (fun b hb=>⟨(hf b hb).2.2.2.1,(hf b hb).2.1,(hf b hb).2.2.2.2.1,(hf b hb).2.2.2.2.2⟩) (fun b o _ _ hc e _=>k b o hc e) (fun b o _ _ hc e _=>⟨o.slots,k b o hc e⟩) (fun _ _ _ _ n=>n)
  (fun b o hc e=>⟨o,k b o hc e⟩) (fun _ _ e=>e) (fun _ _ _ e=>e) (fun b ps e=>⟨#[],by rw [e]; simp⟩) (fun m hm=>?_) (fun b u e=>?_) I.bare
 ·obtain ⟨o,es,ep,ho,r⟩:=hm
  exact ⟨o,es,ep,k _ o (fun z=>(hf _ z).2.1 rfl) ho,r⟩
 ·refine (I.hok b u e).stay (fun c v hc q=>k c v ?_ q) (fun _ q=>q) fun _ _ q=>q
  rcases hc with z | z
  ·rw [z]; exact nit b u e
  ·exact nit c _ z
end
def Ite (K : PySem.W.Frag) (a : Addr) : It :=
 ⟨fun i H=>∃ xs x,SqL K H a xs/\xs[i]? = some x,fun i H x H'=>∃ p v,x = .ref p/\H p = none/\H' = upd H p (.tup [.int (i : Int),v])/\∀ xs,SqL K H a xs->xs[i]? = some v,fun i H=>∃ xs,SqL K H a xs/\xs.length <= i⟩
theorem turn_enum {P : Program} {w : World} {K : PySem.W.Frag} {elts : List Expr} {x1} {pos : Pos} (a e it : Addr) (hne : e ≠ it) :
  Turn P w K (.Tuple elts x1 pos) (Ite K a) [e,it] e (fun i h=>∃ old,IsEnum h e it (i : Int) old/\h.IsListIter it a i) where
 mem:=by simp
 obj:=fun i h st b hb=>by
  obtain ⟨old,he,o,e1,c,d⟩:=st
  have hb' : b = e \/ b = it:=by simpa using hb
  rcases hb' with rfl | rfl
  ·exact ⟨_,he,fun v z=>by
    have z' : Data.fields _ = Data.cell v:=z
    cases z'⟩
  ·exact ⟨o,e1,fun v z=>by rw [d] at z; cases z⟩
 keep:=fun i h h' st k=>by
  obtain ⟨old,he,hi⟩:=st
  exact ⟨old,k e (by simp) _ he,hi.at fun o q=>k it (by simp) o q⟩
 item:=by
  intro X hP hw hK hc i pins s σ H E I hf st hg
  subst hP hw hK
  obtain ⟨xs,x,hq,hx⟩:=hg
  obtain ⟨old,he,hit⟩:=st
  obtain ⟨its,rv,p,hz⟩:=I.list hq
  obtain ⟨u,hu,ru⟩:=rv.get hx
  refine wpAny_pyNext_enum_item he hit p.isList (x:=u) (by simpa using hu) hne fun h1 eo hit1 ht hz1 hk1=>?_
  refine ⟨_,rfl,wpAny_letOwnedTupleGo_enum (s:={ s with heap:=h1,toks:=s.toks + 1 }) eo fun h2 he2 hs2=>?_⟩
  have hs2' : Heap.SameBut e h1 h2:=hs2
  have nH : H s.heap.objs.size = none:=I.hok.fresh (Nat.le_refl _)
  have eL : e < s.heap.objs.size:=Heap.lt_size he
  obtain ⟨oi,hoi,ci,di⟩:=id hit
  have iL : it < s.heap.objs.size:=Heap.lt_size hoi
  have ht2 : h2.get? s.heap.objs.size = some { cls:=.type "tuple",data:=.seq #[.int i s.toks,u] }:=(hs2'.2 _ (Nat.ne_of_gt eL)).trans ht
  have pg : (s.heap.push { cls:=.type "tuple",data:=.seq #[.int i s.toks,u] }).get? s.heap.objs.size = some { cls:=.type "tuple",data:=.seq #[.int i s.toks,u] }:=Heap.get?_push_size _ rfl
  have J1:=I.laid (a:=s.heap.objs.size) (o:=.tup [.int (i : Int),x]) (h':=s.heap.push { cls:=.type "tuple",data:=.seq #[.int i s.toks,u] }) (t':=s.toks) (fun b v z=>Heap.get?_push_of_some _ z) (Nat.le_refl _)
   ⟨(by show 2 <= sizeLine; decide),[.int i s.toks,u],.cons ⟨_,rfl⟩ (.cons ru .nil),⟨_,pg,rfl,_,rfl⟩⟩
  have fp' : ∀ b ∈ [e,it],FpOk X pins (upd H s.heap.objs.size (.tup [.int (i : Int),x])) b:=fun b hb=>by
   obtain ⟨f0,f1,f2,f3,f4,f5⟩:=hf b hb
   have hb' : b = e \/ b = it:=by simpa using hb
   refine ⟨?_,f1,f2,f3,f4,f5⟩
   rw [upd_ne (by rcases hb' with rfl | rfl; exact Nat.ne_of_lt eL; exact Nat.ne_of_lt iL)]
   exact f0
  have J2:=J1.turnedL (h':=h2) (t':=s.toks + 1) (ch:=[e,it]) (fun b o hb z=>by
   have n1 : b ≠ e:=fun y=>hb (by simp [y])
   have n2 : b ≠ it:=fun y=>hb (by simp [y])
   by_cases hp : b = s.heap.objs.size
   ·subst hp
    have z' : s.heap.objs.size = s.heap.objs.size->(s.heap.push { cls:=.type "tuple",data:=.seq #[.int i s.toks,u] }).get? s.heap.objs.size = some o:=fun _=>z
    rw [pg] at z'
    have:=z' rfl
    cases this
    exact ht2
   ·have z2 : s.heap.get? b = some o:=get_push_ne z hp
    exact (hs2'.2 b n1).trans (hk1 b o n1 n2 z2)) fp'
  refine ⟨.ref s.heap.objs.size,_,J2,rfl,⟨_,x,rfl,nH,rfl,fun ys hy=>by rw [I.list_inj hy hq]; exact hx⟩,⟨u,?_,?_⟩,fun b hb=>(fp' b hb).1⟩
  ·have e1 : ((i : Int) + 1) = ((i + 1 : Nat) : Int):=by omega
   rw [<- e1]
   exact he2
  ·exact hit1.at fun o q=>(hs2'.2 it (Ne.symm hne)).trans q
 done:=by
  intro X hP hw hK hc i pins s σ H E I hf st hg
  subst hP hw hK
  obtain ⟨xs,hq,hx⟩:=hg
  obtain ⟨old,he,hit⟩:=st
  obtain ⟨its,rv,p,hz⟩:=I.list hq
  have hl:=rv.length
  refine wpAny_pyNext_enum_end (I.ok.hd hc) he hit p.isList (by simp; omega) fun h' eb=>⟨rfl,I.turnedL (t':=s.toks) (ch:=[e,it]) (fun b o hb z=>eb b o (fun y=>hb (by simp [y])) z) hf⟩
 self:=fun _ _ _ _ _ st h=>by
  obtain ⟨old,he,_⟩:=st
  exact wpAny_pyIter_enum he h
def iEnum (K : PySem.W.Frag) (ta : TA) : TI:=fun σ H R=>ta σ H fun vs H1=>∃ a,vs = [.ref a]/\(∃ xs,SqL K H1 a xs)/\R (Ite K a) H1
section
variable {X : Cx}
theorem pi_enum {elts : List Expr} {x1} {tpos p pos : Pos} {a : Expr} {ta : TA} (hg : Gl X "enumerate") (hm : X.mg "enumerate" = none) (hbt : bootBuiltins "enumerate" = some (.type "enumerate")) (ha : PA X [a] ta) (hs : starEach [a] X.env = [(false,eval a X.env)]:=by rfl) :
  PI X (.Tuple elts x1 tpos) (.Call (.Name "enumerate" p) [a] [] pos) (iEnum X.K ta):=by
 intro pins s σ H R I h
 refine Call_ (ld_blt I hg hm hbt (PyProof.Rows.callWith_type1 (thn (ha pos pins s σ H _ I h) fun us s1 ⟨vs,H1,I1,r1,q1⟩=>?_) hs rfl))
 obtain ⟨a,rfl,⟨xs,hq⟩,q⟩:=q1
 obtain ⟨u,rfl,ru⟩:=vals1 r1
 cases ru
 obtain ⟨its,rv,pl,hz⟩:=I1.list hq
 refine call_enumerate_list pl.isList fun h' he hi hsz hk=>?_
 refine wpAny_pyIter_enum he ?_
 have I2 : Inv X pins σ H1 { s1 with heap:=h' }:=I1.kept (t':=s1.toks) hk
 refine ⟨s1.heap.objs.size + 1,[s1.heap.objs.size + 1,s1.heap.objs.size],_,_,H1,rfl,I2,turn_enum a _ _ (Nat.succ_ne_self _),⟨_,he,hi⟩,fun b hb=>?_,q⟩
 have hb' : b = s1.heap.objs.size + 1 \/ b = s1.heap.objs.size:=by simpa using hb
 rcases hb' with rfl | rfl
 ·exact I1.fpOk (Nat.le_succ _) (I1.hok.fresh (Nat.le_succ _))
 ·exact I1.fpOk (Nat.le_refl _) (I1.hok.fresh (Nat.le_refl _))
theorem for_enum {K : PySem.W.Frag} {a : Addr} {xs : List V} {g : TG} {tb : TS} {D : Ends} {σ : St} {H : Hp} (Pv : Nat->St->Hp->Prop) (h0 : Pv 0 σ H) (hl : ∀ i σ H,i <= xs.length->Pv i σ H->SqL K H a xs)
  (hs : ∀ i x σ H p,xs[i]? = some x->Pv i σ H->H p = none->g (.ref p) σ (upd H p (.tup [.int (i : Int),x])) fun σ2 H2=>tb { D with nx:=Pv (i + 1),ct:=Pv (i + 1),bk:=D.nx } σ2 H2) (hd : ∀ σ H,Pv xs.length σ H->D.nx σ H) :
  ∃ W : Nat->Nat->St->Hp->Prop,(∃ m,W 0 m σ H)/\∀ i m σ H,W i m σ H ->
   ((Ite K a).stop i H/\D.nx σ H) \/ ((Ite K a).go i H/\∃ N : St->Hp->Prop,(∀ σ' H',N σ' H'->∃ m',m' < m/\W (i + 1) m' σ' H')/\∀ x H',(Ite K a).yld i H x H'->g x σ H' fun σ2 H2=>tb { D with nx:=N,ct:=N,bk:=D.nx } σ2 H2):=by
 refine ⟨fun i m σ H=>m = xs.length - i/\i <= xs.length/\Pv i σ H,⟨xs.length,by simp,Nat.zero_le _,h0⟩,?_⟩
 rintro i m σ H ⟨rfl,hi,p⟩
 have q:=hl i σ H hi p
 by_cases hlt : i < xs.length
 ·refine .inr ⟨⟨xs,xs[i],q,by simp [hlt]⟩,Pv (i + 1),fun σ' H' p'=>⟨xs.length - (i + 1),by omega,rfl,hlt,p'⟩,fun x H' y=>?_⟩
  obtain ⟨pp,v,rfl,hn,rfl,y⟩:=y
  exact hs i v σ H pp (y xs q) p hn
 ·have e : i = xs.length:=by omega
  subst e
  exact .inl ⟨⟨xs,q,Nat.le_refl _⟩,hd σ H p⟩
end
end L2
set_option maxHeartbeats 4000000
namespace L2
open PySem PySem.Spec PyProof.Rows
section
variable {X : Cx}
def rJoin (K : PySem.W.Frag) : V->List V->Hp->VK->Prop:=fun x vs H Q=>∃ z p l,x = .str z/\vs = [.ref p]/\SqL K H p (l.map V.str)/\JoinOk z l = true/\Q (.str (Txt.join z l)) H
end
end L2
namespace L2
open PySem PySem.Spec PyProof.Rows
def nostar : Expr->Bool
 | .Starred _ _=>false
 | _=>true
theorem star_plain {e : Expr} {es : List Expr} {env : Env} (h : nostar e = true) : starEach (e :: es) env = (false,eval e env) :: starEach es env:=by
 cases e <;> first | rfl | cases h
theorem any_plain {env : Env} {pos : Pos} : ∀ {es : List Expr},es.all nostar = true->(backTo pos (starEach es env)).any (·.1) = false
 | [],_=>rfl
 | e :: es,h=>by
  rw [List.all_cons,Bool.and_eq_true] at h
  rw [star_plain h.1]
  show (false || (backTo pos (starEach es env)).any (·.1)) = false
  rw [any_plain h.2]
  rfl
section
variable {X : Cx}
theorem pw' (i : Nat) {x : Str} {pos : Pos} (hN : X.N[i]? = some x:=by kernel_rfl) (hv : X.env.scope.names.lookup x = some .local:=by kernel_rfl) (hd : (x == ("__debug__" : Str)) = false:=by kernel_rfl)
  (hcd : (x == ("__classdict__" : Str)) = false:=by kernel_rfl) : PE X (.Name x pos) (tVar i):=pe_var hN (.inl hv) hd hcd
theorem pc' (i : Nat) {x : Str} {pos : Pos} (hN : X.N[i]? = some x:=by kernel_rfl) (hv : X.env.scope.names.lookup x = some .cell:=by kernel_rfl) (hd : (x == ("__debug__" : Str)) = false:=by kernel_rfl)
  (hcd : (x == ("__classdict__" : Str)) = false:=by kernel_rfl) : PE X (.Name x pos) (tVar i):=pe_var hN (.inr (.inl hv)) hd hcd
theorem ps_setL {i : Nat} {x : Str} {e : Expr} {te : TE} {pos pos' : Pos} (hN : X.N.Nodup) (he : PE X e te) (hi : X.N[i]? = some x:=by kernel_rfl) (hx : X.env.scope.names.lookup x = some .local:=by kernel_rfl)
  (hs : swapsWith e (some (.Name x pos')) pos.line X.env = pure false:=by kernel_rfl) : PS X (.Assign [.Name x pos'] e pos) (tAsg te (gName i)):=ps_set (i:=i) hN hi (.inl hx) he hs (.inr hx)
theorem ps_setC {i : Nat} {x : Str} {e : Expr} {te : TE} {pos pos' : Pos} (hN : X.N.Nodup) (hfn : X.fn x = true) (he : PE X e te) (hi : X.N[i]? = some x:=by kernel_rfl) (hx : X.env.scope.names.lookup x = some .cell:=by kernel_rfl)
  (hs : swapsWith e (some (.Name x pos')) pos.line X.env = pure false:=by kernel_rfl) : PS X (.Assign [.Name x pos'] e pos) (tAsg te (gName i)):=ps_set (i:=i) hN hi (.inr hx) he hs (.inl hfn)
theorem pg_nameL {i : Nat} {x : Str} {pos : Pos} (hN : X.N.Nodup) (hi : X.N[i]? = some x:=by kernel_rfl) (hx : X.env.scope.names.lookup x = some .local:=by kernel_rfl) : PG X (.Name x pos) (gName i):=pg_name hN hi (.inl hx) (.inr hx)
theorem pa' {e : Expr} {es : List Expr} {te : TE} {t : TA} (ha : PE X e te) (hr : PA X es t) (hs : nostar e = true:=by rfl) : PA X (e :: es) (tCons te t):=pa_cons ha hr (star_plain hs)
theorem pe_callE {CX : CXT} {j k : Nat} {ps : List Str} {sp : Sp} {E : XK} {x : Str} {p pos : Pos} {e : Expr} {es : List Expr} {t : TA} (D : Def X.prog X.w X.K X.mg X.base CX x j ps sp) (hr : Room k X.A) (hx : Passes CX X E) (ha : PA X (e :: es) t) (hj : j <= k:=by decide) (hg : X.env.kindOf x = some .globalImplicit:=by kernel_rfl)
  (hdb : (x == ("__debug__" : Str)) = false:=by kernel_rfl) (he : nostar e = true:=by rfl) (hpl : es.all nostar = true:=by rfl) :
  PE X (.Call (.Name x p) (e :: es) [] pos) (tCall sp [] E t):=pe_callD D hr hx ha hj hg hdb (star_plain he) (any_plain hpl)
theorem pex_callE {j k : Nat} {ps : List Str} {sp : Sp} {x : Str} {p pos : Pos} {e : Expr} {es : List Expr} {t : TA} (D : Def X.prog X.w X.K X.mg X.base (CX1 X.prog X.w) x j ps sp) (hr : Room k X.A) (ha : PA X.nox (e :: es) t) (hj : j <= k:=by decide) (hg : X.env.kindOf x = some .globalImplicit:=by kernel_rfl)
  (hdb : (x == ("__debug__" : Str)) = false:=by kernel_rfl) (he : nostar e = true:=by rfl) (hpl : es.all nostar = true:=by rfl) :
  PEX X (.Call (.Name x p) (e :: es) [] pos) (tCallX sp [] t):=pex_callD D hr ha hj hg hdb (star_plain he) (any_plain hpl)
theorem pb' {id : String} {r : List V->Hp->VK->Prop} {x : Str} {p pos : Pos} {e : Expr} {es : List Expr} {t : TA} (hc : CallR X (.builtin id) r) (hm : X.mg x = none) (hv : bootBuiltins x = some (.builtin id)) (ha : PA X (e :: es) t) (hg : X.env.kindOf x = some .globalImplicit:=by kernel_rfl) (hn : x ≠ "__name__":=by decide) (hdb : (x == ("__debug__" : Str)) = false:=by kernel_rfl)
  (he : nostar e = true:=by rfl) (hpl : es.all nostar = true:=by rfl) : PE X (.Call (.Name x p) (e :: es) [] pos) (tCB r t):=pe_callB hc hg hm hv ha hn hdb (star_plain he) (any_plain hpl)
theorem pt' {T : String} {r : List V->Hp->VK->Prop} {x : Str} {p pos : Pos} {e : Expr} {es : List Expr} {t : TA} (hc : CallR X (.type T) r) (hm : X.mg x = none) (hv : bootBuiltins x = some (.type T)) (ha : PA X (e :: es) t) (hg : X.env.kindOf x = some .globalImplicit:=by kernel_rfl) (hn : x ≠ "__name__":=by decide) (hdb : (x == ("__debug__" : Str)) = false:=by kernel_rfl)
  (he : nostar e = true:=by rfl) (hpl : es.all nostar = true:=by rfl) : PE X (.Call (.Name x p) (e :: es) [] pos) (tCB r t):=pe_callTy hc hg hm hv ha hn hdb (star_plain he) (any_plain hpl)
theorem pgl {x : Str} {v : V} {u : Value} {pos : Pos} (hm : X.mg x = some u) (r : RelV v u) (hg : X.env.kindOf x = some .globalImplicit:=by kernel_rfl) (hd : (x == ("__debug__" : Str)) = false:=by kernel_rfl) : PE X (.Name x pos) (tC v):=pe_glob hg hm r hd
theorem pbl {x : Str} {v : V} {u : Value} {pos : Pos} (hm : X.mg x = none) (hv : bootBuiltins x = some u) (r : RelV v u) (hg : X.env.kindOf x = some .globalImplicit:=by kernel_rfl) (hn : x ≠ "__name__":=by decide) (hd : (x == ("__debug__" : Str)) = false:=by kernel_rfl) : PE X (.Name x pos) (tC v):=pe_bltn hg hm hv r hn hd
end
end L2
set_option maxHeartbeats 4000000
set_option autoImplicit true
set_option relaxedAutoImplicit true
namespace L2
open PySem PySem.Spec PyProof.Rows
structure QE (X : Cx) (e : Expr) (t : TE) : Prop where
 h : PE X e t
structure QT (X : Cx) (e : Expr) (t : TT) : Prop where
 h : PT X e t
structure QW (X : Cx) (e : Expr) (t : TT) : Prop where
 h : PW X e t
structure QA (X : Cx) (es : List Expr) (t : TA) : Prop where
 h : PA X es t
structure QS (X : Cx) (st : Stmt) (t : TS) : Prop where
 h : PS X st t
structure QSs (X : Cx) (st : List Stmt) (t : TS) : Prop where
 h : PSs X st t
structure QG (X : Cx) (e : Expr) (t : TG) : Prop where
 h : PG X e t
structure QGs (X : Cx) (es : List Expr) (t : TGs) : Prop where
 h : PGs X es t
structure QO (X : Cx) (e : Option Expr) (t : TO) : Prop where
 h : PO X e t
structure QI (X : Cx) (tg it : Expr) (t : TI) : Prop where
 h : PI X tg it t
structure QX (X : Cx) (e : Expr) (t : TX) : Prop where
 h : PEX X e t
section
variable {X : Cx}
theorem e_int {i j pos} : QE X (.Constant (.int i) j pos) (tC (.int i)):=⟨pe_int⟩
theorem e_str {x j pos} : QE X (.Constant (.str x) j pos) (tC (.str x)):=⟨pe_str⟩
theorem e_bl {b j pos} : QE X (.Constant (.bool b) j pos) (tC (.bl b)):=⟨pe_bl⟩
theorem e_non {j pos} : QE X (.Constant .none j pos) (tC .non):=⟨pe_non⟩
theorem e_v (i : Nat) {x : Str} {pos : Pos} (hN : X.N[i]? = some x:=by kernel_rfl) (hv : X.env.scope.names.lookup x = some .local:=by kernel_rfl) (hd : (x == ("__debug__" : Str)) = false:=by kernel_rfl) (hcd : (x == ("__classdict__" : Str)) = false:=by kernel_rfl) : QE X (.Name x pos) (tVar i):=⟨pw' i hN hv hd hcd⟩
theorem e_c (i : Nat) {x : Str} {pos : Pos} (hN : X.N[i]? = some x:=by kernel_rfl) (hv : X.env.scope.names.lookup x = some .cell:=by kernel_rfl) (hd : (x == ("__debug__" : Str)) = false:=by kernel_rfl) (hcd : (x == ("__classdict__" : Str)) = false:=by kernel_rfl) : QE X (.Name x pos) (tVar i):=⟨pc' i hN hv hd hcd⟩
theorem e_n (i : Nat) {x : Str} {pos : Pos} (hN : X.N[i]? = some x:=by rfl) (hv : Vis X.env.scope x:=by first | exact Or.inl rfl | exact Or.inr (Or.inl rfl) | exact Or.inr (Or.inr rfl)) (hd : (x == ("__debug__" : Str)) = false:=by kernel_rfl) (hcd : (x == ("__classdict__" : Str)) = false:=by kernel_rfl) : QE X (.Name x pos) (tVar i):=⟨pe_var hN hv hd hcd⟩
theorem e_gl {x : Str} {v : V} {u : Value} {pos : Pos} (hm : X.mg x = some u) (r : RelV v u) (hg : X.env.kindOf x = some .globalImplicit:=by kernel_rfl) (hd : (x == ("__debug__" : Str)) = false:=by kernel_rfl) : QE X (.Name x pos) (tC v):=⟨pgl hm r hg hd⟩
theorem e_bt {x : Str} {v : V} {u : Value} {pos : Pos} (hm : X.mg x = none) (hv : bootBuiltins x = some u) (r : RelV v u) (hg : X.env.kindOf x = some .globalImplicit:=by kernel_rfl) (hn : x ≠ "__name__":=by decide) (hd : (x == ("__debug__" : Str)) = false:=by kernel_rfl) : QE X (.Name x pos) (tC v):=⟨pbl hm hv r hg hn hd⟩
theorem e_op {op : Operator} {r : R2} {a b : Expr} {ta tb : TE} {pos : Pos} (ho : OpR X (binaryOp op) r) (ha : QE X a ta) (hb : QE X b tb) : QE X (.BinOp a op b pos) (tOp r ta tb):=⟨pe_op ho ha.h hb.h⟩
theorem e_un {op : UnaryOp} {r : V->Hp->VK->Prop} {a : Expr} {ta : TE} {pos : Pos} (ho : UnR X (unaryOp op) r) (ha : QE X a ta) : QE X (.UnaryOp op a pos) (tUn r ta):=⟨pe_un ho ha.h⟩
theorem e_cmp {op : CmpOp} {r : R2} {a b : Expr} {ta tb : TE} {pos : Pos} (ho : OpR X (compareOp op) r) (ha : QE X a ta) (hb : QE X b tb) (hm : behindInMarks op b = false:=by first | exact nomark _ | with_unfolding_all rfl) : QE X (.Compare a [op] [b] pos) (tOp r ta tb):=⟨pe_cmpR ho ha.h hb.h hm⟩
theorem t_cmp {op : CmpOp} {r : R2} {a b : Expr} {ta tb : TE} {pos : Pos} (ho : OpR X (compareOp op) r) (ha : QE X a ta) (hb : QE X b tb) (hm : behindInMarks op b = false:=by first | exact nomark _ | with_unfolding_all rfl) : QT X (.Compare a [op] [b] pos) (tTest (tOp r ta tb)):=⟨pt_cmpR ho ha.h hb.h hm⟩
theorem e_chain {op op' : CmpOp} {r r' : R2} {a b c : Expr} {ta tb tc : TE} {pos : Pos} (ho : OpR X (compareOp op) r) (ho' : OpR X (compareOp op') r') (ha : QE X a ta) (hb : QE X b tb) (hc : QE X c tc) (hm : lastMarks [op,op'] [b,c] = false:=by with_unfolding_all rfl) :
  QE X (.Compare a [op,op'] [b,c] pos) (tChain r r' ta tb tc):=⟨pe_chain ho ho' ha.h hb.h hc.h hm⟩
theorem t_isN {a : Expr} {ta : TE} {j pos pos'} (ha : QE X a ta) : QT X (.Compare a [.Is] [.Constant .none j pos'] pos) (tB (tIsN ta)):=⟨pt_cmp (pc_isN ha.h)⟩
theorem t_dnotin {i o : Expr} {ty td : TE} {pos} (hu : X.A.units + 1 < cLine) (hi : QE X i ty) (ho : QE X o td) (h1 : behindInMarks .NotIn o = false:=by with_unfolding_all rfl) : QT X (.Compare i [.NotIn] [o] pos) (tB (tDNotIn ty td)):=⟨pt_cmp (pc_dnotin hu hi.h ho.h) h1⟩
theorem t_val {e : Expr} {t : TE} (h : QE X e t) (he : ∀ whole,isTrue e X.env whole = (do let v <- whole; standAt e.pos; holding [v] (truthy v)):=by intro _; rfl) : QT X e (tB t):=⟨pt_val h.h he⟩
theorem t_not {a : Expr} {t : TT} {pos} (h : QT X a t) : QT X (.UnaryOp .Not a pos) (tNot t):=⟨pt_not h.h⟩
theorem t_w {e : Expr} {t : TT} (h : QW X e t) : QT X e t:=⟨PW.pt h.h⟩
theorem w_and1 {a : Expr} {t : TT} {pos} (h : QT X a t) : QW X (.BoolOp .And [a] pos) t:=⟨pw_and1 h.h⟩
theorem w_or1 {a : Expr} {t : TT} {pos} (h : QT X a t) : QW X (.BoolOp .Or [a] pos) t:=⟨pw_or1 h.h⟩
theorem w_and {a b : Expr} {rest : List Expr} {t u : TT} {pos} (ha : QT X a t) (hb : QW X (.BoolOp .And (b :: rest) pos) u) : QW X (.BoolOp .And (a :: b :: rest) pos) (tAnd t u):=⟨pw_and ha.h hb.h⟩
theorem w_or {a b : Expr} {rest : List Expr} {t u : TT} {pos} (ha : QT X a t) (hb : QW X (.BoolOp .Or (b :: rest) pos) u) : QW X (.BoolOp .Or (a :: b :: rest) pos) (tOr t u):=⟨pw_or ha.h hb.h⟩
theorem e_one {op} {a : Expr} {t : TE} {pos} (h : QE X a t) : QE X (.BoolOp op [a] pos) t:=⟨pe_one h.h⟩
theorem e_and {a b : Expr} {rest : List Expr} {ta tb : TE} {pos} (ha : QE X a ta) (hb : QE X (.BoolOp .And (b :: rest) pos) tb) : QE X (.BoolOp .And (a :: b :: rest) pos) (tAndV ta tb):=⟨pe_and ha.h hb.h⟩
theorem e_not {a : Expr} {ta : TE} {pos} (ha : QE X a ta) : QE X (.UnaryOp .Not a pos) (tNotV ta):=⟨pe_not ha.h⟩
theorem e_if {c a b : Expr} {t : TT} {ta tb : TE} {pos} (hc : QT X c t) (ha : QE X a ta) (hb : QE X b tb) : QE X (.IfExp c a b pos) (tIf t ta tb):=⟨pe_ifExp hc.h ha.h hb.h⟩
theorem a_nil : QA X [] tNil:=⟨pa_nil⟩
theorem a_cons {e : Expr} {es : List Expr} {te : TE} {t : TA} (ha : QE X e te) (hr : QA X es t) (hs : nostar e = true:=by rfl) : QA X (e :: es) (tCons te t):=⟨pa' ha.h hr.h hs⟩
theorem e_lst {es : List Expr} {t : TA} {pos} (h : QA X es t) : QE X (.List es pos) (tLst t):=⟨pe_lst h.h⟩
theorem e_tup {es : List Expr} {t : TA} {x1 pos} (h : QA X es t) : QE X (.Tuple es x1 pos) (tTup t):=⟨pe_tup h.h⟩
theorem e_ix {r : R2} {a b : Expr} {ta tb : TE} {pos} (hr : IxR X r) (ha : QE X a ta) (hb : QE X b tb) (hs : PlainIx b:=by exact fun _ _=>rfl) : QE X (.Subscript a b pos) (tOp r ta tb):=⟨pe_ix hr ha.h hb.h hs⟩
theorem o_none : QO X none tNoPart:=⟨po_none⟩
theorem o_some {e : Expr} {t : TE} (h : QE X e t) : QO X (some e) (tPart t):=⟨po_some h.h⟩
theorem e_sl {r : V->Option Int->Option Int->Hp->VK->Prop} {e : Expr} {lo hi : Option Expr} {te : TE} {tl th : TO} {p2 pos} (hr : SlR X r) (he : QE X e te) (hl : QO X lo tl) (hu : QO X hi th) : QE X (.Subscript e (.Slice lo hi none p2) pos) (tSl r te tl th):=⟨pe_slice hr he.h hl.h hu.h⟩
theorem e_call {CX : CXT} {j k : Nat} {ps : List Str} {sp : Sp} {E : XK} {x : Str} {p pos : Pos} {e : Expr} {es : List Expr} {t : TA} (D : Def X.prog X.w X.K X.mg X.base CX x j ps sp) (hr : Room k X.A) (hx : Passes CX X E) (ha : QA X (e :: es) t) (hj : j <= k:=by decide) (hg : X.env.kindOf x = some .globalImplicit:=by kernel_rfl)
  (hdb : (x == ("__debug__" : Str)) = false:=by kernel_rfl) (he : nostar e = true:=by rfl) (hpl : es.all nostar = true:=by rfl) : QE X (.Call (.Name x p) (e :: es) [] pos) (tCall sp [] E t):=⟨pe_callE D hr hx ha.h hj hg hdb he hpl⟩
theorem x_call {j k : Nat} {ps : List Str} {sp : Sp} {x : Str} {p pos : Pos} {e : Expr} {es : List Expr} {t : TA} (D : Def X.prog X.w X.K X.mg X.base (CX1 X.prog X.w) x j ps sp) (hr : Room k X.A) (ha : QA X.nox (e :: es) t) (hj : j <= k:=by decide) (hg : X.env.kindOf x = some .globalImplicit:=by kernel_rfl)
  (hdb : (x == ("__debug__" : Str)) = false:=by kernel_rfl) (he : nostar e = true:=by rfl) (hpl : es.all nostar = true:=by rfl) : QX X (.Call (.Name x p) (e :: es) [] pos) (tCallX sp [] t):=⟨pex_callE D hr ha.h hj hg hdb he hpl⟩
theorem e_b {id : String} {r : List V->Hp->VK->Prop} {x : Str} {p pos : Pos} {e : Expr} {es : List Expr} {t : TA} (hc : CallR X (.builtin id) r) (hm : X.mg x = none) (hv : bootBuiltins x = some (.builtin id)) (ha : QA X (e :: es) t) (hg : X.env.kindOf x = some .globalImplicit:=by kernel_rfl) (hn : x ≠ "__name__":=by decide) (hdb : (x == ("__debug__" : Str)) = false:=by kernel_rfl)
  (he : nostar e = true:=by rfl) (hpl : es.all nostar = true:=by rfl) : QE X (.Call (.Name x p) (e :: es) [] pos) (tCB r t):=⟨pb' hc hm hv ha.h hg hn hdb he hpl⟩
theorem e_t {T : String} {r : List V->Hp->VK->Prop} {x : Str} {p pos : Pos} {e : Expr} {es : List Expr} {t : TA} (hc : CallR X (.type T) r) (hm : X.mg x = none) (hv : bootBuiltins x = some (.type T)) (ha : QA X (e :: es) t) (hg : X.env.kindOf x = some .globalImplicit:=by kernel_rfl) (hn : x ≠ "__name__":=by decide) (hdb : (x == ("__debug__" : Str)) = false:=by kernel_rfl)
  (he : nostar e = true:=by rfl) (hpl : es.all nostar = true:=by rfl) : QE X (.Call (.Name x p) (e :: es) [] pos) (tCB r t):=⟨pt' hc hm hv ha.h hg hn hdb he hpl⟩
theorem e_append {o e : Expr} {to te : TE} {apos cpos : Pos} (ho : QE X o to) (ha : QE X e te) (hs : nostar e = true:=by rfl) (hbase : attributeBase o "append" X.env (eval o X.env) = eval o X.env:=by rfl) (hline : (apos.endLine == cpos.line) = true:=by rfl) :
  QE X (.Call (.Attribute o "append" apos) [e] [] cpos) (tBM X.K "list" rAppend to (tCons te tNil)):=⟨pe_bm PySem.F.plainAttrs_list PySem.F.slot_list_append PySem.F.type_list_append mt_append ho.h (pa' ha.h pa_nil hs) hbase (by rw [star_plain hs]; rfl) hline (star_plain hs)⟩
theorem e_xf {e : Expr} {f : Str} {pos : Pos} {ta : TE} (he : QE X e ta) (hb : attributeBase e f X.env (eval e X.env) = eval e X.env:=by rfl) : QE X (.Attribute e f pos) (tXFld X.K ta f):=⟨pe_xfld he.h hb⟩
theorem e_dnew {pos} : QE X (.Dict [] [] pos) tDNewK:=⟨pe_dnewK⟩
theorem e_comp {x : Str} {px pos : Pos} {elt iter : Expr} {sc : Scope} {wi : TI} {te : TE} (ys : List Str) (js : List Nat) (cl : List (Str × Addr)) (hclos : closureFor sc X.env = pure cl) (hcap : Caps X sc cl ys js) (hin : ClIn X.env cl)
  (hi : QI X.nox (.Name x px) iter wi) (he : ∀ s2 H2 C ex,QE (compCx X sc (x :: ys) cl s2 H2 C ex) elt te) (hc : X.calm = true:=by rfl)
  (hcell : (sc.names.all fun p=>p.2 != NameKind.cell) = true:=by rfl) (hkind : sc.kind = .function:=by rfl) (hnames : (sc.names.all fun p=>p.2 != NameKind.local || sc.names.lookup p.1 == some NameKind.local) = true:=by rfl)
  (hx : (relabel sc X.env).names.lookup x = some .local:=by rfl) (hhas : ((relabel sc X.env).names.all fun p=>p.2 == NameKind.local || p.2 == NameKind.globalImplicit || (cl.lookup p.1).isSome) = true:=by rfl)
  (hnd : (x :: ys).Nodup:=by decide +kernel) (hs : ∀ v,foldedSetIterable iter X.env v = pure v:=by intro _; rfl) : QE X (.ListComp elt [⟨.Name x px,iter,[],0⟩] sc pos) (tComp wi js te) :=
 ⟨pe_compR ys js cl hclos hcap hin hi.h (fun a b c d=>(he a b c d).h) hc hcell hkind hnames hx hhas hnd hs⟩
theorem ss_nil : QSs X [] tNext:=⟨pss_nil⟩
theorem ss_cons {st : Stmt} {rest : List Stmt} {t u : TS} (h1 : QS X st t) (h2 : QSs X rest u) : QSs X (st :: rest) (tSeq t u):=⟨pss_cons h1.h h2.h⟩
theorem ss_one {st : Stmt} {t : TS} (h1 : QS X st t) : QSs X [st] t:=⟨pss_one h1.h⟩
theorem s_set {i : Nat} {x : Str} {e : Expr} {te : TE} {pos pos' : Pos} (hN : X.N.Nodup) (he : QE X e te) (hi : X.N[i]? = some x:=by kernel_rfl) (hx : X.env.scope.names.lookup x = some .local:=by kernel_rfl)
  (hs : swapsWith e (some (.Name x pos')) pos.line X.env = pure false:=by kernel_rfl) : QS X (.Assign [.Name x pos'] e pos) (tAsg te (gName i)):=⟨ps_setL (i:=i) hN he.h hi hx hs⟩
theorem s_setc {i : Nat} {x : Str} {e : Expr} {te : TE} {pos pos' : Pos} (hN : X.N.Nodup) (he : QE X e te) (hfn : X.fn x = true:=by rfl) (hi : X.N[i]? = some x:=by kernel_rfl) (hx : X.env.scope.names.lookup x = some .cell:=by kernel_rfl)
  (hs : swapsWith e (some (.Name x pos')) pos.line X.env = pure false:=by kernel_rfl) : QS X (.Assign [.Name x pos'] e pos) (tAsg te (gName i)):=⟨ps_setC (i:=i) hN hfn he.h hi hx hs⟩
theorem s_asg {tg e : Expr} {te : TE} {g : TG} {pos} (he : QE X e te) (hg : QG X tg g) (hs : swapsWithSole [tg] e pos.line X.env = pure false:=by rfl) (hw : swappedStores [tg] e X.env = pure none:=by rfl)
  (h1 : (assignEach [tg] X.env).map (·.2) = [assign tg X.env]:=by rfl) : QS X (.Assign [tg] e pos) (tAsg te g):=⟨ps_asg he.h hg.h hs hw h1⟩
theorem s_if {c : Expr} {a b : List Stmt} {tc : TT} {t u : TS} {pos} (hc : QT X c tc) (ha : QSs X a t) (hb : QSs X b u) : QS X (.If c a b pos) (tIfS tc t u):=⟨ps_if hc.h ha.h hb.h⟩
theorem s_for {tg iter : Expr} {body : List Stmt} {wi : TI} {g : TG} {tb : TS} {pos} (hp : PassesOwn (model X.prog X.w) X.A X.env X.xe) (hc : X.calm = true) (hi : QI X tg iter wi) (hg : QG X tg g) (hb : QSs X body tb)
  (hs : ∀ x,foldedSetIterable iter X.env x = pure x:=by intro _; rfl) : QS X (.For tg iter body [] pos) (tFor wi g tb):=⟨ps_for hp hc hi.h hg.h hb.h hs⟩
theorem s_while {c : Expr} {body : List Stmt} {tc : TT} {tb : TS} {pos} (hp : PassesOwn (model X.prog X.w) X.A X.env X.xe) (hc : QT X c tc) (hb : QSs X body tb) : QS X (.While c body [] pos) (tWhile tc tb):=⟨ps_while hp hc.h hb.h⟩
theorem s_ret {e : Expr} {t : TE} {pos} (h : QE X e t) : QS X (.Return (some e) pos) (tRet t):=⟨ps_ret h.h⟩
theorem s_expr {e : Expr} {t : TE} {pos} (h : QE X e t) (hs : swapsWith e none pos.line X.env = pure false:=by rfl) : QS X (.Expr e pos) (tDrop t):=⟨ps_expr h.h hs⟩
theorem s_cut {st : Stmt} {t : TS} (h : QS X st t) : QS X st (tCut t):=⟨ps_cut h.h⟩
theorem s_xset {o value : Expr} {f : Str} {pos pos' : Pos} {ta tv : TE} (ha : QE X o ta) (hv : QE X value tv) (hs : swapsWith value (some (.Attribute o f pos')) pos.line X.env = pure false:=by rfl) : QS X (.Assign [.Attribute o f pos'] value pos) (sX X.K ta tv f):=⟨ps_xset ha.h hv.h hs⟩
theorem s_dput {o i value : Expr} {td ty tv : TE} {pos pos' : Pos} (hu : X.A.units + 1 < cLine) (ho : QE X o td) (hi : QE X i ty) (hv : QE X value tv) (hs : swapsWith value (some (.Subscript o i pos')) pos.line X.env = pure false:=by rfl) : QS X (.Assign [.Subscript o i pos'] value pos) (sDPut td ty tv):=⟨ps_dput hu ho.h hi.h hv.h hs⟩
theorem g_name {i : Nat} {x : Str} {pos : Pos} (hN : X.N.Nodup) (hi : X.N[i]? = some x:=by kernel_rfl) (hx : X.env.scope.names.lookup x = some .local:=by kernel_rfl) : QG X (.Name x pos) (gName i):=⟨pg_nameL hN hi hx⟩
theorem gs_nil : QGs X [] gNil:=⟨pgs_nil⟩
theorem gs_cons {e : Expr} {es : List Expr} {t : TG} {u : TGs} (h1 : QG X e t) (h2 : QGs X es u) (hs : (assignEach (e :: es) X.env).map (·.2) = assign e X.env :: (assignEach es X.env).map (·.2):=by rfl) : QGs X (e :: es) (gCons t u):=⟨pgs_cons h1.h h2.h hs⟩
theorem g_tup {es : List Expr} {k : Nat} {t : TGs} {n : Nat} {pos} (hc : X.calm = true) (h : QGs X es t) (hn : (assignEach es X.env).length = n:=by rfl) (hst : (assignEach es X.env).findIdx? (·.1) = none:=by rfl) : QG X (.Tuple es k pos) (gTup X.K n t):=⟨pg_tup hc h.h hn hst⟩
theorem i_list {tg l : Expr} {t : TE} (h : QE X l t) : QI X tg l (iList X.K t):=⟨pi_list h.h⟩
theorem i_tup {tg l : Expr} {t : TE} (h : QE X l t) : QI X tg l (iTup X.K t):=⟨pi_tup h.h⟩
theorem i_rng1 {tg a : Expr} {t : TE} {p pos : Pos} (hm : X.mg "range" = none) (ha : QE X a t) (hg : X.env.kindOf "range" = some .globalImplicit:=by kernel_rfl) (hs : nostar a = true:=by rfl) : QI X tg (.Call (.Name "range" p) [a] [] pos) (iRng1 (tCons t tNil)):=⟨pi_range1 hg hm (pa' ha.h pa_nil hs) ((star_plain hs).trans rfl)⟩
theorem i_enum {elts : List Expr} {x1} {tpos p pos : Pos} {a : Expr} {t : TE} (hm : X.mg "enumerate" = none) (ha : QE X a t) (hg : X.env.kindOf "enumerate" = some .globalImplicit:=by kernel_rfl) (hs : nostar a = true:=by rfl) : QI X (.Tuple elts x1 tpos) (.Call (.Name "enumerate" p) [a] [] pos) (iEnum X.K (tCons t tNil)) :=
 ⟨pi_enum hg hm (by decide +kernel) (pa' ha.h pa_nil hs) ((star_plain hs).trans rfl)⟩
end
section
variable {P : Program} {w : World} {K : PySem.W.Frag} {mg : Str->Option Value} {base : Heap} {N : List Str} {qual : Str} {scope : Scope} {f : Addr} {cd : Value} {A : Around} {outer : List Env} {s₀ : Shared} {H₀ : Hp} {E : XK}
theorem s_raise {x : Str} {C : Addr} {e : Expr} {es : List Expr} {t : TA} {np cpos pos : Pos} (hm : mg x = some (.ref C)) (hq : PySem.W.excIn K C bmVE "ValueError.__new__" = true) (ha : QA (cxOf (CX1 P w) P w K mg base N qual scope f cd A outer s₀ H₀ E) (e :: es) t)
  (hg : (cxOf (CX1 P w) P w K mg base N qual scope f cd A outer s₀ H₀ E).env.kindOf x = some .globalImplicit:=by kernel_rfl) (hd : (x == ("__debug__" : Str)) = false:=by kernel_rfl) (he : nostar e = true:=by rfl) (hpl : es.all nostar = true:=by rfl) :
  QS (cxOf (CX1 P w) P w K mg base N qual scope f cd A outer s₀ H₀ E) (.Raise (some (.Call (.Name x np) (e :: es) [] cpos)) none pos) (tRaise C E t):=⟨ps_raise hg hm hq ha.h hd (star_plain he) (any_plain hpl)⟩
theorem s_raiseI {x : Str} {C fI : Addr} {fd : FuncData} {ps : List Str} {sp : Sp} {k j : Nat} {e : Expr} {es : List Expr} {t : TA} {np cpos pos : Pos} (hm : mg x = some (.ref C)) (R : XRaise K C fI)
  (G : FnOk P w K mg base CX0 k fI fd ps sp) (hr : Room j (cxOf (CX1 P w) P w K mg base N qual scope f cd A outer s₀ H₀ E).A) (hb : Binds K fd ps [])
  (ha : QA (cxOf (CX1 P w) P w K mg base N qual scope f cd A outer s₀ H₀ E) (e :: es) t) (hj : k + 1 <= j:=by decide) (hg : (cxOf (CX1 P w) P w K mg base N qual scope f cd A outer s₀ H₀ E).env.kindOf x = some .globalImplicit:=by kernel_rfl) (hdb : (x == ("__debug__" : Str)) = false:=by kernel_rfl) (he : nostar e = true:=by rfl) (hpl : es.all nostar = true:=by rfl) :
  QS (cxOf (CX1 P w) P w K mg base N qual scope f cd A outer s₀ H₀ E) (.Raise (some (.Call (.Name x np) (e :: es) [] cpos)) none pos) (tRaiseI C sp E t):=⟨ps_raiseI hg hm R G (hr.mono hj) hb ha.h hdb (star_plain he) (any_plain hpl)⟩
end
end L2
set_option maxHeartbeats 4000000
namespace L2
open PySem PySem.Spec PyProof.Rows
structure InitIn (K : PySem.W.Frag) (C : Addr) (qual : Str) (st : Stmt) : Prop where
 ex : ∃ fI fd,XRaise K C fI/\Fun K "__init__" qual st fI fd
 xc : XCls K C
 ek : ExcK K C
 ec : ∃ bm id,ExcC K C bm id
theorem initIn_mk {K : PySem.W.Frag} {C fI : Addr} {qual : Str} {st : Stmt} {oc : Value} {od an : Option Addr} {osl : Array (Option Value)} {kV doc pm cdv ct : Value} {cd : ClassData}
  {bm bs sub : List Value} {NN : Addr} {nm qn : Str} {hd ab : Bool} {sn : List Str} {col : Option Bool} {dd : Option Addr} {k0 k1 k2 k3 k5 : Option Value}
  (hi : PySem.W.findIn K (.ref C) "__init__" = some (some (.ref fI))) (ht : PySem.W.typeIn K (.ref fI) = some (.type "function"))
  (l : K.lookup fI = some ⟨oc,od,.func (PySem.W.fnOf "__init__" qual (defArgs st) (defBody st) (defScope st) .none kV doc pm an cdv ct),osl⟩) (cc : PySem.W.codeIn K cdv qual = true) (kk : PySem.W.keepIn K (.ref fI) = true)
  (lC : K.lookup C = some (excClassObj nm qn C NN bs bm hd sn sub ab col dd k0 k1 k2 k3 k5 "ValueError.__new__")) (tl : PySem.W.tailIn K bmVE bm = true)
  (hcd : PySem.W.clsIn K C = some cd) (ho : onlyVE cd.mro = true) (hdd : cd.hasDict = true) (sa : PySem.W.findIn K (.ref C) "__setattr__" = some (some (.builtin "object.__setattr__")))
  (hm : PySem.W.mroIn K C (.type "BaseException") = some true) (hmo : PySem.W.mroIn K C (.type "object") = some true) (hga : PySem.W.findIn K (.ref C) "__getattribute__" = some (some (.builtin "BaseException.__getattribute__"))) (hgn : PySem.W.findIn K (.ref C) "__getattr__" = some none)
  (hc : (PySem.W.clsIn K C).isSome = true) (ha : PySem.W.findIn K (.ref C) "__class__" = some (some (.builtin "object.__class__"))) (hn : PySem.W.specialIn K (.builtin "object.__class__") "__get__" = some (some (.builtin "getset_descriptor.__get__")))
  (htk : PySem.W.takesIn K (.builtin "object.__class__") = some true) : InitIn K C qual st :=
 ⟨⟨fI,_,⟨⟨nm,qn,NN,bs,bm,hd,sn,sub,ab,col,dd,k0,k1,k2,k3,k5,lC,tl⟩,hi,ht⟩,fun_mk l cc kk⟩,⟨⟨cd,hcd,ho,hdd⟩,sa⟩,⟨hm,hmo,hga,hgn,hc,ha,hn,htk⟩,⟨bm,_,.mk lC⟩⟩
end L2
set_option maxHeartbeats 1000000
namespace L2
open PySem PySem.Spec PyProof.Rows
section
variable {X : Cx} {pos : Pos}
def gTupL (K : PySem.W.Frag) (n : Nat) (t : TGs) : TG:=fun v σ H Q=>∃ a xs,v = .ref a/\SqL K H a xs/\xs.length = n/\t xs σ H Q
theorem Def.never {P : Program} {w : World} {K : PySem.W.Frag} {mg : Str->Option Value} {base h : Heap} {CX : CXT} {x : Str} {k : Nat} {ps : List Str} {st : Stmt} (X : K.In h) (G : h.Ns mainGlobals mg) (FI : FunIn K x st)
  (hb : ∀ (kV doc pm : Value) (an : Option Addr) (cdv ct : Value) (us : List Value),us.length = ps.length->bindArgs (PySem.W.fnOf x x (defArgs st) (defBody st) (defScope st) .none kV doc pm an cdv ct) ⟨us,[]⟩ = pure (ps.zip us)) :
  Def P w K mg base CX x k ps (fun _ _ _ _=>False):=Def.of X G FI (fun f fd F=>⟨fun _ _ _ _ z=>z.elim,fun _ _ _ _ _ _ _ _ _ _ _ _ _ z=>z.elim⟩) hb
end
def tTryE (K : PySem.W.Frag) (j : Nat) (S : Addr) (tx : TX) (ts : Addr->TS) : TS:=fun D σ H =>
 tx σ H (fun v H1=>D.nx σ H1) fun cls d H1=>∃ C bm nid,cls = .ref C/\ExcC K C bm nid/\(Value.ref C :: bm).contains (.ref S) = true /\
  ∀ a,H1 a = none->ts a { nx:=fun σ' H'=>D.nx (σ'.set j none) H',rt:=D.rt,bk:=fun σ' H'=>D.bk (σ'.set j none) H',ct:=fun σ' H'=>D.ct (σ'.set j none) H' } (σ.set j (some (.ref a))) (upd H1 a (excO a cls d))
section
variable {X : Cx}
end
end L2
set_option maxHeartbeats 4000000
namespace G
open PySem L2
abbrev Fine (x : Str) : Prop:=PyData.strOk x = true
theorem comp_pure2 {J : It} {xs ys : List V} {H : Hp} {cap : St} {te : TE} {Q : VK} (hn : xs.length <= sizeLine) (hl : ys.length = xs.length)
  (go : ∀ i H',Same H H'->i < xs.length->J.go i H') (yld : ∀ i H' x H'',Same H H'->i < xs.length->J.yld i H' x H''->H'' = H'/\xs[i]? = some x) (stop : ∀ H',Same H H'->J.stop xs.length H')
  (el : ∀ (i : Nat) x y H' (P : VK),Same H H'->xs[i]? = some x->ys[i]? = some y->(∀ H'',Same H' H''->P y H'')->te (some x :: cap) H' P) (fin : ∀ D H',Same H H'->H D = none->H' D = some (.lst ys)->Q (.ref D) H') :
  Comped J cap te Q H:=by
 intro D hD
 refine ⟨fun i m zs H2=>m = xs.length - i/\i <= xs.length/\zs = ys.take i/\H2 D = some (.lst zs)/\Same H H2,⟨xs.length,rfl,Nat.zero_le _,by simp,upd_same,Same.new hD _⟩,?_⟩
 rintro i m zs H2 ⟨rfl,hi,hz,hDz,hS⟩
 refine ⟨hDz,?_⟩
 by_cases h : i < xs.length
 ·refine .inr ⟨go i H2 hS h,?_⟩
  intro x H3 hy
  obtain ⟨rfl,hx⟩:=yld i H2 x H3 hS h hy
  obtain ⟨yv,hyi⟩ : ∃ yv,ys[i]? = some yv:=⟨ys[i]'(by omega),List.getElem?_eq_getElem (by omega)⟩
  have hzl : zs.length = i:=by rw [hz,List.length_take]; omega
  refine el i x yv H3 _ hS hx hyi fun H4 hS4=>⟨hS4 _ _ hDz,by omega,xs.length - (i + 1),by omega,rfl,h,?_,upd_same,fun b u q=>?_⟩
  ·rw [hz,List.take_add_one,hyi]
   rfl
  ·rw [upd_ne (ne_of_none q hD)]
   exact hS4 _ _ (hS _ _ q)
 ·have e : i = xs.length:=by omega
  subst e
  refine .inl ⟨stop H2 hS,fin D H2 hS hD ?_⟩
  rw [hDz,hz,List.take_of_length_le (by omega)]
theorem comp_list {K : PySem.W.Frag} {a : Addr} {xs : List V} {H : Hp} {cap : St} {te : TE} {Q : VK} (ys : List V) (hS : SqL K H a xs) (hn : xs.length <= sizeLine) (hl : ys.length = xs.length)
  (el : ∀ (i : Nat) x y H' (P : VK),Same H H'->xs[i]? = some x->ys[i]? = some y->(∀ H'',Same H' H''->P y H'')->te (some x :: cap) H' P) (fin : ∀ D H',Same H H'->H D = none->H' D = some (.lst ys)->Q (.ref D) H') :
  Comped (Itl K a) cap te Q H:=by
 refine comp_pure2 (J:=Itl K a) (xs:=xs) (ys:=ys) hn hl ?_ ?_ ?_ el fin
 ·intro i H' s hi
  exact ⟨xs,xs[i],s.seq hS,List.getElem?_eq_getElem hi⟩
 ·rintro i H' x H'' s hi ⟨rfl,h⟩
  exact ⟨rfl,h xs (s.seq hS)⟩
 ·intro H' s
  exact ⟨xs,s.seq hS,Nat.le_refl _⟩
end G
namespace K01
open PySem
abbrev t9 (a b c d e f p g h : Nat) : Str:=⟨#[a,b,c,d,e,f,p,g,h]⟩
end K01
namespace K01
open PySem PySem.NumText
def greatS : Str:="ABCDEFGHIJKLMNOPQRSTUVWXYZ"
def figS : Str:="0123456789"
def gr (c : Nat) : Bool:=decide (c ∈ greatS.cps.toList)
def dg (c : Nat) : Bool:=decide (c ∈ figS.cps.toList)
def keyOf (x : Str) : Option (Str × Int):=match x.cps.toList with
 | [a,b,c,d,e,f,p,g,h]=>if (gr a && gr b && (dg c && dg d && dg e && dg f) && (p == 43) && (dg g && dg h) && decide (digitsVal [g,h] < 16)) = true then some (⟨#[a,b]⟩,((digitsVal [c,d,e,f] : Nat) : Int) * 16 + ((digitsVal [g,h] : Nat) : Int)) else none
 | _=>none
def shown (a b : Nat) (n : Nat) : Str:=t9 a b (48 + n / 16 / 1000) (48 + n / 16 / 100 % 10) (48 + n / 16 / 10 % 10) (48 + n / 16 % 10) 43 (48 + n % 16 / 10) (48 + n % 16 % 10)
end K01
set_option maxHeartbeats 4000000
namespace G
open PySem L2
theorem at_list {α : Type} {xs : List α} {i : Int} (h0 : 0 <= i) (h : i < (xs.length : Int)) : ∃ v,atI xs i = some v/\v ∈ xs:=by
 have hj : i.toNat < xs.length:=by omega
 have e : i = ((i.toNat : Nat) : Int):=by omega
 have q:=atI_nat (List.getElem?_eq_getElem hj)
 rw [<- e] at q
 exact ⟨xs[i.toNat],q,List.getElem_mem hj⟩
section
variable {K : PySem.W.Frag}
theorem kit_self {T : String} : PySem.W.kitOne K (.type T) (valOf (.ty T)) = some true:=by
 unfold PySem.W.kitOne
 exact if_pos (beq_self_eq_true (Value.type T))
theorem kit_not {T C : String} (h1 : ¬ (Value.type T == valOf (.ty C)) = true) (h2 : PySem.W.kitMeta C = true) (h3 : (fastBuiltinMro T).map (·.contains (.type C)) = some false) : PySem.W.kitOne K (.type T) (valOf (.ty C)) = some false:=by
 unfold PySem.W.kitOne
 rw [if_neg h1]
 show (if PySem.W.kitMeta C = true then PySem.W.subIn K (.type T) (.type C) else none) = some false
 rw [if_pos h2]
 exact h3
theorem int_bool : PySem.W.kitOne K (.type "int") (valOf (.ty "bool")) = some false:=kit_not (by decide +kernel) (by decide +kernel) (by decide +kernel)
end
inductive Scal : V->Prop
 | non : Scal .non
 | int (i : Int) : Scal (.int i)
 | str (x : Str) (h : x.length <= 1000) (ok : Fine x) : Scal (.str x)
def isStr : V->Bool
 | .str _=>true
 | _=>false
def datV : V->PyData
 | .int i=>.int i
 | .str x=>.str x
 | _=>.none
end G
set_option maxHeartbeats 4000000
namespace L2
open PySem PySem.Spec PyProof.Rows
theorem Inv.but {X : Cx} {pins : List (Addr × Obj)} {σ : St} {H : Hp} {s : Shared} {C : Addr} {h' : Heap} (I : Inv X pins σ H s) (sb : Heap.SameBut C s.heap h') (f : FpOk X pins H C) (hx : X.s₀.heap.get? C = none:=by assumption) : Inv X pins σ H { s with heap:=h' }:=by
 obtain ⟨f0,f1,f2,f3,f4,f5⟩:=f
 have ne0 : ∀ b o,X.s₀.heap.get? b = some o->b ≠ C:=fun b o e z=>by rw [z,hx] at e; cases e
 have cellS : ∀ {c v},c ≠ C->s.heap.IsCell c v->h'.IsCell c v:=fun hc ⟨o,ho,hd⟩=>⟨o,(sb.2 _ hc).trans ho,hd⟩
 refine ⟨I.ok,I.os,I.bare,⟨fun b o e n hb he=>(sb.2 b (ne0 b o e)).trans (I.base.keep b o e n hb he),fun b o e n hb he=>?_,I.base.free,fun b o e he=>?_,I.base.tups,I.base.frzs,I.base.tbls⟩,?_,fun x c e=>?_,I.free,I.freeC,fun p hp=>?_,fun b u e=>?_,I.len⟩
 ·obtain ⟨sl,q⟩:=I.base.slot b o e n hb he
  exact ⟨sl,(sb.2 b (ne0 b o e)).trans q⟩
 ·obtain ⟨o',q⟩:=I.base.there b o e he
  exact ⟨o',(sb.2 b (ne0 b o e)).trans q⟩
 ·obtain ⟨m,hm,hl⟩:=I.loc
  refine ⟨m,hm.sameBut sb (Ne.symm f1),fun i x v e1 e2 e3=>?_⟩
  obtain ⟨u,r,l⟩:=hl i x v e1 e2 e3
  refine ⟨u,r,?_⟩
  rcases l with l | ⟨l1,c,l2,l3⟩
  ·exact .inl l
  ·exact .inr ⟨l1,c,l2,cellS (f4 _ _ l2) l3⟩
 ·obtain ⟨v,q⟩:=I.cell x c e
  exact ⟨v,cellS (f4 _ _ e) q⟩
 ·obtain ⟨q1,q2⟩:=I.pin p hp
  exact ⟨(sb.2 _ (f5 p hp)).trans q1,q2⟩
 ·refine (I.hok b u e).stay (fun c v hc z=>(sb.2 c ?_).trans z) (fun _ z=>z) fun _ _ z=>z
  rintro rfl
  rcases hc with hc | hc
  ·rw [<- hc,f0] at e; cases e
  ·rw [f0] at hc; cases hc
section
variable {X : Cx} {x : Str} {px pos : Pos} {elt iter : Expr} {sc : Scope} {ys : List Str} {js : List Nat} {cl : List (Str × Addr)}
end
end L2
namespace L2
open PySem PySem.Spec PyProof.Rows
def strC : Expr->Option Str
 | .Constant (.str x) _ _=>some x
 | _=>none
theorem strC_is {e : Expr} {x : Str} (h : strC e = some x) : ∃ j pos,e = .Constant (.str x) j pos:=by
 unfold strC at h
 split at h
 ·cases h
  exact ⟨_,_,rfl⟩
 ·cases h
theorem nostar_str {x : Str} {j pos} : nostar (.Constant (.str x) j pos) = true:=rfl
theorem a_strs {X : Cx} : ∀ (es : List Expr) (xs : List Str),es.map strC = xs.map some->∃ t,QA X es t/\∀ σ H (Q : List V->Hp->Prop),Q (xs.map V.str) H->t σ H Q
 | [],[],_=>⟨_,a_nil,fun _ _ _ h=>h⟩
 | [],_ :: _,h=>by cases h
 | _ :: _,[],h=>by cases h
 | e :: es,x :: xs,h=>by
  rw [List.map_cons,List.map_cons] at h
  obtain ⟨h1,h2⟩:=List.cons.inj h
  obtain ⟨j,pos,rfl⟩:=strC_is h1
  obtain ⟨t,q,r⟩:=a_strs es xs h2
  exact ⟨_,a_cons e_str q nostar_str,fun σ H Q h=>r σ H _ h⟩
theorem e_lstS {X : Cx} (xs : List Str) {es : List Expr} {pos} (h : es.map strC = xs.map some:=by kernel_rfl) : QE X (.List es pos) (fun _ H Q=>xs.length <= sizeLine/\∀ p,H p = none->Q (.ref p) (upd H p (.lst (xs.map V.str)))):=by
 obtain ⟨t,q,r⟩:=a_strs (X:=X) es xs h
 refine ⟨fun pins s σ H Q I hq=>(e_lst q).h pins s σ H Q I ?_⟩
 exact r σ H _ ⟨by rw [List.length_map]; exact hq.1,hq.2⟩
end L2
set_option maxHeartbeats 4000000
namespace L2
open PySem PySem.Spec PyProof.Rows
def rngV (i : Int) (n : Nat) (k : Int) : List V:=(List.range n).map fun (m : Nat)=>V.int (i + (m : Int) * k)
theorem rngV_len {i k : Int} {n : Nat} : (rngV i n k).length = n:=by unfold rngV; rw [List.length_map,List.length_range]
theorem vals_rng {i k : Int} : ∀ (n : Nat) (us : List Value) (o : Nat),us.length = n->(∀ (j : Nat) v,us[j]? = some v->∃ t,v = .int (i + ((o + j : Nat) : Int) * k) t)->Vals ((List.range' o n).map fun (m : Nat)=>V.int (i + (m : Int) * k)) us
 | 0,[],_,_,_=>.nil
 | n + 1,u :: us,o,hl,h=>by
  rw [List.range'_succ,List.map_cons]
  refine .cons ?_ (vals_rng n us (o + 1) (by simpa using hl) fun j v e=>?_)
  ·obtain ⟨t,rfl⟩:=h 0 u rfl
   exact ⟨t,rfl⟩
  ·obtain ⟨t,rfl⟩:=h (j + 1) v (by simpa using e)
   exact ⟨t,by rw [show o + 1 + j = o + (j + 1) by omega]⟩
section
variable {X : Cx}
theorem list_rng {pins : List (Addr × Obj)} {σ : St} {H : Hp} {s : Shared} {r : Addr} {a b c : Int} {t u v : Tok} {n : Nat} {Q : VK} {E : Value->Shared->Prop} (hc : X.calm = true) (I : Inv X pins σ H s) (hr : IsRange s.heap r a b c t u v)
  (hsmall : Builtin.Range.small a b c = true) (hn : Builtin.Range.rangeSize a b c = n) (hlen : n <= 2 ^ 24) (q : ∀ l,H l = none->Q (.ref l) (upd H l (.lst (rngV a n c)))) :
  wpAny (model X.prog X.w) X.A (call (.type "list") [.ref r]) (EP X pins σ Q) E s:=by
 refine call_list_range (I.ok.hd hc) hr hsmall hn hlen fun h' tk acc' c' hk hS' hacc=>?_
 have rv : Vals (rngV a n c) acc'.toList:=by
  unfold rngV
  rw [List.range_eq_range']
  refine vals_rng n acc'.toList 0 (by rw [Array.length_toList]; exact hacc.1) fun j v e=>?_
  obtain ⟨t,rfl⟩:=hacc.2 j v (by simpa using e)
  exact ⟨t,by rw [Nat.zero_add]⟩
 have zl:=sizeLine_eq
 refine ⟨.ref s.heap.objs.size,_,I.laid (t':=tk) hk (Nat.le_refl _) (show ObjOk X.prog X.w _ h' _ (.lst (rngV a n c)) from ⟨by rw [rngV_len]; omega,acc'.toList,c',rv,by simpa using hS'⟩),rfl,q _ (I.hok.fresh (Nat.le_refl _))⟩
def Small62 (i : Int) : Prop:=-(2 ^ 62) <= i/\i < 2 ^ 62
def tLRng3 (ta : TA) : TE:=fun σ H Q=>ta σ H fun vs H1=>∃ i j k : Int,vs = [.int i,.int j,.int k]/\Small62 i/\Small62 j/\∃ n : Nat,((k = 1/\n = (j - i).toNat) \/ (k = -1/\n = (i - j).toNat))/\n <= 2 ^ 24/\∀ l,H1 l = none->Q (.ref l) (upd H1 l (.lst (rngV i n k)))
def tLRng2 (ta : TA) : TE:=fun σ H Q=>ta σ H fun vs H1=>∃ i j : Int,vs = [.int i,.int j]/\Small62 i/\Small62 j/\(j - i).toNat <= 2 ^ 24/\∀ l,H1 l = none->Q (.ref l) (upd H1 l (.lst (rngV i (j - i).toNat 1)))
theorem pe_lrng3 {a b c : Expr} {ta : TA} {p p' pos pos' : Pos} (hc : X.calm = true) (hgl : X.env.kindOf "list" = some .globalImplicit) (hml : X.mg "list" = none) (hg : X.env.kindOf "range" = some .globalImplicit) (hm : X.mg "range" = none) (ha : PA X [a,b,c] ta)
  (h1 : nostar a = true) (h2 : nostar b = true) (h3 : nostar c = true) : PE X (.Call (.Name "list" p) [.Call (.Name "range" p') [a,b,c] [] pos'] [] pos) (tLRng3 ta):=by
 intro pins s σ H Q I h
 refine Call_ (ld_blt (u:=.type "list") I hgl hml (by decide +kernel) (PyProof.Rows.callWith_type1 ?_ rfl rfl))
 show wpAny _ _ (spliced ((false,eval (.Call (.Name "range" p') [a,b,c] [] pos') X.env) :: backTo pos (starEach [] X.env))) _ _ s
 refine Calls.spliced_cons (Call_ (ld_blt I hg hm boot_range (PyProof.Rows.callWith_type1 (thn (ha pos' pins s σ H _ I h) fun us s1 ⟨vs,H1,I1,r1,q1⟩=>?_) (star_plain h1) (any_plain (by simp [h2,h3])))))
 obtain ⟨i,j,k,e,si,sj,n,hk,hn,q⟩:=q1
 subst e
 cases r1 with
 | cons r rr =>
  cases rr with
  | cons r' rr =>
   cases rr with
   | cons r'' rr =>
    cases rr
    obtain ⟨t,rfl⟩:=r
    obtain ⟨t',rfl⟩:=r'
    obtain ⟨t'',rfl⟩:=r''
    refine call_range_3 (by omega) ?_ (Or.inl (PyProof.noPylong_small (by omega)))
    refine Calls.spliced_nil ?_
    have I2 : Inv X pins σ H1 { s1 with heap:=s1.heap.push { cls:=.type "range",data:=.fields #[.int i t,.int j t',.int k t''] },toks:=s1.toks }:=I1.kept fun b o e=>Heap.get?_push_of_some _ e
    refine list_rng hc I2 (IsRange.new ..) ?_ ?_ hn q
    ·rcases hk with ⟨rfl,_⟩ | ⟨rfl,_⟩
     ·exact small_one si.1 si.2 sj.1 sj.2
     ·exact PySem.W.small_down si.1 si.2 sj.1 sj.2
    ·rcases hk with ⟨rfl,rfl⟩ | ⟨rfl,rfl⟩
     ·exact PyProof.Rows.rangeSize_nat i j
     ·exact PySem.W.rangeSize_downNat i j
theorem e_lrng3 {a b c : Expr} {t1 t2 t3 : TE} {p p' pos pos' : Pos} (hc : X.calm = true) (hml : X.mg "list" = none) (hm : X.mg "range" = none) (h1 : QE X a t1) (h2 : QE X b t2) (h3 : QE X c t3) (hgl : X.env.kindOf "list" = some .globalImplicit:=by kernel_rfl) (hg : X.env.kindOf "range" = some .globalImplicit:=by kernel_rfl)
  (s1 : nostar a = true:=by rfl) (s2 : nostar b = true:=by rfl) (s3 : nostar c = true:=by rfl) : QE X (.Call (.Name "list" p) [.Call (.Name "range" p') [a,b,c] [] pos'] [] pos) (tLRng3 (tCons t1 (tCons t2 (tCons t3 tNil)))):=⟨pe_lrng3 hc hgl hml hg hm (pa' h1.h (pa' h2.h (pa' h3.h pa_nil s3) s2) s1) s1 s2 s3⟩
theorem g_sub {o i : Expr} {to ti : TE} {pos : Pos} (ho : QE X o to) (hi : QE X i ti)
  (ha : ∀ v,assign (.Subscript o i pos) X.env v = (do
   let ov <- holding [v] (eval o X.env)
   let iv <- holding [v,ov] (eval i X.env)
   standAt pos
   holding [v,ov,iv] (setItem ov iv v)
   release [v,ov,iv] []):=by intro _; rfl) : QG X (.Subscript o i pos) (gSub to ti rSetL):=⟨pg_sub ho.h hi.h set_list ha⟩
theorem ixN_nat {n j : Nat} (h : j < n) : ixN n (j : Int) = some j:=by
 unfold ixN
 simp [h]
end
section
variable {X : Cx} {K : PySem.W.Frag}
theorem ix_tupK (hK : X.K = K) : IxR X (rIxT K):=by subst hK; exact ix_tup
theorem g_tupK {es : List Expr} {k : Nat} {t : TGs} {n : Nat} {pos} (hK : X.K = K) (hc : X.calm = true) (h : QGs X es t) (hn : (assignEach es X.env).length = n:=by rfl) (hst : (assignEach es X.env).findIdx? (·.1) = none:=by rfl) : QG X (.Tuple es k pos) (gTup K n t):=by
 subst hK
 exact g_tup hc h hn hst
end
theorem useQ {X : Cx} {b : List Stmt} {t : TS} {D : Ends} {σ : St} {H : Hp} (h : QSs X b t) (r : t D σ H) : ∃ t,PSs X b t/\t D σ H:=⟨t,h.h,r⟩
end L2
set_option maxHeartbeats 4000000
namespace PySem
namespace F
end F
section
variable {prog : Program} {w : World} {A : Around} {E : Value->Shared->Prop} {s : Shared}
def revTObj (l : Addr) (i : Int) : Obj:={ cls:=.type "reversed",data:=.fields #[.ref l,rawInt i] }
def Heap.IsRevT (h : Heap) (a l : Addr) (i : Int) : Prop:=∃ o,h.get? a = some o/\o.cls = .type "reversed"/\o.data = .fields #[.ref l,rawInt i]
open PyProof.Rows in
open PyProof.Rows in
end
end PySem
set_option maxHeartbeats 4000000
namespace PySem
section
variable {prog : Program} {w : World} {A : Around} {E : Value->Shared->Prop} {s : Shared}
open PyProof.Rows in
end
end PySem
set_option maxHeartbeats 4000000
namespace L2
open PySem PySem.Spec PyProof.Rows
section
variable {X : Cx}
theorem e_dget {o i : Expr} {td ty : TE} {pos : Pos} (hu : X.A.units + 1 < cLine) (ho : QE X o td) (hi : QE X i ty) (hs : NoSl i:=by exact fun _ _=>rfl) : QE X (.Subscript o i pos) (tDGet td ty):=⟨pe_dget hu ho.h hi.h hs⟩
theorem e_extend {o e : Expr} {to te : TE} {apos cpos : Pos} (ho : QE X o to) (ha : QE X e te) (hs : nostar e = true:=by rfl) (hbase : attributeBase o "extend" X.env (eval o X.env) = eval o X.env:=by rfl) (hline : (apos.endLine == cpos.line) = true:=by rfl) :
  QE X (.Call (.Attribute o "extend" apos) [e] [] cpos) (tBM X.K "list" rExtend to (tCons te tNil)):=⟨pe_bm PySem.F.plainAttrs_list PySem.F.slot_list_extend PySem.F.type_list_extend mt_extend ho.h (pa' ha.h pa_nil hs) hbase (by rw [star_plain hs]; rfl) hline (star_plain hs)⟩
end
theorem cat_tupG {prog : Program} {w : World} {A : Around} {E : Value->Shared->Prop} {s : Shared} {t b : Addr} {vs ws : List Value} {Q : Value->Shared->Prop} (ht : IsTup s.heap t vs.toArray) (hb : IsTup s.heap b ws.toArray) (h0 : vs = []->Q (.ref b) s)
  (h1 : vs ≠ []->ws = []->Q (.ref t) s) (h2 : vs ≠ []->ws ≠ []->Q (.ref s.heap.objs.size) { s with heap:=s.heap.push { cls:=.type "tuple",data:=.seq (vs ++ ws).toArray } })
  (hsz : vs.length + ws.length <= sizeLine) : wpAny (model prog w) A (binaryOp .Add (.ref t) (.ref b)) Q E s:=by
 by_cases hv : vs = []
 ·obtain ⟨⟨cls,dd,data,sl⟩,ho,hc,n,hd⟩:=id ht
  obtain ⟨⟨cls2,dd2,data2,sl2⟩,ho2,hc2,n2,hd2⟩:=id hb
  simp only at hc hd hc2 hd2
  subst hc hd hc2 hd2
  exact concat_meets ⟨_,ho,rfl⟩ ⟨_,ho2,rfl⟩ noFill_tuple_add seq_tuple_add PySem.F.slot_tuple_add PySem.F.entry_tuple_add (PySem.F.args_tuple_add_2 _ _)
   (tuple_addW0 t b vs.toArray ws.toArray n n2 dd dd2 sl sl2 (by simp [hv])) ⟨ho,ho2,h0 hv⟩
 ·exact HT.cat_tup ht hb hv (h1 hv) (h2 hv) hsz
def rCatG : R2:=fun x y H Q=>∃ a b xs ys,x = .ref a/\y = .ref b/\H a = some (.tup xs)/\H b = some (.tup ys)/\xs.length + ys.length <= sizeLine/\∀ p H',Same H H'->H' p = some (.tup (xs ++ ys))->Q (.ref p) H'
section
variable {X : Cx}
theorem op_catG : OpR X (binaryOp .Add) rCatG:=by
 intro pins s σ H x y v u Q I rx ry h
 obtain ⟨a,b,xs,ys,rfl,rfl,ha,hb,hz,q⟩:=h
 cases rx
 cases ry
 obtain ⟨its,r1,p1,_⟩:=I.tuple (SqT.of (K:=X.K) ha)
 obtain ⟨its2,r2,p2,_⟩:=I.tuple (SqT.of (K:=X.K) hb)
 refine cat_tupG p1 p2 (fun z=>⟨.ref b,H,I,rfl,q b H (Same.refl _) ?_⟩) (fun _ z=>⟨.ref a,H,I,rfl,q a H (Same.refl _) ?_⟩) (fun _ z=>?_) (by rw [<- r1.length,<- r2.length]; exact hz)
 ·rw [r1.nil_iff.mp z]
  exact hb
 ·rw [r2.nil_iff.mp z,List.append_nil]
  exact ha
 ·have fr : H s.heap.objs.size = none:=I.hok.fresh (Nat.le_refl _)
  refine ⟨.ref s.heap.objs.size,_,I.laid (t':=s.toks) (o:=.tup (xs ++ ys)) (fun b ob q=>Heap.get?_push_of_some _ q) (Nat.le_refl _) ?_,rfl,q _ _ (Same.new fr _) upd_same⟩
  exact ⟨by rw [List.length_append]; exact hz,_,r1.append r2,IsTup.new _ _⟩
theorem getItem_tuple_whole {prog : Program} {w : World} {A : Around} {E : Value->Shared->Prop} {s : Shared} {t sl : Addr} {items : Array Value} {vl vu : Value} {lo hi : Option Int} {Q : Value->Shared->Prop} (ht : IsTup s.heap t items) (hs : s.heap.IsSliceOf sl vl vu .none) (pl : IsPart vl lo) (pu : IsPart vu hi)
  (hw : HT.sIx items.size 0 lo = 0/\HT.sIx items.size items.size hi = items.size) (h : Q (.ref t) s) : wpAny (model prog w) A (getItem (.ref t) (.ref sl)) Q E s:=by
 obtain ⟨os,hos,hcs,hds⟩:=id hs
 have hTs : s.TypeIs (.ref sl) "slice":=⟨os,hos,hcs⟩
 unfold getItem
 try with_reducible refine wpAny_holding ?_
 first | refine wpAny_bind (wpAny_pure ?_) | skip
 refine wpAny_bind (wpAny_sequenceKey ht.typeIs (by decide) ?_)
 refine wpAny_bind (wpAny_callSpecial?_slot (name:=Str.ofString "__getitem__") ht.typeIs PyProof.Rows.slot_tuple_getitem
  (wpAny_call_entry PyProof.Rows.slot_tuple_getitem ht.typeIs entry_tuple_getitem ?_ (args_tuple_getitem _ _)))
 show wpAny _ _ (Builtin.Tuple.tupleItemsOf (.ref t) >>= _) _ _ s
 refine wpAny_bind (tupleItemsOf_ ht ?_)
 refine wpAny_bind (wpAny_typeOf hTs ?_)
 rw [if_pos (by decide)]
 refine wpAny_bind (HT.sliceApplied_gen hs pl pu ?_)
 have hyes : (((HT.sIx items.size 0 lo : Nat) : Int) == 0 && (1 : Int) == 1 && (HT.sIx items.size items.size hi - HT.sIx items.size 0 lo) == items.size) = true:=by
  rw [hw.1,hw.2]
  simp
 show wpAny _ _ (if (((HT.sIx items.size 0 lo : Nat) : Int) == 0 && (1 : Int) == 1 && (HT.sIx items.size items.size hi - HT.sIx items.size 0 lo) == items.size) = true then _ else _) _ _ s
 rw [if_pos hyes]
 refine wpAny_bind (m:=Builtin.Tuple.tupleIsExact _) ?_
 show wpAny _ _ (typeOf (.ref t) >>= _) _ _ s
 refine wpAny_bind (wpAny_typeOf ht.typeIs (wpAny_pure ?_))
 rw [if_pos (by decide)]
 refine wpAny_bind (wpAny_rule ?_)
 exact wpAny_pure ⟨_,rfl,wpAny_pure h⟩
def rSlG : V->Option Int->Option Int->Hp->VK->Prop:=fun x lo hi H Q=>∃ a xs,x = .ref a/\H a = some (.tup xs)/\∀ p H',Same H H'->H' p = some (.tup (cutV xs lo hi))->Q (.ref p) H'
theorem sl_tupG : SlR X rSlG:=by
 intro pins s σ H x v vl vu lo hi sl Q I rx hs pl pu h
 obtain ⟨a,xs,rfl,hx,q⟩:=h
 cases rx
 obtain ⟨its,r,ht,hz⟩:=I.tuple (SqT.of (K:=X.K) hx)
 have hlen : its.toArray.size = xs.length:=by rw [List.size_toArray]; exact r.length.symm
 refine ⟨"tuple",_,PyProof.Rows.slot_tuple_getitem.lookup,ht.typeIs,?_⟩
 by_cases hw : HT.sIx xs.length 0 lo = 0/\HT.sIx xs.length xs.length hi = xs.length
 ·refine getItem_tuple_whole ht hs pl pu (by rw [hlen]; exact hw) ⟨.ref a,H,I,rfl,q a H (Same.refl _) ?_⟩
  unfold cutV
  rw [hw.1,hw.2,List.drop_zero,Nat.sub_zero,List.take_length]
  exact hx
 ·refine HT.getItem_tuple_cut ht hs pl pu (by rw [hlen]; exact hw) ?_ (by rw [hlen]; exact hz)
  rw [hlen]
  have fr : H s.heap.objs.size = none:=I.hok.fresh (Nat.le_refl _)
  refine ⟨.ref s.heap.objs.size,_,I.laid (t':=s.toks) (o:=.tup (cutV xs lo hi)) (fun b ob q=>Heap.get?_push_of_some _ q) (Nat.le_refl _) ?_,rfl,q _ _ (Same.new fr _) upd_same⟩
  exact ⟨Nat.le_trans (cutV_length xs lo hi) hz,_,(r.drop (HT.sIx xs.length 0 lo)).take (HT.sIx xs.length xs.length hi - HT.sIx xs.length 0 lo),IsTup.new _ _⟩
end
def Itv (K : PySem.W.Frag) (a : Addr) (xs : List V) : It :=
 ⟨fun i H=>SqT K H a xs/\i < xs.length,fun i H x H'=>H' = H/\xs.reverse[i]? = some x,fun i H=>SqT K H a xs/\xs.length <= i⟩
def iRevT (K : PySem.W.Frag) (ta : TA) : TI:=fun σ H R=>ta σ H fun vs H1=>∃ a xs,vs = [.ref a]/\SqT K H1 a xs/\R (Itv K a xs) H1
section
variable {X : Cx}
end
end L2
set_option maxHeartbeats 1000000
namespace IT
open PySem
inductive It where
 | clip (r : Str) (f l : Int)
 | times (m : Int) (xs : List It)
 | back (xs : List It)
 | part (n : Str) (xs : List It)
 | fade (m : Int)
structure Cl where
 r : Str
 f : Int
 l : Int
 d : Int
def isF : It->Bool
 | .fade _=>true
 | _=>false
def setF (m : Int) : List Cl->List Cl
 | []=>[]
 | c :: r=>⟨c.r,c.f,c.l,m⟩ :: r
def revA : Int->List Cl->List Cl
 | _,[]=>[]
 | a,c :: r=>⟨c.r,c.l,c.f,a⟩ :: revA c.d r
def rev (cs : List Cl) : List Cl:=revA 0 cs.reverse
def rep (n : Nat) (A : List Cl) : List Cl:=(List.replicate n A).flatten
def step (x : It) (more : List Cl) (s : List Cl × Int) : List Cl × Int :=
 match x with
 | .fade m=>(s.1,m)
 | _=>match more with
  | []=>s
  | c :: r=>(s.1 ++ setF s.2 (c :: r),0)
mutual
def flI : It->List Cl
 | .clip r f l=>[⟨r,f,l,0⟩]
 | .times m xs=>rep m.toNat (run xs ([],0)).1
 | .back xs=>rev (run xs ([],0)).1
 | .part _ xs=>(run xs ([],0)).1
 | .fade _=>[]
def run : List It->List Cl × Int->List Cl × Int
 | [],s=>s
 | x :: r,s=>run r (step x (flI x) s)
end
def flL (xs : List It) : List Cl:=(run xs ([],0)).1
theorem flI_times (m : Int) (xs : List It) : flI (.times m xs) = rep m.toNat (flL xs):=by rw [flI,flL]
theorem flI_back (xs : List It) : flI (.back xs) = rev (flL xs):=by rw [flI,flL]
theorem flI_part (n : Str) (xs : List It) : flI (.part n xs) = flL xs:=by rw [flI,flL]
theorem run_app : ∀ (xs ys : List It) (s : List Cl × Int),run (xs ++ ys) s = run ys (run xs s)
 | [],ys,s=>by rw [List.nil_append,run]
 | x :: r,ys,s=>by rw [List.cons_append,run,run,run_app r ys]
mutual
inductive WI : It->Prop
 | clip {r f l} : WI (.clip r f l)
 | times {m xs} : 1 <= m->m <= 20->WL xs->WI (.times m xs)
 | back {xs} : WL xs->WI (.back xs)
 | part {n xs} : WL xs->WI (.part n xs)
inductive WL : List It->Prop
 | one {x} : WI x->WL [x]
 | cons {x r} : WI x->WL r->WL (x :: r)
 | fade {x m r} : WI x->WL r->WL (x :: .fade m :: r)
end
theorem WI.nf {x : It} (h : WI x) : isF x = false:=by cases h <;> rfl
theorem WL.head {xs : List It} (h : WL xs) : ∃ x r,xs = x :: r/\WI x:=by
 cases h with
 | one h=>exact ⟨_,_,rfl,h⟩
 | cons h _=>exact ⟨_,_,rfl,h⟩
 | fade h _=>exact ⟨_,_,rfl,h⟩
theorem setF_setF (m n : Int) (A : List Cl) : setF m (setF n A) = setF m A:=by cases A <;> rfl
theorem setF_app {m : Int} {A B : List Cl} (h : A ≠ []) : setF m (A ++ B) = setF m A ++ B:=by
 cases A with
 | nil=>exact absurd rfl h
 | cons a r=>rfl
theorem setF_ne {m : Int} {A : List Cl} (h : A ≠ []) : setF m A ≠ []:=by
 cases A with
 | nil=>exact absurd rfl h
 | cons a r=>exact List.cons_ne_nil _ _
theorem setF_len (m : Int) (A : List Cl) : (setF m A).length = A.length:=by cases A <;> rfl
def H0 (A : List Cl) : Prop:=A ≠ []/\setF 0 A = A
theorem step_nf {x : It} {A : List Cl} {s : List Cl × Int} (hx : isF x = false) (hA : A ≠ []) : step x A s = (s.1 ++ setF s.2 A,0):=by
 cases A with
 | nil=>exact absurd rfl hA
 | cons a r=>cases x <;> first | rfl | cases hx
theorem step_frame (x : It) (A F : List Cl) (s : List Cl × Int) : step x A (F ++ s.1,s.2) = (F ++ (step x A s).1,(step x A s).2):=by
 cases x <;> cases A <;> simp [step]
theorem run_frame : ∀ (xs : List It) (F : List Cl) (s : List Cl × Int),run xs (F ++ s.1,s.2) = (F ++ (run xs s).1,(run xs s).2)
 | [],F,s=>by rw [run,run]
 | x :: r,F,s=>by rw [run,run,step_frame,run_frame r F]
theorem run_frame0 (xs : List It) (F : List Cl) (k : Int) : run xs (F,k) = (F ++ (run xs ([],k)).1,(run xs ([],k)).2):=by
 have:=run_frame xs F ([],k)
 rwa [List.append_nil] at this
theorem revA_set (a b : Int) (A : List Cl) : revA a A = setF a (revA b A):=by cases A <;> rfl
theorem rev_len (A : List Cl) : (rev A).length = A.length:=by
 have : ∀ (a : Int) (B : List Cl),(revA a B).length = B.length:=by
  intro a B
  induction B generalizing a with
  | nil=>rfl
  | cons c r ih=>rw [revA,List.length_cons,List.length_cons,ih]
 rw [rev,this,List.length_reverse]
theorem rev_ne {A : List Cl} (h : A ≠ []) : rev A ≠ []:=by
 intro z
 have:=rev_len A
 rw [z] at this
 exact h (List.eq_nil_of_length_eq_zero this.symm)
theorem rev_H0 {A : List Cl} (h : A ≠ []) : H0 (rev A):=by
 refine ⟨rev_ne h,?_⟩
 rw [rev,<- revA_set]
theorem rep_succ (n : Nat) (A : List Cl) : rep (n + 1) A = A ++ rep n A:=by rw [rep,List.replicate_succ,List.flatten_cons,<- rep]
theorem rep_H0 {n : Nat} {A : List Cl} (h : H0 A) (hn : 1 <= n) : H0 (rep n A):=by
 obtain ⟨k,rfl⟩ : ∃ k,n = k + 1:=⟨n - 1,by omega⟩
 rw [rep_succ]
 exact ⟨fun z=>h.1 (List.append_eq_nil_iff.mp z).1,by rw [setF_app h.1,h.2]⟩
theorem rep_len (n : Nat) (A : List Cl) : (rep n A).length = n * A.length:=by
 induction n with
 | zero=>simp [rep]
 | succ n ih=>rw [rep_succ,List.length_append,ih,Nat.succ_mul,Nat.add_comm]
mutual
theorem WI.h0 : ∀ {x : It},WI x->H0 (flI x)
 | _,.clip=>by rw [flI]; exact ⟨List.cons_ne_nil _ _,rfl⟩
 | _,.times h1 _ h=>by rw [flI_times]; exact rep_H0 h.h0.1 (by omega)
 | _,.back h=>by rw [flI_back]; exact rev_H0 h.h0.1.1
 | _,.part h=>by rw [flI_part]; exact h.h0.1
theorem WL.h0 : ∀ {xs : List It},WL xs->H0 (flL xs)/\(run xs ([],0)).2 = 0
 | _,.one (x:=x) h=>by
  have a:=h.h0
  rw [flL,run,step_nf h.nf a.1,run]
  simp only [List.nil_append]
  exact ⟨⟨setF_ne a.1,setF_setF 0 0 _⟩,trivial⟩
 | _,.cons (x:=x) (r:=r) h t=>by
  have a:=h.h0
  obtain ⟨b,c⟩:=t.h0
  rw [flL,run,step_nf h.nf a.1,run_frame0]
  simp only [List.nil_append]
  exact ⟨⟨fun z=>setF_ne a.1 (List.append_eq_nil_iff.mp z).1,by rw [setF_app (setF_ne a.1),setF_setF]⟩,c⟩
 | _,.fade (x:=x) (m:=m) (r:=r) h t=>by
  have a:=h.h0
  obtain ⟨b,c⟩:=t.h0
  rw [flL,run,step_nf h.nf a.1,run,step,run_frame0]
  simp only [List.nil_append]
  refine ⟨⟨fun z=>setF_ne a.1 (List.append_eq_nil_iff.mp z).1,by rw [setF_app (setF_ne a.1),setF_setF]⟩,?_⟩
  obtain ⟨y,q,rfl,hy⟩:=t.head
  have ay:=hy.h0
  have z : ∀ k : Int,(run (y :: q) ([],k)).2 = (run (y :: q) ([],0)).2:=by
   intro k
   rw [run,run,step_nf hy.nf ay.1,step_nf hy.nf ay.1]
   simp only [List.nil_append]
   rw [run_frame0 q (setF k (flI y)) 0,run_frame0 q (setF 0 (flI y)) 0]
  show (run (y :: q) ([],m)).2 = 0
  rw [z,c]
end
theorem WL.run {xs : List It} (h : WL xs) (F : List Cl) (k : Int) : run xs (F,k) = (F ++ setF k (flL xs),0):=by
 obtain ⟨y,q,rfl,hy⟩:=h.head
 have ay:=hy.h0
 have c:=h.h0.2
 rw [flL]
 rw [IT.run,step_nf hy.nf ay.1] at c ⊢
 rw [IT.run,step_nf hy.nf ay.1]
 simp only [List.nil_append] at c ⊢
 rw [run_frame0 q (setF 0 (flI y)) 0] at c ⊢
 rw [run_frame0 q (F ++ setF k (flI y)) 0]
 simp only at c ⊢
 rw [c,setF_app (setF_ne ay.1),setF_setF,List.append_assoc]
theorem fl_one {x : It} (h : WI x) : flL [x] = flI x:=by
 have a:=h.h0
 rw [flL,run,step_nf h.nf a.1,run]
 exact a.2
theorem fl_app {p q : List It} (hp : WL p) (hq : WL q) : flL (p ++ q) = flL p ++ flL q:=by
 have a:=hq.h0.1
 rw [flL,run_app,hp.run,hq.run]
 simp only [List.nil_append]
 rw [hp.h0.1.2,a.2]
theorem fl_appF {p q : List It} {m : Int} (hp : WL p) (hq : WL q) : flL (p ++ .fade m :: q) = flL p ++ setF m (flL q):=by
 rw [flL,run_app,hp.run,IT.run,step,hq.run]
 simp only [List.nil_append]
 rw [hp.h0.1.2]
def inp (xs : List It) : List It:=if (xs.take 1 ++ xs.drop (xs.length - 1)).any isF then [.times 1 xs] else xs
mutual
def tI : It->List It
 | .clip r f l=>[.clip r l f]
 | .times m xs=>[.times m (tL xs)]
 | .part n xs=>[.back [.part n xs]]
 | .back xs=>inp (sL xs)
 | .fade m=>[.fade m]
def tL : List It->List It
 | []=>[]
 | x :: r=>tL r ++ tI x
def sI : It->List It
 | .clip r f l=>[.clip r f l]
 | .times m xs=>[.times m (sL xs)]
 | .part n xs=>[.part n xs]
 | .back xs=>inp (tL xs)
 | .fade m=>[.fade m]
def sL : List It->List It
 | []=>[]
 | x :: r=>sI x ++ sL r
end
end IT
set_option maxHeartbeats 1000000
namespace IT
open PySem
mutual
def dI : It->PyData
 | .clip r f l=>.tuple [.str "clip",.str r,.int f,.int l]
 | .times m xs=>.tuple [.str "times",.int m,.tuple (dL xs)]
 | .back xs=>.tuple [.str "back",.tuple (dL xs)]
 | .part n _=>.tuple [.str "part",.str n]
 | .fade m=>.tuple [.str "fade",.int m]
def dL : List It->List PyData
 | []=>[]
 | x :: r=>dI x :: dL r
end
theorem dL_map : ∀ xs : List It,dL xs = xs.map dI
 | []=>by rw [dL]; rfl
 | x :: r=>by rw [dL,dL_map r]; rfl
theorem dL_app (p q : List It) : dL (p ++ q) = dL p ++ dL q:=by rw [dL_map,dL_map,dL_map,List.map_append]
mutual
def okI (T : Str->Prop) (G : Str->List It->Prop) : It->Prop
 | .clip r _ _=>T r
 | .times _ xs=>okL T G xs
 | .back xs=>okL T G xs
 | .part n xs=>G n xs
 | .fade _=>True
def okL (T : Str->Prop) (G : Str->List It->Prop) : List It->Prop
 | []=>True
 | x :: r=>okI T G x/\okL T G r
end
section
variable {T : Str->Prop} {G : Str->List It->Prop}
end
mutual
def dpI : It->Nat
 | .clip _ _ _=>0
 | .times _ xs=>dpL xs + 1
 | .back xs=>dpL xs + 1
 | .part _ xs=>dpL xs + 1
 | .fade _=>0
def dpL : List It->Nat
 | []=>0
 | x :: r=>max (dpI x) (dpL r)
end
theorem dpL_le {d : Nat} : ∀ {xs : List It},dpL xs <= d ↔ ∀ x ∈ xs,dpI x <= d
 | []=>by rw [dpL]; exact ⟨fun _ x h=>(nomatch h),fun _=>Nat.zero_le _⟩
 | y :: r=>by
  rw [dpL,Nat.max_le,dpL_le (xs:=r)]
  constructor
  ·intro h x hx
   rcases List.mem_cons.mp hx with rfl | z
   ·exact h.1
   ·exact h.2 x z
  ·exact fun h=>⟨h y (List.mem_cons_self ..),fun x hx=>h x (List.mem_cons_of_mem _ hx)⟩
theorem dpL_app {d : Nat} {p q : List It} (hp : dpL p <= d) (hq : dpL q <= d) : dpL (p ++ q) <= d:=dpL_le.mpr fun x hx=>by
 rcases List.mem_append.mp hx with z | z
 ·exact dpL_le.mp hp x z
 ·exact dpL_le.mp hq x z
theorem dp1 {d : Nat} {x : It} (h : dpI x <= d) : dpL [x] <= d:=by rw [dpL,dpL]; omega
mutual
def wI : It->Nat
 | .clip _ _ _=>1
 | .times _ xs=>wL xs + 1
 | .back xs=>wL xs + 1
 | .part _ _=>1
 | .fade _=>1
def wL : List It->Nat
 | []=>0
 | x :: r=>wI x + wL r
end
theorem wL_app : ∀ p q : List It,wL (p ++ q) = wL p + wL q
 | [],q=>by rw [List.nil_append,wL,Nat.zero_add]
 | x :: r,q=>by rw [List.cons_append,wL,wL,wL_app r q]; omega
theorem wI_pos (x : It) : 1 <= wI x:=by cases x <;> simp [wI]
theorem wL_len : ∀ xs : List It,xs.length <= wL xs
 | []=>Nat.zero_le _
 | x :: r=>by have:=wL_len r; have:=wI_pos x; rw [wL,List.length_cons]; omega
theorem wL_mem : ∀ {xs : List It} {x : It},x ∈ xs->wI x <= wL xs
 | y :: r,x,h=>by
  rw [wL]
  rcases List.mem_cons.mp h with rfl | z
  ·omega
  ·have:=wL_mem z; omega
mutual
def plI : It->Prop
 | .clip _ _ _=>True
 | .times _ xs=>plL xs/\xs ≠ []
 | .back xs=>∃ n ys,xs = [.part n ys]
 | .part _ _=>True
 | .fade _=>True
def plL : List It->Prop
 | []=>True
 | x :: r=>plI x/\plL r
end
mutual
def cnI : It->Int
 | .clip _ _ _=>1
 | .times m xs=>m * cnL xs
 | .back xs=>cnL xs
 | .part _ xs=>cnL xs
 | .fade _=>0
def cnL : List It->Int
 | []=>0
 | x :: r=>cnI x + cnL r
end
mutual
def frI : It->Int
 | .clip _ f l=>(if l - f < 0 then -(l - f) else l - f) + 1
 | .times m xs=>m * frL xs
 | .back xs=>frL xs
 | .part _ xs=>frL xs
 | .fade _=>0
def frL : List It->Int
 | []=>0
 | x :: r=>frI x + frL r
end
theorem cnL_app : ∀ p q : List It,cnL (p ++ q) = cnL p + cnL q
 | [],q=>by rw [List.nil_append,cnL,Int.zero_add]
 | x :: r,q=>by rw [List.cons_append,cnL,cnL,cnL_app r q]; omega
theorem step_len (x : It) (A : List Cl) (s : List Cl × Int) (h : isF x = true->A = []) : (step x A s).1.length = s.1.length + A.length:=by
 cases x with
 | fade m=>rw [h rfl]; simp [step]
 | _=>cases A <;> simp [step,setF_len]
theorem fl_fade {x : It} (h : isF x = true) : flI x = []:=by cases x with | fade m=>rw [flI] | _=>cases h
theorem rep_cast {m : Int} (h : 0 <= m) (A : List Cl) : ((rep m.toNat A).length : Int) = m * (A.length : Int):=by
 rw [rep_len,Int.natCast_mul,Int.toNat_of_nonneg h]
mutual
theorem cn_len : ∀ {x : It},WI x->((flI x).length : Int) = cnI x
 | _,.clip=>by rw [flI,cnI]; rfl
 | _,.times h1 _ h=>by rw [flI_times,rep_cast (by omega),cn_lenL h,cnI]
 | _,.back h=>by rw [flI_back,rev_len,cn_lenL h,cnI]
 | _,.part h=>by rw [flI_part,cn_lenL h,cnI]
theorem cn_lenL : ∀ {xs : List It},WL xs->((flL xs).length : Int) = cnL xs
 | _,.one h=>by rw [fl_one h,cn_len h,cnL,cnL,Int.add_zero]
 | _,.cons (x:=x) (r:=r) h t=>by
  have e : flL (x :: r) = flL [x] ++ flL r:=fl_app (.one h) t
  rw [e,List.length_append,fl_one h,Int.natCast_add,cn_len h,cn_lenL t,cnL]
 | _,.fade (x:=x) (m:=m) (r:=r) h t=>by
  have e : flL (x :: .fade m :: r) = flL [x] ++ setF m (flL r):=fl_appF (.one h) t
  rw [e,List.length_append,setF_len,fl_one h,Int.natCast_add,cn_len h,cn_lenL t,cnL,cnL,cnI,Int.zero_add]
end
mutual
theorem cn_pos : ∀ {x : It},WI x->1 <= cnI x
 | _,.clip=>by rw [cnI]; omega
 | _,.times (m:=m) h1 _ h=>by
  rw [cnI]
  have a:=cn_posL h
  have b : m * 1 <= m * cnL _:=Int.mul_le_mul_of_nonneg_left a (by omega)
  omega
 | _,.back h=>by rw [cnI]; exact cn_posL h
 | _,.part h=>by rw [cnI]; exact cn_posL h
theorem cn_posL : ∀ {xs : List It},WL xs->1 <= cnL xs
 | _,.one h=>by rw [cnL,cnL,Int.add_zero]; exact cn_pos h
 | _,.cons h t=>by rw [cnL]; have:=cn_pos h; have:=cn_posL t; omega
 | _,.fade h t=>by rw [cnL,cnL,cnI]; have:=cn_pos h; have:=cn_posL t; omega
end
end IT
set_option maxHeartbeats 1000000
namespace IT
open PySem
theorem WL.mem : ∀ {xs : List It},WL xs->∀ x ∈ xs,WI x \/ ∃ m,x = .fade m
 | _,.one h,x,hx=>by rw [List.mem_singleton.mp hx]; exact .inl h
 | _,.cons h t,x,hx=>by
  rcases List.mem_cons.mp hx with rfl | z
  ·exact .inl h
  ·exact t.mem x z
 | _,.fade h t,x,hx=>by
  rcases List.mem_cons.mp hx with rfl | z
  ·exact .inl h
  ·rcases List.mem_cons.mp z with rfl | z
   ·exact .inr ⟨_,rfl⟩
   ·exact t.mem x z
theorem cn_nn {x : It} (h : WI x \/ ∃ m,x = .fade m) : 0 <= cnI x:=by
 rcases h with h | ⟨m,rfl⟩
 ·have:=cn_pos h; omega
 ·rw [cnI]; omega
theorem run_len : ∀ (xs : List It) (s : List Cl × Int),(∀ x ∈ xs,WI x \/ ∃ m,x = .fade m)->((run xs s).1.length : Int) = s.1.length + cnL xs
 | [],s,_=>by rw [run,cnL,Int.add_zero]
 | x :: r,s,h=>by
  rw [run,run_len r _ fun y hy=>h y (List.mem_cons_of_mem _ hy),cnL,step_len x (flI x) s fl_fade]
  have : ((flI x).length : Int) = cnI x:=by
   rcases h x (List.mem_cons_self ..) with w | ⟨m,rfl⟩
   ·exact cn_len w
   ·rw [flI,cnI]; rfl
  omega
theorem cnL_take : ∀ (xs : List It) (i : Nat),(∀ x ∈ xs,WI x \/ ∃ m,x = .fade m)->cnL (xs.take i) <= cnL xs/\0 <= cnL xs
 | [],i,_=>by rw [List.take_nil,cnL]; omega
 | x :: r,0,h=>by
  have a:=cn_nn (h x (List.mem_cons_self ..))
  have b:=(cnL_take r 0 fun y hy=>h y (List.mem_cons_of_mem _ hy)).2
  rw [List.take_zero,cnL,cnL]
  omega
 | x :: r,i + 1,h=>by
  have a:=cn_nn (h x (List.mem_cons_self ..))
  have b:=cnL_take r i fun y hy=>h y (List.mem_cons_of_mem _ hy)
  rw [List.take_succ_cons,cnL,cnL]
  omega
theorem cnI_le : ∀ {xs : List It} {x : It},(∀ x ∈ xs,WI x \/ ∃ m,x = .fade m)->x ∈ xs->cnI x <= cnL xs
 | y :: r,x,h,hx=>by
  have a:=cn_nn (h y (List.mem_cons_self ..))
  have b:=(cnL_take r 0 fun y hy=>h y (List.mem_cons_of_mem _ hy)).2
  rw [cnL]
  rcases List.mem_cons.mp hx with rfl | z
  ·omega
  ·have:=cnI_le (fun y hy=>h y (List.mem_cons_of_mem _ hy)) z; omega
def NM (T : Str->Prop) (cs : List Cl) : Prop:=∀ c ∈ cs,T c.r
section
variable {T : Str->Prop} {G : Str->List It->Prop}
end
end IT
set_option maxHeartbeats 1000000
namespace DT
open PySem L2 G
mutual
inductive Td (H : Hp) : V->PyData->Prop
 | int (i : Int) : Td H (.int i) (.int i)
 | str (x : Str) : Td H (.str x) (.str x)
 | tup {a : Addr} {vs : List V} {ds : List PyData} : H a = some (.tup vs)->Tds H vs ds->Td H (.ref a) (.tuple ds)
inductive Tds (H : Hp) : List V->List PyData->Prop
 | nil : Tds H [] []
 | cons {v : V} {vs : List V} {d : PyData} {ds : List PyData} : Td H v d->Tds H vs ds->Tds H (v :: vs) (d :: ds)
end
def TK (H H' : Hp) : Prop:=∀ a xs,H a = some (.tup xs)->H' a = some (.tup xs)
theorem TK.trans {H H1 H2 : Hp} (a : TK H H1) (b : TK H1 H2) : TK H H2:=fun c o h=>b c o (a c o h)
theorem TK.of {H H' : Hp} (s : Same H H') : TK H H':=fun _ _ h=>s _ _ h
theorem TK.lst {H : Hp} {p : Addr} {xs : List V} {o : HO} (h : H p = some (.lst xs)) : TK H (upd H p o):=fun a ys e=>by rw [upd_ne (ne_of e h (by intro z; cases z))]; exact e
theorem TK.dk {H : Hp} {p : Addr} {kvs : List (Key × V)} {o : HO} (h : H p = some (.dK kvs)) : TK H (upd H p o):=fun a ys e=>by rw [upd_ne (ne_of e h (by intro z; cases z))]; exact e
theorem TK.new {H : Hp} {p : Addr} (h : H p = none) (o : HO) : TK H (upd H p o):=TK.of (Same.new h o)
mutual
theorem Td.tk {H H' : Hp} (t : TK H H') : ∀ {v : V} {d : PyData},Td H v d->Td H' v d
 | _,_,.int i=>.int i
 | _,_,.str x=>.str x
 | _,_,.tup h r=>.tup (t _ _ h) (r.tk t)
theorem Tds.tk {H H' : Hp} (t : TK H H') : ∀ {vs : List V} {ds : List PyData},Tds H vs ds->Tds H' vs ds
 | _,_,.nil=>.nil
 | _,_,.cons h r=>.cons (h.tk t) (r.tk t)
end
mutual
theorem Td.den {K : PySem.W.Frag} {H : Hp} : ∀ {v : V} {d : PyData},Td H v d->Den K H v d
 | _,_,.int i=>.int i
 | _,_,.str x=>.str x
 | _,_,.tup h r=>.tup (SqT.of h) r.den
theorem Tds.den {K : PySem.W.Frag} {H : Hp} : ∀ {vs : List V} {ds : List PyData},Tds H vs ds->DenAll K H vs ds
 | _,_,.nil=>.nil
 | _,_,.cons h r=>.cons h.den r.den
end
theorem Tds.len {H : Hp} : ∀ {vs : List V} {ds : List PyData},Tds H vs ds->vs.length = ds.length
 | _,_,.nil=>rfl
 | _,_,.cons _ r=>by rw [List.length_cons,List.length_cons,r.len]
theorem Tds.app {H : Hp} : ∀ {vs us : List V} {ds es : List PyData},Tds H vs ds->Tds H us es->Tds H (vs ++ us) (ds ++ es)
 | _,_,_,_,.nil,h=>h
 | _,_,_,_,.cons a r,h=>.cons a (r.app h)
theorem Tds.one {H : Hp} {v : V} {d : PyData} (h : Td H v d) : Tds H [v] [d]:=.cons h .nil
theorem Tds.get {H : Hp} : ∀ {vs : List V} {ds : List PyData} {i : Nat} {v : V},Tds H vs ds->vs[i]? = some v->∃ d,ds[i]? = some d/\Td H v d
 | _,_,0,_,.cons h _,e=>by cases e; exact ⟨_,rfl,h⟩
 | _,_,i + 1,_,.cons _ r,e=>r.get (i:=i) e
theorem Tds.at {H : Hp} : ∀ {vs : List V} {ds : List PyData} {i : Nat} {d : PyData},Tds H vs ds->ds[i]? = some d->∃ v,vs[i]? = some v/\Td H v d
 | _,_,0,_,.cons h _,e=>by cases e; exact ⟨_,rfl,h⟩
 | _,_,i + 1,_,.cons _ r,e=>r.at (i:=i) e
theorem Tds.drop {H : Hp} : ∀ {vs : List V} {ds : List PyData} (n : Nat),Tds H vs ds->Tds H (vs.drop n) (ds.drop n)
 | _,_,0,h=>h
 | _,_,n + 1,.nil=>.nil
 | _,_,n + 1,.cons h r=>r.drop n
theorem cut_first (vs : List V) : cutV vs none (some 1) = vs.take 1:=by
 unfold cutV
 have e : HT.sIx vs.length vs.length (some 1) = min 1 vs.length:=HT.sIx_nat _ _ 1
 rw [e,HT.sIx_none,List.drop_zero,Nat.sub_zero]
 cases vs with
 | nil=>rfl
 | cons a r=>rw [Nat.min_eq_left (by rw [List.length_cons]; omega)]
theorem cut_from (vs : List V) (k : Nat) : cutV vs (some (k : Int)) none = vs.drop k:=by
 unfold cutV
 rw [HT.sIx_nat,HT.sIx_none]
 by_cases h : k <= vs.length
 ·rw [Nat.min_eq_left h,List.take_of_length_le (by rw [List.length_drop]; omega)]
 ·rw [Nat.min_eq_right (by omega),Nat.sub_self,List.take_zero,List.drop_eq_nil_of_le (by omega)]
theorem Tds.rev {H : Hp} : ∀ {vs : List V} {ds : List PyData},Tds H vs ds->Tds H vs.reverse ds.reverse
 | _,_,.nil=>.nil
 | _,_,.cons h r=>by
  rw [List.reverse_cons,List.reverse_cons]
  exact r.rev.app (.cons h .nil)
theorem Tds.rep {H : Hp} {vs : List V} {ds : List PyData} (h : Tds H vs ds) : ∀ n : Nat,Tds H (List.replicate n vs).flatten (List.replicate n ds).flatten
 | 0=>.nil
 | n + 1=>by
  rw [List.replicate_succ,List.replicate_succ,List.flatten_cons,List.flatten_cons]
  exact h.app (h.rep n)
theorem Td.tinv {H : Hp} {v : V} {ds : List PyData} (h : Td H v (.tuple ds)) : ∃ a vs,v = .ref a/\H a = some (.tup vs)/\Tds H vs ds:=by
 cases h with
 | tup h r=>exact ⟨_,_,rfl,h,r⟩
theorem Td.sinv {H : Hp} {v : V} {x : Str} (h : Td H v (.str x)) : v = .str x:=by cases h; rfl
theorem Td.iinv {H : Hp} {v : V} {x : Int} (h : Td H v (.int x)) : v = .int x:=by cases h; rfl
open IT
def kd : IT.It->Str
 | .clip _ _ _=>"clip"
 | .times _ _=>"times"
 | .back _=>"back"
 | .part _ _=>"part"
 | .fade _=>"fade"
theorem td_clip {H : Hp} {v : V} {r : Str} {f l : Int} (h : Td H v (dI (.clip r f l))) : ∃ a,v = .ref a/\H a = some (.tup [.str "clip",.str r,.int f,.int l]):=by
 rw [dI] at h
 obtain ⟨a,vs,rfl,h1,h2⟩:=h.tinv
 cases h2 with | cons a1 h2=>cases h2 with | cons a2 h2=>cases h2 with | cons a3 h2=>cases h2 with | cons a4 h2=>cases h2; rw [a1.sinv,a2.sinv,a3.iinv,a4.iinv] at h1; exact ⟨_,rfl,h1⟩
theorem td_times {H : Hp} {v : V} {m : Int} {xs : List IT.It} (h : Td H v (dI (.times m xs))) : ∃ a b,v = .ref a/\H a = some (.tup [.str "times",.int m,.ref b])/\Td H (.ref b) (.tuple (dL xs)):=by
 rw [dI] at h
 obtain ⟨a,vs,rfl,h1,h2⟩:=h.tinv
 cases h2 with | cons a1 h2=>cases h2 with | cons a2 h2=>cases h2 with | cons a3 h2=>cases h2; rw [a1.sinv,a2.iinv] at h1; obtain ⟨b,us,rfl,h3,h4⟩:=a3.tinv; exact ⟨_,b,rfl,h1,.tup h3 h4⟩
theorem td_back {H : Hp} {v : V} {xs : List IT.It} (h : Td H v (dI (.back xs))) : ∃ a b,v = .ref a/\H a = some (.tup [.str "back",.ref b])/\Td H (.ref b) (.tuple (dL xs)):=by
 rw [dI] at h
 obtain ⟨a,vs,rfl,h1,h2⟩:=h.tinv
 cases h2 with | cons a1 h2=>cases h2 with | cons a3 h2=>cases h2; rw [a1.sinv] at h1; obtain ⟨b,us,rfl,h3,h4⟩:=a3.tinv; exact ⟨_,b,rfl,h1,.tup h3 h4⟩
theorem td_part {H : Hp} {v : V} {n : Str} {xs : List IT.It} (h : Td H v (dI (.part n xs))) : ∃ a,v = .ref a/\H a = some (.tup [.str "part",.str n]):=by
 rw [dI] at h
 obtain ⟨a,vs,rfl,h1,h2⟩:=h.tinv
 cases h2 with | cons a1 h2=>cases h2 with | cons a2 h2=>cases h2; rw [a1.sinv,a2.sinv] at h1; exact ⟨_,rfl,h1⟩
theorem td_fade {H : Hp} {v : V} {m : Int} (h : Td H v (dI (.fade m))) : ∃ a,v = .ref a/\H a = some (.tup [.str "fade",.int m]):=by
 rw [dI] at h
 obtain ⟨a,vs,rfl,h1,h2⟩:=h.tinv
 cases h2 with | cons a1 h2=>cases h2 with | cons a2 h2=>cases h2; rw [a1.sinv,a2.iinv] at h1; exact ⟨_,rfl,h1⟩
theorem td_kd {H : Hp} {v : V} {x : IT.It} (h : Td H v (dI x)) : ∃ a vs,v = .ref a/\H a = some (.tup (.str (kd x) :: vs)):=by
 cases x with
 | clip r f l=>obtain ⟨a,rfl,e⟩:=td_clip h; exact ⟨a,_,rfl,e⟩
 | times m xs=>obtain ⟨a,b,rfl,e,_⟩:=td_times h; exact ⟨a,_,rfl,e⟩
 | back xs=>obtain ⟨a,b,rfl,e,_⟩:=td_back h; exact ⟨a,_,rfl,e⟩
 | part n xs=>obtain ⟨a,rfl,e⟩:=td_part h; exact ⟨a,_,rfl,e⟩
 | fade m=>obtain ⟨a,rfl,e⟩:=td_fade h; exact ⟨a,_,rfl,e⟩
theorem mk_clip {H : Hp} {a : Addr} {r : Str} {f l : Int} (h : H a = some (.tup [.str "clip",.str r,.int f,.int l])) : Td H (.ref a) (dI (.clip r f l)):=by
 rw [dI]; exact .tup h (.cons (.str _) (.cons (.str _) (.cons (.int _) (.cons (.int _) .nil))))
theorem mk_times {H : Hp} {a b : Addr} {m : Int} {xs : List IT.It} (h : H a = some (.tup [.str "times",.int m,.ref b])) (hb : Td H (.ref b) (.tuple (dL xs))) : Td H (.ref a) (dI (.times m xs)):=by
 rw [dI]; exact .tup h (.cons (.str _) (.cons (.int _) (.cons hb .nil)))
theorem mk_back {H : Hp} {a b : Addr} {xs : List IT.It} (h : H a = some (.tup [.str "back",.ref b])) (hb : Td H (.ref b) (.tuple (dL xs))) : Td H (.ref a) (dI (.back xs)):=by
 rw [dI]; exact .tup h (.cons (.str _) (.cons hb .nil))
theorem mk_part {H : Hp} {a : Addr} {n : Str} {xs : List IT.It} (h : H a = some (.tup [.str "part",.str n])) : Td H (.ref a) (dI (.part n xs)):=by
 rw [dI]; exact .tup h (.cons (.str _) (.cons (.str _) .nil))
theorem mk_fade {H : Hp} {a : Addr} {m : Int} (h : H a = some (.tup [.str "fade",.int m])) : Td H (.ref a) (dI (.fade m)):=by
 rw [dI]; exact .tup h (.cons (.str _) (.cons (.int _) .nil))
theorem sne {x y : Str} (h : (x == y) = false:=by decide +kernel) : decide (V.str x = V.str y) = false:=decide_eq_false fun e=>by
 cases e
 rw [beq_self_eq_true] at h
 cases h
theorem seq (x : Str) : decide (V.str x = V.str x) = true:=decide_eq_true rfl
theorem iteN {c : Bool} {A B : Prop} (h : c = false) (b : B) : if c = true then A else B:=by rw [h]; exact iteF b
theorem iteY {c : Bool} {A B : Prop} (h : c = true) (a : A) : if c = true then A else B:=by rw [h]; exact iteT a
theorem kd_fade : ∀ x : IT.It,decide (V.str (kd x) = V.str "fade") = isF x
 | .clip _ _ _=>(sne : decide (V.str "clip" = V.str "fade") = false)
 | .times _ _=>(sne : decide (V.str "times" = V.str "fade") = false)
 | .back _=>(sne : decide (V.str "back" = V.str "fade") = false)
 | .part _ _=>(sne : decide (V.str "part" = V.str "fade") = false)
 | .fade _=>(seq _ : decide (V.str "fade" = V.str "fade") = true)
theorem dL_get {xs : List IT.It} {i : Nat} {d : PyData} (h : (dL xs)[i]? = some d) : ∃ x,xs[i]? = some x/\d = dI x:=by
 rw [dL_map,List.getElem?_map] at h
 cases e : xs[i]? with
 | none=>rw [e] at h; cases h
 | some x=>rw [e] at h; exact ⟨x,rfl,(Option.some.inj h).symm⟩
def IL (H : Hp) (l : Addr) (xs : List IT.It) : Prop:=∃ vs,H l = some (.lst vs)/\Tds H vs (dL xs)
def dC (c : Cl) : PyData:=.tuple [.str c.r,.int c.f,.int c.l,.int c.d]
theorem td_cl {H : Hp} {v : V} {c : Cl} (h : Td H v (dC c)) : ∃ a,v = .ref a/\H a = some (.tup [.str c.r,.int c.f,.int c.l,.int c.d]):=by
 obtain ⟨a,vs,rfl,h1,h2⟩:=Td.tinv h
 cases h2 with | cons a1 h2=>cases h2 with | cons a2 h2=>cases h2 with | cons a3 h2=>cases h2 with | cons a4 h2=>cases h2; rw [a1.sinv,a2.iinv,a3.iinv,a4.iinv] at h1; exact ⟨_,rfl,h1⟩
theorem mk_cl {H : Hp} {a : Addr} {c : Cl} (h : H a = some (.tup [.str c.r,.int c.f,.int c.l,.int c.d])) : Td H (.ref a) (dC c):=.tup h (.cons (.str _) (.cons (.int _) (.cons (.int _) (.cons (.int _) .nil))))
def CL (H : Hp) (l : Addr) (cs : List Cl) : Prop:=∃ vs,H l = some (.lst vs)/\Tds H vs (cs.map dC)
def CF (cs : List Cl) : Prop:=∀ c ∈ cs,Fine c.r
end DT
set_option maxHeartbeats 4000000
namespace L2
open PySem PySem.Spec PyProof.Rows PySem.Builtin PySem.Builtin.Str
section
variable {X : Cx}
def rSplit : V->List V->Hp->VK->Prop:=fun x vs H Q=>∃ z y,x = .str z/\vs = [.str y]/\(y.length == 0) = false/\z.length + 2 <= sizeLine/\∀ p,H p = none->Q (.ref p) (upd H p (.lst ((Txt.split z y).map V.str)))
def rPart : V->List V->Hp->VK->Prop:=fun x vs H Q=>∃ z y,x = .str z/\vs = [.str y]/\(y.length == 0) = false/\z.length <= sizeLine/\∀ p,H p = none->Q (.ref p) (upd H p (.tup [.str (Txt.partition z y).1,.str (Txt.partition z y).2.1,.str (Txt.partition z y).2.2]))
def rStarts : V->List V->Hp->VK->Prop:=fun x vs H Q=>∃ z y,x = .str z/\vs = [.str y]/\Q (.bl (Txt.startswith z y)) H
def rEnds : V->List V->Hp->VK->Prop:=fun x vs H Q=>∃ z y,x = .str z/\vs = [.str y]/\Q (.bl (Txt.endswith z y)) H
def rCount : V->List V->Hp->VK->Prop:=fun x vs H Q=>∃ z y,x = .str z/\vs = [.str y]/\Q (.int (Txt.count z y)) H
theorem e_pop {o : Expr} {to : TE} {apos cpos : Pos} (ho : QE X o to) (hbase : attributeBase o "pop" X.env (eval o X.env) = eval o X.env:=by rfl) (hline : (apos.endLine == cpos.line) = true:=by rfl) :
  QE X (.Call (.Attribute o "pop" apos) [] [] cpos) (tBM0 X.K "list" rPop to):=⟨pe_bm0 PySem.F.plainAttrs_list PySem.F.slot_list_pop PySem.F.type_list_pop mt_pop ho.h hbase hline⟩
def tF (te : TE) : TE:=fun σ H Q=>te σ H fun v H1=>(∃ x,v = .str x/\x.length <= sizeLine/\Q (.str x) H1) \/ ∃ i,v = .int i/\i.natAbs.log2 < 1920/\Q (.str (toString i)) H1
abbrev TJ:=Str->St->Hp->VK->Prop
structure QJ (X : Cx) (es : List Expr) (t : TJ) : Prop where
 h : ∀ (out : Str) (pins : List (Addr × Obj)) (s : Shared) (σ : St) (H : Hp) (Q : VK),Inv X pins σ H s->t out σ H Q->wpAny (model X.prog X.w) X.A (joinParts out (evalEach es X.env)) (EP X pins σ Q) X.xe s
end
end L2
set_option maxHeartbeats 4000000
namespace L2
open PySem PySem.Spec PyProof.Rows
def CompedT (J : It) (n : Nat) (cap : St) (g : TG) (te : TE) (Q : VK) (H1 : Hp) : Prop:=∀ D,H1 D = none->∃ W : Nat->Nat->List V->Hp->Prop,(∃ m,W 0 m [] (upd H1 D (.lst [])))/\∀ i m ys H2,W i m ys H2->H2 D = some (.lst ys) /\
 ((J.stop i H2/\Q (.ref D) H2) \/ (J.go i H2/\∀ x H3 (xo : St),xo.length = n->J.yld i H2 x H3->g x (xo ++ cap) H3 fun σ6 H6=>(∃ xo' : St,xo'.length = n/\σ6 = xo' ++ cap)/\te σ6 H6 fun y H4=>H4 D = some (.lst ys)/\ys.length < sizeLine/\∃ m',m' < m/\W (i + 1) m' (ys ++ [y]) (upd H4 D (.lst (ys ++ [y])))))
def tCompT (wi : TI) (n : Nat) (js : List Nat) (g : TG) (te : TE) : TE:=fun σ H Q=>wi σ H fun J H1=>CompedT J n (capt σ js) g te Q H1
section
variable {X : Cx} {pos : Pos} {elt iter : Expr} {sc : Scope} {xs ys : List Str} {js : List Nat} {cl : List (Str × Addr)}
theorem inv_compT {pins : List (Addr × Obj)} {σ : St} {H : Hp} {s s4 : Shared} {fp : List Addr} {C : Addr} {H4 : Hp} {m : Str->Option Value} (I : Inv X pins σ H s) (hf : ∀ b ∈ fp,FpOk X pins H b)
  (hkind : sc.kind = .function) (hcap : Caps X sc cl ys js) (hin : ∀ y c,cl.lookup y = some c->X.env.cells.lookup y = some c) (hhas : ∀ y,((relabel sc X.env).names.lookup y = some .cell \/ (relabel sc X.env).names.lookup y = some .free)->∃ c,cl.lookup y = some c)
  (hfl : ∀ b ∈ fp,b < s.heap.objs.size) (hC : s.heap.objs.size <= C) (hos : s4.os = s.os) (hb : AllBare s4.gens) (un : Un (frs X.stack) fp H H4 s.heap s4.heap) (kp : ∀ b o,s.heap.get? b = some o->s4.heap.get? b = some o) (hn : s4.heap.Ns C m) (hC4 : H4 C = none)
  (hok : HOk X.prog X.w H4 s4.heap) : Inv (compCx X sc (xs ++ ys) cl s H C fp) [] ((xs.map fun _=>none) ++ capt σ js) H4 s4:=by
 have frb : ∀ b ∈ fp,b ∉ frs X.stack:=fun b hb z=>by
  rcases List.mem_cons.mp (I.stkSub b z) with q | q
  ·exact (hf b hb).2.1 q
  ·exact (hf b hb).2.2.1 q
 refine ⟨⟨I.ok.mod,hkind,I.ok.glob,I.ok.blt,hC,fun y z c h1 h2=>I.ok.inj y z c (hin y c h1) (hin z c h2),hhas,(fun _ _ z=>nomatch z),I.ok.hd,I.ok.frames,.inl rfl,fun b z=>⟨?_,fun y c e=>?_⟩,I.bs,Nat.le_trans I.ok.bsz I.sz,fun b o e z=>?_,frb,I.stack,I.stkFree⟩,
  hos,hb,un,⟨m,hn,fun i y v e1 e2 e3=>?_⟩,fun y c e=>?_,hC4,fun y c e=>?_,fun p hp=>?_,hok,?_⟩
 ·exact Nat.ne_of_lt (Nat.lt_of_lt_of_le (hfl b z) hC)
 ·exact (hf b z).2.2.2.2.1 y c (hin y c e)
 ·rcases (hf b z).2.2.2.1 with q | q
  ·exact I.ok.noex b o e q
  ·exact absurd (Nat.lt_of_lt_of_le (Heap.lt_size e) (Nat.le_trans I.ok.bsz q)) (Nat.lt_irrefl _)
 ·by_cases hlt : i < xs.length
  ·rw [List.getElem?_append_left (by rw [List.length_map]; exact hlt),List.getElem?_map,List.getElem?_eq_getElem hlt] at e2
   have z : (none : Option V) = some v:=by simpa using e2
   cases z
  ·have e1' : ys[i - xs.length]? = some y:=by
    have e1 : (xs ++ ys)[i]? = some y:=e1
    rw [List.getElem?_append_right (by omega)] at e1
    exact e1
   have e2' : (capt σ js)[i - xs.length]? = some (some v):=by
    rw [List.getElem?_append_right (by rw [List.length_map]; omega),List.length_map] at e2
    exact e2
   obtain ⟨j,q1,q2,q3,q4,q5⟩:=hcap.get e1'
   unfold capt at e2'
   rw [List.getElem?_map,q1] at e2'
   have e2'' : (σ[j]?).join = some v:=by simpa using e2'
   have e3' : σ[j]? = some (some v):=by
    cases z : σ[j]? with
    | none=>rw [z] at e2''; cases e2''
    | some o =>
     cases o with
     | none=>rw [z] at e2''; cases e2''
     | some w'=>rw [z] at e2''; cases e2''; rfl
   obtain ⟨m0,_,hl⟩:=I.loc
   obtain ⟨u,r,l⟩:=hl j y v q2 e3' (.inr (.inl q3))
   refine ⟨u,r,.inr ⟨.inl q5,?_⟩⟩
   rcases l with ⟨l1,_⟩ | ⟨_,c,l2,l3⟩
   ·rw [q3] at l1; cases l1
   ·obtain ⟨o,ho,hd⟩:=l3
    exact ⟨c,q4.trans l2,o,kp c o ho,hd⟩
 ·obtain ⟨v,o,ho,hd⟩:=I.cell y c (hin y c e)
  exact ⟨v,o,kp c o ho,hd⟩
 ·obtain ⟨v,o,ho,hd⟩:=I.cell y c (hin y c e)
  exact un.free c o ho (I.freeC y c (hin y c e)) fun z=>(hf c z).2.2.2.2.1 y c (hin y c e) rfl
 ·exact absurd (show p ∈ ([] : List (Addr × Obj)) from hp) (by simp)
 ·show ((xs.map fun _=>(none : Option V)) ++ capt σ js).length = (xs ++ ys).length
  unfold capt
  rw [List.length_append,List.length_append,List.length_map,List.length_map,hcap.len]
theorem pe_compT {wi : TI} {te : TE} {tgt : Expr} {g : TG} (hclos : closureFor sc X.env = pure cl) (hcell : ∀ y ∈ sc.names,y.2 ≠ .cell) (hkind : sc.kind = .function) (hnames : ∀ y ∈ sc.names,y.2 = .local->sc.names.lookup y.1 = some .local)
  (hcap : Caps X sc cl ys js) (hin : ∀ y c,cl.lookup y = some c->X.env.cells.lookup y = some c)
  (hhas : ∀ y,((relabel sc X.env).names.lookup y = some .cell \/ (relabel sc X.env).names.lookup y = some .free)->∃ c,cl.lookup y = some c) (hc : X.calm = true)
  (hi : PI X.nox tgt iter wi) (hg : ∀ s2 H2 C ex,PG (compCx X sc (xs ++ ys) cl s2 H2 C ex) tgt g) (he : ∀ s2 H2 C ex,PE (compCx X sc (xs ++ ys) cl s2 H2 C ex) elt te) (hs : ∀ v,foldedSetIterable iter X.env v = pure v:=by intro _; rfl) :
  PE X (.ListComp elt [⟨tgt,iter,[],0⟩] sc pos) (tCompT wi xs.length js g te):=by
 intro pins s σ H Q I h
 rw [eval_ListComp]
 refine wpAny_mono (E:=fun _ _=>False) (wpAny_comprehension_free (use:=none) rfl hs hclos hkind hnames (wpAny_mono (hi pins s σ H _ (I.wish _) h) ?_ fun _ _ z=>False.elim z)) (fun _ _ z=>z) fun _ _ z=>False.elim z
 intro v s1 h1
 refine wpAny_mono h1 ?_ fun _ _ z=>False.elim z
 rintro itv s2 ⟨it,fp,tn,J,H2,rfl,I2w,T,st2,f2w,q⟩
 have I2:=I2w.unwish
 have f2 : ∀ b ∈ fp,FpOk X pins H2 b:=f2w
 refine wpAny_newObj_type (wpAny_newFunctionEnv hcell (by intro y hy; simp at hy) (fun h4 hns hsb=>?_) hkind)
 dsimp only at hns hsb ⊢
 generalize hE : s2.heap.push { cls:=.type "list",dict:=none,data:=.seq ([] : List Value).toArray } = g3 at hns hsb ⊢
 have hsz : g3.objs.size = s2.heap.objs.size + 1:=by rw [<- hE,Heap.size_push]
 have hDC : s2.heap.objs.size ≠ g3.objs.size:=by omega
 have old : ∀ b o,s2.heap.get? b = some o->h4.get? b = some o:=fun b o e=>by
  have lt : b < s2.heap.objs.size:=Heap.lt_size e
  rw [hsb.2 b (Nat.ne_of_lt (by rw [hsz]; exact Nat.lt_succ_of_lt lt))]
  exact Heap.get?_push_of_some _ (hE ▸ Heap.get?_push_of_some _ e)
 have hD0 : H2 s2.heap.objs.size = none:=I2.hok.fresh (Nat.le_refl _)
 have hC0 : H2 g3.objs.size = none:=I2.hok.fresh (by omega)
 have hDat : h4.get? s2.heap.objs.size = some { cls:=.type "list",data:=.seq ([] : List Value).toArray }:=by
  rw [hsb.2 _ hDC]
  exact Heap.get?_push_of_some _ (hE ▸ Heap.get?_push_size _ rfl)
 obtain ⟨W,⟨m0,w0⟩,turn⟩:=q s2.heap.objs.size hD0
 have hfl : ∀ b ∈ fp,b < s2.heap.objs.size:=fun b hb=>by
  obtain ⟨o,e,_⟩:=T.obj _ _ st2 b hb
  exact Heap.lt_size e
 have J0 : Inv (compCx X sc (xs ++ ys) cl s2 H2 g3.objs.size fp) [] ((xs.map fun _=>none) ++ capt σ js) (upd H2 s2.heap.objs.size (.lst [])) { s2 with heap:=h4,toks:=s2.toks + ([] : List (Str × Value)).length }:=by
  refine inv_compT (xs:=xs) (m:=fun y=>([] : List (Str × Value)).reverse.lookup y) I2 f2 hkind hcap hin hhas hfl (by omega) rfl I2.bare (Un.laid old (Nat.le_refl _) hD0) old hns ?_ ?_
  ·rw [upd_ne (Ne.symm hDC)]; exact hC0
  ·exact I2.hok.laid old (Nat.le_refl _) ⟨Nat.zero_le _,[],0,.nil,hDat⟩
 have st4 : tn 0 h4:=T.keep _ _ _ st2 fun b hb o e=>old b o e
 have xcell : ∀ y c,(compCx X sc (xs ++ ys) cl s2 H2 g3.objs.size fp).env.cells.lookup y = some c->X.env.cells.lookup y = some c:=hin
 have stat : ∀ {H' : Hp},(∀ b ∈ fp,H' b = none)->∀ b ∈ fp,FpOk (compCx X sc (xs ++ ys) cl s2 H2 g3.objs.size fp) [] H' b:=fun hn b hb=>by
  refine ⟨hn b hb,?_,?_,.inl hb,fun y c e=>(f2 b hb).2.2.2.2.1 y c (hin y c e),fun p hp=>absurd (show p ∈ ([] : List (Addr × Obj)) from hp) (by simp)⟩
  ·have lt : b < s2.heap.objs.size:=hfl b hb
   exact Nat.ne_of_lt (by show b < g3.objs.size; rw [hsz]; exact Nat.lt_succ_of_lt lt)
  ·intro z
   rcases List.mem_cons.mp (I2.stkSub b z) with q | q
   ·exact (f2 b hb).2.1 q
   ·exact (f2 b hb).2.2.1 q
 have fin : ∀ {σ' : St} {H' : Hp} {s' : Shared},Inv (compCx X sc (xs ++ ys) cl s2 H2 g3.objs.size fp) [] σ' H' s'->Q (.ref s2.heap.objs.size) H' ->
   compPost (model X.prog X.w) X.A (fun _ _=>False) none (EP X pins σ Q) (.ref s2.heap.objs.size) g3.objs.size (.ok .next) s':=fun {σ' H' s'} J' q'=>by
  obtain ⟨m,hm,_⟩:=J'.loc
  refine ⟨m,hm,fun h' sb=>?_⟩
  have neC : ∀ b o,s2.heap.get? b = some o->b ≠ g3.objs.size:=fun b o e=>by
   have lt : b < s2.heap.objs.size:=Heap.lt_size e
   exact Nat.ne_of_lt (by rw [hsz]; exact Nat.lt_succ_of_lt lt)
  have ub:=J'.base
  refine ⟨.ref s2.heap.objs.size,H',?_,rfl,q'⟩
  refine I2.call' (s':={ s' with heap:=h' }) (ch:=fp) J'.os ⟨fun b o e n hb hx=>(sb.2 b (neC b o e)).trans (ub.keep b o e n hb hx),fun b o e n hb hx=>?_,ub.free,fun b o e hx=>?_,ub.tups,ub.frzs,ub.tbls⟩ (fun b u e=>?_) J'.bare fun b hb=>⟨(f2 b hb).2.2.2.1,(f2 b hb).2.1,(f2 b hb).2.2.2.2.1,(f2 b hb).2.2.2.2.2⟩
  ·obtain ⟨sl,e1⟩:=ub.slot b o e n hb hx
   exact ⟨sl,(sb.2 b (neC b o e)).trans e1⟩
  ·obtain ⟨o',e1⟩:=ub.there b o e hx
   exact ⟨o',(sb.2 b (neC b o e)).trans e1⟩
  ·have hCn : H' g3.objs.size = none:=J'.free
   refine (J'.hok b u e).stay (fun c v hc z=>(sb.2 c ?_).trans z) (fun _ z=>z) fun _ _ z=>z
   rintro rfl
   rcases hc with hc | hc
   ·rw [<- hc,hCn] at e; cases e
   ·rw [hCn] at hc; cases hc
 have loop : ∀ s4 : Shared,s4 = { s2 with heap:=h4,toks:=s2.toks + ([] : List (Str × Value)).length } ->
   codeAny (model X.prog X.w) X.A (.compLoop (.ListComp elt [⟨tgt,iter,[],0⟩] sc pos) 0 (.ref it) (.ref s2.heap.objs.size) (compEnvC sc cl g3.objs.size X.env))
    (compPost (model X.prog X.w) X.A (fun _ _=>False) none (EP X pins σ Q) (.ref s2.heap.objs.size) g3.objs.size) s4:=by
  rintro s4 rfl
  refine comp_loop (fun n s'=>∃ (i : Nat) (xo : St) (ys' : List V) (H' : Hp),xo.length = xs.length/\Inv (compCx X sc (xs ++ ys) cl s2 H2 g3.objs.size fp) [] (xo ++ capt σ js) H' s'/\tn i s'.heap/\(∀ b ∈ fp,H' b = none)/\W i n ys' H') ?_ m0 ⟨0,xs.map fun _=>none,[],_,by rw [List.length_map],J0,st4,fun b hb=>?_,w0⟩
  ·rintro n s' ⟨i,xo,ys',H',hxo,J',st',fr',w'⟩
   obtain ⟨hD,alt⟩:=turn i n ys' H' w'
   rcases alt with ⟨stop,qn⟩ | ⟨go,step⟩
   ·refine wpAny_mono (T.done (compCx X sc (xs ++ ys) cl s2 H2 g3.objs.size fp) rfl rfl rfl hc i [] s' _ H' (fun _ _=>False) J' (stat fr') st' stop) ?_ fun _ _ z=>z
    rintro r s'' ⟨rfl,J''⟩
    exact fin J'' qn
   ·refine wpAny_mono (T.item (compCx X sc (xs ++ ys) cl s2 H2 g3.objs.size fp) rfl rfl rfl hc i [] s' _ H' (fun _ _=>False) J' (stat fr') st' go) ?_ fun _ _ z=>z
    rintro r s'' ⟨u,rfl,hu⟩
    refine wpAny_mono hu ?_ fun _ _ z=>z
    rintro _ s5 ⟨xv,H5,J5,r5,y5,st5,fr5⟩
    have J5':=J5.pinned (stat fr5) (T.obj _ _ st5)
    refine wpAny_mono (hg s2 H2 g3.objs.size fp _ s5 _ H5 xv u _ J5' r5 (step xv H5 xo hxo y5)) ?_ fun _ _ z=>z
    rintro _ s6 ⟨σ6,H6,J6,⟨xo',hxo',rfl⟩,h6⟩
    refine wpAny_mono (he s2 H2 g3.objs.size fp _ s6 _ H6 _ J6 h6) ?_ fun _ _ z=>z
    rintro yv s7 ⟨yy,H7,J7,r7,hD7,hlen,m',hm',w7⟩
    refine wpAny_mono (mt_append (X:=compCx X sc (xs ++ ys) cl s2 H2 g3.objs.size fp) _ s7 _ H7 (.ref s2.heap.objs.size) [yy] (.ref s2.heap.objs.size) [yv] (fun _ H8=>H8 = upd H7 s2.heap.objs.size (.lst (ys' ++ [yy]))) J7 rfl (.cons r7 .nil) ⟨_,ys',yy,rfl,rfl,hD7,hlen,rfl⟩) ?_ fun _ _ z=>z
    rintro _ s8 ⟨_,H8,J8,_,rfl⟩
    have pinned : ∀ b ∈ fp,∀ o,s5.heap.get? b = some o->s8.heap.get? b = some o/\(upd H7 s2.heap.objs.size (.lst (ys' ++ [yy]))) b = none:=fun b hb o e=>by
     obtain ⟨q1,q2,_⟩:=J8.pin (b,o) (List.mem_append_right _ (List.mem_append_right _ (mem_pinsAt hb e)))
     exact ⟨q1,q2⟩
    refine ⟨m',hm',i + 1,xo',ys' ++ [yy],_,hxo',J8.unpinned,T.keep _ _ _ st5 fun b hb o e=>(pinned b hb o e).1,fun b hb=>?_,w7⟩
    obtain ⟨o,e,_⟩:=T.obj _ _ st5 b hb
    exact (pinned b hb o e).2
  ·rw [upd_ne (Nat.ne_of_lt (hfl b hb))]
   exact (f2 b hb).1
 exact codeAny_compStart_list (loop _ rfl) (T.self _ _ _ _ _ st4 (loop _ rfl))
end
theorem compT_list {K : PySem.W.Frag} {a : Addr} {n : Nat} {xs : List V} {H : Hp} {cap : St} {g : TG} {te : TE} {Q : VK} (ys : List V) (hS : SqL K H a xs) (hn : xs.length <= sizeLine) (hl : ys.length = xs.length)
  (el : ∀ (i : Nat) x y H' (xo : St) (P : VK),xo.length = n->Same H H'->xs[i]? = some x->ys[i]? = some y->(∀ H'',Same H' H''->P y H'')->g x (xo ++ cap) H' fun σ6 H6=>(∃ xo' : St,xo'.length = n/\σ6 = xo' ++ cap)/\te σ6 H6 P) (fin : ∀ D H',Same H H'->H D = none->H' D = some (.lst ys)->Q (.ref D) H') :
  CompedT (Itl K a) n cap g te Q H:=by
 intro D hD
 refine ⟨fun i m zs H2=>m = xs.length - i/\i <= xs.length/\zs = ys.take i/\H2 D = some (.lst zs)/\Same H H2,⟨xs.length,rfl,Nat.zero_le _,by simp,upd_same,Same.new hD _⟩,?_⟩
 rintro i m zs H2 ⟨rfl,hi,hz,hDz,hSm⟩
 refine ⟨hDz,?_⟩
 by_cases h : i < xs.length
 ·refine .inr ⟨⟨xs,xs[i],hSm.seq hS,List.getElem?_eq_getElem h⟩,?_⟩
  rintro x H3 xo hxo ⟨rfl,hy⟩
  have hx:=hy xs (hSm.seq hS)
  obtain ⟨yv,hyi⟩ : ∃ yv,ys[i]? = some yv:=⟨ys[i]'(by omega),List.getElem?_eq_getElem (by omega)⟩
  have hzl : zs.length = i:=by rw [hz,List.length_take]; omega
  refine el i x yv H3 xo _ hxo hSm hx hyi fun H4 hS4=>⟨hS4 _ _ hDz,by omega,xs.length - (i + 1),by omega,rfl,h,?_,upd_same,fun b u q=>?_⟩
  ·rw [hz,List.take_add_one,hyi]
   rfl
  ·rw [upd_ne (ne_of_none q hD)]
   exact hS4 _ _ (hSm _ _ q)
 ·have e : i = xs.length:=by omega
  subst e
  refine .inl ⟨⟨xs,hSm.seq hS,Nat.le_refl _⟩,fin D H2 hSm hD ?_⟩
  rw [hDz,hz,List.take_of_length_le (by omega)]
theorem e_compT {X : Cx} {pos : Pos} {elt iter tgt : Expr} {sc : Scope} {wi : TI} {g : TG} {te : TE} (xs ys : List Str) (js : List Nat) (cl : List (Str × Addr)) (hclos : closureFor sc X.env = pure cl) (hcap : Caps X sc cl ys js) (hin : ClIn X.env cl)
  (hi : QI X.nox tgt iter wi) (hg : ∀ s2 H2 C ex,QG (compCx X sc (xs ++ ys) cl s2 H2 C ex) tgt g) (he : ∀ s2 H2 C ex,QE (compCx X sc (xs ++ ys) cl s2 H2 C ex) elt te) (hc : X.calm = true:=by rfl)
  (hcell : (sc.names.all fun p=>p.2 != NameKind.cell) = true:=by rfl) (hkind : sc.kind = .function:=by rfl) (hnames : (sc.names.all fun p=>p.2 != NameKind.local || sc.names.lookup p.1 == some NameKind.local) = true:=by rfl)
  (hhas : ((relabel sc X.env).names.all fun p=>p.2 == NameKind.local || p.2 == NameKind.globalImplicit || (cl.lookup p.1).isSome) = true:=by rfl)
  (hs : ∀ v,foldedSetIterable iter X.env v = pure v:=by intro _; rfl) : QE X (.ListComp elt [⟨tgt,iter,[],0⟩] sc pos) (tCompT wi xs.length js g te):=by
 refine ⟨pe_compT hclos (fun y hy z=>?_) hkind (fun y hy z=>?_) hcap (fun y c e=>hin.mem (PySem.mem_of_lookup e)) (fun y h=>?_) hc hi.h (fun a b c d=>(hg a b c d).h) (fun a b c d=>(he a b c d).h) hs⟩
 ·have:=List.all_eq_true.mp hcell y hy
  rw [z] at this
  exact absurd this (by decide)
 ·have:=List.all_eq_true.mp hnames y hy
  rw [z] at this
  simpa using this
 ·have hm : ∃ k,(y,k) ∈ (relabel sc X.env).names/\(k = .cell \/ k = .free):=by
   rcases h with h | h
   ·exact ⟨_,PySem.mem_of_lookup h,.inl rfl⟩
   ·exact ⟨_,PySem.mem_of_lookup h,.inr rfl⟩
  obtain ⟨k,hk,hz⟩:=hm
  have:=List.all_eq_true.mp hhas _ hk
  rcases hz with rfl | rfl
  ·exact Option.isSome_iff_exists.mp (by simpa using this)
  ·exact Option.isSome_iff_exists.mp (by simpa using this)
theorem g_nm {X : Cx} {i : Nat} {x : Str} {pos : Pos} (hN : X.N.Nodup:=by decide +kernel) (hi : X.N[i]? = some x:=by rfl) (hx : X.env.scope.names.lookup x = some .local:=by rfl) : QG X (.Name x pos) (gName i):=⟨pg_nameL hN hi hx⟩
end L2
set_option maxHeartbeats 4000000
namespace L2
open PySem PySem.Spec PyProof.Rows
def Itz (K : PySem.W.Frag) (a b : Addr) : It :=
  ⟨fun i H=>∃ xs ys x y,SqL K H a xs/\SqL K H b ys/\xs[i]? = some x/\ys[i]? = some y,
   fun i H x H'=>∃ p v w,x = .ref p/\H p = none/\H' = upd H p (.tup [v,w])/\(∀ xs,SqL K H a xs->xs[i]? = some v)/\(∀ ys,SqL K H b ys->ys[i]? = some w),
   fun i H=>∃ xs ys,SqL K H a xs/\SqL K H b ys/\(xs.length <= i \/ ys.length <= i)⟩
theorem turn_zip {P : Program} {w : World} {K : PySem.W.Frag} {elts : List Expr} {x1} {pos : Pos} (a b z TI TO i1 i2 : Addr) (D : ZipApart z TI TO i1 i2 a b) :
  Turn P w K (.Tuple elts x1 pos) (Itz K a b) [z,TI,TO,i1,i2] z (fun i h=>IsZip h z TI TO .none/\IsPair h TI (.ref i1) (.ref i2)/\(∃ u v,IsPair h TO u v)/\h.IsListIter i1 a i/\h.IsListIter i2 b i) where
 mem:=by simp
 obj:=fun i h st c hc=>by
  obtain ⟨hz,hTI,⟨u,v,hTO⟩,⟨o1,e1,c1,d1⟩,⟨o2,e2,c2,d2⟩⟩:=st
  have hc' : c = z \/ c = TI \/ c = TO \/ c = i1 \/ c = i2:=by simpa using hc
  rcases hc' with rfl | rfl | rfl | rfl | rfl
  ·exact ⟨_,hz,fun v z=>by
    have z' : Data.fields _ = Data.cell v:=z
    cases z'⟩
  ·exact ⟨_,hTI,fun v z=>by
    have z' : Data.seq _ _ = Data.cell v:=z
    cases z'⟩
  ·exact ⟨_,hTO,fun v z=>by
    have z' : Data.seq _ _ = Data.cell v:=z
    cases z'⟩
  ·exact ⟨o1,e1,fun v z=>by rw [d1] at z; cases z⟩
  ·exact ⟨o2,e2,fun v z=>by rw [d2] at z; cases z⟩
 keep:=fun i h h' st k=>by
  obtain ⟨hz,hTI,⟨u,v,hTO⟩,h1,h2⟩:=st
  exact ⟨k z (by simp) _ hz,k TI (by simp) _ hTI,⟨u,v,k TO (by simp) _ hTO⟩,h1.at fun o q=>k i1 (by simp) o q,h2.at fun o q=>k i2 (by simp) o q⟩
 item:=by
  intro X hP hw hK hc i pins s σ H E I hf st hg
  subst hP hw hK
  obtain ⟨xs,ys,x,y,hq1,hq2,hx,hy⟩:=hg
  obtain ⟨hz,hTI,⟨u0,v0,hTO⟩,h1,h2⟩:=st
  obtain ⟨its1,rv1,p1,hz1⟩:=I.list hq1
  obtain ⟨its2,rv2,p2,hz2⟩:=I.list hq2
  obtain ⟨u,hu,ru⟩:=rv1.get hx
  obtain ⟨v,hv,rv⟩:=rv2.get hy
  refine wpAny_pyNext_zip_item D hz hTI hTO h1 h2 p1.isList p2.isList (x:=u) (y:=v) (by simpa using hu) (by simpa using hv) fun g1 a1 a2 a3 a4 a5 a6 hk=>?_
  refine ⟨_,rfl,wpAny_letOwnedTupleGo_zip (s:={ s with heap:=g1 }) a1 fun g2 hz2' hs2=>?_⟩
  have hs2' : Heap.SameBut z g1 g2:=hs2
  have nH : H s.heap.objs.size = none:=I.hok.fresh (Nat.le_refl _)
  have lt : ∀ c ∈ [z,TI,TO,i1,i2],c < s.heap.objs.size:=fun c hc=>by
   have hc' : c = z \/ c = TI \/ c = TO \/ c = i1 \/ c = i2:=by simpa using hc
   rcases hc' with rfl | rfl | rfl | rfl | rfl
   ·exact Heap.lt_size hz
   ·exact Heap.lt_size hTI
   ·exact Heap.lt_size hTO
   ·obtain ⟨o,e,_⟩:=id h1; exact Heap.lt_size e
   ·obtain ⟨o,e,_⟩:=id h2; exact Heap.lt_size e
  have ht2 : g2.get? s.heap.objs.size = some { cls:=.type "tuple",data:=.seq #[u,v] }:=(hs2'.2 _ (Nat.ne_of_gt (lt z (by simp)))).trans a5
  have pg : (s.heap.push { cls:=.type "tuple",data:=.seq #[u,v] }).get? s.heap.objs.size = some { cls:=.type "tuple",data:=.seq #[u,v] }:=Heap.get?_push_size _ rfl
  have J1:=I.laid (a:=s.heap.objs.size) (o:=.tup [x,y]) (h':=s.heap.push { cls:=.type "tuple",data:=.seq #[u,v] }) (t':=s.toks) (fun b v z=>Heap.get?_push_of_some _ z) (Nat.le_refl _)
   ⟨(by show 2 <= sizeLine; decide),[u,v],.cons ru (.cons rv .nil),⟨_,pg,rfl,_,rfl⟩⟩
  have fp' : ∀ c ∈ [z,TI,TO,i1,i2],FpOk X pins (upd H s.heap.objs.size (.tup [x,y])) c:=fun c hc=>by
   obtain ⟨f0,f1,f2,f3,f4,f5⟩:=hf c hc
   refine ⟨?_,f1,f2,f3,f4,f5⟩
   rw [upd_ne (Nat.ne_of_lt (lt c hc))]
   exact f0
  have J2:=J1.turnedL (h':=g2) (t':=s.toks) (ch:=[z,TI,TO,i1,i2]) (fun c o hc zz=>by
   have n1 : c ≠ z:=fun y=>hc (by simp [y])
   have n2 : c ≠ TO:=fun y=>hc (by simp [y])
   have n3 : c ≠ i1:=fun y=>hc (by simp [y])
   have n4 : c ≠ i2:=fun y=>hc (by simp [y])
   by_cases hp : c = s.heap.objs.size
   ·subst hp
    have z' : s.heap.objs.size = s.heap.objs.size->(s.heap.push { cls:=.type "tuple",data:=.seq #[u,v] }).get? s.heap.objs.size = some o:=fun _=>zz
    rw [pg] at z'
    have:=z' rfl
    cases this
    exact ht2
   ·have z2 : s.heap.get? c = some o:=get_push_ne zz hp
    exact (hs2'.2 c n1).trans (hk c o n1 n2 n3 n4 z2)) fp'
  refine ⟨.ref s.heap.objs.size,_,J2,rfl,⟨_,x,y,rfl,nH,rfl,fun l hl=>by rw [I.list_inj hl hq1]; exact hx,fun l hl=>by rw [I.list_inj hl hq2]; exact hy⟩,⟨hz2',?_,⟨u,v,?_⟩,?_,?_⟩,fun c hc=>(fp' c hc).1⟩
  ·exact (hs2'.2 _ D.TIz).trans (hk _ _ D.TIz D.TITO D.TIi1 D.TIi2 hTI)
  ·exact (hs2'.2 _ D.TOz).trans a2
  ·exact a3.at fun o q=>(hs2'.2 _ D.i1z).trans q
  ·exact a4.at fun o q=>(hs2'.2 _ D.i2z).trans q
 done:=by
  intro X hP hw hK hc i pins s σ H E I hf st hg
  subst hP hw hK
  obtain ⟨xs,ys,hq1,hq2,hx⟩:=hg
  obtain ⟨hz,hTI,⟨u0,v0,hTO⟩,h1,h2⟩:=st
  obtain ⟨its1,rv1,p1,hz1⟩:=I.list hq1
  obtain ⟨its2,rv2,p2,hz2⟩:=I.list hq2
  have hl1:=rv1.length
  have hl2:=rv2.length
  refine wpAny_pyNext_zip_end (I.ok.hd hc) D hz hTI hTO h1 h2 p1.isList p2.isList ?_ fun h' eb=>⟨rfl,I.turnedL (t':=s.toks) (ch:=[z,TI,TO,i1,i2]) (fun c o hc zz=>eb c o (fun y=>hc (by simp [y])) (fun y=>hc (by simp [y])) (fun y=>hc (by simp [y])) (fun y=>hc (by simp [y])) zz) hf⟩
  rcases hx with q | q
  ·left; simp; omega
  ·right; simp; omega
 self:=fun _ _ _ _ _ st h=>by
  obtain ⟨hz,_⟩:=st
  exact wpAny_pyIter_zip hz h
def iZip (K : PySem.W.Frag) (ta : TA) : TI:=fun σ H R=>ta σ H fun vs H1=>∃ a b,vs = [.ref a,.ref b]/\(∃ xs,SqL K H1 a xs)/\(∃ ys,SqL K H1 b ys)/\R (Itz K a b) H1
section
variable {X : Cx}
theorem pi_zip {elts : List Expr} {x1} {tpos p pos : Pos} {a b : Expr} {ta : TA} (hg : Gl X "zip") (hm : X.mg "zip" = none) (hbt : bootBuiltins "zip" = some (.type "zip")) (ha : PA X [a,b] ta) (h1 : nostar a = true) (h2 : nostar b = true) :
  PI X (.Tuple elts x1 tpos) (.Call (.Name "zip" p) [a,b] [] pos) (iZip X.K ta):=by
 intro pins s σ H R I h
 refine Call_ (ld_blt I hg hm hbt (PyProof.Rows.callWith_type1 (thn (ha pos pins s σ H _ I h) fun us s1 ⟨vs,H1,I1,r1,q1⟩=>?_) (star_plain h1) (any_plain (by simp [h2]))))
 obtain ⟨a,b,rfl,⟨xs,hq1⟩,⟨ys,hq2⟩,q⟩:=q1
 cases r1 with
 | cons r rr =>
  cases rr with
  | cons r' rr =>
   cases rr
   cases r
   cases r'
   obtain ⟨its1,rv1,p1,hz1⟩:=I1.list hq1
   obtain ⟨its2,rv2,p2,hz2⟩:=I1.list hq2
   refine call_zip_2 p1.isList p2.isList fun h' he hTI hTO hi1 hi2 hsz hk=>?_
   refine wpAny_pyIter_zip he ?_
   have I2 : Inv X pins σ H1 { s1 with heap:=h' }:=I1.kept (t':=s1.toks) hk
   have la : a < s1.heap.objs.size:=by obtain ⟨o,e,_⟩:=p1.isList; exact Heap.lt_size e
   have lb : b < s1.heap.objs.size:=by obtain ⟨o,e,_⟩:=p2.isList; exact Heap.lt_size e
   have up : ∀ (m k : Nat),m < s1.heap.objs.size->m ≠ s1.heap.objs.size + k:=fun m k h=>Nat.ne_of_lt (Nat.lt_of_lt_of_le h (Nat.le_add_right _ k))
   have nk : ∀ j k : Nat,j ≠ k->s1.heap.objs.size + j ≠ s1.heap.objs.size + k:=fun j k h z=>h (Nat.add_left_cancel z)
   have n0 : ∀ k : Nat,0 ≠ k->s1.heap.objs.size ≠ s1.heap.objs.size + k:=fun k h z=>nk 0 k h z
   have D : ZipApart (s1.heap.objs.size + 4) (s1.heap.objs.size + 2) (s1.heap.objs.size + 3) s1.heap.objs.size (s1.heap.objs.size + 1) a b :=
    ⟨nk 2 4 (by decide),nk 3 4 (by decide),n0 4 (by decide),nk 1 4 (by decide),nk 2 3 (by decide),(n0 2 (by decide)).symm,nk 2 1 (by decide),(n0 3 (by decide)).symm,nk 3 1 (by decide),n0 1 (by decide),up a 4 la,up a 3 la,Nat.ne_of_lt la,up a 1 la,up b 4 lb,up b 3 lb,Nat.ne_of_lt lb,up b 1 lb⟩
   refine ⟨s1.heap.objs.size + 4,[s1.heap.objs.size + 4,s1.heap.objs.size + 2,s1.heap.objs.size + 3,s1.heap.objs.size,s1.heap.objs.size + 1],_,_,H1,rfl,I2,turn_zip a b _ _ _ _ _ D,⟨he,hTI,⟨_,_,hTO⟩,hi1,hi2⟩,fun c hc=>?_,q⟩
   have hc' : s1.heap.objs.size <= c:=by
    have hc'' : c = s1.heap.objs.size + 4 \/ c = s1.heap.objs.size + 2 \/ c = s1.heap.objs.size + 3 \/ c = s1.heap.objs.size \/ c = s1.heap.objs.size + 1:=by simpa using hc
    rcases hc'' with rfl | rfl | rfl | rfl | rfl
    ·exact Nat.le_add_right _ 4
    ·exact Nat.le_add_right _ 2
    ·exact Nat.le_add_right _ 3
    ·exact Nat.le_refl _
    ·exact Nat.le_add_right _ 1
   exact I1.fpOk hc' (I1.hok.fresh hc')
theorem i_zip {elts : List Expr} {x1} {tpos p pos : Pos} {a b : Expr} {t u : TE} (hm : X.mg "zip" = none) (ha : QE X a t) (hb : QE X b u) (hg : X.env.kindOf "zip" = some .globalImplicit:=by kernel_rfl) (h1 : nostar a = true:=by rfl) (h2 : nostar b = true:=by rfl) :
  QI X (.Tuple elts x1 tpos) (.Call (.Name "zip" p) [a,b] [] pos) (iZip X.K (tCons t (tCons u tNil))):=⟨pi_zip hg hm (by decide +kernel) (pa' ha.h (pa' hb.h pa_nil h2) h1) h1 h2⟩
theorem for_zip {K : PySem.W.Frag} {a b : Addr} {xs ys : List V} {g : TG} {tb : TS} {D : Ends} {σ : St} {H : Hp} (Pv : Nat->St->Hp->Prop) (he : xs.length = ys.length) (h0 : Pv 0 σ H) (hl : ∀ i σ H,i <= xs.length->Pv i σ H->SqL K H a xs/\SqL K H b ys)
  (hs : ∀ i x y σ H p,xs[i]? = some x->ys[i]? = some y->Pv i σ H->H p = none->g (.ref p) σ (upd H p (.tup [x,y])) fun σ2 H2=>tb { D with nx:=Pv (i + 1),ct:=Pv (i + 1),bk:=D.nx } σ2 H2) (hd : ∀ σ H,Pv xs.length σ H->D.nx σ H) :
  ∃ W : Nat->Nat->St->Hp->Prop,(∃ m,W 0 m σ H)/\∀ i m σ H,W i m σ H ->
   ((Itz K a b).stop i H/\D.nx σ H) \/ ((Itz K a b).go i H/\∃ N : St->Hp->Prop,(∀ σ' H',N σ' H'->∃ m',m' < m/\W (i + 1) m' σ' H')/\∀ x H',(Itz K a b).yld i H x H'->g x σ H' fun σ2 H2=>tb { D with nx:=N,ct:=N,bk:=D.nx } σ2 H2):=by
 refine ⟨fun i m σ H=>m = xs.length - i/\i <= xs.length/\Pv i σ H,⟨xs.length,by simp,Nat.zero_le _,h0⟩,?_⟩
 rintro i m σ H ⟨rfl,hi,p⟩
 obtain ⟨q1,q2⟩:=hl i σ H hi p
 by_cases hlt : i < xs.length
 ·refine .inr ⟨⟨xs,ys,xs[i],ys[i]'(by omega),q1,q2,by simp [hlt],List.getElem?_eq_getElem (by omega)⟩,Pv (i + 1),fun σ' H' p'=>⟨xs.length - (i + 1),by omega,rfl,hlt,p'⟩,fun x H' y=>?_⟩
  obtain ⟨pp,v,w,rfl,hn,rfl,y1,y2⟩:=y
  exact hs i v w σ H pp (y1 xs q1) (y2 ys q2) p hn
 ·have e : i = xs.length:=by omega
  subst e
  exact .inl ⟨⟨xs,ys,q1,q2,.inl (Nat.le_refl _)⟩,hd σ H p⟩
end
end L2
set_option maxHeartbeats 4000000
namespace L2
open PySem PySem.Spec PyProof.Rows
section
variable {M : Model} {A : Around} {E : Value->Shared->Prop} {s : Shared} {B : Heap} {env : Env} {outer l : List Env} {L e : Addr} {cls fl : Value} {d : Option Addr} {Q : Unit->Shared->Prop}
theorem note_any (hA : A.frames = some (env :: outer)) (hL : env.frame = some L) (x : Flt B (env :: outer) e cls d fl s.heap)
  (k : ∀ h',Flt B (env :: outer) e cls d (rawInt L) h'->s.heap.UpToSlots h'->Q () { s with heap:=h' }) : wpAny M A (noteFrame (.ref e) env) Q E s:=by
 obtain ⟨ox,ws,T,oT,ts,a1,a2,a3,a4,a5,a6,a7,a8,a9,a10⟩:=id x.tr
 subst a2 a3
 unfold noteFrame
 simp only [hL]
 refine wpAny_bind (wpAny_field a1 a4 a5 ?_)
 rw [if_pos (show (Value.ref T != Value.none) = true by simp)]
 refine wpAny_bind (wpAny_field a8 a9 a10 ?_)
 by_cases hz : (fl == rawInt L) = true
 ·rw [if_pos hz]
  have e:=eq_of_beq hz
  subst e
  exact wpAny_pure (k _ x (.refl _))
 rw [if_neg hz]
 refine wpAny_bind (wpAny_setField a8 a9 (Array.getElem?_eq_some_iff.mp a10).1 ?_)
 have oth : ∀ b,b ≠ T->(s.heap.update T (Obj.mapFields (·.setIfInBounds 3 Value.none))).get? b = s.heap.get? b:=by
  intro b z
  exact Heap.get?_update_other _ _ (Ne.symm z)
 have nT : ∀ b o,s.heap.get? b = some o->(∀ us,o.data ≠ .fields us)->b ≠ T:=by
  intro b o q r z
  rw [z,a8] at q
  cases q
  exact r ts a9
 refine note_tail hA ?_ hL ((oth e (Ne.symm a7)).trans a1) ?_ x.new a4 (Array.getElem?_eq_some_iff.mp a5).1 ?_
 ·refine x.frames.of_keeps ?_
  intro b o q r
  exact ⟨o,(oth b (nT b o q r)).trans q,rfl⟩
 ·intro b o q
  refine (oth b ?_).trans (x.stays b o q)
  intro z
  rw [z,a6] at q
  cases q
 ·intro h' y1 y2
  refine k h' y1 ?_
  intro b o q r
  exact y2 b o ((oth b (nT b o q r)).trans q) r
theorem fly_to (fr : Option Addr) (x : Flt B l e cls d fl s.heap) (k : ∀ h' fl',Flt B l e cls d fl' h'->s.heap.UpToSlots h'->Q () { s with heap:=h' }) : wpAny M A (setFlight (.ref e) fr) Q E s:=by
 obtain ⟨ox,ws,T,oT,ts,a1,a2,a3,a4,a5,a6,a7,a8,a9,a10⟩:=x.tr
 have z3 : 3 < ts.size:=(Array.getElem?_eq_some_iff.mp a10).1
 generalize hv : fr.elim Value.none (fun f=>rawInt f) = v
 have oth : ∀ b,b ≠ T->(s.heap.update T (Obj.mapFields (·.setIfInBounds 3 v))).get? b = s.heap.get? b:=by
  intro b z
  exact Heap.get?_update_other _ _ (Ne.symm z)
 have nT : ∀ b o,s.heap.get? b = some o->(∀ us,o.data ≠ .fields us)->b ≠ T:=by
  intro b o q r z
  rw [z,a8] at q
  cases q
  exact r ts a9
 unfold setFlight
 refine wpAny_bind (wpAny_field a1 a4 a5 ?_)
 rw [if_pos (show (Value.ref T != Value.none) = true by simp),hv]
 refine wpAny_setField a8 a9 z3 (k _ v ⟨?_,x.new,?_,?_⟩ ?_)
 ·intro b o q
  refine (oth b ?_).trans (x.stays b o q)
  intro z
  rw [z,a6] at q
  cases q
 ·refine x.frames.of_keeps ?_
  intro b o q r
  exact ⟨o,(oth b (nT b o q r)).trans q,rfl⟩
 ·have w3:=Obj.data_mapFields a9 (·.setIfInBounds 3 v)
  exact ⟨ox,ws,T,_,_,(oth e (Ne.symm a7)).trans a1,a2,a3,a4,a5,a6,a7,Heap.get?_update_self _ a8 (Obj.isFreed_of_fields w3),w3,by simp [z3]⟩
 ·intro b o q r
  exact ⟨o.slots,(oth b (nT b o q r)).trans q⟩
theorem pass_on {α : Type} {R : α->Shared->Prop} {what : String} (cenv : Env) (x : Flt B l e cls d fl s.heap) (k : ∀ h' fl',Flt B l e cls d fl' h'->s.heap.UpToSlots h'->E (.ref e) { s with heap:=h' }) :
  wpAny M A (PySem.passOn what (.ref e) cenv : Sem α) R E s:=by
 obtain ⟨ox,ws,T,oT,ts,a1,a2,a3,a4,a5,a6,a7,a8,a9,a10⟩:=id x.tr
 unfold PySem.passOn
 refine wpAny_bind (wpAny_field a1 a4 a5 ?_)
 rw [if_neg (show ¬ (Value.ref T == Value.none) = true by simp)]
 refine wpAny_bind (fly_to cenv.frame x fun h' fl' x' y=>?_)
 exact wpAny_throw (k h' fl' x' y)
theorem leave_any (hA : A.frames = some (env :: outer)) (hL : env.frame = some L) (x : Flt B (env :: outer) e cls d fl s.heap)
  (k : ∀ h',Flt B outer e cls d .none h'->s.heap.UpToSlots h'->Q () { s with heap:=h' }) : wpAny M A (leaving env (.ref e)) Q E s:=by
 unfold leaving
 refine wpAny_bind (note_any hA hL x ?_)
 intro h' x y
 refine fly_on x ?_
 intro h'' x' y'
 exact k h'' x'.out (y.trans y')
theorem Flt.hide {h h' : Heap} {C : Addr} (x : Flt B l e cls d fl h) (hC : ∃ o,B.get? C = some o) (sb : Heap.SameBut C h h') : Flt (PySem.W.hideAll B [C]) l e cls d fl h':=by
 obtain ⟨oC,hC⟩:=hC
 have ne : ∀ b,B.get? b = none->b ≠ C:=fun b q z=>by rw [z,hC] at q; cases q
 have no : ∀ b,B.get? b = none->(PySem.W.hideAll B [C]).get? b = none:=fun b q=>by
  cases z : (PySem.W.hideAll B [C]).get? b with
  | none=>rfl
  | some o=>rw [PySem.W.of_hideAll _ z] at q; cases q
 have fr : ∀ {l : List Env},h.FunFrames B l->h'.FunFrames (PySem.W.hideAll B [C]) l:=by
  intro l
  induction l with
  | nil=>intro _; trivial
  | cons env r ih =>
   rintro ⟨hk,⟨L,o,hf,hn,ho,hd⟩,hr⟩
   exact ⟨hk,⟨L,o,hf,no L hn,(sb.2 L (ne L hn)).trans ho,hd⟩,ih hr⟩
 obtain ⟨ox,ws,T,oT,ts,a1,a2,a3,a4,a5,a6,a7,a8,a9,a10⟩:=x.tr
 refine ⟨fun b o q=>?_,no e x.new,fr x.frames,ox,ws,T,oT,ts,(sb.2 e (ne e x.new)).trans a1,a2,a3,a4,a5,no T a6,a7,(sb.2 T (ne T a6)).trans a8,a9,a10⟩
 by_cases z : b = C
 ·subst z
  rw [PySem.W.hideAll_none [b] (List.mem_singleton.mpr rfl)] at q
  cases q
 ·exact (sb.2 b z).trans (x.stays b o (PySem.W.of_hideAll _ q))
end
def compXe (X : Cx) (sc : Scope) (cl : List (Str × Addr)) (C : Addr) : Value->Shared->Prop :=
 notedBy (model X.prog X.w) X.A (compEnvC sc cl C X.env) fun x s'=>∃ m,s'.heap.Ns C m/\∀ h',Heap.SameBut C s'.heap h'->∀ cenv : Env,cenv.locals = C ->
  wpAny (model X.prog X.w) X.A (PySem.passOn "comprehension.variables-let-go" x cenv : Sem Value) (fun _ _=>False) X.xe { s' with heap:=h' }
def compCxX (X : Cx) (sc : Scope) (N' : List Str) (cl : List (Str × Addr)) (s2 : Shared) (H2 : Hp) (C : Addr) (ex : List Addr) : Cx :=
 (compCx X sc N' cl s2 H2 C ex).wish (compXe X sc cl C)
section
variable {P : Program} {w : World} {K : PySem.W.Frag} {mg : Str->Option Value} {base : Heap} {N : List Str} {qual : Str} {scope : Scope} {f : Addr} {cd : Value} {A : Around} {outer : List Env} {s₀ : Shared} {H₀ : Hp} {E : XK}
theorem passC {sc : Scope} {N' : List Str} {cl : List (Str × Addr)} {s2 : Shared} {H2 : Hp} {C : Addr} {fp : List Addr} {pins2 : List (Addr × Obj)} {σ2 : St} (I2 : Inv (cxOf (CX1 P w) P w K mg base N qual scope f cd A outer s₀ H₀ E) pins2 σ2 H2 s2)
  (f2 : ∀ b ∈ fp,FpOk (cxOf (CX1 P w) P w K mg base N qual scope f cd A outer s₀ H₀ E) pins2 H2 b) (hC : s2.heap.objs.size <= C) :
  Passes (CX1 P w) (compCxX (cxOf (CX1 P w) P w K mg base N qual scope f cd A outer s₀ H₀ E) sc N' cl s2 H2 C fp) E:=by
 intro pins σ H s e s1 I h
 obtain ⟨a,cls,d,B,H',rfl,os,bare,un,hok,fl,ha,b1,b2,b3,q⟩:=h
 have hfr : (envOfC qual scope s₀.heap.objs.size f cd).frame = some s₀.heap.objs.size:=rfl
 have hA:=I2.ok.frames
 show wpAny _ _ (noteFrame (.ref a) (envOfC qual scope s₀.heap.objs.size f cd)) _ _ _
 refine note_next (B:=B) (outer:=outer) hA hfr fl fun h1 x1 y1=>?_
 have J1:=I.flown (s1:=s1) os bare un hok fl.stays b1 b2 b3 x1.stays y1
 obtain ⟨m,hm,_⟩:=J1.loc
 refine ⟨m,hm,fun h2 sb cenv hl=>?_⟩
 have lt2 : ∀ b o,s2.heap.get? b = some o->b ≠ C:=fun b o e=>Nat.ne_of_lt (Nat.lt_of_lt_of_le (Heap.lt_size e) hC)
 have nC : C ∉ frs (envOfC qual scope s₀.heap.objs.size f cd :: outer):=fun z=>by
  obtain ⟨_,o,e,_⟩:=I2.stack.mem z
  exact lt2 C o e rfl
 obtain ⟨oC,hoC⟩ : ∃ o,s.heap.get? C = some o:=by
  obtain ⟨m0,⟨o,_,_,e,_⟩,_⟩:=I.loc
  exact ⟨o,e⟩
 have hCB : B.get? C = some oC:=b1 C oC hoC nC I.free
 have hC' : H' C = none:=J1.free
 have x2:=x1.hide ⟨oC,hCB⟩ sb
 refine pass_on (s:={ s1 with heap:=h2 }) cenv x2 fun h3 fl3 x3 y3=>?_
 show wpAny _ _ (leaving _ (.ref a)) _ _ _
 refine leave_any (s:={ s1 with heap:=h3 }) hA hfr x3 fun h4 x4 y4=>?_
 have inB : ∀ b o,B.get? b = some o->b ≠ C->(PySem.W.hideAll B [C]).get? b = some o:=fun b o e n=>PySem.W.hideAll_get _ e fun z=>n (List.mem_singleton.mp z)
 have kp : ∀ b o,s2.heap.get? b = some o->H2 b = none->b ∉ frs (envOfC qual scope s₀.heap.objs.size f cd :: outer)->b ∉ fp->B.get? b = some o:=fun b o e n hb hx =>
  b1 b o (I.base.keep b o e n hb hx) hb (I.base.free b o e n hx)
 have nf : ∀ b ∈ frs (envOfC qual scope s₀.heap.objs.size f cd :: outer),∀ o,s2.heap.get? b = some o->∀ vs,o.data ≠ .fields vs:=fun b hb o e=>by
  obtain ⟨_,o',e',r⟩:=I2.stack.mem hb
  rw [e] at e'
  cases e'
  exact r
 have sl : ∀ b o,s2.heap.get? b = some o->b ∈ frs (envOfC qual scope s₀.heap.objs.size f cd :: outer)->∃ sl,h4.get? b = some { o with slots:=sl }:=fun b o e hb=>by
  have hx : b ∉ fp:=fun z=>I.ok.exfs b z hb
  obtain ⟨l1,e1⟩:=I.base.slot b o e (I2.stkFree b hb) hb hx
  obtain ⟨l2,e2⟩:=un.slot b _ e1 (I.stkFree b hb) hb (by simp)
  obtain ⟨l3,e3⟩:=y1 b _ e2 (nf b hb o e)
  have e4:=(sb.2 b (lt2 b o e)).trans e3
  obtain ⟨l5,e5⟩:=y3 b _ e4 (nf b hb o e)
  obtain ⟨l6,e6⟩:=y4 b _ e5 (nf b hb o e)
  exact ⟨l6,e6⟩
 have J : Inv (cxOf (CX1 P w) P w K mg base N qual scope f cd A outer s₀ H₀ E) pins2 σ2 H' { s1 with heap:=h4 }:=by
  refine I2.call' (s':={ s1 with heap:=h4 }) (ch:=fp) (os.trans I.os) ⟨fun b o e n hb hx=>x4.stays b o (inB b o (kp b o e n hb hx) (lt2 b o e)),fun b o e n hb hx=>sl b o e hb,fun b o e n hx=>?_,fun b o e hx=>?_,
   fun b xs e=>un.tups b xs (I.base.tups b xs e),fun b o u e=>un.frzs b o u (I.base.frzs b o u e),fun b ps e=>?_⟩ (fun b u e=>?_) bare fun b hb=>⟨(f2 b hb).2.2.2.1,(f2 b hb).2.1,(f2 b hb).2.2.2.2.1,(f2 b hb).2.2.2.2.2⟩
  ·obtain ⟨o',e'⟩:=I.base.there b o e hx
   exact un.free b o' e' (I.base.free b o e n hx) (by simp)
  ·obtain ⟨o',e'⟩:=I.base.there b o e hx
   rcases b3 b o' e' with z | ⟨o'',z⟩
   ·obtain ⟨_,q⟩:=sl b o e z
    exact ⟨_,q⟩
   ·exact ⟨o'',x4.stays b o'' (inB b o'' z (lt2 b o e))⟩
  ·obtain ⟨m1,e1⟩:=I.base.tbls b ps e
   obtain ⟨m2,e2⟩:=un.tbls b _ e1
   exact ⟨m1 ++ m2,by rw [<- Array.append_assoc]; exact e2⟩
  ·refine (hok b u e).stay (fun c v hc q=>?_) (fun _ q=>q) fun _ _ q=>q
   have ht : ∃ u',H' c = some u':=by
    rcases hc with rfl | hc
    ·exact ⟨u,e⟩
    ·exact ⟨_,hc⟩
   obtain ⟨u',hu⟩:=ht
   obtain ⟨o,ho⟩:=b2 c u' hu
   have q':=fl.stays c o ho
   rw [q] at q'
   cases q'
   exact x4.stays c v (inB c v ho (by rintro rfl; rw [hC'] at hu; cases hu))
 have nL : ∀ b o,s₀.heap.get? b = some o->b ∉ frs outer->b ∉ frs (envOfC qual scope s₀.heap.objs.size f cd :: outer):=fun b o e hb z=>by
  rw [frs_cons hfr] at z
  rcases List.mem_cons.mp z with z | z
  ·exact absurd (Heap.lt_size e) (by rw [z]; exact Nat.lt_irrefl _)
  ·exact hb z
 have nfp : ∀ b o,s₀.heap.get? b = some o->b ∉ fp:=fun b o e z=>by
  rcases (f2 b z).2.2.2.1 with q | q
  ·cases q
  ·exact absurd (Nat.lt_of_lt_of_le (Heap.lt_size e) q) (Nat.lt_irrefl _)
 refine ⟨a,cls,d,PySem.W.hideAll B [C],H',rfl,J.os,J.bare,J.base,J.hok,x4,ha,fun b o e hb n=>?_,fun b u e=>?_,fun b o e=>?_,q⟩
 ·have e2:=I2.base.keep b o e n hb (by intro z; cases z)
  exact inB b o (kp b o e2 (I2.base.free b o e n (by intro z; cases z)) (nL b o e hb) (nfp b o e)) (lt2 b o e2)
 ·obtain ⟨o,ho⟩:=b2 b u e
  exact ⟨o,inB b o ho (by rintro rfl; rw [hC'] at e; cases e)⟩
 ·obtain ⟨o',e'⟩:=I2.base.there b o e (by intro z; cases z)
  by_cases hb : b ∈ frs outer
  ·exact .inl hb
  ·obtain ⟨o2,e2⟩:=I.base.there b o' e' (nfp b o e)
   rcases b3 b o2 e2 with z | ⟨o3,z⟩
   ·exact absurd z (nL b o e hb)
   ·exact .inr ⟨o3,inB b o3 z (lt2 b o' e')⟩
end
theorem comp_loopX {prog : Program} {w : World} {A : Around} {R : Result->Shared->Prop} {s : Shared} {elt target iter : Expr} {sc : Scope} {pos : Pos} {it acc : Value} {env : Env} (J : Nat->Shared->Prop)
  (turn : ∀ n s,J n s->wpAny (model prog w) A (pyNext it) (fun r s1=>match r with
   | none=>R (.ok .next) s1
   | some v=>wpAny (model prog w) A (letOwnedTupleGo target it v) (fun _ s2=>wpAny (model prog w) A (assign target env v) (fun _ s3=>wpAny (model prog w) A (eval elt env) (fun x s4 =>
     wpAny (model prog w) A (call (.builtin "list.append") [acc,x]) (fun _ s5=>∃ m,m < n/\J m s5) (fun _ _=>False) s4) (notedBy (model prog w) A env fun x s'=>R (.error x) s') s3) (notedBy (model prog w) A env fun x s'=>R (.error x) s') s2) (notedBy (model prog w) A env fun x s'=>R (.error x) s') s1) (fun _ _=>False) s)
  (n : Nat) (h : J n s) : codeAny (model prog w) A (.compLoop (.ListComp elt [⟨target,iter,[],0⟩] sc pos) 0 it acc env) R s:=by
 refine codeAny_loop rfl J ?_ n h
 intro n s hJ
 show wpAny _ _ ((compTurn (.ListComp elt [⟨target,iter,[],0⟩] sc pos) 0 it acc env).onRaise (fun x=>do noteFrame x env; theTreesLotGoes x)) _ _ s
 refine wpAny_noted ?_
 rw [compTurn_list1]
 refine wpAny_bind (wpAny_standAt (wpAny_bind (wpAny_mono (turn n s hJ) ?_ fun _ _ z=>False.elim z)))
 intro r s1 h1
 cases r with
 | none=>exact wpAny_pure h1
 | some v =>
  refine wpAny_bind (wpAny_mono h1 ?_ fun _ _ z=>z)
  intro _ s2 h2
  refine wpAny_bind (wpAny_mono h2 ?_ fun _ _ z=>z)
  intro _ s3 h3
  refine wpAny_bind (wpAny_bind (wpAny_mono h3 ?_ fun _ _ z=>z))
  intro x s4 h4
  refine wpAny_bind (wpAny_mono h4 ?_ fun _ _ z=>False.elim z)
  intro _ s5 h5
  exact wpAny_pure (wpAny_pure ⟨rfl,h5⟩)
section
variable {X : Cx} {x : Str} {px pos : Pos} {elt iter : Expr} {sc : Scope} {ys : List Str} {js : List Nat} {cl : List (Str × Addr)}
theorem ps_compX {wi : TI} {te : TE} {i0 : Nat} {y0 : Str} {py spos : Pos} {CX : CXT} {E : XK} (hp : ∀ pins σ H2 s2 fp C,Inv X pins σ H2 s2->(∀ b ∈ fp,FpOk X pins H2 b)->s2.heap.objs.size <= C->Passes CX (compCxX X sc (x :: ys) cl s2 H2 C fp) E) (hN : X.N.Nodup) (hi0 : X.N[i0]? = some y0) (hy0 : X.env.scope.names.lookup y0 = some .local) (hsw : swapsWith (.ListComp elt [⟨.Name x px,iter,[],0⟩] sc pos) (some (.Name y0 py)) spos.line X.env = pure true) (hclos : closureFor sc X.env = pure cl) (hcell : ∀ y ∈ sc.names,y.2 ≠ .cell) (hkind : sc.kind = .function) (hnames : ∀ y ∈ sc.names,y.2 = .local->sc.names.lookup y.1 = some .local)
  (hx : (relabel sc X.env).names.lookup x = some .local) (hcap : Caps X sc cl ys js) (hin : ∀ y c,cl.lookup y = some c->X.env.cells.lookup y = some c)
  (hhas : ∀ y,((relabel sc X.env).names.lookup y = some .cell \/ (relabel sc X.env).names.lookup y = some .free)->∃ c,cl.lookup y = some c) (hnd : (x :: ys).Nodup) (hc : X.calm = true)
  (hi : PI X.nox (.Name x px) iter wi) (he : ∀ s2 H2 C ex,Passes CX (compCxX X sc (x :: ys) cl s2 H2 C ex) E->PE (compCxX X sc (x :: ys) cl s2 H2 C ex) elt te) (hs : ∀ v,foldedSetIterable iter X.env v = pure v:=by intro _; rfl) :
  PS X (.Assign [.Name y0 py] (.ListComp elt [⟨.Name x px,iter,[],0⟩] sc pos) spos) (tAsg (tComp wi js te) (gName i0)):=by
 intro pins s σ H DE I h
 rw [exec_Assign_Name_used _ _ _ _ hsw]
 refine wpAny_bind (wpAny_standAt (wpAny_bind ?_))
 show wpAny _ _ (do let _ <- comprehension (.ListComp elt [⟨.Name x px,iter,[],0⟩] sc pos) sc X.env _ (newList []) false (eval iter X.env) (some (assign (.Name y0 py) X.env))) _ _ s
 refine wpAny_bind (wpAny_mono (E:=X.xe) (wpAny_comprehension_free (use:=some (assign (.Name y0 py) X.env)) (Q:=fun _ s'=>SP X pins DE .next s') rfl hs hclos hkind hnames (wpAny_mono (hi pins s σ H _ (I.wish _) h) ?_ fun _ _ z=>False.elim z)) (fun _ s' hq=>wpAny_pure (wpAny_pure hq)) fun _ _ z=>z)
 intro v s1 h1
 refine wpAny_mono h1 ?_ fun _ _ z=>False.elim z
 rintro itv s2 ⟨it,fp,tn,J,H2,rfl,I2w,T,st2,f2w,q⟩
 have I2:=I2w.unwish
 have f2 : ∀ b ∈ fp,FpOk X pins H2 b:=f2w
 refine wpAny_newObj_type (wpAny_newFunctionEnv hcell (by intro y hy; simp at hy) (fun h4 hns hsb=>?_) hkind)
 dsimp only at hns hsb ⊢
 generalize hE : s2.heap.push { cls:=.type "list",dict:=none,data:=.seq ([] : List Value).toArray } = g3 at hns hsb ⊢
 have hsz : g3.objs.size = s2.heap.objs.size + 1:=by rw [<- hE,Heap.size_push]
 have hDC : s2.heap.objs.size ≠ g3.objs.size:=by omega
 have old : ∀ b o,s2.heap.get? b = some o->h4.get? b = some o:=fun b o e=>by
  have lt : b < s2.heap.objs.size:=Heap.lt_size e
  rw [hsb.2 b (Nat.ne_of_lt (by rw [hsz]; exact Nat.lt_succ_of_lt lt))]
  exact Heap.get?_push_of_some _ (hE ▸ Heap.get?_push_of_some _ e)
 have hD0 : H2 s2.heap.objs.size = none:=I2.hok.fresh (Nat.le_refl _)
 have hC0 : H2 g3.objs.size = none:=I2.hok.fresh (by omega)
 have hDat : h4.get? s2.heap.objs.size = some { cls:=.type "list",data:=.seq ([] : List Value).toArray }:=by
  rw [hsb.2 _ hDC]
  exact Heap.get?_push_of_some _ (hE ▸ Heap.get?_push_size _ rfl)
 obtain ⟨W,⟨m0,w0⟩,turn⟩:=q s2.heap.objs.size hD0
 have hfl : ∀ b ∈ fp,b < s2.heap.objs.size:=fun b hb=>by
  obtain ⟨o,e,_⟩:=T.obj _ _ st2 b hb
  exact Heap.lt_size e
 have J0 : Inv (compCx X sc (x :: ys) cl s2 H2 g3.objs.size fp) [] (none :: capt σ js) (upd H2 s2.heap.objs.size (.lst [])) { s2 with heap:=h4,toks:=s2.toks + ([] : List (Str × Value)).length }:=by
  refine inv_comp (m:=fun y=>([] : List (Str × Value)).reverse.lookup y) I2 f2 hkind hcap hin hhas hfl (by omega) rfl I2.bare (Un.laid old (Nat.le_refl _) hD0) old hns ?_ ?_
  ·rw [upd_ne (Ne.symm hDC)]; exact hC0
  ·exact I2.hok.laid old (Nat.le_refl _) ⟨Nat.zero_le _,[],0,.nil,hDat⟩
 have st4 : tn 0 h4:=T.keep _ _ _ st2 fun b hb o e=>old b o e
 have xcell : ∀ y c,(compCx X sc (x :: ys) cl s2 H2 g3.objs.size fp).env.cells.lookup y = some c->X.env.cells.lookup y = some c:=hin
 have stat : ∀ {H' : Hp},(∀ b ∈ fp,H' b = none)->∀ b ∈ fp,FpOk (compCx X sc (x :: ys) cl s2 H2 g3.objs.size fp) [] H' b:=fun hn b hb=>by
  refine ⟨hn b hb,?_,?_,.inl hb,fun y c e=>(f2 b hb).2.2.2.2.1 y c (hin y c e),fun p hp=>absurd (show p ∈ ([] : List (Addr × Obj)) from hp) (by simp)⟩
  ·have lt : b < s2.heap.objs.size:=hfl b hb
   exact Nat.ne_of_lt (by show b < g3.objs.size; rw [hsz]; exact Nat.lt_succ_of_lt lt)
  ·intro z
   rcases List.mem_cons.mp (I2.stkSub b z) with q | q
   ·exact (f2 b hb).2.1 q
   ·exact (f2 b hb).2.2.1 q
 have fin : ∀ {σ' : St} {H' : Hp} {s' : Shared},Inv (compCx X sc (x :: ys) cl s2 H2 g3.objs.size fp) [] σ' H' s'->gName i0 (.ref s2.heap.objs.size) σ H' DE.nx ->
   compPost (model X.prog X.w) X.A X.xe (some (assign (.Name y0 py) X.env)) (fun _ s'=>SP X pins DE .next s') (.ref s2.heap.objs.size) g3.objs.size (.ok .next) s':=fun {σ' H' s'} J' q'=>by
  obtain ⟨m,hm,_⟩:=J'.loc
  have neC : ∀ b o,s2.heap.get? b = some o->b ≠ g3.objs.size:=fun b o e=>by
   have lt : b < s2.heap.objs.size:=Heap.lt_size e
   exact Nat.ne_of_lt (by rw [hsz]; exact Nat.lt_succ_of_lt lt)
  have ub:=J'.base
  have I' : Inv X pins σ H' s':=I2.call' (ch:=fp) J'.os ub J'.hok J'.bare fun b hb=>⟨(f2 b hb).2.2.2.1,(f2 b hb).2.1,(f2 b hb).2.2.2.2.1,(f2 b hb).2.2.2.2.2⟩
  have fC : FpOk X pins H' g3.objs.size:=I2.fpOk (by omega) J'.free
  show wpAny _ _ (assign (.Name y0 py) X.env (.ref s2.heap.objs.size)) _ _ s'
  refine wpAny_assign_Name (store_ok2 (v:=.ref s2.heap.objs.size) I' hN hi0 (.inl hy0) rfl (fun s3 I3 sb3=>?_) (.inr hy0))
  obtain ⟨a3,sb3,ha3⟩:=sb3
  have na : g3.objs.size ≠ a3:=by
   rcases ha3 with rfl | z
   ·exact fC.2.1
   ·exact fun e=>fC.2.2.2.2.1 _ _ z e.symm
  have h0 : X.s₀.heap.get? g3.objs.size = none:=by
   cases e : X.s₀.heap.get? g3.objs.size with
   | none=>rfl
   | some o =>
    have l1:=Heap.lt_size e
    exact absurd (Nat.lt_of_lt_of_le l1 (Nat.le_trans I2.sz (Nat.le_trans (Nat.le_succ _) (Nat.le_of_eq hsz.symm)))) (Nat.lt_irrefl _)
  exact ⟨m,hm.sameBut sb3 na,fun h' sb=>⟨_,H',I3.but sb fC h0,q'⟩⟩
 have loop : ∀ s4 : Shared,s4 = { s2 with heap:=h4,toks:=s2.toks + ([] : List (Str × Value)).length } ->
   codeAny (model X.prog X.w) X.A (.compLoop (.ListComp elt [⟨.Name x px,iter,[],0⟩] sc pos) 0 (.ref it) (.ref s2.heap.objs.size) (compEnvC sc cl g3.objs.size X.env))
    (compPost (model X.prog X.w) X.A X.xe (some (assign (.Name y0 py) X.env)) (fun _ s'=>SP X pins DE .next s') (.ref s2.heap.objs.size) g3.objs.size) s4:=by
  rintro s4 rfl
  refine comp_loopX (fun n s'=>∃ i xo ys' H',Inv (compCx X sc (x :: ys) cl s2 H2 g3.objs.size fp) [] (xo :: capt σ js) H' s'/\tn i s'.heap/\(∀ b ∈ fp,H' b = none)/\W i n ys' H') ?_ m0 ⟨0,none,[],_,J0,st4,fun b hb=>?_,w0⟩
  ·rintro n s' ⟨i,xo,ys',H',J',st',fr',w'⟩
   obtain ⟨hD,alt⟩:=turn i n ys' H' w'
   rcases alt with ⟨stop,qn⟩ | ⟨go,step⟩
   ·refine wpAny_mono (T.done (compCx X sc (x :: ys) cl s2 H2 g3.objs.size fp) rfl rfl rfl hc i [] s' _ H' (fun _ _=>False) J' (stat fr') st' stop) ?_ fun _ _ z=>z
    rintro r s'' ⟨rfl,J''⟩
    exact fin J'' qn
   ·refine wpAny_mono (T.item (compCx X sc (x :: ys) cl s2 H2 g3.objs.size fp) rfl rfl rfl hc i [] s' _ H' (fun _ _=>False) J' (stat fr') st' go) ?_ fun _ _ z=>z
    rintro r s'' ⟨u,rfl,hu⟩
    refine wpAny_mono hu ?_ fun _ _ z=>z.elim
    rintro _ s5 ⟨xv,H5,J5,r5,y5,st5,fr5⟩
    have J5':=J5.pinned (stat fr5) (T.obj _ _ st5)
    refine wpAny_assign_Name (store_ok (X:=compCx X sc (x :: ys) cl s2 H2 g3.objs.size fp) (i:=0) J5' hnd rfl (.inl hx) r5 (fun s6 J6=>?_) (.inr hx))
    refine wpAny_mono (he s2 H2 g3.objs.size fp (hp pins σ H2 s2 fp g3.objs.size I2 f2 (by omega)) _ s6 _ H5 _ (J6.wish _) (step xv H5 y5)) ?_ fun _ _ z=>z
    rintro yv s7 ⟨yy,H7,J7w,r7,hD7,hlen,m',hm',w7⟩
    have J7:=J7w.unwish
    refine wpAny_mono (mt_append (X:=compCx X sc (x :: ys) cl s2 H2 g3.objs.size fp) _ s7 _ H7 (.ref s2.heap.objs.size) [yy] (.ref s2.heap.objs.size) [yv] (fun _ H8=>H8 = upd H7 s2.heap.objs.size (.lst (ys' ++ [yy]))) J7 rfl (.cons r7 .nil) ⟨_,ys',yy,rfl,rfl,hD7,hlen,rfl⟩) ?_ fun _ _ z=>z
    rintro _ s8 ⟨_,H8,J8,_,rfl⟩
    have pinned : ∀ b ∈ fp,∀ o,s5.heap.get? b = some o->s8.heap.get? b = some o/\(upd H7 s2.heap.objs.size (.lst (ys' ++ [yy]))) b = none:=fun b hb o e=>by
     obtain ⟨q1,q2,_⟩:=J8.pin (b,o) (List.mem_append_right _ (List.mem_append_right _ (mem_pinsAt hb e)))
     exact ⟨q1,q2⟩
    refine ⟨m',hm',i + 1,some xv,ys' ++ [yy],_,J8.unpinned,T.keep _ _ _ st5 fun b hb o e=>(pinned b hb o e).1,fun b hb=>?_,w7⟩
    obtain ⟨o,e,_⟩:=T.obj _ _ st5 b hb
    exact (pinned b hb o e).2
  ·rw [upd_ne (Nat.ne_of_lt (hfl b hb))]
   exact (f2 b hb).1
 exact codeAny_compStart_list (loop _ rfl) (T.self _ _ _ _ _ st4 (loop _ rfl))
end
theorem ps_compXR {X : Cx} {CX : CXT} {E : XK} {i0 : Nat} {y0 : Str} {py spos : Pos} {x : Str} {px pos : Pos} {elt iter : Expr} {sc : Scope} {wi : TI} {te : TE} (hN : X.N.Nodup) (ys : List Str) (js : List Nat) (cl : List (Str × Addr)) (hclos : closureFor sc X.env = pure cl) (hcap : Caps X sc cl ys js) (hin : ClIn X.env cl)
  (hp : ∀ pins σ H2 s2 fp C,Inv X pins σ H2 s2->(∀ b ∈ fp,FpOk X pins H2 b)->s2.heap.objs.size <= C->Passes CX (compCxX X sc (x :: ys) cl s2 H2 C fp) E)
  (hi : PI X.nox (.Name x px) iter wi) (he : ∀ s2 H2 C ex,Passes CX (compCxX X sc (x :: ys) cl s2 H2 C ex) E->PE (compCxX X sc (x :: ys) cl s2 H2 C ex) elt te) (hc : X.calm = true:=by rfl)
  (hcell : (sc.names.all fun p=>p.2 != NameKind.cell) = true:=by rfl) (hkind : sc.kind = .function:=by rfl) (hnames : (sc.names.all fun p=>p.2 != NameKind.local || sc.names.lookup p.1 == some NameKind.local) = true:=by rfl)
  (hx : (relabel sc X.env).names.lookup x = some .local:=by rfl) (hhas : ((relabel sc X.env).names.all fun p=>p.2 == NameKind.local || p.2 == NameKind.globalImplicit || (cl.lookup p.1).isSome) = true:=by rfl)
  (hnd : (x :: ys).Nodup:=by decide +kernel) (hs : ∀ v,foldedSetIterable iter X.env v = pure v:=by intro _; rfl) (hi0 : X.N[i0]? = some y0:=by kernel_rfl) (hy0 : X.env.scope.names.lookup y0 = some .local:=by kernel_rfl) (hsw : swapsWith (.ListComp elt [⟨.Name x px,iter,[],0⟩] sc pos) (some (.Name y0 py)) spos.line X.env = pure true:=by kernel_rfl) :
  PS X (.Assign [.Name y0 py] (.ListComp elt [⟨.Name x px,iter,[],0⟩] sc pos) spos) (tAsg (tComp wi js te) (gName i0)):=by
 refine ps_compX hp hN hi0 hy0 hsw hclos (fun y hy z=>?_) hkind (fun y hy z=>?_) hx hcap (fun y c e=>hin.mem (PySem.mem_of_lookup e)) (fun y h=>?_) hnd hc hi he hs
 ·have:=List.all_eq_true.mp hcell y hy
  rw [z] at this
  exact absurd this (by decide)
 ·have:=List.all_eq_true.mp hnames y hy
  rw [z] at this
  simpa using this
 ·have hm : ∃ k,(y,k) ∈ (relabel sc X.env).names/\(k = .cell \/ k = .free):=by
   rcases h with h | h
   ·exact ⟨_,PySem.mem_of_lookup h,.inl rfl⟩
   ·exact ⟨_,PySem.mem_of_lookup h,.inr rfl⟩
  obtain ⟨k,hk,hz⟩:=hm
  have:=List.all_eq_true.mp hhas _ hk
  rcases hz with rfl | rfl
  ·exact Option.isSome_iff_exists.mp (by simpa using this)
  ·exact Option.isSome_iff_exists.mp (by simpa using this)
theorem s_compX {X : Cx} {CX : CXT} {E : XK} {i : Nat} {y0 : Str} {py spos : Pos} {x : Str} {px pos : Pos} {elt iter : Expr} {sc : Scope} {wi : TI} {te : TE} (hN : X.N.Nodup) (ys : List Str) (js : List Nat) (cl : List (Str × Addr)) (hclos : closureFor sc X.env = pure cl) (hcap : Caps X sc cl ys js) (hin : ClIn X.env cl)
  (hp : ∀ pins σ H2 s2 fp C,Inv X pins σ H2 s2->(∀ b ∈ fp,FpOk X pins H2 b)->s2.heap.objs.size <= C->Passes CX (compCxX X sc (x :: ys) cl s2 H2 C fp) E)
  (hi : QI X.nox (.Name x px) iter wi) (he : ∀ s2 H2 C ex,Passes CX (compCxX X sc (x :: ys) cl s2 H2 C ex) E->QE (compCxX X sc (x :: ys) cl s2 H2 C ex) elt te) (hc : X.calm = true:=by rfl)
  (hcell : (sc.names.all fun p=>p.2 != NameKind.cell) = true:=by rfl) (hkind : sc.kind = .function:=by rfl) (hnames : (sc.names.all fun p=>p.2 != NameKind.local || sc.names.lookup p.1 == some NameKind.local) = true:=by rfl)
  (hx : (relabel sc X.env).names.lookup x = some .local:=by rfl) (hhas : ((relabel sc X.env).names.all fun p=>p.2 == NameKind.local || p.2 == NameKind.globalImplicit || (cl.lookup p.1).isSome) = true:=by rfl)
  (hnd : (x :: ys).Nodup:=by decide +kernel) (hs : ∀ v,foldedSetIterable iter X.env v = pure v:=by intro _; rfl) (hi0 : X.N[i]? = some y0:=by kernel_rfl) (hy0 : X.env.scope.names.lookup y0 = some .local:=by kernel_rfl)
  (hsw : swapsWith (.ListComp elt [⟨.Name x px,iter,[],0⟩] sc pos) (some (.Name y0 py)) spos.line X.env = pure true:=by kernel_rfl) :
  QS X (.Assign [.Name y0 py] (.ListComp elt [⟨.Name x px,iter,[],0⟩] sc pos) spos) (tAsg (tComp wi js te) (gName i)) :=
 ⟨ps_compXR hN ys js cl hclos hcap hin hp hi.h (fun a b c d e=>(he a b c d e).h) hc hcell hkind hnames hx hhas hnd hs hi0 hy0 hsw⟩
theorem comp_tupX {K : PySem.W.Frag} {a : Addr} {xs : List V} {H : Hp} {cap : St} {te : TE} {Q : VK} (J : Nat->List V->Prop) (hS : SqT K H a xs) (hn : xs.length <= sizeLine) (j0 : J 0 [])
  (el : ∀ (i : Nat) x zs H' (P : VK),Same H H'->xs[i]? = some x->J i zs->(∀ y H'',Same H' H''->J (i + 1) (zs ++ [y])->P y H'')->te (some x :: cap) H' P)
  (fin : ∀ D zs H',Same H H'->H D = none->H' D = some (.lst zs)->J xs.length zs->Q (.ref D) H') : Comped (Itt K a) cap te Q H:=by
 intro D hD
 refine ⟨fun i m zs H2=>m = xs.length - i/\i <= xs.length/\zs.length = i/\H2 D = some (.lst zs)/\Same H H2/\J i zs,⟨xs.length,rfl,Nat.zero_le _,rfl,upd_same,Same.new hD _,j0⟩,?_⟩
 rintro i m zs H2 ⟨rfl,hi,hz,hDz,hS2,hj⟩
 refine ⟨hDz,?_⟩
 by_cases h : i < xs.length
 ·refine .inr ⟨⟨xs,xs[i],hS2.seqT hS,List.getElem?_eq_getElem h⟩,?_⟩
  rintro x H3 ⟨rfl,hx⟩
  refine el i x zs H3 _ hS2 (hx xs (hS2.seqT hS)) hj fun y H4 hS4 hj4=>⟨hS4 _ _ hDz,by omega,xs.length - (i + 1),by omega,rfl,h,(by rw [List.length_append,hz]; rfl),upd_same,fun b u q=>?_,hj4⟩
  rw [upd_ne (ne_of_none q hD)]
  exact hS4 _ _ (hS2 _ _ q)
 ·have e : i = xs.length:=by omega
  subst e
  exact .inl ⟨⟨xs,hS2.seqT hS,Nat.le_refl _⟩,fin D zs H2 hS2 hD hDz hj⟩
end L2
set_option maxHeartbeats 4000000
namespace ET
open PySem PySem.Spec PyProof.Rows
section
variable {prog : Program} {w : World} {A : Around} {E : Value->Shared->Prop} {s : Shared}
theorem next_item {J T : Addr} {k : Nat} {us : Array Value} {v : Value} {Q : Value->Shared->Prop} (hJ : s.heap.IsTupleIter J T k) (hT : s.heap.IsTuple T us) (hv : us[k]? = some v)
  (q : ∀ h',h'.IsTupleIter J T (k + 1)->Heap.SameBut J s.heap h'->Q v { s with heap:=h' }) : wpAny (model prog w) A (Builtin.SmallTypes.nextOf (.ref J)) Q E s:=by
 obtain ⟨oJ,gJ,cJ,dJ⟩:=id hJ
 obtain ⟨oT,gT,_,m,dT⟩:=hT
 unfold Builtin.SmallTypes.nextOf
 refine wpAny_bind (wpAny_callSpecial?_slot (name:=Str.ofString "__next__") hJ.typeIs F.slot_tuple_iterator_next (wpAny_call_entry F.slot_tuple_iterator_next hJ.typeIs F.entry_tuple_iterator_next ?_ (F.args_tuple_iterator_next_1 _)))
 show wpAny _ _ (field (.ref J) 0 >>= _) _ _ s
 refine wpAny_bind (wpAny_field gJ dJ (x:=.ref T) rfl ?_)
 show wpAny _ _ (if (Value.ref T == Value.none) = true then _ else _) _ _ s
 rw [if_neg (show ¬ ((Value.ref T == Value.none) = true) from Bool.false_ne_true)]
 show wpAny _ _ (field (.ref J) 1 >>= _) _ _ s
 refine wpAny_bind (wpAny_field gJ dJ (x:=.int k 0) rfl ?_)
 show wpAny _ _ (seqItems? (.ref T) >>= _) _ _ s
 refine wpAny_bind (wpAny_seqItems gT dT ?_)
 simp only [Int.toNat_natCast,hv]
 refine wpAny_bind (wpAny_setField gJ dJ (by simp) (wpAny_pure ⟨v,rfl,wpAny_pure (q _ ?_ (Heap.SameBut.update ..))⟩))
 exact ⟨_,Heap.get?_update_self _ gJ (Obj.isFreed_of_fields (Obj.data_mapFields dJ _)),(Obj.cls_mapFields ..).trans cJ,by rw [Obj.data_mapFields dJ]; simp [rawInt]⟩
theorem next_end {J T : Addr} {k : Nat} {us : Array Value} {Q : Value->Shared->Prop} (hA : A.handled = none) (hJ : s.heap.IsTupleIter J T k) (hT : s.heap.IsTuple T us) (hv : us[k]? = none)
  (q : ∀ h' e,Heap.ExtBut J s.heap h'->(∃ o,h'.get? e = some o/\o.cls = .type "StopIteration")->E (.ref e) { s with heap:=h' }) : wpAny (model prog w) A (Builtin.SmallTypes.nextOf (.ref J)) Q E s:=by
 obtain ⟨oJ,gJ,cJ,dJ⟩:=id hJ
 obtain ⟨oT,gT,_,m,dT⟩:=hT
 unfold Builtin.SmallTypes.nextOf
 refine wpAny_bind (wpAny_callSpecial?_slot (name:=Str.ofString "__next__") hJ.typeIs F.slot_tuple_iterator_next (wpAny_call_entry F.slot_tuple_iterator_next hJ.typeIs F.entry_tuple_iterator_next ?_ (F.args_tuple_iterator_next_1 _)))
 show wpAny _ _ (field (.ref J) 0 >>= _) _ _ s
 refine wpAny_bind (wpAny_field gJ dJ (x:=.ref T) rfl ?_)
 show wpAny _ _ (if (Value.ref T == Value.none) = true then _ else _) _ _ s
 rw [if_neg (show ¬ ((Value.ref T == Value.none) = true) from Bool.false_ne_true)]
 show wpAny _ _ (field (.ref J) 1 >>= _) _ _ s
 refine wpAny_bind (wpAny_field gJ dJ (x:=.int k 0) rfl ?_)
 show wpAny _ _ (seqItems? (.ref T) >>= _) _ _ s
 refine wpAny_bind (wpAny_seqItems gT dT ?_)
 simp only [Int.toNat_natCast,hv]
 refine wpAny_bind (wpAny_rule (wpAny_bind (wpAny_setField gJ dJ (by simp) ?_)))
 show wpAny _ _ (newExc (.type "StopIteration") [] >>= _) _ _ _
 refine wpAny_bind ?_
 simp only [newExc,newTuple]
 refine wpAny_bind (wpAny_newObj_type ?_ (by size_fits))
 refine wpAny_bind (m:=firstArgMember _ _) (wpAny_of_eq (a:=Value.none) (by first | rfl | (simp only [firstArgMember]; rfl)) ?_)
 refine wpAny_newObj_type ?_ (by size_fits)
 simp only [raiseNew]
 refine wpAny_bind (wpAny_handled ?_)
 rw [hA]
 refine wpAny_bind (wpAny_pure (wpAny_throw ?_))
 exact q _ _ (((Heap.SameBut.update ..).extBut.push _).push _) ⟨_,Heap.get?_push_size _ rfl,rfl⟩
end
theorem draws {prog : Program} {w : World} {A : Around} (hA : A.handled = none) (J T : Addr) (ne : T ≠ J) (us : Array Value) :
  Draws prog w A J [J,T] us.size (fun i v=>us[i]? = some v) (fun i h=>h.IsTupleIter J T i/\h.IsTuple T us) where
 live:=fun _ _ st=>let ⟨o,ho,_⟩:=st.1; ⟨o,ho⟩
 frame:=fun _ _ _ st k=>⟨st.1.at fun o e=>k J (by simp) o e,let ⟨o,ho,r⟩:=st.2; ⟨o,k T (by simp) o ho,r⟩⟩
 item:=fun i s Q E hi st q=>next_item st.1 st.2 (v:=us[i]) (by simp [hi]) fun h' a b=>q _ h' s.toks (by simp [hi]) ⟨a,st.2.extBut b.extBut ne⟩ b
 done:=fun s Q E st q=>next_end hA st.1 st.2 (by simp) q
open AutoSeq1 (wpAny_loadPart')
theorem meets_new (T : Addr) (us : Array Value) (n : Nat) (dc : Option Addr) (sl : Array (Option Value)) :
  Meets (Builtin.«enumerate.__new__» ⟨[.type "enumerate",.ref T],[]⟩) (fun _ R s=>s.heap.get? T = some { cls:=.type "tuple",dict:=dc,data:=.seq us n,slots:=sl } /\
   R (.ok (.ret (.ref (s.heap.push { cls:=.type "tuple_iterator",data:=.fields #[.ref T,.int 0 0] }).objs.size)))
    { s with heap:=(s.heap.push { cls:=.type "tuple_iterator",data:=.fields #[.ref T,.int 0 0] }).push { cls:=.type "enumerate",data:=.fields #[.none,.bool false,.ref s.heap.objs.size,rawInt 0,.none,.none] } }) :=
 .of_wp fun prog w A R s h=>by
  obtain ⟨hp,g,d,tk,os⟩:=s
  obtain ⟨hl,h⟩:=h
  have hsub:=sub_enumerate
  have hT : Heap.IsTuple (Shared.heap ⟨hp,g,d,tk,os⟩) T us:=⟨_,hl,rfl,n,rfl⟩
  wp_walk using wpAny_loadPart' hl
  refine wpAny_stack_any fun st=>wpAny_pure ?_
  split
  ·rename_i c _ _ _ _ _
   cases (c == Value.type "enumerate")
   ·wp_walk using wpAny_loadPart' hl,wpAny_pyIter_tuple hT
    exact ⟨_,rfl,h⟩
   ·wp_walk using wpAny_loadPart' hl,wpAny_pyIter_tuple hT
    exact ⟨_,rfl,h⟩
  ·wp_walk using wpAny_loadPart' hl,wpAny_pyIter_tuple hT
   exact ⟨_,rfl,h⟩
theorem call_new {prog : Program} {w : World} {A : Around} {E : Value->Shared->Prop} {s : Shared} {T : Addr} {us : Array Value} {Q : Value->Shared->Prop} (hT : s.heap.IsTuple T us)
  (h : ∀ h',IsEnum h' (s.heap.objs.size + 1) s.heap.objs.size 0 .none->h'.IsTupleIter s.heap.objs.size T 0->(∀ b o,s.heap.get? b = some o->h'.get? b = some o)->Q (.ref (s.heap.objs.size + 1)) { s with heap:=h' }) :
  wpAny (model prog w) A (call (.type "enumerate") [.ref T]) Q E s:=by
 obtain ⟨⟨c,dc,dt,sl⟩,g,c1,n,d1⟩:=hT
 replace c1 : c = .type "tuple":=c1
 replace d1 : dt = .seq us n:=d1
 subst c1 d1
 refine callType_new F.called_enumerate (by decide) (F.typeCall_enumerate_1 _) (F.newCall_enumerate_1 _) (fun obj=>F.args_object_init_2 obj _) F.entry_enumerate_new (meets_new T us n dc sl) ⟨g,?_⟩
 have hz : (s.heap.push { cls:=.type "tuple_iterator",data:=.fields #[.ref T,.int 0 0] }).objs.size = s.heap.objs.size + 1:=Heap.size_push ..
 show _/\_
 rw [hz]
 have he : IsEnum ((s.heap.push { cls:=.type "tuple_iterator",data:=.fields #[.ref T,.int 0 0] }).push { cls:=.type "enumerate",data:=.fields #[.none,.bool false,.ref s.heap.objs.size,rawInt 0,.none,.none] }) (s.heap.objs.size + 1) s.heap.objs.size 0 .none:=by
  have z:=Heap.get?_push_size (s.heap.push { cls:=.type "tuple_iterator",data:=.fields #[.ref T,.int 0 0] }) (o:={ cls:=.type "enumerate",data:=.fields #[.none,.bool false,.ref s.heap.objs.size,rawInt 0,.none,.none] }) rfl
  rw [hz] at z
  exact z
 exact ⟨⟨_,he,rfl⟩,h _ he ⟨_,Heap.get?_push_of_some _ (Heap.get?_push_size _ rfl),rfl,rfl⟩ fun b o x=>Heap.get?_push_of_some _ (Heap.get?_push_of_some _ x)⟩
end ET
namespace L2
open PySem PySem.Spec PyProof.Rows
def IteT (K : PySem.W.Frag) (a : Addr) : It :=
 ⟨fun i H=>∃ xs x,SqT K H a xs/\xs[i]? = some x,fun i H x H'=>∃ p v,x = .ref p/\H p = none/\H' = upd H p (.tup [.int (i : Int),v])/\∀ xs,SqT K H a xs->xs[i]? = some v,fun i H=>∃ xs,SqT K H a xs/\xs.length = i⟩
theorem turn_enumT {P : Program} {w : World} {K : PySem.W.Frag} {elts : List Expr} {x1} {pos : Pos} (a e it : Addr) (hne : e ≠ it) :
  Turn P w K (.Tuple elts x1 pos) (IteT K a) [e,it] e (fun i h=>∃ old,IsEnum h e it (i : Int) old/\h.IsTupleIter it a i) where
 mem:=by simp
 obj:=fun i h st b hb=>by
  obtain ⟨old,he,o,e1,c,d⟩:=st
  have hb' : b = e \/ b = it:=by simpa using hb
  rcases hb' with rfl | rfl
  ·exact ⟨_,he,fun v z=>by
    have z' : Data.fields _ = Data.cell v:=z
    cases z'⟩
  ·exact ⟨o,e1,fun v z=>by rw [d] at z; cases z⟩
 keep:=fun i h h' st k=>by
  obtain ⟨old,he,hi⟩:=st
  exact ⟨old,k e (by simp) _ he,hi.at fun o q=>k it (by simp) o q⟩
 item:=by
  intro X hP hw hK hc i pins s σ H E I hf st hg
  subst hP hw hK
  obtain ⟨xs,x,hq,hx⟩:=hg
  obtain ⟨old,he,hit⟩:=st
  obtain ⟨its,rv,p,hz⟩:=I.tuple hq
  have p' : s.heap.IsTuple a its.toArray:=p
  obtain ⟨u,hu,ru⟩:=rv.get hx
  have hu' : its.toArray[i]? = some u:=by simpa using hu
  have nea : e ≠ a:=fun z=>by
   obtain ⟨o,e1,c1,_⟩:=p'
   rw [<- z,he] at e1
   cases e1
   exact absurd (Value.type.inj c1) (by decide)
  have nia : a ≠ it:=fun z=>by
   obtain ⟨o,e1,c1,_⟩:=p'
   obtain ⟨o2,e2,c2,_⟩:=hit
   rw [z,e2] at e1
   cases e1
   rw [c1] at c2
   exact absurd (Value.type.inj c2) (by decide)
  refine wpAny_pyNext_enum_itemD (ET.draws (show X.A.in1.handled = none from I.ok.hd hc) it a nia its.toArray) he ⟨hit,p'⟩ (Array.getElem?_eq_some_iff.mp hu').1 hne (by simp [hne,nea]) fun x' h1 tk hP eo st1 ht hz1 hk1=>?_
  obtain rfl : u = x':=by
   have z:=hu'.symm.trans hP
   cases z
   rfl
  refine ⟨_,rfl,wpAny_letOwnedTupleGo_enum (s:={ s with heap:=h1,toks:=tk + 1 }) eo fun h2 he2 hs2=>?_⟩
  have hs2' : Heap.SameBut e h1 h2:=hs2
  have nH : H s.heap.objs.size = none:=I.hok.fresh (Nat.le_refl _)
  have eL : e < s.heap.objs.size:=Heap.lt_size he
  obtain ⟨oi,hoi,ci,di⟩:=id hit
  have iL : it < s.heap.objs.size:=Heap.lt_size hoi
  have ht2 : h2.get? s.heap.objs.size = some { cls:=.type "tuple",data:=.seq #[.int i tk,u] }:=(hs2'.2 _ (Nat.ne_of_gt eL)).trans ht
  have pg : (s.heap.push { cls:=.type "tuple",data:=.seq #[.int i tk,u] }).get? s.heap.objs.size = some { cls:=.type "tuple",data:=.seq #[.int i tk,u] }:=Heap.get?_push_size _ rfl
  have J1:=I.laid (a:=s.heap.objs.size) (o:=.tup [.int (i : Int),x]) (h':=s.heap.push { cls:=.type "tuple",data:=.seq #[.int i tk,u] }) (t':=s.toks) (fun b v z=>Heap.get?_push_of_some _ z) (Nat.le_refl _)
   ⟨(by show 2 <= sizeLine; decide),[.int i tk,u],.cons ⟨_,rfl⟩ (.cons ru .nil),⟨_,pg,rfl,_,rfl⟩⟩
  have fp' : ∀ b ∈ [e,it],FpOk X pins (upd H s.heap.objs.size (.tup [.int (i : Int),x])) b:=fun b hb=>by
   obtain ⟨f0,f1,f2,f3,f4,f5⟩:=hf b hb
   have hb' : b = e \/ b = it:=by simpa using hb
   refine ⟨?_,f1,f2,f3,f4,f5⟩
   rw [upd_ne (by rcases hb' with rfl | rfl; exact Nat.ne_of_lt eL; exact Nat.ne_of_lt iL)]
   exact f0
  have J2:=J1.turnedL (h':=h2) (t':=tk + 1) (ch:=[e,it]) (fun b o hb z=>by
   have n1 : b ≠ e:=fun y=>hb (by simp [y])
   have n2 : b ≠ it:=fun y=>hb (by simp [y])
   by_cases hp : b = s.heap.objs.size
   ·subst hp
    have z' : s.heap.objs.size = s.heap.objs.size->(s.heap.push { cls:=.type "tuple",data:=.seq #[.int i tk,u] }).get? s.heap.objs.size = some o:=fun _=>z
    rw [pg] at z'
    have:=z' rfl
    cases this
    exact ht2
   ·have z2 : s.heap.get? b = some o:=get_push_ne z hp
    exact (hs2'.2 b n1).trans (hk1 b o n1 n2 z2)) fp'
  refine ⟨.ref s.heap.objs.size,_,J2,rfl,⟨_,x,rfl,nH,rfl,fun ys hy=>by rw [I.tuple_inj hy hq]; exact hx⟩,⟨u,?_,?_⟩,fun b hb=>(fp' b hb).1⟩
  ·have e1 : ((i : Int) + 1) = ((i + 1 : Nat) : Int):=by omega
   rw [<- e1]
   exact he2
  ·exact st1.1.at fun o q=>(hs2'.2 it (Ne.symm hne)).trans q
 done:=by
  intro X hP hw hK hc i pins s σ H E I hf st hg
  subst hP hw hK
  obtain ⟨xs,hq,hx⟩:=hg
  obtain ⟨old,he,hit⟩:=st
  obtain ⟨its,rv,p,hz⟩:=I.tuple hq
  have p' : s.heap.IsTuple a its.toArray:=p
  have hl:=rv.length
  have nia : a ≠ it:=fun z=>by
   obtain ⟨o,e1,c1,_⟩:=p'
   obtain ⟨o2,e2,c2,_⟩:=hit
   rw [z,e2] at e1
   cases e1
   rw [c1] at c2
   exact absurd (Value.type.inj c2) (by decide)
  obtain rfl : i = its.toArray.size:=by simp; omega
  refine wpAny_pyNext_enum_endD (ET.draws (show X.A.in1.handled = none from I.ok.hd hc) it a nia its.toArray) he ⟨hit,p'⟩ fun h' eb=>⟨rfl,I.turnedL (t':=s.toks) (ch:=[e,it]) (fun b o hb z=>eb b o (fun y=>hb (by simp [y])) z) hf⟩
 self:=fun _ _ _ _ _ st h=>by
  obtain ⟨old,he,_⟩:=st
  exact wpAny_pyIter_enum he h
def iEnumT (K : PySem.W.Frag) (ta : TA) : TI:=fun σ H R=>ta σ H fun vs H1=>∃ a,vs = [.ref a]/\(∃ xs,SqT K H1 a xs)/\R (IteT K a) H1
section
variable {X : Cx}
theorem pi_enumT {elts : List Expr} {x1} {tpos p pos : Pos} {a : Expr} {ta : TA} (hg : Gl X "enumerate") (hm : X.mg "enumerate" = none) (hbt : bootBuiltins "enumerate" = some (.type "enumerate")) (ha : PA X [a] ta) (hs : starEach [a] X.env = [(false,eval a X.env)]:=by rfl) :
  PI X (.Tuple elts x1 tpos) (.Call (.Name "enumerate" p) [a] [] pos) (iEnumT X.K ta):=by
 intro pins s σ H R I h
 refine Call_ (ld_blt I hg hm hbt (PyProof.Rows.callWith_type1 (thn (ha pos pins s σ H _ I h) fun us s1 ⟨vs,H1,I1,r1,q1⟩=>?_) hs rfl))
 obtain ⟨a,rfl,⟨xs,hq⟩,q⟩:=q1
 obtain ⟨u,rfl,ru⟩:=vals1 r1
 cases ru
 obtain ⟨its,rv,pl,hz⟩:=I1.tuple hq
 refine ET.call_new (show s1.heap.IsTuple a its.toArray from pl) fun h' he hi hk=>?_
 refine wpAny_pyIter_enum he ?_
 have I2 : Inv X pins σ H1 { s1 with heap:=h' }:=I1.kept (t':=s1.toks) hk
 refine ⟨s1.heap.objs.size + 1,[s1.heap.objs.size + 1,s1.heap.objs.size],_,_,H1,rfl,I2,turn_enumT a _ _ (Nat.succ_ne_self _),⟨_,he,hi⟩,fun b hb=>?_,q⟩
 have hb' : b = s1.heap.objs.size + 1 \/ b = s1.heap.objs.size:=by simpa using hb
 rcases hb' with rfl | rfl
 ·exact I1.fpOk (Nat.le_succ _) (I1.hok.fresh (Nat.le_succ _))
 ·exact I1.fpOk (Nat.le_refl _) (I1.hok.fresh (Nat.le_refl _))
theorem for_enumT {K : PySem.W.Frag} {a : Addr} {xs : List V} {g : TG} {tb : TS} {D : Ends} {σ : St} {H : Hp} (Pv : Nat->St->Hp->Prop) (h0 : Pv 0 σ H) (hl : ∀ i σ H,i <= xs.length->Pv i σ H->SqT K H a xs)
  (hs : ∀ i x σ H p,xs[i]? = some x->Pv i σ H->H p = none->g (.ref p) σ (upd H p (.tup [.int (i : Int),x])) fun σ2 H2=>tb { D with nx:=Pv (i + 1),ct:=Pv (i + 1),bk:=D.nx } σ2 H2) (hd : ∀ σ H,Pv xs.length σ H->D.nx σ H) :
  ∃ W : Nat->Nat->St->Hp->Prop,(∃ m,W 0 m σ H)/\∀ i m σ H,W i m σ H ->
   ((IteT K a).stop i H/\D.nx σ H) \/ ((IteT K a).go i H/\∃ N : St->Hp->Prop,(∀ σ' H',N σ' H'->∃ m',m' < m/\W (i + 1) m' σ' H')/\∀ x H',(IteT K a).yld i H x H'->g x σ H' fun σ2 H2=>tb { D with nx:=N,ct:=N,bk:=D.nx } σ2 H2):=by
 refine ⟨fun i m σ H=>m = xs.length - i/\i <= xs.length/\Pv i σ H,⟨xs.length,by simp,Nat.zero_le _,h0⟩,?_⟩
 rintro i m σ H ⟨rfl,hi,p⟩
 have q:=hl i σ H hi p
 by_cases hlt : i < xs.length
 ·refine .inr ⟨⟨xs,xs[i],q,by simp [hlt]⟩,Pv (i + 1),fun σ' H' p'=>⟨xs.length - (i + 1),by omega,rfl,hlt,p'⟩,fun x H' y=>?_⟩
  obtain ⟨pp,v,rfl,hn,rfl,y⟩:=y
  exact hs i v σ H pp (y xs q) p hn
 ·have e : i = xs.length:=by omega
  subst e
  exact .inl ⟨⟨xs,q,rfl⟩,hd σ H p⟩
end
end L2
set_option maxHeartbeats 4000000
namespace L2
open PySem PySem.Spec PyProof.Rows
section
variable {X : Cx}
theorem i_enumT {elts : List Expr} {x1} {tpos p pos : Pos} {a : Expr} {t : TE} (hm : X.mg "enumerate" = none) (ha : QE X a t) (hg : X.env.kindOf "enumerate" = some .globalImplicit:=by kernel_rfl) (hs : nostar a = true:=by rfl) : QI X (.Tuple elts x1 tpos) (.Call (.Name "enumerate" p) [a] [] pos) (iEnumT X.K (tCons t tNil)) :=
 ⟨pi_enumT hg hm (by decide +kernel) (pa' ha.h pa_nil hs) ((star_plain hs).trans rfl)⟩
theorem e_dgetD {o e f : Expr} {td ty tx : TE} {apos cpos : Pos} (hu : X.A.units + 1 < cLine) (ho : QE X o td) (he : QE X e ty) (hf : QE X f tx) (h1 : nostar e = true:=by rfl) (h2 : nostar f = true:=by rfl) (hbase : attributeBase o "get" X.env (eval o X.env) = eval o X.env:=by rfl) (hline : (apos.endLine == cpos.line) = true:=by rfl) :
  QE X (.Call (.Attribute o "get" apos) [e,f] [] cpos) (tDGet2 td ty tx) :=
 ⟨pe_dget2 hu ho.h he.h hf.h ⟨hbase,by rw [star_plain h1,star_plain h2]; rfl,hline,by rw [star_plain h1,star_plain h2]; rfl⟩⟩
end
end L2
set_option maxHeartbeats 4000000
namespace L2
open PySem PySem.Spec PyProof.Rows
section
variable {prog : Program} {w : World} {A : Around} {E : Value->Shared->Prop} {h : Heap} {g : Array GenState} {d : Drawn} {t : Nat} {os : OsState} {a : Addr} {o : Obj}
end
end L2
set_option maxHeartbeats 4000000
namespace L2
open PySem PySem.Spec PyProof.Rows PySem.W
def eKV (ks : List (Str × V)) : List (Key × V):=ks.map fun x=>(Sum.inr x.1,x.2)
section
variable {prog : Program} {w : World} {A : Around} {R : Result->Shared->Prop} {I : Addr} {fp wr : List Addr} {G : Array GenState->Array GenState->Prop} {n : Nat} {P : Nat->Value->Prop} {St : Nat->Shared->Prop}
end
section
variable {prog : Program} {w : World} {A : Around} {E : Value->Shared->Prop} {s : Shared}
end
section
variable {X : Cx} {pins : List (Addr × Obj)} {σ : St} {H : Hp} {s : Shared}
theorem Inv.trackV {a : Addr} {o : HO} (I : Inv X pins σ H s) (f : FpOk X pins H a) (hx : X.s₀.heap.get? a = none) (new : ObjOk X.prog X.w (upd H a o) s.heap a o) : Inv X pins σ (upd H a o) s:=by
 obtain ⟨f0,f1,f2,f3,f4,f5⟩:=f
 have ne0 : ∀ b o,X.s₀.heap.get? b = some o->b ≠ a:=fun b o e z=>by rw [z,hx] at e; cases e
 have neH : ∀ b u,H b = some u->b ≠ a:=fun b u e z=>by rw [z,f0] at e; cases e
 refine ⟨I.ok,I.os,I.bare,⟨I.base.keep,I.base.slot,fun b o e n he=>?_,I.base.there,fun b xs e=>?_,fun b o u e=>?_,fun b ps e=>?_⟩,I.loc,I.cell,?_,fun x c e=>?_,fun p hp=>?_,fun b u e=>?_,I.len⟩
 ·rw [upd_ne (ne0 b o e)]; exact I.base.free b o e n he
 ·have:=I.base.tups b xs e
  rw [upd_ne (neH _ _ this)]; exact this
 ·have:=I.base.frzs b o u e
  rw [upd_ne (neH _ _ this)]; exact this
 ·obtain ⟨more,q⟩:=I.base.tbls b ps e
  exact ⟨more,by rw [upd_ne (neH _ _ q)]; exact q⟩
 ·rw [upd_ne (Ne.symm f1)]; exact I.free
 ·rw [upd_ne (f4 x c e)]; exact I.freeC x c e
 ·obtain ⟨q1,q2,q3⟩:=I.pin p hp
  exact ⟨q1,by rw [upd_ne (f5 p hp)]; exact q2,q3⟩
 ·by_cases hb : b = a
  ·subst hb
   rw [upd_same] at e
   cases e
   exact new
  ·rw [upd_ne hb] at e
   exact (I.hok b u e).stay (fun c v _ q=>q) (fun c q=>by rw [upd_ne (neH _ _ q)]; exact q) fun c xs q=>by rw [upd_ne (neH _ _ q)]; exact q
end
section
variable {X : Cx}
end
end L2
set_option maxHeartbeats 4000000
namespace L2
open PySem PySem.Spec PyProof.Rows
section
variable {X : Cx}
theorem Inv.frozen {pins : List (Addr × Obj)} {σ : St} {H : Hp} {s : Shared} {d : Addr} {kvs : List (Key × V)} (I : Inv X pins σ H s) (hd : H d = some (.dK kvs)) : ∃ ob,Inv X pins σ (upd H d (.frz ob (.dK kvs))) s:=by
 obtain ⟨z,hs,vs,kv,o,es,ep,ho,r⟩:=(show ObjOk X.prog X.w H s.heap d (.dK kvs) from I.hok _ _ hd)
 have ne : ∀ {b : Addr} {u : HO},H b = some u->(∀ k,u ≠ .dK k)->b ≠ d:=fun e h q=>by rw [q,hd] at e; cases e; exact h _ rfl
 refine ⟨o,I.un (h':=s.heap) (t':=s.toks) ⟨fun b o e _ _ _=>e,fun b o e _ _ _=>⟨o.slots,e⟩,fun b o e n _=>?_,fun b o e _=>⟨o,e⟩,fun b xs e=>?_,fun b o u e=>?_,fun b ps e=>⟨#[],?_⟩⟩ fun b u e=>?_⟩
 ·rw [upd_ne (fun q=>by rw [q,hd] at n; cases n)]; exact n
 ·rw [upd_ne (ne e (fun _ z=>by cases z))]; exact e
 ·rw [upd_ne (ne e (fun _ z=>by cases z))]; exact e
 ·rw [upd_ne (ne e (fun _ z=>by cases z)),e]; simp
 ·by_cases hb : b = d
  ·subst hb
   rw [upd_same] at e
   cases e
   exact ⟨ho,z,hs,vs,kv,o,es,ep,ho,r⟩
  ·rw [upd_ne hb] at e
   exact (I.hok b u e).stay (fun c v _ q=>q) (fun c q=>by rw [upd_ne (ne q (fun _ z=>by cases z))]; exact q) fun c xs q=>by rw [upd_ne (ne q (fun _ z=>by cases z))]; exact q
theorem key_is {k : Key} {u : Value} {P : Program} {w : World} (h : (mixKind P w).is k u = true) : RelV (kV k) u:=by
 rcases keyIs_shape h with ⟨i,t,rfl,rfl⟩ | ⟨x,t,rfl,rfl⟩
 ·exact ⟨t,rfl⟩
 ·exact ⟨t,rfl⟩
theorem KV.nth : ∀ {kvs : List (Key × V)} {vs : List (Key × Value)} {i : Nat} {p : Key × V},KV kvs vs->kvs[i]? = some p->∃ u,vs[i]? = some (p.1,u)/\RelV p.2 u:=by
 intro kvs vs i p h hi
 induction kvs generalizing vs i with
 | nil=>cases hi
 | cons q kvs ih =>
  cases h with
  | cons h0 r0 =>
   rename_i v vs
   cases i with
   | zero =>
    cases hi
    exact ⟨v.2,by rw [List.getElem?_cons_zero]; exact congrArg some (Prod.ext h0.1.symm rfl),h0.2⟩
   | succ i =>
    rw [List.getElem?_cons_succ] at hi ⊢
    exact ih r0 hi
def Itp (d : Addr) (ob : Obj) (kvs : List (Key × V)) : It:=⟨fun i H=>H d = some (.frz ob (.dK kvs))/\i < kvs.length,fun i H x H'=>∃ p k v,kvs[i]? = some (k,v)/\x = .ref p/\H p = none/\H' = upd H p (.tup [kV k,v]),fun i H=>H d = some (.frz ob (.dK kvs))/\kvs.length <= i⟩
theorem turn_items {P : Program} {w : World} {K : PySem.W.Frag} {elts : List Expr} {x1} {pos : Pos} (d it : Addr) (ob : Obj) (kvs : List (Key × V)) (ep : Nat) (hep : ∃ es,ob.data = .dict es ep) :
  Turn P w K (.Tuple elts x1 pos) (Itp d ob kvs) [it] it (fun i h=>∃ ok ov,IsItemIter h it d i kvs.length ep ok ov) where
 mem:=by simp
 obj:=fun i h st b hb=>by
  have e : b = it:=by simpa using hb
  subst e
  obtain ⟨ok,ov,e⟩:=st
  exact ⟨_,e,fun v z=>by
   have z' : Data.fields _ = Data.cell v:=z
   cases z'⟩
 keep:=fun i h h' st k=>by
  obtain ⟨ok,ov,e⟩:=st
  exact ⟨ok,ov,k it (by simp) _ e⟩
 item:=by
  intro X hP hw hK hc i pins s σ H E I hf st hg
  subst hP hw hK
  obtain ⟨hd,hlt⟩:=hg
  obtain ⟨hob,_,_,vs,kv,o,es,ep',ho,r1,r2,r3⟩:=(show ObjOk X.prog X.w H s.heap d (.frz ob (.dK kvs)) from I.hok _ _ hd)
  rw [hob] at ho
  cases ho
  obtain ⟨es0,he0⟩:=hep
  rw [he0] at r2
  cases r2
  have hm : s.heap.DictAt (mixKind X.prog X.w) d vs ep:=⟨ob,_,hob,r1,he0,r3⟩
  have hvl : kvs.length = vs.length:=kv.length
  obtain ⟨ok,ov,st⟩:=st
  rw [hvl] at st
  obtain ⟨u,hu,ru⟩:=KV.nth kv (List.getElem?_eq_getElem hlt)
  refine wpAny_pyNext_items_item st hm hu fun key h1 hk eo ht hz1 hk1=>?_
  refine ⟨_,rfl,wpAny_letOwnedTupleGo_items (s:={ s with heap:=h1 }) eo fun h2 he2 hs2=>?_⟩
  have hs2' : Heap.SameBut it h1 h2:=hs2
  have nH : H s.heap.objs.size = none:=I.hok.fresh (Nat.le_refl _)
  have eL : it < s.heap.objs.size:=Heap.lt_size st
  have ht2 : h2.get? s.heap.objs.size = some { cls:=.type "tuple",data:=.seq #[key,u] }:=(hs2'.2 _ (Nat.ne_of_gt eL)).trans ht
  have pg : (s.heap.push { cls:=.type "tuple",data:=.seq #[key,u] }).get? s.heap.objs.size = some { cls:=.type "tuple",data:=.seq #[key,u] }:=Heap.get?_push_size _ rfl
  have J1:=I.laid (a:=s.heap.objs.size) (o:=.tup [kV kvs[i].1,kvs[i].2]) (h':=s.heap.push { cls:=.type "tuple",data:=.seq #[key,u] }) (t':=s.toks) (fun b v z=>Heap.get?_push_of_some _ z) (Nat.le_refl _)
   ⟨(by show 2 <= sizeLine; decide),[key,u],.cons (key_is hk) (.cons ru .nil),⟨_,pg,rfl,_,rfl⟩⟩
  have fp' : ∀ b ∈ [it],FpOk X pins (upd H s.heap.objs.size (.tup [kV kvs[i].1,kvs[i].2])) b:=fun b hb=>by
   obtain ⟨f0,f1,f2,f3,f4,f5⟩:=hf b hb
   have hb' : b = it:=by simpa using hb
   refine ⟨?_,f1,f2,f3,f4,f5⟩
   rw [upd_ne (by rw [hb']; exact Nat.ne_of_lt eL)]
   exact f0
  have J2:=J1.turnedL (h':=h2) (t':=s.toks) (ch:=[it]) (fun b o hb z=>by
   have n1 : b ≠ it:=fun y=>hb (by simp [y])
   by_cases hp : b = s.heap.objs.size
   ·subst hp
    have z' : s.heap.objs.size = s.heap.objs.size->(s.heap.push { cls:=.type "tuple",data:=.seq #[key,u] }).get? s.heap.objs.size = some o:=fun _=>z
    rw [pg] at z'
    have:=z' rfl
    cases this
    exact ht2
   ·have z2 : s.heap.get? b = some o:=get_push_ne z hp
    exact (hs2'.2 b n1).trans (hk1 b o n1 z2)) fp'
  exact ⟨.ref s.heap.objs.size,_,J2,rfl,⟨_,_,_,List.getElem?_eq_getElem hlt,rfl,nH,rfl⟩,⟨key,u,by rw [hvl]; exact he2⟩,fun b hb=>(fp' b hb).1⟩
 done:=by
  intro X hP hw hK hc i pins s σ H E I hf st hg
  subst hP hw hK
  obtain ⟨hd,hge⟩:=hg
  obtain ⟨hob,_,_,vs,kv,o,es,ep',ho,r1,r2,r3⟩:=(show ObjOk X.prog X.w H s.heap d (.frz ob (.dK kvs)) from I.hok _ _ hd)
  rw [hob] at ho
  cases ho
  obtain ⟨es0,he0⟩:=hep
  rw [he0] at r2
  cases r2
  have hm : s.heap.DictAt (mixKind X.prog X.w) d vs ep:=⟨ob,_,hob,r1,he0,r3⟩
  have hvl : kvs.length = vs.length:=kv.length
  obtain ⟨ok,ov,st⟩:=st
  rw [hvl] at st
  obtain ⟨f0,f1,f2,f3,f4,f5⟩:=hf it (by simp)
  exact wpAny_pyNext_items_end (I.ok.hd hc) st hm (List.getElem?_eq_none (by omega)) fun h' eb=>⟨rfl,I.turned (t':=s.toks) (fun b o hb e=>eb b o hb e) f0 f1 f3 f4 f5⟩
 self:=fun _ _ _ _ _ st h=>by
  obtain ⟨ok,ov,st⟩:=st
  exact PySem.W.kcp_self st h
def iItems (tl : TE) : TI:=fun σ H R=>tl σ H fun x H1=>∃ d kvs,x = .ref d/\Rd H1 d (.dK kvs)/\∀ ob H2,H2 d = some (.frz ob (.dK kvs))->(∀ b,b ≠ d->H2 b = H1 b)->R (Itp d ob kvs) H2
theorem pi_items {elts : List Expr} {x1} {tpos apos cpos : Pos} {o : Expr} {tl : TE} (ho : PE X o tl) (hbase : attributeBase o "items" X.env (eval o X.env) = eval o X.env) (hline : (apos.endLine == cpos.line) = true) :
  PI X (.Tuple elts x1 tpos) (.Call (.Attribute o "items" apos) [] [] cpos) (iItems tl):=by
 intro pins s σ H R I h
 refine wpAny_Call_method0_late hbase hline (thn (ho pins s σ H _ I h) fun v s1 ⟨x,H1,I1,r1,q1⟩=>?_)
 obtain ⟨d,kvs,e,hd,q⟩:=q1
 subst e
 obtain rfl : v = Value.ref d:=r1
 obtain ⟨t1,t2,lo⟩:=isD_at I1 (.inl ⟨_,hd⟩)
 refine ⟨"dict", "dict.items",PySem.F.plainAttrs_dict,PySem.F.slot_dict_items,PySem.F.type_dict_items,t1,t2,Calls.callWith_builtin rfl (PySem.evalArgs_none ?_)⟩
 obtain ⟨z,hd0,vs0,rel,dd⟩:=dk_rd I1.hok hd
 refine call_meetsIn PySem.F.slot_dict_items dd.typeIs PySem.F.entry_dict_items (PySem.F.args_dict_items_1 _) (meets_dict_items (mixKind X.prog X.w) d lo) ⟨⟨vs0,dd⟩,?_⟩
 have I1' : Inv X pins σ H1 { s1 with heap:=s1.heap.push { cls:=.type "dict_items",data:=.fields #[.ref d] } }:=I1.kept (t':=s1.toks) fun b o e=>Heap.get?_push_of_some _ e
 generalize hs3 : ({ s1 with heap:=s1.heap.push { cls:=.type "dict_items",data:=.fields #[.ref d] } } : Shared) = s3 at I1'
 have hview : s3.heap.IsItemsView s1.heap.objs.size d:=by
  subst hs3
  exact ⟨_,Heap.get?_push_size _ rfl,rfl,rfl⟩
 obtain ⟨ob,H2,I2,hd2,hb2⟩ : ∃ ob H2,Inv X pins σ H2 s3/\H2 d = some (.frz ob (.dK kvs))/\∀ b,b ≠ d->H2 b = H1 b:=by
  rcases hd with hd | ⟨ob,hd⟩
  ·obtain ⟨ob,I2⟩:=I1'.frozen hd
   exact ⟨ob,_,I2,upd_same,fun b hb=>upd_ne hb⟩
  ·exact ⟨ob,H1,I1',hd,fun b _=>rfl⟩
 obtain ⟨hob,_,hs,vs,kv,o,es,ep,ho,r1,r2,r3⟩:=(show ObjOk X.prog X.w H2 s3.heap d (.frz ob (.dK kvs)) from I2.hok _ _ hd2)
 rw [hob] at ho
 cases ho
 have hm : s3.heap.DictAt (mixKind X.prog X.w) d vs ep:=⟨ob,es,hob,r1,r2,r3⟩
 have hvl : kvs.length = vs.length:=kv.length
 refine wpAny_pyIter_items hview hm ?_
 refine ⟨s3.heap.objs.size,[s3.heap.objs.size],_,_,H2,rfl,I2.kept (t':=s3.toks) fun b o e=>Heap.get?_push_of_some _ e,turn_items d _ ob kvs ep ⟨es,r2⟩,⟨.none,.none,by rw [hvl]; exact Heap.get?_push_size _ rfl⟩,fun b hb=>?_,q ob H2 hd2 hb2⟩
 have e : b = s3.heap.objs.size:=by simpa using hb
 subst e
 exact I2.fpOk (Nat.le_refl _) (I2.hok.fresh (Nat.le_refl _))
theorem i_items {elts : List Expr} {x1} {tpos apos cpos : Pos} {o : Expr} {t : TE} (h : QE X o t) (hbase : attributeBase o "items" X.env (eval o X.env) = eval o X.env:=by rfl) (hline : (apos.endLine == cpos.line) = true:=by rfl) :
  QI X (.Tuple elts x1 tpos) (.Call (.Attribute o "items" apos) [] [] cpos) (iItems t):=⟨pi_items h.h hbase hline⟩
theorem for_items {d : Addr} {ob : Obj} {kvs : List (Key × V)} {g : TG} {tb : TS} {D : Ends} {σ : St} {H : Hp} (Pv : Nat->St->Hp->Prop) (h0 : Pv 0 σ H) (hl : ∀ i σ H,i <= kvs.length->Pv i σ H->H d = some (.frz ob (.dK kvs)))
  (hs : ∀ i p q σ H,kvs[i]? = some p->Pv i σ H->H q = none->g (.ref q) σ (upd H q (.tup [kV p.1,p.2])) fun σ2 H2=>tb { D with nx:=Pv (i + 1),ct:=Pv (i + 1),bk:=D.nx } σ2 H2) (hd : ∀ σ H,Pv kvs.length σ H->D.nx σ H) :
  ∃ W : Nat->Nat->St->Hp->Prop,(∃ m,W 0 m σ H)/\∀ i m σ H,W i m σ H ->
   ((Itp d ob kvs).stop i H/\D.nx σ H) \/ ((Itp d ob kvs).go i H/\∃ N : St->Hp->Prop,(∀ σ' H',N σ' H'->∃ m',m' < m/\W (i + 1) m' σ' H')/\∀ x H',(Itp d ob kvs).yld i H x H'->g x σ H' fun σ2 H2=>tb { D with nx:=N,ct:=N,bk:=D.nx } σ2 H2):=by
 refine ⟨fun i m σ H=>m = kvs.length - i/\i <= kvs.length/\Pv i σ H,⟨kvs.length,by simp,Nat.zero_le _,h0⟩,?_⟩
 rintro i m σ H ⟨rfl,hi,p⟩
 have q:=hl i σ H hi p
 by_cases hlt : i < kvs.length
 ·refine .inr ⟨⟨q,hlt⟩,Pv (i + 1),fun σ' H' p'=>⟨kvs.length - (i + 1),by omega,rfl,hlt,p'⟩,fun x H' y=>?_⟩
  obtain ⟨p',k,v,hk,rfl,hn,rfl⟩:=y
  exact hs i (k,v) p' σ H hk p hn
 ·have e : i = kvs.length:=by omega
  subst e
  exact .inl ⟨⟨q,Nat.le_refl _⟩,hd σ H p⟩
end
end L2
set_option maxHeartbeats 4000000
namespace L2
open PySem PySem.Spec PyProof.Rows PySem.W
inductive DD (K : PySem.W.Frag) (H : Hp) : List (Key × V)->List (Str × PyData)->Prop
 | nil : DD K H [] []
 | cons {k : Str} {v : V} {d : PyData} {kvs : List (Key × V)} {ds : List (Str × PyData)} : Den K H v d->d.canLay0 = true->d.depth <= 50->DD K H kvs ds->DD K H ((.inr k,v) :: kvs) ((k,d) :: ds)
def dHits (db : List (Str × PyData)) : List (Str × PyData)->Bool
 | []=>true
 | (k,d) :: r=>match db.lookup k with
  | none=>false
  | some e=>PyData.eqv d e && dHits db r
def dEq (da db : List (Str × PyData)) : Bool:=(da.length == db.length) && dHits db da
section
variable {K : PySem.W.Frag} {H : Hp}
end
section
variable {X : Cx} {pins : List (Addr × Obj)} {σ : St} {H : Hp} {s : Shared}
end
end L2
namespace L2
open PySem PySem.Spec PyProof.Rows PySem.W
section
variable {X : Cx}
def rDE (K : PySem.W.Frag) (f : Bool->Bool) : R2:=fun x y H Q=>∃ a b ka kb da db,x = .ref a/\y = .ref b/\Rd H a (.dK ka)/\Rd H b (.dK kb)/\DD K H ka da/\DD K H kb db/\Q (.bl (f (dEq da db))) H
end
end L2
set_option maxHeartbeats 4000000
namespace L2
open PySem PySem.Spec PyProof.Rows PySem.W
open AutoSeq1 (wpAny_loadPart')
def EqIn (prog : Program) (w : World) (A : Around) (s : Shared) (y x : Value) (b : Bool) : Prop:=∀ (E : Value->Shared->Prop) (Q : Bool->Shared->Prop),Q b s->wpAny (model prog w) A (eqBool y x) Q E s
inductive Cmp (K : PySem.W.Frag) (H : Hp) : V->V->Bool->Prop
 | den {v u : V} {da db : PyData} : Den K H v da->Den K H u db->da.canLay0 = true->db.canLay0 = true->min da.depth db.depth <= 50->Cmp K H v u (PyData.eqv da db)
 | dic {a b : Addr} {ka kb : List (Key × V)} {da db : List (Str × PyData)} : a ≠ b->Rd H a (.dK ka)->Rd H b (.dK kb)->DD K H ka da->DD K H kb db->Cmp K H (.ref a) (.ref b) (dEq da db)
section
variable {X : Cx} {pins : List (Addr × Obj)} {σ : St} {H : Hp} {s : Shared}
end
section
variable {X : Cx}
def rT2 (K : PySem.W.Frag) (f : Bool->Bool) : R2:=fun x y H Q=>∃ a b v1 v2 u1 u2 e1 e2,x = .ref a/\y = .ref b/\SqT K H a [v1,v2]/\SqT K H b [u1,u2]/\Cmp K H v1 u1 e1/\Cmp K H v2 u2 e2/\Q (.bl (f (e1 && e2))) H
end
end L2
set_option maxHeartbeats 4000000
namespace L2
open PySem PySem.Spec PyProof.Rows PySem.W
section
variable {X : Cx}
def Itd (d : Addr) (ob : Obj) (kvs : List (Key × V)) : It:=⟨fun i H=>H d = some (.frz ob (.dK kvs))/\i < kvs.length,fun i H x H'=>H' = H/\∃ k v,kvs[i]? = some (k,v)/\x = kV k,fun i H=>H d = some (.frz ob (.dK kvs))/\kvs.length <= i⟩
theorem KV.at' : ∀ {kvs : List (Key × V)} {vs : List (Key × Value)} {i : Nat} {p : Key × V},KV kvs vs->kvs[i]? = some p->∃ u,vs[i]? = some (p.1,u):=by
 intro kvs vs i p h hi
 induction kvs generalizing vs i with
 | nil=>cases hi
 | cons q kvs ih =>
  cases h with
  | cons h0 r0 =>
   rename_i v vs
   cases i with
   | zero =>
    cases hi
    exact ⟨v.2,by rw [List.getElem?_cons_zero]; exact congrArg some (Prod.ext h0.1.symm rfl)⟩
   | succ i =>
    rw [List.getElem?_cons_succ] at hi ⊢
    exact ih r0 hi
theorem turn_dict {P : Program} {w : World} {K : PySem.W.Frag} {tg : Expr} (d it : Addr) (ob : Obj) (kvs : List (Key × V)) (ep : Nat) (hep : ∃ es,ob.data = .dict es ep) : Turn P w K tg (Itd d ob kvs) [it] it (fun i h=>h.IsKeyIter it d i kvs.length ep) where
 mem:=by simp
 obj:=fun i h st b hb=>by
  have e : b = it:=by simpa using hb
  subst e
  obtain ⟨o,e,c,d⟩:=st
  exact ⟨o,e,fun v z=>by rw [d] at z; cases z⟩
 keep:=fun i h h' st k=>st.at fun o e=>k it (by simp) o e
 item:=by
  intro X hP hw hK hc i pins s σ H E I hf st hg
  subst hP hw hK
  obtain ⟨hd,hlt⟩:=hg
  obtain ⟨hob,_,_,vs,kv,o,es,ep',ho,r1,r2,r3⟩:=(show ObjOk X.prog X.w H s.heap d (.frz ob (.dK kvs)) from I.hok _ _ hd)
  rw [hob] at ho
  cases ho
  obtain ⟨es0,he0⟩:=hep
  rw [he0] at r2
  cases r2
  have hm : s.heap.DictAt (mixKind X.prog X.w) d vs ep:=⟨ob,_,hob,r1,he0,r3⟩
  have hvl : kvs.length = vs.length:=kv.length
  rw [hvl] at st
  obtain ⟨u,hu⟩:=KV.at' kv (List.getElem?_eq_getElem hlt)
  obtain ⟨f0,f1,f2,f3,f4,f5⟩:=hf it (by simp)
  refine wpAny_pyNext_dict_item st hm hu fun key h' hk st' sb=>?_
  have I1 : Inv X pins σ H { s with heap:=h' }:=I.turned (t':=s.toks) (fun b o hb e=>(sb.2 b hb).trans e) f0 f1 f3 f4 f5
  refine ⟨key,rfl,letGo_keyiter (s':={ s with heap:=h' }) st' ⟨kV kvs[i].1,H,I1,key_is hk,⟨rfl,kvs[i].1,kvs[i].2,List.getElem?_eq_getElem hlt,rfl⟩,by rw [hvl]; exact st',fun b hb=>(hf b hb).1⟩⟩
 done:=by
  intro X hP hw hK hc i pins s σ H E I hf st hg
  subst hP hw hK
  obtain ⟨hd,hge⟩:=hg
  obtain ⟨hob,_,_,vs,kv,o,es,ep',ho,r1,r2,r3⟩:=(show ObjOk X.prog X.w H s.heap d (.frz ob (.dK kvs)) from I.hok _ _ hd)
  rw [hob] at ho
  cases ho
  obtain ⟨es0,he0⟩:=hep
  rw [he0] at r2
  cases r2
  have hm : s.heap.DictAt (mixKind X.prog X.w) d vs ep:=⟨ob,_,hob,r1,he0,r3⟩
  have hvl : kvs.length = vs.length:=kv.length
  rw [hvl] at st
  obtain ⟨f0,f1,f2,f3,f4,f5⟩:=hf it (by simp)
  exact wpAny_pyNext_dict_end (I.ok.hd hc) st hm (List.getElem?_eq_none (by omega)) fun h' eb=>⟨rfl,I.turned (t':=s.toks) (fun b o hb e=>eb b o hb e) f0 f1 f3 f4 f5⟩
 self:=fun _ _ _ _ _ st h=>wpAny_pyIter_keyiter st h
def iDict (tl : TE) : TI:=fun σ H R=>tl σ H fun x H1=>∃ d kvs,x = .ref d/\Rd H1 d (.dK kvs)/\∀ ob H2,H2 d = some (.frz ob (.dK kvs))->(∀ b,b ≠ d->H2 b = H1 b)->R (Itd d ob kvs) H2
theorem pi_dict {tg l : Expr} {tl : TE} (hl : PE X l tl) : PI X tg l (iDict tl):=by
 intro pins s σ H R I h
 refine thn (hl pins s σ H _ I h) fun v s1 ⟨x,H1,I1,r1,q1⟩=>?_
 obtain ⟨d,kvs,e,hd,q⟩:=q1
 subst e
 cases r1
 obtain ⟨ob,H2,I2,hd2,hb2⟩ : ∃ ob H2,Inv X pins σ H2 s1/\H2 d = some (.frz ob (.dK kvs))/\∀ b,b ≠ d->H2 b = H1 b:=by
  rcases hd with hd | ⟨ob,hd⟩
  ·obtain ⟨ob,I2⟩:=I1.frozen hd
   exact ⟨ob,_,I2,upd_same,fun b hb=>upd_ne hb⟩
  ·exact ⟨ob,H1,I1,hd,fun b _=>rfl⟩
 obtain ⟨hob,_,hs,vs,kv,o,es,ep,ho,r1,r2,r3⟩:=(show ObjOk X.prog X.w H2 s1.heap d (.frz ob (.dK kvs)) from I2.hok _ _ hd2)
 rw [hob] at ho
 cases ho
 have hm : s1.heap.DictAt (mixKind X.prog X.w) d vs ep:=⟨ob,es,hob,r1,r2,r3⟩
 have hvl : kvs.length = vs.length:=kv.length
 refine wpAny_pyIter_dict hs hm ?_
 refine ⟨s1.heap.objs.size,[s1.heap.objs.size],_,_,H2,rfl,I2.kept (t':=s1.toks) fun b o e=>Heap.get?_push_of_some _ e,turn_dict d _ ob kvs ep ⟨es,r2⟩,⟨_,Heap.get?_push_size _ rfl,rfl,by rw [hvl]; rfl⟩,fun b hb=>?_,q ob H2 hd2 hb2⟩
 have e : b = s1.heap.objs.size:=by simpa using hb
 subst e
 exact I2.fpOk (Nat.le_refl _) (I2.hok.fresh (Nat.le_refl _))
theorem i_dict {tg l : Expr} {t : TE} (h : QE X l t) : QI X tg l (iDict t):=⟨pi_dict h.h⟩
theorem comp_dict {d : Addr} {ob : Obj} {kvs : List (Key × V)} {H : Hp} {cap : St} {te : TE} {Q : VK} (ys : List V) (hd : H d = some (.frz ob (.dK kvs))) (hn : kvs.length <= sizeLine) (hl : ys.length = kvs.length)
  (el : ∀ (i : Nat) p y H' (P : VK),Same H H'->kvs[i]? = some p->ys[i]? = some y->(∀ H'',Same H' H''->P y H'')->te (some (kV p.1) :: cap) H' P) (fin : ∀ D H',Same H H'->H D = none->H' D = some (.lst ys)->Q (.ref D) H') :
  Comped (Itd d ob kvs) cap te Q H:=by
 refine G.comp_pure2 (J:=Itd d ob kvs) (xs:=kvs.map fun p=>kV p.1) (ys:=ys) (by rw [List.length_map]; exact hn) (by rw [List.length_map]; exact hl) ?_ ?_ ?_ ?_ fin
 ·intro i H' s hi
  rw [List.length_map] at hi
  exact ⟨s _ _ hd,hi⟩
 ·rintro i H' x H'' s hi ⟨rfl,k,v,hk,rfl⟩
  exact ⟨rfl,by rw [List.getElem?_map,hk]; rfl⟩
 ·intro H' s
  rw [List.length_map]
  exact ⟨s _ _ hd,Nat.le_refl _⟩
 ·intro i x y H' P s hx hy hP
  rw [List.getElem?_map] at hx
  cases hp : kvs[i]? with
  | none=>rw [hp] at hx; cases hx
  | some p=>rw [hp] at hx; cases hx; exact el i p y H' P s hp hy hP
end
end L2
set_option maxHeartbeats 4000000
namespace L2
open PySem PySem.Spec PyProof.Rows
def tTryN (K : PySem.W.Frag) (i : Nat) (S : Addr) (tx : TX) (ts : Addr->TS) : TS:=fun D σ H =>
 tx σ H (fun v H1=>D.nx (σ.set i (some v)) H1) fun cls d H1=>∃ C bm nid,cls = .ref C/\ExcC K C bm nid/\(Value.ref C :: bm).contains (.ref S) = true/\∀ a,ts a D σ H1
section
variable {X : Cx}
theorem ps_tryN {i : Nat} {y S' : Str} {S : Addr} {bmS : List Value} {idS : String} {ce : Expr} {b0 : Stmt} {suite : List Stmt} {py np apos hpos pos : Pos} {tx : TX} {ts : Addr->TS}
  (hN : X.N.Nodup) (hi : X.N[i]? = some y) (hy : Loc X.env.scope y) (hfr : X.env.frame = some X.env.locals) (hst : X.stack = X.env :: X.outer) (hex : X.ex = [])
  (hgS : Gl X S') (hmS : X.mg S' = some (.ref S)) (cS : ExcC X.K S bmS idS) (hbS : bmS.contains (.type "BaseException") = true) (hx : PEX X ce tx) (hs : ∀ a,PSs (X.caught a).nox (b0 :: suite) (ts a))
  (hf : X.fn y = true \/ X.env.scope.names.lookup y = some .local:=by first | exact .inl rfl | exact .inr rfl | assumption)
  (hsw : swapsWith ce (some (.Name y py)) apos.line X.env = pure false:=by rfl) (hdb : (S' == ("__debug__" : Str)) = false:=by decide) :
  PS X (.Try [.Assign [.Name y py] ce apos] [.ExceptHandler (some (.Name S' np)) none (b0 :: suite) hpos] [] [] pos) (tTryN X.K i S tx ts):=by
 intro pins s σ H D I h
 refine wpAny_Try_except (wpAny_execs_cons (wpAny_Assign_Name (wpAny_mono (hx pins s σ H _ _ I h) ?ok ?err) hsw))
 case ok =>
  rintro v s1 ⟨x,H1,I1,r1,q1⟩
  refine store_ok I1 hN hi hy r1 (fun s2 I2=>?_) hf
  exact wpAny_execs_nil (wpAny_execs_nil ⟨_,H1,I2,q1⟩)
 case err =>
  rintro e s1 ⟨H0,s0,I0,a,cls,d,B,H',rfl,os,bare,un,hok,fl,ha,b1,b2,b3,C,bm,nid,rfl,cC,hup,q⟩
  have fl':=fl
  rw [hst] at fl'
  have hA : X.A.frames = some (X.env :: X.outer):=by rw [I.ok.frames,hst]
  have fr0:=fresh_exc I0 un fl b3
  refine note_next (B:=B) hA hfr fl' fun h4 x4 y4=>?_
  refine fly_on (s:={ s1 with heap:=h4 }) x4 fun h5 x5 y5=>?_
  have I5 : Inv X pins σ H' { s1 with heap:=h5 }:=I0.flown os bare un hok fl.stays b1 b2 b3 x5.stays (y4.trans y5)
  refine wpAny_handleBy_cons (codeAny_handlers_test ?_) (by intro z; cases z)
  refine Calls.Name_function_global I5.ok.kind hgS (Calls.loadGlobal_global (by rw [I5.ok.glob]; exact I5.mod.glob.keeps I5.bk) hmS ?_) hdb
  obtain ⟨ox,ws,e1,e2,e3,e4⟩:=x5.obj
  obtain ⟨_,_,_,_,_,_,_,_,_,_,_,_,_,_,_,lC⟩:=cC
  obtain ⟨_,_,_,_,_,_,_,_,_,_,_,_,_,_,_,lS⟩:=cS
  refine matches_up (s:={ s1 with heap:=h5 }) (I5.kIn _ _ lC) (I5.kIn _ _ lS) e1 e2 hbS hup ?_
  show codeAny _ _ (.handlers (.ref a) [.ExceptHandler none none (b0 :: suite) hpos] X.env) _ _
  refine codeAny_handlers_suite ?_
  refine fly_on (s:={ s1 with heap:=h5 }) x5 fun h6 x6 y6=>?_
  have I6 : Inv X pins σ H' { s1 with heap:=h6 }:=I0.flown os bare un hok fl.stays b1 b2 b3 x6.stays ((y4.trans y5).trans y6)
  have I8:=(I6.caught a).wish fun _ _=>False
  refine wpAny_mono (hs a pins _ _ _ _ I8 (q a)) ?_ fun _ _ z=>False.elim z
  intro f s8 z
  cases f with
  | next =>
   obtain ⟨σ',H8,J,z⟩:=z
   exact ⟨_,H8,J.unwish.uncaught I.ok,z⟩
  | brk =>
   obtain ⟨σ',H8,J,z⟩:=z
   exact ⟨_,H8,J.unwish.uncaught I.ok,z⟩
  | cont =>
   obtain ⟨σ',H8,J,z⟩:=z
   exact ⟨_,H8,J.unwish.uncaught I.ok,z⟩
  | ret u =>
   obtain ⟨v,σ',H8,J,r,z⟩:=z
   exact ⟨v,_,H8,J.unwish.uncaught I.ok,r,z⟩
theorem s_tryN {i : Nat} {y S' : Str} {S : Addr} {bmS : List Value} {idS : String} {ce : Expr} {b0 : Stmt} {suite : List Stmt} {py np apos hpos pos : Pos} {tx : TX} {ts : Addr->TS}
  (hN : X.N.Nodup) (hmS : X.mg S' = some (.ref S)) (cS : ExcC X.K S bmS idS) (hbS : bmS.contains (.type "BaseException") = true) (hx : QX X ce tx) (hs : ∀ a,QSs (X.caught a).nox (b0 :: suite) (ts a))
  (hi : X.N[i]? = some y:=by kernel_rfl) (hy : X.env.scope.names.lookup y = some .local:=by kernel_rfl) (hfr : X.env.frame = some X.env.locals:=by rfl) (hst : X.stack = X.env :: X.outer:=by rfl) (hex : X.ex = []:=by rfl)
  (hgS : X.env.kindOf S' = some .globalImplicit:=by kernel_rfl) (hsw : swapsWith ce (some (.Name y py)) apos.line X.env = pure false:=by rfl) (hdb : (S' == ("__debug__" : Str)) = false:=by kernel_rfl) :
  QS X (.Try [.Assign [.Name y py] ce apos] [.ExceptHandler (some (.Name S' np)) none (b0 :: suite) hpos] [] [] pos) (tTryN X.K i S tx ts) :=
 ⟨ps_tryN (i:=i) hN hi (.inl hy) hfr hst hex hgS hmS cS hbS hx.h (fun a=>(hs a).h) (.inr hy) hsw hdb⟩
end
end L2
set_option maxHeartbeats 4000000
namespace L2
open PySem PySem.Spec PyProof.Rows
def CompedF (J : It) (cap : St) (tc : TT) (te : TE) (Q : VK) (H1 : Hp) : Prop:=∀ D,H1 D = none->∃ W : Nat->Nat->List V->Hp->Prop,(∃ m,W 0 m [] (upd H1 D (.lst [])))/\∀ i m ys H2,W i m ys H2->H2 D = some (.lst ys) /\
 ((J.stop i H2/\Q (.ref D) H2) \/ (J.go i H2/\∀ x H3,J.yld i H2 x H3->tc (some x :: cap) H3 fun b H4=>if b = true then te (some x :: cap) H4 fun y H5=>H5 D = some (.lst ys)/\ys.length < sizeLine/\∃ m',m' < m/\W (i + 1) m' (ys ++ [y]) (upd H5 D (.lst (ys ++ [y]))) else ∃ m',m' < m/\W (i + 1) m' ys H4))
def tCompF (wi : TI) (js : List Nat) (tc : TT) (te : TE) : TE:=fun σ H Q=>wi σ H fun J H1=>CompedF J (capt σ js) tc te Q H1
section
variable {X : Cx} {x : Str} {px pos : Pos} {elt iter cnd : Expr} {sc : Scope} {ys : List Str} {js : List Nat} {cl : List (Str × Addr)}
end
end L2
set_option maxHeartbeats 4000000
namespace L2
open PySem PySem.Spec PyProof.Rows PySem.W
section
variable {X : Cx}
theorem Inv.thaw {pins : List (Addr × Obj)} {σ : St} {H : Hp} {s : Shared} {d : Addr} {ob : Obj} {kvs : List (Key × V)} (I : Inv X pins σ H s) (hd : H d = some (.frz ob (.dK kvs))) (h0 : ∀ o u,X.H₀ d ≠ some (.frz o u)) : Inv X pins σ (upd H d (.dK kvs)) s:=by
 have ne : ∀ {b : Addr} {u : HO},H b = some u->(∀ o k,u ≠ .frz o k)->b ≠ d:=fun e h q=>by rw [q,hd] at e; cases e; exact h _ _ rfl
 have nn : ∀ {b : Addr},H b = none->b ≠ d:=fun e q=>by rw [q,hd] at e; cases e
 refine ⟨I.ok,I.os,I.bare,⟨I.base.keep,I.base.slot,fun b o e n x=>?_,I.base.there,fun b xs e=>?_,fun b o u e=>?_,fun b ps e=>?_⟩,I.loc,I.cell,?_,fun x c e=>?_,fun p hp=>?_,fun b u e=>?_,I.len⟩
 ·have z:=I.base.free b o e n x
  rw [upd_ne (nn z)]; exact z
 ·have z:=I.base.tups b xs e
  rw [upd_ne (ne z (fun _ _ y=>by cases y))]; exact z
 ·have z:=I.base.frzs b o u e
  rw [upd_ne (fun q=>by subst q; exact h0 _ _ e)]; exact z
 ·obtain ⟨more,z⟩:=I.base.tbls b ps e
  exact ⟨more,by rw [upd_ne (ne z (fun _ _ y=>by cases y))]; exact z⟩
 ·rw [upd_ne (nn I.free)]; exact I.free
 ·rw [upd_ne (nn (I.freeC x c e))]; exact I.freeC x c e
 ·obtain ⟨p1,p2,p3⟩:=I.pin p hp
  exact ⟨p1,by rw [upd_ne (nn p2)]; exact p2,p3⟩
 ·have st : ∀ {a : Addr} {o : HO},ObjOk X.prog X.w H s.heap a o->ObjOk X.prog X.w (upd H d (.dK kvs)) s.heap a o:=fun z =>
   z.stay (fun c v _ q=>q) (fun c q=>by rw [upd_ne (ne q (fun _ _ z=>by cases z))]; exact q) fun c xs q=>by rw [upd_ne (ne q (fun _ _ z=>by cases z))]; exact q
  by_cases hb : b = d
  ·subst hb
   rw [upd_same] at e
   cases e
   exact st (show ObjOk X.prog X.w H s.heap b (.frz ob (.dK kvs)) from I.hok _ _ hd).2
  ·rw [upd_ne hb] at e
   exact st (I.hok b u e)
def tThaw (X : Cx) (t : TE) : TE:=fun σ H Q=>t σ H fun v H1=>∃ d ob kvs,H1 d = some (.frz ob (.dK kvs))/\(∀ o u,X.H₀ d ≠ some (.frz o u))/\Q v (upd H1 d (.dK kvs))
theorem pe_thaw {e : Expr} {t : TE} (h : PE X e t) : PE X e (tThaw X t):=by
 intro pins s σ H Q I q
 refine thn (h pins s σ H _ I q) fun v s1 ⟨x,H1,I1,r1,q1⟩=>?_
 obtain ⟨d,ob,kvs,hd,h0,q2⟩:=q1
 exact ⟨x,_,I1.thaw hd h0,r1,q2⟩
theorem e_thaw {e : Expr} {t : TE} (h : QE X e t) : QE X e (tThaw X t):=⟨pe_thaw h.h⟩
end
end L2
set_option maxHeartbeats 4000000
namespace L2
open PySem PySem.Spec PyProof.Rows
def Itw (K : PySem.W.Frag) (a : Addr) (xs : List V) : It :=
 ⟨fun i H=>SqL K H a xs/\i < xs.length,fun i H x H'=>H' = H/\xs.reverse[i]? = some x,fun i H=>SqL K H a xs/\xs.length <= i⟩
theorem turn_revL {P : Program} {w : World} {K : PySem.W.Frag} {tg : Expr} (a it : Addr) (xs : List V) : Turn P w K tg (Itw K a xs) [it] it (fun i h=>i <= xs.length/\h.IsRevIter it a ((xs.length : Int) - 1 - (i : Int))) where
 mem:=by simp
 obj:=fun i h st b hb=>by
  have e : b = it:=by simpa using hb
  subst e
  obtain ⟨_,o,e,c,d⟩:=st
  exact ⟨o,e,fun v z=>by rw [d] at z; cases z⟩
 keep:=fun i h h' st k=>⟨st.1,st.2.at fun o e=>k it (by simp) o e⟩
 item:=by
  intro X hP hw hK hc i pins s σ H E I hf st hg
  subst hP hw hK
  obtain ⟨hq,hx⟩:=hg
  obtain ⟨its,rv,p,hz⟩:=I.list hq
  have hl:=rv.length
  have hj : xs[xs.length - 1 - i]? = some (xs[xs.length - 1 - i]'(by omega)):=List.getElem?_eq_getElem (by omega)
  obtain ⟨u,hu,ru⟩:=rv.get hj
  obtain ⟨f0,f1,f2,f3,f4,f5⟩:=hf it (by simp)
  have e1 : (xs.length : Int) - 1 - (i : Int) = ((xs.length - 1 - i : Nat) : Int):=by omega
  have st2:=st.2
  rw [e1] at st2
  refine wpAny_pyNext_rev_item st2 p.isList (x:=u) (by simpa using hu) fun h' st' sb=>?_
  have I1 : Inv X pins σ H { s with heap:=h' }:=I.turned (t':=s.toks) (fun b o hb e=>(sb.2 b hb).trans e) f0 f1 f3 f4 f5
  have e2 : ((xs.length - 1 - i : Nat) : Int) - 1 = (xs.length : Int) - 1 - ((i + 1 : Nat) : Int):=by omega
  rw [e2] at st'
  obtain ⟨o,e,c,d⟩:=id st'
  refine ⟨u,rfl,go_of (s:={ s with heap:=h' }) e c d (by decide) ⟨xs[xs.length - 1 - i]'(by omega),H,I1,ru,⟨rfl,?_⟩,⟨hx,st'⟩,fun b hb=>(hf b hb).1⟩⟩
  rw [List.getElem?_reverse hx]
  exact hj
 done:=by
  intro X hP hw hK hc i pins s σ H E I hf st hg
  subst hP hw hK
  obtain ⟨hq,hx⟩:=hg
  obtain ⟨f0,f1,f2,f3,f4,f5⟩:=hf it (by simp)
  have hi:=st.1
  have e1 : (xs.length : Int) - 1 - (i : Int) = -1:=by omega
  have st2:=st.2
  rw [e1] at st2
  exact wpAny_pyNext_rev_end (I.ok.hd hc) st2 fun h' eb=>⟨rfl,I.turned (t':=s.toks) (fun b o hb e=>eb b o hb e) f0 f1 f3 f4 f5⟩
 self:=fun _ _ _ _ _ st h=>wpAny_pyIter_revIter st.2 h
def iRevL (K : PySem.W.Frag) (ta : TA) : TI:=fun σ H R=>ta σ H fun vs H1=>∃ a xs,vs = [.ref a]/\SqL K H1 a xs/\R (Itw K a xs) H1
section
variable {X : Cx}
theorem pi_revL {tg : Expr} {p pos : Pos} {a : Expr} {ta : TA} (hg : Gl X "reversed") (hm : X.mg "reversed" = none) (hbt : bootBuiltins "reversed" = some (.type "reversed")) (ha : PA X [a] ta) (hs : starEach [a] X.env = [(false,eval a X.env)]:=by rfl) :
  PI X tg (.Call (.Name "reversed" p) [a] [] pos) (iRevL X.K ta):=by
 intro pins s σ H R I h
 refine Call_ (ld_blt I hg hm hbt (PyProof.Rows.callWith_type1 (thn (ha pos pins s σ H _ I h) fun us s1 ⟨vs,H1,I1,r1,q1⟩=>?_) hs rfl))
 obtain ⟨a,xs,rfl,hq,q⟩:=q1
 obtain ⟨u,rfl,ru⟩:=vals1 r1
 cases ru
 obtain ⟨its,rv,pl,hz⟩:=I1.list hq
 have hl:=rv.length
 refine call_reversed_list pl.isList ?_
 have e : ((its.toArray.size : Nat) : Int) - 1 = (xs.length : Int) - 1 - ((0 : Nat) : Int):=by rw [List.size_toArray,<- hl]; omega
 rw [e]
 have it : (s1.heap.push (revObj a ((xs.length : Int) - 1 - ((0 : Nat) : Int)))).IsRevIter s1.heap.objs.size a ((xs.length : Int) - 1 - ((0 : Nat) : Int)):=⟨_,Heap.get?_push_size _ rfl,rfl,rfl⟩
 refine wpAny_pyIter_revIter it ?_
 refine ⟨s1.heap.objs.size,[s1.heap.objs.size],_,_,H1,rfl,I1.kept (t':=s1.toks) fun b o e=>Heap.get?_push_of_some _ e,turn_revL a _ xs,⟨Nat.zero_le _,it⟩,fun b hb=>?_,q⟩
 have e : b = s1.heap.objs.size:=by simpa using hb
 subst e
 exact I1.fpOk (Nat.le_refl _) (I1.hok.fresh (Nat.le_refl _))
theorem i_revL {tg a : Expr} {t : TE} {p pos : Pos} (hm : X.mg "reversed" = none) (ha : QE X a t) (hg : X.env.kindOf "reversed" = some .globalImplicit:=by kernel_rfl) (hs : nostar a = true:=by rfl) : QI X tg (.Call (.Name "reversed" p) [a] [] pos) (iRevL X.K (tCons t tNil)) :=
 ⟨pi_revL hg hm (by decide +kernel) (pa' ha.h pa_nil hs) ((star_plain hs).trans rfl)⟩
theorem for_revL {K : PySem.W.Frag} {a : Addr} {xs : List V} {g : TG} {tb : TS} {D : Ends} {σ : St} {H : Hp} (Pv : Nat->St->Hp->Prop) (h0 : Pv 0 σ H) (hl : ∀ i σ H,i <= xs.length->Pv i σ H->SqL K H a xs)
  (hs : ∀ i x σ H,xs.reverse[i]? = some x->Pv i σ H->g x σ H fun σ2 H2=>tb { D with nx:=Pv (i + 1),ct:=Pv (i + 1),bk:=D.nx } σ2 H2) (hd : ∀ σ H,Pv xs.length σ H->D.nx σ H) :
  ∃ W : Nat->Nat->St->Hp->Prop,(∃ m,W 0 m σ H)/\∀ i m σ H,W i m σ H ->
   ((Itw K a xs).stop i H/\D.nx σ H) \/ ((Itw K a xs).go i H/\∃ N : St->Hp->Prop,(∀ σ' H',N σ' H'->∃ m',m' < m/\W (i + 1) m' σ' H')/\∀ x H',(Itw K a xs).yld i H x H'->g x σ H' fun σ2 H2=>tb { D with nx:=N,ct:=N,bk:=D.nx } σ2 H2):=by
 refine ⟨fun i m σ H=>m = xs.length - i/\i <= xs.length/\Pv i σ H,⟨xs.length,by simp,Nat.zero_le _,h0⟩,?_⟩
 rintro i m σ H ⟨rfl,hi,p⟩
 have q:=hl i σ H hi p
 by_cases hlt : i < xs.length
 ·refine .inr ⟨⟨q,hlt⟩,Pv (i + 1),fun σ' H' p'=>⟨xs.length - (i + 1),by omega,rfl,hlt,p'⟩,fun x H' y=>?_⟩
  obtain ⟨rfl,y⟩:=y
  exact hs i x σ _ y p
 ·have e : i = xs.length:=by omega
  subst e
  exact .inl ⟨⟨q,Nat.le_refl _⟩,hd σ H p⟩
end
end L2
set_option maxHeartbeats 4000000
namespace L2
open PySem PySem.Spec PyProof.Rows
section
variable {X : Cx}
theorem call_sum : CallR X (.builtin "sum") (fun xs H Q=>∃ (a : Addr) (ns : List Int),xs = [.ref a]/\SqL X.K H a (ns.map V.int)/\X.calm = true/\Q (.int ns.sum) H):=by
 intro pins s σ H xs us Q I r h
 obtain ⟨a,ns,rfl,hS,hc,q⟩:=h
 obtain ⟨u,rfl,ru⟩:=vals1 r
 cases ru
 obtain ⟨its,rv,pl,hz⟩:=I.list hS
 have hlen : its.length = ns.length:=by rw [<- rv.length,List.length_map]
 refine PySem.call_sum_walkAnyS (wpAny_pyIter_list pl.isList ?_)
 have ne : a ≠ s.heap.objs.size:=by
  obtain ⟨o,e,_⟩:=pl.isList
  exact Nat.ne_of_lt (Heap.lt_size e)
 have hh : X.A.in1.handled = none:=I.ok.hd hc
 refine ⟨s.heap.objs.size,_,_,_,_,_,_,fun i=>ns.getD i 0,rfl,(Walks.list hh s.heap.objs.size a ne its.toArray).toS,⟨⟨_,Heap.get?_push_size _ rfl,rfl,rfl⟩,?_⟩,?_,?_,?_⟩
 ·obtain ⟨o,e,r⟩:=pl.isList
  exact ⟨o,Heap.get?_push_of_some _ e,r⟩
 ·intro b hb
  have hb : b = s.heap.objs.size \/ b = a:=by simpa using hb
  show b < (s.heap.push _).objs.size
  rw [Heap.size_push]
  obtain ⟨o,e,r⟩:=pl.isList
  have:=Heap.lt_size e
  rcases hb with rfl | rfl
  ·exact Nat.lt_succ_self _
  ·exact Nat.lt_succ_of_lt this
 ·intro i v hv
  have hv' : its[i]? = some v:=by simpa using hv
  have hi : i < its.length:=(List.getElem?_eq_some_iff.mp hv').1
  have hb : ns[i]? = some ns[i]:=List.getElem?_eq_getElem (by omega)
  obtain ⟨u,hu,ru⟩:=rv.get (i:=i) (x:=V.int ns[i]) (by rw [List.getElem?_map,hb]; rfl)
  rw [hv'] at hu
  cases hu
  obtain ⟨t,rfl⟩:=ru
  exact ⟨t,by show Value.int ns[i] t = Value.int (ns.getD i 0) t; rw [List.getD_eq_getElem?_getD,hb]; rfl⟩
 ·intro s' t' hm
  rw [preSum_getD,List.size_toArray,hlen,List.take_length]
  have kp : ∀ b o,s.heap.get? b = some o->s'.heap.get? b = some o:=fun b o e=>hm.heap b o (by
   rw [List.mem_singleton]
   exact Nat.ne_of_lt (Heap.lt_size e)) (Heap.get?_push_of_some _ e)
  rw [hm.eq_with]
  exact ⟨.int ns.sum,H,I.kept kp,⟨t',rfl⟩,q⟩
end
end L2
namespace KS
open PySem
structure Clip where
 reel : Str
 a : Int
 b : Int
 f : Int
def Clip.way (c : Clip) : Int:=if c.b < c.a then -1 else 1
def Clip.cnt (c : Clip) : Nat:=(c.b - c.a).natAbs + 1
def Clip.nums (c : Clip) : List Int:=(List.range c.cnt).map fun (m : Nat)=>c.a + (m : Int) * c.way
theorem Clip.nums_len (c : Clip) : c.nums.length = c.cnt:=by
 unfold Clip.nums
 rw [List.length_map,List.length_range]
structure Mo where
 reel : Str
 n : Int
 f : Int
def Clip.ms (c : Clip) : List Mo:=match c.nums with
 | []=>[]
 | x :: r=>⟨c.reel,x,c.f⟩ :: r.map fun n=>⟨c.reel,n,0⟩
def moments (cs : List Clip) : List Mo:=cs.flatMap Clip.ms
def goes (s : Clip) (n : Int) : Prop:=if s.a = s.b then (n - s.b).natAbs = 1 else n = s.b + s.way
instance (s : Clip) (n : Int) : Decidable (goes s n):=by unfold goes; exact inferInstance
def can (s : Clip) (m : Mo) : Prop:=s.reel = m.reel/\goes s m.n
instance (s : Clip) (m : Mo) : Decidable (can s m):=by unfold can; exact inferInstance
def stepR : List Clip->Mo->List Clip
 | [],m=>[⟨m.reel,m.n,m.n,m.f⟩]
 | s :: r,m=>if m.f <= 0/\can s m then ⟨s.reel,s.a,m.n,s.f⟩ :: r else ⟨m.reel,m.n,m.n,m.f⟩ :: s :: r
def stripsR (ms : List Mo) : List Clip:=ms.foldl stepR []
def strips (cs : List Clip) : List Clip:=(stripsR (moments cs)).reverse
def Apart : List Clip->Prop
 | []=>True
 | [_]=>True
 | s :: t :: r=>(s.f <= 0->t.reel = s.reel->¬ goes t s.a)/\Apart (t :: r)
structure MOk (m : Mo) : Prop where
 rl : m.reel.length <= 100
 rf : PyData.strOk m.reel = true
 n0 : 0 <= m.n
 n1 : m.n <= 1000000
 f0 : 0 <= m.f
 f1 : m.f <= 1000000
structure SOk (c : Clip) : Prop where
 rl : c.reel.length <= 100
 rf : PyData.strOk c.reel = true
 a0 : 0 <= c.a
 a1 : c.a <= 1000000
 b0 : 0 <= c.b
 b1 : c.b <= 1000000
 f0 : 0 <= c.f
 f1 : c.f <= 1000000
theorem nums_get {c : Clip} {k : Nat} (h : k < c.cnt) : c.nums[k]? = some (c.a + (k : Int) * c.way):=by
 unfold Clip.nums
 rw [List.getElem?_map,List.getElem?_range h]
 rfl
end KS
namespace KS
open PySem
structure Frm where
 reel : Str
 n : Int
 p : Int
 w : Int
def putF (S : List (List Frm)) (c : Clip) (B k : Nat) (n : Int) : List (List Frm) :=
 if (k : Int) < c.f then S.set (B + k) (match S.getD (B + k) [] with
  | []=>[]
  | g :: _=>[⟨g.reel,g.n,c.f - k,c.f + 1⟩,⟨c.reel,n,k + 1,c.f + 1⟩])
 else S ++ [[⟨c.reel,n,1,1⟩]]
def shK (S : List (List Frm)) (c : Clip) (B : Nat) : Nat->List (List Frm)
 | 0=>S
 | k + 1=>putF (shK S c B k) c B k (c.a + (k : Int) * c.way)
def showC (S : List (List Frm)) (c : Clip) : List (List Frm):=shK S c (S.length - c.f.toNat) c.cnt
def shown (cs : List Clip) : List (List Frm):=cs.foldl showC []
theorem len_put (S : List (List Frm)) (c : Clip) (B k : Nat) (n : Int) : (putF S c B k n).length = if (k : Int) < c.f then S.length else S.length + 1:=by
 unfold putF
 split
 ·rw [List.length_set]
 ·rw [List.length_append]; rfl
theorem len_shK (S : List (List Frm)) (c : Clip) (B : Nat) (h : 0 <= c.f) : ∀ k,(shK S c B k).length = S.length + (k - c.f.toNat)
 | 0=>by simp [shK]
 | k + 1=>by
  show (putF _ c B k _).length = _
  rw [len_put,len_shK S c B h k]
  split <;> omega
theorem len_showC (S : List (List Frm)) (c : Clip) (h : 0 <= c.f) : (showC S c).length = S.length + (c.cnt - c.f.toNat):=len_shK S c _ h _
def lenI (cs : List Clip) : Int:=(cs.map fun c=>((c.cnt : Int) - c.f)).foldl (· + ·) 0
structure FOk (f : Frm) : Prop where
 rf : PyData.strOk f.reel = true
def MsOk (S : List (List Frm)) : Prop:=∀ m ∈ S,m ≠ []/\(∀ f ∈ m,FOk f)/\m.length <= 2
theorem ms_put {S : List (List Frm)} {c : Clip} {B k : Nat} {n : Int} (h : MsOk S) (hc : PyData.strOk c.reel = true) (hb : (k : Int) < c.f->B + k < S.length) : MsOk (putF S c B k n):=by
 unfold putF
 split
 ·rename_i hk
  intro m hm
  rcases List.mem_or_eq_of_mem_set hm with hm | rfl
  ·exact h m hm
  ·have hg : S[B + k]? = some S[B + k]:=List.getElem?_eq_getElem (hb hk)
   have hd : S.getD (B + k) [] = S[B + k]:=by rw [List.getD_eq_getElem?_getD,hg]; rfl
   obtain ⟨h1,h2,_⟩:=h _ (List.getElem_mem (hb hk))
   rw [hd]
   cases hx : S[B + k] with
   | nil=>exact absurd hx h1
   | cons g r =>
    refine ⟨by simp,fun f hf=>?_,Nat.le_refl 2⟩
    simp only [List.mem_cons,List.not_mem_nil,or_false] at hf
    rcases hf with rfl | rfl
    ·exact ⟨(h2 g (by rw [hx]; exact List.mem_cons_self ..)).rf⟩
    ·exact ⟨hc⟩
 ·intro m hm
  rcases List.mem_append.mp hm with hm | hm
  ·exact h m hm
  ·rw [List.mem_singleton.mp hm]
   exact ⟨by simp,fun f hf=>by rw [List.mem_singleton.mp hf]; exact ⟨hc⟩,Nat.le_succ 1⟩
theorem ms_shK {S : List (List Frm)} {c : Clip} {B : Nat} (h : MsOk S) (hc : PyData.strOk c.reel = true) (f0 : 0 <= c.f) (hb : B + c.f.toNat <= S.length) : ∀ k,MsOk (shK S c B k)
 | 0=>h
 | k + 1=>ms_put (ms_shK h hc f0 hb k) hc fun hk=>by rw [len_shK S c B f0 k]; omega
structure Sd (cs : List Clip) : Prop where
 f0 : ∀ c ∈ cs,0 <= c.f
 f1 : ∀ c ∈ cs,c.f <= c.cnt
 f2 : ∀ (i : Nat) c,cs[i]? = some c->c.f <= ((shown (cs.take i)).length : Int)
 rf : ∀ c ∈ cs,PyData.strOk c.reel = true
theorem shown_app (cs : List Clip) (c : Clip) : shown (cs ++ [c]) = showC (shown cs) c:=by unfold shown; rw [List.foldl_append]; rfl
theorem shown_take {cs : List Clip} {i : Nat} {c : Clip} (h : cs[i]? = some c) : shown (cs.take (i + 1)) = showC (shown (cs.take i)) c:=by
 rw [List.take_add_one,h]
 exact shown_app _ _
theorem ms_shown {cs : List Clip} (h : Sd cs) : ∀ i,i <= cs.length->MsOk (shown (cs.take i))
 | 0,_=>fun m hm=>by simp [shown] at hm
 | i + 1,hi=>by
  have hx : cs[i]? = some cs[i]:=List.getElem?_eq_getElem (by omega)
  have hm:=List.getElem_mem (l:=cs) (n:=i) (by omega)
  rw [shown_take hx]
  have f0:=h.f0 _ hm
  have f2:=h.f2 i _ hx
  exact ms_shK (ms_shown h i (by omega)) (h.rf _ hm) f0 (by omega) _
theorem len_bound {m : Nat} {cs : List Clip} (h : Sd cs) (hm : ∀ c ∈ cs,c.cnt <= m) : ∀ i,i <= cs.length->(shown (cs.take i)).length <= m * i
 | 0,_=>by simp [shown]
 | i + 1,hi=>by
  have hx : cs[i]? = some cs[i]:=List.getElem?_eq_getElem (by omega)
  have hm':=List.getElem_mem (l:=cs) (n:=i) (by omega)
  have ih:=len_bound h hm i (by omega)
  have:=hm _ hm'
  rw [shown_take hx,len_showC _ _ (h.f0 _ hm'),Nat.mul_succ]
  omega
end KS
set_option maxHeartbeats 1000000
namespace KS
open PySem L2 G
def Clip.vs (c : Clip) : List V:=[.str c.reel,.int c.a,.int c.b,.int c.f]
theorem Clip.numsV (c : Clip) : c.nums.map V.int = rngV c.a c.cnt c.way:=by
 unfold Clip.nums rngV
 rw [List.map_map]
 rfl
def Clip.d (c : Clip) : PyData:=.tuple [.str c.reel,.int c.a,.int c.b,.int c.f]
structure Sm (c : Clip) : Prop where
 a0 : 0 <= c.a
 a1 : c.a <= 1000000
 b0 : 0 <= c.b
 b1 : c.b <= 1000000
structure COk (m n : Nat) (c : Clip) : Prop where
 rl : c.reel.length <= 100
 rf : Fine c.reel
 a0 : 0 <= c.a
 a1 : c.a <= n
 b0 : 0 <= c.b
 b1 : c.b <= n
 f0 : 0 <= c.f
 f1 : c.f <= c.cnt
 d : c.cnt <= m
theorem Sm.cnt {c : Clip} (h : Sm c) : c.cnt <= 1000001:=by
 obtain ⟨h1,h2,h3,h4⟩:=h
 unfold Clip.cnt
 omega
theorem Clip.way_cnt (c : Clip) : (c.way = 1/\c.cnt = (c.b + c.way - c.a).toNat) \/ (c.way = -1/\c.cnt = (c.a - (c.b + c.way)).toNat):=by
 unfold Clip.way Clip.cnt
 by_cases h : c.b < c.a
 ·right
  rw [if_pos h]
  exact ⟨rfl,by omega⟩
 ·left
  rw [if_neg h]
  exact ⟨rfl,by omega⟩
def CL (m n : Nat) (H : Hp) (p : Addr) (ps : List (Addr × Clip)) : Prop:=H p = some (.lst (ps.map fun x=>V.ref x.1))/\∀ x ∈ ps,H x.1 = some (.tup x.2.vs)/\COk m n x.2
def Bt (p : Addr) (H H' : Hp) : Prop:=∀ b o,b ≠ p->H b = some o->H' b = some o
theorem Bt.trans {p : Addr} {H H' H'' : Hp} (a : Bt p H H') (b : Bt p H' H'') : Bt p H H'':=fun c o hc h=>b c o hc (a c o hc h)
theorem Bt.of {p : Addr} {H H' : Hp} (s : Same H H') : Bt p H H':=fun b o _ h=>s b o h
theorem Bt.upd {p : Addr} {H : Hp} {o : HO} : Bt p H (upd H p o):=fun b u hb h=>by rw [upd_ne hb]; exact h
theorem Bt.same {p : Addr} {H H1 H' : Hp} (s : Same H H1) (b : Bt p H1 H') (hp : H p = none) : Same H H':=fun c o h=>b c o (ne_of_none h hp) (s c o h)
def SL (H : Hp) (p : Addr) (rs : List (Addr × Clip)) : Prop:=H p = some (.lst (rs.reverse.map fun x=>V.ref x.1))/\∀ x ∈ rs,H x.1 = some (.tup x.2.vs)
end KS
set_option maxHeartbeats 4000000
namespace L2
open PySem PySem.Spec PyProof.Rows
theorem matches_no {M : Model} {A : Around} {E : Value->Shared->Prop} {nm q nm' q' : Str} {C N S N' : Addr} {bs bm bs' bm' : List Value} {hd hd' : Bool} {sn sn' : List Str} {sub sub' : List Value} {ab ab' : Bool} {col col' : Option Bool} {dd dd' : Option Addr}
  {k0 k1 k2 k3 k5 l0 l1 l2 l3 l5 : Option Value} {id id' : String} {s : Shared} {e : Addr} {oe : Obj} {Q : Bool->Shared->Prop}
  (hC : s.heap.get? C = some (excClassObj nm q C N bs bm hd sn sub ab col dd k0 k1 k2 k3 k5 id)) (hS : s.heap.get? S = some (excClassObj nm' q' S N' bs' bm' hd' sn' sub' ab' col' dd' l0 l1 l2 l3 l5 id'))
  (he : s.heap.get? e = some oe) (hc : oe.cls = .ref C) (hb : bm'.contains (.type "BaseException") = true) (hup : (Value.ref C :: bm).contains (.ref S) = false) (k : Q false s) : wpAny M A (excMatches (.ref e) (.ref S)) Q E s:=by
 obtain ⟨h,g,d,t,os⟩:=s
 have hcB : (Value.ref S :: bm').contains (.type "BaseException") = true:=by rw [List.contains_cons,hb,Bool.or_true]
 have nt:=tc_notTuple
 unfold excMatches
 repeat (first | (with_reducible refine wpAny_loadPart_at he ?_; rw [hc]) | with_reducible refine wpAny_loadPart_at hS ?_ | (with_reducible refine wpAny_isSubtype_exc hS ?_; rw [hcB]) | (with_reducible refine wpAny_isSubtype_exc hC ?_; rw [hup]) | wp_step)
 exact k
def tTry2 (K : PySem.W.Frag) (i j : Nat) (S S2 : Addr) (tx : TX) (ts ts2 : Addr->TS) : TS:=fun D σ H =>
 tx σ H (fun v H1=>D.nx (σ.set i (some v)) H1) fun cls d H1=>∃ C bm nid,cls = .ref C/\ExcC K C bm nid/\(((Value.ref C :: bm).contains (.ref S) = true/\∀ a,ts a D σ H1) \/
  ((Value.ref C :: bm).contains (.ref S) = false/\(Value.ref C :: bm).contains (.ref S2) = true /\
  ∀ a,H1 a = none->ts2 a { nx:=fun σ' H'=>D.nx (σ'.set j none) H',rt:=D.rt,bk:=fun σ' H'=>D.bk (σ'.set j none) H',ct:=fun σ' H'=>D.ct (σ'.set j none) H' } (σ.set j (some (.ref a))) (upd H1 a (excO a cls d))))
section
variable {X : Cx}
theorem ps_try2 {i j : Nat} {y n S' S2' : Str} {S S2 : Addr} {bmS bmS2 : List Value} {idS idS2 : String} {ce : Expr} {b0 c0 : Stmt} {suite suite2 : List Stmt} {py np np2 apos hpos hpos2 pos : Pos} {tx : TX} {ts ts2 : Addr->TS}
  (hN : X.N.Nodup) (hi : X.N[i]? = some y) (hy : Loc X.env.scope y) (hj : X.N[j]? = some n) (hn : X.env.scope.names.lookup n = some .local) (hfr : X.env.frame = some X.env.locals) (hst : X.stack = X.env :: X.outer) (hex : X.ex = [])
  (hgS : Gl X S') (hmS : X.mg S' = some (.ref S)) (cS : ExcC X.K S bmS idS) (hbS : bmS.contains (.type "BaseException") = true) (hgS2 : Gl X S2') (hmS2 : X.mg S2' = some (.ref S2)) (cS2 : ExcC X.K S2 bmS2 idS2) (hbS2 : bmS2.contains (.type "BaseException") = true)
  (hx : PEX X ce tx) (hs : ∀ a,PSs (X.caught a).nox (b0 :: suite) (ts a)) (hs2 : ∀ a,PSs (X.caught a).nox (c0 :: suite2) (ts2 a))
  (hf : X.fn y = true \/ X.env.scope.names.lookup y = some .local:=by first | exact .inl rfl | exact .inr rfl | assumption)
  (hsw : swapsWith ce (some (.Name y py)) apos.line X.env = pure false:=by rfl) (hdb : (S' == ("__debug__" : Str)) = false:=by decide) (hdb2 : (S2' == ("__debug__" : Str)) = false:=by decide) :
  PS X (.Try [.Assign [.Name y py] ce apos] [.ExceptHandler (some (.Name S' np)) none (b0 :: suite) hpos,.ExceptHandler (some (.Name S2' np2)) (some n) (c0 :: suite2) hpos2] [] [] pos) (tTry2 X.K i j S S2 tx ts ts2):=by
 intro pins s σ H D I h
 refine wpAny_Try_except (wpAny_execs_cons (wpAny_Assign_Name (wpAny_mono (hx pins s σ H _ _ I h) ?ok ?err) hsw))
 case ok =>
  rintro v s1 ⟨x,H1,I1,r1,q1⟩
  refine store_ok I1 hN hi hy r1 (fun s2 I2=>?_) hf
  exact wpAny_execs_nil (wpAny_execs_nil ⟨_,H1,I2,q1⟩)
 case err =>
  rintro e s1 ⟨H0,s0,I0,a,cls,d,B,H',rfl,os,bare,un,hok,fl,ha,b1,b2,b3,C,bm,nid,rfl,cC,hq⟩
  have fl':=fl
  rw [hst] at fl'
  have hA : X.A.frames = some (X.env :: X.outer):=by rw [I.ok.frames,hst]
  have fr0:=fresh_exc I0 un fl b3
  refine note_next (B:=B) hA hfr fl' fun h4 x4 y4=>?_
  refine fly_on (s:={ s1 with heap:=h4 }) x4 fun h5 x5 y5=>?_
  have I5 : Inv X pins σ H' { s1 with heap:=h5 }:=I0.flown os bare un hok fl.stays b1 b2 b3 x5.stays (y4.trans y5)
  refine wpAny_handleBy_cons (codeAny_handlers_test ?_) (by intro z; cases z)
  refine Calls.Name_function_global I5.ok.kind hgS (Calls.loadGlobal_global (by rw [I5.ok.glob]; exact I5.mod.glob.keeps I5.bk) hmS ?_) hdb
  obtain ⟨ox,ws,e1,e2,e3,e4⟩:=x5.obj
  obtain ⟨_,_,_,_,_,_,_,_,_,_,_,_,_,_,_,lC⟩:=cC
  obtain ⟨_,_,_,_,_,_,_,_,_,_,_,_,_,_,_,lS⟩:=cS
  obtain ⟨_,_,_,_,_,_,_,_,_,_,_,_,_,_,_,lS2⟩:=cS2
  rcases hq with ⟨hup,q⟩ | ⟨hno,hup,q⟩
  ·refine matches_up (s:={ s1 with heap:=h5 }) (I5.kIn _ _ lC) (I5.kIn _ _ lS) e1 e2 hbS hup ?_
   show codeAny _ _ (.handlers (.ref a) [.ExceptHandler none none (b0 :: suite) hpos] X.env) _ _
   refine codeAny_handlers_suite ?_
   refine fly_on (s:={ s1 with heap:=h5 }) x5 fun h6 x6 y6=>?_
   have I6 : Inv X pins σ H' { s1 with heap:=h6 }:=I0.flown os bare un hok fl.stays b1 b2 b3 x6.stays ((y4.trans y5).trans y6)
   have I8:=(I6.caught a).wish fun _ _=>False
   refine wpAny_mono (hs a pins _ _ _ _ I8 (q a)) ?_ fun _ _ z=>False.elim z
   intro f s8 z
   cases f with
   | next =>
    obtain ⟨σ',H8,J,z⟩:=z
    exact ⟨_,H8,J.unwish.uncaught I.ok,z⟩
   | brk =>
    obtain ⟨σ',H8,J,z⟩:=z
    exact ⟨_,H8,J.unwish.uncaught I.ok,z⟩
   | cont =>
    obtain ⟨σ',H8,J,z⟩:=z
    exact ⟨_,H8,J.unwish.uncaught I.ok,z⟩
   | ret u =>
    obtain ⟨v,σ',H8,J,r,z⟩:=z
    exact ⟨v,_,H8,J.unwish.uncaught I.ok,r,z⟩
  ·refine matches_no (s:={ s1 with heap:=h5 }) (I5.kIn _ _ lC) (I5.kIn _ _ lS) e1 e2 hbS hno ?_
   refine wpAny_handleBy_cons (codeAny_handlers_test ?_) (by intro z; cases z)
   refine Calls.Name_function_global I5.ok.kind hgS2 (Calls.loadGlobal_global (by rw [I5.ok.glob]; exact I5.mod.glob.keeps I5.bk) hmS2 ?_) hdb2
   refine matches_up (s:={ s1 with heap:=h5 }) (I5.kIn _ _ lC) (I5.kIn _ _ lS2) e1 e2 hbS2 hup ?_
   show codeAny _ _ (.handlers (.ref a) [.ExceptHandler none (some n) (c0 :: suite2) hpos2] X.env) _ _
   refine codeAny_handlers_suite_as ?_
   refine fly_on (s:={ s1 with heap:=h5 }) x5 fun h6 x6 y6=>?_
   have I6 : Inv X pins σ H' { s1 with heap:=h6 }:=I0.flown os bare un hok fl.stays b1 b2 b3 x6.stays ((y4.trans y5).trans y6)
   have I7 : Inv X pins σ (upd H' a (excO a (.ref C) d)) { s1 with heap:=h6 }:=by
    refine I6.track ha ?_ ?_ ?_ ?_ (excO_ok x6.obj)
    ·obtain ⟨m,⟨o,_,_,ho,_⟩,_⟩:=I0.loc
     intro z
     rw [<- z,fr0] at ho
     cases ho
    ·intro x c ec z
     obtain ⟨v,o,ho,_⟩:=I0.cell x c ec
     rw [z,fr0] at ho
     cases ho
    ·intro p hp z
     have ho:=(I0.pin p hp).1
     rw [z,fr0] at ho
     cases ho
    ·cases z : X.s₀.heap.get? a with
     | none=>rfl
     | some o =>
      obtain ⟨o',ho⟩:=I0.base.there a o z (by rw [hex]; simp)
      rw [fr0] at ho
      cases ho
   have I8:=(I7.caught a).wish fun _ _=>False
   refine store_ok (X:=(X.caught a).nox) (M:=model X.prog X.w) (i:=j) (v:=.ref a) I8 hN hj (.inl hn) rfl (fun s7 I9=>?_) (.inr hn)
   refine wpAny_mono (hs2 a pins s7 _ _ _ I9 (q a ha)) ?_ fun _ _ z=>False.elim z
   intro f s8 z
   show wpAny _ _ (do bindName X.env n .none; unbindBehindTheSuite X.env n hpos2) _ _ _
   cases f with
   | next =>
    obtain ⟨σ',H8,J,z⟩:=z
    exact Inv.unname (J.unwish.uncaught I.ok) hN hj hn fun s9 J9=>⟨_,H8,J9,z⟩
   | brk =>
    obtain ⟨σ',H8,J,z⟩:=z
    exact Inv.unname (J.unwish.uncaught I.ok) hN hj hn fun s9 J9=>⟨_,H8,J9,z⟩
   | cont =>
    obtain ⟨σ',H8,J,z⟩:=z
    exact Inv.unname (J.unwish.uncaught I.ok) hN hj hn fun s9 J9=>⟨_,H8,J9,z⟩
   | ret u =>
    obtain ⟨v,σ',H8,J,r,z⟩:=z
    exact Inv.unname (J.unwish.uncaught I.ok) hN hj hn fun s9 J9=>⟨v,_,H8,J9,r,z⟩
theorem s_try2 {i j : Nat} {y n S' S2' : Str} {S S2 : Addr} {bmS bmS2 : List Value} {idS idS2 : String} {ce : Expr} {b0 c0 : Stmt} {suite suite2 : List Stmt} {py np np2 apos hpos hpos2 pos : Pos} {tx : TX} {ts ts2 : Addr->TS}
  (hN : X.N.Nodup) (hmS : X.mg S' = some (.ref S)) (cS : ExcC X.K S bmS idS) (hbS : bmS.contains (.type "BaseException") = true) (hmS2 : X.mg S2' = some (.ref S2)) (cS2 : ExcC X.K S2 bmS2 idS2) (hbS2 : bmS2.contains (.type "BaseException") = true) (hx : QX X ce tx) (hs : ∀ a,QSs (X.caught a).nox (b0 :: suite) (ts a)) (hs2 : ∀ a,QSs (X.caught a).nox (c0 :: suite2) (ts2 a))
  (hi : X.N[i]? = some y:=by kernel_rfl) (hy : X.env.scope.names.lookup y = some .local:=by kernel_rfl) (hj : X.N[j]? = some n:=by kernel_rfl) (hn : X.env.scope.names.lookup n = some .local:=by kernel_rfl) (hfr : X.env.frame = some X.env.locals:=by rfl) (hst : X.stack = X.env :: X.outer:=by rfl) (hex : X.ex = []:=by rfl)
  (hgS : X.env.kindOf S' = some .globalImplicit:=by kernel_rfl) (hgS2 : X.env.kindOf S2' = some .globalImplicit:=by kernel_rfl) (hsw : swapsWith ce (some (.Name y py)) apos.line X.env = pure false:=by rfl) (hdb : (S' == ("__debug__" : Str)) = false:=by kernel_rfl) (hdb2 : (S2' == ("__debug__" : Str)) = false:=by kernel_rfl) :
  QS X (.Try [.Assign [.Name y py] ce apos] [.ExceptHandler (some (.Name S' np)) none (b0 :: suite) hpos,.ExceptHandler (some (.Name S2' np2)) (some n) (c0 :: suite2) hpos2] [] [] pos) (tTry2 X.K i j S S2 tx ts ts2) :=
 ⟨ps_try2 (i:=i) (j:=j) hN hi (.inl hy) hj hn hfr hst hex hgS hmS cS hbS hgS2 hmS2 cS2 hbS2 hx.h (fun a=>(hs a).h) (fun a=>(hs2 a).h) (.inr hy) hsw hdb hdb2⟩
end
end L2
set_option maxHeartbeats 4000000
namespace L2
open PySem PySem.Spec PyProof.Rows PySem.W
section
variable {X : Cx}
theorem vals_of : ∀ {ks : List V} {us : List Value},ks.length = us.length->(∀ (j : Nat) k u,ks[j]? = some k->us[j]? = some u->RelV k u)->Vals ks us
 | [],[],_,_=>.nil
 | k :: ks,u :: us,hl,h=>.cons (h 0 k u rfl rfl) (vals_of (by simpa using hl) fun j a b e1 e2=>h (j + 1) a b e1 e2)
theorem rd_dk {pins : List (Addr × Obj)} {σ : St} {H : Hp} {s : Shared} {d : Addr} {kvs : List (Key × V)} (I : Inv X pins σ H s) (h : Rd H d (.dK kvs)) : ObjOk X.prog X.w H s.heap d (.dK kvs):=by
 rcases h with h | ⟨o,h⟩
 ·exact I.hok _ _ h
 ·exact (show ObjOk X.prog X.w H s.heap d (.frz o (.dK kvs)) from I.hok _ _ h).2
theorem call_listD (hc : X.calm = true) : CallR X (.type "list") (fun xs H Q=>∃ (d : Addr) (kvs : List (Key × V)),xs = [.ref d]/\Rd H d (.dK kvs)/\∀ l,H l = none->Q (.ref l) (upd H l (.lst (kvs.map fun p=>kV p.1)))):=by
 intro pins s σ H xs us Q I r h
 obtain ⟨d,kvs,rfl,hd,q⟩:=h
 obtain ⟨u,rfl,ru⟩:=vals1 r
 cases ru
 obtain ⟨z,hs,vs,kv,o,es,ep,ho,r1,r2,r3⟩:=rd_dk I hd
 have hm : s.heap.DictAt (mixKind X.prog X.w) d vs ep:=⟨o,es,ho,r1,r2,r3⟩
 have hvl : kvs.length = vs.length:=kv.length
 refine kdl_call (kdl_dict (knd:=mixKind X.prog X.w) (kvs:=vs) (ep:=ep) hs) (I.ok.hd hc) hm (by rw [<- hvl]; exact z) fun h' tk acc' c' kp e hacc=>?_
 have hv : Vals (kvs.map fun p=>kV p.1) acc'.toList:=by
  refine vals_of (by rw [List.length_map]; have z1:=hacc.1; have z2 : acc'.toList.length = acc'.size:=Array.length_toList; omega) fun j k u hk hu=>?_
  rw [List.getElem?_map] at hk
  cases hj : kvs[j]? with
  | none=>rw [hj] at hk; cases hk
  | some p =>
   rw [hj] at hk
   cases hk
   obtain ⟨k',x,e1,e2⟩:=hacc.2 j u (by rw [<- Array.getElem?_toList]; exact hu)
   obtain ⟨u',hu'⟩:=KV.at' kv hj
   rw [e1] at hu'
   cases hu'
   exact key_is e2
 exact ⟨.ref s.heap.objs.size,_,I.laid (t':=tk) kp (Nat.le_refl _) (show ObjOk X.prog X.w _ h' _ (.lst (kvs.map fun p=>kV p.1)) from ⟨by rw [List.length_map]; exact z,acc'.toList,c',hv,by rw [Array.toArray_toList]; exact e⟩),rfl,q _ (I.hok.fresh (Nat.le_refl _))⟩
theorem call_dictDR : CallR X (.type "dict") (fun xs H Q=>∃ (a : Addr) (kvs : List (Key × V)),xs = [.ref a]/\Rd H a (.dK kvs)/\∀ D,H D = none->Q (.ref D) (upd H D (.dK kvs))):=by
 intro pins s σ H xs us Q I r h
 obtain ⟨a,kvs,rfl,ha,q⟩:=h
 obtain ⟨u,rfl,ru⟩:=vals1 r
 cases ru
 obtain ⟨z,hs,vs,kv,hd⟩:=rd_dk I ha
 refine PySem.kt_call_dict hs hd (by rw [<- kv.length]; exact z) fun h' hd' sb=>?_
 have kp : ∀ b o,s.heap.get? b = some o->h'.get? b = some o:=fun b o e=>(sb.2 b (Nat.ne_of_lt (Heap.lt_size e))).trans (Heap.get?_push_of_some _ e)
 have I1 : Inv X pins σ H { s with heap:=h' }:=I.kept (t':=s.toks) kp
 have fa:=I.fpOk (Nat.le_refl _) (I.hok.fresh (Nat.le_refl s.heap.objs.size))
 have xa : X.s₀.heap.get? s.heap.objs.size = none:=Heap.get?_none_of_le I.sz
 have hsm : (s.heap.objs.size == sysModules) = false:=beq_eq_false_iff_ne.mpr (Nat.ne_of_gt I.big)
 have I2:=I1.trackV (o:=.dK kvs) fa xa ⟨z,hsm,vs,kv,hd'⟩
 exact ⟨.ref s.heap.objs.size,_,I2,rfl,q _ fa.1⟩
end
end L2
set_option maxHeartbeats 4000000
namespace PySem
section
variable {prog : Program} {w : World} {A : Around} {E : Value->Shared->Prop} {s : Shared}
theorem wpAny_ifAlive {a : Addr} {o : Obj} {Q : Option Obj->Shared->Prop} (ha : s.heap.get? a = some o) (k : Q (some o) s) : wpAny (model prog w) A (loadIfAlive a) Q E s:=by
 intro g p hg
 rw [<- ha] at k
 unfold loadIfAlive
 rw [Sem.wp_loadIfAlive]
 exact k
def ZipB (h : Heap) (z ti to' a : Addr) (b : Bool) : Prop:=h.get? z = some { cls:=.type "zip",dict:=none,data:=.fields #[rawInt a,.bool b,.bool false,.ref ti,.ref to'],slots:=#[] }
theorem zipB_notFree {z ti to' a : Addr} {b : Bool} {oa : Obj} {Q : Bool->Shared->Prop} (hz : ZipB s.heap z ti to' a b) (ha : s.heap.get? a = some oa)
  (k : ∀ h',ZipB h' z ti to' a true->Heap.SameBut z s.heap h'->Q false { s with heap:=h' }) : wpAny (model prog w) A (Builtin.SmallTypes.ownedTupleIsFree (.ref z)) Q E s:=by
 unfold ZipB at hz
 unfold Builtin.SmallTypes.ownedTupleIsFree
 refine wpAny_bind (wpAny_field hz rfl (x:=rawInt a) rfl ?_)
 show wpAny _ _ (loadIfAlive ((a : Int)).toNat >>= _) _ _ _
 rw [Int.toNat_natCast]
 refine wpAny_bind (wpAny_ifAlive ha ?_)
 refine wpAny_bind (wpAny_field hz rfl (x:=.bool b) rfl ?_)
 cases b with
 | true=>exact wpAny_ite_split (fun c=>absurd c (by decide)) fun _=>wpAny_pure (k s.heap hz ⟨rfl,fun _ _=>rfl⟩)
 | false=>exact wpAny_ite_split (fun _=>wpAny_bind (wpAny_setField_rec hz (by simp) fun h' hz' hs'=>wpAny_pure (k h' hz' hs'))) fun c=>absurd (by decide) c
theorem zipB_item {z ti to' i1 i2 l1 l2 a : Addr} {b : Bool} {k1 k2 : Nat} {xs ys : Array Value} {x y : Value} {oa : Obj} {Q : Value->Shared->Prop} (D : ZipApart z ti to' i1 i2 l1 l2)
  (hz : ZipB s.heap z ti to' a b) (ha : s.heap.get? a = some oa) (hti : IsPair s.heap ti (.ref i1) (.ref i2)) (h1 : s.heap.IsListIter i1 l1 k1) (h2 : s.heap.IsListIter i2 l2 k2) (hl1 : s.heap.IsList l1 xs) (hl2 : s.heap.IsList l2 ys) (hx : xs[k1]? = some x) (hy : ys[k2]? = some y)
  (k : ∀ h',ZipB h' z ti to' a true->h'.IsListIter i1 l1 (k1 + 1)->h'.IsListIter i2 l2 (k2 + 1)->IsPair h' s.heap.objs.size x y->(∀ c o,c ≠ z->c ≠ i1->c ≠ i2->s.heap.get? c = some o->h'.get? c = some o)->Q (.ref s.heap.objs.size) { s with heap:=h' }) :
  wpAny (model prog w) A (Builtin.«zip.__next__» ⟨[.ref z],[]⟩) (fun fin s'=>∃ v,fin = .done (.ret v)/\Q v s') E s:=by
 have hz0:=hz
 unfold ZipB at hz0
 show wpAny (model prog w) A (field (.ref z) 2 >>= _) _ E s
 refine wpAny_bind (wpAny_field hz0 rfl (x:=.bool false) rfl ?_)
 show wpAny (model prog w) A (field (.ref z) 3 >>= _) _ E s
 refine wpAny_bind (wpAny_field hz0 rfl (x:=.ref ti) rfl (wpAny_bind (wpAny_seqItems hti rfl ?_)))
 show wpAny (model prog w) A (Builtin.SmallTypes.ownedTupleIsFree (.ref z) >>= _) _ E s
 refine wpAny_bind (zipB_notFree hz ha fun h3 hz3 hs3=>?_)
 simp only [Bool.false_eq_true,if_false,List.forIn_toArray,List.forIn_cons,List.forIn_nil]
 have h1':=h1.extBut hs3.extBut D.i1z
 have h2':=h2.extBut hs3.extBut D.i2z
 have hl1':=hl1.extBut hs3.extBut D.l1z
 have hl2':=hl2.extBut hs3.extBut D.l2z
 refine wpAny_bind (wpAny_bind (wpAny_bind (wpAny_holding ?_)))
 show wpAny (model prog w) A (Builtin.SmallTypes.nextOf (.ref i1) >>= _) _ E _
 refine wpAny_bind (wpAny_nextOf_list_item (s:={ s with heap:=h3 }) h1' hl1' hx fun h4 h14 hs4=>wpAny_pure (wpAny_pure ?_))
 have hs4 : Heap.SameBut i1 h3 h4:=hs4
 refine wpAny_bind (wpAny_bind (wpAny_holding ?_))
 show wpAny (model prog w) A (Builtin.SmallTypes.nextOf (.ref i2) >>= _) _ E _
 refine wpAny_bind (wpAny_nextOf_list_item (s:={ s with heap:=h4 }) (h2'.extBut hs4.extBut D.i12.symm) (hl2'.extBut hs4.extBut D.l2i1) hy fun h5 h25 hs5=>wpAny_pure (wpAny_pure (wpAny_pure ?_)))
 have hs5 : Heap.SameBut i2 h4 h5:=hs5
 show wpAny (model prog w) A (newTuple [x,y] >>= _) _ E _
 refine wpAny_bind (wpAny_newTuple (wpAny_pure ⟨_,rfl,?_⟩))
 have up : ∀ c o,c ≠ z->c ≠ i1->c ≠ i2->s.heap.get? c = some o->h5.get? c = some o:=fun c o c1 c2 c3 e=>hs5.extBut _ _ c3 (hs4.extBut _ _ c2 (hs3.extBut _ _ c1 e))
 have sz : h5.objs.size = s.heap.objs.size:=by rw [hs5.1,hs4.1,hs3.1]
 have hz5 : ZipB h5 z ti to' a true:=hs5.extBut _ _ D.i2z.symm (hs4.extBut _ _ D.i1z.symm hz3)
 have h15 : h5.IsListIter i1 l1 (k1 + 1):=h14.extBut hs5.extBut D.i12
 show Q (.ref h5.objs.size) _
 have np : (h5.push { cls:=.type "tuple",data:=.seq #[x,y] }).get? h5.objs.size = some { cls:=.type "tuple",data:=.seq #[x,y] }:=Heap.get?_push_size _ rfl
 rw [sz] at np ⊢
 exact k _ (Heap.get?_push_of_some _ hz5) (h15.at fun o e=>Heap.get?_push_of_some _ e) (h25.at fun o e=>Heap.get?_push_of_some _ e) np fun c o c1 c2 c3 e=>Heap.get?_push_of_some _ (up c o c1 c2 c3 e)
theorem zipB_end {z ti to' i1 i2 l1 l2 a : Addr} {b : Bool} {k1 k2 : Nat} {xs ys : Array Value} {oa : Obj} {Q : Fin->Shared->Prop} (hh : A.handled = none) (D : ZipApart z ti to' i1 i2 l1 l2)
  (hz : ZipB s.heap z ti to' a b) (ha : s.heap.get? a = some oa) (hti : IsPair s.heap ti (.ref i1) (.ref i2)) (h1 : s.heap.IsListIter i1 l1 k1) (hl1 : s.heap.IsList l1 xs) (hx : xs[k1]? = none)
  (k : ∀ h' e,(∀ c o,c ≠ z->c ≠ i1->s.heap.get? c = some o->h'.get? c = some o)->(∃ o,h'.get? e = some o/\o.cls = .type "StopIteration")->E (.ref e) { s with heap:=h' }) :
  wpAny (model prog w) A (Builtin.«zip.__next__» ⟨[.ref z],[]⟩) Q E s:=by
 have hz0:=hz
 unfold ZipB at hz0
 show wpAny (model prog w) A (field (.ref z) 2 >>= _) _ E s
 refine wpAny_bind (wpAny_field hz0 rfl (x:=.bool false) rfl ?_)
 show wpAny (model prog w) A (field (.ref z) 3 >>= _) _ E s
 refine wpAny_bind (wpAny_field hz0 rfl (x:=.ref ti) rfl (wpAny_bind (wpAny_seqItems hti rfl ?_)))
 show wpAny (model prog w) A (Builtin.SmallTypes.ownedTupleIsFree (.ref z) >>= _) _ E s
 refine wpAny_bind (zipB_notFree hz ha fun h3 hz3 hs3=>?_)
 simp only [Bool.false_eq_true,if_false,List.forIn_toArray,List.forIn_cons,List.forIn_nil]
 refine wpAny_bind (wpAny_bind (wpAny_bind (wpAny_holding ?_)))
 show wpAny (model prog w) A (Builtin.SmallTypes.nextOf (.ref i1) >>= _) _ E _
 exact wpAny_bind (wpAny_nextOf_list_end (s:={ s with heap:=h3 }) hh (h1.extBut hs3.extBut D.i1z) (hl1.extBut hs3.extBut D.l1z) hx fun h4 e hs4 he=>k h4 e (fun c o c1 c2 x=>hs4 _ _ c2 (hs3.extBut _ _ c1 x)) he)
theorem pyNext_zipB_item {z ti to' i1 i2 l1 l2 a : Addr} {b : Bool} {k1 k2 : Nat} {xs ys : Array Value} {x y : Value} {oa : Obj} {Q : Option Value->Shared->Prop} (D : ZipApart z ti to' i1 i2 l1 l2)
  (hz : ZipB s.heap z ti to' a b) (ha : s.heap.get? a = some oa) (hti : IsPair s.heap ti (.ref i1) (.ref i2)) (h1 : s.heap.IsListIter i1 l1 k1) (h2 : s.heap.IsListIter i2 l2 k2) (hl1 : s.heap.IsList l1 xs) (hl2 : s.heap.IsList l2 ys) (hx : xs[k1]? = some x) (hy : ys[k2]? = some y)
  (k : ∀ h',ZipB h' z ti to' a true->h'.IsListIter i1 l1 (k1 + 1)->h'.IsListIter i2 l2 (k2 + 1)->IsPair h' s.heap.objs.size x y->(∀ c o,c ≠ z->c ≠ i1->c ≠ i2->s.heap.get? c = some o->h'.get? c = some o)->Q (some (.ref s.heap.objs.size)) { s with heap:=h' }) :
  wpAny (model prog w) A (pyNext (.ref z)) Q E s:=by
 have hT : s.TypeIs (.ref z) "zip":=⟨_,hz,rfl⟩
 unfold pyNext
 exact wpAny_bind (wpAny_attempt (wpAny_callSpecial?_slot (name:=Str.ofString "__next__") hT F.slot_zip_next (wpAny_call_entry F.slot_zip_next hT F.entry_zip_next (zipB_item D hz ha hti h1 h2 hl1 hl2 hx hy fun h' b1 b2 b3 b4 b5=>wpAny_pure (k h' b1 b2 b3 b4 b5)) (F.args_zip_next_1 _))))
theorem pyNext_zipB_end {z ti to' i1 i2 l1 l2 a : Addr} {b : Bool} {k1 k2 : Nat} {xs ys : Array Value} {oa : Obj} {Q : Option Value->Shared->Prop} (hh : A.handled = none) (D : ZipApart z ti to' i1 i2 l1 l2)
  (hz : ZipB s.heap z ti to' a b) (ha : s.heap.get? a = some oa) (hti : IsPair s.heap ti (.ref i1) (.ref i2)) (h1 : s.heap.IsListIter i1 l1 k1) (hl1 : s.heap.IsList l1 xs) (hx : xs[k1]? = none)
  (k : ∀ h',(∀ c o,c ≠ z->c ≠ i1->s.heap.get? c = some o->h'.get? c = some o)->Q none { s with heap:=h' }) : wpAny (model prog w) A (pyNext (.ref z)) Q E s:=by
 have hT : s.TypeIs (.ref z) "zip":=⟨_,hz,rfl⟩
 unfold pyNext
 refine wpAny_bind (wpAny_attempt (wpAny_callSpecial?_slot (name:=Str.ofString "__next__") hT F.slot_zip_next (wpAny_call_entry F.slot_zip_next hT F.entry_zip_next (zipB_end (ys:=ys) (k2:=k2) hh D hz ha hti h1 hl1 hx fun h' e hk he=>?_) (F.args_zip_next_1 _))))
 obtain ⟨o,ho,hc⟩:=he
 exact wpAny_bind (wpAny_isInstance (T:="StopIteration") (b:=true) ⟨o,ho,hc⟩ isSubtype_stop (wpAny_pure (k _ hk)))
theorem zip_hint {z : Addr} {Q : Bool->Shared->Prop} (hT : s.TypeIs (.ref z) "zip") (k : Q true s) : wpAny (model prog w) A (Builtin.List.listLengthHint (.ref z)) Q E s:=by
 unfold Builtin.List.listLengthHint
 have n1 : typeLookup (.type "zip") "__len__" = pure none:=by rw [typeLookup_type,builtinLookup_eq_fast]; kernel_rfl
 have n2 : typeLookup (.type "zip") "__length_hint__" = pure none:=by rw [typeLookup_type,builtinLookup_eq_fast]; kernel_rfl
 refine wpAny_bind (wpAny_specialOf hT n1 ?_)
 refine wpAny_ite_split (fun c=>absurd c (by decide +kernel)) fun _=>?_
 refine wpAny_ite_split (fun c=>absurd c (by decide)) fun _=>?_
 exact wpAny_bind (wpAny_specialOf hT n2 (wpAny_pure k))
theorem zip_list {z ti to' : Addr} {Q : Value->Shared->Prop} (hz : IsZip s.heap z ti to' .none)
  (k : ∀ h tk c,(∀ b o,s.heap.get? b = some o->h.get? b = some o)->h.get? s.heap.objs.size = some { cls:=.type "list",data:=.seq #[] c } ->
   codeAny (model prog w) A.in1 (.builtin "list.extend.loop" ⟨[.ref s.heap.objs.size,.ref z,.none],[]⟩) (fun r s'=>r = .ok (.ret .none)/\Q (.ref s.heap.objs.size) s') { s with heap:=h,toks:=tk }) :
  wpAny (model prog w) A (call (.type "list") [.ref z]) Q E s:=by
 have lz : z < s.heap.objs.size:=Heap.lt_size hz
 refine callType_codes (Q₁:=fun ob s1=>ob = .ref s.heap.objs.size/\s1 = { s with heap:=s.heap.push { cls:=.type "list",data:=.seq #[] } }) PySem.F.called_list (PySem.F.typeCall_list_1 _) PySem.F.entry_list_init (code_list_new _ ⟨rfl,rfl⟩) ?_
 rintro ob s1 ⟨rfl,rfl⟩
 have hS : (s.heap.push { cls:=.type "list",data:=.seq #[] }).get? s.heap.objs.size = some { cls:=.type "list",data:=.seq #[] }:=Heap.get?_push_size _ rfl
 have hz1 : IsZip (s.heap.push { cls:=.type "list",data:=.seq #[] }) z ti to' .none:=Heap.get?_push_of_some _ hz
 refine ⟨⟨_,hS,rfl⟩,PySem.F.args_list_init_2 _ _,?_⟩
 have hg1 : ∀ b o,s.heap.get? b = some o->(s.heap.push { cls:=.type "list",data:=.seq #[] }).get? b = some o:=fun b o e=>Heap.get?_push_of_some _ e
 generalize s.heap.push { cls:=.type "list",data:=.seq #[] } = g1 at hS hz1 hg1 ⊢
 have ne : z ≠ s.heap.objs.size:=Nat.ne_of_lt lz
 show wpAny _ _ (do let old <- Builtin.List.listItems (.ref s.heap.objs.size); Builtin.List.listUpdate (.ref s.heap.objs.size) (fun _=>#[]); letGo old.toList.reverse; Builtin.List.listExtendWith (.ref s.heap.objs.size) (.ref z) .none) _ _ { s with heap:=g1 }
 refine wpAny_bind ?_
 unfold Builtin.List.listItems
 refine wpAny_bind (wpAny_seqItems (s:={ s with heap:=g1 }) hS rfl (wpAny_pure ?_))
 show wpAny _ _ (updateSeq s.heap.objs.size (fun _=>#[]) >>= fun _=>letGo (#[] : Array Value).toList.reverse >>= fun _=>Builtin.List.listExtendWith (.ref s.heap.objs.size) (.ref z) .none) _ _ { s with heap:=g1 }
 refine wpAny_bind (wpAny_updateSeq (s:={ s with heap:=g1 }) hS rfl ?_)
 have oth : ∀ (g : Heap) (f : Obj->Obj) (b : Addr) (o : Obj),b ≠ s.heap.objs.size->g.get? b = some o->(g.update s.heap.objs.size f).get? b = some o:=fun g f b o n e=>(Heap.get?_update_other _ _ (Ne.symm n)).trans e
 have old : ∀ b o,s.heap.get? b = some o->b ≠ s.heap.objs.size:=fun b o e=>Nat.ne_of_lt (Heap.lt_size e)
 have hS2:=Heap.get?_update_self (Obj.mapSeq (fun _=>(#[] : Array Value))) hS rfl
 have hz2 : IsZip (g1.update s.heap.objs.size (Obj.mapSeq (fun _=>(#[] : Array Value)))) z ti to' .none:=oth _ _ _ _ ne hz1
 have hg2 : ∀ b o,s.heap.get? b = some o->(g1.update s.heap.objs.size (Obj.mapSeq (fun _=>(#[] : Array Value)))).get? b = some o:=fun b o e=>oth _ _ _ _ (old b o e) (hg1 b o e)
 refine wpAny_bind (wpAny_letGo ?_)
 show wpAny _ _ _ _ _ { s with heap:=g1.update s.heap.objs.size (Obj.mapSeq (fun _=>(#[] : Array Value))) }
 generalize g1.update s.heap.objs.size (Obj.mapSeq (fun _=>(#[] : Array Value))) = g2 at hS2 hz2 hg2 ⊢
 unfold Builtin.List.listExtendWith
 refine wpAny_bind (wpAny_typeOf (s:={ s with heap:=g2 }) (T:="zip") ⟨_,hz2,rfl⟩ ?_)
 have q1 : Builtin.List.listSameRef (.ref s.heap.objs.size) (.ref z) = false:=by simp [Builtin.List.listSameRef,Ne.symm ne]
 have q2 : (Value.type "zip" == Value.type "list") = false:=by decide
 have q3 : (Value.type "zip" == Value.type "tuple") = false:=by decide
 simp only [q1,q2,q3,Bool.or_false,Bool.false_eq_true,if_false]
 refine wpAny_bind (wpAny_pyIter_zip (s:={ s with heap:=g2 }) hz2 (wpAny_bind (wpAny_holding (zip_hint (s:={ s with heap:=g2 }) ⟨_,hz2,rfl⟩ ?_))))
 refine wpAny_ite_split (fun _=>wpAny_bind (wpAny_rule (wpAny_bind ?_))) fun c=>absurd rfl c
 show wpAny _ _ (updateSeq s.heap.objs.size (·.push .none) >>= fun _=>updateSeq s.heap.objs.size (·.pop)) _ _ { s with heap:=g2 }
 refine wpAny_bind (wpAny_updateSeq (s:={ s with heap:=g2 }) hS2 rfl ?_)
 have hS3:=Heap.get?_update_self (Obj.mapSeq (·.push Value.none)) hS2 rfl
 have hg3 : ∀ b o,s.heap.get? b = some o->(g2.update s.heap.objs.size (Obj.mapSeq (·.push Value.none))).get? b = some o:=fun b o e=>oth _ _ _ _ (old b o e) (hg2 b o e)
 refine wpAny_updateSeq (hz:=by seq_fits) hS3 rfl ?_
 have hS4:=Heap.get?_update_self (Obj.mapSeq (·.pop)) hS3 rfl
 refine wpAny_pure ⟨plainId_quiet PySem.F.plain_extend_loop _,?_⟩
 refine codeAny_mono (k _ s.toks _ (fun b o e=>oth _ _ _ _ (old b o e) (hg3 b o e)) hS4) ?_
 rintro r s' ⟨rfl,q⟩
 exact ⟨rfl,q⟩
end
end PySem
set_option maxHeartbeats 4000000
namespace L2
open PySem PySem.Spec PyProof.Rows PySem.W
section
variable {X : Cx}
def Prs (H : Hp) (xs ys : List V) (ts : List Addr) : Prop:=∀ (j : Nat) t,ts[j]? = some t->∃ x y,xs[j]? = some x/\ys[j]? = some y/\H t = some (.tup [x,y])
theorem Prs.same {H H' : Hp} {xs ys : List V} {ts : List Addr} (h : Prs H xs ys ts) (s : Same H H') : Prs H' xs ys ts:=fun j t e=>by
 obtain ⟨x,y,a,b,c⟩:=h j t e
 exact ⟨x,y,a,b,s _ _ c⟩
theorem Prs.snoc {H : Hp} {xs ys : List V} {ts : List Addr} {t : Addr} {x y : V} (h : Prs H xs ys ts) (hx : xs[ts.length]? = some x) (hy : ys[ts.length]? = some y) (ht : H t = some (.tup [x,y])) : Prs H xs ys (ts ++ [t]):=fun j u e=>by
 by_cases hj : j < ts.length
 ·rw [List.getElem?_append_left hj] at e
  exact h j u e
 ·rw [List.getElem?_append_right (by omega)] at e
  have : j = ts.length:=by
   have:=(List.getElem?_eq_some_iff.mp e).1
   rw [List.length_singleton] at this
   omega
  subst this
  rw [Nat.sub_self] at e
  cases e
  exact ⟨x,y,hx,hy,ht⟩
def lstOf (ts : List Addr) (c : Nat) : Obj:={ cls:=.type "list",data:=.seq (ts.map Value.ref).toArray c }
theorem zip_put {pins : List (Addr × Obj)} {σ : St} {H : Hp} {s : Shared} {h' : Heap} {S z ti to' i1 i2 : Addr} {x y : V} {u v : Value} {ts : List Addr} {c : Nat} (I : Inv X pins σ H s) (fp : ∀ b ∈ [z,ti,to',i1,i2,S],FpOk X pins H b) (rx : RelV x u) (ry : RelV y v)
  (hl : ∀ b ∈ [z,ti,to',i1,i2,S],b < s.heap.objs.size) (np : IsPair h' s.heap.objs.size u v) (up : ∀ b o,b ≠ z->b ≠ to'->b ≠ i1->b ≠ i2->s.heap.get? b = some o->h'.get? b = some o) :
  Inv X pins σ (upd H s.heap.objs.size (.tup [x,y])) { s with heap:=h' }/\(∀ b ∈ [z,ti,to',i1,i2,S],FpOk X pins (upd H s.heap.objs.size (.tup [x,y])) b):=by
 have pg : (s.heap.push { cls:=.type "tuple",data:=.seq #[u,v] }).get? s.heap.objs.size = some { cls:=.type "tuple",data:=.seq #[u,v] }:=Heap.get?_push_size _ rfl
 have J1:=I.laid (a:=s.heap.objs.size) (o:=.tup [x,y]) (h':=s.heap.push { cls:=.type "tuple",data:=.seq #[u,v] }) (t':=s.toks) (fun b v z=>Heap.get?_push_of_some _ z) (Nat.le_refl _)
  ⟨(by show 2 <= sizeLine; decide),[u,v],.cons rx (.cons ry .nil),⟨_,pg,rfl,_,rfl⟩⟩
 have fp' : ∀ b ∈ [z,ti,to',i1,i2,S],FpOk X pins (upd H s.heap.objs.size (.tup [x,y])) b:=fun b hb=>by
  obtain ⟨f0,f1,f2,f3,f4,f5⟩:=fp b hb
  refine ⟨?_,f1,f2,f3,f4,f5⟩
  rw [upd_ne (Nat.ne_of_lt (hl b hb))]
  exact f0
 have J2:=J1.turnedL (h':=h') (t':=s.toks) (ch:=[z,ti,to',i1,i2,S]) (fun b o hc zz=>by
  have n1 : b ≠ z:=fun y=>hc (by simp [y])
  have n2 : b ≠ to':=fun y=>hc (by simp [y])
  have n3 : b ≠ i1:=fun y=>hc (by simp [y])
  have n4 : b ≠ i2:=fun y=>hc (by simp [y])
  by_cases hp : b = s.heap.objs.size
  ·subst hp
   have z' : s.heap.objs.size = s.heap.objs.size->(s.heap.push { cls:=.type "tuple",data:=.seq #[u,v] }).get? s.heap.objs.size = some o:=fun _=>zz
   rw [pg] at z'
   have:=z' rfl
   cases this
   exact np
  ·exact up b o n1 n2 n3 n4 (get_push_ne zz hp)) fp'
 exact ⟨J2,fp'⟩
theorem zip_grow {pins : List (Addr × Obj)} {σ : St} {H : Hp} {s : Shared} {S z ti to' i1 i2 : Addr} {f : Obj->Obj} (I : Inv X pins σ H s) (fp : ∀ b ∈ [z,ti,to',i1,i2,S],FpOk X pins H b) : Inv X pins σ H { s with heap:=s.heap.update S f } :=
 I.turnedL (t':=s.toks) (ch:=[z,ti,to',i1,i2,S]) (fun b o hc e=>(Heap.get?_update_other _ _ (fun y=>hc (by simp [y]))).trans e) fp
theorem zip_loop {pins : List (Addr × Obj)} {σ : St} {S z ti to' i1 i2 l1 l2 : Addr} {xs ys : List V} {A : Around} {R : Result->Shared->Prop} {H0 : Hp} (hh : A.handled = none) (D : ZipApart z ti to' i1 i2 l1 l2) (nz : S ≠ z) (nti : S ≠ ti) (n1 : S ≠ i1) (n2 : S ≠ i2) (hl : xs.length = ys.length) (hn : xs.length <= sizeLine)
  (fin : ∀ s' H' ts' c',Inv X pins σ H' s'->Same H0 H'->s'.heap.get? S = some (lstOf ts' c')->ts'.length = xs.length->Prs H' xs ys ts'->FpOk X pins H' S->R (.ok (.ret .none)) s') :
  ∀ (k i : Nat) (s : Shared) (H : Hp) (ts : List Addr) (c : Nat) (a : Addr) (b : Bool),xs.length - i = k->i <= xs.length->Inv X pins σ H s->Same H0 H->SqL X.K H l1 xs->SqL X.K H l2 ys->ZipB s.heap z ti to' a b->(∃ o,s.heap.get? a = some o)->a ≠ z->a ≠ i1->a ≠ i2->a ≠ S->IsPair s.heap ti (.ref i1) (.ref i2)->s.heap.IsListIter i1 l1 i->s.heap.IsListIter i2 l2 i ->
   s.heap.get? S = some (lstOf ts c)->ts.length = i->Prs H xs ys ts->(∀ b ∈ [z,ti,to',i1,i2,S],FpOk X pins H b)->(∀ b ∈ [z,ti,to',i1,i2,S],b < s.heap.objs.size) ->
   codeAny (model X.prog X.w) A (.builtin "list.extend.loop" ⟨[.ref S,.ref z,.none],[]⟩) R s:=by
 intro k
 induction k with
 | zero =>
  intro i s H ts c a b hk hi I s0 q1 q2 hz ⟨oa,ha⟩ az a1 a2 aS hti h1 h2 hS ht hp fp lt
  have e : i = xs.length:=by omega
  obtain ⟨its1,rv1,p1,_⟩:=I.list q1
  have r1:=rv1.length
  refine codeAny_builtin F.entry_extend_loop ?_
  rw [Around.under_plainId F.plain_extend_loop _]
  show wpAny _ A.in1 (pyNext (.ref z) >>= _) _ _ s
  refine wpAny_bind (pyNext_zipB_end (xs:=its1.toArray) (ys:=#[]) (k2:=0) (l2:=l2) hh D hz ha hti h1 p1.isList (by simp; omega) fun h' up=>wpAny_pure ?_)
  have I' : Inv X pins σ H { s with heap:=h' }:=I.turnedL (t':=s.toks) (ch:=[z,ti,to',i1,i2,S]) (fun b o hc e=>up b o (fun y=>hc (by simp [y])) (fun y=>hc (by simp [y])) e) fp
  exact fin _ H ts c I' s0 (up _ _ nz n1 hS) (by omega) hp (fp S (by simp))
 | succ k ih =>
  intro i s H ts c a b hk hi I s0 q1 q2 hz ⟨oa,ha⟩ az a1 a2 aS hti h1 h2 hS ht hp fp lt
  obtain ⟨its1,rv1,p1,_⟩:=I.list q1
  obtain ⟨its2,rv2,p2,_⟩:=I.list q2
  have hix : xs[i]? = some (xs[i]'(by omega)):=List.getElem?_eq_getElem (by omega)
  have hiy : ys[i]? = some (ys[i]'(by omega)):=List.getElem?_eq_getElem (by omega)
  obtain ⟨u,hu,ru⟩:=rv1.get hix
  obtain ⟨v,hv,rv⟩:=rv2.get hiy
  refine codeAny_builtin F.entry_extend_loop ?_
  rw [Around.under_plainId F.plain_extend_loop _]
  show wpAny _ A.in1 (pyNext (.ref z) >>= _) _ _ s
  refine wpAny_bind (pyNext_zipB_item D hz ha hti h1 h2 p1.isList p2.isList (x:=u) (y:=v) (by simpa using hu) (by simpa using hv) fun h' b1 b2 b3 b4 up=>?_)
  have up' : ∀ b o,b ≠ z->b ≠ to'->b ≠ i1->b ≠ i2->s.heap.get? b = some o->h'.get? b = some o:=fun b o c1 _ c2 c3 e=>up b o c1 c2 c3 e
  obtain ⟨J,fp'⟩:=zip_put (s:=s) (ts:=ts) (c:=c) I fp ru rv lt b4 up'
  have nH : H s.heap.objs.size = none:=I.hok.fresh (Nat.le_refl _)
  have st:=Same.new nH (.tup [xs[i]'(by omega),ys[i]'(by omega)])
  have hS' : h'.get? S = some (lstOf ts c):=up _ _ nz n1 n2 hS
  show wpAny _ A.in1 (updateSeq S (·.push (.ref s.heap.objs.size)) >>= _) _ _ { s with heap:=h' }
  refine wpAny_bind (wpAny_updateSeq (s:={ s with heap:=h' }) hS' rfl (wpAny_pure ⟨plainId_quiet F.plain_extend_loop _,?_⟩) ?_ ?_)
  ·have sz : s.heap.objs.size < h'.objs.size:=Heap.lt_size b4
   have oth : ∀ b o,b ≠ S->h'.get? b = some o->(h'.update S (Obj.mapSeq (·.push (.ref s.heap.objs.size)))).get? b = some o:=fun b o n e=>(Heap.get?_update_other _ _ (Ne.symm n)).trans e
   obtain ⟨c2,hS2⟩ : ∃ c2,(h'.update S (Obj.mapSeq (·.push (.ref s.heap.objs.size)))).get? S = some (lstOf (ts ++ [s.heap.objs.size]) c2):=by
    have t:=Heap.get?_update_self (Obj.mapSeq (·.push (Value.ref s.heap.objs.size))) hS' rfl
    have ea : ((ts.map Value.ref).toArray).push (.ref s.heap.objs.size) = ((ts ++ [s.heap.objs.size]).map Value.ref).toArray:=by simp
    unfold lstOf at t ⊢
    rw [<- ea]
    exact ⟨_,t⟩
   refine ih (i + 1) _ _ (ts ++ [s.heap.objs.size]) c2 a true (by omega) (by omega) (zip_grow (z:=z) (ti:=ti) (to':=to') (i1:=i1) (i2:=i2) J fp') (s0.trans st) (st.seq q1) (st.seq q2) (oth _ _ (Ne.symm nz) b1) ⟨oa,oth _ _ aS (up _ _ az a1 a2 ha)⟩ az a1 a2 aS (oth _ _ (Ne.symm nti) (up _ _ D.TIz D.TIi1 D.TIi2 hti)) (b2.at fun o e=>oth _ _ (Ne.symm n1) e) (b3.at fun o e=>oth _ _ (Ne.symm n2) e) hS2 (by rw [List.length_append,ht]; rfl) ((hp.same st).snoc (by rw [ht]; exact hix) (by rw [ht]; exact hiy) upd_same) fp' (fun b hb=>?_)
   ·show b < (h'.update S _).objs.size
    have e1 : (h'.update S (Obj.mapSeq (·.push (.ref s.heap.objs.size)))).objs.size = h'.objs.size:=(Heap.SameBut.update ..).1
    rw [e1]
    exact Nat.lt_trans (lt b hb) sz
  ·rw [List.size_toArray,List.length_map]; omega
  ·rw [Array.size_push,List.size_toArray,List.length_map]; omega
def tLZip (K : PySem.W.Frag) (ta : TA) : TE:=fun σ H Q=>ta σ H fun vs H1=>∃ a b xs ys,vs = [.ref a,.ref b]/\SqL K H1 a xs/\SqL K H1 b ys/\xs.length = ys.length/\xs.length <= sizeLine/\∀ l ts H2,Same H1 H2->H1 l = none->H2 l = some (.lst (ts.map V.ref))->ts.length = xs.length->Prs H2 xs ys ts->Q (.ref l) H2
theorem vals_refs : ∀ ts : List Addr,Vals (ts.map V.ref) (ts.map Value.ref)
 | []=>.nil
 | t :: r=>.cons rfl (vals_refs r)
theorem pe_lzip {p p2 pos pos2 : Pos} {a b : Expr} {ta : TA} (hcm : X.calm = true) (hgl : X.env.kindOf "list" = some .globalImplicit) (hml : X.mg "list" = none) (hg : X.env.kindOf "zip" = some .globalImplicit) (hm : X.mg "zip" = none) (ha : PA X [a,b] ta) (h1 : nostar a = true) (h2 : nostar b = true) :
  PE X (.Call (.Name "list" p) [.Call (.Name "zip" p2) [a,b] [] pos2] [] pos) (tLZip X.K ta):=by
 intro pins s σ H Q I h
 refine Call_ (ld_blt (u:=.type "list") I hgl hml (by decide +kernel) (PyProof.Rows.callWith_type1 ?_ rfl rfl))
 show wpAny _ _ (spliced ((false,eval (.Call (.Name "zip" p2) [a,b] [] pos2) X.env) :: backTo pos (starEach [] X.env))) _ _ s
 refine Calls.spliced_cons (Call_ (ld_blt (u:=.type "zip") I hg hm (by decide +kernel) (PyProof.Rows.callWith_type1 (thn (ha pos2 pins s σ H _ I h) fun us s1 ⟨vs,H1,I1,r1,q1⟩=>?_) (star_plain h1) (any_plain (by simp [h2])))))
 obtain ⟨a,b,xs,ys,rfl,hq1,hq2,hlen,hn,q⟩:=q1
 cases r1 with
 | cons r rr =>
  cases rr with
  | cons r' rr =>
   cases rr
   cases r
   cases r'
   obtain ⟨its1,rv1,p1,hz1⟩:=I1.list hq1
   obtain ⟨its2,rv2,p2,hz2⟩:=I1.list hq2
   have la : a < s1.heap.objs.size:=by obtain ⟨o,e,_⟩:=p1.isList; exact Heap.lt_size e
   have lb : b < s1.heap.objs.size:=by obtain ⟨o,e,_⟩:=p2.isList; exact Heap.lt_size e
   refine call_zip_2 p1.isList p2.isList fun h' he hTI hTO hi1 hi2 hsz hk=>?_
   have I2 : Inv X pins σ H1 { s1 with heap:=h' }:=I1.kept (t':=s1.toks) hk
   have up : ∀ (m k : Nat),m < s1.heap.objs.size->m ≠ s1.heap.objs.size + k:=fun m k h=>Nat.ne_of_lt (Nat.lt_of_lt_of_le h (Nat.le_add_right _ k))
   have nk : ∀ j k : Nat,j ≠ k->s1.heap.objs.size + j ≠ s1.heap.objs.size + k:=fun j k h z=>h (Nat.add_left_cancel z)
   have n0 : ∀ k : Nat,0 ≠ k->s1.heap.objs.size ≠ s1.heap.objs.size + k:=fun k h z=>nk 0 k h z
   have D : ZipApart (s1.heap.objs.size + 4) (s1.heap.objs.size + 2) (s1.heap.objs.size + 3) s1.heap.objs.size (s1.heap.objs.size + 1) a b :=
    ⟨nk 2 4 (by decide),nk 3 4 (by decide),n0 4 (by decide),nk 1 4 (by decide),nk 2 3 (by decide),(n0 2 (by decide)).symm,nk 2 1 (by decide),(n0 3 (by decide)).symm,nk 3 1 (by decide),n0 1 (by decide),up a 4 la,up a 3 la,Nat.ne_of_lt la,up a 1 la,up b 4 lb,up b 3 lb,Nat.ne_of_lt lb,up b 1 lb⟩
   refine Calls.spliced_nil ?_
   refine zip_list (s:={ s1 with heap:=h' }) he fun g tk c hg1 hS=>?_
   have hS : g.get? h'.objs.size = some (lstOf [] c):=hS
   have hg1 : ∀ b o,h'.get? b = some o->g.get? b = some o:=hg1
   show codeAny (model X.prog X.w) X.A.in1 (.builtin "list.extend.loop" ⟨[.ref h'.objs.size,.ref (s1.heap.objs.size + 4),.none],[]⟩) _ _
   have key : codeAny (model X.prog X.w) X.A.in1 (.builtin "list.extend.loop" ⟨[.ref (s1.heap.objs.size + 5),.ref (s1.heap.objs.size + 4),.none],[]⟩) (fun r s'=>r = .ok (.ret .none)/\EP X pins σ Q (.ref (s1.heap.objs.size + 5)) s') { s1 with heap:=g,toks:=tk }:=by
    rw [hsz] at hS
    have I3 : Inv X pins σ H1 { s1 with heap:=g,toks:=tk }:=I1.kept (t':=tk) fun b o e=>hg1 b o (hk b o e)
    have frs : ∀ c : Addr,s1.heap.objs.size <= c->H1 c = none:=fun c h=>I1.hok.fresh h
    have fin : ∀ s' H' ts' c',Inv X pins σ H' s'->Same H1 H'->s'.heap.get? (s1.heap.objs.size + 5) = some (lstOf ts' c')->ts'.length = xs.length->Prs H' xs ys ts'->FpOk X pins H' (s1.heap.objs.size + 5)->(fun r s'=>r = .ok (.ret .none)/\EP X pins σ Q (.ref (s1.heap.objs.size + 5)) s') (.ok (.ret .none) : Result) s':=by
     intro s' H' ts' c' I' sm hS' hl' hp f
     have x0 : X.s₀.heap.get? (s1.heap.objs.size + 5) = none:=Heap.get?_none_of_le (Nat.le_trans I1.sz (Nat.le_add_right _ _))
     have ob : ObjOk X.prog X.w (upd H' (s1.heap.objs.size + 5) (.lst (ts'.map V.ref))) s'.heap (s1.heap.objs.size + 5) (.lst (ts'.map V.ref)):=⟨by rw [List.length_map]; omega,ts'.map Value.ref,c',vals_refs ts',hS'⟩
     have st:=Same.new f.1 (.lst (ts'.map V.ref))
     exact ⟨rfl,.ref (s1.heap.objs.size + 5),_,I'.trackV f x0 ob,rfl,q (s1.heap.objs.size + 5) ts' _ (sm.trans st) (frs (s1.heap.objs.size + 5) (Nat.le_add_right _ _)) upd_same hl' (hp.same st)⟩
    have hcs : ∀ c ∈ [s1.heap.objs.size + 4,s1.heap.objs.size + 2,s1.heap.objs.size + 3,s1.heap.objs.size,s1.heap.objs.size + 1,(s1.heap.objs.size + 5)],s1.heap.objs.size <= c:=fun c hc=>by
     simp only [List.mem_cons,List.not_mem_nil,or_false] at hc
     rcases hc with rfl | rfl | rfl | rfl | rfl | rfl <;> omega
    have fp : ∀ c ∈ [s1.heap.objs.size + 4,s1.heap.objs.size + 2,s1.heap.objs.size + 3,s1.heap.objs.size,s1.heap.objs.size + 1,(s1.heap.objs.size + 5)],FpOk X pins H1 c:=fun c hc=>I1.fpOk (hcs c hc) (frs c (hcs c hc))
    have nS : ∀ k : Nat,5 ≠ k->s1.heap.objs.size + 5 ≠ s1.heap.objs.size + k:=fun k h=>nk 5 k h
    have hz:=hg1 _ _ he
    have hti:=hg1 _ _ hTI
    have hto:=hg1 _ _ hTO
    have h1i:=hi1.at fun o e=>hg1 _ o e
    have h2i:=hi2.at fun o e=>hg1 _ o e
    have lt : ∀ c ∈ [s1.heap.objs.size + 4,s1.heap.objs.size + 2,s1.heap.objs.size + 3,s1.heap.objs.size,s1.heap.objs.size + 1,(s1.heap.objs.size + 5)],c < g.objs.size:=fun c hc=>by
     have z : s1.heap.objs.size + 5 < g.objs.size:=Heap.lt_size hS
     simp only [List.mem_cons,List.not_mem_nil,or_false] at hc
     rcases hc with rfl | rfl | rfl | rfl | rfl | rfl <;> omega
    obtain ⟨jt1,rw1,pp1,_⟩:=I3.list hq1
    obtain ⟨jt2,rw2,pp2,_⟩:=I3.list hq2
    have hd:=I1.ok.hd hcm
    refine codeAny_builtin F.entry_extend_loop ?_
    rw [Around.under_plainId F.plain_extend_loop _]
    show wpAny _ X.A.in1.in1 (pyNext (.ref (s1.heap.objs.size + 4)) >>= _) _ _ { s1 with heap:=g,toks:=tk }
    by_cases h0 : xs.length = 0
    ·have r1:=rw1.length
     refine wpAny_bind (wpAny_pyNext_zip_end (s:={ s1 with heap:=g,toks:=tk }) hd D hz hti hto h1i h2i pp1.isList pp2.isList (.inl (by simp [List.eq_nil_of_length_eq_zero (r1.symm.trans h0)])) fun g2 up2=>wpAny_pure ?_)
     have I4:=I3.turnedL (h':=g2) (t':=tk) (ch:=[s1.heap.objs.size + 4,s1.heap.objs.size + 2,s1.heap.objs.size + 3,s1.heap.objs.size,s1.heap.objs.size + 1,(s1.heap.objs.size + 5)]) (fun b o hc e=>up2 b o (fun y=>hc (by simp [y])) (fun y=>hc (by simp [y])) (fun y=>hc (by simp [y])) (fun y=>hc (by simp [y])) e) fp
     exact fin _ H1 [] c I4 (Same.refl _) (up2 _ _ (nS 4 (by decide)) (nS 3 (by decide)) (n0 5 (by decide)).symm (nS 1 (by decide)) hS) (by rw [h0]; rfl) (fun j t e=>by cases e) (fp (s1.heap.objs.size + 5) (by simp))
    ·have hix : xs[0]? = some (xs[0]'(by omega)):=List.getElem?_eq_getElem (by omega)
     have hiy : ys[0]? = some (ys[0]'(by omega)):=List.getElem?_eq_getElem (by omega)
     obtain ⟨u,hu,ru⟩:=rw1.get hix
     obtain ⟨v,hv,rv⟩:=rw2.get hiy
     refine wpAny_bind (wpAny_pyNext_zip_item (s:={ s1 with heap:=g,toks:=tk }) D hz hti hto h1i h2i pp1.isList pp2.isList (x:=u) (y:=v) (by simpa using hu) (by simpa using hv) fun g2 b1 b2 b3 b4 b5 b6 up2=>?_)
     obtain ⟨J,fp'⟩:=zip_put (s:={ s1 with heap:=g,toks:=tk }) (ts:=[]) (c:=c) I3 fp ru rv lt b5 up2
     have nH : H1 g.objs.size = none:=I3.hok.fresh (Nat.le_refl _)
     have st:=Same.new nH (.tup [xs[0]'(by omega),ys[0]'(by omega)])
     have hS' : g2.get? (s1.heap.objs.size + 5) = some (lstOf [] c):=up2 _ _ (nS 4 (by decide)) (nS 3 (by decide)) (n0 5 (by decide)).symm (nS 1 (by decide)) hS
     have ltg : ∀ c ∈ [s1.heap.objs.size + 4,s1.heap.objs.size + 2,s1.heap.objs.size + 3,s1.heap.objs.size,s1.heap.objs.size + 1,(s1.heap.objs.size + 5)],g.objs.size ≠ c:=fun c hc=>Nat.ne_of_gt (lt c hc)
     show wpAny _ X.A.in1.in1 (updateSeq (s1.heap.objs.size + 5) (·.push (.ref g.objs.size)) >>= _) _ _ { s1 with heap:=g2,toks:=tk }
     refine wpAny_bind (wpAny_updateSeq (s:={ s1 with heap:=g2,toks:=tk }) hS' rfl (wpAny_pure ⟨plainId_quiet F.plain_extend_loop _,?_⟩) (by show 0 <= _; exact Nat.zero_le _) (by show 1 <= _; exact Nat.le_add_left 1 _))
     have oth : ∀ b o,b ≠ (s1.heap.objs.size + 5)->g2.get? b = some o->(g2.update (s1.heap.objs.size + 5) (Obj.mapSeq (·.push (.ref g.objs.size)))).get? b = some o:=fun b o n e=>(Heap.get?_update_other _ _ (Ne.symm n)).trans e
     obtain ⟨c2,hS2⟩ : ∃ c2,(g2.update (s1.heap.objs.size + 5) (Obj.mapSeq (·.push (.ref g.objs.size)))).get? (s1.heap.objs.size + 5) = some (lstOf ([] ++ [g.objs.size]) c2):=by
      have t:=Heap.get?_update_self (Obj.mapSeq (·.push (Value.ref g.objs.size))) hS' rfl
      unfold lstOf at t ⊢
      exact ⟨_,t⟩
     have sz2 : g.objs.size < g2.objs.size:=Heap.lt_size b5
     refine zip_loop (H0:=H1) (A:=X.A.in1) hd D (nS 4 (by decide)) (nS 2 (by decide)) (n0 5 (by decide)).symm (nS 1 (by decide)) hlen hn fin (xs.length - 1) 1 _ _ ([] ++ [g.objs.size]) c2 g.objs.size false rfl (by omega) (zip_grow (z:=s1.heap.objs.size + 4) (ti:=s1.heap.objs.size + 2) (to':=s1.heap.objs.size + 3) (i1:=s1.heap.objs.size) (i2:=s1.heap.objs.size + 1) J fp') st (st.seq hq1) (st.seq hq2) (oth _ _ (Ne.symm (nS 4 (by decide))) b1) ⟨_,oth _ _ (ltg (s1.heap.objs.size + 5) (by simp)) b5⟩ (ltg _ (by simp)) (ltg _ (by simp)) (ltg _ (by simp)) (ltg _ (by simp)) (oth _ _ (Ne.symm (nS 2 (by decide))) (up2 _ _ D.TIz D.TITO D.TIi1 D.TIi2 hti)) (b3.at fun o e=>oth _ _ (Ne.symm (n0 5 (by decide)).symm) e) (b4.at fun o e=>oth _ _ (Ne.symm (nS 1 (by decide))) e) hS2 rfl (Prs.snoc (fun j t e=>by cases e) hix hiy upd_same) fp' fun b hb=>?_
     show b < (g2.update (s1.heap.objs.size + 5) _).objs.size
     have e1 : (g2.update (s1.heap.objs.size + 5) (Obj.mapSeq (·.push (.ref g.objs.size)))).objs.size = g2.objs.size:=(Heap.SameBut.update ..).1
     rw [e1]
     exact Nat.lt_trans (lt b hb) sz2
   rw [hsz]
   exact key
theorem e_lzip {a b : Expr} {t1 t2 : TE} {p p' pos pos' : Pos} (hc : X.calm = true) (hml : X.mg "list" = none) (hm : X.mg "zip" = none) (h1 : QE X a t1) (h2 : QE X b t2) (hgl : X.env.kindOf "list" = some .globalImplicit:=by kernel_rfl) (hg : X.env.kindOf "zip" = some .globalImplicit:=by kernel_rfl)
  (s1 : nostar a = true:=by rfl) (s2 : nostar b = true:=by rfl) : QE X (.Call (.Name "list" p) [.Call (.Name "zip" p') [a,b] [] pos'] [] pos) (tLZip X.K (tCons t1 (tCons t2 tNil))):=⟨pe_lzip hc hgl hml hg hm (pa' h1.h (pa' h2.h pa_nil s2) s1) s1 s2⟩
end
end L2
set_option maxHeartbeats 4000000
namespace EZ
open PySem PySem.Spec PyProof.Rows L2
section
variable {prog : Program} {w : World} {A : Around} {E : Value->Shared->Prop} {s : Shared}
def Nx (prog : Program) (w : World) (A : Around) (i : Addr) (S S' : Heap->Prop) (x : Value) : Prop :=
 ∀ (s : Shared) (Q : Value->Shared->Prop) (E : Value->Shared->Prop),S s.heap->(∀ h',S' h'->Heap.SameBut i s.heap h'->Q x { s with heap:=h' })->wpAny (model prog w) A (Builtin.SmallTypes.nextOf (.ref i)) Q E s
def Nd (prog : Program) (w : World) (A : Around) (i : Addr) (S : Heap->Prop) : Prop :=
 ∀ (s : Shared) (Q : Value->Shared->Prop) (E : Value->Shared->Prop),S s.heap->(∀ h' e,Heap.ExtBut i s.heap h'->(∃ o,h'.get? e = some o/\o.cls = .type "StopIteration")->E (.ref e) { s with heap:=h' })->wpAny (model prog w) A (Builtin.SmallTypes.nextOf (.ref i)) Q E s
def Kp (S : Heap->Prop) (i : Addr) (l : List Addr) : Prop:=∀ h h',S h->(∀ b o,b ∉ l->h.get? b = some o->h'.get? b = some o)->S h'
theorem item {z ti to' i1 i2 : Addr} {S1 S1' S2 S2' : Heap->Prop} {x y a b : Value} {Q : Value->Shared->Prop} (n1 : Nx prog w A i1 S1 S1' x) (n2 : Nx prog w A i2 S2 S2' y)
  (k1 : Kp S1 i1 [z,to',i2]) (k1' : Kp S1' i1 [z,to',i2]) (k2 : Kp S2 i2 [z,to',i1]) (k2' : Kp S2' i2 [z,to',i1])
  (d1 : to' ≠ z) (d2 : i1 ≠ z) (d3 : i2 ≠ z) (d4 : to' ≠ i1) (d5 : to' ≠ i2) (hz : IsZip s.heap z ti to' .none) (hti : IsPair s.heap ti (.ref i1) (.ref i2)) (hto : IsPair s.heap to' a b) (h1 : S1 s.heap) (h2 : S2 s.heap)
  (k : ∀ h',IsZip h' z ti to' (rawInt s.heap.objs.size)->IsPair h' to' x y->S1' h'->S2' h'->IsPair h' s.heap.objs.size x y->(∀ c o,c ≠ z->c ≠ to'->c ≠ i1->c ≠ i2->s.heap.get? c = some o->h'.get? c = some o)->Q (.ref s.heap.objs.size) { s with heap:=h' }) :
  wpAny (model prog w) A (Builtin.«zip.__next__» ⟨[.ref z],[]⟩) (fun fin s'=>∃ v,fin = .done (.ret v)/\Q v s') E s:=by
 show wpAny (model prog w) A (field (.ref z) 2 >>= _) _ E s
 refine wpAny_bind (wpAny_field hz rfl (x:=.bool false) rfl ?_)
 show wpAny (model prog w) A (field (.ref z) 3 >>= _) _ E s
 refine wpAny_bind (wpAny_field hz rfl (x:=.ref ti) rfl (wpAny_bind (wpAny_seqItems hti rfl ?_)))
 show wpAny (model prog w) A (Builtin.SmallTypes.ownedTupleIsFree (.ref z) >>= _) _ E s
 refine wpAny_bind ?_
 unfold Builtin.SmallTypes.ownedTupleIsFree
 refine wpAny_bind (wpAny_field hz rfl (x:=.none) rfl (wpAny_pure ?_))
 rw [if_pos rfl]
 refine wpAny_bind (wpAny_rule (wpAny_bind (wpAny_field hz rfl (x:=.ref to') rfl (wpAny_bind (wpAny_setField_rec hz (by simp) fun g1 z1 e1=>wpAny_bind ?_)))))
 have z1 : IsZip g1 z ti to' .ellipsis:=z1
 have e1 : Heap.SameBut z s.heap g1:=e1
 simp only [List.zipIdx_cons,List.zipIdx_nil,List.forIn_cons,List.forIn_nil]
 refine wpAny_bind (wpAny_bind (wpAny_onRaise ?_))
 show wpAny (model prog w) A (Builtin.SmallTypes.nextOf (.ref i1) >>= _) _ _ _
 refine wpAny_bind (n1 { s with heap:=g1 } _ _ (k1 _ _ h1 fun c o hc q=>e1.extBut _ _ (fun y=>hc (by simp [y])) q) fun g2 f2 e2=>wpAny_pure ?_)
 have e2 : Heap.SameBut i1 g1 g2:=e2
 have t2 : IsPair g2 to' a b:=e2.extBut _ _ d4 (e1.extBut _ _ d1 hto)
 refine wpAny_bind (wpAny_seqItems t2 rfl (wpAny_bind (wpAny_updateSeq_pair (s:={ s with heap:=g2 }) t2 fun g3 t3 e3=>wpAny_bind (wpAny_letGo (wpAny_pure ?_)))))
 have t3 : IsPair g3 to' x b:=t3
 have e3 : Heap.SameBut to' g2 g3:=e3
 refine wpAny_bind (wpAny_bind (wpAny_onRaise ?_))
 show wpAny (model prog w) A (Builtin.SmallTypes.nextOf (.ref i2) >>= _) _ _ _
 refine wpAny_bind (n2 { s with heap:=g3 } _ _ (k2 _ _ h2 fun c o hc q=>e3.extBut _ _ (fun y=>hc (by simp [y])) (e2.extBut _ _ (fun y=>hc (by simp [y])) (e1.extBut _ _ (fun y=>hc (by simp [y])) q))) fun g4 f4 e4=>wpAny_pure ?_)
 have e4 : Heap.SameBut i2 g3 g4:=e4
 have t4 : IsPair g4 to' x b:=e4.extBut _ _ d5 t3
 refine wpAny_bind (wpAny_seqItems t4 rfl (wpAny_bind (wpAny_updateSeq_pair (s:={ s with heap:=g4 }) t4 fun g5 t5 e5=>wpAny_bind (wpAny_letGo (wpAny_pure (wpAny_pure ?_))))))
 have t5 : IsPair g5 to' x y:=t5
 have e5 : Heap.SameBut to' g4 g5:=e5
 refine wpAny_bind (wpAny_seqItems t5 rfl (wpAny_bind (wpAny_newTuple ?_)))
 have sz : g5.objs.size = s.heap.objs.size:=by rw [e5.1,e4.1,e3.1,e2.1,e1.1]
 have z5 : IsZip g5 z ti to' .ellipsis:=e5.extBut _ _ d1.symm (e4.extBut _ _ d3.symm (e3.extBut _ _ d1.symm (e2.extBut _ _ d2.symm z1)))
 show wpAny (model prog w) A (Builtin.SmallTypes.ownedTupleHandOut (.ref z) (.ref g5.objs.size) >>= _) _ _ _
 refine wpAny_bind ?_
 unfold Builtin.SmallTypes.ownedTupleHandOut
 refine wpAny_bind (wpAny_setField_rec (Heap.get?_push_of_some _ z5) (by simp) fun g7 z7 e7=>?_)
 have z7 : IsZip g7 z ti to' (rawInt g5.objs.size):=z7
 refine wpAny_setField_rec z7 (by simp) fun g8 z8 e8=>wpAny_pure ⟨_,rfl,?_⟩
 have z8 : IsZip g8 z ti to' (rawInt g5.objs.size):=z8
 have zl : z < g5.objs.size:=Heap.lt_size z5
 have up : ∀ c o,c ≠ z->(g5.push { cls:=.type "tuple",data:=.seq #[x,y] }).get? c = some o->g8.get? c = some o:=fun c o n q=>e8.extBut _ _ n (e7.extBut _ _ n q)
 have t8 : IsPair g8 g5.objs.size x y:=up _ _ (Nat.ne_of_gt zl) (Heap.get?_push_size _ rfl)
 show Q (.ref g5.objs.size) _
 rw [sz] at z8 t8 ⊢
 refine k g8 z8 (up _ _ d1 (Heap.get?_push_of_some _ t5)) (k1' _ _ f2 fun c o hc q=>?_) (k2' _ _ f4 fun c o hc q=>?_) t8 fun c o c1 c2 c3 c4 q=>?_
 ·exact up _ _ (fun y=>hc (by simp [y])) (Heap.get?_push_of_some _ (e5.extBut _ _ (fun y=>hc (by simp [y])) (e4.extBut _ _ (fun y=>hc (by simp [y])) (e3.extBut _ _ (fun y=>hc (by simp [y])) q))))
 ·exact up _ _ (fun y=>hc (by simp [y])) (Heap.get?_push_of_some _ (e5.extBut _ _ (fun y=>hc (by simp [y])) q))
 ·exact up _ _ c1 (Heap.get?_push_of_some _ (e5.extBut _ _ c2 (e4.extBut _ _ c4 (e3.extBut _ _ c2 (e2.extBut _ _ c3 (e1.extBut _ _ c1 q))))))
theorem fin {z ti to' i1 i2 : Addr} {S1 : Heap->Prop} {a b : Value} {Q : Fin->Shared->Prop} (n1 : Nd prog w A i1 S1) (k1 : Kp S1 i1 [z,to',i2]) (d2 : i1 ≠ z)
  (hz : IsZip s.heap z ti to' .none) (hti : IsPair s.heap ti (.ref i1) (.ref i2)) (h1 : S1 s.heap)
  (k : ∀ h' e,(∀ c o,c ≠ z->c ≠ to'->c ≠ i1->c ≠ i2->s.heap.get? c = some o->h'.get? c = some o)->(∃ o,h'.get? e = some o/\o.cls = .type "StopIteration")->E (.ref e) { s with heap:=h' }) :
  wpAny (model prog w) A (Builtin.«zip.__next__» ⟨[.ref z],[]⟩) Q E s:=by
 show wpAny (model prog w) A (field (.ref z) 2 >>= _) _ E s
 refine wpAny_bind (wpAny_field hz rfl (x:=.bool false) rfl ?_)
 show wpAny (model prog w) A (field (.ref z) 3 >>= _) _ E s
 refine wpAny_bind (wpAny_field hz rfl (x:=.ref ti) rfl (wpAny_bind (wpAny_seqItems hti rfl ?_)))
 show wpAny (model prog w) A (Builtin.SmallTypes.ownedTupleIsFree (.ref z) >>= _) _ E s
 refine wpAny_bind ?_
 unfold Builtin.SmallTypes.ownedTupleIsFree
 refine wpAny_bind (wpAny_field hz rfl (x:=.none) rfl (wpAny_pure ?_))
 rw [if_pos rfl]
 refine wpAny_bind (wpAny_rule (wpAny_bind (wpAny_field hz rfl (x:=.ref to') rfl (wpAny_bind (wpAny_setField_rec hz (by simp) fun g1 z1 e1=>wpAny_bind ?_)))))
 have z1 : IsZip g1 z ti to' .ellipsis:=z1
 have e1 : Heap.SameBut z s.heap g1:=e1
 simp only [List.zipIdx_cons,List.zipIdx_nil,List.forIn_cons,List.forIn_nil]
 refine wpAny_bind (wpAny_bind (wpAny_onRaise ?_))
 show wpAny (model prog w) A (Builtin.SmallTypes.nextOf (.ref i1) >>= _) _ _ _
 refine wpAny_bind (n1 { s with heap:=g1 } _ _ (k1 _ _ h1 fun c o hc q=>e1.extBut _ _ (fun y=>hc (by simp [y])) q) fun g2 e e2 he=>?_)
 have e2 : Heap.ExtBut i1 g1 g2:=e2
 obtain ⟨oe,ho,hc⟩:=he
 have z2 : IsZip g2 z ti to' .ellipsis:=e2 _ _ d2.symm z1
 have ez : e ≠ z:=fun q=>by
  subst q
  have ho : g2.get? e = some oe:=ho
  rw [z2] at ho
  cases ho
  simp at hc
 exact wpAny_setField_rec (s:={ s with heap:=g2 }) z2 (by simp) fun g3 _ e3=>k g3 e (fun c o c1 _ c3 _ q=>e3.extBut _ _ c1 (e2 _ _ c3 (e1.extBut _ _ c1 q))) ⟨oe,e3.extBut _ _ ez ho,hc⟩
end
end EZ
set_option maxHeartbeats 4000000
namespace EZ
open PySem PySem.Spec PyProof.Rows L2
section
variable {prog : Program} {w : World} {A : Around} {E : Value->Shared->Prop} {s : Shared}
def St (i T : Addr) (us : Array Value) (k : Nat) (h : Heap) : Prop:=h.IsTupleIter i T k/\h.IsTuple T us
theorem St.keep {i T : Addr} {us : Array Value} {k : Nat} {h h' : Heap} (st : St i T us k h) (q : ∀ b o,b = i \/ b = T->h.get? b = some o->h'.get? b = some o) : St i T us k h' :=
 ⟨st.1.at fun o e=>q i o (.inl rfl) e,let ⟨o,ho,r⟩:=st.2; ⟨o,q T o (.inr rfl) ho,r⟩⟩
theorem kp {i T : Addr} {us : Array Value} {k : Nat} {l : List Addr} (hi : i ∉ l) (hT : T ∉ l) : Kp (St i T us k) i l:=fun h h' st q=>st.keep fun b o hb e=>q b o (by rcases hb with rfl | rfl; exact hi; exact hT) e
theorem nx {i T : Addr} {us : Array Value} {k : Nat} {v : Value} (ne : T ≠ i) (hv : us[k]? = some v) : Nx prog w A i (St i T us k) (St i T us (k + 1)) v:=fun s Q E st q =>
 ET.next_item st.1 st.2 hv fun h' a b=>q h' ⟨a,st.2.extBut b.extBut ne⟩ b
theorem nd {i T : Addr} {us : Array Value} {k : Nat} (hA : A.handled = none) (hv : us[k]? = none) : Nd prog w A i (St i T us k):=fun s Q E st q=>ET.next_end hA st.1 st.2 hv q
theorem py_item {z ti to' i1 i2 l1 l2 : Addr} {k1 : Nat} {xs ys : Array Value} {x y a b : Value} {Q : Option Value->Shared->Prop} (D : ZipApart z ti to' i1 i2 l1 l2)
  (hz : IsZip s.heap z ti to' .none) (hti : IsPair s.heap ti (.ref i1) (.ref i2)) (hto : IsPair s.heap to' a b) (h1 : St i1 l1 xs k1 s.heap) (h2 : St i2 l2 ys k1 s.heap) (hx : xs[k1]? = some x) (hy : ys[k1]? = some y)
  (k : ∀ h',IsZip h' z ti to' (rawInt s.heap.objs.size)->IsPair h' to' x y->St i1 l1 xs (k1 + 1) h'->St i2 l2 ys (k1 + 1) h'->IsPair h' s.heap.objs.size x y->(∀ c o,c ≠ z->c ≠ to'->c ≠ i1->c ≠ i2->s.heap.get? c = some o->h'.get? c = some o)->Q (some (.ref s.heap.objs.size)) { s with heap:=h' }) :
  wpAny (model prog w) A (pyNext (.ref z)) Q E s:=by
 have hT : s.TypeIs (.ref z) "zip":=⟨_,hz,rfl⟩
 have q1 : i1 ∉ [z,to',i2]:=by simp [D.i1z,D.TOi1.symm,D.i12]
 have q2 : l1 ∉ [z,to',i2]:=by simp [D.l1z,D.l1TO,D.l1i2]
 have q3 : i2 ∉ [z,to',i1]:=by simp [D.i2z,D.TOi2.symm,D.i12.symm]
 have q4 : l2 ∉ [z,to',i1]:=by simp [D.l2z,D.l2TO,D.l2i1]
 unfold pyNext
 exact wpAny_bind (wpAny_attempt (wpAny_callSpecial?_slot (name:=Str.ofString "__next__") hT F.slot_zip_next (wpAny_call_entry F.slot_zip_next hT F.entry_zip_next
  (item (nx D.l1i1 hx) (nx D.l2i2 hy) (kp q1 q2) (kp q1 q2) (kp q3 q4) (kp q3 q4) D.TOz D.i1z D.i2z D.TOi1 D.TOi2 hz hti hto h1 h2 fun h' b1 b2 b3 b4 b5 b6=>wpAny_pure (k h' b1 b2 b3 b4 b5 b6)) (F.args_zip_next_1 _))))
theorem py_end {z ti to' i1 i2 l1 l2 : Addr} {k1 : Nat} {xs : Array Value} {Q : Option Value->Shared->Prop} (hh : A.handled = none) (D : ZipApart z ti to' i1 i2 l1 l2)
  (hz : IsZip s.heap z ti to' .none) (hti : IsPair s.heap ti (.ref i1) (.ref i2)) (h1 : St i1 l1 xs k1 s.heap) (hx : xs[k1]? = none)
  (k : ∀ h',(∀ c o,c ≠ z->c ≠ to'->c ≠ i1->c ≠ i2->s.heap.get? c = some o->h'.get? c = some o)->Q none { s with heap:=h' }) : wpAny (model prog w) A (pyNext (.ref z)) Q E s:=by
 have hT : s.TypeIs (.ref z) "zip":=⟨_,hz,rfl⟩
 have q1 : i1 ∉ [z,to',i2]:=by simp [D.i1z,D.TOi1.symm,D.i12]
 have q2 : l1 ∉ [z,to',i2]:=by simp [D.l1z,D.l1TO,D.l1i2]
 unfold pyNext
 refine wpAny_bind (wpAny_attempt (wpAny_callSpecial?_slot (name:=Str.ofString "__next__") hT F.slot_zip_next (wpAny_call_entry F.slot_zip_next hT F.entry_zip_next
  (fin (a:=.none) (b:=.none) (nd hh hx) (kp q1 q2) D.i1z hz hti h1 fun h' e hk he=>?_) (F.args_zip_next_1 _))))
 obtain ⟨o,ho,hc⟩:=he
 exact wpAny_bind (wpAny_isInstance (T:="StopIteration") (b:=true) ⟨o,ho,hc⟩ isSubtype_stop (wpAny_pure (k _ hk)))
abbrev it1 (h : Heap) (l1 : Addr) : Heap:=h.push { cls:=.type "tuple_iterator",data:=.fields #[.ref l1,.int 0 0] }
abbrev it2 (h : Heap) (l1 l2 : Addr) : Heap:=(it1 h l1).push { cls:=.type "tuple_iterator",data:=.fields #[.ref l2,.int 0 0] }
abbrev pr1 (h : Heap) (l1 l2 : Addr) : Heap:=(it2 h l1 l2).push { cls:=.type "tuple",data:=.seq #[.ref h.objs.size,.ref (it1 h l1).objs.size] }
abbrev pr2 (h : Heap) (l1 l2 : Addr) : Heap:=(pr1 h l1 l2).push { cls:=.type "tuple",data:=.seq #[.none,.none] }
abbrev zp (h : Heap) (l1 l2 : Addr) : Heap:=(pr2 h l1 l2).push { cls:=.type "zip",data:=.fields #[.none,.bool false,.bool false,.ref (it2 h l1 l2).objs.size,.ref (pr1 h l1 l2).objs.size] }
theorem meets_new (l1 l2 : Addr) (xs ys : Array Value) :
  Meets (Builtin.«zip.__new__» ⟨[.type "zip",.ref l1,.ref l2],[]⟩) (fun _ R s=>s.heap.IsTuple l1 xs/\s.heap.IsTuple l2 ys /\
   R (.ok (.ret (.ref (pr2 s.heap l1 l2).objs.size))) { s with heap:=zp s.heap l1 l2 }) :=
 .of_wp fun prog w A R s h=>by
  obtain ⟨hp,g,d,tk,os⟩:=s
  obtain ⟨t1,t2,h⟩:=h
  have hsub:=sub_zip
  have T1 : Heap.IsTuple (Shared.heap ⟨hp,g,d,tk,os⟩) l1 xs:=t1
  have T2 : Heap.IsTuple (Shared.heap ⟨hp.push { cls:=.type "tuple_iterator",data:=.fields #[.ref l1,.int 0 0] },g,d,tk,os⟩) l2 ys:=let ⟨o,ho,r⟩:=t2; ⟨o,Heap.get?_push_of_some _ ho,r⟩
  wp_walk using wpAny_pyIter_tuple T1,wpAny_pyIter_tuple T2
  exact ⟨_,rfl,h⟩
theorem call_new {l1 l2 : Addr} {xs ys : Array Value} {Q : Value->Shared->Prop} (hl1 : s.heap.IsTuple l1 xs) (hl2 : s.heap.IsTuple l2 ys)
  (h : ∀ h',IsZip h' (s.heap.objs.size + 4) (s.heap.objs.size + 2) (s.heap.objs.size + 3) .none->IsPair h' (s.heap.objs.size + 2) (.ref s.heap.objs.size) (.ref (s.heap.objs.size + 1)) ->
   IsPair h' (s.heap.objs.size + 3) .none .none->h'.IsTupleIter s.heap.objs.size l1 0->h'.IsTupleIter (s.heap.objs.size + 1) l2 0->(∀ c o,s.heap.get? c = some o->h'.get? c = some o)->Q (.ref (s.heap.objs.size + 4)) { s with heap:=h' }) :
  wpAny (model prog w) A (call (.type "zip") [.ref l1,.ref l2]) Q E s:=by
 refine callType_new F.called_zip (by decide) (F.typeCall_zip_2 _ _) (F.newCall_zip_2 _ _) (fun obj=>F.args_object_init_3 obj _ _) F.entry_zip_new (meets_new l1 l2 xs ys) ⟨hl1,hl2,?_⟩
 have up : ∀ {h : Heap} {o : Obj} {c : Addr} {u : Obj},h.get? c = some u->(h.push o).get? c = some u:=fun e=>Heap.get?_push_of_some _ e
 have z1 : (it1 s.heap l1).objs.size = s.heap.objs.size + 1:=Heap.size_push ..
 have z2 : (it2 s.heap l1 l2).objs.size = s.heap.objs.size + 2:=(Heap.size_push ..).trans (congrArg (· + 1) z1)
 have z3 : (pr1 s.heap l1 l2).objs.size = s.heap.objs.size + 3:=(Heap.size_push ..).trans (congrArg (· + 1) z2)
 have z4 : (pr2 s.heap l1 l2).objs.size = s.heap.objs.size + 4:=(Heap.size_push ..).trans (congrArg (· + 1) z3)
 have g5 : (zp s.heap l1 l2).get? (pr2 s.heap l1 l2).objs.size = some _:=Heap.get?_push_size _ rfl
 have g4 : (zp s.heap l1 l2).get? (pr1 s.heap l1 l2).objs.size = some _:=up (Heap.get?_push_size _ rfl)
 have g3 : (zp s.heap l1 l2).get? (it2 s.heap l1 l2).objs.size = some _:=up (up (Heap.get?_push_size _ rfl))
 have g2 : (zp s.heap l1 l2).get? (it1 s.heap l1).objs.size = some _:=up (up (up (Heap.get?_push_size _ rfl)))
 have g1 : (zp s.heap l1 l2).get? s.heap.objs.size = some _:=up (up (up (up (Heap.get?_push_size _ rfl))))
 have kp : ∀ c o,s.heap.get? c = some o->(zp s.heap l1 l2).get? c = some o:=fun c o e=>up (up (up (up (up e))))
 show _/\_
 rw [z2,z3,z4] at g5
 rw [z1,z2] at g3
 rw [z3] at g4
 rw [z1] at g2
 rw [z4]
 exact ⟨⟨_,g5,rfl⟩,h _ g5 g3 g4 ⟨_,g1,rfl,rfl⟩ ⟨_,g2,rfl,rfl⟩ kp⟩
end
end EZ
set_option maxHeartbeats 4000000
namespace L2
open PySem PySem.Spec PyProof.Rows
def ItzT (K : PySem.W.Frag) (a b : Addr) : It :=
  ⟨fun i H=>∃ xs ys x y,SqT K H a xs/\SqT K H b ys/\xs[i]? = some x/\ys[i]? = some y,
   fun i H x H'=>∃ p v w,x = .ref p/\H p = none/\H' = upd H p (.tup [v,w])/\(∀ xs,SqT K H a xs->xs[i]? = some v)/\(∀ ys,SqT K H b ys->ys[i]? = some w),
   fun i H=>∃ xs ys,SqT K H a xs/\SqT K H b ys/\xs.length <= i⟩
theorem turn_zipT {P : Program} {w : World} {K : PySem.W.Frag} {elts : List Expr} {x1} {pos : Pos} (a b z TI TO i1 i2 : Addr) (D : ZipApart z TI TO i1 i2 a b) :
  Turn P w K (.Tuple elts x1 pos) (ItzT K a b) [z,TI,TO,i1,i2] z (fun i h=>IsZip h z TI TO .none/\IsPair h TI (.ref i1) (.ref i2)/\(∃ u v,IsPair h TO u v)/\h.IsTupleIter i1 a i/\h.IsTupleIter i2 b i) where
 mem:=by simp
 obj:=fun i h st c hc=>by
  obtain ⟨hz,hTI,⟨u,v,hTO⟩,⟨o1,e1,c1,d1⟩,⟨o2,e2,c2,d2⟩⟩:=st
  have hc' : c = z \/ c = TI \/ c = TO \/ c = i1 \/ c = i2:=by simpa using hc
  rcases hc' with rfl | rfl | rfl | rfl | rfl
  ·exact ⟨_,hz,fun v z=>by
    have z' : Data.fields _ = Data.cell v:=z
    cases z'⟩
  ·exact ⟨_,hTI,fun v z=>by
    have z' : Data.seq _ _ = Data.cell v:=z
    cases z'⟩
  ·exact ⟨_,hTO,fun v z=>by
    have z' : Data.seq _ _ = Data.cell v:=z
    cases z'⟩
  ·exact ⟨o1,e1,fun v z=>by rw [d1] at z; cases z⟩
  ·exact ⟨o2,e2,fun v z=>by rw [d2] at z; cases z⟩
 keep:=fun i h h' st k=>by
  obtain ⟨hz,hTI,⟨u,v,hTO⟩,h1,h2⟩:=st
  exact ⟨k z (by simp) _ hz,k TI (by simp) _ hTI,⟨u,v,k TO (by simp) _ hTO⟩,h1.at fun o q=>k i1 (by simp) o q,h2.at fun o q=>k i2 (by simp) o q⟩
 item:=by
  intro X hP hw hK hc i pins s σ H E I hf st hg
  subst hP hw hK
  obtain ⟨xs,ys,x,y,hq1,hq2,hx,hy⟩:=hg
  obtain ⟨hz,hTI,⟨u0,v0,hTO⟩,h1,h2⟩:=st
  obtain ⟨its1,rv1,p1,hz1⟩:=I.tuple hq1
  obtain ⟨its2,rv2,p2,hz2⟩:=I.tuple hq2
  obtain ⟨u,hu,ru⟩:=rv1.get hx
  obtain ⟨v,hv,rv⟩:=rv2.get hy
  refine EZ.py_item (xs:=its1.toArray) (ys:=its2.toArray) D hz hTI hTO ⟨h1,p1⟩ ⟨h2,p2⟩ (x:=u) (y:=v) (by simpa using hu) (by simpa using hv) fun g1 a1 a2 a3 a4 a5 hk=>?_
  refine ⟨_,rfl,wpAny_letOwnedTupleGo_zip (s:={ s with heap:=g1 }) a1 fun g2 hz2' hs2=>?_⟩
  have hs2' : Heap.SameBut z g1 g2:=hs2
  have nH : H s.heap.objs.size = none:=I.hok.fresh (Nat.le_refl _)
  have lt : ∀ c ∈ [z,TI,TO,i1,i2],c < s.heap.objs.size:=fun c hc=>by
   have hc' : c = z \/ c = TI \/ c = TO \/ c = i1 \/ c = i2:=by simpa using hc
   rcases hc' with rfl | rfl | rfl | rfl | rfl
   ·exact Heap.lt_size hz
   ·exact Heap.lt_size hTI
   ·exact Heap.lt_size hTO
   ·obtain ⟨o,e,_⟩:=id h1; exact Heap.lt_size e
   ·obtain ⟨o,e,_⟩:=id h2; exact Heap.lt_size e
  have ht2 : g2.get? s.heap.objs.size = some { cls:=.type "tuple",data:=.seq #[u,v] }:=(hs2'.2 _ (Nat.ne_of_gt (lt z (by simp)))).trans a5
  have pg : (s.heap.push { cls:=.type "tuple",data:=.seq #[u,v] }).get? s.heap.objs.size = some { cls:=.type "tuple",data:=.seq #[u,v] }:=Heap.get?_push_size _ rfl
  have J1:=I.laid (a:=s.heap.objs.size) (o:=.tup [x,y]) (h':=s.heap.push { cls:=.type "tuple",data:=.seq #[u,v] }) (t':=s.toks) (fun b v z=>Heap.get?_push_of_some _ z) (Nat.le_refl _)
   ⟨(by show 2 <= sizeLine; decide),[u,v],.cons ru (.cons rv .nil),⟨_,pg,rfl,_,rfl⟩⟩
  have fp' : ∀ c ∈ [z,TI,TO,i1,i2],FpOk X pins (upd H s.heap.objs.size (.tup [x,y])) c:=fun c hc=>by
   obtain ⟨f0,f1,f2,f3,f4,f5⟩:=hf c hc
   refine ⟨?_,f1,f2,f3,f4,f5⟩
   rw [upd_ne (Nat.ne_of_lt (lt c hc))]
   exact f0
  have J2:=J1.turnedL (h':=g2) (t':=s.toks) (ch:=[z,TI,TO,i1,i2]) (fun c o hc zz=>by
   have n1 : c ≠ z:=fun y=>hc (by simp [y])
   have n2 : c ≠ TO:=fun y=>hc (by simp [y])
   have n3 : c ≠ i1:=fun y=>hc (by simp [y])
   have n4 : c ≠ i2:=fun y=>hc (by simp [y])
   by_cases hp : c = s.heap.objs.size
   ·subst hp
    have z' : s.heap.objs.size = s.heap.objs.size->(s.heap.push { cls:=.type "tuple",data:=.seq #[u,v] }).get? s.heap.objs.size = some o:=fun _=>zz
    rw [pg] at z'
    have:=z' rfl
    cases this
    exact ht2
   ·have z2 : s.heap.get? c = some o:=get_push_ne zz hp
    exact (hs2'.2 c n1).trans (hk c o n1 n2 n3 n4 z2)) fp'
  refine ⟨.ref s.heap.objs.size,_,J2,rfl,⟨_,x,y,rfl,nH,rfl,fun l hl=>by rw [I.tuple_inj hl hq1]; exact hx,fun l hl=>by rw [I.tuple_inj hl hq2]; exact hy⟩,⟨hz2',?_,⟨u,v,?_⟩,?_,?_⟩,fun c hc=>(fp' c hc).1⟩
  ·exact (hs2'.2 _ D.TIz).trans (hk _ _ D.TIz D.TITO D.TIi1 D.TIi2 hTI)
  ·exact (hs2'.2 _ D.TOz).trans a2
  ·exact a3.1.at fun o q=>(hs2'.2 _ D.i1z).trans q
  ·exact a4.1.at fun o q=>(hs2'.2 _ D.i2z).trans q
 done:=by
  intro X hP hw hK hc i pins s σ H E I hf st hg
  subst hP hw hK
  obtain ⟨xs,ys,hq1,hq2,hx⟩:=hg
  obtain ⟨hz,hTI,⟨u0,v0,hTO⟩,h1,h2⟩:=st
  obtain ⟨its1,rv1,p1,hz1⟩:=I.tuple hq1
  obtain ⟨its2,rv2,p2,hz2⟩:=I.tuple hq2
  have hl1:=rv1.length
  exact EZ.py_end (xs:=its1.toArray) (I.ok.hd hc) D hz hTI ⟨h1,p1⟩ (by simp; omega) fun h' eb=>⟨rfl,I.turnedL (t':=s.toks) (ch:=[z,TI,TO,i1,i2]) (fun c o hc zz=>eb c o (fun y=>hc (by simp [y])) (fun y=>hc (by simp [y])) (fun y=>hc (by simp [y])) (fun y=>hc (by simp [y])) zz) hf⟩
 self:=fun _ _ _ _ _ st h=>by
  obtain ⟨hz,_⟩:=st
  exact wpAny_pyIter_zip hz h
def iZipT (K : PySem.W.Frag) (ta : TA) : TI:=fun σ H R=>ta σ H fun vs H1=>∃ a b,vs = [.ref a,.ref b]/\(∃ xs,SqT K H1 a xs)/\(∃ ys,SqT K H1 b ys)/\R (ItzT K a b) H1
section
variable {X : Cx}
theorem pi_zipT {elts : List Expr} {x1} {tpos p pos : Pos} {a b : Expr} {ta : TA} (hg : Gl X "zip") (hm : X.mg "zip" = none) (hbt : bootBuiltins "zip" = some (.type "zip")) (ha : PA X [a,b] ta) (h1 : nostar a = true) (h2 : nostar b = true) :
  PI X (.Tuple elts x1 tpos) (.Call (.Name "zip" p) [a,b] [] pos) (iZipT X.K ta):=by
 intro pins s σ H R I h
 refine Call_ (ld_blt I hg hm hbt (PyProof.Rows.callWith_type1 (thn (ha pos pins s σ H _ I h) fun us s1 ⟨vs,H1,I1,r1,q1⟩=>?_) (star_plain h1) (any_plain (by simp [h2]))))
 obtain ⟨a,b,rfl,⟨xs,hq1⟩,⟨ys,hq2⟩,q⟩:=q1
 cases r1 with
 | cons r rr =>
  cases rr with
  | cons r' rr =>
   cases rr
   cases r
   cases r'
   obtain ⟨its1,rv1,p1,hz1⟩:=I1.tuple hq1
   obtain ⟨its2,rv2,p2,hz2⟩:=I1.tuple hq2
   refine EZ.call_new (show s1.heap.IsTuple a its1.toArray from p1) (show s1.heap.IsTuple b its2.toArray from p2) fun h' he hTI hTO hi1 hi2 hk=>?_
   refine wpAny_pyIter_zip he ?_
   have I2 : Inv X pins σ H1 { s1 with heap:=h' }:=I1.kept (t':=s1.toks) hk
   have la : a < s1.heap.objs.size:=by obtain ⟨o,e,_⟩:=p1; exact Heap.lt_size e
   have lb : b < s1.heap.objs.size:=by obtain ⟨o,e,_⟩:=p2; exact Heap.lt_size e
   have up : ∀ (m k : Nat),m < s1.heap.objs.size->m ≠ s1.heap.objs.size + k:=fun m k h=>Nat.ne_of_lt (Nat.lt_of_lt_of_le h (Nat.le_add_right _ k))
   have nk : ∀ j k : Nat,j ≠ k->s1.heap.objs.size + j ≠ s1.heap.objs.size + k:=fun j k h z=>h (Nat.add_left_cancel z)
   have n0 : ∀ k : Nat,0 ≠ k->s1.heap.objs.size ≠ s1.heap.objs.size + k:=fun k h z=>nk 0 k h z
   have D : ZipApart (s1.heap.objs.size + 4) (s1.heap.objs.size + 2) (s1.heap.objs.size + 3) s1.heap.objs.size (s1.heap.objs.size + 1) a b :=
    ⟨nk 2 4 (by decide),nk 3 4 (by decide),n0 4 (by decide),nk 1 4 (by decide),nk 2 3 (by decide),(n0 2 (by decide)).symm,nk 2 1 (by decide),(n0 3 (by decide)).symm,nk 3 1 (by decide),n0 1 (by decide),up a 4 la,up a 3 la,Nat.ne_of_lt la,up a 1 la,up b 4 lb,up b 3 lb,Nat.ne_of_lt lb,up b 1 lb⟩
   refine ⟨s1.heap.objs.size + 4,[s1.heap.objs.size + 4,s1.heap.objs.size + 2,s1.heap.objs.size + 3,s1.heap.objs.size,s1.heap.objs.size + 1],_,_,H1,rfl,I2,turn_zipT a b _ _ _ _ _ D,⟨he,hTI,⟨_,_,hTO⟩,hi1,hi2⟩,fun c hc=>?_,q⟩
   have hc' : s1.heap.objs.size <= c:=by
    have hc'' : c = s1.heap.objs.size + 4 \/ c = s1.heap.objs.size + 2 \/ c = s1.heap.objs.size + 3 \/ c = s1.heap.objs.size \/ c = s1.heap.objs.size + 1:=by simpa using hc
    rcases hc'' with rfl | rfl | rfl | rfl | rfl
    ·exact Nat.le_add_right _ 4
    ·exact Nat.le_add_right _ 2
    ·exact Nat.le_add_right _ 3
    ·exact Nat.le_refl _
    ·exact Nat.le_add_right _ 1
   exact I1.fpOk hc' (I1.hok.fresh hc')
theorem i_zipT {elts : List Expr} {x1} {tpos p pos : Pos} {a b : Expr} {t u : TE} (hm : X.mg "zip" = none) (ha : QE X a t) (hb : QE X b u) (hg : X.env.kindOf "zip" = some .globalImplicit:=by kernel_rfl) (h1 : nostar a = true:=by rfl) (h2 : nostar b = true:=by rfl) :
  QI X (.Tuple elts x1 tpos) (.Call (.Name "zip" p) [a,b] [] pos) (iZipT X.K (tCons t (tCons u tNil))):=⟨pi_zipT hg hm (by decide +kernel) (pa' ha.h (pa' hb.h pa_nil h2) h1) h1 h2⟩
end
theorem compT_zipT {K : PySem.W.Frag} {a b : Addr} {n : Nat} {xs ys : List V} {H : Hp} {cap : St} {g : TG} {te : TE} {Q : VK} (v : V) (hS : SqT K H a xs) (hS' : SqT K H b ys) (hl : xs.length = ys.length) (hn : xs.length <= sizeLine)
  (el : ∀ (i : Nat) x y H' p (xo : St) (P : VK),xo.length = n->Same H H'->xs[i]? = some x->ys[i]? = some y->H' p = none->(∀ H'',Same H' H''->P v H'')->g (.ref p) (xo ++ cap) (upd H' p (.tup [x,y])) fun σ6 H6=>(∃ xo' : St,xo'.length = n/\σ6 = xo' ++ cap)/\te σ6 H6 P)
  (fin : ∀ D H',Same H H'->H D = none->H' D = some (.lst (List.replicate xs.length v))->Q (.ref D) H') : CompedT (ItzT K a b) n cap g te Q H:=by
 intro D hD
 refine ⟨fun i m zs H2=>m = xs.length - i/\i <= xs.length/\zs = List.replicate i v/\H2 D = some (.lst zs)/\Same H H2,⟨xs.length,rfl,Nat.zero_le _,rfl,upd_same,Same.new hD _⟩,?_⟩
 rintro i m zs H2 ⟨rfl,hi,hz,hDz,hSm⟩
 refine ⟨hDz,?_⟩
 by_cases h : i < xs.length
 ·refine .inr ⟨⟨xs,ys,xs[i],ys[i]'(by omega),hSm.seqT hS,hSm.seqT hS',List.getElem?_eq_getElem h,List.getElem?_eq_getElem (by omega)⟩,?_⟩
  rintro x H3 xo hxo ⟨p,u,w,rfl,hp,rfl,y1,y2⟩
  refine el i u w H2 p xo _ hxo hSm (y1 xs (hSm.seqT hS)) (y2 ys (hSm.seqT hS')) hp fun H4 hS4=>⟨hS4 _ _ hDz,by rw [hz,List.length_replicate]; omega,xs.length - (i + 1),by omega,rfl,h,?_,upd_same,fun b u q=>?_⟩
  ·rw [hz,List.replicate_succ']
  ·rw [upd_ne (ne_of_none q hD)]
   exact hS4 _ _ (hSm _ _ q)
 ·have e : i = xs.length:=by omega
  subst e
  refine .inl ⟨⟨xs,ys,hSm.seqT hS,hSm.seqT hS',Nat.le_refl _⟩,fin D H2 hSm hD ?_⟩
  rw [hDz,hz]
end L2
namespace Hd
open PySem PySem.W PyProof.Rows
def run (tb : String->Option Builtin) (p : Program) (w : World) (m : Nat) (ann : Option Value) : Nat->SharedT->Thread->Option SharedT
 | 0,_,_=>none
 | n + 1,s,t=>match through t with
  | true=>some s
  | false=>match stepOk m ann t with
   | false=>none
   | true=>match stepT (denote tb) p w s t with
    | none=>none
    | some x=>run tb p w m ann n x.1 x.2
theorem run_of {tb : String->Option Builtin} {p : Program} {w : World} {m : Nat} {ann : Option Value} {r : SharedT} :
  ∀ (n : Nat) (s : SharedT) (t : Thread),run tb p w m ann n s t = some r->topRun tb p w m ann n s.abs t = some r.abs:=by
 intro n
 induction n with
 | zero=>intro s t h; cases h
 | succ n ih =>
  intro s t h
  simp only [run] at h
  simp only [topRun]
  cases a : through t
  ·simp only [a] at h ⊢
   cases b : stepOk m ann t
   ·simp only [b] at h; cases h
   ·simp only [b] at h ⊢
    cases c : stepT (denote tb) p w s t with
    | none=>simp only [c] at h; cases h
    | some x =>
     simp only [c] at h
     rw [stepT_spec (s':=x.1) (t':=x.2) c]
     exact ih _ _ h
  ·simp only [a] at h ⊢
   cases h; rfl
noncomputable def bt (P : Params) : BT :=
 .node (boot_o_0 P)
  (.node (boot_o_1 P) (.node (boot_o_3 P) (.node (boot_o_7 P) .nil .nil) .nil) (.node (boot_o_5 P) (.node (boot_o_9 P) .nil .nil) .nil))
  (.node (boot_o_2 P) (.node (boot_o_4 P) (.node (boot_o_8 P) .nil .nil) .nil) (.node (boot_o_6 P) (.node (boot_o_10 P) .nil .nil) .nil))
theorem boot_size (w : World) : ((boot_heap w.params).isNs mainGlobals && (#[] : Array GenState).size == 0,(boot_heap w.params).objs.size,(boot_heap w.params).nsMap mainGlobals "__annotations__") = (true,11,some (.ref 6)):=by kernel_rfl
noncomputable def tests (p : Program) (w : World) (s : Shared) : Bool :=
 staticsOk (importedModules p.main.body) (boot_heap w.params) s.heap && namesBound p s.heap && gensDone s && laidKept (boot_heap w.params) s.heap
noncomputable def look (p q : Program) (loose : List Str) (Xt : Shared->Bool) (N : Nat) (w : World) (os : OsState) :=
 (run treeTable p w 11 (some (.ref 6)) N ⟨bt w.params,11,(boot_heap w.params).life,#[],boot_drawn,boot_toks,os⟩ (topStub p)).map fun s =>
  (tests p w s.abs,openSeen q loose (importedModules p.main.body) Xt true s.abs,s.abs)
theorem left_of {p q : Program} {loose : List Str} {Xt : Shared->Bool} {α : Type} {Yf : Shared->α} {Ya : World->α} {N : Nat}
  (e : opening p = plainProg p.main.scope.names) (hN : Nat.ble 600 N = true) (f : ∀ s,fenceModules? p s = some s)
  (h : ∀ w,(fun os=>(look p q loose Xt N w os).map fun x=>(x.1,x.2.1,Yf x.2.2)) = fun _=>some (true,openGood q loose,Ya w)) : LeftO p q loose Xt Yf Ya N true:=by
 intro w
 have o:=boot_open e hN f w
 obtain ⟨⟨hp,gs,d,k,os⟩,e1,e2⟩:=Option.map_eq_some_iff.mp o
 simp only [Prod.mk.injEq] at e2
 obtain ⟨rfl,rfl,rfl,rfl⟩:=e2
 have z:=boot_size w
 simp only [Prod.mk.injEq] at z
 obtain ⟨z1,z2,z3⟩:=z
 obtain ⟨x,l1,l2⟩:=Option.map_eq_some_iff.mp (congrFun (h w) os)
 unfold look at l1
 obtain ⟨s,r,rfl⟩:=Option.map_eq_some_iff.mp l1
 simp only [Prod.mk.injEq] at l2
 obtain ⟨t1,t2,t3⟩:=l2
 have R:=run_of _ _ _ r
 have E : SharedT.abs ⟨bt w.params,11,(boot_heap w.params).life,#[],boot_drawn,boot_toks,os⟩ = ⟨boot_heap w.params,#[],boot_drawn,boot_toks,os⟩:=rfl
 rw [E] at R
 have T : topFrom treeTable p w N ⟨boot_heap w.params,#[],boot_drawn,boot_toks,os⟩ = some s.abs:=by
  unfold topFrom
  simp only [z1,z2,z3,R,Option.bind_some]
  unfold tests at t1
  simp only [t1]
 show (openEnds treeTable p w N).map _ = _
 unfold openEnds
 rw [e1]
 simp only [Option.bind_some,T,Option.map_some,t2,t3]
def yes {α β : Type} (_ : α) (_ : β) : Bool:=true
theorem left_tw {p q : Program} {loose : List Str} {Xt : Shared->Bool} {α : Type} {Yf : Shared->α} {Ya : World->α} {N : Nat} {L : World->OsState->Option _} {g : _}
  (hl : look p q loose Xt N = L) (hg : openGood q loose = g) (e : opening p = plainProg p.main.scope.names) (hN : Nat.ble 600 N = true) (f : ∀ s,fenceModules? p s = some s)
  (h : ∀ w,(fun os=>(L w os).map fun x=>(x.1,x.2.1,Yf x.2.2)) = fun _=>some (true,g,Ya w)) : LeftO p q loose Xt Yf Ya N true:=by
 subst hl hg
 exact left_of e hN f h
end Hd
set_option maxHeartbeats 1000000
namespace K38
open PySem L2 G
def top (i : Nat) : Stmt:=PySem.Challenge.pw_leadersplice_k38_whole_same_numbers.main.body.getD i (.Pass ⟨0,0,0,0⟩)
abbrev s_NoFrame_init : Stmt:=inClass (top 2) 0
abbrev s_NoName_init : Stmt:=inClass (top 3) 0
abbrev s_TooShort_init : Stmt:=inClass (top 6) 0
abbrev s_is_whole : Stmt:=top 8
abbrev s_reel_named : Stmt:=top 14
abbrev s_has_frame : Stmt:=top 15
abbrev s_bears : Stmt:=top 16
abbrev s_key_of : Stmt:=top 17
abbrev s_frame_of : Stmt:=top 18
abbrev s_brought_over : Stmt:=top 20
abbrev s_over_items : Stmt:=top 21
abbrev s_over_clip : Stmt:=top 22
abbrev s_sound : Stmt:=top 24
abbrev s_look_through : Stmt:=top 25
abbrev s_look_at_clip : Stmt:=top 26
abbrev s_look_at_fade : Stmt:=top 27
abbrev s_is_fade : Stmt:=top 28
abbrev s_look_at_part : Stmt:=top 29
abbrev s_played : Stmt:=top 33
abbrev s_clips_of : Stmt:=top 34
abbrev s_clips_of_item : Stmt:=top 35
abbrev s_faded_in : Stmt:=top 36
abbrev s_backwards : Stmt:=top 37
abbrev s_frames_in : Stmt:=top 38
abbrev s_refuse_film : Stmt:=top 39
abbrev s_refuse_many : Stmt:=top 40
abbrev s_refuse_short : Stmt:=top 41
abbrev s_way_of : Stmt:=top 43
abbrev s_numbers_of : Stmt:=top 44
abbrev s_shown : Stmt:=top 45
abbrev s_show_clip : Stmt:=top 46
abbrev s_faded : Stmt:=top 47
abbrev s__law_cell : Stmt:=top 49
abbrev s__law_numbers : Stmt:=top 50
abbrev s__law_pair : Stmt:=top 51
abbrev s__law_inner : Stmt:=top 52
abbrev s__law_item : Stmt:=top 53
abbrev s__law_list : Stmt:=top 54
abbrev s__law_parts : Stmt:=top 55
abbrev s__law_over : Stmt:=top 56
abbrev s__law_played : Stmt:=top 57
abbrev s__law_name : Stmt:=top 58
abbrev s__law_alike : Stmt:=top 59
abbrev s__law_ends : Stmt:=top 60
abbrev s_law : Stmt:=top 61
theorem raised1 {H H1 : Hp} {a dx : Addr} {o x o' : HO} (s1 : Same H H1) (ha : H1 a = none) (hdx : upd H1 a o dx = none) (hne : dx ≠ a) : Same H (del (upd (upd (upd H1 a o) dx x) a o') a)/\del (upd (upd (upd H1 a o) dx x) a o') a dx = some x:=by
 refine ⟨Same.del ?_ (s1.free ha),by rw [del_ne hne,upd_ne hne]; exact upd_same⟩
 intro b o hb
 have hb1:=s1 _ _ hb
 rw [upd_ne (ne_of_none hb1 ha),upd_ne,upd_ne (ne_of_none hb1 ha)]
 ·exact hb1
 ·intro z
  subst z
  rw [upd_ne hne,hb1] at hdx
  cases hdx
theorem get_int {ns : List Int} {j : Nat} (h : j < ns.length) : (ns.map V.int)[j]? = some (.int ns[j]):=by rw [List.getElem?_map,List.getElem?_eq_getElem h]; rfl
section
variable {P : Program} {w : World} {K : PySem.W.Frag} {mg : Str->Option Value} {base : Heap}
def cellOf (ns : List Int) (k : Nat) : Int:=ns.getD k 0
def spCell (K : PySem.W.Frag) : Sp:=fun vs H Q _=>∃ (a : Addr) (ns : List Int) (k : Nat),vs = [.ref a,.int (k : Int)]/\SqL K H a (ns.map V.int)/\Q (.int (cellOf ns k)) H
theorem scCell : FnScope ["_law_script", "_law_k"] ["_law_script", "_law_k"] (defScope s__law_cell):=⟨rfl,rfl,rfl,by decide +kernel,rfl,by decide +kernel,by decide +kernel⟩
theorem ok_cell {f : Addr} {fd : FuncData} (F : Fun K "_law_cell" "_law_cell" s__law_cell f fd) (n_len : mg "len" = none) : FnOk P w K mg base CX0 1 f fd ["_law_script", "_law_k"] (spCell K):=by
 refine F.ok scCell (fun vs H Q E h=>?_) (fun cdv A outer s H vs Q E hr h=>?_)
 ·obtain ⟨a,ns,k,rfl,_⟩:=h
  rfl
 obtain ⟨a,ns,k,rfl,hS,q⟩:=h
 refine useQ (ss_cons (s_if (t_cmp op_lt (e_v 1) (e_b call_len_seq n_len PySem.boot_len (a_cons (e_v 0) a_nil)))
   (ss_one (s_ret (e_ix ix_list (e_v 0) (e_v 1))))
   ss_nil)
  (ss_one (s_ret e_int))) ?_
 refine ⟨_,rfl,_,rfl,a,_,rfl,.inl hS,_,_,rfl,rfl,_,rfl,?_⟩
 refine ite2 (fun z=>?_) (fun z=>?_)
 ·have z:=of_decide_eq_true z
  rw [List.length_map] at z
  have hk : k < ns.length:=by omega
  have e : cellOf ns k = ns[k]:=by
   unfold cellOf
   rw [List.getD_eq_getElem?_getD,List.getElem?_eq_getElem hk]
   rfl
  rw [e] at q
  exact ⟨_,rfl,_,rfl,a,_,_,_,rfl,rfl,hS,atI_nat (j:=k) (get_int hk),q⟩
 ·have z : ¬ ((k : Int) < (((ns.map V.int).length : Nat) : Int)):=fun y=>z (decide_eq_true y)
  rw [List.length_map] at z
  have e : cellOf ns k = 0:=by
   unfold cellOf
   rw [List.getD_eq_getElem?_getD,List.getElem?_eq_none (by omega)]
   rfl
  rw [e] at q
  exact q
def spNum : Sp:=fun vs H Q _=>∃ (c : Int) (n : Nat),vs = [.int c,.int (n : Int)]/\n <= 1000/\∀ (l : Addr) (ns : List Int) (H' : Hp),Same H H'->ns.length = n->H l = none->H' l = some (.lst (ns.map V.int))->Q (.ref l) H'
theorem scNum : FnScope ["_law_cell_here", "_law_many", "_law_found", "_law_number", "_law_digits", "_law_k"] ["_law_cell_here", "_law_many"] (defScope s__law_numbers):=⟨rfl,rfl,rfl,by decide +kernel,rfl,by decide +kernel,by decide +kernel⟩
theorem ok_num {f : Addr} {fd : FuncData} (F : Fun K "_law_numbers" "_law_numbers" s__law_numbers f fd) (n_abs : mg "abs" = none) (n_range : mg "range" = none) (n_int : mg "int" = none) : FnOk P w K mg base CX0 1 f fd ["_law_cell_here", "_law_many"] spNum:=by
 refine F.ok scNum (fun vs H Q E h=>?_) (fun cdv A outer s H vs Q E hr h=>?_)
 ·obtain ⟨c,n,rfl,_⟩:=h
  rfl
 obtain ⟨c,n,rfl,hn,q⟩:=h
 refine useQ (ss_cons (s_set (i:=2) scNum.nd (e_lst a_nil))
  (ss_cons (s_set (i:=3) scNum.nd (e_op op_mod (e_op op_mul (e_op op_add (e_op op_mod (e_v 0) e_int) e_int) e_int) e_int))
  (ss_cons (s_set (i:=4) scNum.nd e_int)
  (ss_cons (s_cut (s_if (t_w (w_or (t_cmp op_lt (e_v 0) e_int) (w_or1 (t_cmp op_ge (e_v 0) (e_op op_pow e_int e_int)))))
   (ss_one (s_set (i:=4) scNum.nd (e_b call_abs n_abs (by decide +kernel) (a_cons (e_v 0) a_nil))))
   ss_nil))
  (ss_cons (s_for PassesOwn.never rfl (i_rng1 n_range (e_v 1)) (g_name (i:=5) scNum.nd)
   (ss_cons (s_set (i:=3) scNum.nd (e_op op_mod (e_op op_add (e_op op_add (e_op op_mul (e_v 3) (e_op op_add (e_op op_mod (e_v 3) e_int) e_int)) (e_op op_mul e_int (e_v 5))) e_int) e_int))
   (ss_cons (s_expr (e_append (e_v 2) (e_ix ix_list (e_lst (a_cons (e_v 3) (a_cons (e_op op_mod (e_v 4) e_int) a_nil))) (e_t call_int1 n_int PyProof.Rows.boot_int (a_cons (e_cmp op_gt (e_v 4) e_int) a_nil)))))
   (ss_one (s_set (i:=4) scNum.nd (e_op op_fdiv (e_v 4) e_int))))))
  (ss_one (s_ret (e_v 2)))))))) ?_
 have zl : sizeLine = 16777216:=sizeLine_eq
 refine ⟨(by show 0 <= sizeLine; decide),fun p hp=>?_⟩
 refine ⟨_,rfl,_,_,rfl,rfl,(by show (0 : Int) < 1999999973; decide),_,_,rfl,rfl,_,_,rfl,rfl,.inr ⟨by decide,by decide⟩,_,_,rfl,rfl,(by show (0 : Int) < 1999999973; decide),?_⟩
 refine ⟨fun σ' H'=>∃ a d : Int,σ' = [some (.int c),some (.int (n : Int)),some (.ref p),some (.int a),some (.int d),none]/\0 <= a/\a < 1999999973/\H' = upd H p (.lst []),?_,?_⟩
 ·have b1 : 0 <= (c % 1999999973 + 31) * 765432101 % 1999999973:=by omega
  have b2 : (c % 1999999973 + 31) * 765432101 % 1999999973 < 1999999973:=by omega
  refine ⟨_,rfl,_,_,rfl,rfl,_,rfl,?_⟩
  refine ite2 (fun _=>?_) (fun _=>?_)
  ·exact iteT ⟨_,rfl,_,rfl,_,_,rfl,b1,b2,rfl⟩
  ·refine ⟨_,rfl,_,_,rfl,rfl,⟨by decide,by decide,by decide⟩,_,_,rfl,rfl,_,rfl,?_⟩
   refine ite2 (fun _=>?_) (fun _=>?_)
   ·exact ⟨_,rfl,_,rfl,_,_,rfl,b1,b2,rfl⟩
   ·exact ⟨_,_,rfl,b1,b2,rfl⟩
 rintro σ H1 ⟨a,d,rfl,h1,h2,rfl⟩
 refine ⟨_,rfl,(n : Int),rfl,by omega,by omega,for_range (lo:=0) (n:=n) (fun i σ H'=>∃ (a d : Int) (ns : List Int) (o : Option V),σ = [some (.int c),some (.int (n : Int)),some (.ref p),some (.int a),some (.int d),o]/\0 <= a/\a < 1999999973/\ns.length = i/\H' p = some (.lst (ns.map V.int))/\Same H H')
  ⟨a,d,[],none,rfl,h1,h2,rfl,upd_same,Same.new hp _⟩ ?_ ?_⟩
 ·rintro i σ H' hi ⟨a,d,ns,o,rfl,h1,h2,hl,hpp,hS⟩
  refine ⟨_,rfl,_,rfl,_,_,rfl,rfl,(by show (0 : Int) < 65521; decide),_,_,rfl,rfl,_,_,rfl,rfl,.inl ⟨by omega,by omega⟩,_,rfl,_,_,rfl,rfl,.inl ⟨by decide,by decide⟩,_,_,rfl,rfl,_,_,rfl,rfl,_,_,rfl,rfl,(by show (0 : Int) < 1999999973; decide),?_⟩
  have z1 : 0 <= (a * (a % 65521 + 40487) + 7 * (0 + (i : Int)) + 5) % 1999999973:=Int.emod_nonneg _ (by decide)
  have z2 : (a * (a % 65521 + 40487) + 7 * (0 + (i : Int)) + 5) % 1999999973 < 1999999973:=Int.emod_lt_of_pos _ (by decide)
  obtain ⟨v,hv,hm⟩:=at_list (xs:=[V.int ((a * (a % 65521 + 40487) + 7 * (0 + (i : Int)) + 5) % 1999999973),.int (d % 1000000)]) (i:=if decide (0 < d) = true then 1 else 0) (by split <;> decide) (by split <;> (show _ < (2 : Int); decide))
  obtain ⟨u,rfl⟩ : ∃ u,v = .int u:=by
   simp only [List.mem_cons,List.not_mem_nil,or_false] at hm
   rcases hm with rfl | rfl
   ·exact ⟨_,rfl⟩
   ·exact ⟨_,rfl⟩
  refine ⟨_,rfl,.inl ⟨rfl,_,SqL.of hpp⟩,_,rfl,_,rfl,_,_,rfl,rfl,(by show (0 : Int) < 1000000; decide),(by show 2 <= sizeLine; decide),fun p2 hp2=>⟨_,rfl,_,_,rfl,rfl,.inr ⟨_,rfl,p2,_,_,.int u,rfl,rfl,SqL.of upd_same,hv,p,_,_,rfl,rfl,Same.new hp2 _ _ _ hpp,(by rw [List.length_map]; omega),?_⟩⟩⟩
  refine ⟨_,rfl,_,_,rfl,rfl,⟨by decide,by decide⟩,(a * (a % 65521 + 40487) + 7 * (0 + (i : Int)) + 5) % 1999999973,_,ns ++ [u],_,rfl,z1,z2,(by rw [List.length_append,hl]; rfl),?_,?_⟩
  ·rw [upd_same,List.map_append]
   rfl
  ·intro b o hb
   rw [upd_ne (ne_of_none hb hp)]
   exact Same.new hp2 _ _ _ (hS _ _ hb)
 ·rintro σ H' ⟨a,d,ns,o,rfl,h1,h2,hl,hpp,hS⟩
  exact ⟨_,rfl,q p ns H' hS hl hp hpp⟩
end
end K38
set_option maxHeartbeats 2000000
namespace K38
open PySem L2 G
structure Reel where
 name : Str
 letters : Str
 start : Int
 many : Int
def Reel.vs (r : Reel) : List V:=[.str r.name,.str r.letters,.int r.start,.int r.many]
structure ROk (r : Reel) : Prop where
 nl : r.name.length <= 100
 nf : Fine r.name
 lf : Fine r.letters
 m1 : 1 <= r.many
 m2 : r.many <= 160000
def RL (H : Hp) (p : Addr) (prs : List (Addr × Reel)) : Prop:=H p = some (.lst (prs.map fun x=>V.ref x.1))/\∀ x ∈ prs,H x.1 = some (.tup x.2.vs)/\ROk x.2
theorem RL.same {H H' : Hp} {p : Addr} {prs : List (Addr × Reel)} (h : RL H p prs) (s : Same H H') : RL H' p prs:=⟨s _ _ h.1,fun x hx=>⟨s _ _ (h.2 x hx).1,(h.2 x hx).2⟩⟩
theorem raised2 {H H1 : Hp} {a dx : Addr} {o x o' x' : HO} (s1 : Same H H1) (ha : H1 a = none) (hdx : upd H1 a o dx = none) (hne : dx ≠ a) : Same H (del (upd (upd (upd (upd H1 a o) dx x) a o') dx x') a)/\del (upd (upd (upd (upd H1 a o) dx x) a o') dx x') a dx = some x':=by
 refine ⟨Same.del ?_ (s1.free ha),by rw [del_ne hne]; exact upd_same⟩
 intro b o hb
 have hb1:=s1 _ _ hb
 have hn : b ≠ dx:=by
  intro z
  subst z
  rw [upd_ne hne,hb1] at hdx
  cases hdx
 rw [upd_ne hn,upd_ne (ne_of_none hb1 ha),upd_ne hn,upd_ne (ne_of_none hb1 ha)]
 exact hb1
section
variable {P : Program} {w : World} {K : PySem.W.Frag} {mg : Str->Option Value} {base : Heap}
def spInit (C : Addr) (f : Str) : Sp:=fun vs H Q _=>∃ a y,vs = [.ref a,y]/\H a = some (newO a C none)/\∀ dx,H dx = none->dx ≠ a->Q .non (upd (upd H dx (xdO dx [(f,y)])) a (newO a C (some dx)))
theorem scInit : FnScope ["self", "name"] ["self", "name"] (defScope s_NoName_init):=⟨rfl,rfl,rfl,by decide +kernel,rfl,by decide +kernel,by decide +kernel⟩
theorem ok_init {f C : Addr} {fd : FuncData} (F : Fun K "__init__" "NoName.__init__" s_NoName_init f fd) (XC : XCls K C) (XN : XNo K C "name") : FnOk P w K mg base CX0 1 f fd ["self", "name"] (spInit C "name"):=by
 refine F.ok scInit (fun vs H Q E h=>?_) (fun cdv A outer s0 H vs Q E hr h=>?_)
 ·obtain ⟨a,y,rfl,_⟩:=h
  rfl
 obtain ⟨a,y,rfl,hH,q⟩:=h
 refine useQ (ss_one (s_xset (e_v 0) (e_v 1))) ?_
 exact ⟨_,rfl,_,rfl,a,C,rfl,XC,XN,.inl ⟨hH,fun dx n1 n2=>q dx n1 n2⟩⟩
def spInit2 (C : Addr) : Sp:=fun vs H Q _=>∃ a y z,vs = [.ref a,y,z]/\H a = some (newO a C none)/\∀ dx,H dx = none->dx ≠ a->Q .non (upd (upd (upd H dx (xdO dx [("reel",y)])) a (newO a C (some dx))) dx (xdO dx [("reel",y),("frame",z)]))
theorem scInit2 : FnScope ["self", "reel", "frame"] ["self", "reel", "frame"] (defScope s_NoFrame_init):=⟨rfl,rfl,rfl,by decide +kernel,rfl,by decide +kernel,by decide +kernel⟩
theorem ok_init2 {f C : Addr} {fd : FuncData} (F : Fun K "__init__" "NoFrame.__init__" s_NoFrame_init f fd) (XC : XCls K C) (XN1 : XNo K C "reel") (XN2 : XNo K C "frame") : FnOk P w K mg base CX0 1 f fd ["self", "reel", "frame"] (spInit2 C):=by
 refine F.ok scInit2 (fun vs H Q E h=>?_) (fun cdv A outer s0 H vs Q E hr h=>?_)
 ·obtain ⟨a,y,z,rfl,_⟩:=h
  rfl
 obtain ⟨a,y,z,rfl,hH,q⟩:=h
 refine useQ (ss_cons (s_xset (e_v 0) (e_v 1))
  (ss_one (s_xset (e_v 0) (e_v 2)))) ?_
 refine ⟨_,rfl,_,rfl,a,C,rfl,XC,XN1,.inl ⟨hH,fun dx n1 n2=>⟨_,rfl,_,rfl,a,C,rfl,XC,XN2,.inr ⟨dx,_,upd_same,(by rw [upd_ne n2]; exact upd_same),(by show 1 < 1000; decide),?_⟩⟩⟩⟩
 exact q dx n1 n2
def spWhole : Sp:=fun vs H Q _=>∃ i : Int,vs = [.int i]/\Q (.bl true) H
theorem scWhole : FnScope ["value"] ["value"] (defScope s_is_whole):=⟨rfl,rfl,rfl,by decide +kernel,rfl,by decide +kernel,by decide +kernel⟩
theorem ok_whole {f : Addr} {fd : FuncData} (F : Fun K "is_whole" "is_whole" s_is_whole f fd) (n_isinstance : mg "isinstance" = none) (n_int : mg "int" = none) (n_bool : mg "bool" = none) : FnOk P w K mg base CX0 1 f fd ["value"] spWhole:=by
 refine F.ok scWhole (fun vs H Q E h=>?_) (fun cdv A outer s H vs Q E hr h=>?_)
 ·obtain ⟨i,rfl,_⟩:=h
  rfl
 obtain ⟨i,rfl,q⟩:=h
 refine useQ (ss_one (s_ret (e_and (e_b call_isinst n_isinstance PyProof.Rows.boot_isinstance (a_cons (e_v 0) (a_cons (e_bt (v:=.ty "int") n_int PyProof.Rows.boot_int rfl) a_nil))) (e_one (e_not (e_b call_isinst n_isinstance PyProof.Rows.boot_isinstance (a_cons (e_v 0) (a_cons (e_bt (v:=.ty "bool") n_bool (by decide +kernel) rfl) a_nil)))))))) ?_
 refine ⟨_,rfl,_,_,_,true,rfl,TyOf.int i,.inr ⟨_,rfl⟩,kit_self,true,rfl,iteT ?_⟩
 exact ⟨_,rfl,_,_,_,false,rfl,TyOf.int i,.inr ⟨_,rfl⟩,int_bool,false,rfl,q⟩
def spHasF : Sp:=fun vs H Q _=>∃ (p : Addr) (r : Reel) (f : Int),vs = [.ref p,.int f]/\H p = some (.tup r.vs)/\((0 <= f/\f < r.many)->Q (.bl true) H)/\(¬ (0 <= f/\f < r.many)->Q (.bl false) H)
theorem scHasF : FnScope ["reel", "frame"] ["reel", "frame"] (defScope s_has_frame):=⟨rfl,rfl,rfl,by decide +kernel,rfl,by decide +kernel,by decide +kernel⟩
theorem ok_hasF {f : Addr} {fd : FuncData} {t3 : Tok} (F : Fun K "has_frame" "has_frame" s_has_frame f fd) (dWh : Def P w K mg base CX0 "is_whole" 1 ["value"] spWhole) (mMANY : mg "MANY" = some (.int 3 t3)) : FnOk P w K mg base CX0 2 f fd ["reel", "frame"] spHasF:=by
 refine F.ok scHasF (fun vs H Q E h=>?_) (fun cdv A outer s0 H vs Q E hr h=>?_)
 ·obtain ⟨p,r,f,rfl,_⟩:=h
  rfl
 obtain ⟨p,r,f,rfl,hp,q1,q2⟩:=h
 refine useQ (ss_one (s_ret (e_and (e_call dWh hr pass0 (a_cons (e_v 1) a_nil)) (e_one (e_chain op_le op_lt e_int (e_v 1) (e_ix ix_tup (e_v 0) (e_gl (v:=.int 3) mMANY ⟨_,rfl⟩))))))) ?_
 refine ⟨_,rfl,f,rfl,true,rfl,iteT ⟨_,rfl,_,_,rfl,rfl,_,rfl,?_⟩⟩
 refine ite2 (fun c1=>?_) (fun c1=>?_)
 ·have d1:=of_decide_eq_true c1
  refine ⟨_,rfl,p,_,_,_,rfl,rfl,SqT.of hp,atI_nat (j:=3) rfl,_,_,rfl,rfl,?_⟩
  have z : Q (.bl (decide (f < r.many))) H:=by
   by_cases d2 : f < r.many
   ·rw [decide_eq_true d2]
    exact q1 ⟨d1,d2⟩
   ·rw [decide_eq_false d2]
    exact q2 fun z=>d2 z.2
  exact z
 ·have d1:=of_decide_eq_false (Bool.eq_false_iff.mpr c1)
  exact q2 fun z=>d1 z.1
def bearing (r : Reel) (lt : Str) (n : Int) : Prop:=lt = r.letters/\0 <= n - r.start/\n - r.start < r.many
def spBears : Sp:=fun vs H Q _=>∃ (p k : Addr) (r : Reel) (lt : Str) (n : Int),vs = [.ref p,.ref k]/\H p = some (.tup r.vs)/\H k = some (.tup [.str lt,.int n])/\(bearing r lt n->Q (.bl true) H)/\(¬ bearing r lt n->Q (.bl false) H)
theorem scBears : FnScope ["reel", "key"] ["reel", "key"] (defScope s_bears):=⟨rfl,rfl,rfl,by decide +kernel,rfl,by decide +kernel,by decide +kernel⟩
theorem ok_bears {f : Addr} {fd : FuncData} {t1 t2 : Tok} (F : Fun K "bears" "bears" s_bears f fd) (dWh : Def P w K mg base CX0 "is_whole" 1 ["value"] spWhole) (dHasF : Def P w K mg base CX0 "has_frame" 2 ["reel", "frame"] spHasF) (mLETTERS : mg "LETTERS" = some (.int 1 t1)) (mSTART : mg "START" = some (.int 2 t2)) :
  FnOk P w K mg base CX0 3 f fd ["reel", "key"] spBears:=by
 refine F.ok scBears (fun vs H Q E h=>?_) (fun cdv A outer s0 H vs Q E hr h=>?_)
 ·obtain ⟨p,k,r,lt,n,rfl,_⟩:=h
  rfl
 obtain ⟨p,k,r,lt,n,rfl,hp,hk,q1,q2⟩:=h
 refine useQ (ss_one (s_ret (e_and (e_cmp op_eq (e_ix ix_tup (e_v 1) e_int) (e_ix ix_tup (e_v 0) (e_gl (v:=.int 1) mLETTERS ⟨_,rfl⟩))) (e_and (e_call dWh hr pass0 (a_cons (e_ix ix_tup (e_v 1) e_int) a_nil)) (e_one (e_call dHasF hr pass0 (a_cons (e_v 0) (a_cons (e_op op_sub (e_ix ix_tup (e_v 1) e_int) (e_ix ix_tup (e_v 0) (e_gl (v:=.int 2) mSTART ⟨_,rfl⟩))) a_nil)))))))) ?_
 refine ⟨_,rfl,k,_,_,_,rfl,rfl,SqT.of hk,atI_nat (j:=0) rfl,_,rfl,p,_,_,_,rfl,rfl,SqT.of hp,atI_nat (j:=1) rfl,rfl,_,rfl,?_⟩
 refine ite2 (fun c1=>?_) (fun c1=>?_)
 ·have d1 : lt = r.letters:=V.str.inj (of_decide_eq_true c1)
  refine ⟨_,rfl,k,_,_,_,rfl,rfl,SqT.of hk,atI_nat (j:=1) rfl,n,rfl,true,rfl,iteT ?_⟩
  refine ⟨_,rfl,_,rfl,k,_,_,_,rfl,rfl,SqT.of hk,atI_nat (j:=1) rfl,_,rfl,p,_,_,_,rfl,rfl,SqT.of hp,atI_nat (j:=2) rfl,_,_,rfl,rfl,p,r,n - r.start,rfl,hp,fun z=>q1 ⟨d1,z⟩,fun z=>q2 fun y=>z y.2⟩
 ·have d1 : ¬ lt = r.letters:=fun e=>c1 (decide_eq_true (congrArg V.str e))
  exact q2 fun y=>d1 y.1
def spNamed (CN : Addr) : Sp:=fun vs H Q E=>∃ (p : Addr) (prs : List (Addr × Reel)) (nm : Str),vs = [.ref p,.str nm]/\RL H p prs/\(∀ x ∈ prs,x.2.name = nm->∀ H',Same H H'->Q (.ref x.1) H') /\
 ((∀ x ∈ prs,x.2.name ≠ nm)->∀ H' dx,Same H H'->H' dx = some (xdO dx [("name",.str nm)])->E (.ref CN) (some dx) H')
theorem scNamed : FnScope ["reels", "name", "reel"] ["reels", "name"] (defScope s_reel_named):=⟨rfl,rfl,rfl,by decide +kernel,rfl,by decide +kernel,by decide +kernel⟩
theorem ok_named {f CN fI : Addr} {fd fdI : FuncData} {t0 : Tok} (F : Fun K "reel_named" "reel_named" s_reel_named f fd) (mNAME : mg "NAME" = some (.int 0 t0)) (m_NoName : mg "NoName" = some (.ref CN)) (R_NoName : XRaise K CN fI) (G_NoName : FnOk P w K mg base CX0 1 fI fdI ["self", "name"] (spInit CN "name")) (b_NoName : Binds K fdI ["self", "name"] []) :
  FnOk P w K mg base (CX1 P w) 3 f fd ["reels", "name"] (spNamed CN):=by
 refine F.okX scNamed (fun vs H Q E h=>?_) (fun cdv A outer s H vs Q E hr h=>?_)
 ·obtain ⟨p,prs,nm,rfl,_⟩:=h
  rfl
 obtain ⟨p,prs,nm,rfl,rl,q,e⟩:=h
 refine useQ (ss_cons (s_for PassesOwn.leaving rfl (i_list (e_v 0)) (g_name (i:=2) scNamed.nd)
   (ss_one (s_if (t_cmp op_eq (e_ix ix_tup (e_v 2) (e_gl (v:=.int 0) mNAME ⟨_,rfl⟩)) (e_v 1))
    (ss_one (s_ret (e_v 2)))
    ss_nil)))
  (ss_one (s_raiseI m_NoName R_NoName G_NoName hr b_NoName (a_cons (e_v 1) a_nil)))) ?_
 refine ⟨_,rfl,p,rfl,⟨_,SqL.of rl.1⟩,for_list (K:=K) (a:=p) (xs:=prs.map fun x=>V.ref x.1) (fun i σ H'=>∃ (o2 : Option V),σ = [some (.ref p),some (.str nm),o2]/\(∀ j y,j < i->prs[j]? = some y->y.2.name ≠ nm)/\Same H H') ⟨none,rfl,(fun j y hj=>absurd hj (Nat.not_lt_zero _)),Same.refl _⟩ (fun i σ H' _ ⟨_,_,_,s⟩=>SqL.of (s _ _ rl.1)) ?_ ?_⟩
 ·rintro i x σ H' hx ⟨o2,rfl,hn,hS⟩
  obtain ⟨pr,hpr,rfl⟩ : ∃ pr,prs[i]? = some pr/\x = V.ref pr.1:=by
   rw [List.getElem?_map] at hx
   cases z : prs[i]? with
   | none=>rw [z] at hx; cases hx
   | some pr=>rw [z] at hx; exact ⟨pr,rfl,(Option.some.inj hx).symm⟩
  have hmem : pr ∈ prs:=List.mem_of_getElem? hpr
  refine ⟨_,rfl,pr.1,_,_,_,rfl,rfl,SqT.of (hS _ _ (rl.2 pr hmem).1),atI_nat (j:=0) rfl,_,rfl,rfl,_,rfl,?_⟩
  refine ite2 (fun c=>?_) (fun c=>?_)
  ·exact ⟨_,rfl,q pr hmem (V.str.inj (of_decide_eq_true c)) H' hS⟩
  ·refine ⟨_,rfl,fun j y hj hy=>?_,hS⟩
   by_cases z : j < i
   ·exact hn j y z hy
   ·have : j = i:=by omega
    subst this
    rw [hpr] at hy
    cases hy
    exact fun e=>c (decide_eq_true (congrArg V.str e))
 ·rintro σ H' ⟨o2,rfl,hn,hS⟩
  rw [List.length_map] at hn
  refine ⟨_,rfl,(by show 1 <= sizeLine; decide),fun a ha=>⟨a,_,rfl,upd_same,fun dx n1 n2=>⟨rfl,some dx,upd_same,?_⟩⟩⟩
  obtain ⟨r1,r2⟩:=raised1 (x:=xdO dx [("name",V.str nm)]) (o':=newO a CN (some dx)) hS ha n1 n2
  refine e (fun x hx=>?_) _ dx r1 r2
  obtain ⟨j,hj⟩:=List.mem_iff_getElem?.mp hx
  exact hn j x (List.getElem?_eq_some_iff.mp hj).1 hj
def has (r : Reel) (f : Int) : Prop:=0 <= f/\f < r.many
def spKeyOf (CN CF : Addr) : Sp:=fun vs H Q E=>∃ (p : Addr) (prs : List (Addr × Reel)) (nm : Str) (f : Int),vs = [.ref p,.str nm,.int f]/\RL H p prs /\
 (∀ x ∈ prs,x.2.name = nm->has x.2 f->∀ t H',Same H H'->H' t = some (.tup [.str x.2.letters,.int (x.2.start + f)])->Q (.ref t) H') /\
 (∀ x ∈ prs,x.2.name = nm->¬ has x.2 f->∀ H' dx,Same H H'->H' dx = some (xdO dx [("reel",.str nm),("frame",.int f)])->E (.ref CF) (some dx) H') /\
 ((∀ x ∈ prs,x.2.name ≠ nm)->∀ H' dx,Same H H'->H' dx = some (xdO dx [("name",.str nm)])->E (.ref CN) (some dx) H')
theorem scKeyOf : FnScope ["reels", "name", "frame", "reel"] ["reels", "name", "frame"] (defScope s_key_of):=⟨rfl,rfl,rfl,by decide +kernel,rfl,by decide +kernel,by decide +kernel⟩
theorem ok_keyOf {f CN CF fI : Addr} {fd fdI : FuncData} {t0 t1 t2 : Tok} (F : Fun K "key_of" "key_of" s_key_of f fd) (dNamed : Def P w K mg base (CX1 P w) "reel_named" 3 ["reels", "name"] (spNamed CN)) (dHasF : Def P w K mg base CX0 "has_frame" 2 ["reel", "frame"] spHasF)
  (mNAME : mg "NAME" = some (.int 0 t0)) (mLETTERS : mg "LETTERS" = some (.int 1 t1)) (mSTART : mg "START" = some (.int 2 t2)) (m_NoFrame : mg "NoFrame" = some (.ref CF)) (R_NoFrame : XRaise K CF fI) (G_NoFrame : FnOk P w K mg base CX0 1 fI fdI ["self", "reel", "frame"] (spInit2 CF)) (b_NoFrame : Binds K fdI ["self", "reel", "frame"] []) :
  FnOk P w K mg base (CX1 P w) 4 f fd ["reels", "name", "frame"] (spKeyOf CN CF):=by
 refine F.okX scKeyOf (fun vs H Q E h=>?_) (fun cdv A outer s H vs Q E hr h=>?_)
 ·obtain ⟨p,prs,nm,f,rfl,_⟩:=h
  rfl
 obtain ⟨p,prs,nm,f,rfl,rl,q,e1,e2⟩:=h
 refine useQ (ss_cons (s_set (i:=3) scKeyOf.nd (e_call dNamed hr passX (a_cons (e_v 0) (a_cons (e_v 1) a_nil))))
  (ss_cons (s_if (t_not (t_val (e_call dHasF hr pass0 (a_cons (e_v 3) (a_cons (e_v 2) a_nil)))))
   (ss_one (s_raiseI m_NoFrame R_NoFrame G_NoFrame hr b_NoFrame (a_cons (e_ix ix_tup (e_v 3) (e_gl (v:=.int 0) mNAME ⟨_,rfl⟩)) (a_cons (e_v 2) a_nil))))
   ss_nil)
  (ss_one (s_ret (e_tup (a_cons (e_ix ix_tup (e_v 3) (e_gl (v:=.int 1) mLETTERS ⟨_,rfl⟩)) (a_cons (e_op op_add (e_ix ix_tup (e_v 3) (e_gl (v:=.int 2) mSTART ⟨_,rfl⟩)) (e_v 2)) a_nil))))))) ?_
 refine ⟨_,rfl,_,rfl,p,prs,nm,rfl,rl,fun x hx hn H1 s1=>?_,e2⟩
 have hx1:=s1 _ _ (rl.2 x hx).1
 refine ⟨_,rfl,_,rfl,x.1,x.2,f,rfl,hx1,fun hh=>⟨_,rfl,iteF ?_⟩,fun hh=>⟨_,rfl,iteT ?_⟩⟩
 ·refine ⟨_,rfl,x.1,_,_,_,rfl,rfl,SqT.of hx1,atI_nat (j:=1) rfl,_,rfl,x.1,_,_,_,rfl,rfl,SqT.of hx1,atI_nat (j:=2) rfl,_,rfl,_,_,rfl,rfl,(by show 2 <= sizeLine; decide),fun t ht=>?_⟩
  exact q x hx hn hh t _ (s1.trans (Same.new ht _)) upd_same
 ·have hv : x.2.vs[0]? = some (V.str nm):=by rw [<- hn]; rfl
  refine ⟨_,rfl,x.1,_,_,_,rfl,rfl,SqT.of hx1,atI_nat (j:=0) hv,_,rfl,(by show 2 <= sizeLine; decide),fun a ha=>⟨a,_,_,rfl,upd_same,fun dx n1 n2=>⟨rfl,some dx,?_,?_⟩⟩⟩
  ·rw [upd_ne (fun z=>n2 z.symm)]
   exact upd_same
  ·obtain ⟨r1,r2⟩:=raised2 (x:=xdO dx [("reel",V.str nm)]) (o':=newO a CF (some dx)) (x':=xdO dx [("reel",V.str nm),("frame",V.int f)]) s1 ha n1 n2
   exact e1 x hx hn hh _ dx r1 r2
def spFrameOf (CN CF : Addr) : Sp:=fun vs H Q E=>∃ (p k : Addr) (prs : List (Addr × Reel)) (nm lt : Str) (n : Int),vs = [.ref p,.str nm,.ref k]/\RL H p prs/\H k = some (.tup [.str lt,.int n]) /\
 (∀ x ∈ prs,x.2.name = nm->bearing x.2 lt n->∀ H',Same H H'->Q (.int (n - x.2.start)) H') /\
 (∀ x ∈ prs,x.2.name = nm->¬ bearing x.2 lt n->∀ H' dx,Same H H'->H' dx = some (xdO dx [("reel",.str nm),("frame",.non)])->E (.ref CF) (some dx) H') /\
 ((∀ x ∈ prs,x.2.name ≠ nm)->∀ H' dx,Same H H'->H' dx = some (xdO dx [("name",.str nm)])->E (.ref CN) (some dx) H')
theorem scFrameOf : FnScope ["reels", "name", "key", "reel"] ["reels", "name", "key"] (defScope s_frame_of):=⟨rfl,rfl,rfl,by decide +kernel,rfl,by decide +kernel,by decide +kernel⟩
theorem ok_frameOf {f CN CF fI : Addr} {fd fdI : FuncData} {t0 t2 : Tok} (F : Fun K "frame_of" "frame_of" s_frame_of f fd) (dNamed : Def P w K mg base (CX1 P w) "reel_named" 3 ["reels", "name"] (spNamed CN)) (dBears : Def P w K mg base CX0 "bears" 3 ["reel", "key"] spBears)
  (mNAME : mg "NAME" = some (.int 0 t0)) (mSTART : mg "START" = some (.int 2 t2)) (m_NoFrame : mg "NoFrame" = some (.ref CF)) (R_NoFrame : XRaise K CF fI) (G_NoFrame : FnOk P w K mg base CX0 1 fI fdI ["self", "reel", "frame"] (spInit2 CF)) (b_NoFrame : Binds K fdI ["self", "reel", "frame"] []) :
  FnOk P w K mg base (CX1 P w) 4 f fd ["reels", "name", "key"] (spFrameOf CN CF):=by
 refine F.okX scFrameOf (fun vs H Q E h=>?_) (fun cdv A outer s H vs Q E hr h=>?_)
 ·obtain ⟨p,k,prs,nm,lt,n,rfl,_⟩:=h
  rfl
 obtain ⟨p,k,prs,nm,lt,n,rfl,rl,hk,q,e1,e2⟩:=h
 refine useQ (ss_cons (s_set (i:=3) scFrameOf.nd (e_call dNamed hr passX (a_cons (e_v 0) (a_cons (e_v 1) a_nil))))
  (ss_cons (s_if (t_not (t_val (e_call dBears hr pass0 (a_cons (e_v 3) (a_cons (e_v 2) a_nil)))))
   (ss_one (s_raiseI m_NoFrame R_NoFrame G_NoFrame hr b_NoFrame (a_cons (e_ix ix_tup (e_v 3) (e_gl (v:=.int 0) mNAME ⟨_,rfl⟩)) (a_cons e_non a_nil))))
   ss_nil)
  (ss_one (s_ret (e_op op_sub (e_ix ix_tup (e_v 2) e_int) (e_ix ix_tup (e_v 3) (e_gl (v:=.int 2) mSTART ⟨_,rfl⟩))))))) ?_
 refine ⟨_,rfl,_,rfl,p,prs,nm,rfl,rl,fun x hx hn H1 s1=>?_,e2⟩
 have hx1:=s1 _ _ (rl.2 x hx).1
 have hk1:=s1 _ _ hk
 refine ⟨_,rfl,_,rfl,x.1,k,x.2,lt,n,rfl,hx1,hk1,fun hh=>⟨_,rfl,iteF ?_⟩,fun hh=>⟨_,rfl,iteT ?_⟩⟩
 ·exact ⟨_,rfl,k,_,_,_,rfl,rfl,SqT.of hk1,atI_nat (j:=1) rfl,_,rfl,x.1,_,_,_,rfl,rfl,SqT.of hx1,atI_nat (j:=2) rfl,_,_,rfl,rfl,q x hx hn hh H1 s1⟩
 ·have hv : x.2.vs[0]? = some (V.str nm):=by rw [<- hn]; rfl
  refine ⟨_,rfl,x.1,_,_,_,rfl,rfl,SqT.of hx1,atI_nat (j:=0) hv,(by show 2 <= sizeLine; decide),fun a ha=>⟨a,_,_,rfl,upd_same,fun dx n1 n2=>⟨rfl,some dx,?_,?_⟩⟩⟩
  ·rw [upd_ne (fun z=>n2 z.symm)]
   exact upd_same
  ·obtain ⟨r1,r2⟩:=raised2 (x:=xdO dx [("reel",V.str nm)]) (o':=newO a CF (some dx)) (x':=xdO dx [("reel",V.str nm),("frame",V.non)]) s1 ha n1 n2
   exact e1 x hx hn hh _ dx r1 r2
end
end K38
set_option maxHeartbeats 2000000
namespace K38
open PySem L2 G DT
open IT hiding It
abbrev Err:=Str × V
open Classical in
noncomputable def ovF (o t : Reel) (f : Int) : Err ⊕ Int:=if has o f then (if bearing t o.letters (o.start + f) then .inr (o.start + f - t.start) else .inl (t.name,.non)) else .inl (o.name,.int f)
noncomputable def ovC (o t : Reel) (f l : Int) : Err ⊕ (Int × Int):=match ovF o t f with
 | .inl e=>.inl e
 | .inr a=>match ovF o t l with
  | .inl e=>.inl e
  | .inr b=>.inr (a,b)
def Uq (prs : List (Addr × Reel)) : Prop:=∀ x ∈ prs,∀ y ∈ prs,x.2.name = y.2.name->x = y
def Flies (CF : Addr) (e : Err) (H : Hp) (E : XK) : Prop:=∀ H' dx,Same H H'->H' dx = some (xdO dx [("reel",.str e.1),("frame",e.2)])->E (.ref CF) (some dx) H'
theorem Flies.later {CF : Addr} {e : Err} {H H1 : Hp} {E : XK} (h : Flies CF e H E) (s : Same H H1) : Flies CF e H1 E:=fun H' dx s' hd=>h H' dx (s.trans s') hd
section
variable {P : Program} {w : World} {K : PySem.W.Frag} {mg : Str->Option Value} {base : Heap}
def spOClip (CF : Addr) : Sp:=fun vs H Q E=>∃ (a p : Addr) (prs : List (Addr × Reel)) (o t : Addr × Reel) (r : Str) (f l : Int),vs = [.ref a,.ref p,.str o.2.name,.str t.2.name]/\RL H p prs/\Uq prs/\o ∈ prs/\t ∈ prs/\H a = some (.tup [.str "clip",.str r,.int f,.int l]) /\
 (match ovC o.2 t.2 f l with
  | .inl e=>Flies CF e H E
  | .inr z=>∀ q H',Same H H'->H' q = some (.tup [.str "clip",.str t.2.name,.int z.1,.int z.2])->Q (.ref q) H')
theorem scOClip : FnScope ["clip", "reels", "one", "other", "frames"] ["clip", "reels", "one", "other"] (defScope s_over_clip):=⟨rfl,rfl,rfl,by decide +kernel,rfl,by decide +kernel,by decide +kernel⟩
theorem ok_oclip {f CN CF : Addr} {fd : FuncData} (F : Fun K "over_clip" "over_clip" s_over_clip f fd) (dKeyOf : Def P w K mg base (CX1 P w) "key_of" 4 ["reels", "name", "frame"] (spKeyOf CN CF)) (dFrameOf : Def P w K mg base (CX1 P w) "frame_of" 4 ["reels", "name", "key"] (spFrameOf CN CF)) :
  FnOk P w K mg base (CX1 P w) 5 f fd ["clip", "reels", "one", "other"] (spOClip CF):=by
 refine F.okX scOClip (fun vs H Q E h=>?_) (fun cdv A outer s H vs Q E hr h=>?_)
 ·obtain ⟨a,p,prs,o,t,r,f,l,rfl,_⟩:=h
  rfl
 obtain ⟨a,p,prs,o,t,r,f,l,rfl,rl,uq,ho,ht,ha,q⟩:=h
 refine useQ (ss_cons (s_compX (i:=4) scOClip.nd ["one", "other", "reels"] [2,3,1] [("reels",s.heap.objs.size + 1),("other",s.heap.objs.size + 3),("one",s.heap.objs.size + 2)] rfl ⟨rfl,rfl,rfl,rfl,⟨rfl,rfl,rfl,rfl,⟨rfl,rfl,rfl,rfl,trivial⟩⟩⟩ ⟨rfl,⟨rfl,⟨rfl,trivial⟩⟩⟩ (fun _ _ _ _ _ _ I f h=>passC I f h) (i_tup (e_sl sl_tupG (e_v 0) (o_some e_int) o_none)) (fun _ _ _ _ hx=>(e_call dFrameOf hr hx (a_cons (e_n 3) (a_cons (e_n 2) (a_cons (e_call dKeyOf hr hx (a_cons (e_n 3) (a_cons (e_n 1) (a_cons (e_n 0) a_nil)))) a_nil))))))
  (ss_one (s_ret (e_tup (a_cons e_str (a_cons (e_c 3) (a_cons (e_ix ix_list (e_v 4) e_int) (a_cons (e_ix ix_list (e_v 4) e_int) a_nil)))))))) ?_
 have hr':=hr
 refine ⟨_,rfl,_,rfl,a,_,rfl,ha,fun pt H1 s1 hpt=>?_⟩
 have ecut : cutV [V.str "clip",.str r,.int f,.int l] (some 2) none = [.int f,.int l]:=rfl
 rw [ecut] at hpt
 refine ⟨pt,rfl,⟨_,SqT.of hpt⟩,comp_tupX (K:=K) (a:=pt) (xs:=[.int f,.int l]) (fun i zs=>(i = 0/\zs = []) \/ (i = 1/\∃ x : Int,ovF o.2 t.2 f = .inr x/\zs = [.int x]) \/ (i = 2/\∃ x y : Int,ovF o.2 t.2 f = .inr x/\ovF o.2 t.2 l = .inr y/\zs = [.int x,.int y])) (SqT.of hpt) (by show 2 <= sizeLine; decide) (.inl ⟨rfl,rfl⟩) ?_ ?_⟩
 ·intro i v zs H2 R s2 hv hj hR
  have S2:=s1.trans s2
  obtain ⟨g,rfl,hg,hq⟩ : ∃ g : Int,v = .int g/\(∀ e,ovF o.2 t.2 g = .inl e->Flies CF e H E)/\(∀ z : Int,ovF o.2 t.2 g = .inr z->∀ H'',Same H2 H''->R (.int z) H''):=by
   match i,hv with
   | 0,hv =>
    cases hv
    refine ⟨f,rfl,fun e he=>?_,fun z hz H'' s''=>hR _ H'' s'' ?_⟩
    ·unfold ovC at q
     rw [he] at q
     exact q
    ·rcases hj with ⟨_,rfl⟩ | ⟨h,_⟩ | ⟨h,_⟩
     ·exact .inr (.inl ⟨rfl,z,hz,rfl⟩)
     ·cases h
     ·cases h
   | 1,hv =>
    cases hv
    rcases hj with ⟨h,_⟩ | ⟨_,x,hx,rfl⟩ | ⟨h,_⟩
    ·cases h
    ·refine ⟨l,rfl,fun e he=>?_,fun z hz H'' s''=>hR _ H'' s'' ?_⟩
     ·unfold ovC at q
      rw [hx,he] at q
      exact q
     ·exact .inr (.inr ⟨rfl,x,z,hx,hz,rfl⟩)
    ·cases h
   | n + 2,hv=>cases hv
  refine ⟨_,rfl,_,rfl,_,rfl,_,rfl,_,rfl,p,prs,o.2.name,g,rfl,rl.same S2,?_,?_,?_⟩
  ·intro x hx hn hh k H3 s3 hk
   have ex:=uq x hx o ho hn
   subst ex
   refine ⟨p,k,prs,t.2.name,x.2.letters,x.2.start + g,rfl,rl.same (S2.trans s3),hk,fun y hy hm hb H4 s4=>?_,fun y hy hm hb H4 dx s4 hd=>?_,fun hno=>absurd rfl (hno t ht)⟩
   ·have ey:=uq y hy t ht hm
    subst ey
    exact hq _ (by unfold ovF; rw [if_pos hh,if_pos hb]) H4 (s3.trans s4)
   ·have ey:=uq y hy t ht hm
    subst ey
    exact hg _ (by unfold ovF; rw [if_pos hh,if_neg hb]) H4 dx (S2.trans (s3.trans s4)) hd
  ·intro x hx hn hh H3 dx s3 hd
   have ex:=uq x hx o ho hn
   subst ex
   exact hg _ (by unfold ovF; rw [if_neg hh]) H3 dx (S2.trans s3) hd
  ·exact fun hno=>absurd rfl (hno o ho)
 ·intro D zs H2 s2 _ hD hj
  rcases hj with ⟨h,_⟩ | ⟨h,_⟩ | ⟨_,x,y,hx,hy,rfl⟩
  ·cases h
  ·cases h
  have q' : ∀ q H',Same H H'->H' q = some (.tup [.str "clip",.str t.2.name,.int x,.int y])->Q (.ref q) H':=by
   unfold ovC at q
   rw [hx,hy] at q
   exact q
  refine ⟨_,rfl,_,rfl,D,_,_,_,rfl,rfl,SqL.of hD,atI_nat (j:=0) rfl,_,rfl,D,_,_,_,rfl,rfl,SqL.of hD,atI_nat (j:=1) rfl,(by show 4 <= sizeLine; decide),fun pq hpq=>?_⟩
  exact q' pq _ ((s1.trans s2).trans (Same.new hpq _)) upd_same
end
end K38
set_option maxHeartbeats 2000000
namespace K38
open PySem L2 G DT
open IT hiding It
section
variable {P : Program} {w : World} {K : PySem.W.Frag} {mg : Str->Option Value} {base : Heap}
mutual
noncomputable def ovI (o t : Reel) : IT.It->Err ⊕ IT.It
 | .clip r f l=>if r = o.name then (match ovC o t f l with | .inl e=>.inl e | .inr z=>.inr (.clip t.name z.1 z.2)) else .inr (.clip r f l)
 | .times m xs=>match ovL o t xs with | .inl e=>.inl e | .inr ys=>.inr (.times m ys)
 | .back xs=>match ovL o t xs with | .inl e=>.inl e | .inr ys=>.inr (.back ys)
 | .part n xs=>.inr (.part n xs)
 | .fade m=>.inr (.fade m)
noncomputable def ovL (o t : Reel) : List IT.It->Err ⊕ List IT.It
 | []=>.inr []
 | x :: r=>match ovI o t x with | .inl e=>.inl e | .inr y=>match ovL o t r with | .inl e=>.inl e | .inr ys=>.inr (y :: ys)
end
theorem ovL_app (o t : Reel) : ∀ {xs ys : List IT.It} {as : List IT.It},ovL o t xs = .inr as->ovL o t (xs ++ ys) = (match ovL o t ys with | .inl e=>.inl e | .inr bs=>.inr (as ++ bs))
 | [],ys,as,h=>by
  rw [ovL] at h
  cases h
  rw [List.nil_append] <;> (cases ovL o t ys <;> rfl)
 | x :: r,ys,as,h=>by
  rw [ovL] at h
  rw [List.cons_append,ovL]
  cases hx : ovI o t x with
  | inl e=>rw [hx] at h; cases h
  | inr y =>
   rw [hx] at h
   cases hr : ovL o t r with
   | inl e=>rw [hr] at h; cases h
   | inr zs =>
    rw [hr] at h
    cases h
    dsimp only
    rw [ovL_app o t hr] <;> (cases ovL o t ys <;> rfl)
theorem ovL_bad (o t : Reel) : ∀ {xs ys : List IT.It} {e : Err},ovL o t xs = .inl e->ovL o t (xs ++ ys) = .inl e
 | [],ys,e,h=>by rw [ovL] at h; cases h
 | x :: r,ys,e,h=>by
  rw [ovL] at h
  rw [List.cons_append,ovL]
  cases hx : ovI o t x with
  | inl e'=>rw [hx] at h; cases h; rfl
  | inr y =>
   rw [hx] at h
   cases hr : ovL o t r with
   | inl e'=>rw [hr] at h; cases h; dsimp only; rw [ovL_bad o t hr]
   | inr zs=>rw [hr] at h; cases h
theorem ovL_one (o t : Reel) (x : IT.It) : ovL o t [x] = (match ovI o t x with | .inl e=>.inl e | .inr y=>.inr [y]):=by
 rw [ovL,ovL] <;> (cases ovI o t x <;> rfl)
theorem ovL_step {o t : Reel} {xs ys : List IT.It} {i : Nat} {x y : IT.It} (h : ovL o t (xs.take i) = .inr ys) (hx : xs[i]? = some x) (hy : ovI o t x = .inr y) : ovL o t (xs.take (i + 1)) = .inr (ys ++ [y]):=by
 rw [List.take_add_one,hx,Option.toList_some,ovL_app o t h,ovL_one,hy]
theorem ovL_stop {o t : Reel} {xs ys : List IT.It} {i : Nat} {x : IT.It} {e : Err} (h : ovL o t (xs.take i) = .inr ys) (hx : xs[i]? = some x) (hy : ovI o t x = .inl e) : ovL o t xs = .inl e:=by
 have z : ovL o t (xs.take (i + 1)) = .inl e:=by rw [List.take_add_one,hx,Option.toList_some,ovL_app o t h,ovL_one,hy]
 rw [<- List.take_append_drop (i + 1) xs]
 exact ovL_bad o t z
def spOver (CF : Addr) (d : Nat) : Sp:=fun vs H Q E=>∃ (a p : Addr) (prs : List (Addr × Reel)) (o t : Addr × Reel) (xs : List IT.It),vs = [.ref a,.ref p,.str o.2.name,.str t.2.name]/\RL H p prs/\Uq prs/\o ∈ prs/\t ∈ prs/\Td H (.ref a) (.tuple (dL xs))/\dpL xs <= d/\wL xs <= 1000000 /\
 (match ovL o.2 t.2 xs with
  | .inl e=>Flies CF e H E
  | .inr ys=>∀ q H',Same H H'->Td H' (.ref q) (.tuple (dL ys))->Q (.ref q) H')
def spOverP (CF : Addr) : Nat->Sp
 | 0=>fun _ _ _ _=>False
 | d + 1=>spOver CF d
theorem atI_last3 {u v w' : V} : atI [u,v,w'] (-1) = some w':=rfl
theorem atI_last2 {u v : V} : atI [u,v] (-1) = some v:=rfl
theorem spOverP_of {CF : Addr} {d : Nat} {vs : List V} {H : Hp} {Q : VK} {E : XK} (h : 0 < d) (z : spOver CF (d - 1) vs H Q E) : spOverP CF d vs H Q E:=by
 cases d with
 | zero=>exact absurd h (Nat.lt_irrefl _)
 | succ d=>exact z
theorem scOver : FnScope ["items", "reels", "one", "other", "told", "item"] ["items", "reels", "one", "other"] (defScope s_over_items):=⟨rfl,rfl,rfl,by decide +kernel,rfl,by decide +kernel,by decide +kernel⟩
theorem ok_over {d : Nat} {f CF : Addr} {fd : FuncData} (F : Fun K "over_items" "over_items" s_over_items f fd) (dOClip : Def P w K mg base (CX1 P w) "over_clip" 5 ["clip", "reels", "one", "other"] (spOClip CF)) (dOver : Def P w K mg base (CX1 P w) "over_items" (d + 5) ["items", "reels", "one", "other"] (spOverP CF d)) (n_tuple : mg "tuple" = none) :
  FnOk P w K mg base (CX1 P w) (d + 6) f fd ["items", "reels", "one", "other"] (spOver CF d):=by
 refine F.okX scOver (fun vs H Q E h=>?_) (fun cdv A outer s H vs Q E hr h=>?_)
 ·obtain ⟨a,p,prs,o,t,xs,rfl,_⟩:=h
  rfl
 obtain ⟨a,p,prs,o,t,xs,rfl,rl,uq,ho,ht,ha,hd,hw,q⟩:=h
 refine useQ (ss_cons (s_set (i:=4) scOver.nd (e_lst a_nil))
  (ss_cons (s_for PassesOwn.leaving rfl (i_tup (e_v 0)) (g_name (i:=5) scOver.nd)
   (ss_one (s_if (t_w (w_and (t_cmp op_eq (e_ix ix_tup (e_v 5) e_int) e_str) (w_and1 (t_cmp op_eq (e_ix ix_tup (e_v 5) e_int) (e_v 2)))))
    (ss_one (s_expr (e_append (e_v 4) (e_call dOClip hr passX (a_cons (e_v 5) (a_cons (e_v 1) (a_cons (e_v 2) (a_cons (e_v 3) a_nil)))) (hj:=by omega)))))
    (ss_one (s_if (t_cmp op_in_seq (e_ix ix_tup (e_v 5) e_int) (e_tup (a_cons e_str (a_cons e_str a_nil))))
     (ss_one (s_expr (e_append (e_v 4) (e_op op_catG (e_sl sl_tupG (e_v 5) o_none (o_some (e_un un_neg e_int))) (e_tup (a_cons (e_call dOver hr passX (a_cons (e_ix ix_tup (e_v 5) (e_un un_neg e_int)) (a_cons (e_v 1) (a_cons (e_v 2) (a_cons (e_v 3) a_nil)))) (hj:=by omega)) a_nil))))))
     (ss_one (s_expr (e_append (e_v 4) (e_v 5)))))))))
  (ss_one (s_ret (e_t call_tuple_of n_tuple (by decide +kernel) (a_cons (e_v 4) a_nil)))))) ?_
 obtain ⟨a0,vs,hva,hap,hvs⟩:=ha.tinv
 cases hva
 have zl : sizeLine = 16777216:=sizeLine_eq
 have hxl : vs.length = xs.length:=by rw [hvs.len,dL_map,List.length_map]
 have hwl:=wL_len xs
 refine ⟨(by show 0 <= sizeLine; decide),fun pl hpl=>?_⟩
 have sl:=Same.new hpl (.lst [])
 refine ⟨_,rfl,a,rfl,⟨_,SqT.of (sl _ _ hap)⟩,for_tup (K:=K) (a:=a) (xs:=vs) (fun i σ H'=>∃ (ys : List IT.It) (us : List V) (o5 : Option V),σ = [some (.ref a),some (.ref p),some (.str o.2.name),some (.str t.2.name),some (.ref pl),o5]/\ovL o.2 t.2 (xs.take i) = .inr ys/\H' pl = some (.lst us)/\us.length = i/\Tds H' us (dL ys)/\Same H H')
  ⟨[],[],none,rfl,(by rw [List.take_zero,ovL]),upd_same,rfl,(by rw [dL]; exact .nil),sl⟩ (fun i σ H' _ ⟨_,_,_,_,_,_,_,_,sm⟩=>SqT.of (sm _ _ hap)) ?_ ?_⟩
 ·rintro i v σ H' hv ⟨ys,us,o5,rfl,hys,hpl',hlen,hus,sm⟩
  have hi : i < vs.length:=(List.getElem?_eq_some_iff.mp hv).1
  obtain ⟨d',hd',tdv⟩:=(hvs.tk (TK.of sm)).get hv
  obtain ⟨x,hx,rfl⟩:=dL_get hd'
  have hxm : x ∈ xs:=List.mem_of_getElem? hx
  have hdx : dpI x <= d:=dpL_le.mp hd x hxm
  have hwx : wI x <= wL xs:=wL_mem hxm
  have stop : ∀ e,ovI o.2 t.2 x = .inl e->Flies CF e H E:=fun e he=>by
   rw [ovL_stop hys hx he] at q
   exact q
  have nxt : ∀ (y : IT.It) u H2,ovI o.2 t.2 x = .inr y->Same H' H2->Td H2 u (dI y)->∃ (ys : List IT.It) (us' : List V) (o5 : Option V),[some (V.ref a),some (.ref p),some (.str o.2.name),some (.str t.2.name),some (.ref pl),some v] = [some (.ref a),some (.ref p),some (.str o.2.name),some (.str t.2.name),some (.ref pl),o5]/\ovL o.2 t.2 (xs.take (i + 1)) = .inr ys/\upd H2 pl (.lst (us ++ [u])) pl = some (.lst us')/\us'.length = i + 1/\Tds (upd H2 pl (.lst (us ++ [u]))) us' (dL ys)/\Same H (upd H2 pl (.lst (us ++ [u]))):=fun y u H2 hy s2 td=>by
   refine ⟨ys ++ [y],us ++ [u],some v,rfl,ovL_step hys hx hy,upd_same,(by rw [List.length_append,hlen]; rfl),?_,fun b ob hb=>?_⟩
   ·rw [dL_app,show dL [y] = [dI y] by rw [dL,dL]]
    exact ((hus.tk (TK.of s2)).app (Tds.one td)).tk (TK.lst (s2 _ _ hpl'))
   ·rw [upd_ne (ne_of_none hb hpl)]
    exact s2 _ _ (sm _ _ hb)
  cases x with
  | clip r f l =>
   obtain ⟨b,rfl,hb⟩:=td_clip tdv
   refine ⟨_,rfl,b,_,_,_,rfl,rfl,SqT.of hb,atI_nat (j:=0) rfl,rfl,_,rfl,iteY (seq _) ⟨_,rfl,b,_,_,_,rfl,rfl,SqT.of hb,atI_nat (j:=1) rfl,_,rfl,rfl,_,rfl,?_⟩⟩
   refine ite2 (fun c=>?_) (fun c=>?_)
   ·have c : r = o.2.name:=V.str.inj (of_decide_eq_true c)
    refine ⟨_,rfl,.inl ⟨rfl,_,SqL.of hpl'⟩,_,rfl,_,rfl,_,rfl,_,rfl,b,p,prs,o,t,r,f,l,rfl,rl.same sm,uq,ho,ht,hb,?_⟩
    cases hz : ovC o.2 t.2 f l with
    | inl e=>exact (stop e (by rw [ovI,if_pos c,hz])).later sm
    | inr z =>
     intro q H2 s2 hq
     exact ⟨pl,_,_,rfl,rfl,s2 _ _ hpl',by omega,nxt _ _ H2 (by rw [ovI,if_pos c,hz]) s2 (mk_clip hq)⟩
   ·have c : ¬ r = o.2.name:=fun z=>c (decide_eq_true (congrArg V.str z))
    refine ⟨_,rfl,b,_,_,_,rfl,rfl,SqT.of hb,atI_nat (j:=0) rfl,(by show 2 <= sizeLine; decide),fun pt hpt=>⟨pt,_,rfl,.inr (SqT.of upd_same),rfl,rfl,_,rfl,iteN (by decide +kernel) ?_⟩⟩
    have st:=Same.new hpt (.tup [.str "times",.str "back"])
    exact ⟨_,rfl,.inl ⟨rfl,_,SqL.of (st _ _ hpl')⟩,_,rfl,pl,_,_,rfl,rfl,st _ _ hpl',by omega,nxt _ _ _ (by rw [ovI,if_neg c]) st (tdv.tk (TK.of st))⟩
  | times m zs =>
   obtain ⟨b,c,rfl,hb,hc⟩:=td_times tdv
   rw [dpI] at hdx
   rw [wI] at hwx
   refine ⟨_,rfl,b,_,_,_,rfl,rfl,SqT.of hb,atI_nat (j:=0) rfl,rfl,_,rfl,iteN sne (iteF ?_)⟩
   refine ⟨_,rfl,b,_,_,_,rfl,rfl,SqT.of hb,atI_nat (j:=0) rfl,(by show 2 <= sizeLine; decide),fun pt hpt=>⟨pt,_,rfl,.inr (SqT.of upd_same),rfl,rfl,_,rfl,iteY (by decide +kernel) ?_⟩⟩
   have st:=Same.new hpt (.tup [.str "times",.str "back"])
   refine ⟨_,rfl,.inl ⟨rfl,_,SqL.of (st _ _ hpl')⟩,_,rfl,_,rfl,_,rfl,b,_,rfl,st _ _ hb,fun ps H3 s3 hps=>?_⟩
   have S3:=st.trans s3
   have ecut : cutV [V.str "times",.int m,.ref c] none (some (-1)) = [.str "times",.int m]:=rfl
   rw [ecut] at hps
   refine ⟨_,rfl,_,rfl,b,_,_,_,rfl,rfl,SqT.of (S3 _ _ hb),atI_last3,_,rfl,_,rfl,_,rfl,spOverP_of (by omega) ⟨c,p,prs,o,t,zs,rfl,rl.same (sm.trans S3),uq,ho,ht,hc.tk (TK.of S3),by omega,by omega,?_⟩⟩
   cases hz : ovL o.2 t.2 zs with
   | inl e=>exact (stop e (by rw [ovI,hz])).later (sm.trans S3)
   | inr ws =>
    intro pq H4 s4 hq
    refine ⟨(by show 1 <= sizeLine; decide),fun pu hpu=>⟨ps,pu,_,_,rfl,rfl,Same.new hpu _ _ _ (s4 _ _ hps),upd_same,(by show 3 <= sizeLine; decide),fun pv H5 s5 hpv=>?_⟩⟩
    have S5:=(S3.trans s4).trans ((Same.new hpu _).trans s5)
    exact ⟨pl,_,_,rfl,rfl,S5 _ _ hpl',by omega,nxt _ _ _ (by rw [ovI,hz]) S5 (mk_times hpv (hq.tk (TK.of ((Same.new hpu _).trans s5))))⟩
  | back zs =>
   obtain ⟨b,c,rfl,hb,hc⟩:=td_back tdv
   rw [dpI] at hdx
   rw [wI] at hwx
   refine ⟨_,rfl,b,_,_,_,rfl,rfl,SqT.of hb,atI_nat (j:=0) rfl,rfl,_,rfl,iteN sne (iteF ?_)⟩
   refine ⟨_,rfl,b,_,_,_,rfl,rfl,SqT.of hb,atI_nat (j:=0) rfl,(by show 2 <= sizeLine; decide),fun pt hpt=>⟨pt,_,rfl,.inr (SqT.of upd_same),rfl,rfl,_,rfl,iteY (by decide +kernel) ?_⟩⟩
   have st:=Same.new hpt (.tup [.str "times",.str "back"])
   refine ⟨_,rfl,.inl ⟨rfl,_,SqL.of (st _ _ hpl')⟩,_,rfl,_,rfl,_,rfl,b,_,rfl,st _ _ hb,fun ps H3 s3 hps=>?_⟩
   have S3:=st.trans s3
   have ecut : cutV [V.str "back",.ref c] none (some (-1)) = [.str "back"]:=rfl
   rw [ecut] at hps
   refine ⟨_,rfl,_,rfl,b,_,_,_,rfl,rfl,SqT.of (S3 _ _ hb),atI_last2,_,rfl,_,rfl,_,rfl,spOverP_of (by omega) ⟨c,p,prs,o,t,zs,rfl,rl.same (sm.trans S3),uq,ho,ht,hc.tk (TK.of S3),by omega,by omega,?_⟩⟩
   cases hz : ovL o.2 t.2 zs with
   | inl e=>exact (stop e (by rw [ovI,hz])).later (sm.trans S3)
   | inr ws =>
    intro pq H4 s4 hq
    refine ⟨(by show 1 <= sizeLine; decide),fun pu hpu=>⟨ps,pu,_,_,rfl,rfl,Same.new hpu _ _ _ (s4 _ _ hps),upd_same,(by show 2 <= sizeLine; decide),fun pv H5 s5 hpv=>?_⟩⟩
    have S5:=(S3.trans s4).trans ((Same.new hpu _).trans s5)
    exact ⟨pl,_,_,rfl,rfl,S5 _ _ hpl',by omega,nxt _ _ _ (by rw [ovI,hz]) S5 (mk_back hpv (hq.tk (TK.of ((Same.new hpu _).trans s5))))⟩
  | part n zs =>
   obtain ⟨b,rfl,hb⟩:=td_part tdv
   refine ⟨_,rfl,b,_,_,_,rfl,rfl,SqT.of hb,atI_nat (j:=0) rfl,rfl,_,rfl,iteN sne (iteF ?_)⟩
   refine ⟨_,rfl,b,_,_,_,rfl,rfl,SqT.of hb,atI_nat (j:=0) rfl,(by show 2 <= sizeLine; decide),fun pt hpt=>⟨pt,_,rfl,.inr (SqT.of upd_same),rfl,rfl,_,rfl,iteN (by decide +kernel) ?_⟩⟩
   have st:=Same.new hpt (.tup [.str "times",.str "back"])
   exact ⟨_,rfl,.inl ⟨rfl,_,SqL.of (st _ _ hpl')⟩,_,rfl,pl,_,_,rfl,rfl,st _ _ hpl',by omega,nxt _ _ _ (by rw [ovI]) st (tdv.tk (TK.of st))⟩
  | fade m =>
   obtain ⟨b,rfl,hb⟩:=td_fade tdv
   refine ⟨_,rfl,b,_,_,_,rfl,rfl,SqT.of hb,atI_nat (j:=0) rfl,rfl,_,rfl,iteN sne (iteF ?_)⟩
   refine ⟨_,rfl,b,_,_,_,rfl,rfl,SqT.of hb,atI_nat (j:=0) rfl,(by show 2 <= sizeLine; decide),fun pt hpt=>⟨pt,_,rfl,.inr (SqT.of upd_same),rfl,rfl,_,rfl,iteN (by decide +kernel) ?_⟩⟩
   have st:=Same.new hpt (.tup [.str "times",.str "back"])
   exact ⟨_,rfl,.inl ⟨rfl,_,SqL.of (st _ _ hpl')⟩,_,rfl,pl,_,_,rfl,rfl,st _ _ hpl',by omega,nxt _ _ _ (by rw [ovI]) st (tdv.tk (TK.of st))⟩
 ·rintro σ H' ⟨ys,us,o5,rfl,hys,hpl',hlen,hus,sm⟩
  have e : ovL o.2 t.2 xs = .inr ys:=by
   rw [hxl,List.take_length] at hys
   exact hys
  rw [e] at q
  refine ⟨_,rfl,pl,_,rfl,.inl ⟨SqL.of hpl',fun pq hpq=>?_⟩⟩
  have st:=Same.new hpq (.tup us)
  exact q pq _ (sm.trans st) (.tup upd_same (hus.tk (TK.of st)))
end
end K38
set_option maxHeartbeats 2000000
namespace K38
open PySem L2 G DT
open IT hiding It
section
variable {P : Program} {w : World} {K : PySem.W.Frag} {mg : Str->Option Value} {base : Heap}
def Ex (p : Addr) (H H' : Hp) : Prop:=∀ b o,b ≠ p->H b = some o->H' b = some o
theorem Ex.refl (p : Addr) (H : Hp) : Ex p H H:=fun _ _ _ h=>h
theorem Ex.of {p : Addr} {H H' : Hp} (s : Same H H') : Ex p H H':=fun b o _ h=>s b o h
theorem Ex.trans {p : Addr} {H H1 H2 : Hp} (a : Ex p H H1) (b : Ex p H1 H2) : Ex p H H2:=fun c o n h=>b c o n (a c o n h)
abbrev Pt:=Str × Addr × List IT.It
def kvsOf (ps : List Pt) : List (Key × V):=ps.map fun x=>(.inr x.1,.ref x.2.1)
structure PD (H : Hp) (d : Addr) (ps : List Pt) : Prop where
 rd : Rd H d (.dK (kvsOf ps))
 td : ∀ x ∈ ps,Td H (.ref x.2.1) (.tuple (dL x.2.2))/\dpL x.2.2 <= 5/\wL x.2.2 <= 1000
theorem rd_tk {H H' : Hp} {d : Addr} {kvs : List (Key × V)} (h : Rd H d (.dK kvs)) (e : Ex d H H') : TK H H':=fun a xs ha=>e a _ (by
 rintro rfl
 rcases h with h | ⟨o,h⟩
 ·rw [h] at ha; cases ha
 ·rw [h] at ha; cases ha) ha
theorem PD.later {H H' : Hp} {d : Addr} {ps : List Pt} (h : PD H d ps) (e : Ex d H H') (r : Rd H' d (.dK (kvsOf ps))) : PD H' d ps:=⟨r,fun x hx=>⟨(h.td x hx).1.tk (rd_tk h.rd e),(h.td x hx).2⟩⟩
theorem PD.same {H H' : Hp} {d : Addr} {ps : List Pt} (h : PD H d ps) (s : Same H H') : PD H' d ps:=h.later (Ex.of s) (by
 rcases h.rd with r | ⟨o,r⟩
 ·exact .inl (s _ _ r)
 ·exact .inr ⟨o,s _ _ r⟩)
theorem RL.ex {H H' : Hp} {p d : Addr} {prs : List (Addr × Reel)} {kvs : List (Key × V)} (h : RL H p prs) (hd : Rd H d (.dK kvs)) (e : Ex d H H') : RL H' p prs:=by
 refine ⟨e _ _ ?_ h.1,fun x hx=>⟨rd_tk hd e _ _ (h.2 x hx).1,(h.2 x hx).2⟩⟩
 rintro rfl
 rcases hd with r | ⟨o,r⟩
 ·rw [h.1] at r; cases r
 ·rw [h.1] at r; cases r
def allOf (xs : List IT.It) (ps : List Pt) : List IT.It:=xs ++ (ps.map fun x=>x.2.2).flatten
theorem all_take (xs : List IT.It) {ps : List Pt} {i : Nat} {x : Pt} (h : ps[i]? = some x) : allOf xs (ps.take (i + 1)) = allOf xs (ps.take i) ++ x.2.2:=by
 unfold allOf
 rw [List.take_add_one,h,Option.toList_some,List.map_append,List.flatten_append,List.append_assoc]
 congr 2
 simp
theorem all_cut (xs : List IT.It) (ps : List Pt) (i : Nat) : allOf xs ps = allOf xs (ps.take i) ++ ((ps.drop i).map fun x=>x.2.2).flatten:=by
 unfold allOf
 rw [List.append_assoc,<- List.flatten_append,<- List.map_append,List.take_append_drop]
def OvP (o t : Reel) (ps ps' : List Pt) : Prop:=ps'.length = ps.length/\∀ (j : Nat) (x : Pt),ps[j]? = some x->∃ y : Pt,ps'[j]? = some y/\y.1 = x.1/\ovL o t x.2.2 = .inr y.2.2
theorem OvP.snoc {o t : Reel} {ps ps' : List Pt} {i : Nat} {x : Pt} {b : Addr} {ws : List IT.It} (h : OvP o t (ps.take i) ps') (hx : ps[i]? = some x) (hw : ovL o t x.2.2 = .inr ws) : OvP o t (ps.take (i + 1)) (ps' ++ [(x.1,b,ws)]):=by
 have hi : i < ps.length:=(List.getElem?_eq_some_iff.mp hx).1
 have hl : ps'.length = i:=by rw [h.1,List.length_take]; omega
 refine ⟨by rw [List.length_append,hl,List.length_take,List.length_singleton]; omega,fun j y hy=>?_⟩
 rw [List.getElem?_take] at hy
 by_cases hj : j < i
 ·rw [if_pos (by omega)] at hy
  obtain ⟨z,hz,r⟩:=h.2 j y (by rw [List.getElem?_take,if_pos hj]; exact hy)
  exact ⟨z,by rw [List.getElem?_append_left (by omega)]; exact hz,r⟩
 ·by_cases e : j = i
  ·subst e
   rw [if_pos (by omega),hx] at hy
   cases hy
   exact ⟨(x.1,b,ws),by rw [List.getElem?_append_right (by omega),hl,Nat.sub_self]; rfl,rfl,hw⟩
  ·rw [if_neg (by omega)] at hy
   cases hy
theorem OvP.names {o t : Reel} {ps ps' : List Pt} (h : OvP o t ps ps') : ps'.map (·.1) = ps.map (·.1):=by
 refine List.ext_getElem? fun j=>?_
 rw [List.getElem?_map,List.getElem?_map]
 cases hj : ps[j]? with
 | none =>
  have : ps.length <= j:=List.getElem?_eq_none_iff.mp hj
  rw [List.getElem?_eq_none (show ps'.length <= j by rw [h.1]; exact this)] <;> rfl
 | some x =>
  obtain ⟨y,hy,e,_⟩:=h.2 j x hj
  rw [hy]
  exact congrArg some e
theorem val_no : ∀ {ps : List Pt} {n : Str},n ∉ ps.map (·.1)->valV (kvsOf ps) (.inr n : Key) = none
 | [],_,_=>rfl
 | x :: r,n,h=>by
  rw [List.map_cons,List.mem_cons,not_or] at h
  show valV (((.inr x.1 : Key),V.ref x.2.1) :: kvsOf r) (.inr n : Key) = none
  rw [valV_neg (fun z=>h.1 (Sum.inr.inj z).symm)]
  exact val_no h.2
theorem nd_take {ps : List Pt} {i : Nat} {x : Pt} (nd : (ps.map (·.1)).Nodup) (hx : ps[i]? = some x) : x.1 ∉ (ps.take i).map (·.1):=fun hm=>by
 have e : (ps.map (·.1)).take (i + 1) = (ps.take i).map (·.1) ++ [x.1]:=by
  rw [<- List.map_take,List.take_add_one,hx,Option.toList_some,List.map_append]
  rfl
 have z : ((ps.map (·.1)).take (i + 1)).Nodup:=nd.sublist (List.take_sublist _ _)
 rw [e,List.nodup_append] at z
 exact z.2.2 _ hm _ (List.mem_singleton.mpr rfl) rfl
theorem kvs_snoc (ps : List Pt) (n : Str) (b : Addr) (ws : List IT.It) (h : n ∉ ps.map (·.1)) : putK (kvsOf ps) (.inr n : Key) (.ref b) = kvsOf (ps ++ [(n,b,ws)]):=by
 rw [putK_new _ (val_no h)]
 unfold kvsOf
 rw [List.map_append]
 rfl
def spBr (CN CF : Addr) : Sp:=fun vs H Q E=>∃ (a d p : Addr) (prs : List (Addr × Reel)) (ps : List Pt) (one other : Str) (xs : List IT.It),vs = [.ref a,.ref d,.ref p,.str one,.str other]/\RL H p prs/\Uq prs/\Td H (.ref a) (.tuple (dL xs))/\dpL xs <= 5/\wL xs <= 1000/\PD H d ps/\(ps.map (·.1)).Nodup/\ps.length <= 10 /\
 ((∀ x ∈ prs,x.2.name ≠ one)->∀ H' dx,Ex d H H'->Rd H' d (.dK (kvsOf ps))->H' dx = some (xdO dx [("name",.str one)])->E (.ref CN) (some dx) H') /\
 (∀ o ∈ prs,o.2.name = one->(∀ x ∈ prs,x.2.name ≠ other)->∀ H' dx,Ex d H H'->Rd H' d (.dK (kvsOf ps))->H' dx = some (xdO dx [("name",.str other)])->E (.ref CN) (some dx) H') /\
 (∀ o ∈ prs,o.2.name = one->∀ t ∈ prs,t.2.name = other->(∀ e,ovL o.2 t.2 (allOf xs ps) = .inl e->∀ H' dx,Ex d H H'->Rd H' d (.dK (kvsOf ps))->H' dx = some (xdO dx [("reel",.str e.1),("frame",e.2)])->E (.ref CF) (some dx) H') /\
  (∀ ys ps',ovL o.2 t.2 xs = .inr ys->OvP o.2 t.2 ps ps'->∀ q a' d' H',Ex d H H'->Rd H' d (.dK (kvsOf ps))->H d' = none->H' d' = some (.dK (kvsOf ps'))->H' q = some (.tup [.ref a',.ref d'])->Td H' (.ref a') (.tuple (dL ys))->(∀ x ∈ ps',Td H' (.ref x.2.1) (.tuple (dL x.2.2)))->Q (.ref q) H'))
theorem scBr : FnScope ["items", "parts", "reels", "one", "other", "told", "told_parts", "name", "part"] ["items", "parts", "reels", "one", "other"] (defScope s_brought_over):=⟨rfl,rfl,rfl,by decide +kernel,rfl,by decide +kernel,by decide +kernel⟩
theorem ok_br {f CN CF : Addr} {fd : FuncData} (F : Fun K "brought_over" "brought_over" s_brought_over f fd) (dNamed : Def P w K mg base (CX1 P w) "reel_named" 3 ["reels", "name"] (spNamed CN)) (dOver : Def P w K mg base (CX1 P w) "over_items" 11 ["items", "reels", "one", "other"] (spOver CF 5)) :
  FnOk P w K mg base (CX1 P w) 12 f fd ["items", "parts", "reels", "one", "other"] (spBr CN CF):=by
 refine F.okX scBr (fun vs H Q E h=>?_) (fun cdv A outer s H vs Q E hr h=>?_)
 ·obtain ⟨a,d,p,prs,ps,one,other,xs,rfl,_⟩:=h
  rfl
 obtain ⟨a,d,p,prs,ps,one,other,xs,rfl,rl,uq,ha,hd4,hw,pd,nd,hpl,e1,e2,e3⟩:=h
 refine useQ (ss_cons (s_expr (e_call dNamed hr passX (a_cons (e_v 2) (a_cons (e_v 3) a_nil)) (hj:=by omega)))
  (ss_cons (s_expr (e_call dNamed hr passX (a_cons (e_v 2) (a_cons (e_v 4) a_nil)) (hj:=by omega)))
  (ss_cons (s_set (i:=5) scBr.nd (e_call dOver hr passX (a_cons (e_v 0) (a_cons (e_v 2) (a_cons (e_v 3) (a_cons (e_v 4) a_nil)))) (hj:=by omega)))
  (ss_cons (s_set (i:=6) scBr.nd e_dnew)
  (ss_cons (s_for PassesOwn.leaving rfl (i_items (e_v 1)) (g_tup rfl (gs_cons (g_name (i:=7) scBr.nd) (gs_cons (g_name (i:=8) scBr.nd) gs_nil)))
   (ss_one (s_dput (hu_of hr) (e_v 6) (e_v 7) (e_call dOver hr passX (a_cons (e_v 8) (a_cons (e_v 2) (a_cons (e_v 3) (a_cons (e_v 4) a_nil)))) (hj:=by omega)))))
  (ss_one (s_ret (e_tup (a_cons (e_v 5) (a_cons (e_v 6) a_nil)))))))))) ?_
 refine ⟨_,rfl,_,rfl,p,prs,one,rfl,rl,fun o ho hon H1 s1=>?_,fun hn H1 dx s1 hdx=>e1 hn H1 dx (Ex.of s1) (pd.same s1).rd hdx⟩
 refine ⟨_,rfl,_,rfl,p,prs,other,rfl,rl.same s1,fun t ht hto H2 s2=>?_,fun hn H2 dx s2 hdx=>e2 o ho hon hn H2 dx (Ex.of (s1.trans s2)) (pd.same (s1.trans s2)).rd hdx⟩
 have S2:=s1.trans s2
 obtain ⟨e4,e5⟩:=e3 o ho hon t ht hto
 subst hon hto
 refine ⟨_,rfl,_,rfl,_,rfl,_,rfl,a,p,prs,o,t,xs,rfl,rl.same S2,uq,ho,ht,ha.tk (TK.of S2),hd4,by omega,?_⟩
 cases hz : ovL o.2 t.2 xs with
 | inl e=>exact fun H3 dx s3 hdx=>e4 e (ovL_bad _ _ hz) H3 dx (Ex.of (S2.trans s3)) (pd.same (S2.trans s3)).rd hdx
 | inr ys =>
  intro pt H3 s3 htd
  have S3:=S2.trans s3
  refine fun pk hpk=>?_
  have hpk0 : H pk = none:=S3.free hpk
  have s4:=Same.new hpk (.dK [])
  have S4:=S3.trans s4
  refine ⟨_,rfl,d,_,rfl,(pd.same S4).rd,fun ob H5 h5d h5o=>?_⟩
  have x5 : Ex d H H5:=(Ex.of S4).trans fun b o' hb h=>by rw [h5o b hb]; exact h
  have t45 : TK (upd H3 pk (.dK [])) H5:=fun b xs' hb=>by
   by_cases e : b = d
   ·subst e
    rcases (pd.same S4).rd with r | ⟨_,r⟩ <;> rw [r] at hb <;> cases hb
   ·rw [h5o b e]; exact hb
  have ndk : d ≠ pk:=by
   rintro rfl
   rcases pd.rd with r | ⟨_,r⟩
   ·rw [hpk0] at r; cases r
   ·rw [hpk0] at r; cases r
  have h5k : H5 pk = some (.dK []):=by rw [h5o pk (Ne.symm ndk)]; exact upd_same
  refine for_items (fun i σ H'=>∃ (o7 o8 : Option V) (ps' : List Pt) (zs : List IT.It),σ = [some (.ref a),some (.ref d),some (.ref p),some (.str o.2.name),some (.str t.2.name),some (.ref pt),some (.ref pk),o7,o8]/\H' d = some (.frz ob (.dK (kvsOf ps)))/\Ex d H H'/\H' pk = some (.dK (kvsOf ps'))/\OvP o.2 t.2 (ps.take i) ps'/\Td H' (.ref pt) (.tuple (dL ys))/\(∀ x ∈ ps',Td H' (.ref x.2.1) (.tuple (dL x.2.2)))/\ovL o.2 t.2 (allOf xs (ps.take i)) = .inr zs)
   ⟨none,none,[],ys,rfl,h5d,x5,h5k,⟨by simp,fun j x hx=>by rw [List.take_zero] at hx; cases hx⟩,(htd.tk (TK.of s4)).tk t45,(fun x hx=>nomatch hx),(by rw [List.take_zero]; unfold allOf; rw [List.map_nil,List.flatten_nil,List.append_nil]; exact hz)⟩ (fun i σ H' _ ⟨_,_,_,_,_,h,_⟩=>h) ?_ ?_
  ·rintro i kv pq σ H' hkv ⟨o7,o8,ps',zs,rfl,hd',ex,hk',hop,hto',hpt',hov⟩ hpq
   obtain ⟨x,hx,rfl⟩ : ∃ x,ps[i]? = some x/\kv = (.inr x.1,.ref x.2.1):=by
    unfold kvsOf at hkv
    rw [List.getElem?_map] at hkv
    cases z : ps[i]? with
    | none=>rw [z] at hkv; cases hkv
    | some x=>rw [z] at hkv; exact ⟨x,rfl,(Option.some.inj hkv).symm⟩
   have hxm : x ∈ ps:=List.mem_of_getElem? hx
   have hil : i < ps.length:=(List.getElem?_eq_some_iff.mp hx).1
   have s6:=Same.new hpq (.tup [kV (.inr x.1 : Key),.ref x.2.1])
   have PD6:=(pd.later ex (.inr ⟨ob,hd'⟩)).same s6
   have x6:=ex.trans (Ex.of s6)
   refine ⟨pq,_,rfl,SqT.of upd_same,rfl,_,_,rfl,_,_,rfl,rfl,?_⟩
   refine ⟨_,rfl,_,rfl,_,rfl,_,rfl,x.2.1,p,prs,o,t,x.2.2,rfl,(RL.ex rl pd.rd ex).same s6,uq,ho,ht,(PD6.td x hxm).1,(pd.td x hxm).2.1,(by have:=(pd.td x hxm).2.2; omega),?_⟩
   cases hy : ovL o.2 t.2 x.2.2 with
   | inl e =>
    intro H7 dx s7 hdx
    refine e4 e ?_ H7 dx (x6.trans (Ex.of s7)) (PD6.same s7).rd hdx
    rw [all_cut xs ps (i + 1),all_take xs hx]
    exact ovL_bad _ _ (by rw [ovL_app _ _ hov,hy])
   | inr ws =>
    intro pr H7 s7 htd7
    have zl : sizeLine = 16777216:=sizeLine_eq
    have hd7:=s7 _ _ (s6 _ _ hd')
    have hk7:=s7 _ _ (s6 _ _ hk')
    refine ⟨_,rfl,_,rfl,pk,_,rfl,.inl ⟨kvsOf ps',.inr x.1,hk7,rfl,(by unfold kvsOf; rw [List.length_map,hop.1,List.length_take]; omega),rfl⟩,?_⟩
    have tkk : TK H' (upd H7 pk (.dK (putK (kvsOf ps') (.inr x.1) (.ref pr)))):=(TK.of (s6.trans s7)).trans (TK.dk hk7)
    refine ⟨_,_,ps' ++ [(x.1,pr,ws)],zs ++ ws,rfl,?_,fun b ob' hb h=>?_,(by rw [upd_same,kvs_snoc ps' x.1 pr ws (by rw [hop.names]; exact nd_take nd hx)]),hop.snoc hx hy,hto'.tk tkk,(fun y hy'=>?_),?_⟩
    ·rw [upd_ne ndk]
     exact hd7
    ·rw [upd_ne (ne_of_none h hpk0)]
     exact s7 _ _ (x6 b ob' hb h)
    ·rcases List.mem_append.mp hy' with z | z
     ·exact (hpt' y z).tk tkk
     ·rw [List.mem_singleton.mp z]
      exact htd7.tk (TK.dk hk7)
    ·rw [all_take xs hx,ovL_app _ _ hov,hy]
  ·rintro σ H' ⟨o7,o8,ps',zs,rfl,hd',ex,hk',hop,hto',hpt',hov⟩
   have eop : OvP o.2 t.2 ps ps':=by
    unfold kvsOf at hop
    rw [List.length_map,List.take_length] at hop
    exact hop
   refine ⟨_,rfl,_,rfl,(by show 2 <= sizeLine; decide),fun pr hpr=>?_⟩
   have s6:=Same.new hpr (.tup [.ref pt,.ref pk])
   exact e5 ys ps' hz eop pr pt pk _ (ex.trans (Ex.of s6)) ((pd.later ex (.inr ⟨ob,hd'⟩)).same s6).rd hpk0 (s6 _ _ hk') upd_same (hto'.tk (TK.of s6)) fun x hx=>(hpt' x hx).tk (TK.of s6)
end
end K38
set_option maxHeartbeats 2000000
namespace K38
open PySem L2 G DT
open IT hiding It
section
variable {P : Program} {w : World} {K : PySem.W.Frag} {mg : Str->Option Value} {base : Heap}
def nmAll : List (List Str):=[["a", "bo", "reel"],["a", "bo", "reel", "zz"],["bo", "a", "reel"],["bo", "a", "reel", "zz"]]
def spPair : Sp:=fun vs H Q _=>∃ c : Int,vs = [.int c]/\∀ (l : Addr) (prs : List (Addr × Reel)) (H' : Hp),Same H H'->H l = none->RL H' l prs->prs.map (fun x=>x.2.name) ∈ nmAll->Q (.ref l) H'
theorem scPair : FnScope ["_law_cell_here", "_law_xs", "_law_start", "_law_many", "_law_one", "_law_ahead", "_law_size", "_law_other", "_law_more"] ["_law_cell_here"] (defScope s__law_pair):=⟨rfl,rfl,rfl,by decide +kernel,rfl,by decide +kernel,by decide +kernel⟩
theorem ok_pair {f : Addr} {fd : FuncData} (F : Fun K "_law_pair" "_law_pair" s__law_pair f fd) (dNum : Def P w K mg base CX0 "_law_numbers" 1 ["_law_cell_here", "_law_many"] spNum) (n_min : mg "min" = none) : FnOk P w K mg base CX0 2 f fd ["_law_cell_here"] spPair:=by
 refine F.ok scPair (fun vs H Q E h=>?_) (fun cdv A outer s H vs Q E hr h=>?_)
 ·obtain ⟨c,rfl,_⟩:=h
  rfl
 obtain ⟨c,rfl,q⟩:=h
 refine useQ (ss_cons (s_set (i:=1) scPair.nd (e_call dNum hr pass0 (a_cons (e_v 0) (a_cons e_int a_nil))))
  (ss_cons (s_set (i:=2) scPair.nd (e_ix ix_list (e_lst (a_cons (e_op op_add e_int (e_op op_mod (e_ix ix_list (e_v 1) e_int) e_int)) (a_cons (e_op op_add e_int (e_op op_mod (e_ix ix_list (e_v 1) e_int) e_int)) a_nil))) (e_op op_mod (e_ix ix_list (e_v 1) e_int) e_int)))
  (ss_cons (s_set (i:=3) scPair.nd (e_op op_add e_int (e_op op_mod (e_ix ix_list (e_v 1) e_int) e_int)))
  (ss_cons (s_set (i:=4) scPair.nd (e_tup (a_cons e_str (a_cons e_str (a_cons (e_v 2) (a_cons (e_v 3) a_nil))))))
  (ss_cons (s_set (i:=5) scPair.nd (e_op op_mod (e_ix ix_list (e_v 1) e_int) e_int))
  (ss_cons (s_set (i:=6) scPair.nd (e_b (call_min2 rfl) n_min (by decide +kernel) (a_cons (e_op op_add (e_op op_add (e_v 5) (e_v 3)) (e_op op_mod (e_ix ix_list (e_v 1) e_int) e_int)) (a_cons (e_op op_add (e_op op_sub e_int (e_v 2)) (e_v 5)) a_nil))))
  (ss_cons (s_set (i:=7) scPair.nd (e_tup (a_cons e_str (a_cons e_str (a_cons (e_op op_sub (e_v 2) (e_v 5)) (a_cons (e_v 6) a_nil))))))
  (ss_cons (s_cut (s_if (t_cmp op_eq (e_op op_mod (e_ix ix_list (e_v 1) e_int) e_int) e_int)
   (ss_one (s_set (i:=7) scPair.nd (e_tup (a_cons e_str (a_cons (e_ix ix_list (e_lst (a_cons e_str (a_cons e_str a_nil))) (e_op op_mod (e_ix ix_list (e_v 1) e_int) e_int)) (a_cons (e_op op_sub (e_v 2) (e_v 5)) (a_cons (e_op op_add e_int (e_op op_mod (e_op op_fdiv (e_ix ix_list (e_v 1) e_int) e_int) (e_v 6))) a_nil)))))))
   ss_nil))
  (ss_cons (s_set (i:=8) scPair.nd (e_lst (a_cons (e_tup (a_cons e_str (a_cons e_str (a_cons (e_v 2) (a_cons (e_op op_add e_int (e_op op_mod (e_ix ix_list (e_v 1) e_int) e_int)) a_nil))))) (a_cons (e_tup (a_cons e_str (a_cons e_str (a_cons e_int (a_cons e_int a_nil))))) a_nil))))
  (ss_one (s_ret (e_op op_cat (e_ix ix_list (e_lst (a_cons (e_lst (a_cons (e_v 4) (a_cons (e_v 7) a_nil))) (a_cons (e_lst (a_cons (e_v 7) (a_cons (e_v 4) a_nil))) a_nil))) (e_op op_mod (e_op op_fdiv (e_ix ix_list (e_v 1) e_int) e_int) e_int)) (e_sl sl_list (e_v 8) o_none (o_some (e_op op_add e_int (e_op op_mod (e_op op_fdiv (e_ix ix_list (e_v 1) e_int) e_int) e_int)))))))))))))))) ?_
 have zl : sizeLine = 16777216:=sizeLine_eq
 refine ⟨_,rfl,c,8,rfl,by decide,fun px ns H1 s1 hl hpx0 hpx=>?_⟩
 have k0 : 0 < ns.length:=by omega
 have k1 : 1 < ns.length:=by omega
 have k2 : 2 < ns.length:=by omega
 have k3 : 3 < ns.length:=by omega
 have k4 : 4 < ns.length:=by omega
 have k5 : 5 < ns.length:=by omega
 have k6 : 6 < ns.length:=by omega
 have k7 : 7 < ns.length:=by omega
 have lx : ∀ {H' : Hp},Same H1 H'->SqL K H' px (ns.map V.int):=fun t=>SqL.of (t _ _ hpx)
 have l0:=lx (Same.refl _)
 refine ⟨_,rfl,px,_,_,_,rfl,rfl,l0,atI_nat (j:=0) (get_int k0),_,_,rfl,rfl,(by show (0 : Int) < 30; decide),_,_,rfl,rfl,_,rfl,px,_,_,_,rfl,rfl,l0,atI_nat (j:=0) (get_int k0),_,_,rfl,rfl,(by show (0 : Int) < 159900; decide),_,_,rfl,rfl,(by show 2 <= sizeLine; decide),fun p1 hp1=>?_⟩
 have t1:=Same.new hp1 (.lst [V.int (20 + ns[0] % 30),.int (20 + ns[0] % 159900)])
 obtain ⟨v2,hv2,hm2⟩:=at_list (xs:=[V.int (20 + ns[0] % 30),.int (20 + ns[0] % 159900)]) (i:=ns[1] % 2) (by omega) (by show _ < (2 : Int); omega)
 obtain ⟨st,rfl,st0,st1⟩ : ∃ st : Int,v2 = .int st/\20 <= st/\st <= 159919:=by
  simp only [List.mem_cons,List.not_mem_nil,or_false] at hm2
  rcases hm2 with rfl | rfl
  ·exact ⟨_,rfl,by omega,by omega⟩
  ·exact ⟨_,rfl,by omega,by omega⟩
 refine ⟨_,rfl,px,_,_,_,rfl,rfl,lx t1,atI_nat (j:=1) (get_int k1),_,_,rfl,rfl,(by show (0 : Int) < 2; decide),p1,_,_,_,rfl,rfl,SqL.of upd_same,hv2,?_⟩
 refine ⟨_,rfl,px,_,_,_,rfl,rfl,lx t1,atI_nat (j:=2) (get_int k2),_,_,rfl,rfl,(by show (0 : Int) < 39; decide),_,_,rfl,rfl,?_⟩
 refine ⟨_,rfl,_,rfl,(by show 4 <= sizeLine; decide),fun po hpo=>?_⟩
 have t2:=t1.trans (Same.new hpo (.tup [.str "a",.str "AB",.int st,.int (1 + ns[2] % 39)]))
 have ho : upd (upd H1 p1 (.lst [V.int (20 + ns[0] % 30),.int (20 + ns[0] % 159900)])) po (.tup [.str "a",.str "AB",.int st,.int (1 + ns[2] % 39)]) po = some (.tup [.str "a",.str "AB",.int st,.int (1 + ns[2] % 39)]):=upd_same
 generalize upd (upd H1 p1 (.lst [V.int (20 + ns[0] % 30),.int (20 + ns[0] % 159900)])) po (.tup [.str "a",.str "AB",.int st,.int (1 + ns[2] % 39)]) = H2 at t2 ho ⊢
 refine ⟨_,rfl,px,_,_,_,rfl,rfl,lx t2,atI_nat (j:=3) (get_int k3),_,_,rfl,rfl,(by show (0 : Int) < 20; decide),?_⟩
 refine ⟨_,rfl,_,rfl,_,_,rfl,rfl,_,rfl,px,_,_,_,rfl,rfl,lx t2,atI_nat (j:=4) (get_int k4),_,_,rfl,rfl,(by show (0 : Int) < 12; decide),_,_,rfl,rfl,_,rfl,_,_,rfl,rfl,_,rfl,_,_,rfl,rfl,_,_,rfl,?_⟩
 obtain ⟨sz,esz,sz0,sz1⟩ : ∃ sz : Int,(if (160000 : Int) - st + ns[3] % (20 : Int) < ns[3] % (20 : Int) + ((1 : Int) + ns[2] % (39 : Int)) + ns[4] % (12 : Int) then (160000 : Int) - st + ns[3] % (20 : Int) else ns[3] % (20 : Int) + ((1 : Int) + ns[2] % (39 : Int)) + ns[4] % (12 : Int)) = sz/\1 <= sz/\sz <= 160000:=⟨_,rfl,by split <;> omega,by split <;> omega⟩
 rw [esz]
 refine ⟨_,rfl,_,rfl,_,_,rfl,rfl,_,rfl,(by show 4 <= sizeLine; decide),fun pt hpt=>?_⟩
 have t3:=t2.trans (Same.new hpt (.tup [.str "bo",.str "AB",.int (st - ns[3] % 20),.int sz]))
 have ho3:=Same.new hpt (.tup [.str "bo",.str "AB",.int (st - ns[3] % 20),.int sz]) _ _ ho
 have ht3 : upd H2 pt (.tup [.str "bo",.str "AB",.int (st - ns[3] % 20),.int sz]) pt = some (.tup [.str "bo",.str "AB",.int (st - ns[3] % 20),.int sz]):=upd_same
 generalize upd H2 pt (.tup [.str "bo",.str "AB",.int (st - ns[3] % 20),.int sz]) = H3 at t3 ho3 ht3 ⊢
 refine ⟨fun σ' H'=>∃ (pt : Addr) (lt : Str) (b m : Int),σ' = [some (.int c),some (.ref px),some (.int st),some (.int (1 + ns[2] % 39)),some (.ref po),some (.int (ns[3] % 20)),some (.int sz),some (.ref pt),none]/\Same H1 H'/\H' po = some (.tup [.str "a",.str "AB",.int st,.int (1 + ns[2] % 39)])/\H' pt = some (.tup [.str "bo",.str lt,.int b,.int m])/\Fine lt/\1 <= m/\m <= 160000,?_,?_⟩
 ·refine ⟨_,rfl,px,_,_,_,rfl,rfl,lx t3,atI_nat (j:=5) (get_int k5),_,_,rfl,rfl,(by show (0 : Int) < 6; decide),rfl,_,rfl,ite2 (fun _=>?_) (fun _=>?_)⟩
  ·refine ⟨(by show 2 <= sizeLine; decide),fun p2 hp2=>?_⟩
   have u1:=Same.new hp2 (.lst ([("AB" : Str), "BB"].map V.str))
   obtain ⟨v3,hv3,hm3⟩:=at_list (xs:=[V.str "AB",.str "BB"]) (i:=ns[6] % 2) (by omega) (by show _ < (2 : Int); omega)
   obtain ⟨lt,rfl,hlf⟩ : ∃ lt : Str,v3 = .str lt/\Fine lt:=by
    simp only [List.mem_cons,List.not_mem_nil,or_false] at hm3
    rcases hm3 with rfl | rfl
    ·exact ⟨_,rfl,by decide +kernel⟩
    ·exact ⟨_,rfl,by decide +kernel⟩
   have b0:=Int.emod_nonneg (ns[6] / 2) (show sz ≠ 0 by omega)
   have b1:=Int.emod_lt_of_pos (ns[6] / 2) (show 0 < sz by omega)
   refine ⟨_,rfl,px,_,_,_,rfl,rfl,lx (t3.trans u1),atI_nat (j:=6) (get_int k6),_,_,rfl,rfl,(by show (0 : Int) < 2; decide),p2,_,_,_,rfl,rfl,SqL.of upd_same,hv3,_,rfl,_,rfl,_,_,rfl,rfl,_,rfl,px,_,_,_,rfl,rfl,lx (t3.trans u1),atI_nat (j:=6) (get_int k6),_,_,rfl,rfl,⟨by decide,by decide⟩,_,rfl,_,_,rfl,rfl,(by show (0 : Int) < sz; omega),_,_,rfl,rfl,(by show 4 <= sizeLine; decide),fun p3 hp3=>?_⟩
   have u2:=Same.new hp3 (.tup [.str "bo",.str lt,.int (st - ns[3] % 20),.int (1 + ns[6] / 2 % sz)])
   exact ⟨p3,lt,_,_,rfl,(t3.trans u1).trans u2,(u1.trans u2) _ _ ho3,upd_same,hlf,by omega,by omega⟩
  ·exact ⟨pt,_,_,_,rfl,t3,ho3,ht3,by decide +kernel,sz0,sz1⟩
 rintro σ H4 ⟨pt,lt,b,m,rfl,t4,ho4,ht4,hlf,m0,m1⟩
 refine ⟨_,rfl,_,rfl,px,_,_,_,rfl,rfl,lx t4,atI_nat (j:=7) (get_int k7),_,_,rfl,rfl,(by show (0 : Int) < 30; decide),_,_,rfl,rfl,(by show 4 <= sizeLine; decide),fun pr hpr=>⟨(by show 4 <= sizeLine; decide),fun pz hpz=>⟨(by show 2 <= sizeLine; decide),fun pm hpm=>?_⟩⟩⟩
 have u1:=Same.new hpr (.tup [.str "reel",.str "AB",.int st,.int (1 + ns[7] % 30)])
 have u2:=Same.new hpz (.tup [.str "zz",.str "QZ",.int 0,.int 40])
 have u3:=Same.new hpm (.lst [.ref pr,.ref pz])
 have U3:=(u1.trans u2).trans u3
 have fin : ∀ (G : Hp) (x y l : Addr) (zs : List V),Same H4 G->G pr = some (.tup [.str "reel",.str "AB",.int st,.int (1 + ns[7] % 30)])->G pz = some (.tup [.str "zz",.str "QZ",.int 0,.int 40])->((x = po/\y = pt) \/ (x = pt/\y = po))->(zs = [.ref pr] \/ zs = [.ref pr,.ref pz])->G l = none->Q (.ref l) (upd G l (.lst ([.ref x,.ref y] ++ zs))):=by
  intro G x y l zs sg hr hz hxy hzs hg
  have sn:=Same.new hg (.lst ([.ref x,.ref y] ++ zs))
  have S:=(s1.trans t4).trans (sg.trans sn)
  have fr : H l = none:=(s1.trans (t4.trans sg)).free hg
  let ro : Reel:=⟨"a", "AB",st,1 + ns[2] % 39⟩
  let rt : Reel:=⟨"bo",lt,b,m⟩
  let rr : Reel:=⟨"reel", "AB",st,1 + ns[7] % 30⟩
  let rz : Reel:=⟨"zz", "QZ",0,40⟩
  have oo : upd G l (.lst ([.ref x,.ref y] ++ zs)) po = some (.tup ro.vs)/\ROk ro:=⟨sn _ _ (sg _ _ ho4),⟨by show (1 : Nat) <= 100; decide,by show Fine "a"; decide +kernel,by show Fine "AB"; decide +kernel,by show 1 <= 1 + ns[2] % 39; omega,by show 1 + ns[2] % 39 <= 160000; omega⟩⟩
  have ot : upd G l (.lst ([.ref x,.ref y] ++ zs)) pt = some (.tup rt.vs)/\ROk rt:=⟨sn _ _ (sg _ _ ht4),⟨by show (2 : Nat) <= 100; decide,by show Fine "bo"; decide +kernel,hlf,m0,m1⟩⟩
  have or' : upd G l (.lst ([.ref x,.ref y] ++ zs)) pr = some (.tup rr.vs)/\ROk rr:=⟨sn _ _ hr,⟨by show (4 : Nat) <= 100; decide,by show Fine "reel"; decide +kernel,by show Fine "AB"; decide +kernel,by show 1 <= 1 + ns[7] % 30; omega,by show 1 + ns[7] % 30 <= 160000; omega⟩⟩
  have oz : upd G l (.lst ([.ref x,.ref y] ++ zs)) pz = some (.tup rz.vs)/\ROk rz:=⟨sn _ _ hz,⟨by decide +kernel,by decide +kernel,by decide +kernel,by decide,by decide⟩⟩
  rcases hxy with ⟨rfl,rfl⟩ | ⟨rfl,rfl⟩ <;> rcases hzs with rfl | rfl
  ·exact q l [(x,ro),(y,rt),(pr,rr)] _ S fr ⟨upd_same,fun z hz=>by simp only [List.mem_cons,List.not_mem_nil,or_false] at hz; rcases hz with rfl | rfl | rfl <;> first | exact oo | exact ot | exact or' | exact oz⟩ (by show [("a" : Str), "bo", "reel"] ∈ nmAll; decide +kernel)
  ·exact q l [(x,ro),(y,rt),(pr,rr),(pz,rz)] _ S fr ⟨upd_same,fun z hz=>by simp only [List.mem_cons,List.not_mem_nil,or_false] at hz; rcases hz with rfl | rfl | rfl | rfl <;> first | exact oo | exact ot | exact or' | exact oz⟩ (by show [("a" : Str), "bo", "reel", "zz"] ∈ nmAll; decide +kernel)
  ·exact q l [(x,rt),(y,ro),(pr,rr)] _ S fr ⟨upd_same,fun z hz=>by simp only [List.mem_cons,List.not_mem_nil,or_false] at hz; rcases hz with rfl | rfl | rfl <;> first | exact oo | exact ot | exact or' | exact oz⟩ (by show [("bo" : Str), "a", "reel"] ∈ nmAll; decide +kernel)
  ·exact q l [(x,rt),(y,ro),(pr,rr),(pz,rz)] _ S fr ⟨upd_same,fun z hz=>by simp only [List.mem_cons,List.not_mem_nil,or_false] at hz; rcases hz with rfl | rfl | rfl | rfl <;> first | exact oo | exact ot | exact or' | exact oz⟩ (by show [("bo" : Str), "a", "reel", "zz"] ∈ nmAll; decide +kernel)
 refine ⟨_,rfl,_,rfl,(by show 2 <= sizeLine; decide),fun p2 hp2=>⟨_,rfl,_,rfl,(by show 2 <= sizeLine; decide),fun p3 hp3=>⟨(by show 2 <= sizeLine; decide),fun p4 hp4=>?_⟩⟩⟩
 have u4:=Same.new hp2 (.lst [.ref po,.ref pt])
 have u5:=Same.new hp3 (.lst [.ref pt,.ref po])
 have u6:=Same.new hp4 (.lst [.ref p2,.ref p3])
 have U6:=((U3.trans u4).trans u5).trans u6
 have h2':=(u5.trans u6) _ _ (upd_same (a:=p2) (o:=.lst [V.ref po,.ref pt]))
 have h3':=u6 _ _ (upd_same (a:=p3) (o:=.lst [V.ref pt,.ref po]))
 obtain ⟨v4,hv4,hm4⟩:=at_list (xs:=[V.ref p2,.ref p3]) (i:=ns[6] / 64 % 2) (by omega) (by show _ < (2 : Int); omega)
 have h4' : ∃ p5 x y : Addr,v4 = .ref p5/\((x = po/\y = pt) \/ (x = pt/\y = po))/\(p5 = p2/\x = po/\y = pt \/ p5 = p3/\x = pt/\y = po):=by
  simp only [List.mem_cons,List.not_mem_nil,or_false] at hm4
  rcases hm4 with rfl | rfl
  ·exact ⟨_,_,_,rfl,.inl ⟨rfl,rfl⟩,.inl ⟨rfl,rfl,rfl⟩⟩
  ·exact ⟨_,_,_,rfl,.inr ⟨rfl,rfl⟩,.inr ⟨rfl,rfl,rfl⟩⟩
 obtain ⟨p5,x,y,rfl,hxy,h5⟩:=h4'
 have hcut : cutV [V.ref pr,.ref pz] none (some ((1 : Int) + ns[7] / (32 : Int) % (2 : Int))) = [.ref pr] \/ cutV [V.ref pr,.ref pz] none (some ((1 : Int) + ns[7] / (32 : Int) % (2 : Int))) = [.ref pr,.ref pz]:=by
  rcases (show ns[7] / 32 % 2 = 0 \/ ns[7] / 32 % 2 = 1 by omega) with z | z <;> rw [z]
  ·exact .inl rfl
  ·exact .inr rfl
 refine ⟨_,rfl,px,_,_,_,rfl,rfl,lx (t4.trans U6),atI_nat (j:=6) (get_int k6),_,_,rfl,rfl,⟨by decide,by decide⟩,_,_,rfl,rfl,(by show (0 : Int) < 2; decide),p4,_,_,_,rfl,rfl,SqL.of upd_same,hv4,_,rfl,_,rfl,px,_,_,_,rfl,rfl,lx (t4.trans U6),atI_nat (j:=7) (get_int k7),_,_,rfl,rfl,⟨by decide,by decide⟩,_,_,rfl,rfl,(by show (0 : Int) < 2; decide),_,_,rfl,rfl,_,rfl,pm,_,rfl,SqL.of ((u4.trans (u5.trans u6)) _ _ upd_same),fun p6 hp6=>?_⟩
 have u7:=Same.new hp6 (.lst (cutV [V.ref pr,.ref pz] none (some ((1 : Int) + ns[7] / (32 : Int) % (2 : Int)))))
 rcases h5 with ⟨rfl,rfl,rfl⟩ | ⟨rfl,rfl,rfl⟩
 ·refine ⟨_,p6,_,_,rfl,rfl,u7 _ _ h2',upd_same,(by rcases hcut with z | z <;> rw [z] <;> (rw [zl]; simp)),fun p7 hp7=>?_⟩
  exact fin _ _ _ p7 _ (U6.trans u7) ((u2.trans (u3.trans (u4.trans (u5.trans (u6.trans u7))))) _ _ upd_same) ((u3.trans (u4.trans (u5.trans (u6.trans u7)))) _ _ upd_same) hxy hcut hp7
 ·refine ⟨_,p6,_,_,rfl,rfl,u7 _ _ h3',upd_same,(by rcases hcut with z | z <;> rw [z] <;> (rw [zl]; simp)),fun p7 hp7=>?_⟩
  exact fin _ _ _ p7 _ (U6.trans u7) ((u2.trans (u3.trans (u4.trans (u5.trans (u6.trans u7))))) _ _ upd_same) ((u3.trans (u4.trans (u5.trans (u6.trans u7)))) _ _ upd_same) hxy hcut hp7
end
end K38
set_option maxHeartbeats 2000000
namespace K38
open PySem L2 G DT
open IT hiding It
mutual
inductive UI (T : Str->Int->Int->Prop) (N : List Str) : IT.It->Prop
 | clip {r : Str} {f l : Int} : Fine r->T r f l->UI T N (.clip r f l)
 | times {m : Int} {xs : List IT.It} : 1 <= m->m <= 20->UL T N xs->UI T N (.times m xs)
 | back {xs : List IT.It} : UL T N xs->UI T N (.back xs)
 | part {n : Str} : Fine n->n ∈ N->UI T N (.part n [])
inductive UL (T : Str->Int->Int->Prop) (N : List Str) : List IT.It->Prop
 | one {x : IT.It} : UI T N x->UL T N [x]
 | cons {x : IT.It} {r : List IT.It} : UI T N x->UL T N r->UL T N (x :: r)
 | fade {x : IT.It} {m : Int} {r : List IT.It} : 0 <= m->UI T N x->UL T N r->UL T N (x :: .fade m :: r)
end
theorem UL.app {T : Str->Int->Int->Prop} {N : List Str} : ∀ {p q : List IT.It},UL T N p->UL T N q->UL T N (p ++ q)
 | _,_,.one h,k=>.cons h k
 | _,_,.cons h t,k=>.cons h (t.app k)
 | _,_,.fade z h t,k=>.fade z h (t.app k)
def U0 (T : Str->Int->Int->Prop) (N : List Str) (xs : List IT.It) : Prop:=xs = [] \/ UL T N xs
theorem U0.app {T : Str->Int->Int->Prop} {N : List Str} {p q : List IT.It} (h : U0 T N p) (k : UL T N q) : U0 T N (p ++ q):=by
 rcases h with rfl | h
 ·exact .inr k
 ·exact .inr (h.app k)
theorem U0.ne {T : Str->Int->Int->Prop} {N : List Str} {p : List IT.It} (h : U0 T N p) (n : ¬ decide (dL p = []) = true) : UL T N p:=by
 rcases h with rfl | h
 ·exact absurd (decide_eq_true (by rw [dL])) n
 ·exact h
end K38
set_option maxHeartbeats 2000000
namespace K38
open PySem L2 G DT
open IT hiding It
mutual
def gI (T : Str->Int->Int->Prop) : IT.It->Prop
 | .clip r f l=>Fine r/\T r f l
 | .times _ xs=>gL T xs
 | .back xs=>gL T xs
 | .part n xs=>Fine n/\xs = []
 | .fade _=>True
def gL (T : Str->Int->Int->Prop) : List IT.It->Prop
 | []=>True
 | x :: r=>gI T x/\gL T r
end
theorem gL_one {T : Str->Int->Int->Prop} {x : IT.It} (h : gI T x) : gL T [x]:=by rw [gL,gL]; exact ⟨h,trivial⟩
theorem gL_nil {T : Str->Int->Int->Prop} : gL T []:=by rw [gL]; trivial
theorem lay_i (i : Int) : (PyData.int i).canLay0 = true:=by simp [PyData.canLay0]
mutual
theorem lay_I {T : Str->Int->Int->Prop} : ∀ {x : IT.It},gI T x->(dI x).canLay0 = true
 | .clip r f l,h=>by
  rw [gI] at h
  rw [dI]
  simp only [PyData.canLay0,PyData.canLayAll0,Bool.and_true,Bool.and_eq_true]
  exact ⟨by decide +kernel,h.1⟩
 | .times m xs,h=>by
  rw [gI] at h
  have:=lay_Ls h
  rw [dI]
  simp only [PyData.canLay0,PyData.canLayAll0,Bool.and_true,Bool.and_eq_true,this]
  decide +kernel
 | .back xs,h=>by
  rw [gI] at h
  have:=lay_Ls h
  rw [dI]
  simp only [PyData.canLay0,PyData.canLayAll0,Bool.and_true,Bool.and_eq_true,this]
  decide +kernel
 | .part n xs,h=>by
  rw [gI] at h
  rw [dI]
  simp only [PyData.canLay0,PyData.canLayAll0,Bool.and_true,Bool.and_eq_true]
  exact ⟨by decide +kernel,h.1⟩
 | .fade m,h=>by
  rw [dI]
  simp only [PyData.canLay0,PyData.canLayAll0,Bool.and_true,Bool.and_eq_true]
  decide +kernel
theorem lay_Ls {T : Str->Int->Int->Prop} : ∀ {xs : List IT.It},gL T xs->PyData.canLayAll0 (dL xs) = true
 | [],_=>by rw [dL]; rfl
 | x :: r,h=>by
  rw [gL] at h
  rw [dL]
  simp only [PyData.canLayAll0,Bool.and_eq_true]
  exact ⟨lay_I h.1,lay_Ls h.2⟩
end
theorem denIs {K : PySem.W.Frag} {H : Hp} : ∀ ns : List Int,DenAll K H (ns.map V.int) (ns.map PyData.int)
 | []=>.nil
 | n :: ns=>.cons (.int n) (denIs ns)
theorem denSs {K : PySem.W.Frag} {H : Hp} : ∀ ns : List Str,DenAll K H (ns.map V.str) (ns.map PyData.str)
 | []=>.nil
 | n :: ns=>.cons (.str n) (denSs ns)
mutual
theorem UI.g {T : Str->Int->Int->Prop} {N : List Str} : ∀ {x : IT.It},UI T N x->gI T x
 | _,.clip h t=>by rw [gI]; exact ⟨h,t⟩
 | _,.times _ _ h=>by rw [gI]; exact h.g
 | _,.back h=>by rw [gI]; exact h.g
 | _,.part h _=>by rw [gI]; exact ⟨h,rfl⟩
theorem UL.g {T : Str->Int->Int->Prop} {N : List Str} : ∀ {xs : List IT.It},UL T N xs->gL T xs
 | _,.one h=>gL_one h.g
 | _,.cons h t=>by rw [gL]; exact ⟨h.g,t.g⟩
 | _,.fade _ h t=>by rw [gL,gL,gI]; exact ⟨h.g,trivial,t.g⟩
end
theorem U0.g {T : Str->Int->Int->Prop} {N : List Str} {p : List IT.It} (h : U0 T N p) : gL T p:=by
 rcases h with rfl | h
 ·exact gL_nil
 ·exact h.g
theorem layInts : ∀ ns : List Int,PyData.canLayAll0 (ns.map PyData.int) = true
 | []=>rfl
 | n :: r=>by simp [PyData.canLayAll0,PyData.canLay0,layInts r]
theorem layStrs : ∀ {ss : List Str},(∀ s ∈ ss,Fine s)->PyData.canLayAll0 (ss.map PyData.str) = true
 | [],_=>rfl
 | s :: r,h=>by
  have h1 : PyData.strOk s = true:=h s (List.mem_cons_self ..)
  have h2:=layStrs fun x hx=>h x (List.mem_cons_of_mem _ hx)
  simp [PyData.canLayAll0,PyData.canLay0,h1,h2]
theorem layL {ds : List PyData} (h : PyData.canLayAll0 ds = true) : (PyData.list ds).canLay0 = true:=by simp [PyData.canLay0,h]
theorem dep0 (d : PyData) : min d.depth (PyData.list []).depth <= 60:=Nat.le_trans (Nat.min_le_right _ _) (by simp [PyData.depth,PyData.depthAll])
theorem eqv_nil (ds : List PyData) : PyData.eqv (.list ds) (.list []) = decide (ds = []):=by
 cases ds with
 | nil=>rfl
 | cons a r=>rfl
def Ck (prs : List (Addr × Reel)) (r : Str) (f l : Int) : Prop:=∃ x ∈ prs,x.2.name = r/\0 <= f/\f < x.2.many/\0 <= l/\l < x.2.many
theorem RL.exl {H H' : Hp} {p c : Addr} {prs : List (Addr × Reel)} {us : List V} (h : RL H p prs) (hc : H c = some (.lst us)) (n : p ≠ c) (e : Ex c H H') : RL H' p prs :=
 ⟨e _ _ n h.1,fun x hx=>⟨e _ _ (ne_of (h.2 x hx).1 hc (by intro z; cases z)) (h.2 x hx).1,(h.2 x hx).2⟩⟩
theorem ex_tk {H H' : Hp} {c : Addr} {us : List V} (hc : H c = some (.lst us)) (e : Ex c H H') : TK H H':=fun a xs ha=>e _ _ (ne_of ha hc (by intro z; cases z)) ha
theorem Ex.free {c : Addr} {H H' : Hp} (e : Ex c H H') {a : Addr} (n : a ≠ c) (h : H' a = none) : H a = none:=by
 cases z : H a with
 | none=>rfl
 | some o=>rw [e a o n z] at h; cases h
def spItem (D : Nat) : Sp:=fun vs H Q _=>∃ (c p n : Addr) (d : Nat) (cs : List Int) (prs : List (Addr × Reel)) (ms : List Str),vs = [.ref c,.ref p,.ref n,.int (d : Int)]/\d <= D/\H c = some (.lst (cs.map V.int))/\cs ≠ []/\cs.length <= 100/\RL H p prs/\prs ≠ []/\prs.length <= 100/\p ≠ c/\H n = some (.lst (ms.map V.str))/\(∀ x ∈ ms,Fine x)/\ms.length <= 100/\n ≠ c /\
 ∀ (l : Addr) (xs : List IT.It) (es : List Int) (H' : Hp),Ex c H H'->H l = none->H' c = some (.lst (es.map V.int))->IL H' l xs->UL (Ck prs) ms xs->dpL xs <= d + 1->xs ≠ []->es.length < cs.length->wL xs + 6 * es.length <= 6 * cs.length->Q (.ref l) H'
def spInner (D : Nat) : Sp:=fun vs H Q _=>∃ (c p n : Addr) (d : Nat) (cs : List Int) (prs : List (Addr × Reel)) (ms : List Str),vs = [.ref c,.ref p,.ref n,.int (d : Int)]/\d <= D/\H c = some (.lst (cs.map V.int))/\cs ≠ []/\cs.length <= 100/\RL H p prs/\prs ≠ []/\prs.length <= 100/\p ≠ c/\H n = some (.lst (ms.map V.str))/\(∀ x ∈ ms,Fine x)/\ms.length <= 100/\n ≠ c /\
 ∀ (a : Addr) (xs : List IT.It) (es : List Int) (H' : Hp),Ex c H H'->H a = none->H' c = some (.lst (es.map V.int))->Td H' (.ref a) (.tuple (dL xs))->UL (Ck prs) ms xs->dpL xs <= d + 1->es.length <= cs.length->wL xs + 6 * es.length <= 6 * cs.length + 1->Q (.ref a) H'
def spInnerP : Nat->Sp
 | 0=>fun _ _ _ _=>False
 | d + 1=>spInner d
section
variable {P : Program} {w : World} {K : PySem.W.Frag} {mg : Str->Option Value} {base : Heap}
theorem scInner : FnScope ["_law_cells", "_law_reels", "_law_names", "_law_deep", "_law_found", "_law_k"] ["_law_cells", "_law_reels", "_law_names", "_law_deep"] (defScope s__law_inner):=⟨rfl,rfl,rfl,by decide +kernel,rfl,by decide +kernel,by decide +kernel⟩
theorem ok_inner {D : Nat} {f : Addr} {fd : FuncData} (F : Fun K "_law_inner" "_law_inner" s__law_inner f fd) (dNum : Def P w K mg base CX0 "_law_numbers" 1 ["_law_cell_here", "_law_many"] spNum) (dItem : Def P w K mg base CX0 "_law_item" (2 * D + 2) ["_law_cells", "_law_reels", "_law_names", "_law_deep"] (spItem D)) (n_range : mg "range" = none) (n_tuple : mg "tuple" = none) : FnOk P w K mg base CX0 (2 * D + 3) f fd ["_law_cells", "_law_reels", "_law_names", "_law_deep"] (spInner D):=by
 refine F.ok scInner (fun vs H Q E h=>?_) (fun cdv A outer s H vs Q E hr h=>?_)
 ·obtain ⟨c,p,n,d,cs,prs,ms,rfl,_⟩:=h
  rfl
 obtain ⟨c,p,n,d,cs,prs,ms,rfl,hdD,hc,hcs,hc100,rl,hprs,hp100,npc,hn,hms,hm100,nnc,q⟩:=h
 refine useQ (ss_cons (s_set (i:=4) scInner.nd (e_lst a_nil))
  (ss_cons (s_for PassesOwn.never rfl (i_rng1 n_range (e_op op_add e_int (e_op op_mod (e_ix ix_list (e_call dNum hr pass0 (a_cons (e_ix ix_list (e_v 0) e_int) (a_cons e_int a_nil)) (hj:=by omega)) e_int) e_int))) (g_name (i:=5) scInner.nd)
   (ss_one (s_if (t_cmp (op_neD hr) (e_sl sl_list (e_v 0) (o_some e_int) o_none) (e_lst a_nil))
    (ss_one (s_set (i:=4) scInner.nd (e_op op_cat (e_v 4) (e_call dItem hr pass0 (a_cons (e_v 0) (a_cons (e_v 1) (a_cons (e_v 2) (a_cons (e_v 3) a_nil)))) (hj:=by omega)))))
    ss_nil)))
  (ss_cons (s_if (t_cmp (op_eqD hr) (e_v 4) (e_lst a_nil))
   (ss_one (s_ret (e_tup (a_cons (e_tup (a_cons e_str (a_cons (e_ix ix_tup (e_ix ix_list (e_v 1) e_int) e_int) (a_cons e_int (a_cons e_int a_nil))))) a_nil))))
   ss_nil)
  (ss_one (s_ret (e_t call_tuple_of n_tuple (by decide +kernel) (a_cons (e_v 4) a_nil))))))) ?_
 have zl : sizeLine = 16777216:=sizeLine_eq
 have c0 : 0 < cs.length:=List.length_pos_iff.mpr hcs
 refine ⟨(by show 0 <= sizeLine; decide),fun pf hpf=>?_⟩
 have sf:=Same.new hpf (.lst [])
 have nfc : pf ≠ c:=by rintro rfl; rw [hpf] at hc; cases hc
 refine ⟨_,rfl,c,_,_,_,rfl,rfl,SqL.of (sf _ _ hc),atI_nat (j:=0) (get_int c0),_,1,rfl,by decide,fun px ns H1 s1 hl hpx0 hpx=>?_⟩
 have k0 : 0 < ns.length:=by omega
 have S1:=sf.trans s1
 refine ⟨px,_,_,_,rfl,rfl,SqL.of hpx,atI_nat (j:=0) (get_int k0),_,_,rfl,rfl,(by show (0 : Int) < 2; decide),_,_,rfl,rfl,_,rfl,by omega,by omega,
  for_range (lo:=0) (n:=(1 + ns[0] % 2).toNat) (fun i σ H'=>∃ (l : Addr) (o5 : Option V) (xs : List IT.It) (gs : List Int),σ = [some (.ref c),some (.ref p),some (.ref n),some (.int (d : Int)),some (.ref l),o5]/\Ex c H H'/\H l = none/\H' c = some (.lst (gs.map V.int))/\IL H' l xs/\U0 (Ck prs) ms xs/\dpL xs <= d + 1/\gs.length <= cs.length/\wL xs + 6 * gs.length <= 6 * cs.length)
  ⟨pf,none,[],cs,rfl,Ex.of S1,hpf,S1 _ _ hc,⟨[],s1 _ _ upd_same,by rw [dL]; exact .nil⟩,(.inl rfl),(by rw [dpL]; exact Nat.zero_le _),Nat.le_refl _,(by rw [wL]; omega)⟩ ?_ ?_⟩
 ·rintro i σ H2 hi ⟨l,o5,xs,gs,rfl,x2,hl0,hc2,⟨us,hl2,tds⟩,gx,dx,lx,wx⟩
  have nlc : l ≠ c:=by rintro rfl; rw [hl0] at hc; cases hc
  refine ⟨_,rfl,_,rfl,c,_,rfl,SqL.of hc2,fun p1 hp1=>⟨(by show 0 <= sizeLine; decide),fun p2 hp2=>?_⟩⟩
  have ecut : cutV (gs.map V.int) (some 1) none = (gs.drop 1).map V.int:=by
   rw [show (some (1 : Int)) = some ((1 : Nat) : Int) from rfl,cut_from,List.map_drop]
  rw [ecut] at hp2 ⊢
  have t1:=Same.new hp1 (.lst ((gs.drop 1).map V.int))
  have t2:=Same.new hp2 (.lst [])
  have T2:=t1.trans t2
  refine ⟨_,_,.lst (SqL.of (t2 _ _ upd_same)) (denIs _),.lst (SqL.of upd_same) .nil,layL (layInts _),rfl,dep0 _,_,rfl,?_⟩
  rw [eqv_nil]
  refine ite2 (fun he=>?_) (fun _=>⟨l,_,xs,gs,rfl,x2.trans (Ex.of T2),hl0,T2 _ _ hc2,⟨us,T2 _ _ hl2,tds.tk (TK.of T2)⟩,gx,dx,lx,wx⟩)
  have hgs : gs ≠ []:=by
   rintro rfl
   cases he
  have x4:=x2.trans (Ex.of T2)
  have npc':=npc
  refine ⟨_,rfl,_,rfl,_,rfl,_,rfl,_,rfl,c,p,n,d,gs,prs,ms,rfl,hdD,T2 _ _ hc2,hgs,by omega,(rl.exl hc npc x4),hprs,hp100,npc,x4 _ _ nnc hn,hms,hm100,nnc,?_⟩
  intro l2 ys es H3 y1 hl2' hc3 ⟨vs,hl3,tds3⟩ gy dy ny ly wy
  have tk3:=ex_tk (T2 _ _ hc2) y1
  have hw : wL ys <= 600:=by omega
  have hx : wL xs <= 600:=by omega
  have l1 : us.length = xs.length:=by rw [tds.len,dL_map,List.length_map]
  have l2' : vs.length = ys.length:=by rw [tds3.len,dL_map,List.length_map]
  have w1:=wL_len xs
  have w2:=wL_len ys
  refine ⟨l,l2,_,_,rfl,rfl,y1 _ _ nlc (T2 _ _ hl2),hl3,(by rw [zl,l1,l2']; omega),fun l4 hl4=>?_⟩
  have sn:=Same.new hl4 (.lst (us ++ vs))
  have x5:=x4.trans y1
  have n4 : l4 ≠ c:=by rintro rfl; rw [hc3] at hl4; cases hl4
  exact ⟨l4,_,xs ++ ys,es,rfl,x5.trans (Ex.of sn),x5.free n4 hl4,sn _ _ hc3,⟨us ++ vs,upd_same,by rw [dL_app]; exact (((tds.tk (TK.of T2)).tk tk3).app tds3).tk (TK.of sn)⟩,gx.app gy,dpL_app dx dy,by omega,by rw [wL_app]; omega⟩
 ·rintro σ H2 ⟨l,o5,xs,gs,rfl,x2,hl0,hc2,⟨us,hl2,tds⟩,gx,dx,lx,wx⟩
  refine ⟨_,rfl,(by show 0 <= sizeLine; decide),fun p1 hp1=>?_⟩
  have t1:=Same.new hp1 (.lst [])
  refine ⟨_,_,.lst (SqL.of (t1 _ _ hl2)) ((tds.tk (TK.of t1)).den),.lst (SqL.of upd_same) .nil,layL (lay_Ls gx.g),rfl,dep0 _,_,rfl,?_⟩
  rw [eqv_nil]
  refine ite2 (fun _=>?_) (fun ze=>?_)
  ·obtain ⟨x,hx⟩ : ∃ x,prs[0]? = some x:=⟨prs[0]'(List.length_pos_iff.mpr hprs),List.getElem?_eq_getElem _⟩
   have hxm : x ∈ prs:=List.mem_of_getElem? hx
   have rl2:=(rl.exl hc npc x2).same t1
   obtain ⟨hx2,okx⟩:=rl2.2 x hxm
   have m1:=okx.m1
   refine ⟨_,rfl,p,_,_,_,rfl,rfl,SqL.of rl2.1,atI_nat (j:=0) (by rw [List.getElem?_map,hx]; rfl),x.1,_,_,_,rfl,rfl,SqT.of hx2,atI_nat (j:=0) rfl,(by show 4 <= sizeLine; decide),fun q1 hq1=>⟨(by show 1 <= sizeLine; decide),fun q2 hq2=>?_⟩⟩
   have u1:=Same.new hq1 (.tup [.str "clip",.str x.2.name,.int 0,.int 0])
   have u2:=Same.new hq2 (.tup [.ref q1])
   have U:=t1.trans (u1.trans u2)
   have n2 : q2 ≠ c:=by rintro rfl; rw [(t1.trans u1) _ _ hc2] at hq2; cases hq2
   exact q q2 [.clip x.2.name 0 0] gs _ (x2.trans (Ex.of U)) ((x2.trans (Ex.of (t1.trans u1))).free n2 hq2) (U _ _ hc2) (.tup upd_same (by rw [dL,dL]; exact Tds.one (mk_clip (u2 _ _ upd_same)))) (.one (.clip okx.nf ⟨x,hxm,rfl,by omega,by omega,by omega,by omega⟩)) (dp1 (by rw [dpI]; omega)) lx (by rw [wL,wL,wI]; omega)
  ·refine ⟨_,rfl,l,_,rfl,.inl ⟨SqL.of (t1 _ _ hl2),fun q1 hq1=>?_⟩⟩
   have u1:=Same.new hq1 (.tup us)
   have U:=t1.trans u1
   have n2 : q1 ≠ c:=by rintro rfl; rw [t1 _ _ hc2] at hq1; cases hq1
   exact q q1 xs gs _ (x2.trans (Ex.of U)) ((x2.trans (Ex.of t1)).free n2 hq1) (U _ _ hc2) (.tup upd_same (tds.tk (TK.of U))) (gx.ne ze) dx lx (by omega)
theorem scItem : FnScope ["_law_cells", "_law_reels", "_law_names", "_law_deep", "_law_xs", "_law_way", "_law_fade", "_law_inner_here", "_law_reel", "_law_first", "_law_clip"] ["_law_cells", "_law_reels", "_law_names", "_law_deep"] (defScope s__law_item):=⟨rfl,rfl,rfl,by decide +kernel,rfl,by decide +kernel,by decide +kernel⟩
theorem ok_item {D : Nat} {f : Addr} {fd : FuncData} (F : Fun K "_law_item" "_law_item" s__law_item f fd) (dNum : Def P w K mg base CX0 "_law_numbers" 1 ["_law_cell_here", "_law_many"] spNum) (dInner : Def P w K mg base CX0 "_law_inner" (2 * D + 1) ["_law_cells", "_law_reels", "_law_names", "_law_deep"] (spInnerP D)) (n_len : mg "len" = none) (n_int : mg "int" = none) : FnOk P w K mg base CX0 (2 * D + 2) f fd ["_law_cells", "_law_reels", "_law_names", "_law_deep"] (spItem D):=by
 refine F.ok scItem (fun vs H Q E h=>?_) (fun cdv A outer s H vs Q E hr h=>?_)
 ·obtain ⟨c,p,n,d,cs,prs,ms,rfl,_⟩:=h
  rfl
 obtain ⟨c,p,n,d,cs,prs,ms,rfl,hdD,hc,hcs,hc100,rl,hprs,hp100,npc,hn,hms,hm100,nnc,q⟩:=h
 refine useQ (ss_cons (s_set (i:=4) scItem.nd (e_call dNum hr pass0 (a_cons (e_pop (e_v 0) ) (a_cons e_int a_nil)) (hj:=by omega)))
  (ss_cons (s_set (i:=5) scItem.nd (e_op op_mod (e_ix ix_list (e_v 4) e_int) e_int))
  (ss_cons (s_set (i:=6) scItem.nd (e_op op_rep (e_lst (a_cons (e_tup (a_cons e_str (a_cons (e_op op_add e_int (e_op op_mod (e_ix ix_list (e_v 4) e_int) e_int)) a_nil))) a_nil)) (e_t call_int1 n_int PyProof.Rows.boot_int (a_cons (e_cmp op_eq (e_op op_mod (e_ix ix_list (e_v 4) e_int) e_int) e_int) a_nil))))
  (ss_cons (s_cut (s_if (t_w (w_and (t_cmp op_eq (e_v 5) e_int) (w_and (t_cmp (op_neD hr) (e_v 0) (e_lst a_nil)) (w_and1 (t_cmp op_gt (e_v 3) e_int)))))
   (ss_cons (s_set (i:=7) scItem.nd (e_call dInner hr pass0 (a_cons (e_v 0) (a_cons (e_v 1) (a_cons (e_v 2) (a_cons (e_op op_sub (e_v 3) e_int) a_nil)))) (hj:=by omega)))
   (ss_one (s_ret (e_lst (a_cons (e_tup (a_cons e_str (a_cons (e_op op_add e_int (e_op op_mod (e_ix ix_list (e_v 4) e_int) e_int)) (a_cons (e_v 7) a_nil)))) a_nil)))))
   ss_nil))
  (ss_cons (s_cut (s_if (t_w (w_and (t_cmp op_eq (e_v 5) e_int) (w_and (t_cmp (op_neD hr) (e_v 0) (e_lst a_nil)) (w_and1 (t_cmp op_gt (e_v 3) e_int)))))
   (ss_one (s_ret (e_lst (a_cons (e_tup (a_cons e_str (a_cons (e_call dInner hr pass0 (a_cons (e_v 0) (a_cons (e_v 1) (a_cons (e_v 2) (a_cons (e_op op_sub (e_v 3) e_int) a_nil)))) (hj:=by omega)) a_nil))) a_nil))))
   ss_nil))
  (ss_cons (s_cut (s_if (t_w (w_and (t_cmp op_eq (e_v 5) e_int) (w_and1 (t_cmp (op_neD hr) (e_v 2) (e_lst a_nil)))))
   (ss_one (s_ret (e_lst (a_cons (e_tup (a_cons e_str (a_cons (e_ix ix_list (e_v 2) (e_op op_mod (e_ix ix_list (e_v 4) e_int) (e_b call_len_seq n_len PySem.boot_len (a_cons (e_v 2) a_nil)))) a_nil))) a_nil))))
   ss_nil))
  (ss_cons (s_set (i:=8) scItem.nd (e_ix ix_list (e_v 1) (e_op op_mod (e_ix ix_list (e_v 4) e_int) (e_b call_len_seq n_len PySem.boot_len (a_cons (e_v 1) a_nil)))))
  (ss_cons (s_set (i:=9) scItem.nd (e_op op_mod (e_ix ix_list (e_v 4) e_int) (e_ix ix_tup (e_v 8) e_int)))
  (ss_cons (s_set (i:=10) scItem.nd (e_tup (a_cons e_str (a_cons (e_ix ix_tup (e_v 8) e_int) (a_cons (e_v 9) (a_cons (e_op op_mod (e_ix ix_list (e_v 4) e_int) (e_ix ix_tup (e_v 8) e_int)) a_nil))))))
  (ss_cons (s_if (t_cmp (op_neD hr) (e_v 6) (e_lst a_nil))
   (ss_one (s_ret (e_op op_cat (e_op op_cat (e_lst (a_cons (e_v 10) a_nil)) (e_v 6)) (e_lst (a_cons (e_tup (a_cons e_str (a_cons (e_ix ix_tup (e_v 8) e_int) (a_cons (e_ix ix_tup (e_v 10) e_int) (a_cons (e_v 9) a_nil))))) a_nil)))))
   ss_nil)
  (ss_one (s_ret (e_lst (a_cons (e_v 10) a_nil)))))))))))))) ?_
 have zl : sizeLine = 16777216:=sizeLine_eq
 have c0 : 0 < cs.length:=List.length_pos_iff.mpr hcs
 have hlast : (cs.map V.int)[(cs.map V.int).length - 1]? = some (.int cs[cs.length - 1]):=by rw [List.length_map]; exact get_int (by omega)
 refine ⟨_,rfl,.inl ⟨rfl,_,SqL.of hc⟩,c,_,_,rfl,rfl,hc,hlast,?_⟩
 have epop : (cs.map V.int).dropLast = cs.dropLast.map V.int:=by rw [List.dropLast_eq_take,List.dropLast_eq_take,List.length_map,List.map_take]
 rw [epop]
 have x1 : Ex c H (upd H c (.lst (cs.dropLast.map V.int))):=fun b o hb h=>by rw [upd_ne hb]; exact h
 have hc1 : upd H c (.lst (cs.dropLast.map V.int)) c = some (.lst (cs.dropLast.map V.int)):=upd_same
 have hl1 : cs.dropLast.length = cs.length - 1:=List.length_dropLast
 generalize cs.dropLast = es at hl1 x1 hc1 ⊢
 generalize upd H c (.lst (es.map V.int)) = H1 at x1 hc1 ⊢
 refine ⟨_,6,rfl,by decide,fun px ns H2 s2 hl hpx0 hpx=>?_⟩
 have k0 : 0 < ns.length:=by omega
 have k1 : 1 < ns.length:=by omega
 have k2 : 2 < ns.length:=by omega
 have k3 : 3 < ns.length:=by omega
 have k4 : 4 < ns.length:=by omega
 have k5 : 5 < ns.length:=by omega
 refine ⟨_,rfl,px,_,_,_,rfl,rfl,SqL.of hpx,atI_nat (j:=0) (get_int k0),_,_,rfl,rfl,(by show (0 : Int) < 10; decide),?_⟩
 refine ⟨_,rfl,px,_,_,_,rfl,rfl,SqL.of hpx,atI_nat (j:=5) (get_int k5),_,_,rfl,rfl,(by show (0 : Int) < 3; decide),_,_,rfl,rfl,(by show 2 <= sizeLine; decide),fun p1 hp1=>⟨(by show 1 <= sizeLine; decide),fun p2 hp2=>?_⟩⟩
 have u1:=Same.new hp1 (.tup [.str "fade",.int (1 + ns[5] % 3)])
 have u2:=Same.new hp2 (.lst [.ref p1])
 refine ⟨_,rfl,px,_,_,_,rfl,rfl,SqL.of ((u1.trans u2) _ _ hpx),atI_nat (j:=4) (get_int k4),_,_,rfl,rfl,(by show (0 : Int) < 4; decide),rfl,.inr ⟨_,rfl,p2,_,_,rfl,rfl,upd_same,(by split <;> decide),(by split <;> decide),(by split <;> simp [zl]),fun p3 hp3=>?_⟩⟩
 obtain ⟨fs,efs,hfs⟩ : ∃ fs : List V,(List.replicate (if decide (V.int (ns[4] % (4 : Int)) = V.int 1) = true then (1 : Int) else 0).toNat [V.ref p1]).flatten = fs/\(fs = [] \/ fs = [.ref p1]):=by
  refine ⟨_,rfl,?_⟩
  split
  ·exact .inr rfl
  ·exact .inl rfl
 rw [efs]
 have u3:=Same.new hp3 (.lst fs)
 have S3:=s2.trans ((u1.trans u2).trans u3)
 have hpx3:=(u1.trans (u2.trans u3)) _ _ hpx
 have hf1:=(u2.trans u3) _ _ (upd_same (H:=H2) (a:=p1) (o:=.tup [.str "fade",.int ((1 : Int) + ns[5] % (3 : Int))]))
 have hp33:=upd_same (H:=upd (upd H2 p1 (.tup [.str "fade",.int ((1 : Int) + ns[5] % (3 : Int))])) p2 (.lst [.ref p1])) (a:=p3) (o:=.lst fs)
 generalize upd (upd (upd H2 p1 (.tup [.str "fade",.int ((1 : Int) + ns[5] % (3 : Int))])) p2 (.lst [.ref p1])) p3 (.lst fs) = H3 at S3 hpx3 hf1 hp33 ⊢
 have npx : px ≠ c:=by rintro rfl; rw [hc1] at hpx0; cases hpx0
 have rl3:=(rl.exl hc npc x1).same S3
 have hn3:=S3 _ _ (x1 _ _ nnc hn)
 have hc3:=S3 _ _ hc1
 have x3 : Ex c H H3:=x1.trans (Ex.of S3)
 have inner : ∀ (G : Hp) (R : VK) (E' : XK),Same H3 G->es ≠ []->(d : Int) > 0->(∀ (a : Addr) (xs : List IT.It) (gs : List Int) (G' : Hp),Ex c G G'->G a = none->G' c = some (.lst (gs.map V.int))->Td G' (.ref a) (.tuple (dL xs))->UL (Ck prs) ms xs->dpL xs <= d->gs.length <= es.length->wL xs + 6 * gs.length <= 6 * es.length + 1->R (.ref a) G')->spInnerP D [.ref c,.ref p,.ref n,.int ((d : Int) - 1)] G R E':=by
  intro G R E' sg hes hd0 k
  obtain ⟨D,rfl⟩ : ∃ D',D = D' + 1:=⟨D - 1,by omega⟩
  refine ⟨c,p,n,d - 1,es,prs,ms,(by rw [show ((d : Int) - 1) = ((d - 1 : Nat) : Int) by omega]),by omega,sg _ _ hc3,hes,by omega,rl3.same sg,hprs,hp100,npc,sg _ _ hn3,hms,hm100,nnc,?_⟩
  intro a xs gs G' e1 e2 e3 e4 e5 e6 e7 e8
  exact k a xs gs G' e1 e2 e3 e4 e5 (by omega) e7 e8
 have fin : ∀ (G : Hp) (l : Addr) (us : List V) (xs : List IT.It) (gs : List Int),Ex c H G->G c = some (.lst (gs.map V.int))->G l = none->Tds G us (dL xs)->UL (Ck prs) ms xs->dpL xs <= d + 1->xs ≠ []->gs.length <= es.length->wL xs + 6 * gs.length <= 6 * es.length + 6->Q (.ref l) (upd G l (.lst us)):=by
  intro G l us xs gs e1 e2 e3 e4 e5 e6 e7 e8 e9
  have sn:=Same.new e3 (.lst us)
  have nlc : l ≠ c:=by rintro rfl; rw [e2] at e3; cases e3
  exact q l xs gs _ (e1.trans (Ex.of sn)) (e1.free nlc e3) (sn _ _ e2) ⟨us,upd_same,e4.tk (TK.of sn)⟩ e5 e6 e7 (by omega) (by omega)
 refine ⟨fun σ' H'=>σ' = [some (.ref c),some (.ref p),some (.ref n),some (.int (d : Int)),some (.ref px),some (.int (ns[0] % (10 : Int))),some (.ref p3),none,none,none,none]/\Same H3 H',?_,?_⟩
 ·refine ⟨_,rfl,rfl,_,rfl,ite2 (fun _=>?_) (fun _=>iteF ⟨rfl,Same.refl _⟩)⟩
  refine ⟨_,rfl,(by show 0 <= sizeLine; decide),fun pe hpe=>?_⟩
  have v1:=Same.new hpe (.lst [])
  refine ⟨_,_,.lst (SqL.of (v1 _ _ hc3)) (denIs _),.lst (SqL.of upd_same) .nil,layL (layInts _),rfl,dep0 _,_,rfl,?_⟩
  rw [eqv_nil]
  refine ite2 (fun he=>?_) (fun _=>iteF ⟨rfl,v1⟩)
  have hes : es ≠ []:=by
   rintro rfl
   cases he
  refine ⟨_,rfl,_,_,rfl,rfl,_,rfl,ite2 (fun hd0=>?_) (fun _=>⟨rfl,v1⟩)⟩
  refine ⟨_,rfl,_,rfl,_,rfl,_,rfl,_,_,rfl,rfl,inner _ _ _ v1 hes (of_decide_eq_true hd0) ?_⟩
  intro a xs gs G' e1 e2 e3 e4 e5 e6 e7 e8
  refine ⟨_,rfl,px,_,_,_,rfl,rfl,SqL.of (e1 _ _ npx (v1 _ _ hpx3)),atI_nat (j:=1) (get_int k1),_,_,rfl,rfl,(by show (0 : Int) < 3; decide),_,_,rfl,rfl,_,rfl,(by show 3 <= sizeLine; decide),fun q1 hq1=>⟨(by show 1 <= sizeLine; decide),fun q2 hq2=>?_⟩⟩
  have w1:=Same.new hq1 (.tup [.str "times",.int (1 + ns[1] % 3),.ref a])
  have hq1c : upd G' q1 (.tup [.str "times",.int (1 + ns[1] % 3),.ref a]) c = _:=w1 _ _ e3
  exact fin _ q2 [.ref q1] [.times (1 + ns[1] % 3) xs] gs ((x3.trans (Ex.of v1)).trans (e1.trans (Ex.of w1))) hq1c hq2 (by rw [dL,dL]; exact Tds.one (mk_times upd_same (e4.tk (TK.of w1)))) (.one (.times (by omega) (by omega) e5)) (dp1 (by rw [dpI]; omega)) (by intro z; cases z) e7 (by rw [wL,wL,wI]; omega)
 rintro σ H4 ⟨rfl,s4⟩
 refine ⟨fun σ' H'=>σ' = [some (.ref c),some (.ref p),some (.ref n),some (.int (d : Int)),some (.ref px),some (.int (ns[0] % (10 : Int))),some (.ref p3),none,none,none,none]/\Same H4 H',?_,?_⟩
 ·refine ⟨_,rfl,rfl,_,rfl,ite2 (fun _=>?_) (fun _=>iteF ⟨rfl,Same.refl _⟩)⟩
  refine ⟨_,rfl,(by show 0 <= sizeLine; decide),fun pe hpe=>?_⟩
  have v1:=Same.new hpe (.lst [])
  refine ⟨_,_,.lst (SqL.of (v1 _ _ (s4 _ _ hc3))) (denIs _),.lst (SqL.of upd_same) .nil,layL (layInts _),rfl,dep0 _,_,rfl,?_⟩
  rw [eqv_nil]
  refine ite2 (fun he=>?_) (fun _=>iteF ⟨rfl,v1⟩)
  have hes : es ≠ []:=by
   rintro rfl
   cases he
  refine ⟨_,rfl,_,_,rfl,rfl,_,rfl,ite2 (fun hd0=>?_) (fun _=>⟨rfl,v1⟩)⟩
  refine ⟨_,rfl,_,rfl,_,rfl,_,rfl,_,_,rfl,rfl,inner _ _ _ (s4.trans v1) hes (of_decide_eq_true hd0) ?_⟩
  intro a xs gs G' e1 e2 e3 e4 e5 e6 e7 e8
  refine ⟨(by show 2 <= sizeLine; decide),fun q1 hq1=>⟨(by show 1 <= sizeLine; decide),fun q2 hq2=>?_⟩⟩
  have w1:=Same.new hq1 (.tup [.str "back",.ref a])
  exact fin _ q2 [.ref q1] [.back xs] gs ((x3.trans (Ex.of (s4.trans v1))).trans (e1.trans (Ex.of w1))) (w1 _ _ e3) hq2 (by rw [dL,dL]; exact Tds.one (mk_back upd_same (e4.tk (TK.of w1)))) (.one (.back e5)) (dp1 (by rw [dpI]; omega)) (by intro z; cases z) e7 (by rw [wL,wL,wI]; omega)
 rintro σ H5 ⟨rfl,s5'⟩
 have s5:=s4.trans s5'
 refine ⟨fun σ' H'=>σ' = [some (.ref c),some (.ref p),some (.ref n),some (.int (d : Int)),some (.ref px),some (.int (ns[0] % (10 : Int))),some (.ref p3),none,none,none,none]/\Same H5 H',?_,?_⟩
 ·refine ⟨_,rfl,rfl,_,rfl,ite2 (fun _=>?_) (fun _=>iteF ⟨rfl,Same.refl _⟩)⟩
  refine ⟨_,rfl,(by show 0 <= sizeLine; decide),fun pe hpe=>?_⟩
  have v1:=Same.new hpe (.lst [])
  have S5:=s5.trans v1
  refine ⟨_,_,.lst (SqL.of (S5 _ _ hn3)) (denSs _),.lst (SqL.of upd_same) .nil,layL (layStrs hms),rfl,dep0 _,_,rfl,?_⟩
  rw [eqv_nil]
  refine ite2 (fun he=>?_) (fun _=>⟨rfl,v1⟩)
  have hm0 : ms ≠ []:=by
   rintro rfl
   cases he
  have hml : 0 < ms.length:=List.length_pos_iff.mpr hm0
  have hmi : (0 : Int) < ((ms.map V.str).length : Int):=by rw [List.length_map]; omega
  obtain ⟨v,hv,hvm⟩:=at_list (xs:=ms.map V.str) (i:=ns[1] % ((ms.map V.str).length : Int)) (Int.emod_nonneg _ (by omega)) (Int.emod_lt_of_pos _ hmi)
  obtain ⟨nm,hnm,rfl⟩:=List.mem_map.mp hvm
  refine ⟨_,rfl,_,rfl,px,_,_,_,rfl,rfl,SqL.of (S5 _ _ hpx3),atI_nat (j:=1) (get_int k1),_,rfl,n,_,rfl,.inl (SqL.of (S5 _ _ hn3)),_,_,rfl,rfl,hmi,n,_,_,_,rfl,rfl,SqL.of (S5 _ _ hn3),hv,(by show 2 <= sizeLine; decide),fun q1 hq1=>⟨(by show 1 <= sizeLine; decide),fun q2 hq2=>?_⟩⟩
  have w1:=Same.new hq1 (.tup [.str "part",.str nm])
  exact fin _ q2 [.ref q1] [.part nm []] es (x3.trans (Ex.of (S5.trans w1))) ((S5.trans w1) _ _ hc3) hq2 (by rw [dL,dL]; exact Tds.one (mk_part upd_same)) (.one (.part (hms nm hnm) hnm)) (dp1 (by rw [dpI,dpL]; omega)) (by intro z; cases z) (Nat.le_refl _) (by rw [wL,wL,wI]; omega)
 rintro σ H6 ⟨rfl,s6'⟩
 have s6:=s5.trans s6'
 have hpl : 0 < prs.length:=List.length_pos_iff.mpr hprs
 have hpi : (0 : Int) < ((prs.map fun x=>V.ref x.1).length : Int):=by rw [List.length_map]; omega
 obtain ⟨v,hv,hvm⟩:=at_list (xs:=prs.map fun x=>V.ref x.1) (i:=ns[1] % ((prs.map fun x=>V.ref x.1).length : Int)) (Int.emod_nonneg _ (by omega)) (Int.emod_lt_of_pos _ hpi)
 obtain ⟨x,hx,rfl⟩:=List.mem_map.mp hvm
 have rl6:=rl3.same s6
 obtain ⟨hx6,okx⟩:=rl6.2 x hx
 have m1:=okx.m1
 refine ⟨_,rfl,_,rfl,px,_,_,_,rfl,rfl,SqL.of (s6 _ _ hpx3),atI_nat (j:=1) (get_int k1),_,rfl,p,_,rfl,.inl (SqL.of rl6.1),_,_,rfl,rfl,hpi,p,_,_,_,rfl,rfl,SqL.of rl6.1,hv,?_⟩
 refine ⟨_,rfl,px,_,_,_,rfl,rfl,SqL.of (s6 _ _ hpx3),atI_nat (j:=2) (get_int k2),_,rfl,x.1,_,_,_,rfl,rfl,SqT.of hx6,atI_nat (j:=3) rfl,_,_,rfl,rfl,(by show (0 : Int) < x.2.many; omega),?_⟩
 refine ⟨_,rfl,x.1,_,_,_,rfl,rfl,SqT.of hx6,atI_nat (j:=0) rfl,_,rfl,_,rfl,px,_,_,_,rfl,rfl,SqL.of (s6 _ _ hpx3),atI_nat (j:=3) (get_int k3),_,rfl,x.1,_,_,_,rfl,rfl,SqT.of hx6,atI_nat (j:=3) rfl,_,_,rfl,rfl,(by show (0 : Int) < x.2.many; omega),(by show 4 <= sizeLine; decide),fun q1 hq1=>?_⟩
 have f0:=Int.emod_nonneg ns[2] (show x.2.many ≠ 0 by omega)
 have f1:=Int.emod_lt_of_pos ns[2] (show 0 < x.2.many by omega)
 have g0:=Int.emod_nonneg ns[3] (show x.2.many ≠ 0 by omega)
 have g1:=Int.emod_lt_of_pos ns[3] (show 0 < x.2.many by omega)
 have ck1 : UI (Ck prs) ms (.clip x.2.name (ns[2] % x.2.many) (ns[3] % x.2.many)):=.clip okx.nf ⟨x,hx,rfl,f0,f1,g0,g1⟩
 have ck2 : UI (Ck prs) ms (.clip x.2.name (ns[3] % x.2.many) (ns[2] % x.2.many)):=.clip okx.nf ⟨x,hx,rfl,g0,g1,f0,f1⟩
 have w1:=Same.new hq1 (.tup [.str "clip",.str x.2.name,.int (ns[2] % x.2.many),.int (ns[3] % x.2.many)])
 have hq11:=upd_same (H:=H6) (a:=q1) (o:=.tup [.str "clip",.str x.2.name,.int (ns[2] % x.2.many),.int (ns[3] % x.2.many)])
 generalize upd H6 q1 (.tup [.str "clip",.str x.2.name,.int (ns[2] % x.2.many),.int (ns[3] % x.2.many)]) = H7 at w1 hq11 ⊢
 have s7:=s6.trans w1
 refine ⟨_,rfl,(by show 0 <= sizeLine; decide),fun pe hpe=>?_⟩
 have v1:=Same.new hpe (.lst [])
 have S7:=s7.trans v1
 rcases hfs with rfl | rfl
 ·refine ⟨_,_,.lst (SqL.of (S7 _ _ hp33)) .nil,.lst (SqL.of upd_same) .nil,rfl,rfl,dep0 _,_,rfl,iteF ?_⟩
  refine ⟨_,rfl,(by show 1 <= sizeLine; decide),fun q2 hq2=>?_⟩
  exact fin _ q2 [.ref q1] [_] es (x3.trans (Ex.of S7)) (S7 _ _ hc3) hq2 (by rw [dL,dL]; exact Tds.one (mk_clip (v1 _ _ hq11))) (.one ck1) (dp1 (by rw [dpI]; omega)) (by intro z; cases z) (Nat.le_refl _) (by rw [wL,wL,wI]; omega)
 ·refine ⟨_,_,.lst (SqL.of (S7 _ _ hp33)) (.cons (.tup (SqT.of (S7 _ _ hf1)) (.cons (.str _) (.cons (.int _) .nil))) .nil),.lst (SqL.of upd_same) .nil,(by simp only [PyData.canLay0,PyData.canLayAll0,Bool.and_true,Bool.and_eq_true]; decide +kernel),rfl,dep0 _,_,rfl,iteT ?_⟩
  refine ⟨_,rfl,(by show 1 <= sizeLine; decide),fun q2 hq2=>?_⟩
  have w2:=Same.new hq2 (.lst [.ref q1])
  refine ⟨_,rfl,q2,p3,_,_,rfl,rfl,upd_same,w2 _ _ (S7 _ _ hp33),(by show 2 <= sizeLine; decide),fun q3 hq3=>?_⟩
  have w3:=Same.new hq3 (.lst [.ref q1,.ref p1])
  have S9:=S7.trans (w2.trans w3)
  refine ⟨_,rfl,x.1,_,_,_,rfl,rfl,SqT.of ((w1.trans (v1.trans (w2.trans w3))) _ _ hx6),atI_nat (j:=0) rfl,_,rfl,q1,_,_,_,rfl,rfl,SqT.of ((v1.trans (w2.trans w3)) _ _ hq11),atI_nat (j:=3) rfl,_,rfl,(by show 4 <= sizeLine; decide),fun q4 hq4=>⟨(by show 1 <= sizeLine; decide),fun q5 hq5=>?_⟩⟩
  have w4:=Same.new hq4 (.tup [.str "clip",.str x.2.name,.int (ns[3] % x.2.many),.int (ns[2] % x.2.many)])
  have w5:=Same.new hq5 (.lst [.ref q4])
  have S11:=S9.trans (w4.trans w5)
  refine ⟨q3,q5,_,_,rfl,rfl,(w4.trans w5) _ _ upd_same,upd_same,(by show 3 <= sizeLine; decide),fun q6 hq6=>?_⟩
  exact fin _ q6 [.ref q1,.ref p1,.ref q4] [_,_,_] es (x3.trans (Ex.of S11)) (S11 _ _ hc3) hq6 (by rw [dL,dL,dL,dL]; exact .cons (mk_clip ((v1.trans (w2.trans (w3.trans (w4.trans w5)))) _ _ hq11)) (.cons (mk_fade (S11 _ _ hf1)) (.cons (mk_clip (w5 _ _ upd_same)) .nil))) (.fade (by omega) ck1 (.one ck2)) (by rw [dpL,dpL,dpL,dpL,dpI,dpI,dpI]; omega) (by intro z; cases z) (Nat.le_refl _) (by rw [wL,wL,wL,wL,wI,wI,wI]; omega)
end
end K38
set_option maxHeartbeats 2000000
namespace K38
open PySem L2 G DT
open IT hiding It
theorem cut_ints (ns : List Int) (lo hi : Option Int) : ∃ ms : List Int,cutV (ns.map V.int) lo hi = ms.map V.int/\ms.length <= ns.length:=by
 unfold cutV
 refine ⟨_,by rw [<- List.map_drop,<- List.map_take],?_⟩
 rw [List.length_take,List.length_drop]
 omega
theorem Ex.same {c : Addr} {H H' : Hp} (e : Ex c H H') (h : H c = none) : Same H H':=fun b o hb=>e b o (by rintro rfl; rw [h] at hb; cases hb) hb
section
variable {P : Program} {w : World} {K : PySem.W.Frag} {mg : Str->Option Value} {base : Heap}
def spList (D : Nat) : Sp:=fun vs H Q _=>∃ (c p n : Addr) (d : Nat) (cs : List Int) (prs : List (Addr × Reel)) (ms : List Str),vs = [.ref c,.ref p,.ref n,.int (d : Int)]/\d <= D/\H c = some (.lst (cs.map V.int))/\cs.length <= 100/\RL H p prs/\prs ≠ []/\prs.length <= 100/\H n = some (.lst (ms.map V.str))/\(∀ x ∈ ms,Fine x)/\ms.length <= 100 /\
 ∀ (a : Addr) (xs : List IT.It) (H' : Hp),Same H H'->H a = none->Td H' (.ref a) (.tuple (dL xs))->UL (Ck prs) ms xs->dpL xs <= d + 1->wL xs <= 6 * cs.length + 1->Q (.ref a) H'
theorem scList : FnScope ["_law_cells", "_law_reels", "_law_names", "_law_deep", "_law_found"] ["_law_cells", "_law_reels", "_law_names", "_law_deep"] (defScope s__law_list):=⟨rfl,rfl,rfl,by decide +kernel,rfl,by decide +kernel,by decide +kernel⟩
theorem ok_list {D : Nat} {f : Addr} {fd : FuncData} (F : Fun K "_law_list" "_law_list" s__law_list f fd) (dItem : Def P w K mg base CX0 "_law_item" (2 * D + 2) ["_law_cells", "_law_reels", "_law_names", "_law_deep"] (spItem D)) (n_list : mg "list" = none) (n_tuple : mg "tuple" = none) : FnOk P w K mg base CX0 (2 * D + 3) f fd ["_law_cells", "_law_reels", "_law_names", "_law_deep"] (spList D):=by
 refine F.ok scList (fun vs H Q E h=>?_) (fun cdv A outer s H vs Q E hr h=>?_)
 ·obtain ⟨c,p,n,d,cs,prs,ms,rfl,_⟩:=h
  rfl
 obtain ⟨c0,p,n,d,cs,prs,ms,rfl,hdD,hc0,hc100,rl,hprs,hp100,hn,hms,hm100,q⟩:=h
 refine useQ (ss_cons (s_set (i:=4) scList.nd (e_lst a_nil))
  (ss_cons (s_set (i:=0) scList.nd (e_t call_list_of n_list (by decide +kernel) (a_cons (e_v 0) a_nil)))
  (ss_cons (s_while PassesOwn.never (t_cmp (op_neD hr) (e_v 0) (e_lst a_nil))
   (ss_one (s_set (i:=4) scList.nd (e_op op_cat (e_v 4) (e_call dItem hr pass0 (a_cons (e_v 0) (a_cons (e_v 1) (a_cons (e_v 2) (a_cons (e_v 3) a_nil)))) (hj:=by omega))))))
  (ss_cons (s_if (t_cmp (op_eqD hr) (e_v 4) (e_lst a_nil))
   (ss_one (s_ret (e_tup (a_cons (e_tup (a_cons e_str (a_cons (e_ix ix_tup (e_ix ix_list (e_v 1) e_int) e_int) (a_cons e_int (a_cons e_int a_nil))))) a_nil))))
   ss_nil)
  (ss_one (s_ret (e_t call_tuple_of n_tuple (by decide +kernel) (a_cons (e_v 4) a_nil)))))))) ?_
 have zl : sizeLine = 16777216:=sizeLine_eq
 refine ⟨(by show 0 <= sizeLine; decide),fun pf hpf=>?_⟩
 have sf:=Same.new hpf (.lst [])
 refine ⟨_,rfl,c0,_,rfl,.inl (SqL.of (sf _ _ hc0)),fun c hc=>?_⟩
 have sc:=Same.new hc (.lst (cs.map V.int))
 have S0:=sf.trans sc
 have hcH : H c = none:=sf.free hc
 have hcc:=upd_same (H:=upd H pf (.lst [])) (a:=c) (o:=.lst (cs.map V.int))
 have hff:=sc _ _ (upd_same (H:=H) (a:=pf) (o:=.lst []))
 generalize upd (upd H pf (.lst [])) c (.lst (cs.map V.int)) = H1 at S0 hcc hff ⊢
 have npc : p ≠ c:=by rintro rfl; rw [rl.1] at hcH; cases hcH
 have nnc : n ≠ c:=by rintro rfl; rw [hn] at hcH; cases hcH
 refine ⟨fun m σ H'=>∃ (l : Addr) (xs : List IT.It) (gs : List Int),m = gs.length/\σ = [some (.ref c),some (.ref p),some (.ref n),some (.int (d : Int)),some (.ref l)]/\Ex c H H'/\l ≠ c/\H' c = some (.lst (gs.map V.int))/\IL H' l xs/\U0 (Ck prs) ms xs/\dpL xs <= d + 1/\gs.length <= cs.length/\wL xs + 6 * gs.length <= 6 * cs.length,
  ⟨_,pf,[],cs,rfl,rfl,Ex.of S0,(by rintro rfl; rw [upd_same] at hc; cases hc),hcc,⟨[],hff,by rw [dL]; exact .nil⟩,(.inl rfl),(by rw [dpL]; exact Nat.zero_le _),Nat.le_refl _,(by rw [wL]; omega)⟩,?_⟩
 rintro m σ H2 ⟨l,xs,gs,rfl,rfl,x2,nlc,hc2,⟨us,hl2,tds⟩,gx,dx,lx,wx⟩
 have S2:=x2.same hcH
 refine ⟨_,rfl,(by show 0 <= sizeLine; decide),fun p1 hp1=>?_⟩
 have t1:=Same.new hp1 (.lst [])
 refine ⟨_,_,.lst (SqL.of (t1 _ _ hc2)) (denIs _),.lst (SqL.of upd_same) .nil,layL (layInts _),rfl,dep0 _,_,rfl,?_⟩
 rw [eqv_nil]
 have x3:=x2.trans (Ex.of t1)
 refine ite2 (fun he=>?_) (fun _=>?_)
 ·have hgs : gs ≠ []:=by
   rintro rfl
   cases he
  refine ⟨_,fun σ' H' h=>h,?_⟩
  refine ⟨_,rfl,_,rfl,_,rfl,_,rfl,_,rfl,c,p,n,d,gs,prs,ms,rfl,hdD,t1 _ _ hc2,hgs,by omega,(rl.same (S2.trans t1)),hprs,hp100,npc,(S2.trans t1) _ _ hn,hms,hm100,nnc,?_⟩
  intro l2 ys es H3 y1 hl2' hc3 ⟨vs,hl3,tds3⟩ gy dy ny ly wy
  have tk3:=ex_tk (t1 _ _ hc2) y1
  have l1 : us.length = xs.length:=by rw [tds.len,dL_map,List.length_map]
  have l2' : vs.length = ys.length:=by rw [tds3.len,dL_map,List.length_map]
  have w1:=wL_len xs
  have w2:=wL_len ys
  refine ⟨l,l2,_,_,rfl,rfl,y1 _ _ nlc (t1 _ _ hl2),hl3,(by rw [zl,l1,l2']; omega),fun l4 hl4=>?_⟩
  have sn:=Same.new hl4 (.lst (us ++ vs))
  have n4 : l4 ≠ c:=by rintro rfl; rw [hc3] at hl4; cases hl4
  exact ⟨es.length,ly,l4,xs ++ ys,es,rfl,rfl,(x3.trans y1).trans (Ex.of sn),n4,sn _ _ hc3,⟨us ++ vs,upd_same,by rw [dL_app]; exact (((tds.tk (TK.of t1)).tk tk3).app tds3).tk (TK.of sn)⟩,gx.app gy,dpL_app dx dy,by omega,by rw [wL_app]; omega⟩
 ·refine ⟨_,rfl,(by show 0 <= sizeLine; decide),fun p2 hp2=>?_⟩
  have t2:=Same.new hp2 (.lst [])
  have T2:=t1.trans t2
  refine ⟨_,_,.lst (SqL.of (T2 _ _ hl2)) ((tds.tk (TK.of T2)).den),.lst (SqL.of upd_same) .nil,layL (lay_Ls gx.g),rfl,dep0 _,_,rfl,?_⟩
  rw [eqv_nil]
  have S4:=S2.trans T2
  refine ite2 (fun _=>?_) (fun ze=>?_)
  ·obtain ⟨x,hx⟩ : ∃ x,prs[0]? = some x:=⟨prs[0]'(List.length_pos_iff.mpr hprs),List.getElem?_eq_getElem _⟩
   have hxm : x ∈ prs:=List.mem_of_getElem? hx
   have rl2:=rl.same S4
   obtain ⟨hx2,okx⟩:=rl2.2 x hxm
   have m1:=okx.m1
   refine ⟨_,rfl,p,_,_,_,rfl,rfl,SqL.of rl2.1,atI_nat (j:=0) (by rw [List.getElem?_map,hx]; rfl),x.1,_,_,_,rfl,rfl,SqT.of hx2,atI_nat (j:=0) rfl,(by show 4 <= sizeLine; decide),fun q1 hq1=>⟨(by show 1 <= sizeLine; decide),fun q2 hq2=>?_⟩⟩
   have u1:=Same.new hq1 (.tup [.str "clip",.str x.2.name,.int 0,.int 0])
   have u2:=Same.new hq2 (.tup [.ref q1])
   exact q q2 [.clip x.2.name 0 0] _ (S4.trans (u1.trans u2)) ((S4.trans u1).free hq2) (.tup upd_same (by rw [dL,dL]; exact Tds.one (mk_clip (u2 _ _ upd_same)))) (.one (.clip okx.nf ⟨x,hxm,rfl,by omega,by omega,by omega,by omega⟩)) (dp1 (by rw [dpI]; omega)) (by rw [wL,wL,wI]; omega)
  ·refine ⟨_,rfl,l,_,rfl,.inl ⟨SqL.of (T2 _ _ hl2),fun q1 hq1=>?_⟩⟩
   have u1:=Same.new hq1 (.tup us)
   exact q q1 xs _ (S4.trans u1) (S4.free hq1) (.tup upd_same (tds.tk (TK.of (T2.trans u1)))) (gx.ne ze) dx (by omega)
def pnms : List Str:=["p", "qu", "a"]
structure PG (H : Hp) (prs : List (Addr × Reel)) (ps : List Pt) : Prop where
 nm : ps.map (·.1) = pnms.take ps.length
 len : ps.length <= 3
 td : ∀ x ∈ ps,Td H (.ref x.2.1) (.tuple (dL x.2.2))/\gL (Ck prs) x.2.2/\dpL x.2.2 <= 2/\wL x.2.2 <= 400
 ul : ∀ (j : Nat) (x : Pt),ps[j]? = some x->UL (Ck prs) (pnms.take j) x.2.2
theorem PG.same {H H' : Hp} {prs : List (Addr × Reel)} {ps : List Pt} (h : PG H prs ps) (t : TK H H') : PG H' prs ps:=⟨h.nm,h.len,fun x hx=>⟨(h.td x hx).1.tk t,(h.td x hx).2⟩,h.ul⟩
theorem PG.fine {H : Hp} {prs : List (Addr × Reel)} {ps : List Pt} (h : PG H prs ps) : ∀ n ∈ ps.map (·.1),Fine n:=fun n hn=>by
 rw [h.nm] at hn
 have z:=List.mem_of_mem_take hn
 unfold pnms at z
 simp only [List.mem_cons,List.not_mem_nil,or_false] at z
 rcases z with rfl | rfl | rfl <;> decide +kernel
def spParts : Sp:=fun vs H Q _=>∃ (a p : Addr) (ns : List Int) (prs : List (Addr × Reel)),vs = [.ref a,.int 1,.ref p]/\SqL K H a (ns.map V.int)/\ns.length <= 63/\RL H p prs/\prs ≠ []/\prs.length <= 100 /\
 ∀ (d : Addr) (ps : List Pt) (H' : Hp),Same H H'->H d = none->H' d = some (.dK (kvsOf ps))->PG H' prs ps->Q (.ref d) H'
theorem scParts : FnScope ["_law_script", "_law_at", "_law_reels", "_law_parts_here", "_law_k", "_law_name_here", "_law_cells"] ["_law_script", "_law_at", "_law_reels"] (defScope s__law_parts):=⟨rfl,rfl,rfl,by decide +kernel,rfl,by decide +kernel,by decide +kernel⟩
theorem ok_parts {D : Nat} {f : Addr} {fd : FuncData} (F : Fun K "_law_parts" "_law_parts" s__law_parts f fd) (dCell : Def P w K mg base CX0 "_law_cell" 1 ["_law_script", "_law_k"] (spCell K)) (dList : Def P w K mg base CX0 "_law_list" 11 ["_law_cells", "_law_reels", "_law_names", "_law_deep"] (spList 4)) (n_range : mg "range" = none) : FnOk P w K mg base CX0 12 f fd ["_law_script", "_law_at", "_law_reels"] (spParts (K:=K)):=by
 refine F.ok scParts (fun vs H Q E h=>?_) (fun cdv A outer s H vs Q E hr h=>?_)
 ·obtain ⟨a,p,ns,prs,rfl,_⟩:=h
  rfl
 obtain ⟨a,p,ns,prs,rfl,hS,hn63,rl,hprs,hp100,q⟩:=h
 refine useQ (ss_cons (s_set (i:=3) scParts.nd e_dnew)
  (ss_cons (s_for PassesOwn.never rfl (i_rng1 n_range (e_op op_mod (e_call dCell hr pass0 (a_cons (e_v 0) (a_cons (e_v 1) a_nil))) e_int)) (g_name (i:=4) scParts.nd)
   (ss_cons (s_set (i:=5) scParts.nd (e_ix ix_list (e_lstS ["p", "qu", "a"]) (e_v 4)))
   (ss_cons (s_set (i:=6) scParts.nd (e_sl sl_list (e_v 0) (o_some (e_op op_add (e_op op_add (e_v 1) e_int) (e_op op_mul e_int (e_v 4)))) (o_some (e_op op_add (e_op op_add (e_v 1) e_int) (e_op op_mul e_int (e_v 4))))))
   (ss_one (s_dput (hu_of hr) (e_v 3) (e_v 5) (e_call dList hr pass0 (a_cons (e_v 6) (a_cons (e_v 2) (a_cons (e_thaw (e_comp [] [] [] rfl trivial trivial (i_dict (e_v 3)) (fun _ _ _ _=>(e_n 0)))) (a_cons e_int a_nil))))))))))
  (ss_one (s_ret (e_v 3))))) ?_
 have zl : sizeLine = 16777216:=sizeLine_eq
 refine fun d hd=>?_
 have sd:=Same.new hd (.dK [])
 refine ⟨_,rfl,_,rfl,a,ns,1,rfl,sd.seq hS,_,_,rfl,rfl,(by show (0 : Int) < 4; decide),_,rfl,by omega,by omega,
  for_range (lo:=0) (n:=(cellOf ns 1 % 4).toNat) (fun i σ H'=>∃ (ps : List Pt) (o4 o5 o6 : Option V),σ = [some (.ref a),some (.int 1),some (.ref p),some (.ref d),o4,o5,o6]/\Same H H'/\H' d = some (.dK (kvsOf ps))/\ps.length = i/\PG H' prs ps)
  ⟨[],none,none,none,rfl,sd,upd_same,rfl,rfl,Nat.zero_le _,(fun x hx=>nomatch hx),fun j x hx=>by cases hx⟩ ?_ ?_⟩
 ·rintro i σ H1 hi ⟨ps,o4,o5,o6,rfl,S1,hd1,hpl,pg⟩
  have hi3 : i < 3:=by omega
  obtain ⟨nm,hnv,hnt,hnf⟩ : ∃ nm : Str,atI (pnms.map V.str) (0 + (i : Int)) = some (.str nm)/\pnms[i]? = some nm/\Fine nm:=by
   match i,hi3 with
   | 0,_=>exact ⟨"p",rfl,rfl,by decide +kernel⟩
   | 1,_=>exact ⟨"qu",rfl,rfl,by decide +kernel⟩
   | 2,_=>exact ⟨"a",rfl,rfl,by decide +kernel⟩
  refine ⟨(by show 3 <= sizeLine; decide),fun p1 hp1=>?_⟩
  have t1:=Same.new hp1 (.lst ([("p" : Str), "qu", "a"].map V.str))
  refine ⟨_,rfl,p1,_,_,_,rfl,rfl,SqL.of upd_same,hnv,?_⟩
  have c3 : CMul 3 (0 + (i : Int)):=.inl ⟨by decide,by decide⟩
  refine ⟨_,rfl,_,rfl,_,_,rfl,rfl,_,rfl,_,_,rfl,rfl,c3,_,_,rfl,rfl,_,rfl,_,rfl,_,_,rfl,rfl,_,rfl,_,_,rfl,rfl,c3,_,_,rfl,rfl,_,rfl,a,_,rfl,(S1.trans t1).seq hS,fun pc hpc=>?_⟩
  obtain ⟨cs,ecs,lcs⟩:=cut_ints ns (some (1 + 1 + 3 * (0 + (i : Int)))) (some (1 + 4 + 3 * (0 + (i : Int))))
  rw [ecs]
  have t2:=Same.new hpc (.lst (cs.map V.int))
  have T2:=t1.trans t2
  have hpc2:=upd_same (H:=upd H1 p1 (.lst ([("p" : Str), "qu", "a"].map V.str))) (a:=pc) (o:=.lst (cs.map V.int))
  generalize upd (upd H1 p1 (.lst ([("p" : Str), "qu", "a"].map V.str))) pc (.lst (cs.map V.int)) = H2 at t2 T2 hpc2 ⊢
  have hd2:=T2 _ _ hd1
  refine ⟨_,rfl,_,rfl,_,rfl,d,_,rfl,.inl hd2,fun ob H3 h3d h3o=>?_⟩
  refine comp_dict (ys:=(ps.map (·.1)).map V.str) h3d (by unfold kvsOf; rw [List.length_map]; omega) (by unfold kvsOf; rw [List.length_map,List.length_map,List.length_map]) ?_ ?_
  ·intro j kv y H' R sH hkv hy hR
   refine ⟨_,rfl,?_⟩
   have e : y = kV kv.1:=by
    unfold kvsOf at hkv
    rw [List.getElem?_map] at hkv
    rw [List.getElem?_map,List.getElem?_map] at hy
    cases z : ps[j]? with
    | none=>rw [z] at hkv; cases hkv
    | some x=>rw [z] at hkv hy; cases hkv; cases hy; rfl
   rw [<- e]
   exact hR _ (Same.refl _)
  intro l H4 s4 hl3 hl4
  refine ⟨d,ob,_,s4 _ _ h3d,fun o u z=>(by have z' : H d = some (.frz o u):=z; rw [hd] at z'; cases z'),?_⟩
  have ndl : d ≠ l:=by rintro rfl; rw [h3d] at hl3; cases hl3
  have S3 : Same H2 (upd H4 d (.dK (kvsOf ps))):=fun b o hb=>by
   by_cases e : b = d
   ·subst e
    rw [hd2] at hb
    cases hb
    exact upd_same
   ·rw [upd_ne e]
    exact s4 _ _ (by rw [h3o b e]; exact hb)
  have hl5 : upd H4 d (.dK (kvsOf ps)) l = some (.lst ((ps.map (·.1)).map V.str)):=by rw [upd_ne (Ne.symm ndl)]; exact hl4
  have hd5:=upd_same (H:=H4) (a:=d) (o:=.dK (kvsOf ps))
  generalize upd H4 d (.dK (kvsOf ps)) = H5 at S3 hl5 hd5 ⊢
  have T3:=T2.trans S3
  refine ⟨pc,p,l,1,cs,prs,ps.map (·.1),rfl,by decide,S3 _ _ hpc2,by omega,rl.same (S1.trans T3),hprs,hp100,hl5,pg.fine,(by rw [List.length_map]; omega),?_⟩
  intro at' xs H6 s6 hat0 htd gx dx wx
  have T6:=T3.trans s6
  have hd6:=s6 _ _ hd5
  have nin : nm ∉ ps.map (·.1):=by
   rw [pg.nm,hpl]
   match i,hi3,hnt with
   | 0,_,h=>cases h; decide +kernel
   | 1,_,h=>cases h; decide +kernel
   | 2,_,h=>cases h; decide +kernel
  refine ⟨_,rfl,_,rfl,d,_,rfl,.inl ⟨kvsOf ps,.inr nm,hd6,rfl,(by unfold kvsOf; rw [List.length_map]; omega),rfl⟩,?_⟩
  have tk:=TK.dk (o:=.dK (kvsOf (ps ++ [(nm,at',xs)]))) hd6
  rw [kvs_snoc ps nm at' xs nin]
  refine ⟨ps ++ [(nm,at',xs)],_,_,_,rfl,fun b o hb=>?_,upd_same,(by rw [List.length_append,hpl]; rfl),?_,(by rw [List.length_append,hpl,List.length_singleton]; omega),(fun x hx=>?_),fun j x hx=>?_⟩
  ·rw [upd_ne (ne_of_none hb hd)]
   exact (S1.trans T6) _ _ hb
  ·rw [List.map_append,pg.nm,List.length_append,hpl,List.length_singleton,List.take_add_one,hnt]
   rfl
  ·rcases List.mem_append.mp hx with z | z
   ·exact ⟨((pg.td x z).1.tk (TK.of T6)).tk tk,(pg.td x z).2⟩
   ·rw [List.mem_singleton.mp z]
    exact ⟨htd.tk tk,gx.g,dx,by show wL xs <= 400; omega⟩
  ·by_cases hj : j < ps.length
   ·rw [List.getElem?_append_left hj] at hx
    exact pg.ul j x hx
   ·rw [List.getElem?_append_right (by omega)] at hx
    have ej : j = ps.length:=by
     have:=(List.getElem?_eq_some_iff.mp hx).1
     rw [List.length_singleton] at this
     omega
    subst ej
    rw [Nat.sub_self] at hx
    cases hx
    rw [pg.nm] at gx
    exact gx
 ·rintro σ H1 ⟨ps,o4,o5,o6,rfl,S1,hd1,hpl,pg⟩
  exact ⟨_,rfl,q d ps H1 S1 hd hd1 pg⟩
end
end K38
set_option maxHeartbeats 2000000
namespace K38
open PySem L2 G DT
open IT hiding It
mutual
def hI (T : Str->Int->Int->Prop) (G : Str->List IT.It->Prop) : IT.It->Prop
 | .clip r f l=>Fine r/\T r f l
 | .times _ xs=>hL T G xs
 | .back xs=>hL T G xs
 | .part n xs=>Fine n/\G n xs
 | .fade m=>0 <= m
def hL (T : Str->Int->Int->Prop) (G : Str->List IT.It->Prop) : List IT.It->Prop
 | []=>True
 | x :: r=>hI T G x/\hL T G r
end
theorem hL_mem {T : Str->Int->Int->Prop} {G : Str->List IT.It->Prop} : ∀ {xs : List IT.It} {x : IT.It},hL T G xs->x ∈ xs->hI T G x
 | y :: r,x,g,h=>by
  rw [hL] at g
  rcases List.mem_cons.mp h with rfl | h
  ·exact g.1
  ·exact hL_mem g.2 h
structure Pa (T : Str->Int->Int->Prop) (G : Str->List IT.It->Prop) (ns : List Str) : Prop where
 fn : ∀ n ys ys',G n ys->G n ys'->ys = ys'
 dom : ∀ n ys,G n ys->n ∈ ns
 len : ns.length <= 100
 wl : ∀ n ys,G n ys->WL ys
 ok : ∀ n ys,G n ys->hL T G ys
def PR (H : Hp) (pd : Addr) (G : Str->List IT.It->Prop) : Prop:=∃ kvs,Rd H pd (.dK kvs)/\∀ n ys,G n ys->∃ b,valV kvs (Sum.inr n) = some (.ref b)/\Td H (.ref b) (.tuple (dL ys))
theorem rds {H H' : Hp} {d : Addr} {u : HO} (h : Rd H d u) (s : Same H H') : Rd H' d u:=by
 rcases h with r | ⟨o,r⟩
 ·exact .inl (s _ _ r)
 ·exact .inr ⟨o,s _ _ r⟩
theorem rde {H H' : Hp} {d e : Addr} {u : HO} (h : Rd H d u) (n : d ≠ e) (s : Ex e H H') : Rd H' d u:=by
 rcases h with r | ⟨o,r⟩
 ·exact .inl (s _ _ n r)
 ·exact .inr ⟨o,s _ _ n r⟩
theorem rdn {H : Hp} {d e : Addr} {u : HO} (h : Rd H d u) (n : H e = none) : e ≠ d:=by
 rintro rfl
 rcases h with r | ⟨o,r⟩ <;> rw [r] at n <;> cases n
theorem PR.ex {H H' : Hp} {pd p : Addr} {G : Str->List IT.It->Prop} {kvs : List (Key × V)} (h : PR H pd G) (e : Ex p H H') (hp : Rd H p (.dK kvs)) (n : pd ≠ p) : PR H' pd G:=by
 obtain ⟨k,h1,h2⟩:=h
 refine ⟨k,rde h1 n e,fun m ys g=>?_⟩
 obtain ⟨b,h3,h4⟩:=h2 m ys g
 exact ⟨b,h3,h4.tk (rd_tk hp e)⟩
theorem PR.same {H H' : Hp} {pd : Addr} {G : Str->List IT.It->Prop} (h : PR H pd G) (s : Same H H') : PR H' pd G:=by
 obtain ⟨k,h1,h2⟩:=h
 refine ⟨k,rds h1 s,fun m ys g=>?_⟩
 obtain ⟨b,h3,h4⟩:=h2 m ys g
 exact ⟨b,h3,h4.tk (TK.of s)⟩
theorem PR.get {H : Hp} {pd : Addr} {G : Str->List IT.It->Prop} (h : PR H pd G) {n : Str} {ys : List IT.It} (g : G n ys) : ∃ b,DGet H pd (.str n) (some (.ref b))/\Td H (.ref b) (.tuple (dL ys)):=by
 obtain ⟨kvs,h1,h2⟩:=h
 obtain ⟨b,h3,h4⟩:=h2 n ys g
 exact ⟨b,.inl ⟨kvs,.inr n,h1,rfl,h3.symm⟩,h4⟩
theorem nodup_sub_len {α : Type} : ∀ {l m : List α},l.Nodup->(∀ x ∈ l,x ∈ m)->l.length <= m.length
 | [],_,_,_=>Nat.zero_le _
 | a :: l,m,h,k=>by
  obtain ⟨p,q,rfl⟩:=List.append_of_mem (k a List.mem_cons_self)
  rw [List.nodup_cons] at h
  have:=nodup_sub_len (m:=p ++ q) h.2 fun x hx=>by
   have:=k x (List.mem_cons_of_mem _ hx)
   simp only [List.mem_append,List.mem_cons] at this ⊢
   rcases this with z | z | z
   ·exact .inl z
   ·subst z; exact absurd hx h.1
   ·exact .inr z
  simp only [List.length_append,List.length_cons] at this ⊢
  omega
structure Wk (G : Str->List IT.It->Prop) (ns : List Str) (n0 : Nat) (wk : List (Key × V)) : Prop where
 nd : (wk.map (·.1)).Nodup
 sub : ∀ k ∈ wk.map (·.1),k ∈ ns.map (Sum.inr : Str->Key)
 bl : ∀ n v,valV wk (.inr n : Key) = some v->v = .bl true \/ v = .bl false
 way : ∀ n,valV wk (.inr n : Key) = some (.bl true)->∀ zs,G n zs->n0 <= dpL zs
theorem Wk.len {G : Str->List IT.It->Prop} {ns : List Str} {n0 : Nat} {wk : List (Key × V)} (h : Wk G ns n0 wk) : wk.length <= ns.length:=by
 have:=nodup_sub_len h.nd h.sub
 simpa using this
theorem Wk.mono {G : Str->List IT.It->Prop} {ns : List Str} {n0 n1 : Nat} {wk : List (Key × V)} (h : Wk G ns n0 wk) (l : n1 <= n0) : Wk G ns n1 wk:=⟨h.nd,h.sub,h.bl,fun n e zs g=>Nat.le_trans l (h.way n e zs g)⟩
theorem putK_keys {kvs : List (Key × V)} {k : Key} {v : V} : ∀ j ∈ (putK kvs k v).map (·.1),j = k \/ j ∈ kvs.map (·.1):=fun j hj=>by
 cases z : valV kvs k with
 | none =>
  rw [putK_new v z,List.map_append] at hj
  rcases List.mem_append.mp hj with y | y
  ·exact .inr y
  ·exact .inl (List.mem_singleton.mp y)
 | some u =>
  refine .inr ?_
  unfold putK at hj
  split at hj
  ·rw [List.map_map] at hj
   obtain ⟨p,hp,e⟩:=List.mem_map.mp hj
   refine List.mem_map.mpr ⟨p,hp,?_⟩
   rw [<- e]
   dsimp only [Function.comp]
   split <;> simp_all
  ·rename_i h
   exfalso
   apply h
   simp only [valV] at z
   exact (by
    rw [List.any_eq_true]
    cases f : kvs.find? (fun p=>decide (p.1 = k)) with
    | none=>rw [f] at z; cases z
    | some p=>exact ⟨p,List.mem_of_find?_eq_some f,by have:=List.find?_some f; simpa using this⟩)
end K38
set_option maxHeartbeats 2000000
namespace K38
open PySem L2 G DT
open IT hiding It
theorem nd_put {kvs : List (Key × V)} {k : Key} (v : V) (hn : (kvs.map (·.1)).Nodup) : ((putK kvs k v).map (·.1)).Nodup:=by
 cases z : valV kvs k with
 | none=>exact nd_putK v hn z
 | some u =>
  unfold putK
  split
  ·rw [List.map_map]
   have e : ((fun x : Key × V=>x.1) ∘ fun kv : Key × V=>if kv.1 = k then (kv.1,v) else kv) = fun x=>x.1:=by
    funext p
    dsimp only [Function.comp]
    split <;> rfl
   rw [e]
   exact hn
  ·rename_i h
   rw [<- putK_new v (by
    cases q : valV kvs k with
    | none=>rfl
    | some x=>rw [valV_any,q] at h; exact (h rfl).elim)]
   exact nd_putK v hn (by
    cases q : valV kvs k with
    | none=>rfl
    | some x=>rw [valV_any,q] at h; exact (h rfl).elim)
theorem Wk.put {G : Str->List IT.It->Prop} {ns : List Str} {n0 n1 : Nat} {wk : List (Key × V)} {n : Str} {b : Bool} (h : Wk G ns n0 wk) (hn : n ∈ ns) (l : n1 <= n0) (hb : b = true->∀ zs,G n zs->n1 <= dpL zs) : Wk G ns n1 (putK wk (.inr n) (.bl b)):=by
 refine ⟨nd_put _ h.nd,fun k hk=>?_,fun m v hv=>?_,fun m hm zs g=>?_⟩
 ·rcases putK_keys k hk with rfl | z
  ·exact List.mem_map.mpr ⟨n,hn,rfl⟩
  ·exact h.sub k z
 ·rw [valV_put] at hv
  split at hv
  ·cases hv
   cases b
   ·exact .inr rfl
   ·exact .inl rfl
  ·exact h.bl m v hv
 ·rw [valV_put] at hm
  split at hm
  ·rename_i e
   cases e
   cases hm
   exact hb rfl zs g
  ·exact Nat.le_trans l (h.way m hm zs g)
theorem Wk.later {G : Str->List IT.It->Prop} {ns : List Str} {n0 : Nat} {wk wk' : List (Key × V)} (h : Wk G ns n0 wk) (k : Wk G ns 0 wk') (t : ∀ m,valV wk' (.inr m : Key) = some (.bl true)->valV wk (.inr m : Key) = some (.bl true)) : Wk G ns n0 wk':=⟨k.nd,k.sub,k.bl,fun n e zs g=>h.way n (t n e) zs g⟩
section
variable {P : Program} {w : World} {K : PySem.W.Frag} {mg : Str->Option Value} {base : Heap}
def spLClip : Sp:=fun vs H Q E=>∃ (c lr : Addr) (prs : List (Addr × Reel)) (r : Str) (f l : Int),vs = [.ref c,.ref lr]/\H c = some (.tup [.str "clip",.str r,.int f,.int l])/\RL H lr prs/\Uq prs/\Ck prs r f l/\∀ H',Same H H'->Q .non H'
theorem scLClip : FnScope ["clip", "reels", "reel", "frame"] ["clip", "reels"] (defScope s_look_at_clip):=⟨rfl,rfl,rfl,by decide +kernel,rfl,by decide +kernel,by decide +kernel⟩
theorem ok_lclip {f CN CF fI : Addr} {fd fdI : FuncData} (F : Fun K "look_at_clip" "look_at_clip" s_look_at_clip f fd) (dNamed : Def P w K mg base (CX1 P w) "reel_named" 3 ["reels", "name"] (spNamed CN)) (dHasF : Def P w K mg base CX0 "has_frame" 2 ["reel", "frame"] spHasF)
  (m_NoFrame : mg "NoFrame" = some (.ref CF)) (R_NoFrame : XRaise K CF fI) (G_NoFrame : FnOk P w K mg base CX0 1 fI fdI ["self", "reel", "frame"] (spInit2 CF)) (b_NoFrame : Binds K fdI ["self", "reel", "frame"] []) :
  FnOk P w K mg base (CX1 P w) 4 f fd ["clip", "reels"] spLClip:=by
 refine F.okX scLClip (fun vs H Q E h=>?_) (fun cdv A outer s H vs Q E hr h=>?_)
 ·obtain ⟨c,lr,prs,r,f,l,rfl,_⟩:=h
  rfl
 obtain ⟨c,lr,prs,r,f,l,rfl,hc,rl,uq,⟨x0,hx0,en,f0,f1,l0,l1⟩,q⟩:=h
 refine useQ (ss_cons (s_set (i:=2) scLClip.nd (e_call dNamed hr passX (a_cons (e_v 1) (a_cons (e_ix ix_tup (e_v 0) e_int) a_nil))))
  (ss_one (s_for PassesOwn.leaving rfl (i_tup (e_sl sl_tupG (e_v 0) (o_some e_int) o_none)) (g_name (i:=3) scLClip.nd)
   (ss_one (s_if (t_not (t_val (e_call dHasF hr pass0 (a_cons (e_v 2) (a_cons (e_v 3) a_nil)))))
    (ss_one (s_raiseI m_NoFrame R_NoFrame G_NoFrame hr b_NoFrame (a_cons (e_ix ix_tup (e_v 0) e_int) (a_cons (e_v 3) a_nil))))
    ss_nil))))) ?_
 refine ⟨_,rfl,_,rfl,c,_,_,_,rfl,rfl,SqT.of hc,atI_nat (j:=1) rfl,lr,prs,r,rfl,rl,fun x hx hn H1 s1=>?_,fun hn H1 dx s1 hdx=>absurd en (hn x0 hx0)⟩
 have ex:=uq x hx x0 hx0 (by rw [hn,en])
 subst ex
 have hc1:=s1 _ _ hc
 refine ⟨_,rfl,_,rfl,c,_,rfl,hc1,fun pt H2 s2 hpt=>?_⟩
 have S2:=s1.trans s2
 have ecut : cutV [V.str "clip",.str r,.int f,.int l] (some 2) none = [.int f,.int l]:=rfl
 rw [ecut] at hpt
 refine ⟨pt,rfl,⟨_,SqT.of hpt⟩,for_tup (K:=K) (a:=pt) (xs:=[.int f,.int l]) (fun i σ H'=>∃ o3 : Option V,σ = [some (.ref c),some (.ref lr),some (.ref x.1),o3]/\Same H2 H') ⟨none,rfl,Same.refl _⟩ (fun i σ H' _ ⟨_,_,sm⟩=>SqT.of (sm _ _ hpt)) ?_ ?_⟩
 ·rintro i v σ H' hv ⟨o3,rfl,sm⟩
  have S3:=S2.trans sm
  obtain ⟨g,rfl,hg⟩ : ∃ g : Int,v = .int g/\has x.2 g:=by
   match i,hv with
   | 0,hv=>cases hv; exact ⟨f,rfl,f0,f1⟩
   | 1,hv=>cases hv; exact ⟨l,rfl,l0,l1⟩
  refine ⟨_,rfl,_,rfl,x.1,x.2,g,rfl,S3 _ _ (rl.2 x hx).1,fun z=>⟨_,rfl,iteF ⟨_,rfl,sm⟩⟩,fun z=>absurd hg z⟩
 ·rintro σ H' ⟨o3,rfl,sm⟩
  exact q H' (S2.trans sm)
def spIsF : Sp:=fun vs H Q _=>∃ (v : V) (x : IT.It),vs = [v]/\Td H v (dI x)/\Q (.bl (isF x)) H
theorem scIsF : FnScope ["item"] ["item"] (defScope s_is_fade):=⟨rfl,rfl,rfl,by decide +kernel,rfl,by decide +kernel,by decide +kernel⟩
theorem ok_isF {f : Addr} {fd : FuncData} (F : Fun K "is_fade" "is_fade" s_is_fade f fd) : FnOk P w K mg base CX0 1 f fd ["item"] spIsF:=by
 refine F.ok scIsF (fun vs H Q E h=>?_) (fun cdv A outer s H vs Q E hr h=>?_)
 ·obtain ⟨v,x,rfl,_⟩:=h
  rfl
 obtain ⟨v,x,rfl,ht,q⟩:=h
 refine useQ (ss_one (s_ret (e_cmp op_eq (e_ix ix_tup (e_v 0) e_int) e_str))) ?_
 obtain ⟨a,us,rfl,ha⟩:=td_kd ht
 rw [<- kd_fade] at q
 exact ⟨_,rfl,a,_,_,_,rfl,rfl,SqT.of ha,atI_nat (j:=0) rfl,rfl,q⟩
theorem at_item {H : Hp} {vs : List V} {xs : List IT.It} {j : Nat} {x : IT.It} (t : Tds H vs (dL xs)) (h : xs[j]? = some x) : ∃ v,vs[j]? = some v/\Td H v (dI x) :=
 t.at (by rw [dL_map,List.getElem?_map,h]; rfl)
theorem len_item {H : Hp} {vs : List V} {xs : List IT.It} (t : Tds H vs (dL xs)) : vs.length = xs.length:=by rw [t.len,dL_map,List.length_map]
theorem fade_in : ∀ {xs : List IT.It},WL xs->∀ (k : Nat) (m : Int),xs[k]? = some (.fade m)->∃ j x y,k = j + 1/\xs[j]? = some x/\xs[k + 1]? = some y/\isF x = false/\isF y = false
 | _,.one h,k,m,e=>by
  match k,e with
  | 0,e=>cases e; cases h
  | k + 1,e=>cases e
 | _,@WL.cons x r h t,k,m,e=>by
  match k,e with
  | 0,e=>cases e; cases h
  | k + 1,e =>
   obtain ⟨j,a,b,rfl,h1,h2,h3,h4⟩:=fade_in t k m e
   exact ⟨j + 1,a,b,rfl,h1,h2,h3,h4⟩
 | _,@WL.fade x m' r h t,k,m,e=>by
  match k,e with
  | 0,e=>cases e; cases h
  | 1,e =>
   obtain ⟨y,r',rfl,wy⟩:=t.head
   exact ⟨0,x,y,rfl,rfl,rfl,h.nf,wy.nf⟩
  | k + 2,e =>
   obtain ⟨j,a,b,rfl,h1,h2,h3,h4⟩:=fade_in t k m e
   exact ⟨j + 2,a,b,rfl,h1,h2,h3,h4⟩
def spLFade : Sp:=fun vs H Q E=>∃ (p : Addr) (xs : List IT.It) (k : Nat) (m : Int),vs = [.ref p,.int (k : Int)]/\Td H (.ref p) (.tuple (dL xs))/\WL xs/\xs[k]? = some (.fade m)/\∀ H',Same H H'->Q .non H'
theorem scLFade : FnScope ["items", "place"] ["items", "place"] (defScope s_look_at_fade):=⟨rfl,rfl,rfl,by decide +kernel,rfl,by decide +kernel,by decide +kernel⟩
theorem ok_lfade {f CD : Addr} {fd : FuncData} (F : Fun K "look_at_fade" "look_at_fade" s_look_at_fade f fd) (dIsF : Def P w K mg base CX0 "is_fade" 1 ["item"] spIsF) (n_len : mg "len" = none)
  (m_NoFade : mg "NoFade" = some (.ref CD)) (q_NoFade : PySem.W.excIn K CD bmVE "ValueError.__new__" = true) :
  FnOk P w K mg base (CX1 P w) 3 f fd ["items", "place"] spLFade:=by
 refine F.okX scLFade (fun vs H Q E h=>?_) (fun cdv A outer s H vs Q E hr h=>?_)
 ·obtain ⟨p,xs,k,m,rfl,_⟩:=h
  rfl
 obtain ⟨p,xs,k,m,rfl,td,wl,hk,q⟩:=h
 refine useQ (ss_cons (s_if (t_w (w_or (t_cmp op_eq (e_v 1) e_int) (w_or1 (t_cmp op_eq (e_v 1) (e_op op_sub (e_b call_len_seq n_len PySem.boot_len (a_cons (e_v 0) a_nil)) e_int)))))
   (ss_one (s_raise m_NoFade q_NoFade (a_cons e_str a_nil)))
   ss_nil)
  (ss_one (s_if (t_w (w_or (t_val (e_call dIsF hr pass0 (a_cons (e_ix ix_tup (e_v 0) (e_op op_sub (e_v 1) e_int)) a_nil))) (w_or1 (t_val (e_call dIsF hr pass0 (a_cons (e_ix ix_tup (e_v 0) (e_op op_add (e_v 1) e_int)) a_nil))))))
   (ss_one (s_raise m_NoFade q_NoFade (a_cons e_str a_nil)))
   ss_nil))) ?_
 obtain ⟨_,vs,ep,hp,tds⟩:=td.tinv
 cases ep
 have lv:=len_item tds
 obtain ⟨j,x1,x2,rfl,hx1,hx2,n1,n2⟩:=fade_in wl k m hk
 have hlt : j + 1 + 1 < xs.length:=(List.getElem?_eq_some_iff.mp hx2).1
 obtain ⟨v1,hv1,t1⟩:=at_item tds hx1
 obtain ⟨v2,hv2,t2⟩:=at_item tds hx2
 have e1 : (((j + 1 : Nat) : Int) - 1) = ((j : Nat) : Int):=by omega
 have e2 : (((j + 1 : Nat) : Int) + 1) = ((j + 1 + 1 : Nat) : Int):=by omega
 refine ⟨_,rfl,rfl,_,rfl,iteN (decide_eq_false fun z=>by have:=V.int.inj z; omega) ?_⟩
 refine ⟨_,rfl,_,rfl,p,vs,rfl,.inr (SqT.of hp),_,_,rfl,rfl,rfl,_,rfl,iteN (decide_eq_false fun z=>by have:=V.int.inj z; omega) ?_⟩
 refine ⟨_,rfl,_,rfl,_,_,rfl,rfl,p,_,_,v1,rfl,rfl,SqT.of hp,(by show atI _ (((j + 1 : Nat) : Int) - 1) = _; rw [e1]; exact atI_nat hv1),v1,x1,rfl,t1,_,rfl,iteN n1 ?_⟩
 refine ⟨_,rfl,_,rfl,_,_,rfl,rfl,p,_,_,v2,rfl,rfl,SqT.of hp,(by show atI _ (((j + 1 : Nat) : Int) + 1) = _; rw [e2]; exact atI_nat hv2),v2,x2,rfl,t2,_,rfl,iteN n2 ?_⟩
 exact q H (Same.refl _)
structure Arnd (H : Hp) (pd lr pw : Addr) (G : Str->List IT.It->Prop) (ns : List Str) (prs : List (Addr × Reel)) (n0 : Nat) (wk : List (Key × V)) : Prop where
 pr : PR H pd G
 pa : Pa (Ck prs) G ns
 rl : RL H lr prs
 uq : Uq prs
 w : H pw = some (.dK wk)
 wo : Wk G ns n0 wk
 ne : pd ≠ pw
theorem Arnd.ex {H H' : Hp} {pd lr pw : Addr} {G : Str->List IT.It->Prop} {ns : List Str} {prs : List (Addr × Reel)} {n0 n1 : Nat} {wk wk' : List (Key × V)} (h : Arnd H pd lr pw G ns prs n0 wk) (e : Ex pw H H') (hw : H' pw = some (.dK wk')) (wo : Wk G ns n1 wk') : Arnd H' pd lr pw G ns prs n1 wk' :=
 ⟨h.pr.ex e (.inl h.w) h.ne,h.pa,RL.ex h.rl (.inl h.w) e,h.uq,hw,wo,h.ne⟩
def spLook (d : Nat) : Sp:=fun vs H Q E=>∃ (p pd lr pw : Addr) (xs : List IT.It) (G : Str->List IT.It->Prop) (ns : List Str) (prs : List (Addr × Reel)) (wk : List (Key × V)),vs = [.ref p,.ref pd,.ref lr,.ref pw] /\
 Td H (.ref p) (.tuple (dL xs))/\WL xs/\hL (Ck prs) G xs/\Arnd H pd lr pw G ns prs (dpL xs) wk/\dpL xs <= d/\∀ wk' H',Ex pw H H'->H' pw = some (.dK wk')->Wk G ns 0 wk'->(∀ m,valV wk' (.inr m : Key) = some (.bl true)->valV wk (.inr m : Key) = some (.bl true))->Q .non H'
def spLookP : Nat->Sp
 | 0=>fun _ _ _ _=>False
 | d + 1=>spLook d
theorem spLookP_of {d : Nat} {vs : List V} {H : Hp} {Q : VK} {E : XK} (h : 0 < d) (z : spLook (d - 1) vs H Q E) : spLookP d vs H Q E:=by
 cases d with
 | zero=>exact absurd h (Nat.lt_irrefl _)
 | succ d=>exact z
def spLPart (d : Nat) : Sp:=fun vs H Q E=>∃ (n : Str) (pd lr pw : Addr) (ys : List IT.It) (G : Str->List IT.It->Prop) (ns : List Str) (prs : List (Addr × Reel)) (wk : List (Key × V)),vs = [.str n,.ref pd,.ref lr,.ref pw]/\G n ys/\dpL ys + 1 <= d /\
 Arnd H pd lr pw G ns prs (dpL ys + 1) wk/\∀ wk' H',Ex pw H H'->H' pw = some (.dK wk')->Wk G ns 0 wk'->(∀ m,valV wk' (.inr m : Key) = some (.bl true)->valV wk (.inr m : Key) = some (.bl true))->Q .non H'
theorem scLPart : FnScope ["name", "parts", "reels", "within"] ["name", "parts", "reels", "within"] (defScope s_look_at_part):=⟨rfl,rfl,rfl,by decide +kernel,rfl,by decide +kernel,by decide +kernel⟩
theorem ok_lpart {d : Nat} {f CN fI : Addr} {fd fdI : FuncData} (F : Fun K "look_at_part" "look_at_part" s_look_at_part f fd) (dLook : Def P w K mg base (CX1 P w) "look_through" (2 * d + 5) ["items", "parts", "reels", "within"] (spLookP d))
  (m_NoName : mg "NoName" = some (.ref CN)) (R_NoName : XRaise K CN fI) (G_NoName : FnOk P w K mg base CX0 1 fI fdI ["self", "name"] (spInit CN "name")) (b_NoName : Binds K fdI ["self", "name"] []) :
  FnOk P w K mg base (CX1 P w) (2 * d + 6) f fd ["name", "parts", "reels", "within"] (spLPart d):=by
 refine F.okX scLPart (fun vs H Q E h=>?_) (fun cdv A outer s H vs Q E hr h=>?_)
 ·obtain ⟨n,pd,lr,pw,ys,G,ns,prs,wk,rfl,_⟩:=h
  rfl
 obtain ⟨n,pd,lr,pw,ys,G,ns,prs,wk,rfl,gn,hdy,A0,q⟩:=h
 refine useQ (ss_cons (s_if (t_w (w_or (t_dnotin (hu_of hr) (e_v 0) (e_v 1)) (w_or1 (t_val (e_dgetD (hu_of hr) (e_v 3) (e_v 0) e_bl)))))
   (ss_one (s_raiseI m_NoName R_NoName G_NoName hr b_NoName (a_cons (e_v 0) a_nil) (hj:=by omega)))
   ss_nil)
  (ss_one (s_if (t_dnotin (hu_of hr) (e_v 0) (e_v 3))
   (ss_cons (s_dput (hu_of hr) (e_v 3) (e_v 0) e_bl)
   (ss_cons (s_expr (e_call dLook hr passX (a_cons (e_dget (hu_of hr) (e_v 1) (e_v 0)) (a_cons (e_v 1) (a_cons (e_v 2) (a_cons (e_v 3) a_nil)))) (hj:=by omega)))
   (ss_one (s_dput (hu_of hr) (e_v 3) (e_v 0) e_bl))))
   ss_nil))) ?_
 have zl : sizeLine = 16777216:=sizeLine_eq
 obtain ⟨b,dg,tb⟩:=A0.pr.get gn
 have hnm:=A0.pa.dom n ys gn
 have hns:=A0.pa.len
 have il:=A0.wo.len
 have dw : DGet H pw (.str n) (valV wk (.inr n)):=DGet.k (k:=.inr n) A0.w
 refine ⟨_,rfl,_,rfl,pd,_,rfl,dg,_,rfl,iteF ?_⟩
 cases hz : valV wk (.inr n : Key) with
 | some v =>
  rw [hz] at dw
  rcases A0.wo.bl n v hz with rfl | rfl
  ·have:=A0.wo.way n hz ys gn
   omega
  ·refine ⟨_,rfl,pw,rfl,.inl ⟨wk,.inl A0.w⟩,_,rfl,_,dw,_,rfl,iteF ⟨_,rfl,_,rfl,pw,_,rfl,dw,_,rfl,iteF ?_⟩⟩
   exact q wk H (Ex.refl _ _) A0.w (A0.wo.mono (Nat.zero_le _)) fun _ h=>h
 | none =>
  rw [hz] at dw
  refine ⟨_,rfl,pw,rfl,.inl ⟨wk,.inl A0.w⟩,_,rfl,_,dw,_,rfl,iteF ⟨_,rfl,_,rfl,pw,_,rfl,dw,_,rfl,iteT ?_⟩⟩
  refine ⟨_,rfl,_,rfl,pw,_,rfl,.inl ⟨wk,.inr n,A0.w,rfl,by omega,rfl⟩,?_⟩
  have x1 : Ex pw H (upd H pw (.dK (putK wk (.inr n) (.bl true)))):=fun c o hc h=>by rw [upd_ne hc]; exact h
  have W1 : Wk G ns (dpL ys) (putK wk (.inr n) (.bl true)):=A0.wo.put hnm (by omega) fun _ zs g=>by rw [A0.pa.fn n zs ys g gn]; exact Nat.le_refl _
  have A1:=A0.ex x1 upd_same W1
  generalize upd H pw (.dK (putK wk (.inr n) (.bl true))) = H1 at x1 A1 ⊢
  obtain ⟨b1,dg1,tb1⟩:=A1.pr.get gn
  refine ⟨_,rfl,_,rfl,pd,_,rfl,dg1,_,rfl,_,rfl,_,rfl,spLookP_of (by omega) ⟨b1,pd,lr,pw,ys,G,ns,prs,_,rfl,tb1,A0.pa.wl n ys gn,A0.pa.ok n ys gn,A1,by omega,fun wk2 H2 x2 hw2 W2 k2=>?_⟩⟩
  have il2:=W2.len
  refine ⟨_,rfl,_,rfl,pw,_,rfl,.inl ⟨wk2,.inr n,hw2,rfl,by omega,rfl⟩,?_⟩
  refine q _ _ (x1.trans (x2.trans fun c o hc h=>by rw [upd_ne hc]; exact h)) upd_same (W2.put hnm (Nat.le_refl _) fun e=>by cases e) fun m hm=>?_
  rw [valV_put] at hm
  split at hm
  ·cases hm
  ·rename_i ne
   have:=k2 m hm
   rw [valV_put,if_neg ne] at this
   exact this
theorem scLook : FnScope ["items", "parts", "reels", "within", "place", "item"] ["items", "parts", "reels", "within"] (defScope s_look_through):=⟨rfl,rfl,rfl,by decide +kernel,rfl,by decide +kernel,by decide +kernel⟩
theorem ok_look {d : Nat} {f : Addr} {fd : FuncData} (F : Fun K "look_through" "look_through" s_look_through f fd) (dLook : Def P w K mg base (CX1 P w) "look_through" (2 * d + 5) ["items", "parts", "reels", "within"] (spLookP d))
  (dLPart : Def P w K mg base (CX1 P w) "look_at_part" (2 * d + 6) ["name", "parts", "reels", "within"] (spLPart d)) (dLClip : Def P w K mg base (CX1 P w) "look_at_clip" 4 ["clip", "reels"] spLClip) (dLFade : Def P w K mg base (CX1 P w) "look_at_fade" 3 ["items", "place"] spLFade) (n_enumerate : mg "enumerate" = none) :
  FnOk P w K mg base (CX1 P w) (2 * d + 7) f fd ["items", "parts", "reels", "within"] (spLook d):=by
 refine F.okX scLook (fun vs H Q E h=>?_) (fun cdv A outer s H vs Q E hr h=>?_)
 ·obtain ⟨p,pd,lr,pw,xs,G,ns,prs,wk,rfl,_⟩:=h
  rfl
 obtain ⟨p,pd,lr,pw,xs,G,ns,prs,wk,rfl,td,wl,hl,A0,hd,q⟩:=h
 refine useQ (ss_one (s_for PassesOwn.leaving rfl (i_enumT n_enumerate (e_v 0)) (g_tup rfl (gs_cons (g_name (i:=4) scLook.nd) (gs_cons (g_name (i:=5) scLook.nd) gs_nil)))
   (ss_one (s_if (t_cmp op_eq (e_ix ix_tup (e_v 5) e_int) e_str)
    (ss_one (s_expr (e_call dLClip hr passX (a_cons (e_v 5) (a_cons (e_v 2) a_nil)) (hj:=by omega))))
    (ss_one (s_if (t_cmp op_eq (e_ix ix_tup (e_v 5) e_int) e_str)
     (ss_one (s_expr (e_call dLFade hr passX (a_cons (e_v 0) (a_cons (e_v 4) a_nil)) (hj:=by omega))))
     (ss_one (s_if (t_cmp op_eq (e_ix ix_tup (e_v 5) e_int) e_str)
      (ss_one (s_expr (e_call dLPart hr passX (a_cons (e_ix ix_tup (e_v 5) e_int) (a_cons (e_v 1) (a_cons (e_v 2) (a_cons (e_v 3) a_nil)))) (hj:=by omega))))
      (ss_one (s_expr (e_call dLook hr passX (a_cons (e_ix ix_tup (e_v 5) (e_un un_neg e_int)) (a_cons (e_v 1) (a_cons (e_v 2) (a_cons (e_v 3) a_nil)))) (hj:=by omega)))))))))))) ?_
 obtain ⟨_,vs,ep,hp,tds⟩:=td.tinv
 cases ep
 have lv:=len_item tds
 have pne : p ≠ pw:=fun z=>by rw [z,A0.w] at hp; cases hp
 refine ⟨_,rfl,p,rfl,⟨_,SqT.of hp⟩,for_enumT (K:=K) (a:=p) (xs:=vs) (fun i σ H'=>∃ (o4 o5 : Option V) (wk' : List (Key × V)),σ = [some (.ref p),some (.ref pd),some (.ref lr),some (.ref pw),o4,o5]/\Ex pw H H'/\H' pw = some (.dK wk')/\Wk G ns 0 wk'/\(∀ m,valV wk' (.inr m : Key) = some (.bl true)->valV wk (.inr m : Key) = some (.bl true)))
  ⟨none,none,wk,rfl,Ex.refl _ _,A0.w,A0.wo.mono (Nat.zero_le _),fun _ h=>h⟩ (fun i σ H' _ ⟨_,_,_,_,ex,_⟩=>SqT.of (ex _ _ pne hp)) ?_ ?_⟩
 ·rintro i v σ H' pe hvv ⟨o4,o5,wk',rfl,ex,hk',W',k'⟩ hpe
  obtain ⟨dd,hdd,tv⟩:=tds.get hvv
  obtain ⟨x,hx,rfl⟩:=dL_get hdd
  have mx:=List.mem_of_getElem? hx
  have hxw:=wl.mem x mx
  have hxh:=hL_mem hl mx
  have hdx : dpI x <= dpL xs:=dpL_le.mp (Nat.le_refl _) x mx
  have te:=Same.new hpe (.tup [.int (i : Int),v])
  have ex2 : Ex pw H (upd H' pe (.tup [.int (i : Int),v])):=ex.trans (Ex.of te)
  have hk2:=te _ _ hk'
  have A2:=A0.ex ex2 hk2 (A0.wo.later W' k')
  have tkk:=rd_tk (.inl A0.w) ex2
  have tv2:=tv.tk tkk
  have td2:=td.tk tkk
  have hpt : upd H' pe (.tup [.int (i : Int),v]) pe = some (.tup [.int (i : Int),v]):=upd_same
  generalize upd H' pe (.tup [.int (i : Int),v]) = H2 at te ex2 hk2 A2 tv2 td2 hpt
  have nxt : ∀ {o4 o5 : Option V} {wk2 : List (Key × V)} {H3 : Hp},Ex pw H2 H3->H3 pw = some (.dK wk2)->Wk G ns 0 wk2->(∀ m,valV wk2 (.inr m : Key) = some (.bl true)->valV wk' (.inr m : Key) = some (.bl true))->∃ (o4' o5' : Option V) (wk'' : List (Key × V)),[some (V.ref p),some (.ref pd),some (.ref lr),some (.ref pw),o4,o5] = [some (.ref p),some (.ref pd),some (.ref lr),some (.ref pw),o4',o5']/\Ex pw H H3/\H3 pw = some (.dK wk'')/\Wk G ns 0 wk''/\(∀ m,valV wk'' (.inr m : Key) = some (.bl true)->valV wk (.inr m : Key) = some (.bl true)):=fun x3 h3 w3 k3=>⟨_,_,_,rfl,ex2.trans x3,h3,w3,fun m hm=>k' m (k3 m hm)⟩
  refine ⟨pe,_,rfl,SqT.of hpt,rfl,_,_,rfl,_,_,rfl,rfl,?_⟩
  cases x with
  | clip r cf cl =>
   obtain ⟨a,rfl,ha⟩:=td_clip tv2
   rw [hI] at hxh
   refine ⟨_,rfl,a,_,_,_,rfl,rfl,SqT.of ha,atI_nat (j:=0) rfl,rfl,_,rfl,iteY (seq _) ?_⟩
   exact ⟨_,rfl,_,rfl,a,lr,prs,r,cf,cl,rfl,ha,A2.rl,A2.uq,hxh.2,fun H3 s3=>nxt (Ex.of s3) (s3 _ _ hk2) W' fun _ h=>h⟩
  | fade m =>
   obtain ⟨a,rfl,ha⟩:=td_fade tv2
   refine ⟨_,rfl,a,_,_,_,rfl,rfl,SqT.of ha,atI_nat (j:=0) rfl,rfl,_,rfl,iteN sne ?_⟩
   refine ⟨_,rfl,a,_,_,_,rfl,rfl,SqT.of ha,atI_nat (j:=0) rfl,rfl,_,rfl,iteY (seq _) ?_⟩
   exact ⟨_,rfl,_,rfl,p,xs,i,m,rfl,td2,wl,hx,fun H3 s3=>nxt (Ex.of s3) (s3 _ _ hk2) W' fun _ h=>h⟩
  | part n zs =>
   obtain ⟨a,rfl,ha⟩:=td_part tv2
   rw [hI] at hxh
   rw [dpI] at hdx
   refine ⟨_,rfl,a,_,_,_,rfl,rfl,SqT.of ha,atI_nat (j:=0) rfl,rfl,_,rfl,iteN sne ?_⟩
   refine ⟨_,rfl,a,_,_,_,rfl,rfl,SqT.of ha,atI_nat (j:=0) rfl,rfl,_,rfl,iteN sne ?_⟩
   refine ⟨_,rfl,a,_,_,_,rfl,rfl,SqT.of ha,atI_nat (j:=0) rfl,rfl,_,rfl,iteY (seq _) ?_⟩
   exact ⟨_,rfl,a,_,_,_,rfl,rfl,SqT.of ha,atI_nat (j:=1) rfl,_,rfl,_,rfl,_,rfl,n,pd,lr,pw,zs,G,ns,prs,wk',rfl,hxh.2,by omega,⟨A2.pr,A2.pa,A2.rl,A2.uq,hk2,A2.wo.mono hdx,A2.ne⟩,fun wk2 H3 x3 h3 w3 k3=>nxt x3 h3 w3 k3⟩
  | times m ys =>
   obtain ⟨a,b,rfl,ha,tb⟩:=td_times tv2
   rw [hI] at hxh
   rw [dpI] at hdx
   have wy : WL ys:=by
    rcases hxw with z | ⟨k,e⟩
    ·cases z with | times h1 h2 h3=>exact h3
    ·cases e
   refine ⟨_,rfl,a,_,_,_,rfl,rfl,SqT.of ha,atI_nat (j:=0) rfl,rfl,_,rfl,iteN sne ?_⟩
   refine ⟨_,rfl,a,_,_,_,rfl,rfl,SqT.of ha,atI_nat (j:=0) rfl,rfl,_,rfl,iteN sne ?_⟩
   refine ⟨_,rfl,a,_,_,_,rfl,rfl,SqT.of ha,atI_nat (j:=0) rfl,rfl,_,rfl,iteN sne ?_⟩
   exact ⟨_,rfl,_,rfl,a,_,_,V.ref b,rfl,rfl,SqT.of ha,rfl,_,rfl,_,rfl,_,rfl,spLookP_of (by omega) ⟨b,pd,lr,pw,ys,G,ns,prs,wk',rfl,tb,wy,hxh,⟨A2.pr,A2.pa,A2.rl,A2.uq,hk2,A2.wo.mono (by omega),A2.ne⟩,by omega,fun wk2 H3 x3 h3 w3 k3=>nxt x3 h3 w3 k3⟩⟩
  | back ys =>
   obtain ⟨a,b,rfl,ha,tb⟩:=td_back tv2
   rw [hI] at hxh
   rw [dpI] at hdx
   have wy : WL ys:=by
    rcases hxw with z | ⟨k,e⟩
    ·cases z with | back h3=>exact h3
    ·cases e
   refine ⟨_,rfl,a,_,_,_,rfl,rfl,SqT.of ha,atI_nat (j:=0) rfl,rfl,_,rfl,iteN sne ?_⟩
   refine ⟨_,rfl,a,_,_,_,rfl,rfl,SqT.of ha,atI_nat (j:=0) rfl,rfl,_,rfl,iteN sne ?_⟩
   refine ⟨_,rfl,a,_,_,_,rfl,rfl,SqT.of ha,atI_nat (j:=0) rfl,rfl,_,rfl,iteN sne ?_⟩
   exact ⟨_,rfl,_,rfl,a,_,_,V.ref b,rfl,rfl,SqT.of ha,rfl,_,rfl,_,rfl,_,rfl,spLookP_of (by omega) ⟨b,pd,lr,pw,ys,G,ns,prs,wk',rfl,tb,wy,hxh,⟨A2.pr,A2.pa,A2.rl,A2.uq,hk2,A2.wo.mono (by omega),A2.ne⟩,by omega,fun wk2 H3 x3 h3 w3 k3=>nxt x3 h3 w3 k3⟩⟩
 ·rintro σ H' ⟨o4,o5,wk',rfl,ex,hk',W',k'⟩
  exact q wk' H' ex hk' W' k'
def spSound (d : Nat) : Sp:=fun vs H Q E=>∃ (p pd lr : Addr) (xs : List IT.It) (G : Str->List IT.It->Prop) (ns : List Str) (prs : List (Addr × Reel)),vs = [.ref p,.ref pd,.ref lr]/\Td H (.ref p) (.tuple (dL xs))/\WL xs/\hL (Ck prs) G xs/\PR H pd G/\Pa (Ck prs) G ns/\RL H lr prs/\Uq prs/\dpL xs <= d/\∀ H',Same H H'->Q (.ref p) H'
theorem same_of {H H1 H2 : Hp} {d : Addr} (s : Same H H1) (hd : H d = none) (e : Ex d H1 H2) : Same H H2:=fun b o hb=>e b o (by rintro rfl; rw [hd] at hb; cases hb) (s _ _ hb)
theorem scSound : FnScope ["items", "parts", "reels"] ["items", "parts", "reels"] (defScope s_sound):=⟨rfl,rfl,rfl,by decide +kernel,rfl,by decide +kernel,by decide +kernel⟩
theorem ok_sound {d : Nat} {f : Addr} {fd : FuncData} (F : Fun K "sound" "sound" s_sound f fd) (dLook : Def P w K mg base (CX1 P w) "look_through" (2 * d + 7) ["items", "parts", "reels", "within"] (spLook d)) : FnOk P w K mg base (CX1 P w) (2 * d + 8) f fd ["items", "parts", "reels"] (spSound d):=by
 refine F.okX scSound (fun vs H Q E h=>?_) (fun cdv A outer s H vs Q E hr h=>?_)
 ·obtain ⟨p,pd,lr,xs,G,ns,prs,rfl,_⟩:=h
  rfl
 obtain ⟨p,pd,lr,xs,G,ns,prs,rfl,td,wl,hl,pr,pa,rl,uq,hd,q⟩:=h
 refine useQ (ss_cons (s_expr (e_call dLook hr passX (a_cons (e_v 0) (a_cons (e_v 1) (a_cons (e_v 2) (a_cons e_dnew a_nil)))) (hj:=by omega)))
  (ss_one (s_ret (e_v 0)))) ?_
 refine ⟨_,rfl,_,rfl,_,rfl,fun pw hpw=>?_⟩
 have s1:=Same.new hpw (.dK [])
 have ne : pd ≠ pw:=by
  obtain ⟨k,r,_⟩:=pr
  exact Ne.symm (rdn r hpw)
 refine ⟨p,pd,lr,pw,xs,G,ns,prs,[],rfl,td.tk (TK.of s1),wl,hl,⟨pr.same s1,pa,rl.same s1,uq,upd_same,⟨List.nodup_nil,(fun k hk=>nomatch hk),(fun n v e=>by cases e),fun n e=>by cases e⟩,ne⟩,hd,fun wk' H2 x2 hw W k=>?_⟩
 exact ⟨_,rfl,q H2 (same_of s1 hpw x2)⟩
end
end K38
set_option maxHeartbeats 2000000
namespace K38
open PySem L2 G DT
open IT hiding It
theorem comp_listN {K : PySem.W.Frag} {a : Addr} {xs : List V} {H : Hp} {cap : St} {te : TE} {Q : VK} (J : Nat->List V->Hp->Prop) (hJ : ∀ i zs H' H'',J i zs H'->TK H' H''->J i zs H'') (hS : SqL K H a xs) (hn : xs.length <= sizeLine) (j0 : J 0 [] H)
  (el : ∀ (i : Nat) x zs H' (P : VK),Same H H'->xs[i]? = some x->J i zs H'->(∀ y H'',Same H' H''->J (i + 1) (zs ++ [y]) H''->P y H'')->te (some x :: cap) H' P)
  (fin : ∀ D zs H',Same H H'->H D = none->H' D = some (.lst zs)->zs.length = xs.length->J xs.length zs H'->Q (.ref D) H') : Comped (Itl K a) cap te Q H:=by
 intro D hD
 refine ⟨fun i m zs H2=>m = xs.length - i/\i <= xs.length/\zs.length = i/\H2 D = some (.lst zs)/\Same H H2/\J i zs H2,⟨xs.length,rfl,Nat.zero_le _,rfl,upd_same,Same.new hD _,hJ _ _ _ _ j0 (TK.new hD _)⟩,?_⟩
 rintro i m zs H2 ⟨rfl,hi,hz,hDz,hS2,hj⟩
 refine ⟨hDz,?_⟩
 by_cases h : i < xs.length
 ·refine .inr ⟨⟨xs,xs[i],hS2.seq hS,List.getElem?_eq_getElem h⟩,?_⟩
  rintro x H3 ⟨rfl,hx⟩
  refine el i x zs H3 _ hS2 (hx xs (hS2.seq hS)) hj fun y H4 hS4 hj4=>⟨hS4 _ _ hDz,by omega,xs.length - (i + 1),by omega,rfl,h,(by rw [List.length_append,hz]; rfl),upd_same,fun b u q=>?_,hJ _ _ _ _ hj4 (TK.lst (hS4 _ _ hDz))⟩
  rw [upd_ne (ne_of_none q hD)]
  exact hS4 _ _ (hS2 _ _ q)
 ·have e : i = xs.length:=by omega
  subst e
  exact .inl ⟨⟨xs,hS2.seq hS,Nat.le_refl _⟩,fin D zs H2 hS2 hD hDz hz hj⟩
theorem c_get {cs : List Cl} {i : Nat} {d : PyData} (h : (cs.map dC)[i]? = some d) : ∃ c,cs[i]? = some c/\d = dC c:=by
 rw [List.getElem?_map] at h
 cases e : cs[i]? with
 | none=>rw [e] at h; cases h
 | some c=>rw [e] at h; exact ⟨c,rfl,(Option.some.inj h).symm⟩
def frC (c : Cl) : Int:=(if c.l - c.f < 0 then -(c.l - c.f) else c.l - c.f) + 1
def frS (cs : List Cl) : Int:=(cs.map frC).sum
def aA : Int->List Cl->Int
 | a,[]=>a
 | _,c :: r=>aA c.d r
theorem revA_snoc : ∀ (a : Int) (p : List Cl) (c : Cl),revA a (p ++ [c]) = revA a p ++ [⟨c.r,c.l,c.f,aA a p⟩]
 | a,[],c=>rfl
 | a,x :: r,c=>by rw [List.cons_append,revA,revA,revA_snoc x.d r c,aA]; rfl
theorem aA_snoc : ∀ (a : Int) (p : List Cl) (c : Cl),aA a (p ++ [c]) = c.d
 | a,[],c=>rfl
 | a,x :: r,c=>by rw [List.cons_append,aA,aA_snoc]
def fdA (cs : List Cl) (k : Nat) : Int:=((cs.map Cl.d) ++ [0]).getD k 0
def bad (cs : List Cl) (k : Nat) : Prop:=∃ c,cs[k]? = some c/\frC c < fdA cs k + fdA cs (k + 1)
theorem take_snoc {α : Type} {l : List α} {i : Nat} {x : α} (h : l[i]? = some x) : l.take (i + 1) = l.take i ++ [x]:=by rw [List.take_add_one,h]; rfl
section
variable {P : Program} {w : World} {K : PySem.W.Frag} {mg : Str->Option Value} {base : Heap}
def spFrIn : Sp:=fun vs H Q _=>∃ (v : V) (c : Cl),vs = [v]/\Td H v (dC c)/\Q (.int (frC c)) H
theorem scFrIn : FnScope ["clip"] ["clip"] (defScope s_frames_in):=⟨rfl,rfl,rfl,by decide +kernel,rfl,by decide +kernel,by decide +kernel⟩
theorem ok_frIn {f : Addr} {fd : FuncData} (F : Fun K "frames_in" "frames_in" s_frames_in f fd) (n_abs : mg "abs" = none) : FnOk P w K mg base CX0 1 f fd ["clip"] spFrIn:=by
 refine F.ok scFrIn (fun vs H Q E h=>?_) (fun cdv A outer s H vs Q E hr h=>?_)
 ·obtain ⟨v,c,rfl,_⟩:=h
  rfl
 obtain ⟨v,c,rfl,ht,q⟩:=h
 refine useQ (ss_one (s_ret (e_op op_add (e_b call_abs n_abs (by decide +kernel) (a_cons (e_op op_sub (e_ix ix_tup (e_v 0) e_int) (e_ix ix_tup (e_v 0) e_int)) a_nil)) e_int))) ?_
 obtain ⟨a,rfl,ha⟩:=td_cl ht
 exact ⟨_,rfl,a,_,_,_,rfl,rfl,SqT.of ha,atI_nat (j:=2) rfl,_,rfl,a,_,_,_,rfl,rfl,SqT.of ha,atI_nat (j:=1) rfl,_,_,rfl,rfl,_,rfl,_,_,rfl,rfl,q⟩
def spBackw : Sp:=fun vs H Q _=>∃ (l : Addr) (cs : List Cl),vs = [.ref l]/\CL H l cs/\cs.length <= 10000/\∀ l' H',Same H H'->H l' = none->CL H' l' (rev cs)->Q (.ref l') H'
theorem scBackw : FnScope ["clips", "told", "ahead", "reel", "first", "last", "fade"] ["clips"] (defScope s_backwards):=⟨rfl,rfl,rfl,by decide +kernel,rfl,by decide +kernel,by decide +kernel⟩
theorem ok_backw {f : Addr} {fd : FuncData} (F : Fun K "backwards" "backwards" s_backwards f fd) (n_reversed : mg "reversed" = none) : FnOk P w K mg base CX0 1 f fd ["clips"] spBackw:=by
 refine F.ok scBackw (fun vs H Q E h=>?_) (fun cdv A outer s H vs Q E hr h=>?_)
 ·obtain ⟨l,cs,rfl,_⟩:=h
  rfl
 obtain ⟨ls,cs,rfl,⟨us,hus,tus⟩,hlen,q⟩:=h
 refine useQ (ss_cons (s_set (i:=1) scBackw.nd (e_lst a_nil))
  (ss_cons (s_set (i:=2) scBackw.nd e_int)
  (ss_cons (s_for PassesOwn.never rfl (i_revL n_reversed (e_v 0)) (g_tup rfl (gs_cons (g_name (i:=3) scBackw.nd) (gs_cons (g_name (i:=4) scBackw.nd) (gs_cons (g_name (i:=5) scBackw.nd) (gs_cons (g_name (i:=6) scBackw.nd) gs_nil)))))
   (ss_cons (s_expr (e_append (e_v 1) (e_tup (a_cons (e_v 3) (a_cons (e_v 5) (a_cons (e_v 4) (a_cons (e_v 2) a_nil)))))))
   (ss_one (s_set (i:=2) scBackw.nd (e_v 6)))))
  (ss_one (s_ret (e_v 1)))))) ?_
 have zl : sizeLine = 16777216:=sizeLine_eq
 have lu : us.length = cs.length:=by rw [tus.len,List.length_map]
 refine ⟨(by show 0 <= sizeLine; decide),fun pm hpm=>?_⟩
 have s0:=Same.new hpm (.lst [])
 refine ⟨_,rfl,ls,_,rfl,SqL.of (s0 _ _ hus),for_revL (K:=K) (a:=ls) (xs:=us) (fun i σ H'=>∃ (o3 o4 o5 o6 : Option V),σ = [some (.ref ls),some (.ref pm),some (.int (aA 0 (cs.reverse.take i))),o3,o4,o5,o6]/\CL H' pm (revA 0 (cs.reverse.take i))/\Same H H') ⟨none,none,none,none,rfl,⟨[],upd_same,by rw [List.take_zero]; exact .nil⟩,s0⟩ (fun i σ H' _ ⟨_,_,_,_,_,_,sm⟩=>SqL.of (sm _ _ hus)) ?_ ?_⟩
 ·rintro i v σ H' hv ⟨o3,o4,o5,o6,rfl,⟨ws,hws,tws⟩,sm⟩
  obtain ⟨dd,hd,tv⟩:=(tus.rev.tk (TK.of sm)).get hv
  rw [<- List.map_reverse] at hd
  obtain ⟨c,hc,rfl⟩:=c_get hd
  obtain ⟨t,rfl,ht⟩:=td_cl tv
  have lw : ws.length = (revA 0 (cs.reverse.take i)).length:=by rw [tws.len,List.length_map]
  have lr : (revA 0 (cs.reverse.take i)).length <= cs.length:=by
   have key : ∀ (a : Int) (p : List Cl),(revA a p).length = p.length:=by
    intro a p
    induction p generalizing a with
    | nil=>rfl
    | cons x r ih=>rw [revA,List.length_cons,List.length_cons,ih]
   rw [key,List.length_take,List.length_reverse]
   omega
  refine ⟨t,_,rfl,SqT.of ht,rfl,_,_,rfl,_,_,rfl,_,_,rfl,_,_,rfl,rfl,?_⟩
  refine ⟨_,rfl,.inl ⟨rfl,_,SqL.of hws⟩,_,rfl,_,rfl,_,rfl,_,rfl,(by show 4 <= sizeLine; decide),fun p1 hp1=>?_⟩
  have t1:=Same.new hp1 (.tup [.str c.r,.int c.l,.int c.f,.int (aA 0 (cs.reverse.take i))])
  refine ⟨pm,_,_,rfl,rfl,t1 _ _ hws,by omega,?_⟩
  refine ⟨_,rfl,_,_,_,_,(by rw [take_snoc hc,aA_snoc]; rfl),⟨ws ++ [.ref p1],upd_same,?_⟩,fun b ob hb=>?_⟩
  ·rw [take_snoc hc,revA_snoc,List.map_append]
   exact ((tws.tk (TK.of t1)).app (Tds.one (mk_cl (c:=⟨c.r,c.l,c.f,aA 0 (cs.reverse.take i)⟩) upd_same))).tk (TK.lst (t1 _ _ hws))
  ·rw [upd_ne (ne_of_none hb hpm)]
   exact t1 _ _ (sm _ _ hb)
 ·rintro σ H' ⟨o3,o4,o5,o6,rfl,cl,sm⟩
  rw [lu,show cs.length = cs.reverse.length by rw [List.length_reverse],List.take_length] at cl
  exact ⟨_,rfl,q pm H' sm hpm cl⟩
def spFadedIn : Sp:=fun vs H Q _=>∃ (l : Addr) (cs : List Cl) (m : Int),vs = [.ref l,.int m]/\CL H l cs/\cs.length <= 10000/\∀ l' H',Same H H'->H l' = none->CL H' l' (setF m cs)->Q (.ref l') H'
theorem scFadedIn : FnScope ["clips", "many"] ["clips", "many"] (defScope s_faded_in):=⟨rfl,rfl,rfl,by decide +kernel,rfl,by decide +kernel,by decide +kernel⟩
theorem ok_fadedIn {f : Addr} {fd : FuncData} (F : Fun K "faded_in" "faded_in" s_faded_in f fd) : FnOk P w K mg base CX0 1 f fd ["clips", "many"] spFadedIn:=by
 refine F.ok scFadedIn (fun vs H Q E h=>?_) (fun cdv A outer s H vs Q E hr h=>?_)
 ·obtain ⟨l,cs,m,rfl,_⟩:=h
  rfl
 obtain ⟨ls,cs,m,rfl,⟨us,hus,tus⟩,hlen,q⟩:=h
 refine useQ (ss_one (s_ret (e_op op_cat (e_comp ["many"] [1] [("many",s.heap.objs.size + 1)] rfl ⟨rfl,rfl,rfl,rfl,trivial⟩ ⟨rfl,trivial⟩ (i_list (e_sl sl_list (e_v 0) o_none (o_some e_int))) (fun _ _ _ _=>(e_op op_catG (e_sl sl_tupG (e_n 0) o_none (o_some e_int)) (e_tup (a_cons (e_n 1) a_nil))))) (e_sl sl_list (e_v 0) (o_some e_int) o_none)))) ?_
 have zl : sizeLine = 16777216:=sizeLine_eq
 have lu : us.length = cs.length:=by rw [tus.len,List.length_map]
 refine ⟨_,rfl,_,rfl,ls,_,rfl,SqL.of hus,fun p1 hp1=>?_⟩
 rw [cut_first]
 have t1:=Same.new hp1 (.lst (us.take 1))
 have hp11:=upd_same (H:=H) (a:=p1) (o:=.lst (us.take 1))
 generalize upd H p1 (.lst (us.take 1)) = H1 at t1 hp11 ⊢
 refine ⟨p1,rfl,⟨_,SqL.of hp11⟩,comp_listN (K:=K) (fun i zs H'=>Tds H' zs ((setF m (cs.take i)).map dC)) (fun i zs H' H'' h k=>h.tk k) (SqL.of hp11) (by rw [List.length_take]; omega) (by rw [List.take_zero]; exact .nil) ?_ ?_⟩
 ·intro i x zs H' R sH hx hz hR
  have hi : i = 0:=by
   have:=(List.getElem?_eq_some_iff.mp hx).1
   rw [List.length_take] at this
   omega
  subst hi
  rw [List.getElem?_take,if_pos (by decide)] at hx
  obtain ⟨dd,hd,tv⟩:=(tus.tk (TK.of (t1.trans sH))).get hx
  obtain ⟨c,hc,rfl⟩:=c_get hd
  obtain ⟨t,rfl,ht⟩:=td_cl tv
  rw [List.take_zero] at hz
  cases hz
  refine ⟨_,rfl,_,rfl,t,_,rfl,ht,fun pt H2 s2 hpt=>?_⟩
  have ecut : cutV [V.str c.r,.int c.f,.int c.l,.int c.d] none (some 3) = [.str c.r,.int c.f,.int c.l]:=rfl
  rw [ecut] at hpt
  refine ⟨_,rfl,(by show 1 <= sizeLine; decide),fun pu hpu=>⟨pt,pu,_,_,rfl,rfl,Same.new hpu _ _ _ hpt,upd_same,(by show 4 <= sizeLine; decide),fun pv H3 s3 hpv=>?_⟩⟩
  refine hR _ _ (s2.trans ((Same.new hpu _).trans s3)) ?_
  obtain ⟨c0,r,rfl⟩ : ∃ c0 r,cs = c0 :: r:=by
   cases cs with
   | nil=>cases hc
   | cons a b=>exact ⟨a,b,rfl⟩
  cases hc
  exact Tds.one (mk_cl (c:=⟨c.r,c.f,c.l,m⟩) hpv)
 ·intro D zs H2 s2 hD0 hD hzl hz
  refine ⟨_,rfl,_,rfl,ls,_,rfl,SqL.of ((t1.trans s2) _ _ hus),fun p2 hp2=>?_⟩
  have ec : cutV us (some 1) none = us.drop 1:=cut_from us 1
  rw [ec]
  have t3:=Same.new hp2 (.lst (us.drop 1))
  refine ⟨D,p2,_,_,rfl,rfl,t3 _ _ hD,upd_same,(by rw [hzl,List.length_take,List.length_drop]; omega),fun p3 hp3=>?_⟩
  have t4:=Same.new hp3 (.lst (zs ++ us.drop 1))
  have S2:=t1.trans s2
  refine q p3 _ (S2.trans (t3.trans t4)) ((S2.trans t3).free hp3) ⟨_,upd_same,?_⟩
  have e : (setF m cs).map dC = (setF m (cs.take (us.take 1).length)).map dC ++ (cs.map dC).drop 1:=by
   cases cs with
   | nil=>rw [List.take_nil]; rfl
   | cons c r =>
    have : (us.take 1).length = 1:=by rw [List.length_take,lu,List.length_cons]; omega
    rw [this]
    rfl
  rw [e]
  exact (hz.tk (TK.of (t3.trans t4))).app ((tus.drop 1).tk (TK.of (S2.trans (t3.trans t4))))
def spRMany (CT : Addr) : Sp:=fun vs H Q E=>∃ n m : Int,vs = [.int n,.int m]/\(n <= m->Q .non H)/\(m < n->E (.ref CT) none H)
theorem scRMany : FnScope ["number", "most"] ["number", "most"] (defScope s_refuse_many):=⟨rfl,rfl,rfl,by decide +kernel,rfl,by decide +kernel,by decide +kernel⟩
theorem ok_rmany {f CT : Addr} {fd : FuncData} (F : Fun K "refuse_many" "refuse_many" s_refuse_many f fd) (m_TooMany : mg "TooMany" = some (.ref CT)) (q_TooMany : PySem.W.excIn K CT bmVE "ValueError.__new__" = true) : FnOk P w K mg base (CX1 P w) 1 f fd ["number", "most"] (spRMany CT):=by
 refine F.okX scRMany (fun vs H Q E h=>?_) (fun cdv A outer s H vs Q E hr h=>?_)
 ·obtain ⟨n,m,rfl,_⟩:=h
  rfl
 obtain ⟨n,m,rfl,q,e⟩:=h
 refine useQ (ss_one (s_if (t_cmp op_gt (e_v 0) (e_v 1))
   (ss_one (s_raise m_TooMany q_TooMany (a_cons e_str a_nil)))
   ss_nil)) ?_
 refine ⟨_,rfl,_,rfl,_,_,rfl,rfl,_,rfl,ite2 (fun c=>⟨by decide,e ?_⟩) (fun c=>q ?_)⟩
 ·have:=of_decide_eq_true c
  omega
 ·have : ¬ n > m:=fun z=>c (decide_eq_true z)
  omega
end
end K38
set_option maxHeartbeats 2000000
namespace K38
open PySem L2 G DT
open IT hiding It
section
variable {P : Program} {w : World} {K : PySem.W.Frag} {mg : Str->Option Value} {base : Heap}
theorem scInitS : FnScope ["self", "number"] ["self", "number"] (defScope s_TooShort_init):=⟨rfl,rfl,rfl,by decide +kernel,rfl,by decide +kernel,by decide +kernel⟩
theorem ok_initS {f C : Addr} {fd : FuncData} (F : Fun K "__init__" "TooShort.__init__" s_TooShort_init f fd) (XC : XCls K C) (XN : XNo K C "number") : FnOk P w K mg base CX0 1 f fd ["self", "number"] (spInit C "number"):=by
 refine F.ok scInitS (fun vs H Q E h=>?_) (fun cdv A outer s0 H vs Q E hr h=>?_)
 ·obtain ⟨a,y,rfl,_⟩:=h
  rfl
 obtain ⟨a,y,rfl,hH,q⟩:=h
 refine useQ (ss_one (s_xset (e_v 0) (e_v 1))) ?_
 exact ⟨_,rfl,_,rfl,a,C,rfl,XC,XN,.inl ⟨hH,fun dx n1 n2=>q dx n1 n2⟩⟩
theorem fd_at {cs : List Cl} {k : Nat} (h : k <= cs.length) : atI ((cs.map fun c=>V.int c.d) ++ [V.int 0]) ((k : Nat) : Int) = some (.int (fdA cs k)):=by
 refine atI_nat ?_
 have e : ((cs.map fun c=>V.int c.d) ++ [V.int 0]) = ((cs.map Cl.d) ++ [0]).map V.int:=by rw [List.map_append,List.map_map]; rfl
 rw [e,List.getElem?_map]
 unfold fdA
 have hl : k < ((cs.map Cl.d) ++ [0]).length:=by rw [List.length_append,List.length_map,List.length_singleton]; omega
 rw [List.getD_eq_getElem?_getD,List.getElem?_eq_getElem hl]
 rfl
def spRShort (CS : Addr) : Sp:=fun vs H Q E=>∃ (l : Addr) (cs : List Cl),vs = [.ref l]/\CL H l cs/\cs.length <= 10000/\(∀ k,bad cs k->(∀ j < k,¬ bad cs j)->∀ H' dx,Same H H'->H' dx = some (xdO dx [("number",.int (k : Int))])->E (.ref CS) (some dx) H')/\((∀ k,¬ bad cs k)->∀ H',Same H H'->Q .non H')
theorem scRShort : FnScope ["clips", "fades", "number", "clip"] ["clips"] (defScope s_refuse_short):=⟨rfl,rfl,rfl,by decide +kernel,rfl,by decide +kernel,by decide +kernel⟩
theorem ok_rshort {f CS fI : Addr} {fd fdI : FuncData} (F : Fun K "refuse_short" "refuse_short" s_refuse_short f fd) (dFrIn : Def P w K mg base CX0 "frames_in" 1 ["clip"] spFrIn) (n_enumerate : mg "enumerate" = none)
  (m_TooShort : mg "TooShort" = some (.ref CS)) (R_TooShort : XRaise K CS fI) (G_TooShort : FnOk P w K mg base CX0 1 fI fdI ["self", "number"] (spInit CS "number")) (b_TooShort : Binds K fdI ["self", "number"] []) : FnOk P w K mg base (CX1 P w) 3 f fd ["clips"] (spRShort CS):=by
 refine F.okX scRShort (fun vs H Q E h=>?_) (fun cdv A outer s H vs Q E hr h=>?_)
 ·obtain ⟨l,cs,rfl,_⟩:=h
  rfl
 obtain ⟨ls,cs,rfl,⟨us,hus,tus⟩,hlen,e,q⟩:=h
 refine useQ (ss_cons (s_set (i:=1) scRShort.nd (e_op op_cat (e_comp [] [] [] rfl trivial trivial (i_list (e_v 0)) (fun _ _ _ _=>(e_ix (ix_tupK (K:=K) rfl) (e_n 0) e_int))) (e_lst (a_cons e_int a_nil))))
  (ss_one (s_for PassesOwn.leaving rfl (i_enum n_enumerate (e_v 0)) (g_tup rfl (gs_cons (g_name (i:=2) scRShort.nd) (gs_cons (g_name (i:=3) scRShort.nd) gs_nil)))
   (ss_one (s_if (t_cmp op_lt (e_call dFrIn hr pass0 (a_cons (e_v 3) a_nil)) (e_op op_add (e_ix ix_list (e_v 1) (e_v 2)) (e_ix ix_list (e_v 1) (e_op op_add (e_v 2) e_int))))
    (ss_one (s_raiseI m_TooShort R_TooShort G_TooShort hr b_TooShort (a_cons (e_v 2) a_nil)))
    ss_nil))))) ?_
 have zl : sizeLine = 16777216:=sizeLine_eq
 have lu : us.length = cs.length:=by rw [tus.len,List.length_map]
 refine ⟨_,rfl,ls,rfl,⟨_,SqL.of hus⟩,comp_list (K:=K) (cs.map fun c=>V.int c.d) (SqL.of hus) (by omega) (by rw [List.length_map,lu]) ?_ ?_⟩
 ·intro i x y H' R sH hx hy hR
  obtain ⟨dd,hd,tv⟩:=(tus.tk (TK.of sH)).get hx
  obtain ⟨c,hc,rfl⟩:=c_get hd
  obtain ⟨t,rfl,ht⟩:=td_cl tv
  rw [List.getElem?_map,hc] at hy
  cases hy
  exact ⟨_,rfl,t,_,_,_,rfl,rfl,SqT.of ht,atI_nat (j:=3) rfl,hR _ (Same.refl _)⟩
 intro p1 H1 s1 hp10 hp1
 refine ⟨(by show 1 <= sizeLine; decide),fun p2 hp2=>?_⟩
 have t2:=Same.new hp2 (.lst [.int 0])
 refine ⟨p1,p2,_,_,rfl,rfl,t2 _ _ hp1,upd_same,(by show ((cs.map fun c=>V.int c.d)).length + 1 <= sizeLine; rw [List.length_map]; omega),fun p3 hp3=>?_⟩
 have t3:=Same.new hp3 (.lst ((cs.map fun c=>V.int c.d) ++ [V.int 0]))
 have S3:=s1.trans (t2.trans t3)
 have hp33:=upd_same (H:=upd H1 p2 (.lst [.int 0])) (a:=p3) (o:=.lst ((cs.map fun c=>V.int c.d) ++ [V.int 0]))
 generalize upd (upd H1 p2 (.lst [.int 0])) p3 (.lst ((cs.map fun c=>V.int c.d) ++ [V.int 0])) = H3 at S3 hp33 ⊢
 refine ⟨_,rfl,ls,rfl,⟨_,SqL.of (S3 _ _ hus)⟩,for_enum (K:=K) (a:=ls) (xs:=us) (fun i σ H'=>∃ (o2 o3 : Option V),σ = [some (.ref ls),some (.ref p3),o2,o3]/\Same H3 H'/\∀ j < i,¬ bad cs j) ⟨none,none,rfl,Same.refl _,fun j hj=>absurd hj (Nat.not_lt_zero _)⟩ (fun i σ H' _ ⟨_,_,_,sm,_⟩=>SqL.of ((S3.trans sm) _ _ hus)) ?_ ?_⟩
 ·rintro i x σ H' pe hx ⟨o2,o3,rfl,sm,nb⟩ hpe
  have te:=Same.new hpe (.tup [.int (i : Int),x])
  have hi : i < us.length:=(List.getElem?_eq_some_iff.mp hx).1
  have S4:=sm.trans te
  obtain ⟨dd,hd,tv⟩:=(tus.tk (TK.of (S3.trans S4))).get hx
  obtain ⟨c,hc,rfl⟩:=c_get hd
  have hp34:=S4 _ _ hp33
  refine ⟨pe,_,rfl,SqT.of upd_same,rfl,_,_,rfl,_,_,rfl,rfl,?_⟩
  generalize upd H' pe (.tup [.int (i : Int),x]) = H4 at S4 tv hp34 ⊢
  refine ⟨_,rfl,x,c,rfl,tv,_,rfl,_,rfl,p3,_,_,_,rfl,rfl,SqL.of hp34,fd_at (by omega),_,rfl,_,rfl,_,_,rfl,rfl,p3,_,_,_,rfl,rfl,SqL.of hp34,(by show atI _ ((i : Int) + 1) = _; rw [show ((i : Int) + 1) = ((i + 1 : Nat) : Int) by omega]; exact fd_at (by omega)),_,_,rfl,rfl,_,_,rfl,rfl,_,rfl,ite2 (fun z=>?_) (fun z=>?_)⟩
  ·have hb : bad cs i:=⟨c,hc,of_decide_eq_true z⟩
   refine ⟨_,rfl,(by show 1 <= sizeLine; decide),fun a ha=>⟨a,_,rfl,upd_same,fun dx n1 n2=>⟨rfl,some dx,upd_same,?_⟩⟩⟩
   obtain ⟨r1,r2⟩:=raised1 (x:=xdO dx [("number",V.int (i : Int))]) (o':=newO a CS (some dx)) (S3.trans S4) ha n1 n2
   exact e i hb nb _ dx r1 r2
  ·refine ⟨_,_,rfl,S4,fun j hj=>?_⟩
   by_cases hji : j < i
   ·exact nb j hji
   ·have : j = i:=by omega
    subst this
    rintro ⟨c',hc',hb⟩
    rw [hc] at hc'
    cases hc'
    exact z (decide_eq_true hb)
 ·rintro σ H' ⟨o2,o3,rfl,sm,nb⟩
  refine q (fun k hk=>?_) H' (S3.trans sm)
  obtain ⟨c,hc,_⟩:=id hk
  exact nb k (by have:=(List.getElem?_eq_some_iff.mp hc).1; omega) hk
structure FilmQ (CT CS : Addr) (cs : List Cl) (H : Hp) (E : XK) (R : Hp->Prop) : Prop where
 many : 100 < cs.length \/ 2000 < frS cs->∀ H',Same H H'->E (.ref CT) none H'
 short : cs.length <= 100->frS cs <= 2000->∀ k,bad cs k->(∀ j < k,¬ bad cs j)->∀ H' dx,Same H H'->H' dx = some (xdO dx [("number",.int (k : Int))])->E (.ref CS) (some dx) H'
 good : cs.length <= 100->frS cs <= 2000->(∀ k,¬ bad cs k)->∀ H',Same H H'->R H'
def spRFilm (CT CS : Addr) : Sp:=fun vs H Q E=>∃ (l : Addr) (cs : List Cl),vs = [.ref l]/\CL H l cs/\cs.length <= 10000/\FilmQ CT CS cs H E (Q .non)
theorem scRFilm : FnScope ["clips"] ["clips"] (defScope s_refuse_film):=⟨rfl,rfl,rfl,by decide +kernel,rfl,by decide +kernel,by decide +kernel⟩
theorem ok_rfilm {f CT CS : Addr} {fd : FuncData} (F : Fun K "refuse_film" "refuse_film" s_refuse_film f fd) (dRMany : Def P w K mg base (CX1 P w) "refuse_many" 1 ["number", "most"] (spRMany CT)) (dRShort : Def P w K mg base (CX1 P w) "refuse_short" 3 ["clips"] (spRShort CS)) (dFrIn : Def P w K mg base CX0 "frames_in" 1 ["clip"] spFrIn) (n_len : mg "len" = none) (n_sum : mg "sum" = none)
  {tMC tMF : Tok} (mMC : mg "MOST_CLIPS" = some (.int 100 tMC)) (mMF : mg "MOST_FRAMES" = some (.int 2000 tMF)) : FnOk P w K mg base (CX1 P w) 4 f fd ["clips"] (spRFilm CT CS):=by
 refine F.okX scRFilm (fun vs H Q E h=>?_) (fun cdv A outer s H vs Q E hr h=>?_)
 ·obtain ⟨l,cs,rfl,_⟩:=h
  rfl
 obtain ⟨ls,cs,rfl,cl,hlen,fq⟩:=h
 refine useQ (ss_cons (s_expr (e_call dRMany hr passX (a_cons (e_b call_len_seq n_len PySem.boot_len (a_cons (e_v 0) a_nil)) (a_cons (e_gl (v:=.int 100) mMC ⟨_,rfl⟩) a_nil)) (hj:=by omega)))
  (ss_cons (s_expr (e_call dRMany hr passX (a_cons (e_b call_sum n_sum (by decide +kernel) (a_cons (e_comp [] [] [] rfl trivial trivial (i_list (e_v 0)) (fun _ _ _ _=>(e_call dFrIn hr pass0 (a_cons (e_n 0) a_nil) (hj:=by omega)))) a_nil)) (a_cons (e_gl (v:=.int 2000) mMF ⟨_,rfl⟩) a_nil)) (hj:=by omega)))
  (ss_one (s_expr (e_call dRShort hr passX (a_cons (e_v 0) a_nil) (hj:=by omega)))))) ?_
 obtain ⟨us,hus,tus⟩:=id cl
 have zl : sizeLine = 16777216:=sizeLine_eq
 have lu : us.length = cs.length:=by rw [tus.len,List.length_map]
 refine ⟨_,rfl,ls,_,rfl,.inl (SqL.of hus),_,_,rfl,fun h1=>?_,fun h1=>fq.many (.inl (by omega)) H (Same.refl _)⟩
 have c1 : cs.length <= 100:=by omega
 refine ⟨_,rfl,ls,rfl,⟨_,SqL.of hus⟩,comp_list (K:=K) ((cs.map frC).map V.int) (SqL.of hus) (by omega) (by rw [List.length_map,List.length_map,lu]) ?_ ?_⟩
 ·intro i x y H' R sH hx hy hR
  obtain ⟨dd,hd,tv⟩:=(tus.tk (TK.of sH)).get hx
  obtain ⟨c,hc,rfl⟩:=c_get hd
  rw [List.getElem?_map,List.getElem?_map,hc] at hy
  cases hy
  exact ⟨_,rfl,x,c,rfl,tv,hR _ (Same.refl _)⟩
 intro p1 H1 s1 hp10 hp1
 refine ⟨p1,cs.map frC,rfl,SqL.of hp1,rfl,_,_,rfl,fun h2=>?_,fun h2=>fq.many (.inr h2) H1 s1⟩
 have cl1 : CL H1 ls cs:=⟨us,s1 _ _ hus,tus.tk (TK.of s1)⟩
 exact ⟨_,rfl,ls,cs,rfl,cl1,hlen,fun k hb nb H' dx s' hdx=>fq.short c1 h2 k hb nb H' dx (s1.trans s') hdx,fun nb H' s'=>fq.good c1 h2 nb H' (s1.trans s')⟩
end
end K38
set_option maxHeartbeats 2000000
namespace K38
open PySem L2 G DT
open IT hiding It
def fadeOf (x : IT.It) (m : Int) : Int:=match x with
 | .fade k=>k
 | _=>m
section
variable {P : Program} {w : World} {K : PySem.W.Frag} {mg : Str->Option Value} {base : Heap}
def spClipsOf (CT : Addr) (d : Nat) : Sp:=fun vs H Q E=>∃ (a pd : Addr) (xs : List IT.It) (T : Str->Int->Int->Prop) (G : Str->List IT.It->Prop) (ns : List Str),vs = [.ref a,.ref pd]/\Td H (.ref a) (.tuple (dL xs))/\PR H pd G/\Pa T G ns/\hL T G xs/\WL xs/\dpL xs <= d /\
 (cnL xs <= 100->∀ l H',Same H H'->H l = none->CL H' l (flL xs)->Q (.ref l) H')/\(100 < cnL xs->∀ H',Same H H'->E (.ref CT) none H')
def spClipsOfP (CT : Addr) : Nat->Sp
 | 0=>fun _ _ _ _=>False
 | d + 1=>spClipsOf CT d
theorem spClipsOfP_of {CT : Addr} {d : Nat} {vs : List V} {H : Hp} {Q : VK} {E : XK} (h : 0 < d) (z : spClipsOf CT (d - 1) vs H Q E) : spClipsOfP CT d vs H Q E:=by
 cases d with
 | zero=>exact absurd h (Nat.lt_irrefl _)
 | succ d=>exact z
def spClipsI (CT : Addr) (d : Nat) : Sp:=fun vs H Q E=>∃ (v : V) (pd : Addr) (x : IT.It) (T : Str->Int->Int->Prop) (G : Str->List IT.It->Prop) (ns : List Str),vs = [v,.ref pd]/\Td H v (dI x)/\PR H pd G/\Pa T G ns/\hI T G x/\WI x/\dpI x <= d /\
 (cnI x <= 100->∀ l H',Same H H'->H l = none->CL H' l (flI x)->Q (.ref l) H')/\(100 < cnI x->∀ H',Same H H'->E (.ref CT) none H')
theorem scClipsI : FnScope ["item", "parts", "clips"] ["item", "parts"] (defScope s_clips_of_item):=⟨rfl,rfl,rfl,by decide +kernel,rfl,by decide +kernel,by decide +kernel⟩
theorem ok_clipsI {d : Nat} {f CT : Addr} {fd : FuncData} (F : Fun K "clips_of_item" "clips_of_item" s_clips_of_item f fd) (dClipsOf : Def P w K mg base (CX1 P w) "clips_of" (2 * d + 1) ["items", "parts"] (spClipsOfP CT d)) (dRMany : Def P w K mg base (CX1 P w) "refuse_many" 1 ["number", "most"] (spRMany CT)) (dBackw : Def P w K mg base CX0 "backwards" 1 ["clips"] spBackw) (n_len : mg "len" = none)
  {tMC : Tok} (mMC : mg "MOST_CLIPS" = some (.int 100 tMC)) : FnOk P w K mg base (CX1 P w) (2 * d + 2) f fd ["item", "parts"] (spClipsI CT d):=by
 refine F.okX scClipsI (fun vs H Q E h=>?_) (fun cdv A outer s H vs Q E hr h=>?_)
 ·obtain ⟨v,pd,x,T,G,ns,rfl,_⟩:=h
  rfl
 obtain ⟨v,pd,x,T,G,ns,rfl,tv,pr,pa,hx,wx,hd,q,e⟩:=h
 refine useQ (ss_cons (s_if (t_cmp op_eq (e_ix ix_tup (e_v 0) e_int) e_str)
   (ss_one (s_ret (e_lst (a_cons (e_tup (a_cons (e_ix ix_tup (e_v 0) e_int) (a_cons (e_ix ix_tup (e_v 0) e_int) (a_cons (e_ix ix_tup (e_v 0) e_int) (a_cons e_int a_nil))))) a_nil))))
   ss_nil)
  (ss_cons (s_if (t_cmp op_eq (e_ix ix_tup (e_v 0) e_int) e_str)
   (ss_one (s_ret (e_call dClipsOf hr passX (a_cons (e_dget (hu_of hr) (e_v 1) (e_ix ix_tup (e_v 0) e_int)) (a_cons (e_v 1) a_nil)) (hj:=by omega))))
   ss_nil)
  (ss_cons (s_set (i:=2) scClipsI.nd (e_call dClipsOf hr passX (a_cons (e_ix ix_tup (e_v 0) (e_un un_neg e_int)) (a_cons (e_v 1) a_nil)) (hj:=by omega)))
  (ss_cons (s_if (t_cmp op_eq (e_ix ix_tup (e_v 0) e_int) e_str)
   (ss_one (s_ret (e_call dBackw hr pass0 (a_cons (e_v 2) a_nil) (hj:=by omega))))
   ss_nil)
  (ss_cons (s_expr (e_call dRMany hr passX (a_cons (e_op op_mul (e_b call_len_seq n_len PySem.boot_len (a_cons (e_v 2) a_nil)) (e_ix ix_tup (e_v 0) e_int)) (a_cons (e_gl (v:=.int 100) mMC ⟨_,rfl⟩) a_nil)) (hj:=by omega)))
  (ss_one (s_ret (e_op op_rep (e_v 2) (e_ix ix_tup (e_v 0) e_int))))))))) ?_
 have zl : sizeLine = 16777216:=sizeLine_eq
 cases x with
 | fade m=>cases wx
 | clip r cf cl =>
  obtain ⟨a,rfl,ha⟩:=td_clip tv
  refine ⟨_,rfl,a,_,_,_,rfl,rfl,SqT.of ha,atI_nat (j:=0) rfl,rfl,_,rfl,iteY (seq _) ?_⟩
  refine ⟨_,rfl,a,_,_,_,rfl,rfl,SqT.of ha,atI_nat (j:=1) rfl,_,rfl,a,_,_,_,rfl,rfl,SqT.of ha,atI_nat (j:=2) rfl,_,rfl,a,_,_,_,rfl,rfl,SqT.of ha,atI_nat (j:=3) rfl,(by show 4 <= sizeLine; decide),fun pt hpt=>⟨(by show 1 <= sizeLine; decide),fun lm hlm=>?_⟩⟩
  have tt:=Same.new hpt (.tup [.str r,.int cf,.int cl,.int 0])
  have tl:=Same.new hlm (.lst [.ref pt])
  refine q (by rw [cnI]; decide) lm _ (tt.trans tl) (tt.free hlm) ⟨_,upd_same,?_⟩
  rw [flI]
  exact .one (mk_cl (c:=⟨r,cf,cl,0⟩) (tl _ _ upd_same))
 | part n ys =>
  obtain ⟨a,rfl,ha⟩:=td_part tv
  rw [hI] at hx
  rw [dpI] at hd
  obtain ⟨b,hg,tb⟩:=pr.get hx.2
  refine ⟨_,rfl,a,_,_,_,rfl,rfl,SqT.of ha,atI_nat (j:=0) rfl,rfl,_,rfl,iteN sne ?_⟩
  refine ⟨_,rfl,a,_,_,_,rfl,rfl,SqT.of ha,atI_nat (j:=0) rfl,rfl,_,rfl,iteY (seq _) ?_⟩
  refine ⟨_,rfl,_,rfl,a,_,_,_,rfl,rfl,SqT.of ha,atI_nat (j:=1) rfl,pd,_,rfl,hg,_,rfl,spClipsOfP_of (by omega) ⟨b,pd,ys,T,G,ns,rfl,tb,pr,pa,pa.ok n ys hx.2,pa.wl n ys hx.2,by omega,fun hc l H2 s2 hl cl=>?_,fun hc H2 s2=>?_⟩⟩
  ·rw [<- flI_part n ys] at cl
   exact q (by rw [cnI]; exact hc) l H2 s2 hl cl
  ·exact e (by rw [cnI]; exact hc) H2 s2
 | times k ys =>
  obtain ⟨a,b,rfl,ha,tb⟩:=td_times tv
  rw [hI] at hx
  rw [dpI] at hd
  obtain ⟨k1,k2,wy⟩ : 1 <= k/\k <= 20/\WL ys:=by cases wx with | times h1 h2 h3=>exact ⟨h1,h2,h3⟩
  have cp:=cn_posL wy
  have ck : 1 * cnL ys <= k * cnL ys:=Int.mul_le_mul_of_nonneg_right k1 (by omega)
  have lcn:=cn_lenL wy
  refine ⟨_,rfl,a,_,_,_,rfl,rfl,SqT.of ha,atI_nat (j:=0) rfl,rfl,_,rfl,iteN sne ?_⟩
  refine ⟨_,rfl,a,_,_,_,rfl,rfl,SqT.of ha,atI_nat (j:=0) rfl,rfl,_,rfl,iteN sne ?_⟩
  refine ⟨_,rfl,_,rfl,a,_,_,_,rfl,rfl,SqT.of ha,atI_last3,_,rfl,spClipsOfP_of (by omega) ⟨b,pd,ys,T,G,ns,rfl,tb,pr,pa,hx,wy,by omega,fun hc l H2 s2 hl cl=>?_,fun hc H2 s2=>e (by rw [cnI]; omega) H2 s2⟩⟩
  obtain ⟨us,hus,tus⟩:=id cl
  have lu : us.length = (flL ys).length:=by rw [tus.len,List.length_map]
  have ha2:=s2 _ _ ha
  refine ⟨_,rfl,a,_,_,_,rfl,rfl,SqT.of ha2,atI_nat (j:=0) rfl,rfl,_,rfl,iteN sne ?_⟩
  have emul : ((us.length : Nat) : Int) * k = k * cnL ys:=by rw [lu,lcn,Int.mul_comm]
  refine ⟨_,rfl,l,_,rfl,.inl (SqL.of hus),_,rfl,a,_,_,_,rfl,rfl,SqT.of ha2,atI_nat (j:=1) rfl,_,_,rfl,rfl,.inr ⟨by omega,by omega⟩,_,_,rfl,fun h1=>?_,fun h1=>e (by rw [cnI]; omega) H2 s2⟩
  have hc2 : k * cnL ys <= 100:=by omega
  refine ⟨_,rfl,_,rfl,a,_,_,_,rfl,rfl,SqT.of ha2,atI_nat (j:=1) rfl,l,k,us,rfl,rfl,hus,by omega,by omega,?_,fun p hp=>?_⟩
  ·have : ((us.length * k.toNat : Nat) : Int) = ((us.length : Nat) : Int) * k:=by rw [Int.natCast_mul,Int.toNat_of_nonneg (by omega)]
   omega
  ·have tp:=Same.new hp (.lst (List.replicate k.toNat us).flatten)
   refine q (by rw [cnI]; exact hc2) p _ (s2.trans tp) (s2.free hp) ⟨_,upd_same,?_⟩
   have e3 : (flI (.times k ys)).map dC = (List.replicate k.toNat ((flL ys).map dC)).flatten:=by rw [flI_times,rep,List.map_flatten,List.map_replicate]
   rw [e3]
   exact (tus.rep k.toNat).tk (TK.of tp)
 | back ys =>
  obtain ⟨a,b,rfl,ha,tb⟩:=td_back tv
  rw [hI] at hx
  rw [dpI] at hd
  have wy : WL ys:=by cases wx with | back h3=>exact h3
  have lcn:=cn_lenL wy
  refine ⟨_,rfl,a,_,_,_,rfl,rfl,SqT.of ha,atI_nat (j:=0) rfl,rfl,_,rfl,iteN sne ?_⟩
  refine ⟨_,rfl,a,_,_,_,rfl,rfl,SqT.of ha,atI_nat (j:=0) rfl,rfl,_,rfl,iteN sne ?_⟩
  refine ⟨_,rfl,_,rfl,a,_,_,_,rfl,rfl,SqT.of ha,atI_last2,_,rfl,spClipsOfP_of (by omega) ⟨b,pd,ys,T,G,ns,rfl,tb,pr,pa,hx,wy,by omega,fun hc l H2 s2 hl cl=>?_,fun hc H2 s2=>e (by rw [cnI]; exact hc) H2 s2⟩⟩
  refine ⟨_,rfl,a,_,_,_,rfl,rfl,SqT.of (s2 _ _ ha),atI_nat (j:=0) rfl,rfl,_,rfl,iteY (seq _) ?_⟩
  refine ⟨_,rfl,l,flL ys,rfl,cl,by omega,fun l3 H3 s3 hl3 cl3=>?_⟩
  rw [<- flI_back ys] at cl3
  exact q (by rw [cnI]; exact hc) l3 H3 (s2.trans s3) (s2.free hl3) cl3
theorem scClipsOf : FnScope ["items", "parts", "clips", "fade", "item"] ["items", "parts"] (defScope s_clips_of):=⟨rfl,rfl,rfl,by decide +kernel,rfl,by decide +kernel,by decide +kernel⟩
theorem ok_clipsOf {d : Nat} {f CT : Addr} {fd : FuncData} (F : Fun K "clips_of" "clips_of" s_clips_of f fd) (dClipsI : Def P w K mg base (CX1 P w) "clips_of_item" (2 * d + 2) ["item", "parts"] (spClipsI CT d)) (dRMany : Def P w K mg base (CX1 P w) "refuse_many" 1 ["number", "most"] (spRMany CT)) (dFadedIn : Def P w K mg base CX0 "faded_in" 1 ["clips", "many"] spFadedIn) (n_len : mg "len" = none)
  {tMC : Tok} (mMC : mg "MOST_CLIPS" = some (.int 100 tMC)) : FnOk P w K mg base (CX1 P w) (2 * d + 3) f fd ["items", "parts"] (spClipsOf CT d):=by
 refine F.okX scClipsOf (fun vs H Q E h=>?_) (fun cdv A outer s H vs Q E hr h=>?_)
 ·obtain ⟨a,pd,xs,T,G,ns,rfl,_⟩:=h
  rfl
 obtain ⟨a,pd,xs,T,G,ns,rfl,ht,pr,pa,hl,hwl,hdp,q,e⟩:=h
 refine useQ (ss_cons (s_set (i:=2) scClipsOf.nd (e_lst a_nil))
  (ss_cons (s_set (i:=3) scClipsOf.nd e_int)
  (ss_cons (s_for PassesOwn.leaving rfl (i_tup (e_v 0)) (g_name (i:=4) scClipsOf.nd)
   (ss_one (s_if (t_cmp op_eq (e_ix ix_tup (e_v 4) e_int) e_str)
    (ss_one (s_set (i:=3) scClipsOf.nd (e_ix ix_tup (e_v 4) e_int)))
    (ss_cons (s_expr (e_extend (e_v 2) (e_call dFadedIn hr pass0 (a_cons (e_call dClipsI hr passX (a_cons (e_v 4) (a_cons (e_v 1) a_nil)) (hj:=by omega)) (a_cons (e_v 3) a_nil)) (hj:=by omega))))
    (ss_cons (s_expr (e_call dRMany hr passX (a_cons (e_b call_len_seq n_len PySem.boot_len (a_cons (e_v 2) a_nil)) (a_cons (e_gl (v:=.int 100) mMC ⟨_,rfl⟩) a_nil)) (hj:=by omega)))
    (ss_one (s_set (i:=3) scClipsOf.nd e_int)))))))
  (ss_one (s_ret (e_v 2)))))) ?_
 have zl : sizeLine = 16777216:=sizeLine_eq
 obtain ⟨a',vs,z,ha,tds⟩:=ht.tinv
 cases z
 have lv : vs.length = xs.length:=by rw [tds.len,dL_map,List.length_map]
 have hall:=hwl.mem
 refine ⟨(by show 0 <= sizeLine; decide),fun pf hpf=>?_⟩
 have s0:=Same.new hpf (.lst [])
 refine ⟨_,rfl,a,rfl,⟨_,SqT.of (s0 _ _ ha)⟩,for_tup (K:=K) (a:=a) (xs:=vs) (fun i σ H'=>∃ (F : List Cl) (m : Int) (o4 : Option V),σ = [some (.ref a),some (.ref pd),some (.ref pf),some (.int m),o4]/\IT.run (xs.take i) ([],0) = (F,m)/\CL H' pf F/\Same H H'/\cnL (xs.take i) <= 100)
  ⟨[],0,none,rfl,(by rw [List.take_zero,IT.run]),⟨[],upd_same,.nil⟩,s0,(by rw [List.take_zero,cnL]; decide)⟩ (fun i σ H' _ ⟨_,_,_,_,_,_,sm,_⟩=>SqT.of (sm _ _ ha)) ?_ ?_⟩
 ·rintro i v σ H' hv ⟨F,m,o4,rfl,hrun,hF,sm,hcn⟩
  obtain ⟨dd,hd,tv⟩:=tds.get hv
  obtain ⟨x,hx,rfl⟩:=dL_get hd
  have hxm : x ∈ xs:=List.mem_of_getElem? hx
  have hxw:=hall x hxm
  have tv:=tv.tk (TK.of sm)
  have hxh:=hL_mem hl hxm
  have hxc:=cnI_le hall hxm
  have hxd:=dpL_le.mp hdp x hxm
  have lenF : (F.length : Int) = cnL (xs.take i):=by
   have:=run_len (xs.take i) ([],0) fun y hy=>hall y (List.mem_of_mem_take hy)
   rw [hrun] at this
   simpa using this
  have hFi:=cnL_take xs (i + 1) hall
  have hsum : cnL (xs.take (i + 1)) = cnL (xs.take i) + cnI x:=by rw [take_snoc hx,cnL_app,cnL,cnL,Int.add_zero]
  have hrun1 : IT.run (xs.take (i + 1)) ([],0) = step x (flI x) (F,m):=by rw [take_snoc hx,IT.run_app,hrun,IT.run,IT.run]
  obtain ⟨us,hus,tus⟩:=id hF
  have lu : us.length = F.length:=by rw [tus.len,List.length_map]
  rcases hxw with wx | ⟨k,rfl⟩
  ·have hflen : ((flI x).length : Int) = cnI x:=cn_len wx
   have nf:=wx.nf
   obtain ⟨av,ws,rfl,hav⟩:=td_kd tv
   have nk : decide (V.str (kd x) = V.str "fade") = false:=by rw [kd_fade]; exact nf
   refine ⟨_,rfl,av,_,_,_,rfl,rfl,SqT.of hav,atI_nat (j:=0) rfl,rfl,_,rfl,iteN nk ?_⟩
   refine ⟨_,rfl,.inl ⟨rfl,_,SqL.of hus⟩,_,rfl,_,rfl,_,pd,x,T,G,ns,rfl,tv,pr.same sm,pa,hxh,wx,hxd,fun hc l2 H2 s2 hl2 cl2=>?_,fun hc H2 s2=>e (by omega) H2 (sm.trans s2)⟩
   refine ⟨_,rfl,l2,flI x,m,rfl,cl2,by omega,fun l3 H3 s3 hl3 cl3=>?_⟩
   obtain ⟨ts,hts,tts⟩:=cl3
   have S3:=s2.trans s3
   have lt : ts.length = (flI x).length:=by rw [tts.len,List.length_map,setF_len]
   have hus3:=S3 _ _ hus
   refine ⟨pf,l3,_,_,rfl,rfl,hus3,hts,by omega,?_⟩
   have hcl : CL (upd H3 pf (.lst (us ++ ts))) pf (F ++ setF m (flI x)):=⟨us ++ ts,upd_same,by
    rw [List.map_append]
    exact ((tus.tk (TK.of S3)).app tts).tk (TK.lst hus3)⟩
   have sm3 : Same H (upd H3 pf (.lst (us ++ ts))):=fun b ob hb=>by
    rw [upd_ne (ne_of_none hb hpf)]
    exact S3 _ _ (sm _ _ hb)
   have hpf3:=upd_same (H:=H3) (a:=pf) (o:=.lst (us ++ ts))
   generalize upd H3 pf (.lst (us ++ ts)) = H4 at hcl sm3 hpf3 ⊢
   have ln : (((us ++ ts).length : Nat) : Int) = cnL (xs.take (i + 1)):=by rw [List.length_append]; omega
   refine ⟨_,rfl,pf,_,rfl,.inl (SqL.of hpf3),_,_,rfl,fun h1=>?_,fun h1=>e (by omega) H4 sm3⟩
   refine ⟨F ++ setF m (flI x),0,_,rfl,?_,hcl,sm3,by omega⟩
   rw [hrun1,step_nf nf wx.h0.1]
  ·obtain ⟨av,rfl,hav⟩:=td_fade tv
   refine ⟨_,rfl,av,_,_,_,rfl,rfl,SqT.of hav,atI_nat (j:=0) rfl,rfl,_,rfl,iteY (seq _) ?_⟩
   refine ⟨_,rfl,av,_,_,_,rfl,rfl,SqT.of hav,atI_nat (j:=1) rfl,F,k,_,rfl,?_,hF,sm,?_⟩
   ·rw [hrun1]; rfl
   ·rw [hsum,cnI]; omega
 ·rintro σ H' ⟨F,m,o4,rfl,hrun,hF,sm,hcn⟩
  rw [lv,List.take_length] at hrun hcn
  have eF : flL xs = F:=by rw [flL,hrun]
  rw [<- eF] at hF
  exact ⟨_,rfl,q hcn pf H' sm hpf hF⟩
def spPlayed (CT CS : Addr) (d : Nat) : Sp:=fun vs H Q E=>∃ (p pd lr : Addr) (xs : List IT.It) (G : Str->List IT.It->Prop) (ns : List Str) (prs : List (Addr × Reel)),vs = [.ref p,.ref pd,.ref lr]/\Td H (.ref p) (.tuple (dL xs))/\WL xs/\hL (Ck prs) G xs/\PR H pd G/\Pa (Ck prs) G ns/\RL H lr prs/\Uq prs/\dpL xs <= d /\
 FilmQ CT CS (flL xs) H E (fun _=>True)/\((flL xs).length <= 100->frS (flL xs) <= 2000->(∀ k,¬ bad (flL xs) k)->∀ l H',Same H H'->H l = none->CL H' l (flL xs)->Q (.ref l) H')
theorem scPlayed : FnScope ["items", "parts", "reels", "clips"] ["items", "parts", "reels"] (defScope s_played):=⟨rfl,rfl,rfl,by decide +kernel,rfl,by decide +kernel,by decide +kernel⟩
theorem ok_played {d : Nat} {f CT CS : Addr} {fd : FuncData} (F : Fun K "played" "played" s_played f fd) (dSound : Def P w K mg base (CX1 P w) "sound" (2 * d + 8) ["items", "parts", "reels"] (spSound d)) (dClipsOf : Def P w K mg base (CX1 P w) "clips_of" (2 * d + 3) ["items", "parts"] (spClipsOf CT d)) (dRFilm : Def P w K mg base (CX1 P w) "refuse_film" 4 ["clips"] (spRFilm CT CS)) : FnOk P w K mg base (CX1 P w) (2 * d + 9) f fd ["items", "parts", "reels"] (spPlayed CT CS d):=by
 refine F.okX scPlayed (fun vs H Q E h=>?_) (fun cdv A outer s H vs Q E hr h=>?_)
 ·obtain ⟨p,pd,lr,xs,G,ns,prs,rfl,_⟩:=h
  rfl
 obtain ⟨p,pd,lr,xs,G,ns,prs,rfl,td,wl,hl,pr,pa,rl,uq,hd,fq,q⟩:=h
 refine useQ (ss_cons (s_expr (e_call dSound hr passX (a_cons (e_v 0) (a_cons (e_v 1) (a_cons (e_v 2) a_nil))) (hj:=by omega)))
  (ss_cons (s_set (i:=3) scPlayed.nd (e_call dClipsOf hr passX (a_cons (e_v 0) (a_cons (e_v 1) a_nil)) (hj:=by omega)))
  (ss_cons (s_expr (e_call dRFilm hr passX (a_cons (e_v 3) a_nil) (hj:=by omega)))
  (ss_one (s_ret (e_v 3)))))) ?_
 have lcn:=cn_lenL wl
 refine ⟨_,rfl,_,rfl,_,rfl,p,pd,lr,xs,G,ns,prs,rfl,td,wl,hl,pr,pa,rl,uq,hd,fun H1 s1=>?_⟩
 refine ⟨_,rfl,_,rfl,p,pd,xs,_,G,ns,rfl,td.tk (TK.of s1),pr.same s1,pa,hl,wl,hd,fun hc l H2 s2 hl2 cl=>?_,fun hc H2 s2=>fq.many (.inl (by omega)) H2 (s1.trans s2)⟩
 have S2:=s1.trans s2
 refine ⟨_,rfl,l,flL xs,rfl,cl,by omega,⟨fun h H' s'=>fq.many h H' (S2.trans s'),fun h1 h2 k hb nb H' dx s' hdx=>fq.short h1 h2 k hb nb H' dx (S2.trans s') hdx,fun h1 h2 nb H' s'=>?_⟩⟩
 obtain ⟨us,hus,tus⟩:=cl
 exact ⟨_,rfl,q h1 h2 nb l H' (S2.trans s') (s1.free hl2) ⟨us,s' _ _ hus,tus.tk (TK.of s')⟩⟩
end
end K38
set_option maxHeartbeats 2000000
namespace K38
open PySem L2 G DT
open IT hiding It
mutual
def fiI (φ : Str->List IT.It) : IT.It->IT.It
 | .clip r f l=>.clip r f l
 | .times m xs=>.times m (fiL φ xs)
 | .back xs=>.back (fiL φ xs)
 | .part n _=>.part n (φ n)
 | .fade m=>.fade m
def fiL (φ : Str->List IT.It) : List IT.It->List IT.It
 | []=>[]
 | x :: r=>fiI φ x :: fiL φ r
end
mutual
theorem fi_dI (φ : Str->List IT.It) : ∀ x : IT.It,dI (fiI φ x) = dI x
 | .clip r f l=>by rw [fiI]
 | .times m xs=>by rw [fiI,dI,dI,fi_dL φ xs]
 | .back xs=>by rw [fiI,dI,dI,fi_dL φ xs]
 | .part n _=>by rw [fiI,dI,dI]
 | .fade m=>by rw [fiI]
theorem fi_dL (φ : Str->List IT.It) : ∀ xs : List IT.It,dL (fiL φ xs) = dL xs
 | []=>by rw [fiL]
 | x :: r=>by rw [fiL,dL,dL,fi_dI φ x,fi_dL φ r]
end
mutual
theorem fi_dpI {φ : Str->List IT.It} {b : Nat} (h : ∀ n,dpL (φ n) <= b) : ∀ x : IT.It,dpI (fiI φ x) <= dpI x + b
 | .clip r f l=>by rw [fiI]; omega
 | .times m xs=>by have:=fi_dpL h xs; rw [fiI,dpI,dpI]; omega
 | .back xs=>by have:=fi_dpL h xs; rw [fiI,dpI,dpI]; omega
 | .part n _=>by have:=h n; rw [fiI,dpI,dpI]; omega
 | .fade m=>by rw [fiI]; omega
theorem fi_dpL {φ : Str->List IT.It} {b : Nat} (h : ∀ n,dpL (φ n) <= b) : ∀ xs : List IT.It,dpL (fiL φ xs) <= dpL xs + b
 | []=>by rw [fiL]; omega
 | x :: r=>by have:=fi_dpI h x; have:=fi_dpL h r; rw [fiL,dpL,dpL]; omega
end
section
variable {T : Str->Int->Int->Prop} {N : List Str}
mutual
theorem UI.w {φ : Str->List IT.It} (e : ∀ n ∈ N,WL (φ n)) : ∀ {x : IT.It},UI T N x->WI (fiI φ x)
 | _,.clip _ _=>by rw [fiI]; exact .clip
 | _,.times h1 h2 h=>by rw [fiI]; exact .times h1 h2 (h.w e)
 | _,.back h=>by rw [fiI]; exact .back (h.w e)
 | _,.part _ h=>by rw [fiI]; exact .part (e _ h)
theorem UL.w {φ : Str->List IT.It} (e : ∀ n ∈ N,WL (φ n)) : ∀ {xs : List IT.It},UL T N xs->WL (fiL φ xs)
 | _,.one h=>by rw [fiL,fiL]; exact .one (h.w e)
 | _,.cons h t=>by rw [fiL]; exact .cons (h.w e) (t.w e)
 | _,.fade _ h t=>by rw [fiL,fiL,fiI]; exact .fade (h.w e) (t.w e)
end
mutual
theorem UI.h {φ : Str->List IT.It} {G : Str->List IT.It->Prop} (e : ∀ n ∈ N,G n (φ n)) : ∀ {x : IT.It},UI T N x->hI T G (fiI φ x)
 | _,.clip a b=>by rw [fiI,hI]; exact ⟨a,b⟩
 | _,.times _ _ h=>by rw [fiI,hI]; exact h.h e
 | _,.back h=>by rw [fiI,hI]; exact h.h e
 | _,.part f h=>by rw [fiI,hI]; exact ⟨f,e _ h⟩
theorem UL.h {φ : Str->List IT.It} {G : Str->List IT.It->Prop} (e : ∀ n ∈ N,G n (φ n)) : ∀ {xs : List IT.It},UL T N xs->hL T G (fiL φ xs)
 | _,.one h=>by rw [fiL,fiL,hL,hL]; exact ⟨h.h e,trivial⟩
 | _,.cons h t=>by rw [fiL,hL]; exact ⟨h.h e,t.h e⟩
 | _,.fade z h t=>by rw [fiL,fiL,fiI,hL,hL,hI]; exact ⟨h.h e,z,t.h e⟩
end
end
def env : List Pt->Str->List IT.It
 | [],_=>[]
 | x :: r,n=>if n = x.1 then fiL (env r) x.2.2 else env r n
inductive Gd (T : Str->Int->Int->Prop) : List Pt->Prop
 | nil : Gd T []
 | cons {x : Pt} {r : List Pt} : UL T (r.map (·.1)) x.2.2->x.1 ∉ r.map (·.1)->dpL x.2.2 <= 2->Gd T r->Gd T (x :: r)
theorem env_new {x : Pt} {r : List Pt} (h : x.1 ∉ r.map (·.1)) {n : Str} (hn : n ∈ r.map (·.1)) : env (x :: r) n = env r n:=by
 rw [env,if_neg (by rintro rfl; exact h hn)]
theorem Gd.wl {T : Str->Int->Int->Prop} : ∀ {r : List Pt},Gd T r->∀ n ∈ r.map (·.1),WL (env r n)
 | _,.nil,n,h=>(nomatch h)
 | _,.cons (x:=x) (r:=r) u nn _ g,n,h=>by
  by_cases e : n = x.1
  ·rw [env,if_pos e]
   exact u.w g.wl
  ·rw [env,if_neg e]
   rw [List.map_cons] at h
   rcases List.mem_cons.mp h with z | z
   ·exact absurd z e
   ·exact g.wl n z
theorem Gd.dp {T : Str->Int->Int->Prop} : ∀ {r : List Pt},Gd T r->∀ n,dpL (env r n) <= 2 * r.length
 | _,.nil,n=>by rw [env,dpL]; omega
 | _,.cons (x:=x) (r:=r) u nn hd g,n=>by
  rw [env,List.length_cons]
  have k:=g.dp
  split
  ·have:=fi_dpL k x.2.2; omega
  ·have:=k n; omega
theorem hL_mono {T : Str->Int->Int->Prop} {G G' : Str->List IT.It->Prop} (g : ∀ n ys,G n ys->G' n ys) : ∀ {xs : List IT.It},hL T G xs->hL T G' xs:=by
 have : ∀ N : Nat,(∀ x : IT.It,dpI x <= N->hI T G x->hI T G' x):=by
  intro N
  induction N with
  | zero =>
   intro x hx h
   cases x with
   | clip r f l=>rw [hI] at h ⊢; exact h
   | times m xs=>rw [dpI] at hx; omega
   | back xs=>rw [dpI] at hx; omega
   | part n xs=>rw [dpI] at hx; omega
   | fade m=>rw [hI] at h ⊢; exact h
  | succ N ih =>
   have L : ∀ xs : List IT.It,dpL xs <= N->hL T G xs->hL T G' xs:=by
    intro xs
    induction xs with
    | nil=>intro _ _; rw [hL]; trivial
    | cons x r ih2=>intro hd h; rw [hL] at h ⊢; rw [dpL] at hd; exact ⟨ih x (by omega) h.1,ih2 (by omega) h.2⟩
   intro x hx h
   cases x with
   | clip r f l=>rw [hI] at h ⊢; exact h
   | times m xs=>rw [hI] at h ⊢; rw [dpI] at hx; exact L xs (by omega) h
   | back xs=>rw [hI] at h ⊢; rw [dpI] at hx; exact L xs (by omega) h
   | part n xs=>rw [hI] at h ⊢; exact ⟨h.1,g _ _ h.2⟩
   | fade m=>rw [hI] at h ⊢; exact h
 intro xs
 induction xs with
 | nil=>intro h; rw [hL]; trivial
 | cons x r ih=>intro h; rw [hL] at h ⊢; exact ⟨this _ x (Nat.le_refl _) h.1,ih h.2⟩
def Gn (r : List Pt) (n : Str) (ys : List IT.It) : Prop:=n ∈ r.map (·.1)/\ys = env r n
theorem Gd.ok {T : Str->Int->Int->Prop} : ∀ {r : List Pt},Gd T r->∀ n ys,Gn r n ys->hL T (Gn r) ys
 | _,.nil,n,ys,h=>(nomatch h.1)
 | _,.cons (x:=x) (r:=r) u nn _ g,n,ys,⟨h,e⟩=>by
  subst e
  have mono : ∀ n ys,Gn r n ys->Gn (x :: r) n ys:=fun n ys h=>⟨by rw [List.map_cons]; exact List.mem_cons_of_mem _ h.1,by rw [env_new nn h.1]; exact h.2⟩
  by_cases e : n = x.1
  ·rw [env,if_pos e]
   exact hL_mono mono (u.h fun n hn=>⟨hn,rfl⟩)
  ·rw [env,if_neg e]
   rw [List.map_cons] at h
   rcases List.mem_cons.mp h with z | z
   ·exact absurd z e
   ·exact hL_mono mono (g.ok n _ ⟨z,rfl⟩)
theorem Gd.pa {T : Str->Int->Int->Prop} {r : List Pt} (h : Gd T r) (hl : r.length <= 100) : Pa T (Gn r) (r.map (·.1)) where
 fn:=fun n ys ys' a b=>by rw [a.2,b.2]
 dom:=fun n ys a=>a.1
 len:=by rw [List.length_map]; exact hl
 wl:=fun n ys a=>by rw [a.2]; exact h.wl n a.1
 ok:=h.ok
structure Mv where
 o : Str
 t : Str
 δ : Int
noncomputable def Mv.nm (g : Mv) (r : Str) : Str:=if r = g.o then g.t else r
noncomputable def Mv.at (g : Mv) (r : Str) (f : Int) : Int:=if r = g.o then f + g.δ else f
noncomputable def Mv.c (g : Mv) (c : Cl) : Cl:=⟨g.nm c.r,g.at c.r c.f,g.at c.r c.l,c.d⟩
mutual
noncomputable def mI (g : Mv) : IT.It->IT.It
 | .clip r f l=>.clip (g.nm r) (g.at r f) (g.at r l)
 | .times m xs=>.times m (mL g xs)
 | .back xs=>.back (mL g xs)
 | .part n xs=>.part n (mL g xs)
 | .fade m=>.fade m
noncomputable def mL (g : Mv) : List IT.It->List IT.It
 | []=>[]
 | x :: r=>mI g x :: mL g r
end
mutual
theorem fi_mI (g : Mv) (φ : Str->List IT.It) : ∀ x : IT.It,fiI (fun n=>mL g (φ n)) (mI g x) = mI g (fiI φ x)
 | .clip r f l=>by rw [mI,fiI,fiI,mI]
 | .times m xs=>by rw [mI,fiI,fiI,mI,fi_mL g φ xs]
 | .back xs=>by rw [mI,fiI,fiI,mI,fi_mL g φ xs]
 | .part n _=>by rw [mI,fiI,fiI,mI]
 | .fade m=>by rw [mI,fiI,fiI,mI]
theorem fi_mL (g : Mv) (φ : Str->List IT.It) : ∀ xs : List IT.It,fiL (fun n=>mL g (φ n)) (mL g xs) = mL g (fiL φ xs)
 | []=>by rw [mL,fiL,fiL,mL]
 | x :: r=>by rw [mL,fiL,fiL,mL,fi_mI g φ x,fi_mL g φ r]
end
theorem setF_m (g : Mv) (m : Int) (A : List Cl) : setF m (A.map g.c) = (setF m A).map g.c:=by cases A <;> rfl
theorem revA_m (g : Mv) : ∀ (a : Int) (A : List Cl),revA a (A.map g.c) = (revA a A).map g.c
 | a,[]=>rfl
 | a,c :: r=>by rw [List.map_cons,revA,revA,List.map_cons]; exact congrArg _ (revA_m g c.d r)
theorem rev_m (g : Mv) (A : List Cl) : rev (A.map g.c) = (rev A).map g.c:=by rw [rev,rev,<- List.map_reverse,revA_m]
theorem rep_m (g : Mv) (n : Nat) (A : List Cl) : rep n (A.map g.c) = (rep n A).map g.c:=by rw [rep,rep,List.map_flatten,List.map_replicate]
theorem step_m (g : Mv) (x : IT.It) (A : List Cl) (s : List Cl × Int) : step (mI g x) (A.map g.c) (s.1.map g.c,s.2) = ((step x A s).1.map g.c,(step x A s).2):=by
 cases x with
 | fade m=>rw [mI]; rfl
 | _=>rw [mI]; cases A with
  | nil=>rfl
  | cons a r=>show (s.1.map g.c ++ setF s.2 ((a :: r).map g.c),0) = ((s.1 ++ setF s.2 (a :: r)).map g.c,0); rw [setF_m,List.map_append]
mutual
theorem fl_mI (g : Mv) : ∀ x : IT.It,flI (mI g x) = (flI x).map g.c
 | .clip r f l=>by rw [mI,flI,flI]; rfl
 | .times m xs=>by rw [mI,flI,flI,<- rep_m]; exact congrArg (rep _) (congrArg Prod.fst (run_m g xs ([],0)))
 | .back xs=>by rw [mI,flI,flI,<- rev_m]; exact congrArg rev (congrArg Prod.fst (run_m g xs ([],0)))
 | .part n xs=>by rw [mI,flI,flI]; exact congrArg Prod.fst (run_m g xs ([],0))
 | .fade m=>by rw [mI,flI]; rfl
theorem run_m (g : Mv) : ∀ (xs : List IT.It) (s : List Cl × Int),IT.run (mL g xs) (s.1.map g.c,s.2) = ((IT.run xs s).1.map g.c,(IT.run xs s).2)
 | [],s=>by rw [mL,IT.run,IT.run]
 | x :: r,s=>by rw [mL,IT.run,IT.run,fl_mI g x,step_m,run_m g r]
end
theorem fl_m (g : Mv) (xs : List IT.It) : flL (mL g xs) = (flL xs).map g.c:=congrArg Prod.fst (run_m g xs ([],0))
inductive PM (g : Mv) : List Pt->List Pt->Prop
 | nil : PM g [] []
 | cons {x y : Pt} {r r' : List Pt} : y.1 = x.1->y.2.2 = mL g x.2.2->PM g r r'->PM g (x :: r) (y :: r')
theorem env_m (g : Mv) : ∀ {r r' : List Pt},PM g r r'->∀ n,env r' n = mL g (env r n)
 | _,_,.nil,n=>by rw [env,mL]
 | _,_,.cons (x:=x) (y:=y) (r:=r) (r':=r') h h' t,n=>by
  rw [env,env,h,h']
  split
  ·rw [show env r' = fun n=>mL g (env r n) from funext (env_m g t),fi_mL]
  ·exact env_m g t n
theorem PM.app {g : Mv} : ∀ {r r' s s' : List Pt},PM g r r'->PM g s s'->PM g (r ++ s) (r' ++ s')
 | _,_,_,_,.nil,k=>k
 | _,_,_,_,.cons h h' t,k=>.cons h h' (t.app k)
theorem PM.rev {g : Mv} : ∀ {r r' : List Pt},PM g r r'->PM g r.reverse r'.reverse
 | _,_,.nil=>.nil
 | _,_,.cons h h' t=>by rw [List.reverse_cons,List.reverse_cons]; exact t.rev.app (.cons h h' .nil)
section
variable {T : Str->Int->Int->Prop} {G : Str->List IT.It->Prop}
structure Cg (T : Str->Int->Int->Prop) (c : Cl) : Prop where
 rf : Fine c.r
 t : T c.r c.f c.l
 d0 : 0 <= c.d
def Cgs (T : Str->Int->Int->Prop) (A : List Cl) : Prop:=∀ c ∈ A,Cg T c
theorem Cgs.set {m : Int} {A : List Cl} (h : Cgs T A) (hm : 0 <= m) : Cgs T (setF m A):=by
 cases A with
 | nil=>exact h
 | cons a r =>
  intro c hc
  rcases List.mem_cons.mp hc with rfl | hc
  ·have:=h a List.mem_cons_self; exact ⟨this.rf,this.t,hm⟩
  ·exact h c (List.mem_cons_of_mem _ hc)
theorem Cgs.revA (sy : ∀ r f l,T r f l->T r l f) : ∀ {a : Int} {A : List Cl},0 <= a->Cgs T A->Cgs T (IT.revA a A)
 | _,[],_,h=>h
 | a,x :: r,ha,h=>fun c hc=>by
  have hx:=h x List.mem_cons_self
  rw [IT.revA] at hc
  rcases List.mem_cons.mp hc with rfl | hc
  ·exact ⟨hx.rf,sy _ _ _ hx.t,ha⟩
  ·exact Cgs.revA sy hx.d0 (fun y hy=>h y (List.mem_cons_of_mem _ hy)) c hc
theorem Cgs.rev (sy : ∀ r f l,T r f l->T r l f) {A : List Cl} (h : Cgs T A) : Cgs T (IT.rev A):=Cgs.revA sy (Int.le_refl 0) fun c hc=>h c (List.mem_reverse.mp hc)
theorem Cgs.rep {n : Nat} {A : List Cl} (h : Cgs T A) : Cgs T (IT.rep n A):=fun c hc=>by
 rw [IT.rep] at hc
 obtain ⟨B,hB,hc⟩:=List.mem_flatten.mp hc
 rw [(List.mem_replicate.mp hB).2] at hc
 exact h c hc
theorem Cgs.step {x : IT.It} {A : List Cl} {s : List Cl × Int} (hx : hI T G x) (a : Cgs T A) (b : Cgs T s.1) (m : 0 <= s.2) : Cgs T (IT.step x A s).1/\0 <= (IT.step x A s).2:=by
 cases x with
 | fade m=>rw [hI] at hx; exact ⟨b,hx⟩
 | _=>cases A with
  | nil=>exact ⟨b,m⟩
  | cons y r=>exact ⟨fun c hc=>by
    rcases List.mem_append.mp hc with z | z
    ·exact b c z
    ·exact a.set m c z,Int.le_refl 0⟩
mutual
theorem cgI (sy : ∀ r f l,T r f l->T r l f) (clo : ∀ n ys,G n ys->hL T G ys) : ∀ {x : IT.It},hI T G x->Cgs T (flI x)
 | .clip r f l,h=>by
  rw [hI] at h
  rw [flI]
  intro c hc
  rw [List.mem_singleton.mp hc]
  exact ⟨h.1,h.2,Int.le_refl 0⟩
 | .times m xs,h=>by rw [hI] at h; rw [flI]; exact Cgs.rep (cgR sy clo h (s:=([],0)) (fun c hc=>(nomatch hc)) (Int.le_refl 0))
 | .back xs,h=>by rw [hI] at h; rw [flI]; exact Cgs.rev sy (cgR sy clo h (s:=([],0)) (fun c hc=>(nomatch hc)) (Int.le_refl 0))
 | .part n xs,h=>by rw [hI] at h; rw [flI]; exact cgR sy clo (clo n xs h.2) (s:=([],0)) (fun c hc=>(nomatch hc)) (Int.le_refl 0)
 | .fade m,h=>by rw [flI]; exact fun c hc=>(nomatch hc)
theorem cgR (sy : ∀ r f l,T r f l->T r l f) (clo : ∀ n ys,G n ys->hL T G ys) : ∀ {xs : List IT.It} {s : List Cl × Int},hL T G xs->Cgs T s.1->0 <= s.2->Cgs T (IT.run xs s).1
 | [],s,_,b,_=>by rw [IT.run]; exact b
 | x :: r,s,h,b,m=>by
  rw [hL] at h
  rw [IT.run]
  have:=Cgs.step h.1 (cgI sy clo h.1) b m
  exact cgR sy clo h.2 this.1 this.2
end
theorem cgL (sy : ∀ r f l,T r f l->T r l f) (clo : ∀ n ys,G n ys->hL T G ys) {xs : List IT.It} (h : hL T G xs) : Cgs T (flL xs):=cgR sy clo h (s:=([],0)) (fun c hc=>(nomatch hc)) (Int.le_refl 0)
end
end K38
set_option maxHeartbeats 2000000
namespace K38
open PySem L2 G DT
open IT hiding It
def mv (o t : Reel) : Mv:=⟨o.name,t.name,o.start - t.start⟩
def Al (o t : Reel) (r : Str) (f l : Int) : Prop:=r = o.name->o.letters = t.letters/\has t (f + (o.start - t.start))/\has t (l + (o.start - t.start))
theorem ovF_ok {o t : Reel} {f z : Int} (h : ovF o t f = .inr z) : z = f + (o.start - t.start)/\o.letters = t.letters/\has t (f + (o.start - t.start)):=by
 unfold ovF at h
 split at h
 ·split at h
  ·rename_i hb
   cases h
   refine ⟨by omega,hb.1,?_⟩
   have:=hb.2
   unfold has
   omega
  ·cases h
 ·cases h
theorem ovC_ok {o t : Reel} {f l : Int} {z : Int × Int} (h : ovC o t f l = .inr z) : z = (f + (o.start - t.start),l + (o.start - t.start))/\o.letters = t.letters/\has t (f + (o.start - t.start))/\has t (l + (o.start - t.start)):=by
 unfold ovC at h
 cases h1 : ovF o t f with
 | inl e=>rw [h1] at h; cases h
 | inr a =>
  rw [h1] at h
  cases h2 : ovF o t l with
  | inl e=>rw [h2] at h; cases h
  | inr b =>
   rw [h2] at h
   cases h
   obtain ⟨rfl,e1,e2⟩:=ovF_ok h1
   obtain ⟨rfl,_,e3⟩:=ovF_ok h2
   exact ⟨rfl,e1,e2,e3⟩
section
variable {o t : Reel} {T T' : Str->Int->Int->Prop} {N : List Str}
mutual
theorem ov_UI (ft : Fine t.name) (hT : ∀ r f l,T r f l->Al o t r f l->T' ((mv o t).nm r) ((mv o t).at r f) ((mv o t).at r l)) : ∀ {x y : IT.It},UI T N x->ovI o t x = .inr y->y = mI (mv o t) x/\UI (fun r f l=>T r f l/\Al o t r f l) N x/\UI T' N y
 | _,y,.clip (r:=r) (f:=f) (l:=l) hf ht,h=>by
  rw [ovI] at h
  by_cases c : r = o.name
  ·rw [if_pos c] at h
   cases hz : ovC o t f l with
   | inl e=>rw [hz] at h; cases h
   | inr z =>
    rw [hz] at h
    cases h
    obtain ⟨rfl,a⟩:=ovC_ok hz
    have e : IT.It.clip t.name (f + (o.start - t.start)) (l + (o.start - t.start)) = mI (mv o t) (.clip r f l):=by
     rw [mI]
     unfold Mv.nm Mv.at
     rw [if_pos (show r = (mv o t).o from c),if_pos (show r = (mv o t).o from c),if_pos (show r = (mv o t).o from c)]
     rfl
    have k:=hT r f l ht fun _=>a
    refine ⟨e,.clip hf ⟨ht,fun _=>a⟩,?_⟩
    show UI T' N (IT.It.clip t.name (f + (o.start - t.start)) (l + (o.start - t.start)))
    unfold Mv.nm Mv.at at k
    rw [if_pos (show r = (mv o t).o from c),if_pos (show r = (mv o t).o from c),if_pos (show r = (mv o t).o from c)] at k
    exact .clip ft k
  ·rw [if_neg c] at h
   cases h
   have k:=hT r f l ht fun z=>absurd z c
   refine ⟨?_,.clip hf ⟨ht,fun z=>absurd z c⟩,?_⟩
   ·rw [mI]
    unfold Mv.nm Mv.at
    rw [if_neg (show ¬ r = (mv o t).o from c),if_neg (show ¬ r = (mv o t).o from c),if_neg (show ¬ r = (mv o t).o from c)]
   ·unfold Mv.nm Mv.at at k
    rw [if_neg (show ¬ r = (mv o t).o from c),if_neg (show ¬ r = (mv o t).o from c),if_neg (show ¬ r = (mv o t).o from c)] at k
    exact .clip hf k
 | _,y,.times (xs:=xs) h1 h2 hx,h=>by
  rw [ovI] at h
  cases hz : ovL o t xs with
  | inl e'=>rw [hz] at h; cases h
  | inr ys =>
   rw [hz] at h
   cases h
   obtain ⟨a,b,c⟩:=ov_UL ft hT hx hz
   exact ⟨by rw [mI,a],.times h1 h2 b,.times h1 h2 c⟩
 | _,y,.back (xs:=xs) hx,h=>by
  rw [ovI] at h
  cases hz : ovL o t xs with
  | inl e'=>rw [hz] at h; cases h
  | inr ys =>
   rw [hz] at h
   cases h
   obtain ⟨a,b,c⟩:=ov_UL ft hT hx hz
   exact ⟨by rw [mI,a],.back b,.back c⟩
 | _,y,.part hf hn,h=>by rw [ovI] at h; cases h; exact ⟨by rw [mI,mL],.part hf hn,.part hf hn⟩
theorem ov_UL (ft : Fine t.name) (hT : ∀ r f l,T r f l->Al o t r f l->T' ((mv o t).nm r) ((mv o t).at r f) ((mv o t).at r l)) : ∀ {xs ys : List IT.It},UL T N xs->ovL o t xs = .inr ys->ys = mL (mv o t) xs/\UL (fun r f l=>T r f l/\Al o t r f l) N xs/\UL T' N ys
 | _,ys,.one (x:=x) hx,h=>by
  rw [ovL] at h
  cases hz : ovI o t x with
  | inl e'=>rw [hz] at h; cases h
  | inr y =>
   rw [hz,ovL] at h
   cases h
   obtain ⟨a,b,c⟩:=ov_UI ft hT hx hz
   exact ⟨by rw [mL,mL,a],.one b,.one c⟩
 | _,ys,.cons (x:=x) (r:=r) hx ht,h=>by
  rw [ovL] at h
  cases hz : ovI o t x with
  | inl e'=>rw [hz] at h; cases h
  | inr y =>
   rw [hz] at h
   cases hr : ovL o t r with
   | inl e'=>rw [hr] at h; cases h
   | inr zs =>
    rw [hr] at h
    cases h
    obtain ⟨a,b,c⟩:=ov_UI ft hT hx hz
    obtain ⟨a',b',c'⟩:=ov_UL ft hT ht hr
    exact ⟨by rw [mL,a,a'],.cons b b',.cons c c'⟩
 | _,ys,.fade (x:=x) (m:=m) (r:=r) hm hx ht,h=>by
  rw [ovL] at h
  cases hz : ovI o t x with
  | inl e'=>rw [hz] at h; cases h
  | inr y =>
   rw [hz,ovL,ovI] at h
   cases hr : ovL o t r with
   | inl e'=>rw [hr] at h; cases h
   | inr zs =>
    rw [hr] at h
    cases h
    obtain ⟨a,b,c⟩:=ov_UI ft hT hx hz
    obtain ⟨a',b',c'⟩:=ov_UL ft hT ht hr
    exact ⟨by rw [mL,mL,mI,a,a'],.fade hm b b',.fade hm c c'⟩
end
end
theorem fr_m {o t : Reel} (c : Cl) : frC ((mv o t).c c) = frC c:=by
 unfold Mv.c Mv.at frC
 dsimp only
 split
 ·rw [show c.l + (mv o t).δ - (c.f + (mv o t).δ) = c.l - c.f by omega]
 ·rfl
theorem frS_m {o t : Reel} (cs : List Cl) : frS (cs.map (mv o t).c) = frS cs:=by
 unfold frS
 rw [List.map_map]
 congr 1
 exact List.map_congr_left fun c _=>fr_m c
theorem fd_m {o t : Reel} (cs : List Cl) (k : Nat) : fdA (cs.map (mv o t).c) k = fdA cs k:=by
 unfold fdA
 rw [List.map_map]
 rfl
theorem bad_m {o t : Reel} (cs : List Cl) (k : Nat) : bad (cs.map (mv o t).c) k ↔ bad cs k:=by
 unfold bad
 rw [fd_m,fd_m,List.getElem?_map]
 constructor
 ·rintro ⟨c,h,hb⟩
  cases e : cs[k]? with
  | none=>rw [e] at h; cases h
  | some x=>rw [e] at h; cases h; exact ⟨x,rfl,by rw [fr_m] at hb; exact hb⟩
 ·rintro ⟨c,h,hb⟩
  exact ⟨_,by rw [h]; rfl,by rw [fr_m]; exact hb⟩
end K38
set_option maxHeartbeats 2000000
namespace K38
open PySem L2 G DT
open IT hiding It
open KS (Frm)
def toK (c : Cl) : KS.Clip:=⟨c.r,c.f,c.l,c.d⟩
theorem cnt_fr (c : Cl) : ((toK c).cnt : Int) = frC c:=by
 unfold KS.Clip.cnt frC toK
 dsimp only
 split <;> omega
theorem fd_get {cs : List Cl} {k : Nat} {c : Cl} (h : cs[k]? = some c) : fdA cs k = c.d:=by
 unfold fdA
 have hk : k < (cs.map Cl.d).length:=by rw [List.length_map]; exact (List.getElem?_eq_some_iff.mp h).1
 rw [List.getD_eq_getElem?_getD,List.getElem?_append_left hk,List.getElem?_map,h]
 rfl
theorem fd_nn {cs : List Cl} (h : ∀ c ∈ cs,0 <= c.d) (k : Nat) : 0 <= fdA cs k:=by
 cases e : cs[k]? with
 | some c=>rw [fd_get e]; exact h c (List.mem_of_getElem? e)
 | none =>
  unfold fdA
  rw [List.getD_eq_getElem?_getD,List.getElem?_append_right (by rw [List.length_map]; exact List.getElem?_eq_none_iff.mp e)]
  cases e2 : [(0 : Int)][k - (cs.map Cl.d).length]? with
  | none=>exact Int.le_refl 0
  | some z =>
   have:=List.mem_of_getElem? e2
   rw [List.mem_singleton.mp this]
   exact Int.le_refl 0
theorem sd_of {cs : List Cl} (hf : ∀ c ∈ cs,Fine c.r) (h0 : ∀ c ∈ cs,0 <= c.d) (hd : ∀ c,cs[0]? = some c->c.d = 0) (nb : ∀ k,¬ bad cs k) : KS.Sd (cs.map toK):=by
 have nb' : ∀ k c,cs[k]? = some c->fdA cs k + fdA cs (k + 1) <= frC c:=fun k c h=>by
  have:=nb k
  unfold bad at this
  exact Int.not_lt.mp fun z=>this ⟨c,h,z⟩
 have get : ∀ (i : Nat) (x : KS.Clip),(cs.map toK)[i]? = some x->∃ c,cs[i]? = some c/\x = toK c:=fun i x h=>by
  rw [List.getElem?_map] at h
  cases e : cs[i]? with
  | none=>rw [e] at h; cases h
  | some c=>rw [e] at h; cases h; exact ⟨c,rfl,rfl⟩
 refine ⟨fun x hx=>?_,fun x hx=>?_,fun i x hx=>?_,fun x hx=>?_⟩
 ·obtain ⟨c,hc,rfl⟩:=List.mem_map.mp hx
  exact h0 c hc
 ·obtain ⟨c,hc,rfl⟩:=List.mem_map.mp hx
  obtain ⟨k,hk⟩:=List.getElem?_of_mem hc
  have:=nb' k c hk
  have:=fd_nn h0 (k + 1)
  rw [fd_get hk] at *
  rw [cnt_fr]
  show c.d <= frC c
  omega
 ·obtain ⟨c,hc,rfl⟩:=get i x hx
  cases i with
  | zero=>rw [show (toK c).f = 0 from hd c hc]; exact Int.natCast_nonneg _
  | succ i =>
   have hi : i < cs.length:=by have:=(List.getElem?_eq_some_iff.mp hc).1; omega
   have hy : cs[i]? = some cs[i]:=List.getElem?_eq_getElem hi
   generalize cs[i] = y at hy
   have hy' : (cs.map toK)[i]? = some (toK y):=by rw [List.getElem?_map,hy]; rfl
   have g0 : 0 <= (toK y).f:=h0 y (List.mem_of_getElem? hy)
   rw [KS.shown_take hy',KS.len_showC _ _ g0]
   have n1:=nb' i y hy
   rw [fd_get hy,fd_get hc] at n1
   have:=cnt_fr y
   show c.d <= _
   have : (toK y).f = y.d:=rfl
   omega
 ·obtain ⟨c,hc,rfl⟩:=List.mem_map.mp hx
  exact hf c hc
section
variable {o t : Reel}
noncomputable def mF (g : Mv) (f : Frm) : Frm:=⟨g.nm f.reel,g.at f.reel f.n,f.p,f.w⟩
noncomputable def mK (g : Mv) (c : KS.Clip) : KS.Clip:=⟨g.nm c.reel,g.at c.reel c.a,g.at c.reel c.b,c.f⟩
theorem at_add (g : Mv) (r : Str) (a b : Int) : g.at r (a + b) = g.at r a + b:=by unfold Mv.at; split <;> omega
theorem way_m (g : Mv) (c : KS.Clip) : (mK g c).way = c.way:=by
 unfold KS.Clip.way mK Mv.at
 dsimp only
 by_cases h : c.reel = g.o
 ·rw [if_pos h,if_pos h]
  by_cases z : c.b < c.a
  ·rw [if_pos z,if_pos (by omega)]
  ·rw [if_neg z,if_neg (by omega)]
 ·rw [if_neg h,if_neg h]
theorem cnt_m (g : Mv) (c : KS.Clip) : (mK g c).cnt = c.cnt:=by
 unfold KS.Clip.cnt mK Mv.at
 dsimp only
 by_cases h : c.reel = g.o
 ·rw [if_pos h,if_pos h,show c.b + g.δ - (c.a + g.δ) = c.b - c.a by omega]
 ·rw [if_neg h,if_neg h]
theorem put_m (g : Mv) (S : List (List Frm)) (c : KS.Clip) (B k : Nat) (n : Int) : KS.putF (S.map (List.map (mF g))) (mK g c) B k (g.at c.reel n) = (KS.putF S c B k n).map (List.map (mF g)):=by
 unfold KS.putF
 by_cases h : (k : Int) < c.f
 ·rw [if_pos h,if_pos (show (k : Int) < (mK g c).f from h),List.map_set]
  congr 1
  rw [List.getD_eq_getElem?_getD,List.getD_eq_getElem?_getD,List.getElem?_map]
  cases e : S[B + k]? with
  | none=>rfl
  | some m=>cases m <;> rfl
 ·rw [if_neg h,if_neg (show ¬ (k : Int) < (mK g c).f from h),List.map_append]
  rfl
theorem shK_m (g : Mv) (S : List (List Frm)) (c : KS.Clip) (B : Nat) : ∀ k,KS.shK (S.map (List.map (mF g))) (mK g c) B k = (KS.shK S c B k).map (List.map (mF g))
 | 0=>rfl
 | k + 1=>by
  show KS.putF (KS.shK (S.map (List.map (mF g))) (mK g c) B k) (mK g c) B k ((mK g c).a + (k : Int) * (mK g c).way) = _
  rw [shK_m g S c B k,way_m,show (mK g c).a + (k : Int) * c.way = g.at c.reel (c.a + (k : Int) * c.way) by rw [at_add]; rfl,put_m]
  rfl
theorem show_m (g : Mv) (S : List (List Frm)) (c : KS.Clip) : KS.showC (S.map (List.map (mF g))) (mK g c) = (KS.showC S c).map (List.map (mF g)):=by
 unfold KS.showC
 rw [cnt_m,List.length_map]
 exact shK_m g S c _ _
theorem fold_m (g : Mv) : ∀ (cs : List Cl) (S : List (List Frm)),((cs.map g.c).map toK).foldl KS.showC (S.map (List.map (mF g))) = ((cs.map toK).foldl KS.showC S).map (List.map (mF g))
 | [],S=>rfl
 | c :: r,S=>by
  rw [List.map_cons,List.map_cons,List.map_cons,List.foldl_cons,List.foldl_cons,show toK (g.c c) = mK g (toK c) from rfl,show_m,fold_m g r]
theorem shown_m (g : Mv) (cs : List Cl) : KS.shown ((cs.map g.c).map toK) = (KS.shown (cs.map toK)).map (List.map (mF g)):=fold_m g cs []
def AF (U : Str->Int->Prop) (S : List (List Frm)) : Prop:=∀ m ∈ S,∀ f ∈ m,U f.reel f.n
theorem AF.put {U : Str->Int->Prop} {S : List (List Frm)} {c : KS.Clip} {B k : Nat} {n : Int} (h : AF U S) (hn : U c.reel n) : AF U (KS.putF S c B k n):=by
 unfold KS.putF
 split
 ·intro m hm
  rcases List.mem_or_eq_of_mem_set hm with hm | rfl
  ·exact h m hm
  ·rw [List.getD_eq_getElem?_getD]
   cases e : S[B + k]? with
   | none=>exact fun f hf=>(nomatch hf)
   | some m=>cases m with
    | nil=>exact fun f hf=>(nomatch hf)
    | cons a r =>
     intro f hf
     simp only [Option.getD_some,List.mem_cons,List.not_mem_nil,or_false] at hf
     rcases hf with rfl | rfl
     ·exact h _ (List.mem_of_getElem? e) a List.mem_cons_self
     ·exact hn
 ·intro m hm
  rcases List.mem_append.mp hm with hm | hm
  ·exact h m hm
  ·rw [List.mem_singleton.mp hm]
   intro f hf
   rw [List.mem_singleton.mp hf]
   exact hn
def Btw (c : KS.Clip) (n : Int) : Prop:=(c.a <= n/\n <= c.b) \/ (c.b <= n/\n <= c.a)
theorem btw {c : KS.Clip} {k : Nat} (h : k < c.cnt) : Btw c (c.a + (k : Int) * c.way):=by
 unfold KS.Clip.cnt at h
 unfold Btw KS.Clip.way
 split
 ·right; omega
 ·left; omega
theorem AF.shK {U : Str->Int->Prop} {S : List (List Frm)} {c : KS.Clip} {B : Nat} (h : AF U S) (hn : ∀ n,Btw c n->U c.reel n) : ∀ k,k <= c.cnt->AF U (KS.shK S c B k)
 | 0,_=>h
 | k + 1,hk=>(AF.shK h hn k (by omega)).put (hn _ (btw (by omega)))
theorem AF.fold {U : Str->Int->Prop} : ∀ (cs : List KS.Clip) (S : List (List Frm)),AF U S->(∀ c ∈ cs,∀ n,Btw c n->U c.reel n)->AF U (cs.foldl KS.showC S)
 | [],S,h,_=>h
 | c :: r,S,h,hc=>by
  rw [List.foldl_cons]
  exact AF.fold r _ (h.shK (hc c List.mem_cons_self) _ (Nat.le_refl _)) fun d hd=>hc d (List.mem_cons_of_mem _ hd)
theorem af_shown {U : Str->Int->Prop} {cs : List KS.Clip} (hc : ∀ c ∈ cs,∀ n,Btw c n->U c.reel n) : AF U (KS.shown cs):=AF.fold cs [] (fun m hm=>(nomatch hm)) hc
end
end K38
set_option maxHeartbeats 2000000
namespace K38
open PySem L2 G DT
open KS (Clip Frm Sm MsOk showC shK len_shK ms_shK nums_get Sd shown_take ms_shown len_bound Bt)
def _root_.KS.Frm.d (f : Frm) : PyData:=.tuple [.str f.reel,.int f.n,.int f.p,.int f.w]
def _root_.KS.Frm.vs (f : Frm) : List V:=[.str f.reel,.int f.n,.int f.p,.int f.w]
def momD (m : List Frm) : PyData:=.tuple (m.map Frm.d)
def SH (H : Hp) (p : Addr) (S : List (List Frm)) : Prop:=∃ vs,H p = some (.lst vs)/\Tds H vs (S.map momD)
theorem td_frm {H : Hp} {v : V} {f : Frm} (h : Td H v f.d) : ∃ a,v = .ref a/\H a = some (.tup f.vs):=by
 obtain ⟨a,vs,rfl,h1,h2⟩:=h.tinv
 cases h2 with | cons a1 h2=>cases h2 with | cons a2 h2=>cases h2 with | cons a3 h2=>cases h2 with | cons a4 h2=>cases h2; rw [a1.sinv,a2.iinv,a3.iinv,a4.iinv] at h1; exact ⟨_,rfl,h1⟩
theorem mk_frm {H : Hp} {a : Addr} {f : Frm} (h : H a = some (.tup f.vs)) : Td H (.ref a) f.d:=.tup h (.cons (.str _) (.cons (.int _) (.cons (.int _) (.cons (.int _) .nil))))
theorem td_mom {H : Hp} {v : V} {g : Frm} {r : List Frm} (h : Td H v (momD (g :: r))) : ∃ a b rest,v = .ref a/\H a = some (.tup (.ref b :: rest))/\H b = some (.tup g.vs):=by
 obtain ⟨a,vs,rfl,h1,h2⟩:=h.tinv
 cases h2 with
 | cons a1 h2 =>
  obtain ⟨b,rfl,hb⟩:=td_frm a1
  exact ⟨a,b,_,rfl,h1,hb⟩
theorem tds_set {H : Hp} {v : V} {d : PyData} (h : Td H v d) : ∀ {vs : List V} {ds : List PyData} (i : Nat),Tds H vs ds->Tds H (vs.set i v) (ds.set i d)
 | _,_,_,.nil=>.nil
 | _,_,0,.cons _ r=>.cons h r
 | _,_,i + 1,.cons a r=>.cons a (tds_set h i r)
section
variable {P : Program} {w : World} {K : PySem.W.Frag} {mg : Str->Option Value} {base : Heap}
def spWay : Sp:=fun vs H Q _=>∃ (p : Addr) (c : Clip),vs = [.ref p]/\H p = some (.tup c.vs)/\Q (.int c.way) H
theorem scWay : FnScope ["clip"] ["clip"] (defScope s_way_of):=⟨rfl,rfl,rfl,by decide +kernel,rfl,by decide +kernel,by decide +kernel⟩
theorem ok_way {f : Addr} {fd : FuncData} (F : Fun K "way_of" "way_of" s_way_of f fd) : FnOk P w K mg base CX0 1 f fd ["clip"] spWay:=by
 refine F.ok scWay (fun vs H Q E h=>?_) (fun cdv A outer s H vs Q E hr h=>?_)
 ·obtain ⟨p,c,rfl,_⟩:=h
  rfl
 obtain ⟨p,c,rfl,hp,q⟩:=h
 refine useQ (ss_one (s_ret (e_if (t_cmp op_lt (e_ix ix_tup (e_v 0) e_int) (e_ix ix_tup (e_v 0) e_int)) (e_un un_neg e_int) e_int))) ?_
 refine ⟨_,rfl,p,_,_,.int c.b,rfl,rfl,SqT.of hp,atI_nat (j:=2) rfl,_,rfl,p,_,_,.int c.a,rfl,rfl,SqT.of hp,atI_nat (j:=1) rfl,_,_,rfl,rfl,_,rfl,?_⟩
 have q : Q (.int (if c.b < c.a then -1 else 1)) H:=q
 refine ite2 (fun z=>?_) (fun z=>?_)
 ·rw [if_pos (of_decide_eq_true z)] at q
  exact ⟨_,rfl,q⟩
 ·rw [if_neg fun y=>z (decide_eq_true y)] at q
  exact q
def spFr : Sp:=fun vs H Q _=>∃ (p : Addr) (c : Clip),vs = [.ref p]/\H p = some (.tup c.vs)/\Sm c/\∀ l,H l = none->Q (.ref l) (upd H l (.lst (c.nums.map V.int)))
theorem scNos : FnScope ["clip", "way"] ["clip"] (defScope s_numbers_of):=⟨rfl,rfl,rfl,by decide +kernel,rfl,by decide +kernel,by decide +kernel⟩
theorem ok_nos {f : Addr} {fd : FuncData} (F : Fun K "numbers_of" "numbers_of" s_numbers_of f fd) (dWay : Def P w K mg base CX0 "way_of" 1 ["clip"] spWay) (n_list : mg "list" = none) (n_range : mg "range" = none) : FnOk P w K mg base CX0 2 f fd ["clip"] spFr:=by
 refine F.ok scNos (fun vs H Q E h=>?_) (fun cdv A outer s H vs Q E hr h=>?_)
 ·obtain ⟨p,c,rfl,_⟩:=h
  rfl
 obtain ⟨p,c,rfl,hp,sm,q⟩:=h
 refine useQ (ss_cons (s_set (i:=1) scNos.nd (e_call dWay hr pass0 (a_cons (e_v 0) a_nil)))
  (ss_one (s_ret (e_lrng3 rfl n_list n_range (e_ix ix_tup (e_v 0) e_int) (e_op op_add (e_ix ix_tup (e_v 0) e_int) (e_v 1)) (e_v 1))))) ?_
 refine ⟨_,rfl,p,c,rfl,hp,?_⟩
 obtain ⟨a0,a1,b0,b1⟩:=sm
 have cw:=c.way_cnt
 have cn : c.cnt <= 1000001:=Sm.cnt ⟨a0,a1,b0,b1⟩
 refine ⟨_,rfl,p,_,_,.int c.a,rfl,rfl,SqT.of hp,atI_nat (j:=1) rfl,_,rfl,p,_,_,.int c.b,rfl,rfl,SqT.of hp,atI_nat (j:=2) rfl,_,rfl,_,_,rfl,rfl,_,rfl,_,_,_,rfl,⟨by omega,by omega⟩,⟨by omega,by omega⟩,c.cnt,cw,by omega,fun l hl=>?_⟩
 rw [<- c.numsV]
 exact q l hl
def spFaded : Sp:=fun vs H Q _=>∃ (gt : Addr) (g : Frm) (r : Str) (n pa wh : Int),vs = [.ref gt,.str r,.int n,.int pa,.int wh]/\H gt = some (.tup g.vs)/\∀ p H',Same H H'->Td H' (.ref p) (momD [⟨g.reel,g.n,wh - pa,wh⟩,⟨r,n,pa,wh⟩])->Q (.ref p) H'
theorem scFaded : FnScope ["going", "reel", "number", "part", "whole"] ["going", "reel", "number", "part", "whole"] (defScope s_faded):=⟨rfl,rfl,rfl,by decide +kernel,rfl,by decide +kernel,by decide +kernel⟩
theorem ok_faded {f : Addr} {fd : FuncData} (F : Fun K "faded" "faded" s_faded f fd) : FnOk P w K mg base CX0 1 f fd ["going", "reel", "number", "part", "whole"] spFaded:=by
 refine F.ok scFaded (fun vs H Q E h=>?_) (fun cdv A outer s H vs Q E hr h=>?_)
 ·obtain ⟨gt,g,r,n,pa,wh,rfl,_⟩:=h
  rfl
 obtain ⟨gt,g,r,n,pa,wh,rfl,hg,q⟩:=h
 refine useQ (ss_one (s_ret (e_tup (a_cons (e_op op_catG (e_sl sl_tupG (e_v 0) o_none (o_some e_int)) (e_tup (a_cons (e_op op_sub (e_v 4) (e_v 3)) (a_cons (e_v 4) a_nil)))) (a_cons (e_tup (a_cons (e_v 1) (a_cons (e_v 2) (a_cons (e_v 3) (a_cons (e_v 4) a_nil))))) a_nil))))) ?_
 refine ⟨_,rfl,_,rfl,gt,_,rfl,hg,fun p1 H1 s1 hp1=>?_⟩
 have hp1 : H1 p1 = some (.tup [.str g.reel,.int g.n]):=hp1
 refine ⟨_,rfl,_,rfl,_,_,rfl,rfl,_,rfl,(by show 2 <= sizeLine; decide),fun p2 hp2=>?_⟩
 have s2:=Same.new hp2 (.tup [.int (wh - pa),.int wh])
 refine ⟨p1,p2,_,_,rfl,rfl,s2 _ _ hp1,upd_same,(by show 2 + 2 <= sizeLine; decide),fun p3 H3 s3 hp3=>?_⟩
 refine ⟨_,rfl,_,rfl,_,rfl,_,rfl,(by show 4 <= sizeLine; decide),fun p4 hp4=>⟨(by show 2 <= sizeLine; decide),fun p5 hp5=>?_⟩⟩
 have s4:=Same.new hp4 (.tup (Frm.vs ⟨r,n,pa,wh⟩))
 have s5:=Same.new hp5 (.tup [.ref p3,.ref p4])
 refine q p5 _ ((((s1.trans s2).trans s3).trans s4).trans s5) (.tup upd_same (.cons (mk_frm (f:=⟨g.reel,g.n,wh - pa,wh⟩) (s5 _ _ (s4 _ _ hp3))) (.cons (mk_frm (f:=⟨r,n,pa,wh⟩) (s5 _ _ upd_same)) .nil)))
def spSC : Sp:=fun vs H Q _=>∃ (pl pc : Addr) (S : List (List Frm)) (c : Clip),vs = [.ref pl,.ref pc]/\SH H pl S/\H pc = some (.tup c.vs)/\Sm c/\PyData.strOk c.reel = true/\0 <= c.f/\c.f <= (S.length : Int)/\MsOk S/\S.length <= 1000000 /\
 ∀ H',Bt pl H H'->SH H' pl (showC S c)->Q .non H'
theorem scSC : FnScope ["moments", "clip", "fade", "begin", "k", "number", "going"] ["moments", "clip"] (defScope s_show_clip):=⟨rfl,rfl,rfl,by decide +kernel,rfl,by decide +kernel,by decide +kernel⟩
theorem ok_sc {f : Addr} {fd : FuncData} (F : Fun K "show_clip" "show_clip" s_show_clip f fd) (dNumbers : Def P w K mg base CX0 "numbers_of" 2 ["clip"] spFr) (dFaded : Def P w K mg base CX0 "faded" 1 ["going", "reel", "number", "part", "whole"] spFaded) (n_len : mg "len" = none) (n_enumerate : mg "enumerate" = none) : FnOk P w K mg base CX0 3 f fd ["moments", "clip"] spSC:=by
 refine F.ok scSC (fun vs H Q E h=>?_) (fun cdv A outer s H vs Q E hr h=>?_)
 ·obtain ⟨pl,pc,S,c,rfl,_⟩:=h
  rfl
 obtain ⟨pl,pc,S,c,rfl,⟨vs0,hv0,td0⟩,hc,sm,rf,f0,f1,mk,hSl,q⟩:=h
 refine useQ (ss_cons (s_set (i:=2) scSC.nd (e_ix ix_tup (e_v 1) e_int))
  (ss_cons (s_set (i:=3) scSC.nd (e_op op_sub (e_b call_len_seq n_len PySem.boot_len (a_cons (e_v 0) a_nil)) (e_v 2)))
  (ss_one (s_for PassesOwn.never rfl (i_enum n_enumerate (e_call dNumbers hr pass0 (a_cons (e_v 1) a_nil))) (g_tup rfl (gs_cons (g_name (i:=4) scSC.nd) (gs_cons (g_name (i:=5) scSC.nd) gs_nil)))
   (ss_one (s_cut (s_if (t_cmp op_lt (e_v 4) (e_v 2))
    (ss_cons (s_set (i:=6) scSC.nd (e_ix ix_tup (e_ix ix_list (e_v 0) (e_op op_add (e_v 3) (e_v 4))) e_int))
    (ss_one (s_asg (e_call dFaded hr pass0 (a_cons (e_v 6) (a_cons (e_ix ix_tup (e_v 1) e_int) (a_cons (e_v 5) (a_cons (e_op op_add (e_v 4) e_int) (a_cons (e_op op_add (e_v 2) e_int) a_nil)))))) (g_sub (e_v 0) (e_op op_add (e_v 3) (e_v 4))))))
    (ss_one (s_expr (e_append (e_v 0) (e_tup (a_cons (e_tup (a_cons (e_ix ix_tup (e_v 1) e_int) (a_cons (e_v 5) (a_cons e_int (a_cons e_int a_nil))))) a_nil)))))))))))) ?_
 have zl : sizeLine = 16777216:=sizeLine_eq
 have l0 : vs0.length = S.length:=by rw [td0.len,List.length_map]
 refine ⟨_,rfl,pc,_,_,.int c.f,rfl,rfl,SqT.of hc,atI_nat (j:=3) rfl,?_⟩
 refine ⟨_,rfl,pl,_,rfl,.inl (SqL.of hv0),_,rfl,_,_,rfl,rfl,?_⟩
 refine ⟨_,rfl,pc,c,rfl,hc,sm,fun l1 hl1=>?_⟩
 have s1:=Same.new hl1 (.lst (c.nums.map V.int))
 have npl : pc ≠ pl:=ne_of hc hv0 (by intro z; cases z)
 have nl1 : l1 ≠ pl:=fun e=>by rw [e,hv0] at hl1; cases hl1
 have hcn:=sm.cnt
 obtain ⟨B,hB⟩ : ∃ B : Nat,B = S.length - c.f.toNat:=⟨_,rfl⟩
 have eB : (vs0.length : Int) - c.f = (B : Int):=by rw [l0,hB]; omega
 refine ⟨l1,rfl,⟨_,SqL.of upd_same⟩,for_enum (K:=K) (a:=l1) (xs:=c.nums.map V.int) (fun k σ H2=>∃ (o4 o5 o6 : Option V),σ = [some (.ref pl),some (.ref pc),some (.int c.f),some (.int ((vs0.length : Int) - c.f)),o4,o5,o6]/\SH H2 pl (shK S c B k)/\H2 l1 = some (.lst (c.nums.map V.int))/\Bt pl H H2)
  ⟨none,none,none,rfl,⟨vs0,s1 _ _ hv0,td0.tk (TK.of s1)⟩,upd_same,Bt.of s1⟩ ?_ ?_ ?_⟩
 ·rintro k σ H2 hk ⟨o4,o5,o6,rfl,sh,hl2,bt⟩
  exact SqL.of hl2
 ·rintro k y σ H2 pt hy ⟨o4,o5,o6,rfl,⟨vs2,hv2,td2⟩,hl2,bt⟩ hpt
  rw [List.getElem?_map] at hy
  cases hu : c.nums[k]? with
  | none=>rw [hu] at hy; cases hy
  | some u =>
   rw [hu] at hy
   cases hy
   have hkc : k < c.cnt:=by
    have:=(List.getElem?_eq_some_iff.mp hu).1
    rwa [Clip.nums_len] at this
   have eu : u = c.a + (k : Int) * c.way:=by
    rw [nums_get hkc] at hu
    cases hu
    rfl
   have st:=Same.new hpt (.tup [.int (k : Int),.int u])
   have hc2:=st _ _ (bt _ _ npl hc)
   have td3:=td2.tk (TK.of st)
   have hl3:=st _ _ hl2
   have lk : vs2.length = S.length + (k - c.f.toNat):=by rw [td2.len,List.length_map,len_shK S c B f0 k]
   refine ⟨pt,_,rfl,SqT.of upd_same,rfl,_,_,rfl,_,_,rfl,rfl,?_⟩
   refine ⟨fun σ' H4=>∃ (o6 : Option V),σ' = [some (.ref pl),some (.ref pc),some (.int c.f),some (.int ((vs0.length : Int) - c.f)),some (.int (k : Int)),some (.int u),o6]/\SH H4 pl (shK S c B (k + 1))/\H4 l1 = some (.lst (c.nums.map V.int))/\Bt pl H H4,?_,?_⟩
   ·refine ⟨_,rfl,_,rfl,_,_,rfl,rfl,_,rfl,?_⟩
    refine ite2 (fun z=>?_) (fun z=>?_)
    ·have z:=of_decide_eq_true z
     have hb : B + k < (shK S c B k).length:=by rw [len_shK S c B f0 k]; omega
     have mok:=ms_shK mk rf f0 (B:=B) (by omega) k
     have hg : (shK S c B k)[B + k]? = some (shK S c B k)[B + k]:=List.getElem?_eq_getElem hb
     have hne:=(mok _ (List.getElem_mem hb)).1
     have epf : shK S c B (k + 1) = KS.putF (shK S c B k) c B k (c.a + (k : Int) * c.way):=rfl
     generalize (shK S c B k)[B + k] = m at hg hne
     cases m with
     | nil=>exact absurd rfl hne
     | cons g r =>
      obtain ⟨v,hv,tv⟩:=td3.at (i:=B + k) (d:=momD (g :: r)) (by rw [List.getElem?_map,hg]; rfl)
      obtain ⟨ma,gt,rest,rfl,hma,hgt⟩:=td_mom tv
      have av : atI vs2 ((vs0.length : Int) - c.f + (k : Int)) = some (.ref ma):=by
       rw [eB,show (B : Int) + (k : Int) = ((B + k : Nat) : Int) by omega]
       exact atI_nat hv
      refine ⟨_,rfl,_,rfl,_,rfl,_,_,rfl,rfl,pl,_,_,.ref ma,rfl,rfl,SqL.of (st _ _ hv2),av,ma,_,_,.ref gt,rfl,rfl,SqT.of hma,atI_nat (j:=0) rfl,?_⟩
      refine ⟨_,rfl,_,rfl,pc,_,_,.str c.reel,rfl,rfl,SqT.of hc2,atI_nat (j:=0) rfl,_,rfl,_,rfl,_,_,rfl,rfl,_,rfl,_,_,rfl,rfl,gt,g,c.reel,u,_,_,rfl,hgt,fun p H5 s5 tp=>?_⟩
      have hv5:=s5 _ _ (st _ _ hv2)
      have T5 : TK (upd H2 pt (.tup [.int (k : Int),.int u])) H5:=TK.of s5
      refine ⟨_,rfl,_,rfl,_,rfl,_,_,rfl,rfl,pl,_,_,B + k,rfl,rfl,hv5,?_,_,rfl,⟨vs2.set (B + k) (.ref p),upd_same,?_⟩,?_,?_⟩
      ·rw [eB,show (B : Int) + (k : Int) = ((B + k : Nat) : Int) by omega]
       exact ixN_nat (by omega)
      ·rw [epf]
       unfold KS.putF
       rw [if_pos z,List.getD_eq_getElem?_getD,hg,List.map_set]
       refine tds_set ?_ (B + k) ((td3.tk T5).tk (TK.lst hv5))
       have e1 : (c.f + 1 - ((k : Int) + 1)) = c.f - (k : Int):=by omega
       rw [e1,eu] at tp
       exact tp.tk (TK.lst hv5)
      ·rw [upd_ne nl1]
       exact s5 _ _ hl3
      ·exact (bt.trans (Bt.of (st.trans s5))).trans Bt.upd
    ·have z : ¬ (k : Int) < c.f:=fun y=>z (decide_eq_true y)
     refine ⟨_,rfl,.inl ⟨rfl,_,SqL.of (st _ _ hv2)⟩,_,rfl,pc,_,_,.str c.reel,rfl,rfl,SqT.of hc2,atI_nat (j:=0) rfl,_,rfl,(by show 4 <= sizeLine; decide),fun p5 hp5=>⟨(by show 1 <= sizeLine; decide),fun p6 hp6=>?_⟩⟩
     have s5:=Same.new hp5 (.tup (Frm.vs ⟨c.reel,u,1,1⟩))
     have s6:=Same.new hp6 (.tup [.ref p5])
     have hv6:=s6 _ _ (s5 _ _ (st _ _ hv2))
     refine ⟨pl,_,_,rfl,rfl,hv6,by omega,_,rfl,⟨vs2 ++ [.ref p6],upd_same,?_⟩,?_,?_⟩
     ·show Tds _ _ ((KS.putF (shK S c B k) c B k (c.a + (k : Int) * c.way)).map momD)
      unfold KS.putF
      rw [if_neg z,List.map_append,<- eu]
      refine ((td3.tk (TK.of (s5.trans s6))).tk (TK.lst hv6)).app (.cons ?_ .nil)
      exact Td.tk (TK.lst hv6) (.tup upd_same (.cons (mk_frm (f:=⟨c.reel,u,1,1⟩) (s6 _ _ upd_same)) .nil))
     ·rw [upd_ne nl1]
      exact s6 _ _ (s5 _ _ hl3)
     ·exact (bt.trans (Bt.of ((st.trans s5).trans s6))).trans Bt.upd
   ·rintro σ H4 ⟨o6',rfl,sh4,hl4,bt4⟩
    exact ⟨_,_,_,rfl,sh4,hl4,bt4⟩
 ·rintro σ H2 ⟨o4,o5,o6,rfl,sh,hl2,bt⟩
  rw [List.length_map,Clip.nums_len] at sh
  rw [hB] at sh
  exact q H2 bt sh
def spShown : Sp:=fun vs H Q _=>∃ (pc : Addr) (cs : List IT.Cl),vs = [.ref pc]/\CL H pc cs/\cs.length <= 100/\(∀ c ∈ cs,Sm (toK c)/\frC c <= 2000)/\Sd (cs.map toK) /\
 ∀ (l : Addr) (H' : Hp),Same H H'->H l = none->SH H' l (KS.shown (cs.map toK))->Q (.ref l) H'
theorem scShown : FnScope ["clips", "moments", "clip"] ["clips"] (defScope s_shown):=⟨rfl,rfl,rfl,by decide +kernel,rfl,by decide +kernel,by decide +kernel⟩
theorem ok_shown {f : Addr} {fd : FuncData} (F : Fun K "shown" "shown" s_shown f fd) (dShowC : Def P w K mg base CX0 "show_clip" 3 ["moments", "clip"] spSC) : FnOk P w K mg base CX0 4 f fd ["clips"] spShown:=by
 refine F.ok scShown (fun vs H Q E h=>?_) (fun cdv A outer s H vs Q E hr h=>?_)
 ·obtain ⟨pc,cs,rfl,_⟩:=h
  rfl
 obtain ⟨pc,cs,rfl,⟨us,hus,tus⟩,hpl,ok,sd,q⟩:=h
 refine useQ (ss_cons (s_set (i:=1) scShown.nd (e_lst a_nil))
  (ss_cons (s_for PassesOwn.never rfl (i_list (e_v 0)) (g_name (i:=2) scShown.nd)
   (ss_one (s_expr (e_call dShowC hr pass0 (a_cons (e_v 1) (a_cons (e_v 2) a_nil))))))
  (ss_one (s_ret (e_v 1))))) ?_
 have zl : sizeLine = 16777216:=sizeLine_eq
 have ml : (cs.map toK).length = cs.length:=List.length_map ..
 have lu : us.length = cs.length:=by rw [tus.len,List.length_map]
 refine ⟨(by show 0 <= sizeLine; decide),fun pl hp=>?_⟩
 have s0:=Same.new hp (.lst [])
 have cnt : ∀ c ∈ cs.map toK,c.cnt <= 2000:=fun c hc=>by
  obtain ⟨x,hx,rfl⟩:=List.mem_map.mp hc
  have:=(ok x hx).2
  have:=cnt_fr x
  omega
 refine ⟨_,rfl,pc,rfl,⟨_,SqL.of (s0 _ _ hus)⟩,for_list (xs:=us) (fun i σ H'=>∃ (o2 : Option V),σ = [some (.ref pc),some (.ref pl),o2]/\SH H' pl (KS.shown ((cs.map toK).take i))/\Same H H')
  ⟨none,rfl,⟨[],upd_same,.nil⟩,s0⟩ ?_ ?_ ?_⟩
 ·rintro i σ H' hi ⟨o2,rfl,sh,hS⟩
  exact SqL.of (hS _ _ hus)
 ·rintro i x σ H' hx ⟨o2,rfl,sh,hS⟩
  obtain ⟨dd,hd,tv⟩:=tus.get hx
  obtain ⟨c,hz,rfl⟩:=c_get hd
  have hi : i < cs.length:=(List.getElem?_eq_some_iff.mp hz).1
  obtain ⟨a,rfl,ha⟩:=td_cl (tv.tk (TK.of hS))
  have hcz : (cs.map toK)[i]? = some (toK c):=by rw [List.getElem?_map,hz]; rfl
  have hm : toK c ∈ cs.map toK:=List.mem_of_getElem? hcz
  have lb:=len_bound sd cnt i (by omega)
  refine ⟨_,rfl,_,rfl,pl,a,_,toK c,rfl,sh,ha,(ok c (List.mem_of_getElem? hz)).1,sd.rf _ hm,sd.f0 _ hm,sd.f2 i _ hcz,ms_shown sd i (by omega),by omega,fun H2 bt sh2=>?_⟩
  refine ⟨_,rfl,?_,Bt.same hS bt hp⟩
  rw [shown_take hcz]
  exact sh2
 ·rintro σ H' ⟨o2,rfl,sh,hS⟩
  rw [lu,<- ml,List.take_length] at sh
  exact ⟨_,rfl,q pl H' hS hp sh⟩
end
end K38
set_option maxHeartbeats 2000000
namespace K38
open PySem L2 G DT
open IT hiding It
section
variable {P : Program} {w : World} {K : PySem.W.Frag} {mg : Str->Option Value} {base : Heap}
def spOverL : Sp:=fun vs H Q _=>∃ (a d p : Addr) (prs : List (Addr × Reel)) (ps : List Pt) (o t : Addr × Reel) (xs : List IT.It),vs = [.ref a,.ref d,.ref p]/\o.2.name = "a"/\t.2.name = "bo"/\RL H p prs/\Uq prs/\o ∈ prs/\t ∈ prs/\Td H (.ref a) (.tuple (dL xs))/\dpL xs <= 5/\wL xs <= 1000/\PD H d ps/\(ps.map (·.1)).Nodup/\ps.length <= 10 /\
 (∀ e,ovL o.2 t.2 (allOf xs ps) = .inl e->∀ H',Ex d H H'->Rd H' d (.dK (kvsOf ps))->Q .non H') /\
 (∀ ys ps',ovL o.2 t.2 xs = .inr ys->OvP o.2 t.2 ps ps'->∀ q a' d' H',Ex d H H'->Rd H' d (.dK (kvsOf ps))->H d' = none->H' d' = some (.dK (kvsOf ps'))->H' q = some (.tup [.ref a',.ref d'])->Td H' (.ref a') (.tuple (dL ys))->(∀ x ∈ ps',Td H' (.ref x.2.1) (.tuple (dL x.2.2)))->Q (.ref q) H')
theorem scOverL : FnScope ["_law_items", "_law_parts_here", "_law_reels", "_law_found"] ["_law_items", "_law_parts_here", "_law_reels"] (defScope s__law_over):=⟨rfl,rfl,rfl,by decide +kernel,rfl,by decide +kernel,by decide +kernel⟩
theorem ok_overL {f CN CF : Addr} {fd : FuncData} {bmF : List Value} {idF : String} (F : Fun K "_law_over" "_law_over" s__law_over f fd) (dBr : Def P w K mg base (CX1 P w) "brought_over" 12 ["items", "parts", "reels", "one", "other"] (spBr CN CF))
  (m_NoFrame : mg "NoFrame" = some (.ref CF)) (c_NoFrame : ExcC K CF bmF idF) (hb_NoFrame : bmF.contains (.type "BaseException") = true) : FnOk P w K mg base CX0 13 f fd ["_law_items", "_law_parts_here", "_law_reels"] spOverL:=by
 refine F.ok scOverL (fun vs H Q E h=>?_) (fun cdv A outer s H vs Q E hr h=>?_)
 ·obtain ⟨a,d,p,prs,ps,o,t,xs,rfl,_⟩:=h
  rfl
 obtain ⟨a,d,p,prs,ps,o,t,xs,rfl,on,tn,rl,uq,ho,ht,ha,hd4,hw,pd,nd,hpl,e1,e2⟩:=h
 refine useQ (ss_cons (s_set (i:=3) scOverL.nd e_non)
  (ss_cons (s_tryN (i:=3) scOverL.nd m_NoFrame c_NoFrame hb_NoFrame (x_call dBr hr (a_cons (e_v 0) (a_cons (e_v 1) (a_cons (e_v 2) (a_cons e_str (a_cons e_str a_nil)))))) (fun a=>(ss_one (s_set (i:=3) scOverL.nd e_non))))
  (ss_one (s_ret (e_v 3))))) ?_
 refine ⟨_,rfl,_,rfl,_,rfl,a,d,p,prs,ps, "a", "bo",xs,rfl,rl,uq,ha,hd4,hw,pd,nd,hpl,fun hn=>absurd on (hn o ho),fun _ _ _ hn=>absurd tn (hn t ht),?_⟩
 intro o' ho' hoe t' ht' hte
 have eo:=uq o' ho' o ho (hoe.trans on.symm)
 have et:=uq t' ht' t ht (hte.trans tn.symm)
 subst eo et
 refine ⟨fun e he H1 dx x1 r1 hdx=>?_,fun ys ps' hys hop q a' d' H1 x1 r1 hd0 hd1 hq hta htp=>?_⟩
 ·exact ⟨CF,bmF,idF,rfl,c_NoFrame,(by rw [List.contains_cons,beq_self_eq_true]; rfl),fun a0=>⟨_,rfl,e1 e he H1 x1 r1⟩⟩
 ·exact ⟨_,rfl,e2 ys ps' hys hop q a' d' H1 x1 r1 hd0 hd1 hq hta htp⟩
structure PlQ (cs : List Cl) (H : Hp) (Q : VK) : Prop where
 many : 100 < cs.length \/ 2000 < frS cs->∀ q H',Same H H'->H' q = some (.tup [.str "many",.int 0])->Q (.ref q) H'
 short : cs.length <= 100->frS cs <= 2000->∀ k,bad cs k->(∀ j < k,¬ bad cs j)->∀ q H',Same H H'->H' q = some (.tup [.str "short",.int (k : Int)])->Q (.ref q) H'
 good : cs.length <= 100->frS cs <= 2000->(∀ k,¬ bad cs k)->∀ q l H',Same H H'->H l = none->CL H' l cs->H' q = some (.tup [.str "played",.ref l])->Q (.ref q) H'
def spLPlayed : Sp:=fun vs H Q _=>∃ (p pd lr : Addr) (xs : List IT.It) (G : Str->List IT.It->Prop) (ns : List Str) (prs : List (Addr × Reel)),vs = [.ref p,.ref pd,.ref lr]/\Td H (.ref p) (.tuple (dL xs))/\WL xs/\hL (Ck prs) G xs/\PR H pd G/\Pa (Ck prs) G ns/\RL H lr prs/\Uq prs/\dpL xs <= 11/\PlQ (flL xs) H Q
theorem scLPlayed : FnScope ["_law_items", "_law_parts_here", "_law_reels", "_law_found", "e"] ["_law_items", "_law_parts_here", "_law_reels"] (defScope s__law_played):=⟨rfl,rfl,rfl,by decide +kernel,rfl,by decide +kernel,by decide +kernel⟩
theorem ok_lplayed {f CT CS : Addr} {fd : FuncData} {bmT bmS : List Value} {idT idS : String} (F : Fun K "_law_played" "_law_played" s__law_played f fd) (dPlayed : Def P w K mg base (CX1 P w) "played" 31 ["items", "parts", "reels"] (spPlayed CT CS 11))
  (m_TooMany : mg "TooMany" = some (.ref CT)) (c_TooMany : ExcC K CT bmT idT) (hb_TooMany : bmT.contains (.type "BaseException") = true) (m_TooShort : mg "TooShort" = some (.ref CS)) (c_TooShort : ExcC K CS bmS idS) (hb_TooShort : bmS.contains (.type "BaseException") = true) (ne : (Value.ref CS :: bmS).contains (.ref CT) = false) (EK : ExcK K CS) (XC : XCls K CS) (XN : XNo K CS "number") : FnOk P w K mg base CX0 32 f fd ["_law_items", "_law_parts_here", "_law_reels"] spLPlayed:=by
 refine F.ok scLPlayed (fun vs H Q E h=>?_) (fun cdv A outer s H vs Q E hr h=>?_)
 ·obtain ⟨p,pd,lr,xs,G,ns,prs,rfl,_⟩:=h
  rfl
 obtain ⟨p,pd,lr,xs,G,ns,prs,rfl,td,wl,hl,pr,pa,rl,uq,hd,pq⟩:=h
 refine useQ (ss_cons (s_try2 (i:=3) (j:=4) scLPlayed.nd m_TooMany c_TooMany hb_TooMany m_TooShort c_TooShort hb_TooShort (x_call dPlayed hr (a_cons (e_v 0) (a_cons (e_v 1) (a_cons (e_v 2) a_nil)))) (fun a=>(ss_one (s_ret (e_tup (a_cons e_str (a_cons e_int a_nil)))))) (fun a=>(ss_one (s_ret (e_tup (a_cons e_str (a_cons (e_xf (e_v 4)) a_nil)))))))
  (ss_one (s_ret (e_tup (a_cons e_str (a_cons (e_v 3) a_nil)))))) ?_
 refine ⟨_,rfl,_,rfl,_,rfl,p,pd,lr,xs,G,ns,prs,rfl,td,wl,hl,pr,pa,rl,uq,hd,⟨fun h H1 s1=>?_,fun h1 h2 k hb nb H1 dx s1 hdx=>?_,fun _ _ _ _ _=>trivial⟩,fun h1 h2 nb l H1 s1 hl0 cl=>?_⟩
 ·refine ⟨CT,bmT,idT,rfl,c_TooMany,.inl ⟨(by rw [List.contains_cons,beq_self_eq_true]; rfl),fun a0=>⟨(by show 2 <= sizeLine; decide),fun q hq=>?_⟩⟩⟩
  exact pq.many h q _ (s1.trans (Same.new hq _)) upd_same
 ·refine ⟨CS,bmS,idS,rfl,c_TooShort,.inr ⟨ne,(by rw [List.contains_cons,beq_self_eq_true]; rfl),fun a0 ha0=>?_⟩⟩
  have te:=Same.new ha0 (excO a0 (.ref CS) (some dx))
  refine ⟨_,rfl,a0,CS,dx,_,_,rfl,upd_same,te _ _ hdx,EK,XC,XN,rfl,(by show 2 <= sizeLine; decide),fun q hq=>?_⟩
  exact pq.short h1 h2 k hb nb q _ ((s1.trans te).trans (Same.new hq _)) upd_same
 ·refine ⟨_,rfl,(by show 2 <= sizeLine; decide),fun q hq=>?_⟩
  obtain ⟨us,hus,tus⟩:=cl
  have t:=Same.new hq (.tup [.str "played",.ref l])
  exact pq.good h1 h2 nb q l _ (s1.trans t) hl0 ⟨us,t _ _ hus,tus.tk (TK.of t)⟩ upd_same
def nmB (r : Str) : Str:=if r = "a" then "bo" else r
def spLName : Sp:=fun vs H Q _=>∃ r : Str,vs = [.str r]/\∀ H',Same H H'->Q (.str (nmB r)) H'
theorem scLName : FnScope ["_law_name_here"] ["_law_name_here"] (defScope s__law_name):=⟨rfl,rfl,rfl,by decide +kernel,rfl,by decide +kernel,by decide +kernel⟩
theorem ok_lname {f : Addr} {fd : FuncData} (F : Fun K "_law_name" "_law_name" s__law_name f fd) (n_int : mg "int" = none) : FnOk P w K mg base CX0 1 f fd ["_law_name_here"] spLName:=by
 refine F.ok scLName (fun vs H Q E h=>?_) (fun cdv A outer s H vs Q E hr h=>?_)
 ·obtain ⟨r,rfl,_⟩:=h
  rfl
 obtain ⟨r,rfl,q⟩:=h
 refine useQ (ss_one (s_ret (e_ix ix_list (e_lst (a_cons (e_v 0) (a_cons e_str a_nil))) (e_t call_int1 n_int PyProof.Rows.boot_int (a_cons (e_cmp op_eq (e_v 0) e_str) a_nil))))) ?_
 refine ⟨_,rfl,(by show 2 <= sizeLine; decide),fun p hp=>⟨_,rfl,rfl,.inr ⟨_,rfl,p,_,_,.str (nmB r),rfl,rfl,SqL.of upd_same,?_,q _ (Same.new hp _)⟩⟩⟩
 unfold nmB
 by_cases h : r = "a"
 ·rw [if_pos (decide_eq_true (by rw [h])),if_pos h]; rfl
 ·rw [if_neg (by rw [decide_eq_true_eq]; intro z; cases z; exact h rfl),if_neg h]; rfl
theorem depInts : ∀ ns : List Int,PyData.depthAll (ns.map PyData.int) <= 0
 | []=>by simp [PyData.depthAll]
 | n :: r=>by have:=depInts r; simp [PyData.depthAll,PyData.depth]; omega
def Lk (prs : List (Addr × Reel)) (r : Str) (f : Int) (r' : Str) (f' : Int) : Prop:=∃ x ∈ prs,∃ y ∈ prs,x.2.name = r/\has x.2 f/\y.2.name = r'/\has y.2 f'/\x.2.letters = y.2.letters/\x.2.start + f = y.2.start + f'
def spAlike : Sp:=fun vs H Q _=>∃ (p a b : Addr) (prs : List (Addr × Reel)) (r : Str) (f f' : Int) (ks : List Int),vs = [.ref p,.ref a,.ref b]/\RL H p prs/\Uq prs/\H a = some (.tup (.str r :: .int f :: ks.map V.int))/\H b = some (.tup (.str (nmB r) :: .int f' :: ks.map V.int))/\Lk prs r f (nmB r) f'/\∀ H',Same H H'->Q (.bl true) H'
theorem scAlike : FnScope ["_law_reels", "_law_one", "_law_other"] ["_law_reels", "_law_one", "_law_other"] (defScope s__law_alike):=⟨rfl,rfl,rfl,by decide +kernel,rfl,by decide +kernel,by decide +kernel⟩
theorem ok_alike {f CN CF : Addr} {fd : FuncData} (F : Fun K "_law_alike" "_law_alike" s__law_alike f fd) (dLName : Def P w K mg base CX0 "_law_name" 1 ["_law_name_here"] spLName) (dKeyOf : Def P w K mg base (CX1 P w) "key_of" 4 ["reels", "name", "frame"] (spKeyOf CN CF)) : FnOk P w K mg base CX0 5 f fd ["_law_reels", "_law_one", "_law_other"] spAlike:=by
 refine F.ok scAlike (fun vs H Q E h=>?_) (fun cdv A outer s H vs Q E hr h=>?_)
 ·obtain ⟨p,a,b,prs,r,cf,cf',ks,rfl,_⟩:=h
  rfl
 obtain ⟨p,a,b,prs,r,cf,cf',ks,rfl,rl,uq,ha,hb,⟨x,hx,y,hy,xn,xf,yn,yf,el,es⟩,q⟩:=h
 refine useQ (ss_cons (s_if (t_w (w_or (t_cmp op_ne (e_call dLName hr pass0 (a_cons (e_ix ix_tup (e_v 1) e_int) a_nil)) (e_ix ix_tup (e_v 2) e_int)) (w_or1 (t_cmp (op_neD hr) (e_sl sl_tupG (e_v 1) (o_some e_int) o_none) (e_sl sl_tupG (e_v 2) (o_some e_int) o_none)))))
   (ss_one (s_ret e_bl))
   ss_nil)
  (ss_one (s_ret (e_cmp (op_eqD hr) (e_call dKeyOf hr passN (a_cons (e_v 0) (a_cons (e_ix ix_tup (e_v 1) e_int) (a_cons (e_ix ix_tup (e_v 1) e_int) a_nil)))) (e_call dKeyOf hr passN (a_cons (e_v 0) (a_cons (e_ix ix_tup (e_v 2) e_int) (a_cons (e_ix ix_tup (e_v 2) e_int) a_nil)))))))) ?_
 refine ⟨_,rfl,a,_,_,_,rfl,rfl,SqT.of ha,atI_nat (j:=0) rfl,r,rfl,fun H1 s1=>?_⟩
 have cut : ∀ z : V,cutV (z :: .int cf :: ks.map V.int) (some 2) none = ks.map V.int:=fun z=>cut_from _ 2
 have cut' : ∀ z : V,cutV (z :: .int cf' :: ks.map V.int) (some 2) none = ks.map V.int:=fun z=>cut_from _ 2
 refine ⟨_,rfl,b,_,_,_,rfl,rfl,SqT.of (s1 _ _ hb),atI_nat (j:=0) rfl,rfl,_,rfl,iteN (by simp) ?_⟩
 refine ⟨_,rfl,_,rfl,a,_,rfl,s1 _ _ ha,fun p1 H2 s2 hp1=>⟨_,rfl,_,rfl,b,_,rfl,s2 _ _ (s1 _ _ hb),fun p2 H3 s3 hp2=>?_⟩⟩
 rw [cut] at hp1
 rw [cut'] at hp2
 have S3:=(s1.trans s2).trans s3
 refine ⟨.tuple (ks.map .int),.tuple (ks.map .int),.tup (SqT.of (s3 _ _ hp1)) (denIs ks),.tup (SqT.of hp2) (denIs ks),(by simp [PyData.canLay0,layInts]),(by simp [PyData.canLay0,layInts]),?_,_,rfl,iteN ?_ ?_⟩
 ·have:=depInts ks
  simp only [PyData.depth]
  omega
 ·rw [PySem.SeqAt.eqv_refl _ (by simp [PyData.canLay0,layInts])]; rfl
 refine ⟨_,rfl,_,rfl,a,_,_,_,rfl,rfl,SqT.of (S3 _ _ ha),atI_nat (j:=0) rfl,_,rfl,a,_,_,_,rfl,rfl,SqT.of (S3 _ _ ha),atI_nat (j:=1) rfl,p,prs,r,cf,rfl,rl.same S3,fun x' hx' xn' xf' t1 H4 s4 ht1=>?_,fun x' hx' xn' xf'=>?_,fun no=>absurd xn (no x hx)⟩
 ·have ex:=uq x' hx' x hx (xn'.trans xn.symm)
  subst ex
  have S4:=S3.trans s4
  refine ⟨_,rfl,_,rfl,b,_,_,_,rfl,rfl,SqT.of (S4 _ _ hb),atI_nat (j:=0) rfl,_,rfl,b,_,_,_,rfl,rfl,SqT.of (S4 _ _ hb),atI_nat (j:=1) rfl,p,prs,nmB r,cf',rfl,rl.same S4,fun y' hy' yn' yf' t2 H5 s5 ht2=>?_,fun y' hy' yn' yf'=>?_,fun no=>absurd yn (no y hy)⟩
  ·have ey:=uq y' hy' y hy (yn'.trans yn.symm)
   subst ey
   rw [<- el,<- es] at ht2
   have lf:=(rl.2 x' hx').2.lf
   refine ⟨.tuple [.str x'.2.letters,.int (x'.2.start + cf)],.tuple [.str x'.2.letters,.int (x'.2.start + cf)],.tup (SqT.of (s5 _ _ ht1)) (.cons (.str _) (.cons (.int _) .nil)),.tup (SqT.of ht2) (.cons (.str _) (.cons (.int _) .nil)),(by simp [PyData.canLay0,PyData.canLayAll0]; exact lf),(by simp [PyData.canLay0,PyData.canLayAll0]; exact lf),(by simp [PyData.depth,PyData.depthAll]),?_⟩
   rw [PySem.SeqAt.eqv_refl _ (by simp [PyData.canLay0,PyData.canLayAll0]; exact lf)]
   exact q H5 (S4.trans s5)
  ·have ey:=uq y' hy' y hy (yn'.trans yn.symm)
   subst ey
   exact absurd yf yf'
 ·have ex:=uq x' hx' x hx (xn'.trans xn.symm)
  subst ex
  exact absurd xf xf'
end
end K38
set_option maxHeartbeats 2000000
namespace K38
open PySem L2 G DT
open IT hiding It
section
variable {P : Program} {w : World} {K : PySem.W.Frag} {mg : Str->Option Value} {base : Heap}
def endsV (cs : List Cl) : List (Str × Int × Int):=cs.flatMap fun c=>[(c.r,c.f,c.d),(c.r,c.l,c.d)]
def dE (e : Str × Int × Int) : PyData:=.tuple [.str e.1,.int e.2.1,.int e.2.2]
def EL (H : Hp) (p : Addr) (es : List (Str × Int × Int)) : Prop:=∃ us,H p = some (.lst us)/\Tds H us (es.map dE)
theorem td_e {H : Hp} {v : V} {e : Str × Int × Int} (h : Td H v (dE e)) : ∃ a,v = .ref a/\H a = some (.tup [.str e.1,.int e.2.1,.int e.2.2]):=by
 obtain ⟨a,vs,rfl,h1,h2⟩:=h.tinv
 cases h2 with | cons a1 h2=>cases h2 with | cons a2 h2=>cases h2 with | cons a3 h2=>cases h2; rw [a1.sinv,a2.iinv,a3.iinv] at h1; exact ⟨_,rfl,h1⟩
theorem mk_e {H : Hp} {a : Addr} {e : Str × Int × Int} (h : H a = some (.tup [.str e.1,.int e.2.1,.int e.2.2])) : Td H (.ref a) (dE e):=.tup h (.cons (.str _) (.cons (.int _) (.cons (.int _) .nil)))
theorem ends_len (cs : List Cl) : (endsV cs).length = 2 * cs.length:=by
 induction cs with
 | nil=>rfl
 | cons c r ih=>unfold endsV at ih ⊢; rw [List.flatMap_cons,List.length_append,ih,List.length_cons]; simp; omega
theorem ends_snoc (p : List Cl) (c : Cl) : endsV (p ++ [c]) = endsV p ++ [(c.r,c.f,c.d),(c.r,c.l,c.d)]:=by
 unfold endsV
 rw [List.flatMap_append]
 rfl
def spEnds : Sp:=fun vs H Q _=>∃ (l : Addr) (cs : List Cl),vs = [.ref l]/\CL H l cs/\cs.length <= 10000/\∀ l' H',Same H H'->H l' = none->EL H' l' (endsV cs)->Q (.ref l') H'
theorem scEnds : FnScope ["_law_clips", "_law_found", "_law_reel", "_law_first", "_law_last", "_law_fade"] ["_law_clips"] (defScope s__law_ends):=⟨rfl,rfl,rfl,by decide +kernel,rfl,by decide +kernel,by decide +kernel⟩
theorem ok_ends {f : Addr} {fd : FuncData} (F : Fun K "_law_ends" "_law_ends" s__law_ends f fd) : FnOk P w K mg base CX0 1 f fd ["_law_clips"] spEnds:=by
 refine F.ok scEnds (fun vs H Q E h=>?_) (fun cdv A outer s H vs Q E hr h=>?_)
 ·obtain ⟨l,cs,rfl,_⟩:=h
  rfl
 obtain ⟨ls,cs,rfl,⟨us,hus,tus⟩,hlen,q⟩:=h
 refine useQ (ss_cons (s_set (i:=1) scEnds.nd (e_lst a_nil))
  (ss_cons (s_for PassesOwn.never rfl (i_list (e_v 0)) (g_tup rfl (gs_cons (g_name (i:=2) scEnds.nd) (gs_cons (g_name (i:=3) scEnds.nd) (gs_cons (g_name (i:=4) scEnds.nd) (gs_cons (g_name (i:=5) scEnds.nd) gs_nil)))))
   (ss_one (s_set (i:=1) scEnds.nd (e_op op_cat (e_v 1) (e_lst (a_cons (e_tup (a_cons (e_v 2) (a_cons (e_v 3) (a_cons (e_v 5) a_nil)))) (a_cons (e_tup (a_cons (e_v 2) (a_cons (e_v 4) (a_cons (e_v 5) a_nil)))) a_nil)))))))
  (ss_one (s_ret (e_v 1))))) ?_
 have zl : sizeLine = 16777216:=sizeLine_eq
 have lu : us.length = cs.length:=by rw [tus.len,List.length_map]
 refine ⟨(by show 0 <= sizeLine; decide),fun pm hpm=>?_⟩
 have s0:=Same.new hpm (.lst [])
 refine ⟨_,rfl,ls,rfl,⟨_,SqL.of (s0 _ _ hus)⟩,for_list (K:=K) (a:=ls) (xs:=us) (fun i σ H'=>∃ (pm : Addr) (o3 o4 o5 o6 : Option V),σ = [some (.ref ls),some (.ref pm),o3,o4,o5,o6]/\H pm = none/\EL H' pm (endsV (cs.take i))/\Same H H') ⟨pm,none,none,none,none,rfl,hpm,⟨[],upd_same,by rw [List.take_zero]; exact .nil⟩,s0⟩ (fun i σ H' _ ⟨_,_,_,_,_,_,_,_,sm⟩=>SqL.of (sm _ _ hus)) ?_ ?_⟩
 ·rintro i v σ H' hv ⟨pm,o3,o4,o5,o6,rfl,hpm,⟨ws,hws,tws⟩,sm⟩
  obtain ⟨dd,hd,tv⟩:=(tus.tk (TK.of sm)).get hv
  obtain ⟨c,hc,rfl⟩:=c_get hd
  obtain ⟨t,rfl,ht⟩:=td_cl tv
  have lw : ws.length = 2 * (cs.take i).length:=by rw [tws.len,List.length_map,ends_len]
  have lt:=List.length_take_le' i cs
  refine ⟨t,_,rfl,SqT.of ht,rfl,_,_,rfl,_,_,rfl,_,_,rfl,_,_,rfl,rfl,?_⟩
  refine ⟨_,rfl,_,rfl,_,rfl,_,rfl,(by show 3 <= sizeLine; decide),fun p1 hp1=>⟨_,rfl,_,rfl,_,rfl,(by show 3 <= sizeLine; decide),fun p2 hp2=>⟨(by show 2 <= sizeLine; decide),fun p3 hp3=>?_⟩⟩⟩
  have t1:=Same.new hp1 (.tup [.str c.r,.int c.f,.int c.d])
  have t2:=Same.new hp2 (.tup [.str c.r,.int c.l,.int c.d])
  have t3:=Same.new hp3 (.lst [.ref p1,.ref p2])
  refine ⟨pm,p3,_,_,rfl,rfl,t3 _ _ (t2 _ _ (t1 _ _ hws)),upd_same,by show ws.length + 2 <= sizeLine; omega,fun p4 hp4=>?_⟩
  have t4:=Same.new hp4 (.lst (ws ++ [.ref p1,.ref p2]))
  have T:=((t1.trans t2).trans t3).trans t4
  refine ⟨p4,_,_,_,_,rfl,(sm.trans ((t1.trans t2).trans t3)).free hp4,⟨_,upd_same,?_⟩,sm.trans T⟩
  rw [take_snoc hc,ends_snoc,List.map_append]
  refine (tws.tk (TK.of T)).app (.cons (mk_e (e:=(c.r,c.f,c.d)) ?_) (.cons (mk_e (e:=(c.r,c.l,c.d)) ?_) .nil))
  ·exact (t2.trans (t3.trans t4)) _ _ upd_same
  ·exact (t3.trans t4) _ _ upd_same
 ·rintro σ H' ⟨pm,o3,o4,o5,o6,rfl,hpm,cl,sm⟩
  rw [lu,List.take_length] at cl
  exact ⟨_,rfl,q pm H' sm hpm cl⟩
end
end K38
set_option maxHeartbeats 2000000
namespace K38
open PySem L2 G DT
open IT hiding It
theorem inj_nodup {α β : Type} (f : α->β) : ∀ (l : List α),(l.map f).Nodup->∀ x ∈ l,∀ y ∈ l,f x = f y->x = y
 | [],_=>fun x hx=>nomatch hx
 | z :: r,h=>by
  rw [List.map_cons,List.nodup_cons] at h
  intro x hx y hy e
  rcases List.mem_cons.mp hx with rfl | ux <;> rcases List.mem_cons.mp hy with rfl | uy
  ·rfl
  ·exact absurd (e ▸ List.mem_map.mpr ⟨y,uy,rfl⟩) h.1
  ·exact absurd (e ▸ List.mem_map.mpr ⟨x,ux,rfl⟩) h.1
  ·exact inj_nodup f r h.2 x ux y uy e
theorem nm_cases {l : List Str} (h : l ∈ nmAll) : l = [("a" : Str), "bo", "reel"] \/ l = [("a" : Str), "bo", "reel", "zz"] \/ l = [("bo" : Str), "a", "reel"] \/ l = [("bo" : Str), "a", "reel", "zz"]:=by
 unfold nmAll at h
 simpa only [List.mem_cons,List.not_mem_nil,or_false] using h
theorem nm_nd {l : List Str} (h : l ∈ nmAll) : l.Nodup:=by rcases nm_cases h with rfl | rfl | rfl | rfl <;> decide +kernel
theorem nm_a {l : List Str} (h : l ∈ nmAll) : ("a" : Str) ∈ l:=by rcases nm_cases h with rfl | rfl | rfl | rfl <;> decide +kernel
theorem nm_b {l : List Str} (h : l ∈ nmAll) : ("bo" : Str) ∈ l:=by rcases nm_cases h with rfl | rfl | rfl | rfl <;> decide +kernel
theorem nm_l {l : List Str} (h : l ∈ nmAll) : l.length <= 4:=by rcases nm_cases h with rfl | rfl | rfl | rfl <;> decide +kernel
theorem uq_of {prs : List (Addr × Reel)} (h : prs.map (fun x=>x.2.name) ∈ nmAll) : Uq prs:=fun x hx y hy e=>inj_nodup (fun x : Addr × Reel=>x.2.name) prs (nm_nd h) x hx y hy e
theorem at_nm {prs : List (Addr × Reel)} {n : Str} (h : n ∈ prs.map (fun x=>x.2.name)) : ∃ o ∈ prs,o.2.name = n:=by
 obtain ⟨o,ho,e⟩:=List.mem_map.mp h
 exact ⟨o,ho,e⟩
theorem PG.nd {H : Hp} {prs : List (Addr × Reel)} {ps : List Pt} (h : PG H prs ps) : (ps.map (·.1)).Nodup:=by
 rw [h.nm]
 exact (show pnms.Nodup by decide +kernel).sublist (List.take_sublist _ _)
theorem keys_of (ps : List Pt) : ((kvsOf ps).map fun p=>kV p.1) = (ps.map (·.1)).map V.str:=by
 unfold kvsOf
 rw [List.map_map,List.map_map]
 rfl
mutual
theorem UI.sub {T : Str->Int->Int->Prop} {N N' : List Str} (s : ∀ n ∈ N,n ∈ N') : ∀ {x : IT.It},UI T N x->UI T N' x
 | _,.clip a b=>.clip a b
 | _,.times a b h=>.times a b (h.sub s)
 | _,.back h=>.back (h.sub s)
 | _,.part f h=>.part f (s _ h)
theorem UL.sub {T : Str->Int->Int->Prop} {N N' : List Str} (s : ∀ n ∈ N,n ∈ N') : ∀ {xs : List IT.It},UL T N xs->UL T N' xs
 | _,.one h=>.one (h.sub s)
 | _,.cons h t=>.cons (h.sub s) (t.sub s)
 | _,.fade z h t=>.fade z (h.sub s) (t.sub s)
end
theorem gd_of {T : Str->Int->Int->Prop} {ps : List Pt} (nd : (ps.map (·.1)).Nodup) (h : ∀ (j : Nat) (x : Pt),ps[j]? = some x->UL T ((ps.map (·.1)).take j) x.2.2/\dpL x.2.2 <= 2) : ∀ i,i <= ps.length->Gd T (ps.take i).reverse
 | 0,_=>by rw [List.take_zero]; exact .nil
 | i + 1,hi=>by
  have hx : ps[i]? = some ps[i]:=List.getElem?_eq_getElem (by omega)
  generalize ps[i] = x at hx
  rw [take_snoc hx,List.reverse_append]
  refine .cons (r:=(ps.take i).reverse) ((h i x hx).1.sub fun n hn=>?_) (fun hn=>?_) (h i x hx).2 (gd_of nd h i (by omega))
  ·rw [List.map_reverse,List.mem_reverse,List.map_take]; exact hn
  ·rw [List.map_reverse,List.mem_reverse] at hn
   exact nd_take nd hx hn
theorem gd_all {T : Str->Int->Int->Prop} {ps : List Pt} (nd : (ps.map (·.1)).Nodup) (h : ∀ (j : Nat) (x : Pt),ps[j]? = some x->UL T ((ps.map (·.1)).take j) x.2.2/\dpL x.2.2 <= 2) : Gd T ps.reverse:=by
 have:=gd_of nd h ps.length (Nat.le_refl _)
 rwa [List.take_length] at this
theorem pm_of {g : Mv} {ps ps' : List Pt} (hl : ps'.length = ps.length) (h : ∀ (j : Nat) (x : Pt),ps[j]? = some x->∃ y : Pt,ps'[j]? = some y/\y.1 = x.1/\y.2.2 = mL g x.2.2) : ∀ i,i <= ps.length->PM g (ps.take i) (ps'.take i)
 | 0,_=>by rw [List.take_zero,List.take_zero]; exact .nil
 | i + 1,hi=>by
  have hx : ps[i]? = some ps[i]:=List.getElem?_eq_getElem (by omega)
  generalize ps[i] = x at hx
  obtain ⟨y,hy,e1,e2⟩:=h i x hx
  rw [take_snoc hx,take_snoc hy]
  exact (pm_of hl h i (by omega)).app (.cons e1 e2 .nil)
theorem pm_all {g : Mv} {ps ps' : List Pt} (hl : ps'.length = ps.length) (h : ∀ (j : Nat) (x : Pt),ps[j]? = some x->∃ y : Pt,ps'[j]? = some y/\y.1 = x.1/\y.2.2 = mL g x.2.2) : PM g ps.reverse ps'.reverse:=by
 have:=pm_of hl h ps.length (Nat.le_refl _)
 rw [List.take_length,<- hl,List.take_length] at this
 exact this.rev
theorem env_d {T : Str->Int->Int->Prop} : ∀ {r : List Pt},Gd T r->∀ x ∈ r,dL (env r x.1) = dL x.2.2
 | _,.cons (x:=y) (r:=r) _ nn _ g,x,hx=>by
  rcases List.mem_cons.mp hx with rfl | hx
  ·rw [env,if_pos rfl,fi_dL]
  ·rw [env_new nn (List.mem_map.mpr ⟨x,hx,rfl⟩)]
   exact env_d g x hx
theorem val_at : ∀ {ps : List Pt},(ps.map (·.1)).Nodup->∀ x ∈ ps,valV (kvsOf ps) (.inr x.1 : Key) = some (.ref x.2.1)
 | y :: r,nd,x,hx=>by
  rw [List.map_cons,List.nodup_cons] at nd
  rcases List.mem_cons.mp hx with rfl | hx
  ·unfold kvsOf valV
   rw [List.map_cons,List.find?_cons_of_pos (by simp)]
   rfl
  ·have ih:=val_at nd.2 x hx
   have ne : y.1 ≠ x.1:=fun e=>nd.1 (by rw [e]; exact List.mem_map.mpr ⟨x,hx,rfl⟩)
   unfold kvsOf valV at ih ⊢
   rw [List.map_cons,List.find?_cons_of_neg (by simp; exact fun z=>ne z)]
   exact ih
theorem pr_of {T : Str->Int->Int->Prop} {H : Hp} {d : Addr} {ps : List Pt} (gd : Gd T ps.reverse) (nd : (ps.map (·.1)).Nodup) (rd : Rd H d (.dK (kvsOf ps))) (td : ∀ x ∈ ps,Td H (.ref x.2.1) (.tuple (dL x.2.2))) : PR H d (Gn ps.reverse):=by
 refine ⟨_,rd,fun n ys g=>?_⟩
 obtain ⟨h,rfl⟩:=g
 obtain ⟨x,hx,rfl⟩:=List.mem_map.mp h
 refine ⟨x.2.1,val_at nd x (List.mem_reverse.mp hx),?_⟩
 rw [env_d gd x hx]
 exact td x (List.mem_reverse.mp hx)
def Mk (prs : List (Addr × Reel)) (o t : Reel) (r : Str) (f l : Int) : Prop:=Ck prs r f l/\Al o t r f l
theorem mk_sy {prs : List (Addr × Reel)} {o t : Reel} (r : Str) (f l : Int) (h : Mk prs o t r f l) : Mk prs o t r l f:=by
 obtain ⟨⟨x,hx,e,a,b,c,d⟩,k⟩:=h
 exact ⟨⟨x,hx,e,c,d,a,b⟩,fun z=>⟨(k z).1,(k z).2.2,(k z).2.1⟩⟩
theorem ck_to {prs : List (Addr × Reel)} {o t : Addr × Reel} (ht : t ∈ prs) (r : Str) (f l : Int) (h : Ck prs r f l) (a : Al o.2 t.2 r f l) : Ck prs ((mv o.2 t.2).nm r) ((mv o.2 t.2).at r f) ((mv o.2 t.2).at r l):=by
 unfold Mv.nm Mv.at
 by_cases e : r = (mv o.2 t.2).o
 ·rw [if_pos e,if_pos e,if_pos e]
  obtain ⟨_,b,c⟩:=a e
  exact ⟨t,ht,rfl,b.1,b.2,c.1,c.2⟩
 ·rw [if_neg e,if_neg e,if_neg e]
  exact h
theorem lk_of {prs : List (Addr × Reel)} {o t : Addr × Reel} (uq : Uq prs) (ho : o ∈ prs) (ht : t ∈ prs) (hon : o.2.name = "a") (htn : t.2.name = "bo") {r : Str} {f l n : Int} (h : Mk prs o.2 t.2 r f l) (b : (f <= n/\n <= l) \/ (l <= n/\n <= f)) :
  Lk prs r n (nmB r) ((mv o.2 t.2).at r n)/\(mv o.2 t.2).nm r = nmB r:=by
 obtain ⟨⟨x,hx,e,a1,a2,a3,a4⟩,k⟩:=h
 unfold nmB Mv.at Mv.nm
 by_cases z : r = (mv o.2 t.2).o
 ·have z' : r = o.2.name:=z
  have ra : r = "a":=z'.trans hon
  rw [if_pos z,if_pos ra,if_pos z]
  obtain ⟨k1,k2,k3⟩:=k z'
  have ex:=uq x hx o ho (e.trans z')
  subst ex
  unfold has at k2 k3
  refine ⟨⟨x,hx,t,ht,e,⟨by omega,by omega⟩,htn,⟨?_,?_⟩,k1,?_⟩,htn⟩
  ·show 0 <= n + (x.2.start - t.2.start); omega
  ·show n + (x.2.start - t.2.start) < t.2.many; omega
  ·show x.2.start + n = t.2.start + (n + (x.2.start - t.2.start)); omega
 ·have ra : r ≠ "a":=fun q=>z (q.trans hon.symm)
  rw [if_neg z,if_neg ra,if_neg z]
  exact ⟨⟨x,hx,x,hx,e,⟨by omega,by omega⟩,e,⟨by omega,by omega⟩,rfl,rfl⟩,rfl⟩
theorem fr_pos (c : Cl) : 1 <= frC c:=by unfold frC; split <;> omega
theorem frS_nn : ∀ cs : List Cl,0 <= frS cs
 | []=>Int.le_refl 0
 | c :: r=>by have:=frS_nn r; have:=fr_pos c; unfold frS at *; rw [List.map_cons,List.sum_cons]; omega
theorem fr_le : ∀ {cs : List Cl} {c : Cl},c ∈ cs->frC c <= frS cs
 | x :: r,c,h=>by
  have h1:=frS_nn r
  have h2:=fr_pos x
  unfold frS at *
  rw [List.map_cons,List.sum_cons]
  rcases List.mem_cons.mp h with rfl | h
  ·omega
  ·have:=fr_le h
   unfold frS at this
   omega
theorem d_first {cs : List Cl} (h : setF 0 cs = cs) : ∀ c,cs[0]? = some c->c.d = 0:=by
 cases cs with
 | nil=>intro c z; cases z
 | cons x r =>
  intro c z
  cases z
  rw [setF] at h
  have:=(List.cons.inj h).1
  rw [<- this]
theorem sm_of {prs : List (Addr × Reel)} (hr : ∀ x ∈ prs,ROk x.2) {c : Cl} (h : Ck prs c.r c.f c.l) : KS.Sm (toK c):=by
 obtain ⟨x,hx,_,a,b,c',d⟩:=h
 have:=(hr x hx).m2
 refine ⟨a,?_,c',?_⟩
 ·show c.f <= 1000000; omega
 ·show c.l <= 1000000; omega
mutual
theorem dp_mI (g : Mv) : ∀ x : IT.It,dpI (mI g x) = dpI x
 | .clip r f l=>by rw [mI,dpI,dpI]
 | .times m xs=>by rw [mI,dpI,dpI,dp_mL g xs]
 | .back xs=>by rw [mI,dpI,dpI,dp_mL g xs]
 | .part n xs=>by rw [mI,dpI,dpI,dp_mL g xs]
 | .fade m=>by rw [mI]
theorem dp_mL (g : Mv) : ∀ xs : List IT.It,dpL (mL g xs) = dpL xs
 | []=>by rw [mL]
 | x :: r=>by rw [mL,dpL,dpL,dp_mI g x,dp_mL g r]
end
structure Pl (prs : List (Addr × Reel)) (ps : List Pt) (xs : List IT.It) : Prop where
 gd : Gd (Ck prs) ps.reverse
 nd : (ps.map (·.1)).Nodup
 wl : WL (fiL (env ps.reverse) xs)
 hl : hL (Ck prs) (Gn ps.reverse) (fiL (env ps.reverse) xs)
 dp : dpL (fiL (env ps.reverse) xs) <= 11
 len : ps.length <= 3
theorem pl_of {prs : List (Addr × Reel)} {ps : List Pt} {xs : List IT.It} (nd : (ps.map (·.1)).Nodup) (hl : ps.length <= 3) (h : ∀ (j : Nat) (x : Pt),ps[j]? = some x->UL (Ck prs) ((ps.map (·.1)).take j) x.2.2/\dpL x.2.2 <= 2) (hx : UL (Ck prs) (ps.map (·.1)) xs) (hd : dpL xs <= 5) : Pl prs ps xs:=by
 have gd:=gd_all nd h
 have hx' : UL (Ck prs) (ps.reverse.map (·.1)) xs:=hx.sub fun n hn=>by rw [List.map_reverse,List.mem_reverse]; exact hn
 refine ⟨gd,nd,hx'.w gd.wl,hx'.h fun n hn=>⟨hn,rfl⟩,?_,hl⟩
 have:=fi_dpL (b:=2 * ps.reverse.length) gd.dp xs
 rw [List.length_reverse] at this
 omega
theorem Pl.sp {K : PySem.W.Frag} {prs : List (Addr × Reel)} {ps : List Pt} {xs : List IT.It} (h : Pl prs ps xs) {H : Hp} {a d lr : Addr} {Q : VK} {E : XK} (ta : Td H (.ref a) (.tuple (dL xs))) (rd : Rd H d (.dK (kvsOf ps))) (td : ∀ x ∈ ps,Td H (.ref x.2.1) (.tuple (dL x.2.2))) (rl : RL H lr prs) (uq : Uq prs)
  (q : PlQ (flL (fiL (env ps.reverse) xs)) H Q) : spLPlayed [.ref a,.ref d,.ref lr] H Q E :=
 ⟨a,d,lr,fiL (env ps.reverse) xs,Gn ps.reverse,ps.reverse.map (·.1),prs,rfl,by rw [fi_dL]; exact ta,h.wl,h.hl,pr_of h.gd h.nd rd td,h.gd.pa (by rw [List.length_reverse]; have:=h.len; omega),rl,uq,h.dp,q⟩
structure Two (prs : List (Addr × Reel)) (o t : Reel) (cs : List Cl) : Prop where
 cg : Cgs (Mk prs o t) cs
 d0 : setF 0 cs = cs
theorem two_of {prs : List (Addr × Reel)} {o t : Addr × Reel} {H : Hp} {ps ps' : List Pt} {xs ys : List IT.It} (ft : Fine t.2.name) (ht : t ∈ prs) (pg : PG H prs ps) (hx : UL (Ck prs) (ps.map (·.1)) xs) (hd : dpL xs <= 5) (hys : ovL o.2 t.2 xs = .inr ys) (hop : OvP o.2 t.2 ps ps') :
  Pl prs ps xs/\Pl prs ps' ys/\Two prs o.2 t.2 (flL (fiL (env ps.reverse) xs))/\flL (fiL (env ps'.reverse) ys) = (flL (fiL (env ps.reverse) xs)).map (mv o.2 t.2).c:=by
 have nd:=pg.nd
 have tk : ∀ j,pnms.take j = (pnms.take j):=fun _=>rfl
 have ul : ∀ (j : Nat) (x : Pt),ps[j]? = some x->UL (Ck prs) ((ps.map (·.1)).take j) x.2.2/\dpL x.2.2 <= 2:=fun j x e=>by
  have hj:=(List.getElem?_eq_some_iff.mp e).1
  refine ⟨?_,(pg.td x (List.mem_of_getElem? e)).2.2.1⟩
  rw [pg.nm,List.take_take,Nat.min_eq_left (by omega)]
  exact pg.ul j x e
 have key : ∀ (j : Nat) (x : Pt),ps[j]? = some x->∃ y : Pt,ps'[j]? = some y/\y.1 = x.1/\y.2.2 = mL (mv o.2 t.2) x.2.2/\UL (fun r f l=>Ck prs r f l/\Al o.2 t.2 r f l) ((ps.map (·.1)).take j) x.2.2/\UL (Ck prs) ((ps.map (·.1)).take j) y.2.2:=fun j x e=>by
  obtain ⟨y,h1,h2,h3⟩:=hop.2 j x e
  obtain ⟨a,b,c⟩:=ov_UL ft (ck_to ht) (ul j x e).1 h3
  exact ⟨y,h1,h2,a,b,c⟩
 obtain ⟨ea,eb,ec⟩:=ov_UL ft (ck_to ht) hx hys
 have nm:=hop.names
 have pm:=pm_all hop.1 fun j x e=>by obtain ⟨y,a,b,c,_⟩:=key j x e; exact ⟨y,a,b,c⟩
 have gm : Gd (Mk prs o.2 t.2) ps.reverse:=gd_all nd fun j x e=>by obtain ⟨y,_,_,_,c,_⟩:=key j x e; exact ⟨c,(ul j x e).2⟩
 have p1:=pl_of nd pg.len ul hx hd
 have p2 : Pl prs ps' ys:=by
  refine pl_of (by rw [nm]; exact nd) (by rw [hop.1]; exact pg.len) (fun j y e=>?_) (by rw [nm]; exact ec) (by rw [ea,dp_mL]; exact hd)
  have hj : j < ps.length:=by rw [<- hop.1]; exact (List.getElem?_eq_some_iff.mp e).1
  obtain ⟨y',a,_,c,_,u⟩:=key j ps[j] (List.getElem?_eq_getElem hj)
  rw [e] at a
  cases a
  rw [nm]
  exact ⟨u,by rw [c,dp_mL]; exact (ul j _ (List.getElem?_eq_getElem hj)).2⟩
 refine ⟨p1,p2,⟨?_,p1.wl.h0.1.2⟩,?_⟩
 ·refine cgL mk_sy gm.ok (eb.h fun n hn=>⟨?_,rfl⟩)
  rw [List.map_reverse,List.mem_reverse]
  exact hn
 ·rw [ea,show env ps'.reverse = fun n=>mL (mv o.2 t.2) (env ps.reverse n) from funext (env_m _ pm),fi_mL,fl_m]
end K38
set_option maxHeartbeats 4000000
namespace K38
open PySem L2 G DT
open IT hiding It
theorem ends_m (g : Mv) (cs : List Cl) : endsV (cs.map g.c) = (endsV cs).map fun e=>(g.nm e.1,g.at e.1 e.2.1,e.2.2):=by
 unfold endsV
 induction cs with
 | nil=>rfl
 | cons c r ih=>rw [List.map_cons,List.flatMap_cons,List.flatMap_cons,List.map_append,ih]; rfl
theorem ends_mem {cs : List Cl} {e : Str × Int × Int} (h : e ∈ endsV cs) : ∃ c ∈ cs,e.1 = c.r/\(e.2.1 = c.f \/ e.2.1 = c.l):=by
 unfold endsV at h
 obtain ⟨c,hc,he⟩:=List.mem_flatMap.mp h
 simp only [List.mem_cons,List.not_mem_nil,or_false] at he
 rcases he with rfl | rfl
 ·exact ⟨c,hc,rfl,.inl rfl⟩
 ·exact ⟨c,hc,rfl,.inr rfl⟩
theorem d_get {es : List (Str × Int × Int)} {i : Nat} {d : PyData} (h : (es.map dE)[i]? = some d) : ∃ e,es[i]? = some e/\d = dE e:=by
 rw [List.getElem?_map] at h
 cases z : es[i]? with
 | none=>rw [z] at h; cases h
 | some e=>rw [z] at h; exact ⟨e,rfl,(Option.some.inj h).symm⟩
theorem m_get {S : List (List KS.Frm)} {i : Nat} {d : PyData} (h : (S.map momD)[i]? = some d) : ∃ m,S[i]? = some m/\d = momD m:=by
 rw [List.getElem?_map] at h
 cases z : S[i]? with
 | none=>rw [z] at h; cases h
 | some e=>rw [z] at h; exact ⟨e,rfl,(Option.some.inj h).symm⟩
theorem f_get {m : List KS.Frm} {i : Nat} {d : PyData} (h : (m.map KS.Frm.d)[i]? = some d) : ∃ f,m[i]? = some f/\d = f.d:=by
 rw [List.getElem?_map] at h
 cases z : m[i]? with
 | none=>rw [z] at h; cases h
 | some e=>rw [z] at h; exact ⟨e,rfl,(Option.some.inj h).symm⟩
theorem all_true (n : Nat) : (List.replicate n true).all id = true:=by
 induction n with
 | zero=>rfl
 | succ n ih=>rw [List.replicate_succ,List.all_cons,ih]; rfl
section
variable {P : Program} {w : World} {K : PySem.W.Frag} {mg : Str->Option Value} {base : Heap}
def spLaw (K : PySem.W.Frag) : Sp:=fun vs H Q _=>∃ (a : Addr) (ns : List Int),vs = [.ref a]/\SqL K H a (ns.map V.int)/\ns.length <= 63/\∀ H',Q (.bl true) H'
theorem scLaw : FnScope ["_law_script", "_law_reels", "_law_parts_here", "_law_items", "_law_over_here", "_law_word", "_law_clips", "_law_other_word", "_law_others", "_law_pairs", "_law_film", "_law_moved", "_law_one", "_law_other"] ["_law_script"] (defScope s_law):=⟨rfl,rfl,rfl,by decide +kernel,rfl,by decide +kernel,by decide +kernel⟩
theorem ok_law {f : Addr} {fd : FuncData} (F : Fun K "law" "law" s_law f fd) (dCell : Def P w K mg base CX0 "_law_cell" 1 ["_law_script", "_law_k"] (spCell K)) (dPair : Def P w K mg base CX0 "_law_pair" 2 ["_law_cell_here"] spPair)
  (dParts : Def P w K mg base CX0 "_law_parts" 12 ["_law_script", "_law_at", "_law_reels"] (spParts (K:=K))) (dList : Def P w K mg base CX0 "_law_list" 11 ["_law_cells", "_law_reels", "_law_names", "_law_deep"] (spList 4)) (dOverL : Def P w K mg base CX0 "_law_over" 13 ["_law_items", "_law_parts_here", "_law_reels"] spOverL)
  (dLPlayed : Def P w K mg base CX0 "_law_played" 32 ["_law_items", "_law_parts_here", "_law_reels"] spLPlayed) (dEnds : Def P w K mg base CX0 "_law_ends" 1 ["_law_clips"] spEnds) (dAlike : Def P w K mg base CX0 "_law_alike" 5 ["_law_reels", "_law_one", "_law_other"] spAlike) (dShown : Def P w K mg base CX0 "shown" 4 ["clips"] spShown)
  (n_list : mg "list" = none) (n_dict : mg "dict" = none) (n_zip : mg "zip" = none) (n_len : mg "len" = none) (n_all : mg "all" = none) : FnOk P w K mg base CX0 33 f fd ["_law_script"] (spLaw K):=by
 refine F.ok scLaw (fun vs H Q E h=>?_) (fun cdv A outer s H vs Q E hr h=>?_)
 ·obtain ⟨a,ns,rfl,_⟩:=h
  rfl
 obtain ⟨a,ns,rfl,hS,hn63,q⟩:=h
 refine useQ (ss_cons (s_setc (i:=1) scLaw.nd (e_call dPair hr pass0 (a_cons (e_call dCell hr pass0 (a_cons (e_v 0) (a_cons e_int a_nil))) a_nil)))
  (ss_cons (s_set (i:=2) scLaw.nd (e_call dParts hr pass0 (a_cons (e_v 0) (a_cons e_int (a_cons (e_c 1) a_nil)))))
  (ss_cons (s_set (i:=3) scLaw.nd (e_call dList hr pass0 (a_cons (e_sl sl_list (e_v 0) (o_some e_int) (o_some e_int)) (a_cons (e_c 1) (a_cons (e_t (call_listD rfl) n_list (by decide +kernel) (a_cons (e_v 2) a_nil)) (a_cons e_int a_nil))))))
  (ss_cons (s_set (i:=4) scLaw.nd (e_call dOverL hr pass0 (a_cons (e_v 3) (a_cons (e_t call_dictDR n_dict (by decide +kernel) (a_cons (e_v 2) a_nil)) (a_cons (e_c 1) a_nil)))))
  (ss_cons (s_if (t_isN (e_v 4))
   (ss_one (s_ret e_bl))
   ss_nil)
  (ss_cons (s_asg (e_call dLPlayed hr pass0 (a_cons (e_v 3) (a_cons (e_v 2) (a_cons (e_c 1) a_nil)))) (g_tup rfl (gs_cons (g_name (i:=5) scLaw.nd) (gs_cons (g_name (i:=6) scLaw.nd) gs_nil))))
  (ss_cons (s_asg (e_call dLPlayed hr pass0 (a_cons (e_ix ix_tup (e_v 4) e_int) (a_cons (e_ix ix_tup (e_v 4) e_int) (a_cons (e_c 1) a_nil)))) (g_tup rfl (gs_cons (g_name (i:=7) scLaw.nd) (gs_cons (g_name (i:=8) scLaw.nd) gs_nil))))
  (ss_cons (s_if (t_w (w_or (t_cmp op_ne (e_v 5) (e_v 7)) (w_or1 (t_cmp op_ne (e_v 5) e_str))))
   (ss_one (s_ret (e_and (e_cmp op_eq (e_v 5) (e_v 7)) (e_one (e_cmp (op_eqD hr) (e_v 6) (e_v 8))))))
   ss_nil)
  (ss_cons (s_set (i:=9) scLaw.nd (e_lzip rfl n_list n_zip (e_call dEnds hr pass0 (a_cons (e_v 6) a_nil)) (e_call dEnds hr pass0 (a_cons (e_v 8) a_nil))))
  (ss_cons (s_if (t_w (w_or (t_cmp op_ne (e_b call_len_seq n_len PySem.boot_len (a_cons (e_v 6) a_nil)) (e_b call_len_seq n_len PySem.boot_len (a_cons (e_v 8) a_nil))) (w_or1 (t_not (t_val (e_b call_all n_all PyProof.Rows.boot_all (a_cons (e_compT ["_law_one", "_law_other"] ["_law_reels"] [1] [("_law_reels",s.heap.objs.size + 1)] rfl ⟨rfl,rfl,rfl,rfl,trivial⟩ ⟨rfl,trivial⟩ (i_list (e_v 9)) (fun _ _ _ _=>(g_tupK (K:=K) (n:=2) rfl rfl (gs_cons (g_nm (i:=0) (by decide +kernel : List.Nodup ((["_law_one", "_law_other"] : List Str) ++ (["_law_reels"] : List Str)))) (gs_cons (g_nm (i:=1) (by decide +kernel : List.Nodup ((["_law_one", "_law_other"] : List Str) ++ (["_law_reels"] : List Str)))) gs_nil)))) (fun _ _ _ _=>(e_call dAlike hr pass0 (a_cons (e_n 2) (a_cons (e_n 0) (a_cons (e_n 1) a_nil)))))) a_nil)))))))
   (ss_one (s_ret e_bl))
   ss_nil)
  (ss_cons (s_set (i:=10) scLaw.nd (e_call dShown hr pass0 (a_cons (e_v 6) a_nil)))
  (ss_cons (s_set (i:=11) scLaw.nd (e_call dShown hr pass0 (a_cons (e_v 8) a_nil)))
  (ss_cons (s_if (t_cmp op_ne (e_b call_len_seq n_len PySem.boot_len (a_cons (e_v 10) a_nil)) (e_b call_len_seq n_len PySem.boot_len (a_cons (e_v 11) a_nil)))
   (ss_one (s_ret e_bl))
   ss_nil)
  (ss_cons (s_for PassesOwn.never rfl (i_zip n_zip (e_v 10) (e_v 11)) (g_tup rfl (gs_cons (g_name (i:=12) scLaw.nd) (gs_cons (g_name (i:=13) scLaw.nd) gs_nil)))
   (ss_cons (s_if (t_cmp op_ne (e_b call_len_seq n_len PySem.boot_len (a_cons (e_v 12) a_nil)) (e_b call_len_seq n_len PySem.boot_len (a_cons (e_v 13) a_nil)))
    (ss_one (s_ret e_bl))
    ss_nil)
   (ss_one (s_if (t_not (t_val (e_b call_all n_all PyProof.Rows.boot_all (a_cons (e_compT ["_law_frame", "_law_there"] ["_law_reels"] [1] [("_law_reels",s.heap.objs.size + 1)] rfl ⟨rfl,rfl,rfl,rfl,trivial⟩ ⟨rfl,trivial⟩ (i_zipT n_zip (e_v 12) (e_v 13)) (fun _ _ _ _=>(g_tupK (K:=K) (n:=2) rfl rfl (gs_cons (g_nm (i:=0) (by decide +kernel : List.Nodup ((["_law_frame", "_law_there"] : List Str) ++ (["_law_reels"] : List Str)))) (gs_cons (g_nm (i:=1) (by decide +kernel : List.Nodup ((["_law_frame", "_law_there"] : List Str) ++ (["_law_reels"] : List Str)))) gs_nil)))) (fun _ _ _ _=>(e_call dAlike hr pass0 (a_cons (e_n 2) (a_cons (e_n 0) (a_cons (e_n 1) a_nil)))))) a_nil))))
    (ss_one (s_ret e_bl))
    ss_nil))))
  (ss_one (s_ret e_bl)))))))))))))))) ?_
 have zl : sizeLine = 16777216:=sizeLine_eq
 refine ⟨_,rfl,a,ns,0,rfl,hS,_,rfl,fun lr prs H1 s1 hlr0 rl hnm=>?_⟩
 have uq:=uq_of hnm
 have hpl : prs.length <= 4:=by have:=nm_l hnm; rwa [List.length_map] at this
 obtain ⟨o,ho,hon⟩:=at_nm (nm_a hnm)
 obtain ⟨t,ht,htn⟩:=at_nm (nm_b hnm)
 have hne : prs ≠ []:=List.ne_nil_of_mem ho
 refine ⟨_,rfl,_,rfl,a,lr,ns,prs,rfl,s1.seq hS,hn63,rl,hne,by omega,fun d ps H3 s3 hd0 hd3 pg=>?_⟩
 have S3:=s1.trans s3
 obtain ⟨ce,ecs,lcs⟩:=cut_ints ns (some 8) (some 24)
 refine ⟨_,rfl,_,rfl,_,rfl,a,_,rfl,S3.seq hS,fun pc hpc=>?_⟩
 rw [ecs]
 have t1:=Same.new hpc (.lst (ce.map V.int))
 have hpc1:=upd_same (H:=H3) (a:=pc) (o:=.lst (ce.map V.int))
 generalize upd H3 pc (.lst (ce.map V.int)) = H4 at t1 hpc1 ⊢
 refine ⟨_,rfl,_,rfl,d,_,rfl,.inl (t1 _ _ hd3),fun pn hpn=>?_⟩
 rw [keys_of]
 have t2:=Same.new hpn (.lst ((ps.map (·.1)).map V.str))
 have T2:=t1.trans t2
 refine ⟨pc,lr,pn,4,ce,prs,ps.map (·.1),rfl,by decide,t2 _ _ hpc1,by omega,(rl.same s3).same T2,hne,by omega,upd_same,pg.fine,(by rw [List.length_map]; have:=pg.len; omega),fun ai xs H5 s5 hai htd gx dx wx=>?_⟩
 have T5:=T2.trans s5
 have hd5:=T5 _ _ hd3
 have pg5:=pg.same (TK.of T5)
 have rl5:=rl.same (s3.trans T5)
 have hw : wL xs <= 1000:=by omega
 have hpl3:=pg.len
 have nd:=pg.nd
 refine ⟨_,rfl,_,rfl,d,_,rfl,.inl hd5,fun d1 hd1=>?_⟩
 have u1:=Same.new hd1 (.dK (kvsOf ps))
 have pd1 : PD (upd H5 d1 (.dK (kvsOf ps))) d1 ps:=⟨.inl upd_same,fun x hx=>⟨(pg5.td x hx).1.tk (TK.of u1),(by have:=(pg5.td x hx).2.2.1; omega),(by have:=(pg5.td x hx).2.2.2; omega)⟩⟩
 refine ⟨_,rfl,ai,d1,lr,prs,ps,o,t,xs,rfl,hon,htn,rl5.same u1,uq,ho,ht,htd.tk (TK.of u1),dx,hw,pd1,nd,by omega,?_,?_⟩
 ·intro e he H6 x6 _
  exact ⟨_,rfl,_,rfl,iteT (q H6)⟩
 intro ys ps' hys hop q5 a' d' H6 x6 _ hd'0 hd' hq5 hta htp
 have S6 : Same H5 H6:=same_of u1 hd1 x6
 refine ⟨_,rfl,_,rfl,iteF ?_⟩
 obtain ⟨p1,p2,tw,ecs'⟩:=two_of (rl.2 t ht).2.nf ht pg gx dx hys hop
 have rl6:=rl5.same S6
 have one:=fun (Q' : VK) (h : PlQ (flL (fiL (env ps.reverse) xs)) H6 Q')=>p1.sp (K:=K) (Q:=Q') (E:=E0) (htd.tk (TK.of S6)) (.inl (S6 _ _ hd5)) (fun x hx=>(pg5.td x hx).1.tk (TK.of S6)) rl6 uq h
 have two:=fun (G : Hp) (s6 : Same H6 G) (Q' : VK) (h : PlQ ((flL (fiL (env ps.reverse) xs)).map (mv o.2 t.2).c) G Q')=>p2.sp (K:=K) (Q:=Q') (E:=E0) (hta.tk (TK.of s6)) (.inl (s6 _ _ hd')) (fun x hx=>(htp x hx).tk (TK.of s6)) (rl6.same s6) uq (by rw [ecs']; exact h)
 generalize flL (fiL (env ps.reverse) xs) = cs at one two tw
 have lm : (cs.map (mv o.2 t.2).c).length = cs.length:=List.length_map ..
 refine ⟨_,rfl,_,rfl,_,rfl,one _ ⟨fun h qa H7 s7 hqa=>?_,fun h1 h2 k hb nb qa H7 s7 hqa=>?_,fun h1 h2 nb qa l1 H7 s7 hl10 cl1 hqa=>?_⟩⟩
 ·refine ⟨qa,_,rfl,SqT.of hqa,rfl,_,_,rfl,_,_,rfl,rfl,?_⟩
  have hq7:=s7 _ _ hq5
  refine ⟨_,rfl,q5,_,_,_,rfl,rfl,SqT.of hq7,atI_nat (j:=0) rfl,_,rfl,q5,_,_,_,rfl,rfl,SqT.of hq7,atI_nat (j:=1) rfl,_,rfl,two H7 s7 _ ⟨fun _ qb H8 s8 hqb=>?_,fun h1 h2 k hb _ qb H8 s8 hqb=>?_,fun h1 h2 nb qb l2 H8 s8 hl20 cl2 hqb=>?_⟩⟩
  ·refine ⟨qb,_,rfl,SqT.of hqb,rfl,_,_,rfl,_,_,rfl,rfl,?_⟩
   refine ⟨_,rfl,_,rfl,rfl,_,rfl,iteN (by simp) ⟨_,rfl,rfl,_,rfl,iteY (by decide +kernel) ?_⟩⟩
   refine ⟨_,rfl,_,rfl,rfl,_,rfl,?_⟩
   refine iteY (by simp) ⟨_,rfl,_,rfl,_,_,.int _,.int _,lay_i _,lay_i _,(by simp [PyData.depth]),?_⟩
   rw [PySem.SeqAt.eqv_refl _ (lay_i _)]
   exact q H8
  ·rw [lm] at h1
   rw [frS_m] at h2
   omega
  ·rw [lm] at h1
   rw [frS_m] at h2
   omega
 ·refine ⟨qa,_,rfl,SqT.of hqa,rfl,_,_,rfl,_,_,rfl,rfl,?_⟩
  have hq7:=s7 _ _ hq5
  refine ⟨_,rfl,q5,_,_,_,rfl,rfl,SqT.of hq7,atI_nat (j:=0) rfl,_,rfl,q5,_,_,_,rfl,rfl,SqT.of hq7,atI_nat (j:=1) rfl,_,rfl,two H7 s7 _ ⟨fun h=>?_,fun h1 h2 k' hb' nb' qb H8 s8 hqb=>?_,fun h1 h2 nb'=>?_⟩⟩
  ·rw [lm,frS_m] at h
   omega
  ·have ek : k' = k:=by
    rw [bad_m] at hb'
    have a1 : ¬ k' < k:=fun z=>nb k' z hb'
    have a2 : ¬ k < k':=fun z=>nb' k z ((bad_m cs k).mpr hb)
    omega
   subst ek
   refine ⟨qb,_,rfl,SqT.of hqb,rfl,_,_,rfl,_,_,rfl,rfl,?_⟩
   refine ⟨_,rfl,_,rfl,rfl,_,rfl,iteN (by simp) ⟨_,rfl,rfl,_,rfl,iteY (by decide +kernel) ?_⟩⟩
   refine ⟨_,rfl,_,rfl,rfl,_,rfl,?_⟩
   refine iteY (by simp) ⟨_,rfl,_,rfl,_,_,.int _,.int _,lay_i _,lay_i _,(by simp [PyData.depth]),?_⟩
   rw [PySem.SeqAt.eqv_refl _ (lay_i _)]
   exact q H8
  ·exact absurd ((bad_m cs k).mpr hb) (nb' k)
 ·refine ⟨qa,_,rfl,SqT.of hqa,rfl,_,_,rfl,_,_,rfl,rfl,?_⟩
  have hq7:=s7 _ _ hq5
  refine ⟨_,rfl,q5,_,_,_,rfl,rfl,SqT.of hq7,atI_nat (j:=0) rfl,_,rfl,q5,_,_,_,rfl,rfl,SqT.of hq7,atI_nat (j:=1) rfl,_,rfl,two H7 s7 _ ⟨fun h=>?_,fun _ _ k' hb'=>?_,fun _ _ nb' qb l2 H8 s8 hl20 cl2 hqb=>?_⟩⟩
  ·rw [lm,frS_m] at h
   omega
  ·exact absurd ((bad_m cs k').mp hb') (nb k')
  have elk : ∀ e ∈ endsV cs,Lk prs e.1 e.2.1 (nmB e.1) ((mv o.2 t.2).at e.1 e.2.1)/\(mv o.2 t.2).nm e.1 = nmB e.1:=fun e he=>by
   obtain ⟨c,hc,e1,e2⟩:=ends_mem he
   rw [e1]
   exact lk_of uq ho ht hon htn (tw.cg c hc).t (by rcases e2 with z | z <;> rw [z] <;> omega)
  have hrk : ∀ x ∈ prs,ROk x.2:=fun x hx=>(rl.2 x hx).2
  have sok : ∀ c ∈ cs,KS.Sm (toK c)/\frC c <= 2000:=fun c hc=>⟨sm_of hrk (tw.cg c hc).t.1,by have:=fr_le hc; omega⟩
  have sok' : ∀ c ∈ cs.map (mv o.2 t.2).c,KS.Sm (toK c)/\frC c <= 2000:=fun c hc=>by
   obtain ⟨x,hx,rfl⟩:=List.mem_map.mp hc
   refine ⟨sm_of hrk (ck_to ht _ _ _ (tw.cg x hx).t.1 (tw.cg x hx).t.2),?_⟩
   rw [fr_m]
   exact (sok x hx).2
  have sd:=sd_of (fun c hc=>(tw.cg c hc).rf) (fun c hc=>(tw.cg c hc).d0) (d_first tw.d0) nb
  have sd' : KS.Sd ((cs.map (mv o.2 t.2).c).map toK):=sd_of (fun c hc=>by
    obtain ⟨x,hx,rfl⟩:=List.mem_map.mp hc
    show Fine ((mv o.2 t.2).nm x.r)
    unfold Mv.nm
    split
    ·exact (rl.2 t ht).2.nf
    ·exact (tw.cg x hx).rf) (fun c hc=>by
    obtain ⟨x,hx,rfl⟩:=List.mem_map.mp hc
    exact (tw.cg x hx).d0) (fun c hc=>by
    rw [List.getElem?_map] at hc
    cases z : cs[0]? with
    | none=>rw [z] at hc; cases hc
    | some x=>rw [z] at hc; cases hc; exact d_first tw.d0 x z) nb'
  have af:=af_shown (U:=fun r n=>Lk prs r n (nmB r) ((mv o.2 t.2).at r n)/\(mv o.2 t.2).nm r = nmB r) (cs:=cs.map toK) fun c hc n hn=>by
   obtain ⟨x,hx,rfl⟩:=List.mem_map.mp hc
   exact lk_of uq ho ht hon htn (tw.cg x hx).t hn
  have mso : KS.MsOk (KS.shown (cs.map toK)):=by
   have:=KS.ms_shown sd (cs.map toK).length (Nat.le_refl _)
   rwa [List.take_length] at this
  refine ⟨qb,_,rfl,SqT.of hqb,rfl,_,_,rfl,_,_,rfl,rfl,?_⟩
  refine ⟨_,rfl,_,rfl,rfl,_,rfl,iteN (by simp) ⟨_,rfl,rfl,_,rfl,iteN (by decide +kernel) ?_⟩⟩
  obtain ⟨us1,hus1,tus1⟩:=id cl1
  have cl1' : CL H8 l1 cs:=⟨us1,s8 _ _ hus1,tus1.tk (TK.of s8)⟩
  refine ⟨_,rfl,l1,cs,rfl,cl1',by omega,fun e1 H9 s9 he10 el1=>?_⟩
  obtain ⟨us2,hus2,tus2⟩:=id cl2
  have cl2' : CL H9 l2 (cs.map (mv o.2 t.2).c):=⟨us2,s9 _ _ hus2,tus2.tk (TK.of s9)⟩
  refine ⟨_,rfl,l2,cs.map (mv o.2 t.2).c,rfl,cl2',by omega,fun e2 H10 s10 he20 el2=>?_⟩
  obtain ⟨vs1,hvs1,tvs1⟩:=el1
  obtain ⟨vs2,hvs2,tvs2⟩:=el2
  have lv1 : vs1.length = 2 * cs.length:=by rw [tvs1.len,List.length_map,ends_len]
  have lv2 : vs2.length = 2 * cs.length:=by rw [tvs2.len,List.length_map,ends_len,lm]
  have tvs1:=tvs1.tk (TK.of s10)
  refine ⟨e1,e2,_,_,rfl,SqL.of (s10 _ _ hvs1),SqL.of hvs2,by omega,by omega,fun lp ts H11 s11 hlp0 hlp lts pr=>?_⟩
  have S11:=(s9.trans s10).trans s11
  have rl11:=rl6.same ((s7.trans s8).trans S11)
  refine ⟨_,rfl,l1,_,rfl,.inl (SqL.of (S11 _ _ (s8 _ _ hus1))),_,rfl,l2,_,rfl,.inl (SqL.of (S11 _ _ hus2)),rfl,_,rfl,iteN ?_ ?_⟩
  ·have a1 : us1.length = cs.length:=by rw [tus1.len,List.length_map]
   have a2 : us2.length = cs.length:=by rw [tus2.len,List.length_map,lm]
   rw [a1,a2]
   simp
  refine ⟨_,rfl,lp,rfl,⟨_,SqL.of hlp⟩,compT_list (K:=K) (n:=2) (List.replicate ts.length (V.bl true)) (SqL.of hlp) (by rw [List.length_map]; omega) (by rw [List.length_map,List.length_replicate]) ?_ ?_⟩
  ·intro i x y G xo R hxo sG hx hy hR
   rw [List.getElem?_map] at hx
   cases hz : ts[i]? with
   | none=>rw [hz] at hx; cases hx
   | some tt =>
    rw [hz] at hx
    cases hx
    obtain ⟨x1,x2,hx1,hx2,htt⟩:=pr i tt hz
    obtain ⟨o1,o2,rfl⟩ : ∃ o1 o2,xo = [o1,o2]:=by
     match xo,hxo with
     | [o1,o2],_=>exact ⟨o1,o2,rfl⟩
    obtain rfl : y = V.bl true:=(List.mem_replicate.mp (List.mem_of_getElem? hy)).2
    obtain ⟨de1,hde1,td1⟩:=tvs1.get hx1
    obtain ⟨en,hen,rfl⟩:=d_get hde1
    obtain ⟨a1,rfl,ha1⟩:=td_e td1
    obtain ⟨de2,hde2,td2⟩:=tvs2.get hx2
    obtain ⟨en2,hen2,rfl⟩:=d_get hde2
    obtain ⟨a2,rfl,ha2⟩:=td_e td2
    rw [ends_m,List.getElem?_map,hen] at hen2
    cases hen2
    obtain ⟨lk,enm⟩:=elk en (List.mem_of_getElem? hen)
    have ha2 : H10 a2 = some (.tup [.str ((mv o.2 t.2).nm en.1),.int ((mv o.2 t.2).at en.1 en.2.1),.int en.2.2]):=ha2
    rw [enm] at ha2
    have sG':=s11.trans sG
    exact ⟨tt,_,rfl,SqT.of (sG _ _ htt),rfl,_,_,rfl,_,_,rfl,rfl,⟨[some (.ref a1),some (.ref a2)],rfl,rfl⟩,_,rfl,_,rfl,_,rfl,lr,a1,a2,prs,en.1,en.2.1,_,[en.2.2],rfl,rl11.same sG,uq,sG' _ _ ha1,sG' _ _ ha2,lk,fun H'' sH=>hR H'' sH⟩
  intro D H12 s12 hD0 hD
  refine ⟨D,List.replicate ts.length true,rfl,SqL.of (by rw [List.map_replicate]; exact hD),rfl,_,rfl,iteN (by rw [all_true]; rfl) ?_⟩
  have S12:=S11.trans s12
  have cla : CL H12 l1 cs:=⟨us1,S12 _ _ (s8 _ _ hus1),tus1.tk (TK.of (s8.trans S12))⟩
  refine ⟨_,rfl,l1,cs,rfl,cla,h1,sok,sd,fun lf H13 s13 hlf0 shf=>?_⟩
  have clb : CL H13 l2 (cs.map (mv o.2 t.2).c):=⟨us2,(S12.trans s13) _ _ hus2,tus2.tk (TK.of (S12.trans s13))⟩
  refine ⟨_,rfl,l2,cs.map (mv o.2 t.2).c,rfl,clb,by omega,sok',sd',fun lg H14 s14 hlg0 shg=>?_⟩
  obtain ⟨fv,hfv,tfv⟩:=shf
  obtain ⟨gv,hgv,tgv⟩:=shg
  rw [shown_m] at tgv
  have lfv : fv.length = (KS.shown (cs.map toK)).length:=by rw [tfv.len,List.length_map]
  have lgv : gv.length = (KS.shown (cs.map toK)).length:=by rw [tgv.len,List.length_map,List.length_map]
  have hfv:=s14 _ _ hfv
  have tfv:=tfv.tk (TK.of s14)
  have rl14:=rl11.same ((s12.trans s13).trans s14)
  refine ⟨_,rfl,lf,_,rfl,.inl (SqL.of hfv),_,rfl,lg,_,rfl,.inl (SqL.of hgv),rfl,_,rfl,iteN (by rw [lfv,lgv]; simp) ?_⟩
  refine ⟨_,rfl,_,rfl,lf,lg,rfl,⟨_,SqL.of hfv⟩,⟨_,SqL.of hgv⟩,for_zip (K:=K) (a:=lf) (b:=lg) (xs:=fv) (ys:=gv) (fun i σ H'=>∃ o12 o13 : Option V,σ = [some (.ref a),some (.ref lr),some (.ref d),some (.ref ai),some (.ref q5),some (.str "played"),some (.ref l1),some (.str "played"),some (.ref l2),some (.ref lp),some (.ref lf),some (.ref lg),o12,o13]/\Same H14 H')
   (by omega) ⟨none,none,rfl,Same.refl _⟩ (fun i σ H' _ ⟨_,_,_,sm⟩=>⟨SqL.of (sm _ _ hfv),SqL.of (sm _ _ hgv)⟩) ?_ ?_⟩
  ·rintro i x y σ H' p hx hy ⟨o12,o13,rfl,sm⟩ hp
   obtain ⟨dm,hdm,tm⟩:=tfv.get hx
   obtain ⟨m,hm,rfl⟩:=m_get hdm
   obtain ⟨dm2,hdm2,tm2⟩:=tgv.get hy
   obtain ⟨m2,hm2,rfl⟩:=m_get hdm2
   rw [List.getElem?_map,hm] at hm2
   cases hm2
   obtain ⟨m1,ms1,rfl,hms1,tms1⟩:=tm.tinv
   obtain ⟨m2,ms2,rfl,hms2,tms2⟩:=tm2.tinv
   have lm1 : ms1.length = m.length:=by rw [tms1.len,List.length_map]
   have lm2 : ms2.length = m.length:=by rw [tms2.len,List.length_map,List.length_map]
   have hml : m.length <= 2:=(mso m (List.mem_of_getElem? hm)).2.2
   have tp:=Same.new hp (.tup [.ref m1,.ref m2])
   have sp:=sm.trans tp
   have hms1':=sp _ _ hms1
   have hms2':=sp _ _ hms2
   have rlp:=rl14.same sp
   refine ⟨p,_,rfl,SqT.of upd_same,rfl,_,_,rfl,_,_,rfl,rfl,?_⟩
   refine ⟨_,rfl,m1,_,rfl,.inr (SqT.of hms1'),_,rfl,m2,_,rfl,.inr (SqT.of hms2'),rfl,_,rfl,iteN (by rw [lm1,lm2]; simp) ?_⟩
   refine ⟨_,rfl,_,rfl,m1,m2,rfl,⟨_,SqT.of hms1'⟩,⟨_,SqT.of hms2'⟩,compT_zipT (K:=K) (n:=2) (V.bl true) (SqT.of hms1') (SqT.of hms2') (by omega) (by omega) ?_ ?_⟩
   ·intro j x y G pp xo R hxo sG hx hy hpp hR
    obtain ⟨o1,o2,rfl⟩ : ∃ o1 o2,xo = [o1,o2]:=by
     match xo,hxo with
     | [o1,o2],_=>exact ⟨o1,o2,rfl⟩
    obtain ⟨df,hdf,tf⟩:=tms1.get hx
    obtain ⟨fr,hfr,rfl⟩:=f_get hdf
    obtain ⟨df2,hdf2,tf2⟩:=tms2.get hy
    obtain ⟨fr2,hfr2,rfl⟩:=f_get hdf2
    rw [List.getElem?_map,hfr] at hfr2
    cases hfr2
    obtain ⟨f1,rfl,hf1⟩:=td_frm tf
    obtain ⟨f2,rfl,hf2⟩:=td_frm tf2
    obtain ⟨lk,fnm⟩:=af m (List.mem_of_getElem? hm) fr (List.mem_of_getElem? hfr)
    have hf2 : H14 f2 = some (.tup [.str ((mv o.2 t.2).nm fr.reel),.int ((mv o.2 t.2).at fr.reel fr.n),.int fr.p,.int fr.w]):=hf2
    rw [fnm] at hf2
    have tpp:=Same.new hpp (.tup [.ref f1,.ref f2])
    have sG':=sp.trans (sG.trans tpp)
    exact ⟨pp,_,rfl,SqT.of upd_same,rfl,_,_,rfl,_,_,rfl,rfl,⟨[some (.ref f1),some (.ref f2)],rfl,rfl⟩,_,rfl,_,rfl,_,rfl,lr,f1,f2,prs,fr.reel,fr.n,_,[fr.p,fr.w],rfl,rlp.same (sG.trans tpp),uq,sG' _ _ hf1,sG' _ _ hf2,lk,fun H'' sH=>hR H'' (tpp.trans sH)⟩
   ·intro D' G sG hD0' hD'
    refine ⟨D',List.replicate ms1.length true,rfl,SqL.of (by rw [List.map_replicate]; exact hD'),rfl,_,rfl,iteN (by rw [all_true]; rfl) ?_⟩
    exact ⟨_,_,rfl,sp.trans sG⟩
  ·rintro σ H' ⟨o12,o13,rfl,sm⟩
   exact q H'
end
end K38
set_option maxHeartbeats 4000000
namespace K38
open PySem L2 G
structure Cs where
 c2 : Addr
 c3 : Addr
 c5 : Addr
 c6 : Addr
 c7 : Addr
structure CAll (K : PySem.W.Frag) (c : Cs) : Prop where
 m2 : PySem.W.nsIn K mainGlobals "NoFrame" = some (some (.ref c.c2))
 m3 : PySem.W.nsIn K mainGlobals "NoName" = some (some (.ref c.c3))
 m5 : PySem.W.nsIn K mainGlobals "NoFade" = some (some (.ref c.c5))
 m6 : PySem.W.nsIn K mainGlobals "TooMany" = some (some (.ref c.c6))
 m7 : PySem.W.nsIn K mainGlobals "TooShort" = some (some (.ref c.c7))
 e2 : ∃ bm id,ExcC K c.c2 bm id/\bm.contains (.type "BaseException") = true
 e3 : ∃ bm id,ExcC K c.c3 bm id/\bm.contains (.type "BaseException") = true
 e5 : ∃ bm id,ExcC K c.c5 bm id/\bm.contains (.type "BaseException") = true
 e6 : ∃ bm id,ExcC K c.c6 bm id/\bm.contains (.type "BaseException") = true
 e7 : ∃ bm id,ExcC K c.c7 bm id/\bm.contains (.type "BaseException") = true/\(Value.ref c.c7 :: bm).contains (.ref c.c6) = false
 i2 : InitIn K c.c2 "NoFrame.__init__" s_NoFrame_init
 i3 : InitIn K c.c3 "NoName.__init__" s_NoName_init
 i7 : InitIn K c.c7 "TooShort.__init__" s_TooShort_init
 x2_reel : XNo K c.c2 "reel"
 x2_frame : XNo K c.c2 "frame"
 x3_name : XNo K c.c3 "name"
 x7_number : XNo K c.c7 "number"
 kq5 : PySem.W.excIn K c.c5 bmVE "ValueError.__new__" = true
 kq6 : PySem.W.excIn K c.c6 bmVE "ValueError.__new__" = true
theorem cs_mk {K : PySem.W.Frag} {c2 c3 c5 c6 c7 : Addr} (m2 : PySem.W.nsIn K mainGlobals "NoFrame" = some (some (.ref c2))) (m3 : PySem.W.nsIn K mainGlobals "NoName" = some (some (.ref c3))) (m5 : PySem.W.nsIn K mainGlobals "NoFade" = some (some (.ref c5))) (m6 : PySem.W.nsIn K mainGlobals "TooMany" = some (some (.ref c6))) (m7 : PySem.W.nsIn K mainGlobals "TooShort" = some (some (.ref c7)))
  {bmQ2 bsQ2 subQ2 : List Value} {idQ2 : String} {NQ2 : Addr} {nmQ2 qnQ2 : Str} {hdQ2 abQ2 : Bool} {snQ2 : List Str} {colQ2 : Option Bool} {ddQ2 : Option Addr} {aQ20 aQ21 aQ22 aQ23 aQ25 : Option Value}
  {bmQ3 bsQ3 subQ3 : List Value} {idQ3 : String} {NQ3 : Addr} {nmQ3 qnQ3 : Str} {hdQ3 abQ3 : Bool} {snQ3 : List Str} {colQ3 : Option Bool} {ddQ3 : Option Addr} {aQ30 aQ31 aQ32 aQ33 aQ35 : Option Value}
  {bmQ5 bsQ5 subQ5 : List Value} {idQ5 : String} {NQ5 : Addr} {nmQ5 qnQ5 : Str} {hdQ5 abQ5 : Bool} {snQ5 : List Str} {colQ5 : Option Bool} {ddQ5 : Option Addr} {aQ50 aQ51 aQ52 aQ53 aQ55 : Option Value}
  {bmQ6 bsQ6 subQ6 : List Value} {idQ6 : String} {NQ6 : Addr} {nmQ6 qnQ6 : Str} {hdQ6 abQ6 : Bool} {snQ6 : List Str} {colQ6 : Option Bool} {ddQ6 : Option Addr} {aQ60 aQ61 aQ62 aQ63 aQ65 : Option Value}
  {bmQ7 bsQ7 subQ7 : List Value} {idQ7 : String} {NQ7 : Addr} {nmQ7 qnQ7 : Str} {hdQ7 abQ7 : Bool} {snQ7 : List Str} {colQ7 : Option Bool} {ddQ7 : Option Addr} {aQ70 aQ71 aQ72 aQ73 aQ75 : Option Value}
  (lQ2 : K.lookup c2 = some (excClassObj nmQ2 qnQ2 c2 NQ2 bsQ2 bmQ2 hdQ2 snQ2 subQ2 abQ2 colQ2 ddQ2 aQ20 aQ21 aQ22 aQ23 aQ25 idQ2))
  (lQ3 : K.lookup c3 = some (excClassObj nmQ3 qnQ3 c3 NQ3 bsQ3 bmQ3 hdQ3 snQ3 subQ3 abQ3 colQ3 ddQ3 aQ30 aQ31 aQ32 aQ33 aQ35 idQ3))
  (lQ5 : K.lookup c5 = some (excClassObj nmQ5 qnQ5 c5 NQ5 bsQ5 bmQ5 hdQ5 snQ5 subQ5 abQ5 colQ5 ddQ5 aQ50 aQ51 aQ52 aQ53 aQ55 idQ5))
  (lQ6 : K.lookup c6 = some (excClassObj nmQ6 qnQ6 c6 NQ6 bsQ6 bmQ6 hdQ6 snQ6 subQ6 abQ6 colQ6 ddQ6 aQ60 aQ61 aQ62 aQ63 aQ65 idQ6))
  (lQ7 : K.lookup c7 = some (excClassObj nmQ7 qnQ7 c7 NQ7 bsQ7 bmQ7 hdQ7 snQ7 subQ7 abQ7 colQ7 ddQ7 aQ70 aQ71 aQ72 aQ73 aQ75 idQ7)) (hbQ2 : bmQ2.contains (.type "BaseException") = true) (hbQ3 : bmQ3.contains (.type "BaseException") = true) (hbQ5 : bmQ5.contains (.type "BaseException") = true) (hbQ6 : bmQ6.contains (.type "BaseException") = true) (hbQ7 : bmQ7.contains (.type "BaseException") = true) (I2 : InitIn K c2 "NoFrame.__init__" s_NoFrame_init) (I3 : InitIn K c3 "NoName.__init__" s_NoName_init) (I7 : InitIn K c7 "TooShort.__init__" s_TooShort_init) (x2_reel : PySem.W.findIn K (.ref c2) "reel" = some none) (x2_frame : PySem.W.findIn K (.ref c2) "frame" = some none) (x3_name : PySem.W.findIn K (.ref c3) "name" = some none) (x7_number : PySem.W.findIn K (.ref c7) "number" = some none) (ha7 : (Value.ref c7 :: bmQ7).contains (.ref c6) = false) (kq5 : PySem.W.excIn K c5 bmVE "ValueError.__new__" = true) (kq6 : PySem.W.excIn K c6 bmVE "ValueError.__new__" = true) : ∃ c : Cs,CAll K c :=
 ⟨⟨c2,c3,c5,c6,c7⟩,m2,m3,m5,m6,m7,⟨bmQ2,idQ2,.mk lQ2,hbQ2⟩,⟨bmQ3,idQ3,.mk lQ3,hbQ3⟩,⟨bmQ5,idQ5,.mk lQ5,hbQ5⟩,⟨bmQ6,idQ6,.mk lQ6,hbQ6⟩,⟨bmQ7,idQ7,.mk lQ7,hbQ7,ha7⟩,I2,I3,I7,x2_reel,x2_frame,x3_name,x7_number,kq5,kq6⟩
structure DsIn (K : PySem.W.Frag) : Prop where
 whole : FunIn K "is_whole" s_is_whole
 named : FunIn K "reel_named" s_reel_named
 hasF : FunIn K "has_frame" s_has_frame
 bears : FunIn K "bears" s_bears
 keyOf : FunIn K "key_of" s_key_of
 frameOf : FunIn K "frame_of" s_frame_of
 br : FunIn K "brought_over" s_brought_over
 over : FunIn K "over_items" s_over_items
 oclip : FunIn K "over_clip" s_over_clip
 sound : FunIn K "sound" s_sound
 look : FunIn K "look_through" s_look_through
 lclip : FunIn K "look_at_clip" s_look_at_clip
 lfade : FunIn K "look_at_fade" s_look_at_fade
 isF : FunIn K "is_fade" s_is_fade
 lpart : FunIn K "look_at_part" s_look_at_part
 played : FunIn K "played" s_played
 clipsOf : FunIn K "clips_of" s_clips_of
 clipsI : FunIn K "clips_of_item" s_clips_of_item
 fadedIn : FunIn K "faded_in" s_faded_in
 backw : FunIn K "backwards" s_backwards
 frIn : FunIn K "frames_in" s_frames_in
 rfilm : FunIn K "refuse_film" s_refuse_film
 rmany : FunIn K "refuse_many" s_refuse_many
 rshort : FunIn K "refuse_short" s_refuse_short
 way : FunIn K "way_of" s_way_of
 nos : FunIn K "numbers_of" s_numbers_of
 shown : FunIn K "shown" s_shown
 showC : FunIn K "show_clip" s_show_clip
 faded : FunIn K "faded" s_faded
 cell : FunIn K "_law_cell" s__law_cell
 num : FunIn K "_law_numbers" s__law_numbers
 pair : FunIn K "_law_pair" s__law_pair
 inner : FunIn K "_law_inner" s__law_inner
 item : FunIn K "_law_item" s__law_item
 list' : FunIn K "_law_list" s__law_list
 parts : FunIn K "_law_parts" s__law_parts
 overL : FunIn K "_law_over" s__law_over
 lplayed : FunIn K "_law_played" s__law_played
 lname : FunIn K "_law_name" s__law_name
 alike : FunIn K "_law_alike" s__law_alike
 ends : FunIn K "_law_ends" s__law_ends
 law : FunIn K "law" s_law
structure NsIn (K : PySem.W.Frag) (t : Nat->Tok) : Prop where
 na : PySem.W.nsIn K mainGlobals "NAME" = some (some (.int 0 (t 0)))
 le : PySem.W.nsIn K mainGlobals "LETTERS" = some (some (.int 1 (t 1)))
 st : PySem.W.nsIn K mainGlobals "START" = some (some (.int 2 (t 2)))
 ma : PySem.W.nsIn K mainGlobals "MANY" = some (some (.int 3 (t 3)))
 mc : PySem.W.nsIn K mainGlobals "MOST_CLIPS" = some (some (.int 100 (t 4)))
 mf : PySem.W.nsIn K mainGlobals "MOST_FRAMES" = some (some (.int 2000 (t 5)))
 zisi : PySem.W.nsIn K mainGlobals "isinstance" = some none
 zlen : PySem.W.nsIn K mainGlobals "len" = some none
 zint : PySem.W.nsIn K mainGlobals "int" = some none
 zbool : PySem.W.nsIn K mainGlobals "bool" = some none
 ztup : PySem.W.nsIn K mainGlobals "tuple" = some none
 zrng : PySem.W.nsIn K mainGlobals "range" = some none
 zabs : PySem.W.nsIn K mainGlobals "abs" = some none
 zmin : PySem.W.nsIn K mainGlobals "min" = some none
 zlst : PySem.W.nsIn K mainGlobals "list" = some none
 zdic : PySem.W.nsIn K mainGlobals "dict" = some none
 zenu : PySem.W.nsIn K mainGlobals "enumerate" = some none
 zrev : PySem.W.nsIn K mainGlobals "reversed" = some none
 zsum : PySem.W.nsIn K mainGlobals "sum" = some none
 zzip : PySem.W.nsIn K mainGlobals "zip" = some none
 zall : PySem.W.nsIn K mainGlobals "all" = some none
theorem ns_mk {K : PySem.W.Frag} {t0 : Tok} {i0 : Int} {t1 : Tok} {i1 : Int} {t2 : Tok} {i2 : Int} {t3 : Tok} {i3 : Int} {t4 : Tok} {i4 : Int} {t5 : Tok} {i5 : Int} (a0 : PySem.W.nsIn K mainGlobals "NAME" = some (some (.int i0 t0))) (a1 : PySem.W.nsIn K mainGlobals "LETTERS" = some (some (.int i1 t1))) (a2 : PySem.W.nsIn K mainGlobals "START" = some (some (.int i2 t2))) (a3 : PySem.W.nsIn K mainGlobals "MANY" = some (some (.int i3 t3))) (a4 : PySem.W.nsIn K mainGlobals "MOST_CLIPS" = some (some (.int i4 t4))) (a5 : PySem.W.nsIn K mainGlobals "MOST_FRAMES" = some (some (.int i5 t5))) (e0 : i0 = 0) (e1 : i1 = 1) (e2 : i2 = 2) (e3 : i3 = 3) (e4 : i4 = 100) (e5 : i5 = 2000)
  (b0 : PySem.W.nsIn K mainGlobals "isinstance" = some none) (b1 : PySem.W.nsIn K mainGlobals "len" = some none) (b2 : PySem.W.nsIn K mainGlobals "int" = some none) (b3 : PySem.W.nsIn K mainGlobals "bool" = some none) (b4 : PySem.W.nsIn K mainGlobals "tuple" = some none) (b5 : PySem.W.nsIn K mainGlobals "range" = some none) (b6 : PySem.W.nsIn K mainGlobals "abs" = some none) (b7 : PySem.W.nsIn K mainGlobals "min" = some none) (b8 : PySem.W.nsIn K mainGlobals "list" = some none) (b9 : PySem.W.nsIn K mainGlobals "dict" = some none) (b10 : PySem.W.nsIn K mainGlobals "enumerate" = some none) (b11 : PySem.W.nsIn K mainGlobals "reversed" = some none) (b12 : PySem.W.nsIn K mainGlobals "sum" = some none) (b13 : PySem.W.nsIn K mainGlobals "zip" = some none) (b14 : PySem.W.nsIn K mainGlobals "all" = some none) : ∃ t,NsIn K t:=by
 subst e0 e1 e2 e3 e4 e5
 exact ⟨fun i=>[t0,t1,t2,t3,t4,t5].getD i 0,a0,a1,a2,a3,a4,a5,b0,b1,b2,b3,b4,b5,b6,b7,b8,b9,b10,b11,b12,b13,b14⟩
theorem all_mk {l : PySem.W.OpenLaw} {w : World} {K : PySem.W.Frag} {h : Heap} {mg : Str->Option Value} {fa : Addr} (X : K.In h) (G : h.Ns mainGlobals mg) (hfa : mg "law" = some (.ref fa)) {t : Nat->Tok} (D : DsIn K) (Z : NsIn K t) (CC : ∃ c : Cs,CAll K c) :
  ∃ fd : FuncData,(∀ (s : Shared) (v : Value),BindsTo s fd ⟨[v],[]⟩ [("_law_script",v)])/\∀ base : Heap,K.In base->base.Ns mainGlobals mg->FnOk l.prog w K mg base CX0 33 fa fd ["_law_script"] (spLaw K):=by
 obtain ⟨c,m2',m3',m5',m6',m7',⟨bm2,id2,c2,hB2⟩,⟨bm3,id3,c3,hB3⟩,⟨bm5,id5,c5,hB5⟩,⟨bm6,id6,c6,hB6⟩,⟨bm7,id7,c7,hB7,hA7⟩,I2,I3,I7,x2_reel,x2_frame,x3_name,x7_number,kq5,kq6⟩:=CC
 have M2:=PySem.W.mg_of X G m2'
 have M3:=PySem.W.mg_of X G m3'
 have M5:=PySem.W.mg_of X G m5'
 have M6:=PySem.W.mg_of X G m6'
 have M7:=PySem.W.mg_of X G m7'
 have mna:=PySem.W.mg_of X G Z.na
 have mle:=PySem.W.mg_of X G Z.le
 have mst:=PySem.W.mg_of X G Z.st
 have mma:=PySem.W.mg_of X G Z.ma
 have mmc:=PySem.W.mg_of X G Z.mc
 have mmf:=PySem.W.mg_of X G Z.mf
 have nisi:=PySem.W.mg_none_of X G Z.zisi
 have nlen:=PySem.W.mg_none_of X G Z.zlen
 have nint:=PySem.W.mg_none_of X G Z.zint
 have nbool:=PySem.W.mg_none_of X G Z.zbool
 have ntup:=PySem.W.mg_none_of X G Z.ztup
 have nrng:=PySem.W.mg_none_of X G Z.zrng
 have nabs:=PySem.W.mg_none_of X G Z.zabs
 have nmin:=PySem.W.mg_none_of X G Z.zmin
 have nlst:=PySem.W.mg_none_of X G Z.zlst
 have ndic:=PySem.W.mg_none_of X G Z.zdic
 have nenu:=PySem.W.mg_none_of X G Z.zenu
 have nrev:=PySem.W.mg_none_of X G Z.zrev
 have nsum:=PySem.W.mg_none_of X G Z.zsum
 have nzip:=PySem.W.mg_none_of X G Z.zzip
 have nall:=PySem.W.mg_none_of X G Z.zall
 obtain ⟨fl,fdl,al,FL⟩:=D.law
 have e:=hfa.symm.trans (PySem.W.mg_of X G al)
 cases e
 refine ⟨fdl,fun s v=>?_,fun base _ _=>?_⟩
 ·obtain ⟨oc,od,kV,doc,pm,an,cdv,ct,osl,rfl,lk,hcd⟩:=FL.ex
  exact .of_eq rfl
 obtain ⟨f2,fd2,R2,F2⟩:=I2.ex
 have b2:=F2.binds (ps:=["self", "reel", "frame"]) fun _ _ _ _ _ _ us hl=>match us,hl with | [_,_,_],_=>rfl
 obtain ⟨f3,fd3,R3,F3⟩:=I3.ex
 have b3:=F3.binds (ps:=["self", "name"]) fun _ _ _ _ _ _ us hl=>match us,hl with | [_,_],_=>rfl
 obtain ⟨f7,fd7,R7,F7⟩:=I7.ex
 have b7:=F7.binds (ps:=["self", "number"]) fun _ _ _ _ _ _ us hl=>match us,hl with | [_,_],_=>rfl
 have dCell : Def l.prog w K mg base CX0 "_law_cell" 1 ["_law_script", "_law_k"] (spCell K):=Def.of X G D.cell (fun f fd F=>ok_cell F nlen) fun _ _ _ _ _ _ us hl=>match us,hl with | [_,_],_=>rfl
 have dNum : Def l.prog w K mg base CX0 "_law_numbers" 1 ["_law_cell_here", "_law_many"] spNum:=Def.of X G D.num (fun f fd F=>ok_num F nabs nrng nint) fun _ _ _ _ _ _ us hl=>match us,hl with | [_,_],_=>rfl
 have dWh : Def l.prog w K mg base CX0 "is_whole" 1 ["value"] spWhole:=Def.of X G D.whole (fun f fd F=>ok_whole F nisi nint nbool) fun _ _ _ _ _ _ us hl=>match us,hl with | [_],_=>rfl
 have dHasF : Def l.prog w K mg base CX0 "has_frame" 2 ["reel", "frame"] spHasF:=Def.of X G D.hasF (fun f fd F=>ok_hasF F dWh mma) fun _ _ _ _ _ _ us hl=>match us,hl with | [_,_],_=>rfl
 have dBears : Def l.prog w K mg base CX0 "bears" 3 ["reel", "key"] spBears:=Def.of X G D.bears (fun f fd F=>ok_bears F dWh dHasF mle mst) fun _ _ _ _ _ _ us hl=>match us,hl with | [_,_],_=>rfl
 have dNamed : Def l.prog w K mg base (CX1 l.prog w) "reel_named" 3 ["reels", "name"] (spNamed c.c3):=Def.of X G D.named (fun f fd F=>ok_named F mna M3 R3 (ok_init F3 I3.xc x3_name) b3) fun _ _ _ _ _ _ us hl=>match us,hl with | [_,_],_=>rfl
 have dKeyOf : Def l.prog w K mg base (CX1 l.prog w) "key_of" 4 ["reels", "name", "frame"] (spKeyOf c.c3 c.c2):=Def.of X G D.keyOf (fun f fd F=>ok_keyOf F dNamed dHasF mna mle mst M2 R2 (ok_init2 F2 I2.xc x2_reel x2_frame) b2) fun _ _ _ _ _ _ us hl=>match us,hl with | [_,_,_],_=>rfl
 have dFrameOf : Def l.prog w K mg base (CX1 l.prog w) "frame_of" 4 ["reels", "name", "key"] (spFrameOf c.c3 c.c2):=Def.of X G D.frameOf (fun f fd F=>ok_frameOf F dNamed dBears mna mst M2 R2 (ok_init2 F2 I2.xc x2_reel x2_frame) b2) fun _ _ _ _ _ _ us hl=>match us,hl with | [_,_,_],_=>rfl
 have dOClip : Def l.prog w K mg base (CX1 l.prog w) "over_clip" 5 ["clip", "reels", "one", "other"] (spOClip c.c2):=Def.of X G D.oclip (fun f fd F=>ok_oclip F dKeyOf dFrameOf) fun _ _ _ _ _ _ us hl=>match us,hl with | [_,_,_,_],_=>rfl
 have rOver : ∀ d : Nat,Def l.prog w K mg base (CX1 l.prog w) "over_items" (d + 6) ["items", "reels", "one", "other"] (spOver c.c2 d):=by
  intro d
  induction d with
  | zero=>exact Def.of X G D.over (fun f fd F=>ok_over (d:=0) F dOClip (Def.never X G D.over (fun _ _ _ _ _ _ us hl=>match us,hl with | [_,_,_,_],_=>rfl)) ntup) (fun _ _ _ _ _ _ us hl=>match us,hl with | [_,_,_,_],_=>rfl)
  | succ d ih=>exact Def.of X G D.over (fun f fd F=>ok_over (d:=(d + 1)) F dOClip ih ntup) (fun _ _ _ _ _ _ us hl=>match us,hl with | [_,_,_,_],_=>rfl)
 have dBr : Def l.prog w K mg base (CX1 l.prog w) "brought_over" 12 ["items", "parts", "reels", "one", "other"] (spBr c.c3 c.c2):=Def.of X G D.br (fun f fd F=>ok_br F dNamed (rOver 5)) fun _ _ _ _ _ _ us hl=>match us,hl with | [_,_,_,_,_],_=>rfl
 have dPair : Def l.prog w K mg base CX0 "_law_pair" 2 ["_law_cell_here"] spPair:=Def.of X G D.pair (fun f fd F=>ok_pair F dNum nmin) fun _ _ _ _ _ _ us hl=>match us,hl with | [_],_=>rfl
 have rItem : ∀ d : Nat,Def l.prog w K mg base CX0 "_law_item" (2 * d + 2) ["_law_cells", "_law_reels", "_law_names", "_law_deep"] (spItem d):=by
  intro d
  induction d with
  | zero=>exact Def.of X G D.item (fun f fd F=>ok_item (D:=0) F dNum (Def.never X G D.inner (fun _ _ _ _ _ _ us hl=>match us,hl with | [_,_,_,_],_=>rfl)) nlen nint) (fun _ _ _ _ _ _ us hl=>match us,hl with | [_,_,_,_],_=>rfl)
  | succ d ih=>exact Def.of X G D.item (fun f fd F=>ok_item (D:=(d + 1)) F dNum (Def.of X G D.inner (fun f fd F=>ok_inner (D:=d) F dNum ih nrng ntup) (fun _ _ _ _ _ _ us hl=>match us,hl with | [_,_,_,_],_=>rfl)) nlen nint) (fun _ _ _ _ _ _ us hl=>match us,hl with | [_,_,_,_],_=>rfl)
 have dList : Def l.prog w K mg base CX0 "_law_list" 11 ["_law_cells", "_law_reels", "_law_names", "_law_deep"] (spList 4):=Def.of X G D.list' (fun f fd F=>ok_list F (rItem 4) nlst ntup) fun _ _ _ _ _ _ us hl=>match us,hl with | [_,_,_,_],_=>rfl
 have dParts : Def l.prog w K mg base CX0 "_law_parts" 12 ["_law_script", "_law_at", "_law_reels"] (spParts (K:=K)):=Def.of X G D.parts (fun f fd F=>ok_parts (D:=4) F dCell dList nrng) fun _ _ _ _ _ _ us hl=>match us,hl with | [_,_,_],_=>rfl
 have dOverL : Def l.prog w K mg base CX0 "_law_over" 13 ["_law_items", "_law_parts_here", "_law_reels"] spOverL:=Def.of X G D.overL (fun f fd F=>ok_overL F dBr M2 c2 hB2) fun _ _ _ _ _ _ us hl=>match us,hl with | [_,_,_],_=>rfl
 have dIsF : Def l.prog w K mg base CX0 "is_fade" 1 ["item"] spIsF:=Def.of X G D.isF (fun f fd F=>ok_isF F) fun _ _ _ _ _ _ us hl=>match us,hl with | [_],_=>rfl
 have dLClip : Def l.prog w K mg base (CX1 l.prog w) "look_at_clip" 4 ["clip", "reels"] spLClip:=Def.of X G D.lclip (fun f fd F=>ok_lclip F dNamed dHasF M2 R2 (ok_init2 F2 I2.xc x2_reel x2_frame) b2) fun _ _ _ _ _ _ us hl=>match us,hl with | [_,_],_=>rfl
 have dLFade : Def l.prog w K mg base (CX1 l.prog w) "look_at_fade" 3 ["items", "place"] spLFade:=Def.of X G D.lfade (fun f fd F=>ok_lfade F dIsF nlen M5 kq5) fun _ _ _ _ _ _ us hl=>match us,hl with | [_,_],_=>rfl
 have rLook : ∀ d : Nat,Def l.prog w K mg base (CX1 l.prog w) "look_through" (2 * d + 7) ["items", "parts", "reels", "within"] (spLook d):=by
  intro d
  induction d with
  | zero=>exact Def.of X G D.look (fun f fd F=>ok_look (d:=0) F (Def.never X G D.look (fun _ _ _ _ _ _ us hl=>match us,hl with | [_,_,_,_],_=>rfl)) (Def.of X G D.lpart (fun f fd F=>ok_lpart (d:=0) F (Def.never X G D.look (fun _ _ _ _ _ _ us hl=>match us,hl with | [_,_,_,_],_=>rfl)) M3 R3 (ok_init F3 I3.xc x3_name) b3) (fun _ _ _ _ _ _ us hl=>match us,hl with | [_,_,_,_],_=>rfl)) dLClip dLFade nenu) (fun _ _ _ _ _ _ us hl=>match us,hl with | [_,_,_,_],_=>rfl)
  | succ d ih=>exact Def.of X G D.look (fun f fd F=>ok_look (d:=(d + 1)) F ih (Def.of X G D.lpart (fun f fd F=>ok_lpart (d:=(d + 1)) F ih M3 R3 (ok_init F3 I3.xc x3_name) b3) (fun _ _ _ _ _ _ us hl=>match us,hl with | [_,_,_,_],_=>rfl)) dLClip dLFade nenu) (fun _ _ _ _ _ _ us hl=>match us,hl with | [_,_,_,_],_=>rfl)
 have dSound : Def l.prog w K mg base (CX1 l.prog w) "sound" 30 ["items", "parts", "reels"] (spSound 11):=Def.of X G D.sound (fun f fd F=>ok_sound (d:=11) F (rLook 11)) fun _ _ _ _ _ _ us hl=>match us,hl with | [_,_,_],_=>rfl
 have dFrIn : Def l.prog w K mg base CX0 "frames_in" 1 ["clip"] spFrIn:=Def.of X G D.frIn (fun f fd F=>ok_frIn F nabs) fun _ _ _ _ _ _ us hl=>match us,hl with | [_],_=>rfl
 have dBackw : Def l.prog w K mg base CX0 "backwards" 1 ["clips"] spBackw:=Def.of X G D.backw (fun f fd F=>ok_backw F nrev) fun _ _ _ _ _ _ us hl=>match us,hl with | [_],_=>rfl
 have dFadedIn : Def l.prog w K mg base CX0 "faded_in" 1 ["clips", "many"] spFadedIn:=Def.of X G D.fadedIn (fun f fd F=>ok_fadedIn F) fun _ _ _ _ _ _ us hl=>match us,hl with | [_,_],_=>rfl
 have dRMany : Def l.prog w K mg base (CX1 l.prog w) "refuse_many" 1 ["number", "most"] (spRMany c.c6):=Def.of X G D.rmany (fun f fd F=>ok_rmany F M6 kq6) fun _ _ _ _ _ _ us hl=>match us,hl with | [_,_],_=>rfl
 have dRShort : Def l.prog w K mg base (CX1 l.prog w) "refuse_short" 3 ["clips"] (spRShort c.c7):=Def.of X G D.rshort (fun f fd F=>ok_rshort F dFrIn nenu M7 R7 (ok_initS F7 I7.xc x7_number) b7) fun _ _ _ _ _ _ us hl=>match us,hl with | [_],_=>rfl
 have dRFilm : Def l.prog w K mg base (CX1 l.prog w) "refuse_film" 4 ["clips"] (spRFilm c.c6 c.c7):=Def.of X G D.rfilm (fun f fd F=>ok_rfilm F dRMany dRShort dFrIn nlen nsum mmc mmf) fun _ _ _ _ _ _ us hl=>match us,hl with | [_],_=>rfl
 have rClips : ∀ d : Nat,Def l.prog w K mg base (CX1 l.prog w) "clips_of" (2 * d + 3) ["items", "parts"] (spClipsOf c.c6 d):=by
  intro d
  induction d with
  | zero=>exact Def.of X G D.clipsOf (fun f fd F=>ok_clipsOf (d:=0) F (Def.of X G D.clipsI (fun f fd F=>ok_clipsI (d:=0) F (Def.never X G D.clipsOf (fun _ _ _ _ _ _ us hl=>match us,hl with | [_,_],_=>rfl)) dRMany dBackw nlen mmc) (fun _ _ _ _ _ _ us hl=>match us,hl with | [_,_],_=>rfl)) dRMany dFadedIn nlen mmc) (fun _ _ _ _ _ _ us hl=>match us,hl with | [_,_],_=>rfl)
  | succ d ih=>exact Def.of X G D.clipsOf (fun f fd F=>ok_clipsOf (d:=(d + 1)) F (Def.of X G D.clipsI (fun f fd F=>ok_clipsI (d:=(d + 1)) F ih dRMany dBackw nlen mmc) (fun _ _ _ _ _ _ us hl=>match us,hl with | [_,_],_=>rfl)) dRMany dFadedIn nlen mmc) (fun _ _ _ _ _ _ us hl=>match us,hl with | [_,_],_=>rfl)
 have dPlayed : Def l.prog w K mg base (CX1 l.prog w) "played" 31 ["items", "parts", "reels"] (spPlayed c.c6 c.c7 11):=Def.of X G D.played (fun f fd F=>ok_played (d:=11) F dSound (rClips 11) dRFilm) fun _ _ _ _ _ _ us hl=>match us,hl with | [_,_,_],_=>rfl
 have dWay : Def l.prog w K mg base CX0 "way_of" 1 ["clip"] spWay:=Def.of X G D.way (fun f fd F=>ok_way F) fun _ _ _ _ _ _ us hl=>match us,hl with | [_],_=>rfl
 have dNumbers : Def l.prog w K mg base CX0 "numbers_of" 2 ["clip"] spFr:=Def.of X G D.nos (fun f fd F=>ok_nos F dWay nlst nrng) fun _ _ _ _ _ _ us hl=>match us,hl with | [_],_=>rfl
 have dFaded : Def l.prog w K mg base CX0 "faded" 1 ["going", "reel", "number", "part", "whole"] spFaded:=Def.of X G D.faded (fun f fd F=>ok_faded F) fun _ _ _ _ _ _ us hl=>match us,hl with | [_,_,_,_,_],_=>rfl
 have dShowC : Def l.prog w K mg base CX0 "show_clip" 3 ["moments", "clip"] spSC:=Def.of X G D.showC (fun f fd F=>ok_sc F dNumbers dFaded nlen nenu) fun _ _ _ _ _ _ us hl=>match us,hl with | [_,_],_=>rfl
 have dShown : Def l.prog w K mg base CX0 "shown" 4 ["clips"] spShown:=Def.of X G D.shown (fun f fd F=>ok_shown F dShowC) fun _ _ _ _ _ _ us hl=>match us,hl with | [_],_=>rfl
 have dLPlayed : Def l.prog w K mg base CX0 "_law_played" 32 ["_law_items", "_law_parts_here", "_law_reels"] spLPlayed:=Def.of X G D.lplayed (fun f fd F=>ok_lplayed F dPlayed M6 c6 hB6 M7 c7 hB7 hA7 I7.ek I7.xc x7_number) fun _ _ _ _ _ _ us hl=>match us,hl with | [_,_,_],_=>rfl
 have dLName : Def l.prog w K mg base CX0 "_law_name" 1 ["_law_name_here"] spLName:=Def.of X G D.lname (fun f fd F=>ok_lname F nint) fun _ _ _ _ _ _ us hl=>match us,hl with | [_],_=>rfl
 have dAlike : Def l.prog w K mg base CX0 "_law_alike" 5 ["_law_reels", "_law_one", "_law_other"] spAlike:=Def.of X G D.alike (fun f fd F=>ok_alike F dLName dKeyOf) fun _ _ _ _ _ _ us hl=>match us,hl with | [_,_,_],_=>rfl
 have dEnds : Def l.prog w K mg base CX0 "_law_ends" 1 ["_law_clips"] spEnds:=Def.of X G D.ends (fun f fd F=>ok_ends F) fun _ _ _ _ _ _ us hl=>match us,hl with | [_],_=>rfl
 exact ok_law FL dCell dPair dParts dList dOverL dLPlayed dEnds dAlike dShown nlst ndic nzip nlen nall
end K38
namespace Hd
open PySem PySem.W PyProof.Rows
noncomputable def q : Program:=view PySem.Challenge.pw_leadersplice_k38_whole_same_numbers [1,2,3,4,5,6,8,10,11,12,13,14,15,16,17,18,20,21,22,24,25,26,27,28,29,31,32,33,34,35,36,37,38,39,40,41,43,44,45,46,47,49,50,51,52,53,54,55,56,57,58,59,60,61]
noncomputable def lk:=look PySem.Challenge.pw_leadersplice_k38_whole_same_numbers q [] (fun s=>xlAt q [] s && recOk [] s) 5702
noncomputable def gd:=openGood q []
set_option maxHeartbeats 0 in
theorem made : yes lk gd = true:=by k_qdec
end Hd
open PySem PySem.W PyProof.Rows
local macro_rules | `(tactic| o_head $H)=>`(tactic| (
 refine holds_open (q:=Hd.q) (loose:=[]) (Xt:=fun s=>xlAt Hd.q [] s && recOk [] s) (XP:=XL Hd.q [])
  (Yf:=Hook.obs $H) (Ya:=Hook.val $H) (YP:=Hook.says $H) (N:=5702)
  (Hd.left_tw PySem.W.Fast.te11159589718668676419 PySem.W.Fast.te15256597767800516470 rfl rfl (fun _=>rfl) (fun w=>by kernel_rfl))
  (Hook.of $H) (Hook.keeps $H) (fun s e=>xl_of s (Bool.and_eq_true_iff.mp e).1) XL.keeps (by rfl) (by rfl) (by rfl)
  (fun s e=>recFacts_of (Bool.and_eq_true_iff.mp e).2) rfl (by assumption) ?h4 ⟨rfl,rfl,rfl,rfl,rfl,?h5⟩ ?hw ?hc
 (case h4=>decide +kernel)
 (case h5=>decide +kernel)
 (case hw=>w_witness2)
 (rename_i z; clear z)))
local macro_rules | `(tactic| walk_at "own def")=>`(tactic| (dsimp only [L2.KOf]; refine' L2.funIn_mk ?a ?l ?c ?k; (case a=>k_is); (case l=>k_is); (case c=>k_is); (case k=>k_is)))
set_option maxRecDepth 100000 in
set_option maxHeartbeats 0 in
theorem PySem.Challenge.cw_leadersplice_k38_whole_same_numbers_holds : PySem.Challenge.rw_leadersplice_k38_whole_same_numbers.Holds := by
 w_on; o_law; k_head
 k_fill
 refine L2.walk_ofK (l:=PySem.Challenge.rw_leadersplice_k38_whole_same_numbers) (n:=63) (k:=33) (x:="_law_script") (CX:=L2.CX0) (sp:=K38.spLaw) rfl (by decide) rfl ⟨rfl,by decide,by decide⟩ (fun w h Y=>PySem.W.kIn_of Y) ?F (fun K H a ns hl _ hS=>⟨a,ns,rfl,hS,hl,fun _=>rfl⟩) (fun _ _ _ _ z=>z)
 case F =>
  intro w mg fa h KX G hmg
  have D : K38.DsIn (L2.KOf KX):=by
   refine ⟨?_,?_,?_,?_,?_,?_,?_,?_,?_,?_,?_,?_,?_,?_,?_,?_,?_,?_,?_,?_,?_,?_,?_,?_,?_,?_,?_,?_,?_,?_,?_,?_,?_,?_,?_,?_,?_,?_,?_,?_,?_,?_⟩ <;> walk_at "own def"
  have Z : ∃ t,K38.NsIn (L2.KOf KX) t:=by
   dsimp only [L2.KOf]
   refine' K38.ns_mk ?a0 ?a1 ?a2 ?a3 ?a4 ?a5 ?e0 ?e1 ?e2 ?e3 ?e4 ?e5 ?b0 ?b1 ?b2 ?b3 ?b4 ?b5 ?b6 ?b7 ?b8 ?b9 ?b10 ?b11 ?b12 ?b13 ?b14
   (case a0=>k_is); (case a1=>k_is); (case a2=>k_is); (case a3=>k_is); (case a4=>k_is); (case a5=>k_is); (case e0=>kernel_rfl); (case e1=>kernel_rfl); (case e2=>kernel_rfl); (case e3=>kernel_rfl); (case e4=>kernel_rfl); (case e5=>kernel_rfl); (case b0=>k_is); (case b1=>k_is); (case b2=>k_is); (case b3=>k_is); (case b4=>k_is); (case b5=>k_is); (case b6=>k_is); (case b7=>k_is); (case b8=>k_is); (case b9=>k_is); (case b10=>k_is); (case b11=>k_is); (case b12=>k_is); (case b13=>k_is); (case b14=>k_is)
  have CC : ∃ c : K38.Cs,K38.CAll (L2.KOf KX) c:=by
   dsimp only [L2.KOf]
   refine' K38.cs_mk ?xm2 ?xm3 ?xm5 ?xm6 ?xm7 ?xlQ2 ?xlQ3 ?xlQ5 ?xlQ6 ?xlQ7 ?xhbQ2 ?xhbQ3 ?xhbQ5 ?xhbQ6 ?xhbQ7 ?xI2 ?xI3 ?xI7 ?xx2_reel ?xx2_frame ?xx3_name ?xx7_number ?xha7 ?xkq5 ?xkq6
   (case xm2=>k_is); (case xm3=>k_is); (case xm5=>k_is); (case xm6=>k_is); (case xm7=>k_is); (case xlQ2=>k_is); (case xlQ3=>k_is); (case xlQ5=>k_is); (case xlQ6=>k_is); (case xlQ7=>k_is); (case xhbQ2=>kernel_rfl); (case xhbQ3=>kernel_rfl); (case xhbQ5=>kernel_rfl); (case xhbQ6=>kernel_rfl); (case xhbQ7=>kernel_rfl); (case xx2_reel=>k_is); (case xx2_frame=>k_is); (case xx3_name=>k_is); (case xx7_number=>k_is); (case xha7=>kernel_rfl); (case xkq5=>k_exc); (case xkq6=>k_exc)
   case xI2 =>
    refine' L2.initIn_mk ?yhi ?yht ?yl ?ycc ?ykk ?ylC ?ytl ?yhcd ?yho ?yhdd ?ysa ?yhm ?yhmo ?yhga ?yhgn ?yhc ?yha ?yhn ?yhtk
    (case yhi=>k_is); (case yht=>k_is); (case yl=>k_is); (case ycc=>k_is); (case ykk=>k_is); (case ylC=>k_is); (case ytl=>kernel_rfl); (case yhcd=>k_is); (case yho=>kernel_rfl); (case yhdd=>kernel_rfl); (case ysa=>k_is); (case yhm=>k_is); (case yhmo=>k_is); (case yhga=>k_is); (case yhgn=>k_is); (case yhc=>kernel_rfl); (case yha=>k_is); (case yhn=>k_is); (case yhtk=>k_is)
   case xI3 =>
    refine' L2.initIn_mk ?zhi ?zht ?zl ?zcc ?zkk ?zlC ?ztl ?zhcd ?zho ?zhdd ?zsa ?zhm ?zhmo ?zhga ?zhgn ?zhc ?zha ?zhn ?zhtk
    (case zhi=>k_is); (case zht=>k_is); (case zl=>k_is); (case zcc=>k_is); (case zkk=>k_is); (case zlC=>k_is); (case ztl=>kernel_rfl); (case zhcd=>k_is); (case zho=>kernel_rfl); (case zhdd=>kernel_rfl); (case zsa=>k_is); (case zhm=>k_is); (case zhmo=>k_is); (case zhga=>k_is); (case zhgn=>k_is); (case zhc=>kernel_rfl); (case zha=>k_is); (case zhn=>k_is); (case zhtk=>k_is)
   case xI7 =>
    refine' L2.initIn_mk ?uhi ?uht ?ul ?ucc ?ukk ?ulC ?utl ?uhcd ?uho ?uhdd ?usa ?uhm ?uhmo ?uhga ?uhgn ?uhc ?uha ?uhn ?uhtk
    (case uhi=>k_is); (case uht=>k_is); (case ul=>k_is); (case ucc=>k_is); (case ukk=>k_is); (case ulC=>k_is); (case utl=>kernel_rfl); (case uhcd=>k_is); (case uho=>kernel_rfl); (case uhdd=>kernel_rfl); (case usa=>k_is); (case uhm=>k_is); (case uhmo=>k_is); (case uhga=>k_is); (case uhgn=>k_is); (case uhc=>kernel_rfl); (case uha=>k_is); (case uhn=>k_is); (case uhtk=>k_is)
  obtain ⟨t,Z⟩:=Z
  exact K38.all_mk KX G hmg D Z CC
