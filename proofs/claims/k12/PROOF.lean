import PyProof.Rows.All
import Wide.All
import OpenK.AllK
import Wide.FinOn
import Lean
import PyProof.EqAt
import PyProof.EqKinds
import PyProof.TupleCall
import PyProof.StationsW
import OpenK.KCls
import OpenK.KDescr
import OpenK.KWalk
import PyProof.ExcAttrAll.ValueError
import OpenK.KMake
import PyProof.InstStoreFacts
import PyProof.ExcClass3
import PyProof.StrBlockI
import PyProof.StrBlock2
import PyProof.StrLawsIn
import PyProof.StrLawsIdx
import PyProof.Rows.ReprOcc
import KE.IntTextLaws
import PyProof.CompFree
import PyProof.CompUse
import PyProof.ListRange
import PyProof.Rows.Range3
import KE.KStateDown
import PyProof.MaxThree
import PyProof.ListNew
import PyProof.WalksMore
import PyProof.ReprLoop
import KE.KRevIter
import PySem.PyData
import PyProof.ZipIter
import PyProof.TupleIter
import PyProof.Draws
import PyProof.EnumMake
import PyProof.AttrMiss
import PyProof.IsiH_list
import KE.KDictOf
import PyProof.DictItems
import KE.KPairComp
import KE.KEqDict
import PyProof.SumAny
import PyProof.Rows.SumGenD
import KE.KxText
import PySem.Challenge.RW_leadersplice_k12_played
set_option Elab.async false
set_option linter.all false
set_option maxRecDepth 100000
namespace L2
open PySem PySem.Spec PyProof.Rows
abbrev Key:=Sum Int Str
def keyIs : Key->Value->Bool
 | .inl k,v=>Value.isInt k v
 | .inr x,v=>Value.isStrOf x v
def keyH (w : World) : Key->Int
 | .inl k=>hashInt k
 | .inr x=>hashStr w x
theorem keyIs_shape : ∀ {k : Key} {v : Value},keyIs k v = true->(∃ i t,k = Sum.inl i/\v = Value.int i t) \/ (∃ x t,k = Sum.inr x/\v = Value.str x t)
 | .inl i,v,h=>by
  obtain ⟨t,e⟩:=Value.isInt_shape (k:=i) (v:=v) h
  exact .inl ⟨i,t,rfl,e⟩
 | .inr x,v,h=>by
  obtain ⟨t,e⟩:=Value.isStrOf_shape (x:=x) (v:=v) h
  exact .inr ⟨x,t,rfl,e⟩
theorem keyIs_int (i : Int) (t : Tok) : keyIs (.inl i) (.int i t) = true:=by simp [keyIs,Value.isInt]
theorem keyIs_str (x : Str) (t : Tok) : keyIs (.inr x) (.str x t) = true:=by simp [keyIs,Value.isStrOf]
theorem key_ll (a b : Int) : decide ((Sum.inl a : Key) = Sum.inl b) = (a == b):=by
 by_cases e : a = b
 ·subst e; simp
 ·have h : ¬ (Sum.inl a : Key) = Sum.inl b:=fun q=>e (Sum.inl.inj q)
  rw [decide_eq_false h]
  exact (beq_eq_false_iff_ne.mpr e).symm
theorem key_rr (a b : Str) : decide ((Sum.inr a : Key) = Sum.inr b) = decide (a = b):=by
 by_cases e : a = b
 ·subst e; simp
 ·have h : ¬ (Sum.inr a : Key) = Sum.inr b:=fun q=>e (Sum.inr.inj q)
  rw [decide_eq_false h,decide_eq_false e]
theorem key_lr (a : Int) (b : Str) : decide ((Sum.inl a : Key) = Sum.inr b) = false:=decide_eq_false (fun q=>nomatch q)
theorem key_rl (a : Str) (b : Int) : decide ((Sum.inr a : Key) = Sum.inl b) = false:=decide_eq_false (fun q=>nomatch q)
def mixKind (prog : Program) (w : World) : PySem.KeyKind prog w Key where
 is:=keyIs
 hash:=keyH w
 inj:=fun v a b ha hb=>by
  rcases keyIs_shape ha with ⟨i,t,rfl,rfl⟩ | ⟨x,t,rfl,rfl⟩
  ·rcases keyIs_shape hb with ⟨j,u,rfl,e⟩ | ⟨y,u,rfl,e⟩
   ·injection e with e1 _; rw [e1]
   ·exact nomatch e
  ·rcases keyIs_shape hb with ⟨j,u,rfl,e⟩ | ⟨y,u,rfl,e⟩
   ·exact nomatch e
   ·injection e with e1 _; rw [e1]
 byValue:=fun k v h=>by
  rcases keyIs_shape h with ⟨i,t,rfl,rfl⟩ | ⟨x,t,rfl,rfl⟩ <;> rfl
 pyHash:=fun hv h=>by
  rcases keyIs_shape hv with ⟨i,t,rfl,rfl⟩ | ⟨x,t,rfl,rfl⟩
  ·exact wpAny_pyHash_int h
  ·exact wpAny_pyHash_str h
 eqBool:=fun hu hv h=>by
  rcases keyIs_shape hu with ⟨i,t,rfl,rfl⟩ | ⟨x,t,rfl,rfl⟩
  ·rcases keyIs_shape hv with ⟨j,u,rfl,rfl⟩ | ⟨y,u,rfl,rfl⟩
   ·rw [key_ll] at h; exact wpAny_eqBool_int h
   ·rw [key_lr] at h; exact SeqAt.EqAt.int_str i t y u _ _ _ _ h
  ·rcases keyIs_shape hv with ⟨j,u,rfl,rfl⟩ | ⟨y,u,rfl,rfl⟩
   ·rw [key_rl] at h; exact SeqAt.EqAt.str_int x t j u _ _ _ _ h
   ·rw [key_rr] at h; exact wpAny_eqBool_str h
 «strs»:=fun k x t v h=>by
  rcases keyIs_shape h with ⟨i,u,rfl,e⟩ | ⟨y,u,rfl,e⟩
  ·exact nomatch e
  ·injection e with e1 _
   subst e1
   cases v <;> rfl
theorem mixKind_int (prog : Program) (w : World) (i : Int) (t : Tok) : (mixKind prog w).is (.inl i) (.int i t) = true:=keyIs_int i t
theorem mixKind_str (prog : Program) (w : World) (x : Str) (t : Tok) : (mixKind prog w).is (.inr x) (.str x t) = true:=keyIs_str x t
end L2
namespace L2
open PySem PySem.Spec PyProof.Rows
inductive V where
 | non | bl (b : Bool) | int (i : Int) | str (x : Str) | byt (b : Array UInt8) | flt (b : UInt64) | ref (a : Addr) | ty (n : String)
 deriving DecidableEq
def RelV : V->Value->Prop
 | .non,u=>u = Value.none
 | .bl b,u=>u = Value.bool b
 | .int i,u=>∃ t,u = Value.int i t
 | .str x,u=>∃ t,u = Value.str x t
 | .byt b,u=>∃ t,u = Value.bytes b t
 | .flt b,u=>∃ t,u = Value.float b t
 | .ref a,u=>u = Value.ref a
 | .ty n,u=>u = Value.type n
abbrev Vals : List V->List Value->Prop:=Paired RelV
theorem Vals.length {xs : List V} {us : List Value} (r : Vals xs us) : xs.length = us.length:=Paired.length r
theorem Vals.get : ∀ {xs : List V} {us : List Value} {i : Nat} {x : V},Vals xs us->xs[i]? = some x->∃ u,us[i]? = some u/\RelV x u
 | _,_,_,_,.nil,e=>by simp at e
 | _,_,0,_,.cons r _,e=>by simp at e; subst e; exact ⟨_,rfl,r⟩
 | _,_,i + 1,x,.cons _ t,e=>by
  obtain ⟨u,h1,h2⟩:=Vals.get (i:=i) (x:=x) t (by simpa using e)
  exact ⟨u,by simpa using h1,h2⟩
theorem Vals.set {x : V} {u : Value} (r : RelV x u) : ∀ {xs : List V} {us : List Value} (i : Nat),Vals xs us->Vals (xs.set i x) (us.set i u)
 | _,_,_,.nil=>.nil
 | _,_,0,.cons _ t=>.cons r t
 | _,_,i + 1,.cons q t=>.cons q (Vals.set r i t)
theorem Vals.append : ∀ {xs ys : List V} {us ws : List Value},Vals xs us->Vals ys ws->Vals (xs ++ ys) (us ++ ws)
 | _,_,_,_,.nil,s=>s
 | _,_,_,_,.cons r t,s=>.cons r (Vals.append t s)
theorem Vals.take : ∀ {xs : List V} {us : List Value} (n : Nat),Vals xs us->Vals (xs.take n) (us.take n)
 | _,_,0,_=>.nil
 | _,_,_ + 1,.nil=>.nil
 | _,_,n + 1,.cons r t=>.cons r (Vals.take n t)
theorem Vals.drop : ∀ {xs : List V} {us : List Value} (n : Nat),Vals xs us->Vals (xs.drop n) (us.drop n)
 | _,_,0,r=>r
 | _,_,_ + 1,.nil=>.nil
 | _,_,n + 1,.cons _ t=>Vals.drop n t
def RelO : Option V->Option Value->Prop
 | some v,some u=>RelV v u
 | none,none=>True
 | _,_=>False
def KV {κ : Type} : List (κ × V)->List (κ × Value)->Prop:=Paired fun (p : κ × V) (q : κ × Value)=>p.1 = q.1/\RelV p.2 q.2
def kV : Key->V
 | .inl i=>.int i
 | .inr x=>.str x
inductive HO where
  | lst (xs : List V)
  | tup (xs : List V)
  | dK (kvs : List (Key × V)) | dT (kvs : List (List Key × V))
  | set (S : Int->Bool) (n : Nat)
  | ins (C dx : Addr) (fs : List (Str × V))
  | own (x : Addr)
  | xd (fs : List (Str × V))
  | met (f x : Addr)
  | rng (lo hi : Int)
  | frz (o : Obj) (u : HO)
  | tbl (ps : Array Value)
  | ext (φ : Heap->Prop)
abbrev Hp:=Addr->Option HO
def upd (H : Hp) (a : Addr) (o : HO) : Hp:=fun b=>if b = a then some o else H b
theorem upd_same {H : Hp} {a : Addr} {o : HO} : upd H a o a = some o:=by unfold upd; rw [if_pos rfl]
theorem upd_ne {H : Hp} {a b : Addr} {o : HO} (h : b ≠ a) : upd H a o b = H b:=by unfold upd; rw [if_neg h]
theorem ne_of {H : Hp} {a b : Addr} {o u : HO} (h : H a = some o) (h' : H b = some u) (d : o ≠ u) : a ≠ b:=by
 intro e; subst e; rw [h] at h'; exact d (Option.some.inj h')
theorem ne_of_none {H : Hp} {a b : Addr} {o : HO} (h : H a = some o) (h' : H b = none) : a ≠ b:=by
 intro e; subst e; rw [h] at h'; cases h'
section
variable (P : Program) (w : World)
def ObjOk (H : Hp) (h : Heap) (a : Addr) : HO->Prop
 | .lst xs=>xs.length <= sizeLine/\∃ (its : List Value) (n : Nat),Vals xs its/\h.get? a = some { cls:=.type "list",data:=.seq its.toArray n }
 | .tup xs=>xs.length <= sizeLine/\∃ its : List Value,Vals xs its/\IsTup h a its.toArray
 | .dK kvs=>kvs.length <= sizeLine/\(a == sysModules) = false/\∃ vs,KV kvs vs/\h.DictOf (mixKind P w) a vs
 | .dT kvs=>kvs.length <= sizeLine/\(a == sysModules) = false/\∃ xs : List (List Key × Addr × Value),
   Paired (fun (p : List Key × V) (q : List Key × Addr × Value)=>p.1 = q.1/\H q.2.1 = some (.tup (p.1.map kV))/\RelV p.2 q.2.2) kvs xs /\
   ∃ o es ep,h.get? a = some o/\o.ExactDict/\o.data = .dict es ep/\es.toList = xs.map (entryOfKey (tupleKind (mixKind P w)))/\(xs.map (·.1)).Nodup
 | .set S n=>h.SetOf (intKind P w) a S n
 | .ins C dx fs=>H dx = some (.own a)/\fs.length <= 1000/\dx ≠ a/\h.get? a = some (PySem.W.instObj C dx) /\
   ∃ mA,h.Ns1 dx mA/\(∀ f,RelO (fs.lookup f) (mA f))/\PySem.Within mA (fs.map (·.1))
 | .own _=>∃ o,h.get? a = some o
 | .xd fs=>∃ mA,h.Ns1 a mA/\∀ f,RelO (fs.lookup f) (mA f)
 | .rng lo hi=>∃ t u v,h.get? a = some { cls:=.type "range",data:=.fields #[.int lo t,.int hi u,.int 1 v] }
 | .frz o u=>h.get? a = some o/\ObjOk H h a u
 | .tbl ps=>h.get? a = some { cls:=.none,data:=.fields ps }
 | .met f x=>h.get? a = some (PySem.W.methodObj (.ref f) (.ref x))
 | .ext φ=>φ h/\(∃ o,h.get? a = some o)/\∀ h1 h2 : Heap,φ h1->(∀ o,h1.get? a = some o->h2.get? a = some o)->φ h2
def HOk (H : Hp) (h : Heap) : Prop:=∀ a o,H a = some o->ObjOk P w H h a o
end
section
variable {P : Program} {w : World} {H H' : Hp} {h h' : Heap} {a : Addr} {o : HO}
theorem ObjOk.lt (x : ObjOk P w H h a o) : a < h.objs.size:=by
 cases o with
 | lst xs=>obtain ⟨_,_,_,_,e⟩:=x; exact Heap.lt_size e
 | tup xs=>obtain ⟨_,_,_,p⟩:=x; exact p.lt
 | dK kvs=>obtain ⟨_,_,_,_,o,_,_,e,_⟩:=x; exact Heap.lt_size e
 | dT kvs=>obtain ⟨_,_,_,_,o,_,_,e,_⟩:=x; exact Heap.lt_size e
 | set S n=>obtain ⟨o,_,_,_,e,_⟩:=x; exact Heap.lt_size e
 | ins C dx fs=>obtain ⟨_,_,_,e,_⟩:=x; exact Heap.lt_size e
 | own y=>obtain ⟨_,e⟩:=x; exact Heap.lt_size e
 | xd fs=>obtain ⟨_,⟨_,_,_,e,_⟩,_⟩:=x; exact Heap.lt_size e
 | rng lo hi=>obtain ⟨_,_,_,e⟩:=x; exact Heap.lt_size e
 | frz ob u=>obtain ⟨e,_⟩:=x; exact Heap.lt_size e
 | tbl ps=>exact Heap.lt_size (show h.get? a = some _ from x)
 | met f y=>exact Heap.lt_size (show h.get? a = some _ from x)
 | ext φ=>obtain ⟨_,⟨_,e⟩,_⟩:=x; exact Heap.lt_size e
theorem Paired.mapP {α β : Type} {F G : α->β->Prop} : ∀ {l₁ : List α} {l₂ : List β},Paired F l₁ l₂->(∀ a b,F a b->G a b)->Paired G l₁ l₂
 | _,_,.nil,_=>.nil
 | _,_,.cons r t,f=>.cons (f _ _ r) (Paired.mapP t f)
theorem ObjOk.stay (x : ObjOk P w H h a o) (k : ∀ b u,(b = a \/ H b = some (.own a))->h.get? b = some u->h'.get? b = some u)
  (ho : ∀ b,H b = some (.own a)->H' b = some (.own a)) (ht : ∀ b xs,H b = some (.tup xs)->H' b = some (.tup xs)) : ObjOk P w H' h' a o:=by
 induction o with
 | lst xs=>obtain ⟨z,its,n,r,e⟩:=x; exact ⟨z,its,n,r,k _ _ (.inl rfl) e⟩
 | tup xs=>obtain ⟨z,its,r,ob,e,c⟩:=x; exact ⟨z,its,r,ob,k _ _ (.inl rfl) e,c⟩
 | dK kvs=>obtain ⟨z,y,vs,r,ob,es,ep,e,c⟩:=x; exact ⟨z,y,vs,r,ob,es,ep,k _ _ (.inl rfl) e,c⟩
 | dT kvs =>
  obtain ⟨z,y,xs,r,ob,es,ep,e,c⟩:=x
  exact ⟨z,y,xs,Paired.mapP r fun p q z=>⟨z.1,ht _ _ z.2.1,z.2.2⟩,ob,es,ep,k _ _ (.inl rfl) e,c⟩
 | set S n=>obtain ⟨ob,es,ep,t,e,c⟩:=x; exact ⟨ob,es,ep,t,k _ _ (.inl rfl) e,c⟩
 | ins C dx fs =>
  obtain ⟨d,z,ne,e,mA,⟨od,es,ep,e2,c⟩,r⟩:=x
  exact ⟨ho _ d,z,ne,k _ _ (.inl rfl) e,mA,⟨od,es,ep,k _ _ (.inr d) e2,c⟩,r⟩
 | own y=>obtain ⟨ob,e⟩:=x; exact ⟨ob,k _ _ (.inl rfl) e⟩
 | xd fs=>obtain ⟨mA,⟨od,es,ep,e,c⟩,r⟩:=x; exact ⟨mA,⟨od,es,ep,k _ _ (.inl rfl) e,c⟩,r⟩
 | rng lo hi=>obtain ⟨t,u,v,e⟩:=x; exact ⟨t,u,v,k _ _ (.inl rfl) e⟩
 | frz ob u ih=>obtain ⟨e,q⟩:=x; exact ⟨k _ _ (.inl rfl) e,ih q⟩
 | tbl ps =>
  have e : h.get? a = some { cls:=.none,data:=.fields ps }:=x
  show h'.get? a = some { cls:=.none,data:=.fields ps }
  exact k a _ (.inl rfl) e
 | met f y =>
  have e : h.get? a = some (PySem.W.methodObj (.ref f) (.ref y)):=x
  show h'.get? a = some (PySem.W.methodObj (.ref f) (.ref y))
  exact k a _ (.inl rfl) e
 | ext φ=>obtain ⟨p,⟨o,e⟩,st⟩:=x; exact ⟨st _ _ p fun o q=>k _ _ (.inl rfl) q,⟨o,k _ _ (.inl rfl) e⟩,st⟩
theorem HOk.lt (x : HOk P w H h) (e : H a = some o) : a < h.objs.size:=(x a o e).lt
theorem HOk.fresh (x : HOk P w H h) (e : h.objs.size <= a) : H a = none:=by
 cases q : H a with
 | none=>rfl
 | some u=>exact absurd (Nat.lt_of_lt_of_le (x.lt q) e) (Nat.lt_irrefl _)
theorem HOk.kept (x : HOk P w H h) (k : ∀ b u,h.get? b = some u->h'.get? b = some u) : HOk P w H h':=fun a o e =>
 (x a o e).stay (fun b u _ q=>k b u q) (fun _ q=>q) fun _ _ q=>q
theorem HOk.laid (x : HOk P w H h) (k : ∀ b u,h.get? b = some u->h'.get? b = some u) (hp : h.objs.size <= a) (new : ObjOk P w (upd H a o) h' a o) : HOk P w (upd H a o) h':=fun b u e=>by
 have hn:=x.fresh hp
 by_cases hb : b = a
 ·subst hb; rw [upd_same] at e; cases e; exact new
 ·rw [upd_ne hb] at e
  exact (x b u e).stay (fun c v _ q=>k c v q) (fun c q=>by rw [upd_ne (ne_of_none q hn)]; exact q) fun c xs q=>by rw [upd_ne (ne_of_none q hn)]; exact q
end
def Rd (H : Hp) (a : Addr) (u : HO) : Prop:=H a = some u \/ ∃ o,H a = some (.frz o u)
theorem Rd.ok {P : Program} {w : World} {H : Hp} {h : Heap} {a : Addr} {u : HO} (r : Rd H a u) (x : HOk P w H h) : ObjOk P w H h a u:=by
 rcases r with r | ⟨o,r⟩
 ·exact x a u r
 ·obtain ⟨_,q⟩:=x a _ r
  exact q
def Mut : Option HO->Prop
 | some (.lst _)=>True
 | some (.dK _)=>True
 | some (.dT _)=>True
 | some (.set _ _)=>True
 | some (.ins _ _ _)=>True
 | some (.ext _)=>True
 | _=>False
section
variable {P : Program} {w : World} {H : Hp} {h h' : Heap} {x e : Addr} {o' : HO}
theorem HOk.write (ok : HOk P w H h) (mu : Mut (H x)) (he : e = x \/ H e = some (.own x)) (k : ∀ b u,b ≠ e->h.get? b = some u->h'.get? b = some u) (heo : ∃ u,h'.get? e = some u)
  (new : ObjOk P w (upd H x o') h' x o') : HOk P w (upd H x o') h':=fun b u q=>by
 have nown : ∀ c y,H c = some (.own y)->c ≠ x:=fun c y r z=>by subst z; rw [r] at mu; exact mu
 have ntup : ∀ c xs,H c = some (.tup xs)->c ≠ x:=fun c xs r z=>by subst z; rw [r] at mu; exact mu
 by_cases hb : b = x
 ·subst hb; rw [upd_same] at q; cases q; exact new
 ·rw [upd_ne hb] at q
  by_cases hbe : b = e
  ·have q' : H b = some (.own x):=by
    rcases he with z | z
    ·exact absurd (hbe.trans z) hb
    ·rw [hbe]; exact z
   rw [q] at q'; cases q'
   obtain ⟨v,hv⟩:=heo
   exact ⟨v,by rw [hbe]; exact hv⟩
  ·refine (ok b u q).stay (fun c v hc r=>k c v ?_ r) (fun c r=>by rw [upd_ne (nown c b r)]; exact r) fun c xs r=>by rw [upd_ne (ntup c xs r)]; exact r
   rcases hc with rfl | hc
   ·exact hbe
   ·rintro rfl
    rcases he with z | z
    ·exact nown c b hc z
    ·rw [hc] at z; cases z; exact hb rfl
end
structure Un (fs ex : List Addr) (H H' : Hp) (h h' : Heap) : Prop where
 keep : ∀ b o,h.get? b = some o->H b = none->b ∉ fs->b ∉ ex->h'.get? b = some o
 slot : ∀ b o,h.get? b = some o->H b = none->b ∈ fs->b ∉ ex->∃ sl,h'.get? b = some { o with slots:=sl }
 free : ∀ b o,h.get? b = some o->H b = none->b ∉ ex->H' b = none
 there : ∀ b o,h.get? b = some o->b ∉ ex->∃ o',h'.get? b = some o'
 tups : ∀ b xs,H b = some (.tup xs)->H' b = some (.tup xs)
 frzs : ∀ b o u,H b = some (.frz o u)->H' b = some (.frz o u)
 tbls : ∀ b ps,H b = some (.tbl ps)->∃ more,H' b = some (.tbl (ps ++ more))
section
variable {fs fs' ex ex' : List Addr} {H H1 H2 : Hp} {h h1 h2 h' : Heap} {a x e : Addr} {o : HO}
theorem Un.any (u : Un fs ex H H1 h h1) {b : Addr} {ob : Obj} (q : h.get? b = some ob) (n : H b = none) (hx : b ∉ ex) : ∃ sl,h1.get? b = some { ob with slots:=sl }:=by
 by_cases hb : b ∈ fs
 ·exact u.slot b ob q n hb hx
 ·exact ⟨ob.slots,u.keep b ob q n hb hx⟩
theorem Un.kept (k : ∀ b u,h.get? b = some u->h'.get? b = some u) : Un fs ex H H h h' :=
 ⟨fun b ob q _ _ _=>k b ob q,fun b ob q _ _ _=>⟨ob.slots,k b ob q⟩,fun _ _ _ n _=>n,fun b ob q _=>⟨ob,k b ob q⟩,fun _ _ q=>q,fun _ _ _ q=>q,fun _ ps q=>⟨#[],by rw [q]; simp⟩⟩
theorem Un.refl : Un fs ex H H h h:=Un.kept fun _ _ q=>q
theorem Un.laid (k : ∀ b u,h.get? b = some u->h'.get? b = some u) (hp : h.objs.size <= a) (hn : H a = none) : Un fs ex H (upd H a o) h h' where
 keep:=fun b u q _ _ _=>k b u q
 slot:=fun b u q _ _ _=>⟨u.slots,k b u q⟩
 free:=fun b u q n _=>by rw [upd_ne (Nat.ne_of_lt (Nat.lt_of_lt_of_le (Heap.lt_size q) hp))]; exact n
 there:=fun b u q _=>⟨u,k b u q⟩
 tups:=fun b xs q=>by rw [upd_ne (ne_of_none q hn)]; exact q
 frzs:=fun b u xs q=>by rw [upd_ne (ne_of_none q hn)]; exact q
 tbls:=fun b ps q=>⟨#[],by rw [upd_ne (ne_of_none q hn),q]; simp⟩
theorem Un.write (mu : Mut (H x)) (he : e = x \/ H e = some (.own x)) (k : ∀ b u,b ≠ e->h.get? b = some u->h'.get? b = some u) (heo : ∃ u,h'.get? e = some u) : Un fs ex H (upd H x o) h h':=by
 have hx : ∀ b,H b = none->b ≠ x:=fun b n z=>by subst z; rw [n] at mu; exact mu
 have hb : ∀ b,H b = none->b ≠ e:=fun b n z=>by
  subst z
  rcases he with r | r
  ·exact hx b n r
  ·rw [n] at r; cases r
 have hm : ∀ b u,H b = some u->¬ Mut (some u)->b ≠ x:=fun b u q nm z=>by subst z; rw [q] at mu; exact nm mu
 refine ⟨fun b u q n _ _=>k b u (hb b n) q,fun b u q n _ _=>⟨u.slots,k b u (hb b n) q⟩,fun b u q n _=>by rw [upd_ne (hx b n)]; exact n,fun b u q _=>?_,
  fun b xs q=>by rw [upd_ne (hm b _ q fun z=>z)]; exact q,fun b u xs q=>by rw [upd_ne (hm b _ q fun z=>z)]; exact q,fun b ps q=>⟨#[],by rw [upd_ne (hm b _ q fun z=>z),q]; simp⟩⟩
 by_cases hbe : b = e
 ·subst hbe; exact heo
 ·exact ⟨u,k b u hbe q⟩
end
def trk (h : Heap) (H : Hp) : List Addr:=(List.range h.objs.size).filter fun a=>(H a).isSome
def hidT (h : Heap) (H : Hp) : Heap:=PySem.W.hideAll h (trk h H)
theorem hidT_size (h : Heap) (H : Hp) : (hidT h H).objs.size = h.objs.size:=PySem.W.hideAll_size _ _
theorem hidT_get {h : Heap} {H : Hp} {b : Addr} {o : Obj} (e : h.get? b = some o) (n : H b = none) : (hidT h H).get? b = some o :=
 PySem.W.hideAll_get _ e fun hm=>by
  have q : (H b).isSome = true:=(List.mem_filter.mp hm).2
  rw [n] at q; simp at q
theorem of_hidT {h : Heap} {H : Hp} {b : Addr} {o : Obj} (e : (hidT h H).get? b = some o) : h.get? b = some o/\H b = none:=by
 have e' : h.get? b = some o:=PySem.W.of_hideAll (trk h H) e
 refine ⟨e',?_⟩
 cases q : H b with
 | none=>rfl
 | some x =>
  have hm : b ∈ trk h H:=List.mem_filter.mpr ⟨List.mem_range.mpr (Heap.lt_size e'),by simp [q]⟩
  have z : (hidT h H).get? b = none:=PySem.W.hideAll_none (trk h H) hm
  rw [z] at e; cases e
def allNews (g h : Heap) (L : Addr) : List (Addr × Obj):=(List.range h.objs.size).filterMap fun a=>if a = L \/ (g.get? a).isSome = true then none else (h.get? a).map fun o=>(a,o)
def rest (g h : Heap) (L d : Addr) : List (Addr × Obj):=(allNews g h L).filter fun p=>decide (p.1 ≠ d)
end L2
namespace L2
open PySem PySem.Spec PyProof.Rows
structure Mod (K : PySem.W.Frag) (mg : Str->Option Value) (base : Heap) : Prop where
 kin : K.In base
 glob : base.Ns mainGlobals mg
 blt : ∃ mb,base.Ns builtinsNs mb/\∀ x : Str,x ≠ "__name__"->mb x = bootBuiltins x
 nolimit : base.NoLimit
structure Cx where
 prog : Program
 w : World
 K : PySem.W.Frag
 mg : Str->Option Value
 base : Heap
 A : Around
 N : List Str
 s₀ : Shared
 H₀ : Hp
 env : Env
 outer : List Env
 stack : List Env
 ex : List Addr
 fn : Str->Bool
 calm : Bool
 pn : List (Addr × Obj)
 xe : Value->Shared->Prop
def frs (l : List Env) : List Addr:=l.filterMap (·.frame)
abbrev Cx.fs (X : Cx) : List Addr:=frs X.outer
def Vis (sc : Scope) (x : Str) : Prop:=sc.names.lookup x = some .local \/ sc.names.lookup x = some .cell \/ sc.names.lookup x = some .free
def Loc (sc : Scope) (x : Str) : Prop:=sc.names.lookup x = some .local \/ sc.names.lookup x = some .cell
def Look (env : Env) (h : Heap) (m : Str->Option Value) (x : Str) (u : Value) : Prop :=
 (env.kindOf x = some .local/\m x = some u) \/ ((env.kindOf x = some .cell \/ env.kindOf x = some .free)/\∃ c,env.cells.lookup x = some c/\h.IsCell c (some u))
structure Cx.Ok (X : Cx) : Prop where
 mod : Mod X.K X.mg X.base
 kind : X.env.scope.kind = .function
 glob : X.env.globals = mainGlobals
 blt : X.env.builtins = builtinsNs
 above : X.s₀.heap.objs.size <= X.env.locals
 inj : ∀ x y c,X.env.cells.lookup x = some c->X.env.cells.lookup y = some c->x = y
 has : ∀ x,(X.env.kindOf x = some .cell \/ X.env.kindOf x = some .free)->∃ c,X.env.cells.lookup x = some c
 cab : ∀ x c,X.fn x = true->X.env.cells.lookup x = some c->X.s₀.heap.objs.size <= c
 hd : X.calm = true->X.A.handled = none
 frames : X.A.frames = some X.stack
 stk : X.stack = X.outer \/ (X.stack = X.env :: X.outer/\X.env.frame = some X.env.locals)
 exf : ∀ b ∈ X.ex,b ≠ X.env.locals/\∀ x c,X.env.cells.lookup x = some c->c ≠ b
 bs : ∀ b o,X.base.get? b = some o->X.s₀.heap.get? b = some o/\X.H₀ b = none
 bsz : X.base.objs.size <= X.s₀.heap.objs.size
 noex : ∀ b o,X.base.get? b = some o->b ∉ X.ex
 exfs : ∀ b ∈ X.ex,b ∉ X.fs
 funs : X.s₀.heap.FunFrames X.base X.outer
 frf : ∀ b ∈ X.fs,X.H₀ b = none
structure Inv (X : Cx) (pins : List (Addr × Obj)) (σ : List (Option V)) (H : Hp) (s : Shared) : Prop where
 ok : X.Ok
 os : s.os = X.s₀.os
 bare : AllBare s.gens
 base : Un X.fs X.ex X.H₀ H X.s₀.heap s.heap
 loc : ∃ m,s.heap.Ns X.env.locals m/\∀ (i : Nat) (x : Str) (v : V),X.N[i]? = some x->σ[i]? = some (some v)->Vis X.env.scope x->∃ u,RelV v u/\Look X.env s.heap m x u
 cell : ∀ x c,X.env.cells.lookup x = some c->∃ v,s.heap.IsCell c v
 free : H X.env.locals = none
 freeC : ∀ x c,X.env.cells.lookup x = some c->H c = none
 pin : ∀ p ∈ X.pn ++ pins,s.heap.get? p.1 = some p.2/\H p.1 = none/\p.1 ≠ X.env.locals/\p.1 ∉ X.fs/\∀ v,p.2.data ≠ .cell v
 hok : HOk X.prog X.w H s.heap
 len : σ.length = X.N.length
section
variable {X : Cx} {pins : List (Addr × Obj)} {σ : List (Option V)} {H H' : Hp} {s : Shared} {h' : Heap}
theorem Cx.Ok.nofr (ok : X.Ok) {b : Addr} {o : Obj} (e : X.base.get? b = some o) : b ∉ X.fs:=fun hb=>by
 have:=(ok.funs.mem hb).1
 rw [e] at this; cases this
theorem Inv.bs (I : Inv X pins σ H s) : ∀ b o,X.base.get? b = some o->s.heap.get? b = some o/\H b = none:=fun b o e =>
 ⟨I.base.keep b o (I.ok.bs b o e).1 (I.ok.bs b o e).2 (I.ok.nofr e) (I.ok.noex b o e),I.base.free b o (I.ok.bs b o e).1 (I.ok.bs b o e).2 (I.ok.noex b o e)⟩
theorem Inv.bk (I : Inv X pins σ H s) : ∀ b o,X.base.get? b = some o->s.heap.get? b = some o:=fun b o e=>(I.bs b o e).1
theorem Inv.mod (I : Inv X pins σ H s) : Mod X.K X.mg X.base:=I.ok.mod
theorem Inv.kIn (I : Inv X pins σ H s) : X.K.In s.heap:=I.ok.mod.kin.keeps I.bk
theorem Inv.lt (I : Inv X pins σ H s) : X.env.locals < s.heap.objs.size:=let ⟨_,hn,_⟩:=I.loc; hn.lt
theorem Inv.sz (I : Inv X pins σ H s) : X.s₀.heap.objs.size <= s.heap.objs.size:=Nat.le_trans I.ok.above (Nat.le_of_lt I.lt)
theorem Inv.nofs (I : Inv X pins σ H s) {a : Addr} (h : s.heap.objs.size <= a) : a ∉ X.fs:=fun hb=>by
 obtain ⟨_,o,ho,_⟩:=I.ok.funs.mem hb
 exact absurd (Nat.lt_of_lt_of_le (Heap.lt_size ho) (Nat.le_trans I.sz h)) (Nat.lt_irrefl _)
theorem Inv.cne (I : Inv X pins σ H s) : ∀ x c,X.env.cells.lookup x = some c->c ≠ X.env.locals:=fun x c e z=>by
 obtain ⟨v,o,ho,hd⟩:=I.cell x c e
 obtain ⟨m,⟨o',es,ep,ho',hd',_⟩,_⟩:=I.loc
 rw [z,ho'] at ho; cases ho; rw [hd'] at hd; cases hd
theorem Inv.funs (I : Inv X pins σ H s) : s.heap.FunFrames X.base X.outer:=by
 have all : ∀ (l : List Env),(∀ b ∈ frs l,b ∈ X.fs)->X.s₀.heap.FunFrames X.base l->s.heap.FunFrames X.base l:=by
  intro l
  induction l with
  | nil=>intro _ _; trivial
  | cons env r ih =>
   intro hs hl
   obtain ⟨hk,⟨L,o,hf,hn,ho,hd⟩,hr⟩:=hl
   have hL : L ∈ X.fs:=hs L (by unfold frs; rw [List.filterMap_cons,hf]; exact List.mem_cons_self)
   obtain ⟨sl,e⟩:=I.base.slot L o ho (I.ok.frf L hL) hL fun z=>I.ok.exfs L z hL
   exact ⟨hk,⟨L,_,hf,hn,e,hd⟩,ih (fun b hb=>hs b (by unfold frs; rw [List.filterMap_cons,hf]; exact List.mem_cons_of_mem _ hb)) hr⟩
 exact all X.outer (fun _ hb=>hb) I.ok.funs
theorem Inv.stack (I : Inv X pins σ H s) : s.heap.FunFrames X.base X.stack:=by
 rcases I.ok.stk with e | ⟨e,hf⟩
 ·rw [e]; exact I.funs
 ·rw [e]
  obtain ⟨m,hn,_⟩:=I.loc
  refine .cons (by rw [I.ok.kind]; decide) hf hn ?_ I.funs
  exact Heap.get?_none_of_le (Nat.le_trans I.ok.bsz I.ok.above)
theorem Inv.stkSub (I : Inv X pins σ H s) : ∀ b ∈ frs X.stack,b ∈ X.env.locals :: X.fs:=fun b hb=>by
 rcases I.ok.stk with e | ⟨e,hf⟩
 ·rw [e] at hb; exact List.mem_cons_of_mem _ hb
 ·rw [e] at hb
  unfold frs at hb
  rw [List.filterMap_cons,hf] at hb
  exact hb
theorem Inv.stkFree (I : Inv X pins σ H s) : ∀ b ∈ frs X.stack,H b = none:=fun b hb=>by
 rcases List.mem_cons.mp (I.stkSub b hb) with e | hb
 ·rw [e]; exact I.free
 ·obtain ⟨_,o,ho,_⟩:=I.ok.funs.mem hb
  exact I.base.free b o ho (I.ok.frf b hb) fun z=>I.ok.exfs b z hb
/-- THE STEP: the untracked objects but the frame and the records at ch are kept (the callers' frames up to slots),the frame's map is kept,the new abstract heap is held -/
theorem Inv.step {g' : Array GenState} {t' : Nat} {d' : Drawn} {ch : List Addr} (I : Inv X pins σ H s)
  (hch : ∀ b ∈ ch,(b ∈ X.ex \/ X.s₀.heap.objs.size <= b)/\b ≠ X.env.locals/\(∀ x c,X.env.cells.lookup x = some c->c ≠ b)/\∀ p ∈ X.pn ++ pins,p.1 ≠ b)
  (keep : ∀ b o,b ≠ X.env.locals->b ∉ X.fs->b ∉ ch->s.heap.get? b = some o->H b = none->h'.get? b = some o)
  (slot : ∀ b o,b ≠ X.env.locals->b ∈ X.fs->b ∉ ch->s.heap.get? b = some o->H b = none->∃ sl,h'.get? b = some { o with slots:=sl }) (free : ∀ b o,b ∉ ch->s.heap.get? b = some o->H b = none->H' b = none)
  (there : ∀ b o,b ∉ ch->s.heap.get? b = some o->∃ o',h'.get? b = some o')
  (tups : ∀ b xs,H b = some (.tup xs)->H' b = some (.tup xs)) (frzs : ∀ b o u,H b = some (.frz o u)->H' b = some (.frz o u)) (tbls : ∀ b ps,H b = some (.tbl ps)->∃ more,H' b = some (.tbl (ps ++ more)))
  (ns : ∀ m,s.heap.Ns X.env.locals m->h'.Ns X.env.locals m) (hok : HOk X.prog X.w H' h') (hg : AllBare g') :
  Inv X pins σ H' { s with heap:=h',gens:=g',drawn:=d',toks:=t' }:=by
 have neL : ∀ b o,X.s₀.heap.get? b = some o->b ≠ X.env.locals:=fun b o e=>Nat.ne_of_lt (Nat.lt_of_lt_of_le (Heap.lt_size e) I.ok.above)
 have neC : ∀ b o,X.s₀.heap.get? b = some o->b ∉ X.ex->b ∉ ch:=fun b o e hx hb=>by
  rcases (hch b hb).1 with z | z
  ·exact hx z
  ·exact absurd (Nat.lt_of_lt_of_le (Heap.lt_size e) z) (Nat.lt_irrefl _)
 have cellK : ∀ x c,X.env.cells.lookup x = some c->∀ v,s.heap.IsCell c v->h'.IsCell c v:=fun x c e v ⟨o,ho,hd⟩=>by
  have nch : c ∉ ch:=fun z=>(hch c z).2.2.1 x c e rfl
  by_cases hc : c ∈ X.fs
  ·obtain ⟨sl,q⟩:=slot c o (I.cne x c e) hc nch ho (I.freeC x c e)
   exact ⟨_,q,hd⟩
  ·exact ⟨o,keep c o (I.cne x c e) hc nch ho (I.freeC x c e),hd⟩
 refine ⟨I.ok,I.os,hg,⟨fun b o e n hb hx=>?_,fun b o e n hb hx=>?_,fun b o e n hx=>?_,fun b o e hx=>?_,fun b xs e=>tups b xs (I.base.tups b xs e),fun b o xs e=>frzs b o xs (I.base.frzs b o xs e),fun b ps e=>?_⟩,?_,fun x c e=>?_,?_,fun x c e=>?_,fun p hp=>?_,hok,I.len⟩
 ·exact keep b o (neL b o e) hb (neC b o e hx) (I.base.keep b o e n hb hx) (I.base.free b o e n hx)
 ·obtain ⟨sl,e1⟩:=I.base.slot b o e n hb hx
  obtain ⟨sl',e2⟩:=slot b _ (neL b o e) hb (neC b o e hx) e1 (I.base.free b o e n hx)
  exact ⟨sl',e2⟩
 ·obtain ⟨o',e1⟩:=I.base.there b o e hx
  exact free b o' (neC b o e hx) e1 (I.base.free b o e n hx)
 ·obtain ⟨o',e1⟩:=I.base.there b o e hx
  exact there b o' (neC b o e hx) e1
 ·obtain ⟨m1,e1⟩:=I.base.tbls b ps e
  obtain ⟨m2,e2⟩:=tbls b _ e1
  exact ⟨m1 ++ m2,by rw [e2,Array.append_assoc]⟩
 ·obtain ⟨m,hn,hl⟩:=I.loc
  refine ⟨m,ns m hn,fun i x v e1 e2 e3=>?_⟩
  obtain ⟨u,r,l⟩:=hl i x v e1 e2 e3
  refine ⟨u,r,?_⟩
  rcases l with l | ⟨k,c,e,z⟩
  ·exact .inl l
  ·exact .inr ⟨k,c,e,cellK x c e _ z⟩
 ·obtain ⟨v,z⟩:=I.cell x c e
  exact ⟨v,cellK x c e v z⟩
 ·obtain ⟨m,⟨o,_,_,ho,_⟩,_⟩:=I.loc
  exact free _ o (fun z=>(hch _ z).2.1 rfl) ho I.free
 ·obtain ⟨v,o,ho,hd⟩:=I.cell x c e
  exact free c o (fun z=>(hch c z).2.2.1 x c e rfl) ho (I.freeC x c e)
 ·obtain ⟨e,n,ne,nf,d⟩:=I.pin p hp
  have nch : p.1 ∉ ch:=fun z=>(hch p.1 z).2.2.2 p hp rfl
  exact ⟨keep p.1 p.2 ne nf nch e n,free p.1 p.2 nch e n,ne,nf,d⟩
theorem Inv.un {t' : Nat} (I : Inv X pins σ H s) (u : Un X.fs [] H H' s.heap h') (hok : HOk X.prog X.w H' h') : Inv X pins σ H' { s with heap:=h',toks:=t' }:=by
 obtain ⟨m,⟨o,es,ep,ho,r⟩,_⟩:=id I.loc
 obtain ⟨sl,hL⟩:=u.any ho I.free (by simp)
 exact I.step (g':=s.gens) (d':=s.drawn) (ch:=[]) (fun _ z=>nomatch z) (fun b o _ hb _ e n=>u.keep b o e n hb (by simp)) (fun b o _ hb _ e n=>u.slot b o e n hb (by simp)) (fun b o _ e n=>u.free b o e n (by simp)) (fun b o _ e=>u.there b o e (by simp)) u.tups u.frzs u.tbls (fun m' hm=>by
  obtain ⟨o',es',ep',ho',r'⟩:=hm
  rw [ho] at ho'; cases ho'
  exact ⟨_,es',ep',hL,r'⟩) hok I.bare
theorem Inv.call {g' : Array GenState} {t' : Nat} {d' : Drawn} {ch : List Addr} (I : Inv X pins σ H s) (u : Un (frs X.stack) ch H H' s.heap h') (hok : HOk X.prog X.w H' h') (hg : AllBare g')
  (hch : ∀ b ∈ ch,(b ∈ X.ex \/ X.s₀.heap.objs.size <= b)/\b ≠ X.env.locals/\(∀ x c,X.env.cells.lookup x = some c->c ≠ b)/\∀ p ∈ X.pn ++ pins,p.1 ≠ b) :
  Inv X pins σ H' { s with heap:=h',gens:=g',drawn:=d',toks:=t' }:=by
 obtain ⟨m,⟨o,es,ep,ho,r⟩,_⟩:=id I.loc
 obtain ⟨sl,hL⟩:=u.any ho I.free fun z=>(hch _ z).2.1 rfl
 exact I.step (ch:=ch) hch (fun b o hL hb hc e n=>u.keep b o e n (fun z=>(List.mem_cons.mp (I.stkSub b z)).elim hL hb) hc) (fun b o _ _ hc e n=>u.any e n hc) (fun b o hc e n=>u.free b o e n hc) (fun b o hc e=>u.there b o e hc) u.tups u.frzs u.tbls (fun m' hm=>by
  obtain ⟨o',es',ep',ho',r'⟩:=hm
  rw [ho] at ho'; cases ho'
  exact ⟨_,es',ep',hL,r'⟩) hok hg
theorem Inv.turned {t' : Nat} {it : Addr} (I : Inv X pins σ H s) (k : ∀ b o,b ≠ it->s.heap.get? b = some o->h'.get? b = some o) (hn : H it = none) (hL : it ≠ X.env.locals)
  (h1 : it ∈ X.ex \/ X.s₀.heap.objs.size <= it) (h2 : ∀ x c,X.env.cells.lookup x = some c->c ≠ it) (h3 : ∀ p ∈ X.pn ++ pins,p.1 ≠ it) : Inv X pins σ H { s with heap:=h',toks:=t' }:=by
 have nit : ∀ b u,H b = some u->b ≠ it:=fun b u e z=>by rw [z,hn] at e; cases e
 refine I.step (g':=s.gens) (d':=s.drawn) (ch:=[it]) (fun b hb=>?_) (fun b o _ _ hc e _=>k b o (fun z=>hc (by simp [z])) e) (fun b o _ _ hc e _=>⟨o.slots,k b o (fun z=>hc (by simp [z])) e⟩) (fun _ _ _ _ n=>n)
  (fun b o hc e=>⟨o,k b o (fun z=>hc (by simp [z])) e⟩) (fun _ _ e=>e) (fun _ _ _ e=>e) (fun b ps e=>⟨#[],by rw [e]; simp⟩) (fun m hm=>?_) (fun b u e=>?_) I.bare
 ·have e : b = it:=by simpa using hb
  subst e
  exact ⟨h1,hL,h2,h3⟩
 ·obtain ⟨o,es,ep,ho,r⟩:=hm
  exact ⟨o,es,ep,k _ o (Ne.symm hL) ho,r⟩
 ·refine (I.hok b u e).stay (fun c v hc q=>k c v ?_ q) (fun _ q=>q) fun _ _ q=>q
  rcases hc with z | z
  ·rw [z]; exact nit b u e
  ·exact nit c _ z
theorem Inv.tok (I : Inv X pins σ H s) (t : Nat) : Inv X pins σ H { s with toks:=t }:=I.un (h':=s.heap) (t':=t) Un.refl I.hok
theorem Inv.kept {t' : Nat} (I : Inv X pins σ H s) (k : ∀ b u,s.heap.get? b = some u->h'.get? b = some u) : Inv X pins σ H { s with heap:=h',toks:=t' }:=I.un (Un.kept k) (I.hok.kept k)
theorem Inv.laid {a : Addr} {o : HO} {t' : Nat} (I : Inv X pins σ H s) (k : ∀ b u,s.heap.get? b = some u->h'.get? b = some u) (hp : s.heap.objs.size <= a) (new : ObjOk X.prog X.w (upd H a o) h' a o) :
  Inv X pins σ (upd H a o) { s with heap:=h',toks:=t' }:=I.un (Un.laid k hp (I.hok.fresh hp)) (I.hok.laid k hp new)
theorem Inv.write {x e : Addr} {o : HO} {t' : Nat} (I : Inv X pins σ H s) (mu : Mut (H x)) (he : e = x \/ H e = some (.own x)) (k : ∀ b u,b ≠ e->s.heap.get? b = some u->h'.get? b = some u) (heo : ∃ u,h'.get? e = some u)
  (new : ObjOk X.prog X.w (upd H x o) h' x o) : Inv X pins σ (upd H x o) { s with heap:=h',toks:=t' }:=I.un (Un.write mu he k heo) (I.hok.write mu he k heo new)
theorem Inv.pins_of {pins' : List (Addr × Obj)} (I : Inv X pins σ H s) (h : ∀ p ∈ pins',s.heap.get? p.1 = some p.2/\H p.1 = none/\p.1 ≠ X.env.locals/\p.1 ∉ X.fs/\∀ v,p.2.data ≠ .cell v) : Inv X pins' σ H s :=
 ⟨I.ok,I.os,I.bare,I.base,I.loc,I.cell,I.free,I.freeC,fun p hp=>(List.mem_append.mp hp).elim (fun z=>I.pin p (List.mem_append_left _ z)) (h p),I.hok,I.len⟩
theorem nodup_ix {N : List Str} (hN : N.Nodup) {i j : Nat} {x : Str} (a : N[i]? = some x) (b : N[j]? = some x) : i = j:=by
 obtain ⟨h1,e1⟩:=List.getElem?_eq_some_iff.mp a
 obtain ⟨h2,e2⟩:=List.getElem?_eq_some_iff.mp b
 exact (List.getElem_inj hN).mp (e1.trans e2.symm)
theorem store_ok2 {M : Model} {A : Around} {E : Value->Shared->Prop} {i : Nat} {x : Str} {v : V} {u : Value} {Q : Unit->Shared->Prop} (I : Inv X pins σ H s) (hN : X.N.Nodup) (hi : X.N[i]? = some x) (hx : Loc X.env.scope x) (r : RelV v u)
  (h : ∀ s',Inv X pins (σ.set i (some v)) H s'->(∃ a,Heap.SameBut a s.heap s'.heap/\(a = X.env.locals \/ X.env.cells.lookup x = some a))->Q () s') (hf : X.fn x = true \/ X.env.scope.names.lookup x = some .local:=by first | exact .inl rfl | exact .inr rfl | assumption) : wpAny M A (storeName X.env x u) Q E s:=by
 obtain ⟨m,hn,hl⟩:=id I.loc
 have hcls : (X.env.scope.kind == .class || (X.env.scope.kind == .module && X.env.locals != X.env.globals)) = false:=by rw [I.ok.kind]; rfl
 have hiσ : i < σ.length:=by rw [I.len]; exact (List.getElem?_eq_some_iff.mp hi).1
 have cne:=I.cne
 have tracked : ∀ {a : Addr} {h' : Heap},(∃ o,s.heap.get? a = some o/\H a = none)->Heap.SameBut a s.heap h'->HOk X.prog X.w H h':=fun {a h'} ha hs b ob e=>by
  obtain ⟨_,_,hfree⟩:=ha
  refine (I.hok b ob e).stay (fun c w' hc q=>(hs.2 c ?_).trans q) (fun _ q=>q) fun _ _ q=>q
  rintro rfl
  rcases hc with rfl | hc
  ·rw [hfree] at e; cases e
  ·rw [hfree] at hc; cases hc
 rcases hx with hk | hk
 ·refine wpAny_storeName_local hk hn (fun h' hn' hs=>?_) hcls
  obtain ⟨oL,_,_,hoL,_⟩:=id hn
  refine h _ ⟨I.ok,I.os,I.bare,⟨fun b o e n hb hx=>?_,fun b o e n hb hx=>?_,I.base.free,fun b o e hx=>?_,I.base.tups,I.base.frzs,I.base.tbls⟩,⟨_,hn',fun j y v' e1 e2 e3=>?_⟩,fun y c e=>?_,I.free,I.freeC,fun p hp=>?_,tracked ⟨oL,hoL,I.free⟩ hs,by simpa using I.len⟩ ⟨_,hs,.inl rfl⟩
  ·exact (hs.2 b (Nat.ne_of_lt (Nat.lt_of_lt_of_le (Heap.lt_size e) I.ok.above))).trans (I.base.keep b o e n hb hx)
  ·obtain ⟨sl,e1⟩:=I.base.slot b o e n hb hx
   exact ⟨sl,(hs.2 b (Nat.ne_of_lt (Nat.lt_of_lt_of_le (Heap.lt_size e) I.ok.above))).trans e1⟩
  ·obtain ⟨o',e1⟩:=I.base.there b o e hx
   exact ⟨o',(hs.2 b (Nat.ne_of_lt (Nat.lt_of_lt_of_le (Heap.lt_size e) I.ok.above))).trans e1⟩
  ·by_cases hj : j = i
   ·subst hj
    rw [hi] at e1; cases e1
    rw [List.getElem?_set_self hiσ] at e2
    cases e2
    exact ⟨u,r,.inl ⟨hk,by simp⟩⟩
   ·rw [List.getElem?_set_ne (Ne.symm hj)] at e2
    obtain ⟨u',r',q⟩:=hl j y v' e1 e2 e3
    refine ⟨u',r',?_⟩
    rcases q with ⟨k,e⟩ | ⟨k,c,e,z⟩
    ·refine .inl ⟨k,?_⟩
     have : y ≠ x:=fun e=>hj (nodup_ix hN e1 (e ▸ hi))
     simp [this,e]
    ·exact .inr ⟨k,c,e,z.sameBut hs (cne y c e)⟩
  ·obtain ⟨w',z⟩:=I.cell y c e
   exact ⟨w',z.sameBut hs (cne y c e)⟩
  ·obtain ⟨e,n,ne,nf,d⟩:=I.pin p hp
   exact ⟨(hs.2 p.1 ne).trans e,n,ne,nf,d⟩
 ·have hfn : X.fn x = true:=by
   rcases hf with z | z
   ·exact z
   ·rw [z] at hk; cases hk
  obtain ⟨c,hc⟩:=I.ok.has x (.inl hk)
  obtain ⟨w',z⟩:=I.cell x c hc
  refine wpAny_storeName_cell I.ok.kind hk hc z (fun h' hc' hs=>?_)
  obtain ⟨oc,hoc,hocd⟩:=id z
  refine h { s with heap:=h' } ⟨I.ok,I.os,I.bare,⟨fun b o e n hb hx=>?_,fun b o e n hb hx=>?_,I.base.free,fun b o e hx=>?_,I.base.tups,I.base.frzs,I.base.tbls⟩,⟨m,hn.sameBut hs (Ne.symm (cne x c hc)),fun j y v' e1 e2 e3=>?_⟩,fun y c' e=>?_,I.free,I.freeC,fun p hp=>?_,tracked ⟨oc,hoc,I.freeC x c hc⟩ hs,by simpa using I.len⟩ ⟨c,hs,.inr hc⟩
  ·exact (hs.2 b (Nat.ne_of_lt (Nat.lt_of_lt_of_le (Heap.lt_size e) (I.ok.cab x c hfn hc)))).trans (I.base.keep b o e n hb hx)
  ·obtain ⟨sl,e1⟩:=I.base.slot b o e n hb hx
   exact ⟨sl,(hs.2 b (Nat.ne_of_lt (Nat.lt_of_lt_of_le (Heap.lt_size e) (I.ok.cab x c hfn hc)))).trans e1⟩
  ·obtain ⟨o',e1⟩:=I.base.there b o e hx
   exact ⟨o',(hs.2 b (Nat.ne_of_lt (Nat.lt_of_lt_of_le (Heap.lt_size e) (I.ok.cab x c hfn hc)))).trans e1⟩
  ·by_cases hj : j = i
   ·subst hj
    rw [hi] at e1; cases e1
    rw [List.getElem?_set_self hiσ] at e2
    cases e2
    exact ⟨u,r,.inr ⟨.inl hk,c,hc,hc'⟩⟩
   ·rw [List.getElem?_set_ne (Ne.symm hj)] at e2
    obtain ⟨u',r',q⟩:=hl j y v' e1 e2 e3
    refine ⟨u',r',?_⟩
    rcases q with q | ⟨k,c',e,z'⟩
    ·exact .inl q
    ·refine .inr ⟨k,c',e,z'.sameBut hs ?_⟩
     rintro rfl
     exact hj (nodup_ix hN e1 (I.ok.inj _ _ _ e hc ▸ hi))
  ·by_cases hcc : c' = c
   ·subst hcc; exact ⟨_,hc'⟩
   ·obtain ⟨w2,z2⟩:=I.cell y c' e
    exact ⟨w2,z2.sameBut hs hcc⟩
  ·obtain ⟨e,n,ne,nf,d⟩:=I.pin p hp
   refine ⟨(hs.2 p.1 ?_).trans e,n,ne,nf,d⟩
   intro q
   rw [q,hoc] at e
   have q' : oc = p.2:=Option.some.inj e
   exact d w' (by rw [<- q']; exact hocd)
theorem store_ok {M : Model} {A : Around} {E : Value->Shared->Prop} {i : Nat} {x : Str} {v : V} {u : Value} {Q : Unit->Shared->Prop} (I : Inv X pins σ H s) (hN : X.N.Nodup) (hi : X.N[i]? = some x) (hx : Loc X.env.scope x) (r : RelV v u)
  (h : ∀ s',Inv X pins (σ.set i (some v)) H s'->Q () s') (hf : X.fn x = true \/ X.env.scope.names.lookup x = some .local:=by first | exact .inl rfl | exact .inr rfl | assumption) : wpAny M A (storeName X.env x u) Q E s :=
 store_ok2 I hN hi hx r (fun s' I' _=>h s' I') hf
theorem Inv.call' {s' : Shared} {ch : List Addr} (I : Inv X pins σ H s) (ho : s'.os = s.os) (u : Un (frs X.stack) ch H H' s.heap s'.heap) (hok : HOk X.prog X.w H' s'.heap) (hg : AllBare s'.gens)
  (hch : ∀ b ∈ ch,(b ∈ X.ex \/ X.s₀.heap.objs.size <= b)/\b ≠ X.env.locals/\(∀ x c,X.env.cells.lookup x = some c->c ≠ b)/\∀ p ∈ X.pn ++ pins,p.1 ≠ b) : Inv X pins σ H' s':=by
 obtain ⟨h',g',d',t',o'⟩:=s'
 have e : o' = s.os:=ho
 subst e
 exact I.call (g':=g') (t':=t') (d':=d') u hok hg hch
end
abbrev XK:=Value->Option Addr->Hp->Prop
abbrev St:=List (Option V)
abbrev VK:=V->Hp->Prop
abbrev TE:=St->Hp->VK->Prop
abbrev TT:=St->Hp->(Bool->Hp->Prop)->Prop
abbrev TA:=St->Hp->(List V->Hp->Prop)->Prop
structure Ends where
 nx : St->Hp->Prop
 rt : VK
 bk : St->Hp->Prop:=fun _ _=>False
 ct : St->Hp->Prop:=fun _ _=>False
abbrev TS:=Ends->St->Hp->Prop
def EP (X : Cx) (pins : List (Addr × Obj)) (σ : St) (Q : VK) (u : Value) (s' : Shared) : Prop:=∃ v H',Inv X pins σ H' s'/\RelV v u/\Q v H'
def TP (X : Cx) (pins : List (Addr × Obj)) (σ : St) (Q : Bool->Hp->Prop) (b : Bool) (s' : Shared) : Prop:=∃ H',Inv X pins σ H' s'/\Q b H'
def AP (X : Cx) (pins : List (Addr × Obj)) (σ : St) (Q : List V->Hp->Prop) (us : List Value) (s' : Shared) : Prop:=∃ vs H',Inv X pins σ H' s'/\Vals vs us/\Q vs H'
def SP (X : Cx) (pins : List (Addr × Obj)) (D : Ends) (f : Flow) (s' : Shared) : Prop :=
 match f with
 | .next=>∃ σ' H',Inv X pins σ' H' s'/\D.nx σ' H'
 | .brk=>∃ σ' H',Inv X pins σ' H' s'/\D.bk σ' H'
 | .cont=>∃ σ' H',Inv X pins σ' H' s'/\D.ct σ' H'
 | .ret u=>∃ v σ' H',Inv X pins σ' H' s'/\RelV v u/\D.rt v H'
def PE (X : Cx) (e : Expr) (t : TE) : Prop :=
 ∀ (pins : List (Addr × Obj)) (s : Shared) (σ : St) (H : Hp) (Q : VK),Inv X pins σ H s->t σ H Q->wpAny (model X.prog X.w) X.A (eval e X.env) (EP X pins σ Q) X.xe s
def PT (X : Cx) (e : Expr) (t : TT) : Prop :=
 ∀ (pins : List (Addr × Obj)) (s : Shared) (σ : St) (H : Hp) (Q : Bool->Hp->Prop),Inv X pins σ H s->t σ H Q->wpAny (model X.prog X.w) X.A (isTrue e X.env (eval e X.env)) (TP X pins σ Q) X.xe s
def PW (X : Cx) (e : Expr) (t : TT) : Prop :=
 ∀ (whole : Sem Value) (pins : List (Addr × Obj)) (s : Shared) (σ : St) (H : Hp) (Q : Bool->Hp->Prop),Inv X pins σ H s->t σ H Q->wpAny (model X.prog X.w) X.A (isTrue e X.env whole) (TP X pins σ Q) X.xe s
theorem PW.pt {X : Cx} {e : Expr} {t : TT} (h : PW X e t) : PT X e t:=h _
def PA (X : Cx) (es : List Expr) (t : TA) : Prop :=
 ∀ (pos : Pos) (pins : List (Addr × Obj)) (s : Shared) (σ : St) (H : Hp) (Q : List V->Hp->Prop),Inv X pins σ H s->t σ H Q->wpAny (model X.prog X.w) X.A (spliced (backTo pos (starEach es X.env))) (AP X pins σ Q) X.xe s
def PS (X : Cx) (st : Stmt) (t : TS) : Prop :=
 ∀ (pins : List (Addr × Obj)) (s : Shared) (σ : St) (H : Hp) (D : Ends),Inv X pins σ H s->t D σ H->wpAny (model X.prog X.w) X.A (exec st X.env) (SP X pins D) X.xe s
def PSs (X : Cx) (st : List Stmt) (t : TS) : Prop :=
 ∀ (pins : List (Addr × Obj)) (s : Shared) (σ : St) (H : Hp) (D : Ends),Inv X pins σ H s->t D σ H->wpAny (model X.prog X.w) X.A (execs st X.env) (SP X pins D) X.xe s
theorem thn {α : Type} {t : Sem α} {Q Q' : α->Shared->Prop} {M : Model} {A : Around} {E : Value->Shared->Prop} {s : Shared} (h : wpAny M A t Q E s) (hQ : ∀ a s,Q a s->Q' a s) : wpAny M A t Q' E s:=wpAny_mono h hQ fun _ _ x=>x
end L2
namespace L2
open PySem PySem.Spec PyProof.Rows
section
variable {X : Cx}
def tVar (i : Nat) : TE:=fun σ H Q=>∃ v,σ[i]? = some (some v)/\Q v H
def tC (v : V) : TE:=fun _ H Q=>Q v H
theorem pe_var {i : Nat} {x : Str} {pos : Pos} (hN : X.N[i]? = some x) (hv : Vis X.env.scope x) (hd : (x == ("__debug__" : Str)) = false:=by decide) (hcd : (x == ("__classdict__" : Str)) = false:=by decide) : PE X (.Name x pos) (tVar i):=by
 intro pins s σ H Q I h
 obtain ⟨v,e,h⟩:=h
 obtain ⟨m,hn,hl⟩:=I.loc
 obtain ⟨u,r,l⟩:=hl i x v hN e hv
 have fin : EP X pins σ Q u s:=⟨v,H,I,r,h⟩
 rcases l with ⟨hk,hm⟩ | ⟨hk,c,hc,hcell⟩
 ·exact wpAny_Name (wpAny_loadName_local I.ok.kind hk hn hm fin) hd
 ·rcases hk with hk | hk
  ·exact wpAny_Name (wpAny_loadName_cell I.ok.kind hk hc hcell fin) hd
  ·exact wpAny_Name (wpAny_loadName_free I.ok.kind hk hc hcell fin hcd) hd
theorem pe_int {i j pos} : PE X (.Constant (.int i) j pos) (tC (.int i)):=fun _ _ _ H _ I h=>wpAny_Constant_int ⟨.int i,H,I.tok _,⟨_,rfl⟩,h⟩
theorem pe_bl {b j pos} : PE X (.Constant (.bool b) j pos) (tC (.bl b)):=fun _ _ _ H _ I h=>Constant_bool ⟨.bl b,H,I,rfl,h⟩
theorem pe_non {j pos} : PE X (.Constant .none j pos) (tC .non):=fun _ _ _ H _ I h=>Constant_none ⟨.non,H,I,rfl,h⟩
theorem pe_str {x j pos} : PE X (.Constant (.str x) j pos) (tC (.str x)):=fun _ _ _ H _ I h=>Calls.Constant_str ⟨.str x,H,I.tok _,⟨_,rfl⟩,h⟩
def Gl (X : Cx) (x : Str) : Prop:=X.env.kindOf x = some .globalImplicit
theorem ld_glob {E : Value->Shared->Prop} {pins : List (Addr × Obj)} {s : Shared} {σ : St} {H : Hp} {x : Str} {u : Value} {pos : Pos} {Q : Value->Shared->Prop} (I : Inv X pins σ H s) (hg : Gl X x) (hm : X.mg x = some u) (h : Q u s)
  (hd : (x == ("__debug__" : Str)) = false:=by decide) : wpAny (model X.prog X.w) X.A (eval (.Name x pos) X.env) Q E s :=
 Calls.Name_function_global I.ok.kind hg (Calls.loadGlobal_global (by rw [I.ok.glob]; exact I.mod.glob.keeps I.bk) hm h) hd
theorem ld_blt {E : Value->Shared->Prop} {pins : List (Addr × Obj)} {s : Shared} {σ : St} {H : Hp} {x : Str} {u : Value} {pos : Pos} {Q : Value->Shared->Prop} (I : Inv X pins σ H s) (hg : Gl X x) (hm : X.mg x = none) (hv : bootBuiltins x = some u) (h : Q u s)
  (hn : x ≠ "__name__":=by decide) (hd : (x == ("__debug__" : Str)) = false:=by decide) : wpAny (model X.prog X.w) X.A (eval (.Name x pos) X.env) Q E s:=by
 obtain ⟨mb,h1,h2⟩:=I.mod.blt
 exact Calls.Name_function_global I.ok.kind hg (Calls.loadGlobal_builtin (by rw [I.ok.glob]; exact I.mod.glob.keeps I.bk) hm (by rw [I.ok.blt]; exact h1.keeps I.bk) ((h2 x hn).trans hv) h) hd
theorem pe_glob {x : Str} {v : V} {u : Value} {pos : Pos} (hg : Gl X x) (hm : X.mg x = some u) (r : RelV v u) (hd : (x == ("__debug__" : Str)) = false:=by decide) : PE X (.Name x pos) (tC v) :=
 fun _ _ _ H _ I h=>ld_glob I hg hm ⟨v,H,I,r,h⟩ hd
theorem pe_bltn {x : Str} {v : V} {u : Value} {pos : Pos} (hg : Gl X x) (hm : X.mg x = none) (hv : bootBuiltins x = some u) (r : RelV v u) (hn : x ≠ "__name__":=by decide) (hd : (x == ("__debug__" : Str)) = false:=by decide) : PE X (.Name x pos) (tC v) :=
 fun _ _ _ H _ I h=>ld_blt I hg hm hv ⟨v,H,I,r,h⟩ hn hd
def t2I (ta tb : TE) (k : Int->Int->Hp->Prop) : St->Hp->Prop:=fun σ H=>ta σ H fun x H1=>tb σ H1 fun y H2=>∃ i j,x = .int i/\y = .int j/\k i j H2
def tAdd (ta tb : TE) : TE:=fun σ H Q=>t2I ta tb (fun i j H2=>Q (.int (i + j)) H2) σ H
def tSub (ta tb : TE) : TE:=fun σ H Q=>t2I ta tb (fun i j H2=>Q (.int (i - j)) H2) σ H
def tMul (ta tb : TE) : TE:=fun σ H Q=>t2I ta tb (fun i j H2=>(-(2 ^ 64) < i/\i < 2 ^ 64)/\Q (.int (i * j)) H2) σ H
variable {a b : Expr} {ta tb : TE} {pos : Pos}
def PC (X : Cx) (op : CmpOp) (a b : Expr) (t : TE) : Prop :=
 ∀ (pins : List (Addr × Obj)) (s : Shared) (σ : St) (H : Hp) (Q : VK),Inv X pins σ H s->t σ H Q ->
  wpAny (model X.prog X.w) X.A (eval a X.env) (fun v s₁=>wpAny (model X.prog X.w) X.A (eval b X.env) (fun u s₂=>wpAny (model X.prog X.w) X.A (compareOp op v u) (EP X pins σ Q) X.xe s₂) X.xe s₁) X.xe s
theorem nobehind (b : Expr) {op : CmpOp} (h : op ≠ .In) (h2 : op ≠ .NotIn) : behindInMarks op b = false:=by
 have e1 : (op == CmpOp.In) = false:=by cases op <;> first | rfl | exact absurd rfl h
 have e2 : (op == CmpOp.NotIn) = false:=by cases op <;> first | rfl | exact absurd rfl h2
 cases b <;> simp [behindInMarks,e1,e2]
def tCmp (p : Int->Int->Bool) (ta tb : TE) : TE:=fun σ H Q=>t2I ta tb (fun i j H2=>Q (.bl (p i j)) H2) σ H
abbrev tLt : TE->TE->TE:=tCmp fun i j=>decide (i < j)
abbrev tLe : TE->TE->TE:=tCmp fun i j=>decide (i <= j)
abbrev tGt : TE->TE->TE:=tCmp fun i j=>decide (j < i)
abbrev tGe : TE->TE->TE:=tCmp fun i j=>decide (j <= i)
abbrev tEqI : TE->TE->TE:=tCmp fun i j=>decide (i = j)
abbrev tNeI : TE->TE->TE:=tCmp fun i j=>!decide (i = j)
def tIsN (ta : TE) : TE:=fun σ H Q=>ta σ H fun x H1=>Q (.bl (decide (x = .non))) H1
def tNotN (ta : TE) : TE:=fun σ H Q=>ta σ H fun x H1=>Q (.bl (!decide (x = .non))) H1
theorem RelV.none_iff {x : V} {v : Value} (r : RelV x v) : (v == Value.none) = decide (x = .non):=by
 cases x with
 | non=>cases r; rfl
 | bl _=>cases r; rfl
 | int _=>obtain ⟨t,rfl⟩:=r; rfl
 | str _=>obtain ⟨t,rfl⟩:=r; rfl
 | byt _=>obtain ⟨t,rfl⟩:=r; rfl
 | flt _=>obtain ⟨t,rfl⟩:=r; rfl
 | ref _=>cases r; rfl
 | ty _=>cases r; rfl
theorem pc_isN {j pos'} (ha : PE X a ta) : PC X .Is a (.Constant .none j pos') (tIsN ta):=by
 intro pins s σ H Q I h
 refine thn (ha pins s σ H _ I h) fun v s1 ⟨x,H1,I1,r1,q1⟩=>?_
 exact Constant_none (is_none_gen ⟨.bl _,H1,I1,by rw [r1.none_iff]; rfl,q1⟩)
def tB (t : TE) : TT:=fun σ H Q=>t σ H fun x H1=>∃ c,x = .bl c/\Q c H1
theorem pt_cmp {op : CmpOp} {t : TE} (h : PC X op a b t) (h1 : behindInMarks op b = false:=by first | exact nobehind _ (by decide) (by decide) | rfl) : PT X (.Compare a [op] [b] pos) (tB t):=by
 intro pins s σ H Q I hw
 refine wpAny_isTrue_Compare1 (thn (h pins s σ H _ I hw) fun v s1 h1=>thn h1 fun u s2 h2=>thn h2 fun c s3 ⟨x,H1,I1,r1,q1⟩=>?_) h1
 obtain ⟨d,rfl,q⟩:=q1
 cases r1
 exact wpAny_truthy_bool ⟨H1,I1,q⟩
theorem pt_val {e : Expr} {t : TE} (h : PE X e t) (he : ∀ whole,isTrue e X.env whole = (do let v <- whole; standAt e.pos; holding [v] (truthy v)):=by intro _; rfl) : PT X e (tB t):=by
 intro pins s σ H Q I hw
 refine isTrue_plain (thn (h pins s σ H _ I hw) fun v s1 ⟨x,H1,I1,r1,q1⟩=>?_) (he _)
 obtain ⟨d,rfl,q⟩:=q1
 cases r1
 exact wpAny_truthy_bool ⟨H1,I1,q⟩
variable {tA tB' : TT} {rest : List Expr}
def tAnd (t u : TT) : TT:=fun σ H Q=>t σ H fun c H1=>if c = true then u σ H1 Q else Q false H1
def tOr (t u : TT) : TT:=fun σ H Q=>t σ H fun c H1=>if c = true then Q true H1 else u σ H1 Q
def tNot (t : TT) : TT:=fun σ H Q=>t σ H fun c H1=>Q (!c) H1
theorem pw_and1 (ha : PT X a tA) : PW X (.BoolOp .And [a] pos) tA:=by
 intro wh pins s σ H Q I h
 refine isTrue_and (thn (ha pins s σ H Q I h) fun c s1 e=>?_)
 cases c with
 | true=>exact isTrue_and_nil e
 | false=>exact e
theorem pw_or1 (ha : PT X a tA) : PW X (.BoolOp .Or [a] pos) tA:=by
 intro wh pins s σ H Q I h
 refine isTrue_or (thn (ha pins s σ H Q I h) fun c s1 e=>?_)
 cases c with
 | false=>exact isTrue_or_nil e
 | true=>exact e
theorem pw_and (ha : PT X a tA) (hb : PW X (.BoolOp .And (b :: rest) pos) tB') : PW X (.BoolOp .And (a :: b :: rest) pos) (tAnd tA tB'):=by
 intro wh pins s σ H Q I h
 refine isTrue_and (thn (ha pins s σ H _ I h) fun c s1 ⟨H1,I1,q1⟩=>?_)
 cases c with
 | true=>exact hb wh pins s1 σ H1 Q I1 q1
 | false=>exact ⟨H1,I1,q1⟩
theorem pw_or (ha : PT X a tA) (hb : PW X (.BoolOp .Or (b :: rest) pos) tB') : PW X (.BoolOp .Or (a :: b :: rest) pos) (tOr tA tB'):=by
 intro wh pins s σ H Q I h
 refine isTrue_or (thn (ha pins s σ H _ I h) fun c s1 ⟨H1,I1,q1⟩=>?_)
 cases c with
 | true=>exact ⟨H1,I1,q1⟩
 | false=>exact hb wh pins s1 σ H1 Q I1 q1
theorem pt_not (ha : PT X a tA) : PT X (.UnaryOp .Not a pos) (tNot tA):=by
 intro pins s σ H Q I h
 exact isTrue_not (ha pins s σ H (fun c H1=>Q (!c) H1) I h)
def tAndV (ta tb : TE) : TE:=fun σ H Q=>ta σ H fun x H1=>∃ c,x = .bl c/\if c = true then tb σ H1 Q else Q (.bl false) H1
def tOrV (ta tb : TE) : TE:=fun σ H Q=>ta σ H fun x H1=>∃ c,x = .bl c/\if c = true then Q (.bl true) H1 else tb σ H1 Q
def tNotV (ta : TE) : TE:=fun σ H Q=>ta σ H fun x H1=>∃ c,x = .bl c/\Q (.bl (!c)) H1
theorem pe_one {op} {t : TE} (h : PE X a t) : PE X (.BoolOp op [a] pos) t:=fun pins s σ H Q I hw=>BoolOp_one (h pins s σ H Q I hw)
theorem pe_and (ha : PE X a ta) (hb : PE X (.BoolOp .And (b :: rest) pos) tb) : PE X (.BoolOp .And (a :: b :: rest) pos) (tAndV ta tb):=by
 intro pins s σ H Q I h
 refine BoolOp_and (thn (ha pins s σ H _ I h) fun v s1 ⟨x,H1,I1,r1,q1⟩=>?_)
 obtain ⟨c,rfl,q1⟩:=q1
 cases r1
 refine wpAny_truthy_bool ?_
 cases c with
 | true=>exact hb pins s1 σ H1 Q I1 q1
 | false=>exact ⟨.bl false,H1,I1,rfl,q1⟩
theorem pe_not (ha : PE X a ta) : PE X (.UnaryOp .Not a pos) (tNotV ta):=by
 intro pins s σ H Q I h
 refine UnaryOp_ (thn (ha pins s σ H _ I h) fun v s1 ⟨x,H1,I1,r1,q1⟩=>?_)
 obtain ⟨c,rfl,q1⟩:=q1
 cases r1
 exact not_of (wpAny_truthy_bool ⟨.bl (!c),H1,I1,rfl,q1⟩)
def tIf (t : TT) (ta tb : TE) : TE:=fun σ H Q=>t σ H fun c H1=>if c = true then ta σ H1 Q else tb σ H1 Q
end
end L2
namespace L2
open PySem PySem.Spec PyProof.Rows
def SqL (K : PySem.W.Frag) (H : Hp) (a : Addr) (xs : List V) : Prop :=
 Rd H a (.lst xs) \/
  ∃ (o : Obj) (its : Array Value) (n : Nat),K.lookup a = some o/\o.cls = .type "list"/\o.dict = none/\o.data = .seq its n/\its.size <= sizeLine/\Vals xs its.toList
def SqT (K : PySem.W.Frag) (H : Hp) (a : Addr) (xs : List V) : Prop :=
 Rd H a (.tup xs) \/
  ∃ (o : Obj) (its : Array Value) (n : Nat),K.lookup a = some o/\o.cls = .type "tuple"/\o.data = .seq its n/\its.size <= sizeLine/\Vals xs its.toList
def absV : Value->Option V
 | .none=>some .non
 | .bool b=>some (.bl b)
 | .int i _=>some (.int i)
 | .str x _=>some (.str x)
 | .bytes b _=>some (.byt b)
 | .float b _=>some (.flt b)
 | .ref a=>some (.ref a)
 | .type n=>some (.ty n)
 | _=>none
theorem RelV.abs {x : V} {u : Value} (r : RelV x u) : absV u = some x:=by
 cases x with
 | non=>cases r; rfl
 | bl _=>cases r; rfl
 | int _=>obtain ⟨t,rfl⟩:=r; rfl
 | str _=>obtain ⟨t,rfl⟩:=r; rfl
 | byt _=>obtain ⟨t,rfl⟩:=r; rfl
 | flt _=>obtain ⟨t,rfl⟩:=r; rfl
 | ref _=>cases r; rfl
 | ty _=>cases r; rfl
theorem RelV.inj {x y : V} {u : Value} (r : RelV x u) (q : RelV y u) : x = y:=Option.some.inj (r.abs.symm.trans q.abs)
theorem Vals.inj : ∀ {xs ys : List V} {us : List Value},Vals xs us->Vals ys us->xs = ys
 | _,_,_,.nil,.nil=>rfl
 | _,_,_,.cons r t,.cons r' t'=>by rw [r.inj r',Vals.inj t t']
section
variable {X : Cx} {pins : List (Addr × Obj)} {σ : St} {H : Hp} {s : Shared} {a : Addr} {xs ys : List V}
theorem SqL.of {K : PySem.W.Frag} (h : H a = some (.lst xs)) : SqL K H a xs:=.inl (.inl h)
theorem SqT.of {K : PySem.W.Frag} (h : H a = some (.tup xs)) : SqT K H a xs:=.inl (.inl h)
theorem Inv.list (I : Inv X pins σ H s) (h : SqL X.K H a xs) : ∃ its : List Value,Vals xs its/\PlainL s.heap a its.toArray/\xs.length <= sizeLine:=by
 rcases h with h | ⟨o,its,n,hk,hc,hd,hs,hz,r⟩
 ·obtain ⟨z,its,n,r,e⟩:=h.ok I.hok
  exact ⟨its,r,⟨_,n,e,rfl,rfl,rfl⟩,z⟩
 ·refine ⟨its.toList,r,⟨o,n,I.kIn a o hk,hc,hd,by simpa using hs⟩,?_⟩
  have e:=r.length
  simp only [Array.length_toList] at e
  omega
theorem Inv.tuple (I : Inv X pins σ H s) (h : SqT X.K H a xs) : ∃ its : List Value,Vals xs its/\IsTup s.heap a its.toArray/\xs.length <= sizeLine:=by
 rcases h with h | ⟨o,its,n,hk,hc,hs,hz,r⟩
 ·obtain ⟨z,its,r,p⟩:=h.ok I.hok
  exact ⟨its,r,p,z⟩
 ·refine ⟨its.toList,r,⟨o,I.kIn a o hk,hc,n,by simpa using hs⟩,?_⟩
  have e:=r.length
  simp only [Array.length_toList] at e
  omega
theorem Inv.list_inj (I : Inv X pins σ H s) (h : SqL X.K H a xs) (h' : SqL X.K H a ys) : xs = ys:=by
 obtain ⟨its,r,⟨o,n,e,_,_,d⟩,_⟩:=I.list h
 obtain ⟨its',r',⟨o',n',e',_,_,d'⟩,_⟩:=I.list h'
 rw [e] at e'; cases e'
 rw [d] at d'
 injection d' with d1 _
 have : its = its':=by simpa using congrArg Array.toList d1
 subst this
 exact r.inj r'
theorem Inv.tuple_inj (I : Inv X pins σ H s) (h : SqT X.K H a xs) (h' : SqT X.K H a ys) : xs = ys:=by
 obtain ⟨its,r,⟨o,e,_,n,d⟩,_⟩:=I.tuple h
 obtain ⟨its',r',⟨o',e',_,n',d'⟩,_⟩:=I.tuple h'
 rw [e] at e'; cases e'
 rw [d] at d'
 injection d' with d1 _
 have : its = its':=by simpa using congrArg Array.toList d1
 subst this
 exact r.inj r'
end
abbrev Cx.wish (X : Cx) (E : Value->Shared->Prop) : Cx:={ X with xe:=E }
abbrev Cx.nox (X : Cx) : Cx:=X.wish fun _ _=>False
theorem Cx.Ok.wish {X : Cx} (ok : X.Ok) (E : Value->Shared->Prop) : (X.wish E).Ok :=
 ⟨ok.mod,ok.kind,ok.glob,ok.blt,ok.above,ok.inj,ok.has,ok.cab,ok.hd,ok.frames,ok.stk,ok.exf,ok.bs,ok.bsz,ok.noex,ok.exfs,ok.funs,ok.frf⟩
theorem Cx.Ok.unwish {X : Cx} {E : Value->Shared->Prop} (ok : (X.wish E).Ok) : X.Ok :=
 ⟨ok.mod,ok.kind,ok.glob,ok.blt,ok.above,ok.inj,ok.has,ok.cab,ok.hd,ok.frames,ok.stk,ok.exf,ok.bs,ok.bsz,ok.noex,ok.exfs,ok.funs,ok.frf⟩
section
variable {X : Cx} {pins : List (Addr × Obj)} {σ : St} {H : Hp} {s : Shared} {E : Value->Shared->Prop}
theorem Inv.wish (I : Inv X pins σ H s) (E : Value->Shared->Prop) : Inv (X.wish E) pins σ H s:=⟨I.ok.wish E,I.os,I.bare,I.base,I.loc,I.cell,I.free,I.freeC,I.pin,I.hok,I.len⟩
theorem Inv.unwish (I : Inv (X.wish E) pins σ H s) : Inv X pins σ H s:=⟨I.ok.unwish,I.os,I.bare,I.base,I.loc,I.cell,I.free,I.freeC,I.pin,I.hok,I.len⟩
theorem SP.unwish {D : Ends} {f : Flow} {s' : Shared} (h : SP (X.wish E) pins D f s') : SP X pins D f s':=by
 cases f with
 | next=>obtain ⟨σ',H',I,q⟩:=h; exact ⟨σ',H',I.unwish,q⟩
 | brk=>obtain ⟨σ',H',I,q⟩:=h; exact ⟨σ',H',I.unwish,q⟩
 | cont=>obtain ⟨σ',H',I,q⟩:=h; exact ⟨σ',H',I.unwish,q⟩
 | ret u=>obtain ⟨v,σ',H',I,r,q⟩:=h; exact ⟨v,σ',H',I.unwish,r,q⟩
theorem PSs.nox {st : List Stmt} {t : TS} (h : PSs X.nox st t) : PSs X st t:=fun pins s σ H D I hw =>
 wpAny_mono (h pins s σ H D (I.wish _) hw) (fun _ _ q=>q.unwish) fun _ _ z=>False.elim z
end
section
variable {X : Cx} {st : Stmt} {rest : List Stmt} {t u : TS} {e : Expr} {te : TE} {pos : Pos}
def tNext : TS:=fun D σ H=>D.nx σ H
def tSeq (t u : TS) : TS:=fun D σ H=>t { D with nx:=u D } σ H
theorem pss_nil : PSs X [] tNext:=fun _ _ σ H _ I h=>wpAny_execs_nil ⟨σ,H,I,h⟩
theorem pss_cons (h1 : PS X st t) (h2 : PSs X rest u) : PSs X (st :: rest) (tSeq t u):=by
 intro pins s σ H D I h
 refine wpAny_execs_cons (thn (h1 pins s σ H { D with nx:=u D } I h) fun f s1 q=>?_)
 cases f with
 | next =>
  obtain ⟨σ',H',I',q⟩:=q
  exact h2 pins s1 σ' H' D I' q
 | ret v=>exact q
 | brk=>exact q
 | cont=>exact q
theorem pss_one (h1 : PS X st t) : PSs X [st] t:=by
 intro pins s σ H D I h
 refine wpAny_execs_cons (thn (h1 pins s σ H D I h) fun f s1 q=>?_)
 cases f with
 | next=>exact wpAny_execs_nil q
 | ret v=>exact q
 | brk=>exact q
 | cont=>exact q
def tBreak : TS:=fun D σ H=>D.bk σ H
def tCont : TS:=fun D σ H=>D.ct σ H
theorem Inv.quiet {pins : List (Addr × Obj)} {σ : St} {H : Hp} {s : Shared} (I : Inv X pins σ H s) : interactive X.env = false:=by simp [interactive,I.ok.kind]
def tDrop (te : TE) : TS:=fun D σ H=>te σ H fun _ H1=>D.nx σ H1
theorem ps_expr (he : PE X e te) (hs : swapsWith e none pos.line X.env = pure false:=by rfl) : PS X (.Expr e pos) (tDrop te):=by
 intro pins s σ H D I h
 exact wpAny_Expr_any (thn (he pins s σ H _ I h) fun v s1 ⟨x,H1,I1,r1,q1⟩=>⟨σ,H1,I1,q1⟩) I.quiet hs
def tRet (te : TE) : TS:=fun D σ H=>te σ H D.rt
theorem ps_ret (he : PE X e te) : PS X (.Return (some e) pos) (tRet te):=by
 intro pins s σ H D I h
 exact wpAny_Return_some (thn (he pins s σ H _ I h) fun v s1 ⟨x,H1,I1,r1,q1⟩=>⟨x,σ,H1,I1,r1,q1⟩)
def tRetN : TS:=fun D _ H=>D.rt .non H
def tIfS (c : TT) (t u : TS) : TS:=fun D σ H=>c σ H fun b H1=>if b = true then t D σ H1 else u D σ H1
theorem ps_if {c : Expr} {a b : List Stmt} {tc : TT} (hc : PT X c tc) (ha : PSs X a t) (hb : PSs X b u) : PS X (.If c a b pos) (tIfS tc t u):=by
 intro pins s σ H D I h
 refine wpAny_If (thn (hc pins s σ H _ I h) fun d s1 ⟨H1,I1,q1⟩=>?_)
 cases d with
 | true=>exact ha pins s1 σ H1 D I1 q1
 | false=>exact hb pins s1 σ H1 D I1 q1
def tNever : TS:=fun _ _ _=>False
end
abbrev TG:=V->St->Hp->(St->Hp->Prop)->Prop
abbrev TGs:=List V->St->Hp->(St->Hp->Prop)->Prop
def PG (X : Cx) (target : Expr) (t : TG) : Prop :=
 ∀ (pins : List (Addr × Obj)) (s : Shared) (σ : St) (H : Hp) (v : V) (u : Value) (Q : St->Hp->Prop),Inv X pins σ H s->RelV v u->t v σ H Q ->
  wpAny (model X.prog X.w) X.A (assign target X.env u) (fun _ s'=>∃ σ' H',Inv X pins σ' H' s'/\Q σ' H') X.xe s
def PGs (X : Cx) (ts : List Expr) (t : TGs) : Prop :=
 ∀ (pins : List (Addr × Obj)) (s : Shared) (σ : St) (H : Hp) (vs : List V) (us : List Value) (Q : St->Hp->Prop),Inv X pins σ H s->Vals vs us->t vs σ H Q ->
  wpAny (model X.prog X.w) X.A (assignInOrder ((assignEach ts X.env).map (·.2)) us) (fun _ s'=>∃ σ' H',Inv X pins σ' H' s'/\Q σ' H') X.xe s
abbrev TSet:=V->V->V->Hp->(Hp->Prop)->Prop
def PSet (X : Cx) (t : TSet) : Prop :=
 ∀ (pins : List (Addr × Obj)) (s : Shared) (σ : St) (H : Hp) (o i v : V) (ov iv u : Value) (Q : Hp->Prop),Inv X pins σ H s->RelV o ov->RelV i iv->RelV v u->t o i v H Q ->
  wpAny (model X.prog X.w) X.A (setItem ov iv u) (fun _ s'=>∃ H',Inv X pins σ H' s'/\Q H') X.xe s
abbrev TIp:=V->V->Hp->VK->Prop
def PIp (X : Cx) (op : Operator) (t : TIp) : Prop :=
 ∀ (pins : List (Addr × Obj)) (s : Shared) (σ : St) (H : Hp) (x y : V) (v u : Value) (Q : VK),Inv X pins σ H s->RelV x v->RelV y u->t x y H Q ->
  wpAny (model X.prog X.w) X.A (inplaceOp op v u) (EP X pins σ Q) X.xe s
section
variable {X : Cx} {pos : Pos}
def gName (i : Nat) : TG:=fun v σ H Q=>Q (σ.set i (some v)) H
theorem pg_name {i : Nat} {x : Str} (hN : X.N.Nodup) (hi : X.N[i]? = some x) (hx : Loc X.env.scope x) (hf : X.fn x = true \/ X.env.scope.names.lookup x = some .local:=by first | exact .inl rfl | exact .inr rfl | assumption) : PG X (.Name x pos) (gName i):=by
 intro pins s σ H v u Q I r h
 exact wpAny_assign_Name (store_ok I hN hi hx r (fun s' I'=>⟨_,H,I',h⟩) hf)
def gNil : TGs:=fun vs σ H Q=>vs = []/\Q σ H
def gCons (t : TG) (u : TGs) : TGs:=fun vs σ H Q=>∃ v r,vs = v :: r/\t v σ H fun σ' H'=>u r σ' H' Q
theorem pgs_nil : PGs X [] gNil:=by
 intro pins s σ H vs us Q I r h
 obtain ⟨e,h⟩:=h
 subst e
 cases r
 exact assignInOrder_nil ⟨σ,H,I,h⟩
theorem pgs_cons {e : Expr} {es : List Expr} {t : TG} {u : TGs} (h1 : PG X e t) (h2 : PGs X es u)
  (hs : (assignEach (e :: es) X.env).map (·.2) = assign e X.env :: (assignEach es X.env).map (·.2):=by rfl) : PGs X (e :: es) (gCons t u):=by
 intro pins s σ H vs us Q I r h
 obtain ⟨v,vr,e1,h⟩:=h
 subst e1
 cases r with
 | cons r rr =>
  rw [hs]
  refine assignInOrder_cons (thn (h1 pins s σ H _ _ _ I r h) fun _ s1 ⟨σ1,H1,I1,q1⟩=>?_)
  exact h2 pins s1 σ1 H1 _ _ Q I1 rr q1
def gTup (K : PySem.W.Frag) (n : Nat) (t : TGs) : TG:=fun v σ H Q=>∃ a xs,v = .ref a/\SqT K H a xs/\xs.length = n/\t xs σ H Q
theorem pg_tup {es : List Expr} {k : Nat} {t : TGs} {n : Nat} (hc : X.calm = true) (h : PGs X es t)
  (hn : (assignEach es X.env).length = n:=by rfl) (hst : (assignEach es X.env).findIdx? (·.1) = none:=by rfl) : PG X (.Tuple es k pos) (gTup X.K n t):=by
 intro pins s σ H v u Q I r hw
 obtain ⟨a,xs,e1,hq,hl,hw⟩:=hw
 subst e1
 cases r
 obtain ⟨its,rv,ht,hz⟩:=I.tuple hq
 refine assign_Tuple_tuple (I.ok.hd hc) ht (by simp [hn,<- hl,rv.length]) hst fun h' hx=>?_
 have I1 : Inv X pins σ H { s with heap:=h' }:=I.kept (t':=s.toks) fun b o e=>hx b o (Nat.ne_of_lt (Heap.lt_size e)) e
 exact h pins _ σ H xs _ Q I1 (by simpa using rv) hw
def gSub (to ti : TE) (t : TSet) : TG:=fun v σ H Q=>to σ H fun o H1=>ti σ H1 fun i H2=>t o i v H2 fun H3=>Q σ H3
theorem pg_sub {o i : Expr} {to ti : TE} {t : TSet} (ho : PE X o to) (hi : PE X i ti) (hs : PSet X t)
  (ha : ∀ v,assign (.Subscript o i pos) X.env v = (do
   let ov <- holding [v] (eval o X.env)
   let iv <- holding [v,ov] (eval i X.env)
   standAt pos
   holding [v,ov,iv] (setItem ov iv v)
   release [v,ov,iv] []):=by intro _; rfl) : PG X (.Subscript o i pos) (gSub to ti t):=by
 intro pins s σ H v u Q I r h
 rw [ha]
 refine wpAny_bind (wpAny_holding (thn (ho pins s σ H _ I h) fun ov s1 ⟨x,H1,I1,r1,q1⟩=>?_))
 refine wpAny_bind (wpAny_holding (thn (hi pins s1 σ H1 _ I1 q1) fun iv s2 ⟨y,H2,I2,r2,q2⟩=>?_))
 refine wpAny_bind (wpAny_standAt (wpAny_bind (wpAny_holding (thn (hs pins s2 σ H2 x y v ov iv u _ I2 r1 r2 r q2) fun _ s3 ⟨H3,I3,q3⟩=>?_))))
 exact wpAny_release ⟨σ,H3,I3,q3⟩
def tAsg (te : TE) (g : TG) : TS:=fun D σ H=>te σ H fun x H1=>g x σ H1 D.nx
theorem ps_asg {tg e : Expr} {te : TE} {g : TG} (he : PE X e te) (hg : PG X tg g) (hs : swapsWithSole [tg] e pos.line X.env = pure false:=by rfl) (hw : swappedStores [tg] e X.env = pure none:=by rfl)
  (h1 : (assignEach [tg] X.env).map (·.2) = [assign tg X.env]:=by rfl) : PS X (.Assign [tg] e pos) (tAsg te g):=by
 intro pins s σ H D I h
 refine wpAny_Assign_stores (thn (he pins s σ H _ I h) fun v s1 ⟨x,H1,I1,r1,q1⟩=>?_) hs hw
 rw [h1]
 exact thn (hg pins s1 σ H1 x v _ I1 r1 q1) fun _ s2 q=>q
theorem ps_set {i : Nat} {x : Str} {e : Expr} {te : TE} {pos' : Pos} (hN : X.N.Nodup) (hi : X.N[i]? = some x) (hx : Loc X.env.scope x) (he : PE X e te) (hs : swapsWith e (some (.Name x pos')) pos.line X.env = pure false:=by rfl) (hf : X.fn x = true \/ X.env.scope.names.lookup x = some .local:=by first | exact .inl rfl | exact .inr rfl | assumption) :
  PS X (.Assign [.Name x pos'] e pos) (tAsg te (gName i)):=by
 intro pins s σ H D I h
 refine wpAny_Assign_Name (thn (he pins s σ H _ I h) fun v s1 ⟨y,H1,I1,r1,q1⟩=>?_) hs
 exact store_ok I1 hN hi hx r1 (fun s2 I2=>⟨_,H1,I2,q1⟩) hf
def tPar (i j : Nat) (ta : TA) : TS:=fun D σ H=>ta σ H fun vs H1=>∃ v w,vs = [v,w]/\D.nx ((σ.set i (some v)).set j (some w)) H1
def tAug (i : Nat) (te : TE) (ti : TIp) : TS:=fun D σ H=>∃ x,σ[i]? = some (some x)/\te σ H fun y H1=>ti x y H1 fun z H2=>D.nx (σ.set i (some z)) H2
def tAugS (to ti te : TE) (tget : V->V->Hp->VK->Prop) (tip : TIp) (tset : TSet) : TS:=fun D σ H=>to σ H fun o H1=>ti σ H1 fun i H2=>tget o i H2 fun x H3=>te σ H3 fun y H4=>tip x y H4 fun z H5=>tset o i z H5 fun H6=>D.nx σ H6
def PGet (X : Cx) (t : V->V->Hp->VK->Prop) : Prop :=
 ∀ (pins : List (Addr × Obj)) (s : Shared) (σ : St) (H : Hp) (o i : V) (ov iv : Value) (Q : VK),Inv X pins σ H s->RelV o ov->RelV i iv->t o i H Q ->
  wpAny (model X.prog X.w) X.A (getItem ov iv) (EP X pins σ Q) X.xe s
def ipI (f : Int->Int->Int) : TIp:=fun x y H Q=>∃ i j,x = .int i/\y = .int j/\Q (.int (f i j)) H
end
section
variable {X : Cx} {pos : Pos}
def tWhile (c : TT) (tb : TS) : TS:=fun D σ H=>∃ W : Nat->St->Hp->Prop,(∃ m,W m σ H)/\∀ m σ H,W m σ H ->
 c σ H fun b H1=>if b = true then ∃ N : St->Hp->Prop,(∀ σ' H',N σ' H'->∃ m',m' < m/\W m' σ' H')/\tb { D with nx:=N,ct:=N,bk:=D.nx } σ H1 else D.nx σ H1
end
structure It where
 go : Nat->Hp->Prop
 yld : Nat->Hp->V->Hp->Prop
 stop : Nat->Hp->Prop
def FpOk (X : Cx) (pins : List (Addr × Obj)) (H : Hp) (b : Addr) : Prop :=
 H b = none/\b ≠ X.env.locals/\b ∉ X.fs/\(b ∈ X.ex \/ X.s₀.heap.objs.size <= b)/\(∀ x c,X.env.cells.lookup x = some c->c ≠ b)/\∀ p ∈ X.pn ++ pins,p.1 ≠ b
theorem Inv.fpOk {X : Cx} {pins : List (Addr × Obj)} {σ : St} {H H' : Hp} {s : Shared} {b : Addr} (I : Inv X pins σ H s) (hb : s.heap.objs.size <= b) (hn : H' b = none) : FpOk X pins H' b:=by
 refine ⟨hn,Nat.ne_of_gt (Nat.lt_of_lt_of_le I.lt hb),I.nofs hb,.inr (Nat.le_trans I.sz hb),fun x c e z=>?_,fun p hp z=>?_⟩
 ·obtain ⟨v,q⟩:=I.cell x c e
  exact absurd (Nat.lt_of_lt_of_le q.lt (by rw [z]; exact hb)) (Nat.lt_irrefl _)
 ·exact absurd (Nat.lt_of_lt_of_le (Heap.lt_size (I.pin p hp).1) (by rw [z]; exact hb)) (Nat.lt_irrefl _)
structure Turn (P : Program) (w : World) (K : PySem.W.Frag) (tg : Expr) (J : It) (fp : List Addr) (it : Addr) (tn : Nat->Heap->Prop) : Prop where
 mem : it ∈ fp
 obj : ∀ i h,tn i h->∀ b ∈ fp,∃ o,h.get? b = some o/\∀ v,o.data ≠ .cell v
 keep : ∀ i h h',tn i h->(∀ b ∈ fp,∀ o,h.get? b = some o->h'.get? b = some o)->tn i h'
 item : ∀ (X : Cx),X.prog = P->X.w = w->X.K = K->X.calm = true->∀ (i : Nat) (pins : List (Addr × Obj)) (s : Shared) (σ : St) (H : Hp) (E : Value->Shared->Prop),Inv X pins σ H s->(∀ b ∈ fp,FpOk X pins H b)->tn i s.heap->J.go i H ->
  wpAny (model P w) X.A (pyNext (.ref it)) (fun r s1=>∃ u,r = some u /\
   wpAny (model P w) X.A (letOwnedTupleGo tg (.ref it) u) (fun _ s2=>∃ x H',Inv X pins σ H' s2/\RelV x u/\J.yld i H x H'/\tn (i + 1) s2.heap/\∀ b ∈ fp,H' b = none) E s1) E s
 done : ∀ (X : Cx),X.prog = P->X.w = w->X.K = K->X.calm = true->∀ (i : Nat) (pins : List (Addr × Obj)) (s : Shared) (σ : St) (H : Hp) (E : Value->Shared->Prop),Inv X pins σ H s->(∀ b ∈ fp,FpOk X pins H b)->tn i s.heap->J.stop i H ->
  wpAny (model P w) X.A (pyNext (.ref it)) (fun r s1=>r = none/\Inv X pins σ H s1) E s
 self : ∀ (A : Around) (i : Nat) (s : Shared) (Q : Value->Shared->Prop) (E : Value->Shared->Prop),tn i s.heap->Q (.ref it) s->wpAny (model P w) A (pyIter (.ref it)) Q E s
abbrev TI:=St->Hp->(It->Hp->Prop)->Prop
def PIE (X : Cx) (pins : List (Addr × Obj)) (σ : St) (tg : Expr) (R : It->Hp->Prop) (itv : Value) (s2 : Shared) : Prop :=
 ∃ (it : Addr) (fp : List Addr) (tn : Nat->Heap->Prop) (J : It) (H' : Hp),itv = .ref it/\Inv X pins σ H' s2/\Turn X.prog X.w X.K tg J fp it tn/\tn 0 s2.heap/\(∀ b ∈ fp,FpOk X pins H' b)/\R J H'
def PI (X : Cx) (tg iter : Expr) (wi : TI) : Prop :=
 ∀ (pins : List (Addr × Obj)) (s : Shared) (σ : St) (H : Hp) (R : It->Hp->Prop),Inv X pins σ H s->wi σ H R ->
  wpAny (model X.prog X.w) X.A (eval iter X.env) (fun v s1=>wpAny (model X.prog X.w) X.A (pyIter v) (PIE X pins σ tg R) X.xe s1) X.xe s
theorem go_of {M : Model} {A : Around} {E : Value->Shared->Prop} {s : Shared} {tg : Expr} {it : Addr} {u : Value} {o : Obj} {n : String} {vs : Array Value} {Q : Unit->Shared->Prop} (ho : s.heap.get? it = some o) (hc : o.cls = .type n) (hd : o.data = .fields vs)
    (hn : ["enumerate", "zip", "dict_itemiterator", "dict_reverseitemiterator", "odict_iterator", "itertools.zip_longest", "itertools.pairwise"].contains n = false) (hQ : Q () s) : wpAny M A (letOwnedTupleGo tg (.ref it) u) Q E s:=by
  unfold letOwnedTupleGo
  cases tg <;> first
    | exact wpAny_pure hQ
    | (cases u <;> first
        | exact wpAny_pure hQ
        | (refine wpAny_bind (wpAny_load ho ?_)
           rw [hc,hd]
           show wpAny M A (if (["enumerate", "zip", "dict_itemiterator", "dict_reverseitemiterator", "odict_iterator", "itertools.zip_longest", "itertools.pairwise"].contains n && vs[0]? == some (rawInt _)) = true then _ else _) Q E s
           rw [if_neg (by intro h; rw [hn,Bool.false_and] at h; cases h)]
           exact wpAny_pure hQ))
def Itl (K : PySem.W.Frag) (a : Addr) : It :=
 ⟨fun i H=>∃ xs x,SqL K H a xs/\xs[i]? = some x,fun i H x H'=>H' = H/\∀ xs,SqL K H a xs->xs[i]? = some x,fun i H=>∃ xs,SqL K H a xs/\xs.length <= i⟩
def Itt (K : PySem.W.Frag) (a : Addr) : It :=
 ⟨fun i H=>∃ xs x,SqT K H a xs/\xs[i]? = some x,fun i H x H'=>H' = H/\∀ xs,SqT K H a xs->xs[i]? = some x,fun i H=>∃ xs,SqT K H a xs/\xs.length <= i⟩
def Itr (lo : Int) (n : Nat) : It:=⟨fun i _=>i < n,fun i H x H'=>H' = H/\x = .int (lo + i),fun i _=>n <= i⟩
theorem turn_list {P : Program} {w : World} {K : PySem.W.Frag} {tg : Expr} (a it : Addr) : Turn P w K tg (Itl K a) [it] it (fun i h=>h.IsListIter it a i) where
 mem:=by simp
 obj:=fun i h st b hb=>by
  have e : b = it:=by simpa using hb
  subst e
  obtain ⟨o,e,c,d⟩:=st
  exact ⟨o,e,fun v z=>by rw [d] at z; cases z⟩
 keep:=fun i h h' st k=>st.at fun o e=>k it (by simp) o e
 item:=by
  intro X hP hw hK hc i pins s σ H E I hf st hg
  subst hP hw hK
  obtain ⟨xs,x,hq,hx⟩:=hg
  obtain ⟨its,rv,p,hz⟩:=I.list hq
  obtain ⟨u,hu,ru⟩:=rv.get hx
  obtain ⟨f0,f1,f2,f3,f4,f5⟩:=hf it (by simp)
  refine wpAny_pyNext_list_item st p.isList (x:=u) (by simpa using hu) fun h' st' sb=>?_
  have I1 : Inv X pins σ H { s with heap:=h' }:=I.turned (t':=s.toks) (fun b o hb e=>(sb.2 b hb).trans e) f0 f1 f3 f4 f5
  obtain ⟨o,e,c,d⟩:=id st'
  exact ⟨u,rfl,go_of (s:={ s with heap:=h' }) e c d (by decide) ⟨x,H,I1,ru,⟨rfl,fun ys hy=>by rw [I.list_inj hy hq]; exact hx⟩,st',fun b hb=>(hf b hb).1⟩⟩
 done:=by
  intro X hP hw hK hc i pins s σ H E I hf st hg
  subst hP hw hK
  obtain ⟨xs,hq,hx⟩:=hg
  obtain ⟨its,rv,p,hz⟩:=I.list hq
  obtain ⟨f0,f1,f2,f3,f4,f5⟩:=hf it (by simp)
  have hl:=rv.length
  exact wpAny_pyNext_list_end (I.ok.hd hc) st p.isList (by simp; omega) fun h' eb=>⟨rfl,I.turned (t':=s.toks) (fun b o hb e=>eb b o hb e) f0 f1 f3 f4 f5⟩
 self:=fun _ _ _ _ _ st h=>wpAny_pyIter_listiter st h
theorem turn_tuple {P : Program} {w : World} {K : PySem.W.Frag} {tg : Expr} (a it : Addr) : Turn P w K tg (Itt K a) [it] it (fun i h=>h.IsTupleIter it a i) where
 mem:=by simp
 obj:=fun i h st b hb=>by
  have e : b = it:=by simpa using hb
  subst e
  obtain ⟨o,e,c,d⟩:=st
  exact ⟨o,e,fun v z=>by rw [d] at z; cases z⟩
 keep:=fun i h h' st k=>st.at fun o e=>k it (by simp) o e
 item:=by
  intro X hP hw hK hc i pins s σ H E I hf st hg
  subst hP hw hK
  obtain ⟨xs,x,hq,hx⟩:=hg
  obtain ⟨its,rv,p,hz⟩:=I.tuple hq
  obtain ⟨u,hu,ru⟩:=rv.get hx
  obtain ⟨f0,f1,f2,f3,f4,f5⟩:=hf it (by simp)
  refine wpAny_pyNext_tuple_item st (show s.heap.IsTuple a its.toArray from p) (x:=u) (by simpa using hu) fun h' st' sb=>?_
  have I1 : Inv X pins σ H { s with heap:=h' }:=I.turned (t':=s.toks) (fun b o hb e=>(sb.2 b hb).trans e) f0 f1 f3 f4 f5
  obtain ⟨o,e,c,d⟩:=id st'
  exact ⟨u,rfl,go_of (s:={ s with heap:=h' }) e c d (by decide) ⟨x,H,I1,ru,⟨rfl,fun ys hy=>by rw [I.tuple_inj hy hq]; exact hx⟩,st',fun b hb=>(hf b hb).1⟩⟩
 done:=by
  intro X hP hw hK hc i pins s σ H E I hf st hg
  subst hP hw hK
  obtain ⟨xs,hq,hx⟩:=hg
  obtain ⟨its,rv,p,hz⟩:=I.tuple hq
  obtain ⟨f0,f1,f2,f3,f4,f5⟩:=hf it (by simp)
  have hl:=rv.length
  exact wpAny_pyNext_tuple_end (I.ok.hd hc) st (show s.heap.IsTuple a its.toArray from p) (by simp; omega) fun h' eb=>⟨rfl,I.turned (t':=s.toks) (fun b o hb e=>eb b o hb e) f0 f1 f3 f4 f5⟩
 self:=fun _ _ _ _ _ st h=>wpAny_pyIter_tupleiter st h
theorem turn_range {P : Program} {w : World} {K : PySem.W.Frag} {tg : Expr} (it : Addr) (lo : Int) (n : Nat) : Turn P w K tg (Itr lo n) [it] it (fun i h=>IsRangeIter h it (lo + (i : Nat) * 1) ((n : Int) - (i : Nat)) 1) where
 mem:=by simp
 obj:=fun i h st b hb=>by
  have e : b = it:=by simpa using hb
  subst e
  exact ⟨_,st,fun v z=>by
   have z' : Data.fields _ = Data.cell v:=z
   cases z'⟩
 keep:=fun i h h' st k=>k it (by simp) _ st
 item:=by
  intro X hP hw hK hc i pins s σ H E I hf st hg
  subst hP hw hK
  obtain ⟨f0,f1,f2,f3,f4,f5⟩:=hf it (by simp)
  have W:=Walks.range (prog:=X.prog) (w:=X.w) (I.ok.hd hc) it lo 1 n
  refine W.item i s _ _ hg st fun v h' tk hv st' kk=>?_
  obtain ⟨t,rfl⟩:=hv
  have I1 : Inv X pins σ H { s with heap:=h',toks:=tk }:=I.turned (fun b o hb e=>kk b o (by simpa using hb) e) f0 f1 f3 f4 f5
  refine ⟨_,rfl,go_of (s:={ s with heap:=h',toks:=tk }) (n:="range_iterator") st' rfl rfl (by decide) ⟨.int (lo + i),H,I1,⟨t,?_⟩,⟨rfl,rfl⟩,st',fun b hb=>(hf b hb).1⟩⟩
  rw [Int.mul_one]
 done:=by
  intro X hP hw hK hc i pins s σ H E I hf st hg
  subst hP hw hK
  obtain ⟨f0,f1,f2,f3,f4,f5⟩:=hf it (by simp)
  exact wpAny_pyNext_range_end (I.ok.hd hc) st (by have : n <= i:=hg; omega) fun h' eb=>⟨rfl,I.turned (t':=s.toks) (fun b o hb e=>eb b o hb e) f0 f1 f3 f4 f5⟩
 self:=fun _ _ _ _ _ st h=>wpAny_pyIter_rangeiter st h
end L2
namespace L2
open PySem PySem.Spec PyProof.Rows
section
variable {X : Cx} {tg : Expr}
def iList (K : PySem.W.Frag) (tl : TE) : TI:=fun σ H R=>tl σ H fun x H1=>∃ a,x = .ref a/\(∃ xs,SqL K H1 a xs)/\R (Itl K a) H1
def iTup (K : PySem.W.Frag) (tl : TE) : TI:=fun σ H R=>tl σ H fun x H1=>∃ a,x = .ref a/\(∃ xs,SqT K H1 a xs)/\R (Itt K a) H1
theorem pi_list {l : Expr} {tl : TE} (hl : PE X l tl) : PI X tg l (iList X.K tl):=by
 intro pins s σ H R I h
 refine thn (hl pins s σ H _ I h) fun v s1 ⟨x,H1,I1,r1,q1⟩=>?_
 obtain ⟨a,e,⟨xs,hq⟩,q⟩:=q1
 subst e
 cases r1
 obtain ⟨its,rv,p,hz⟩:=I1.list hq
 refine wpAny_pyIter_list p.isList ?_
 refine ⟨s1.heap.objs.size,[s1.heap.objs.size],_,_,H1,rfl,I1.kept (t':=s1.toks) fun b o e=>Heap.get?_push_of_some _ e,turn_list a _,⟨_,Heap.get?_push_size _ rfl,rfl,rfl⟩,fun b hb=>?_,q⟩
 have e : b = s1.heap.objs.size:=by simpa using hb
 subst e
 exact I1.fpOk (Nat.le_refl _) (I1.hok.fresh (Nat.le_refl _))
theorem pi_tup {l : Expr} {tl : TE} (hl : PE X l tl) : PI X tg l (iTup X.K tl):=by
 intro pins s σ H R I h
 refine thn (hl pins s σ H _ I h) fun v s1 ⟨x,H1,I1,r1,q1⟩=>?_
 obtain ⟨a,e,⟨xs,hq⟩,q⟩:=q1
 subst e
 cases r1
 obtain ⟨its,rv,p,hz⟩:=I1.tuple hq
 refine wpAny_pyIter_tuple (show s1.heap.IsTuple a its.toArray from p) ?_
 refine ⟨s1.heap.objs.size,[s1.heap.objs.size],_,_,H1,rfl,I1.kept (t':=s1.toks) fun b o e=>Heap.get?_push_of_some _ e,turn_tuple a _,⟨_,Heap.get?_push_size _ rfl,rfl,rfl⟩,fun b hb=>?_,q⟩
 have e : b = s1.heap.objs.size:=by simpa using hb
 subst e
 exact I1.fpOk (Nat.le_refl _) (I1.hok.fresh (Nat.le_refl _))
theorem range_it {pins : List (Addr × Obj)} {σ : St} {H : Hp} {s : Shared} {R : It->Hp->Prop} {E : Value->Shared->Prop} {lo hi : Int} {t u v : Tok} {tk : Nat} (I : Inv X pins σ H s) (h1 : -(2 ^ 62) <= lo) (h2 : lo < 2 ^ 62) (h3 : -(2 ^ 62) <= hi) (h4 : hi < 2 ^ 62)
  (q : R (Itr lo (hi - lo).toNat) H) : wpAny (model X.prog X.w) X.A (pyIter (.ref s.heap.objs.size)) (PIE X pins σ tg R) E { s with heap:=s.heap.push { cls:=.type "range",data:=.fields #[.int lo t,.int hi u,.int 1 v] },toks:=tk }:=by
 refine wpAny_pyIter_range (IsRange.new ..) (small_one h1 h2 h3 h4) ?_
 have I1 : Inv X pins σ H { s with heap:=s.heap.push { cls:=.type "range",data:=.fields #[.int lo t,.int hi u,.int 1 v] },toks:=tk }:=I.kept fun b o e=>Heap.get?_push_of_some _ e
 refine ⟨(s.heap.push { cls:=.type "range",data:=.fields #[.int lo t,.int hi u,.int 1 v] }).objs.size,[(s.heap.push { cls:=.type "range",data:=.fields #[.int lo t,.int hi u,.int 1 v] }).objs.size],_,_,H,rfl,
  I1.kept (t':=tk) fun b o e=>Heap.get?_push_of_some _ e,turn_range _ lo (hi - lo).toNat,?_,fun b hb=>?_,q⟩
 ·have e1 : lo + ((0 : Nat) : Int) * 1 = lo:=by simp
  have e2 : (((hi - lo).toNat : Nat) : Int) - ((0 : Nat) : Int) = Builtin.Range.rangeSize lo hi 1:=by rw [rangeSize_one]; split <;> omega
  show IsRangeIter _ _ (lo + ((0 : Nat) : Int) * 1) ((((hi - lo).toNat : Nat) : Int) - ((0 : Nat) : Int)) 1
  rw [e1,e2]
  exact Heap.get?_push_size _ rfl
 ·have e : b = (s.heap.push { cls:=.type "range",data:=.fields #[.int lo t,.int hi u,.int 1 v] }).objs.size:=by simpa using hb
  subst e
  exact I1.fpOk (Nat.le_refl _) (I1.hok.fresh (Nat.le_refl _))
def iRng1 (ta : TA) : TI:=fun σ H R=>ta σ H fun vs H1=>∃ j : Int,vs = [.int j]/\-(2 ^ 62) <= j/\j < 2 ^ 62/\R (Itr 0 j.toNat) H1
def iRng2 (ta : TA) : TI:=fun σ H R=>ta σ H fun vs H1=>∃ i j : Int,vs = [.int i,.int j]/\(-(2 ^ 62) <= i/\i < 2 ^ 62/\-(2 ^ 62) <= j/\j < 2 ^ 62)/\R (Itr i (j - i).toNat) H1
theorem pi_range1 {a : Expr} {ta : TA} {p pos : Pos} (hg : Gl X "range") (hm : X.mg "range" = none) (ha : PA X [a] ta) (hs : starEach [a] X.env = [(false,eval a X.env)]:=by rfl) : PI X tg (.Call (.Name "range" p) [a] [] pos) (iRng1 ta):=by
 intro pins s σ H R I h
 refine Call_ (ld_blt I hg hm boot_range (PyProof.Rows.callWith_type1 (thn (ha pos pins s σ H _ I h) fun us s1 ⟨vs,H1,I1,r1,q1⟩=>?_) hs rfl))
 obtain ⟨j,e,q1,q2,q⟩:=q1
 subst e
 cases r1 with
 | cons r rr =>
  cases rr
  obtain ⟨t,rfl⟩:=r
  exact call_range_1 (range_it I1 (by omega) (by omega) q1 q2 (by simpa using q))
theorem pi_range2 {a b : Expr} {ta : TA} {p pos : Pos} (hg : Gl X "range") (hm : X.mg "range" = none) (ha : PA X [a,b] ta) (hs : starEach [a,b] X.env = [(false,eval a X.env),(false,eval b X.env)]:=by rfl) (hs2 : starEach [b] X.env = [(false,eval b X.env)]:=by rfl) :
  PI X tg (.Call (.Name "range" p) [a,b] [] pos) (iRng2 ta):=by
 intro pins s σ H R I h
 refine Call_ (ld_blt I hg hm boot_range (PyProof.Rows.callWith_type1 (thn (ha pos pins s σ H _ I h) fun us s1 ⟨vs,H1,I1,r1,q1⟩=>?_) (by rw [hs,hs2]) (by rw [hs2]; rfl)))
 obtain ⟨i,j,e,⟨q1,q2,q3,q4⟩,q⟩:=q1
 subst e
 cases r1 with
 | cons r rr =>
  cases rr with
  | cons r' rr =>
   cases rr
   obtain ⟨t,rfl⟩:=r
   obtain ⟨t',rfl⟩:=r'
   exact call_range_2 (range_it I1 q1 q2 q3 q4 q)
def tFor (wi : TI) (g : TG) (tb : TS) : TS:=fun D σ H=>wi σ H fun J H1=>∃ W : Nat->Nat->St->Hp->Prop,(∃ m,W 0 m σ H1)/\∀ i m σ H,W i m σ H ->
 (J.stop i H/\D.nx σ H) \/ (J.go i H/\∃ N : St->Hp->Prop,(∀ σ' H',N σ' H'->∃ m',m' < m/\W (i + 1) m' σ' H')/\∀ x H',J.yld i H x H'->g x σ H' fun σ2 H2=>tb { D with nx:=N,ct:=N,bk:=D.nx } σ2 H2)
def pinsAt (fp : List Addr) (h : Heap) : List (Addr × Obj):=fp.filterMap fun b=>(h.get? b).map fun o=>(b,o)
theorem mem_pinsAt {fp : List Addr} {h : Heap} {b : Addr} {o : Obj} (hb : b ∈ fp) (e : h.get? b = some o) : (b,o) ∈ pinsAt fp h:=List.mem_filterMap.mpr ⟨b,hb,by rw [e]; rfl⟩
theorem of_pinsAt {fp : List Addr} {h : Heap} {p : Addr × Obj} (hp : p ∈ pinsAt fp h) : p.1 ∈ fp/\h.get? p.1 = some p.2:=by
 obtain ⟨b,hb,e⟩:=List.mem_filterMap.mp hp
 cases q : h.get? b with
 | none=>rw [q] at e; cases e
 | some o =>
  rw [q] at e
  have e' : (b,o) = p:=Option.some.inj e
  subst e'
  exact ⟨hb,q⟩
theorem Inv.pinned {pins : List (Addr × Obj)} {σ : St} {H : Hp} {s : Shared} {fp : List Addr} (I : Inv X pins σ H s) (hf : ∀ b ∈ fp,FpOk X pins H b) (ho : ∀ b ∈ fp,∃ o,s.heap.get? b = some o/\∀ v,o.data ≠ .cell v) : Inv X (pins ++ pinsAt fp s.heap) σ H s :=
 I.pins_of fun p hp=>(List.mem_append.mp hp).elim (fun z=>I.pin p (List.mem_append_right _ z)) fun z=>by
  obtain ⟨hb,e⟩:=of_pinsAt z
  obtain ⟨f0,f1,f2,_⟩:=hf p.1 hb
  obtain ⟨o,e',d⟩:=ho p.1 hb
  rw [e] at e'; cases e'
  exact ⟨e,f0,f1,f2,d⟩
theorem Inv.unpinned {pins pl : List (Addr × Obj)} {σ : St} {H : Hp} {s : Shared} (I : Inv X (pins ++ pl) σ H s) : Inv X pins σ H s:=I.pins_of fun p hp=>I.pin p (List.mem_append_right _ (List.mem_append_left _ hp))
theorem ps_for {iter : Expr} {body : List Stmt} {wi : TI} {g : TG} {tb : TS} {pos : Pos} (hp : PassesOwn (model X.prog X.w) X.A X.env X.xe) (hc : X.calm = true) (hi : PI X tg iter wi) (hg : PG X tg g) (hb : PSs X body tb)
  (hs : ∀ x,foldedSetIterable iter X.env x = pure x:=by intro _; rfl) : PS X (.For tg iter body [] pos) (tFor wi g tb):=by
 intro pins s σ H D I h
 refine wpAny_For (thn (hi pins s σ H _ I h) fun v s1 h1=>thn h1 fun itv s2 h2=>?_) hs
 obtain ⟨it,fp,tn,J,H2,e,I2,T,st2,f2,W,⟨m0,w0⟩,turn⟩:=h2
 subst e
 have stat : ∀ {H' : Hp},(∀ b ∈ fp,H' b = none)->∀ b ∈ fp,FpOk X pins H' b:=fun hn b hb=>⟨hn b hb,(f2 b hb).2⟩
 refine codeAny_forLoop_any (fun n s'=>∃ i σ' H',Inv X pins σ' H' s'/\tn i s'.heap/\(∀ b ∈ fp,H' b = none)/\W i n σ' H') ?_ m0 ⟨0,σ,H2,I2,st2,fun b hb=>(f2 b hb).1,w0⟩
 rintro n s3 ⟨i,σ3,H3,I3,st3,fr3,w3⟩
 rcases turn i n σ3 H3 w3 with ⟨stop,qn⟩ | ⟨go,N,hN,step⟩
 ·refine wpAny_passesOwn hp (thn (T.done X rfl rfl rfl hc i pins s3 σ3 H3 X.xe I3 (stat fr3) st3 stop) fun r s4 ⟨hr,I4⟩=>?_)
  subst hr
  exact wpAny_execs_nil ⟨σ3,H3,I4,qn⟩
 ·refine wpAny_passesOwn hp (thn (T.item X rfl rfl rfl hc i pins s3 σ3 H3 X.xe I3 (stat fr3) st3 go) fun r s4 ⟨u,hr,h4⟩=>?_)
  subst hr
  refine wpAny_passesOwn hp (thn h4 fun _ s5 ⟨x,H5,I5,r5,y5,st5,fr5⟩=>?_)
  have I5':=I5.pinned (stat fr5) (T.obj _ _ st5)
  refine wpAny_passesOwn hp (thn (hg _ s5 σ3 H5 x u _ I5' r5 (step x H5 y5)) fun _ s6 ⟨σ6,H6,I6,q6⟩=>?_)
  refine wpAny_passesOwn hp (thn (hb _ s6 σ6 H6 _ I6 q6) fun f s7 q7=>?_)
  have again : ∀ {σ7 : St} {H7 : Hp},Inv X (pins ++ pinsAt fp s5.heap) σ7 H7 s7->N σ7 H7->∃ m,m < n/\∃ i σ' H',Inv X pins σ' H' s7/\tn i s7.heap/\(∀ b ∈ fp,H' b = none)/\W i m σ' H':=fun {σ7 H7} I7 n7=>by
   obtain ⟨m',hm,w7⟩:=hN σ7 H7 n7
   refine ⟨m',hm,i + 1,σ7,H7,I7.unpinned,T.keep _ _ _ st5 fun b hb o e=>(I7.pin (b,o) (List.mem_append_right _ (List.mem_append_right _ (mem_pinsAt hb e)))).1,fun b hb=>?_,w7⟩
   obtain ⟨o,e,d⟩:=T.obj _ _ st5 b hb
   exact (I7.pin (b,o) (List.mem_append_right _ (List.mem_append_right _ (mem_pinsAt hb e)))).2.1
  cases f with
  | next=>obtain ⟨σ7,H7,I7,n7⟩:=q7; exact again I7 n7
  | cont=>obtain ⟨σ7,H7,I7,n7⟩:=q7; exact again I7 n7
  | brk=>obtain ⟨σ7,H7,I7,q7⟩:=q7; exact ⟨σ7,H7,I7.unpinned,q7⟩
  | ret v=>obtain ⟨x7,σ7,H7,I7,r7,q7⟩:=q7; exact ⟨x7,σ7,H7,I7.unpinned,r7,q7⟩
end
theorem for_list {K : PySem.W.Frag} {a : Addr} {xs : List V} {g : TG} {tb : TS} {D : Ends} {σ : St} {H : Hp} (Pv : Nat->St->Hp->Prop) (h0 : Pv 0 σ H) (hl : ∀ i σ H,i <= xs.length->Pv i σ H->SqL K H a xs)
  (hs : ∀ i x σ H,xs[i]? = some x->Pv i σ H->g x σ H fun σ2 H2=>tb { D with nx:=Pv (i + 1),ct:=Pv (i + 1),bk:=D.nx } σ2 H2) (hd : ∀ σ H,Pv xs.length σ H->D.nx σ H) :
  ∃ W : Nat->Nat->St->Hp->Prop,(∃ m,W 0 m σ H)/\∀ i m σ H,W i m σ H ->
   ((Itl K a).stop i H/\D.nx σ H) \/ ((Itl K a).go i H/\∃ N : St->Hp->Prop,(∀ σ' H',N σ' H'->∃ m',m' < m/\W (i + 1) m' σ' H')/\∀ x H',(Itl K a).yld i H x H'->g x σ H' fun σ2 H2=>tb { D with nx:=N,ct:=N,bk:=D.nx } σ2 H2):=by
 refine ⟨fun i m σ H=>m = xs.length - i/\i <= xs.length/\Pv i σ H,⟨xs.length,by simp,Nat.zero_le _,h0⟩,?_⟩
 rintro i m σ H ⟨rfl,hi,p⟩
 have q:=hl i σ H hi p
 by_cases hlt : i < xs.length
 ·refine .inr ⟨⟨xs,xs[i],q,by simp [hlt]⟩,Pv (i + 1),fun σ' H' p'=>⟨xs.length - (i + 1),by omega,rfl,hlt,p'⟩,fun x H' y=>?_⟩
  obtain ⟨e,y⟩:=y
  subst e
  exact hs i x σ _ (y xs q) p
 ·have e : i = xs.length:=by omega
  subst e
  exact .inl ⟨⟨xs,q,Nat.le_refl _⟩,hd σ H p⟩
theorem for_tup {K : PySem.W.Frag} {a : Addr} {xs : List V} {g : TG} {tb : TS} {D : Ends} {σ : St} {H : Hp} (Pv : Nat->St->Hp->Prop) (h0 : Pv 0 σ H) (hl : ∀ i σ H,i <= xs.length->Pv i σ H->SqT K H a xs)
  (hs : ∀ i x σ H,xs[i]? = some x->Pv i σ H->g x σ H fun σ2 H2=>tb { D with nx:=Pv (i + 1),ct:=Pv (i + 1),bk:=D.nx } σ2 H2) (hd : ∀ σ H,Pv xs.length σ H->D.nx σ H) :
  ∃ W : Nat->Nat->St->Hp->Prop,(∃ m,W 0 m σ H)/\∀ i m σ H,W i m σ H ->
   ((Itt K a).stop i H/\D.nx σ H) \/ ((Itt K a).go i H/\∃ N : St->Hp->Prop,(∀ σ' H',N σ' H'->∃ m',m' < m/\W (i + 1) m' σ' H')/\∀ x H',(Itt K a).yld i H x H'->g x σ H' fun σ2 H2=>tb { D with nx:=N,ct:=N,bk:=D.nx } σ2 H2):=by
 refine ⟨fun i m σ H=>m = xs.length - i/\i <= xs.length/\Pv i σ H,⟨xs.length,by simp,Nat.zero_le _,h0⟩,?_⟩
 rintro i m σ H ⟨rfl,hi,p⟩
 have q:=hl i σ H hi p
 by_cases hlt : i < xs.length
 ·refine .inr ⟨⟨xs,xs[i],q,by simp [hlt]⟩,Pv (i + 1),fun σ' H' p'=>⟨xs.length - (i + 1),by omega,rfl,hlt,p'⟩,fun x H' y=>?_⟩
  obtain ⟨e,y⟩:=y
  subst e
  exact hs i x σ _ (y xs q) p
 ·have e : i = xs.length:=by omega
  subst e
  exact .inl ⟨⟨xs,q,Nat.le_refl _⟩,hd σ H p⟩
theorem for_range {lo : Int} {n : Nat} {g : TG} {tb : TS} {D : Ends} {σ : St} {H : Hp} (Pv : Nat->St->Hp->Prop) (h0 : Pv 0 σ H)
  (hs : ∀ i σ H,i < n->Pv i σ H->g (.int (lo + i)) σ H fun σ2 H2=>tb { D with nx:=Pv (i + 1),ct:=Pv (i + 1),bk:=D.nx } σ2 H2) (hd : ∀ σ H,Pv n σ H->D.nx σ H) :
  ∃ W : Nat->Nat->St->Hp->Prop,(∃ m,W 0 m σ H)/\∀ i m σ H,W i m σ H ->
   ((Itr lo n).stop i H/\D.nx σ H) \/ ((Itr lo n).go i H/\∃ N : St->Hp->Prop,(∀ σ' H',N σ' H'->∃ m',m' < m/\W (i + 1) m' σ' H')/\∀ x H',(Itr lo n).yld i H x H'->g x σ H' fun σ2 H2=>tb { D with nx:=N,ct:=N,bk:=D.nx } σ2 H2):=by
 refine ⟨fun i m σ H=>m = n - i/\i <= n/\Pv i σ H,⟨n,by simp,Nat.zero_le _,h0⟩,?_⟩
 rintro i m σ H ⟨rfl,hi,p⟩
 by_cases hlt : i < n
 ·refine .inr ⟨hlt,Pv (i + 1),fun σ' H' p'=>⟨n - (i + 1),by omega,rfl,hlt,p'⟩,fun x H' y=>?_⟩
  obtain ⟨e,y⟩:=y
  subst e y
  exact hs i σ _ hlt p
 ·have e : i = n:=by omega
  subst e
  exact .inl ⟨Nat.le_refl _,hd σ H p⟩
end L2
namespace L2
open PySem PySem.Spec PyProof.Rows
abbrev R2:=V->V->Hp->VK->Prop
def OpR (X : Cx) (f : Value->Value->Sem Value) (r : R2) : Prop :=
 ∀ (pins : List (Addr × Obj)) (s : Shared) (σ : St) (H : Hp) (x y : V) (v u : Value) (Q : VK),Inv X pins σ H s->RelV x v->RelV y u->r x y H Q ->
  wpAny (model X.prog X.w) X.A (f v u) (EP X pins σ Q) X.xe s
def UnR (X : Cx) (f : Value->Sem Value) (r : V->Hp->VK->Prop) : Prop :=
 ∀ (pins : List (Addr × Obj)) (s : Shared) (σ : St) (H : Hp) (x : V) (v : Value) (Q : VK),Inv X pins σ H s->RelV x v->r x H Q ->
  wpAny (model X.prog X.w) X.A (f v) (EP X pins σ Q) X.xe s
def CallR (X : Cx) (f : Value) (r : List V->Hp->VK->Prop) : Prop :=
 ∀ (pins : List (Addr × Obj)) (s : Shared) (σ : St) (H : Hp) (xs : List V) (us : List Value) (Q : VK),Inv X pins σ H s->Vals xs us->r xs H Q ->
  wpAny (model X.prog X.w) X.A (call f us) (EP X pins σ Q) X.xe s
def TruR (X : Cx) (r : V->Hp->(Bool->Hp->Prop)->Prop) : Prop :=
 ∀ (pins : List (Addr × Obj)) (s : Shared) (σ : St) (H : Hp) (x : V) (v : Value) (Q : Bool->Hp->Prop),Inv X pins σ H s->RelV x v->r x H Q ->
  wpAny (model X.prog X.w) X.A (truthy v) (TP X pins σ Q) X.xe s
def tOp (r : R2) (ta tb : TE) : TE:=fun σ H Q=>ta σ H fun x H1=>tb σ H1 fun y H2=>r x y H2 Q
def tUn (r : V->Hp->VK->Prop) (ta : TE) : TE:=fun σ H Q=>ta σ H fun x H1=>r x H1 Q
def rI (C : Int->Int->Prop) (g : Int->Int->V) : R2:=fun x y H Q=>∃ i j,x = .int i/\y = .int j/\C i j/\Q (g i j) H
def rI0 (g : Int->Int->V) : R2:=fun x y H Q=>∃ i j,x = .int i/\y = .int j/\Q (g i j) H
def rU (g : Int->V) : V->Hp->VK->Prop:=fun x H Q=>∃ i,x = .int i/\Q (g i) H
section
variable {X : Cx} {a b c : Expr} {ta tb tc : TE} {pos : Pos}
theorem binT (ha : PE X a ta) (hb : PE X b tb) {pins : List (Addr × Obj)} {s : Shared} {σ : St} {H : Hp} {R : V->V->Hp->Prop} (I : Inv X pins σ H s)
  (h : ta σ H fun x H1=>tb σ H1 fun y H2=>R x y H2) {Q : Value->Shared->Prop} {f : Value->Value->Sem Value}
  (hf : ∀ v u s2 x y H2,Inv X pins σ H2 s2->RelV x v->RelV y u->R x y H2->wpAny (model X.prog X.w) X.A (f v u) Q X.xe s2) :
  wpAny (model X.prog X.w) X.A (eval a X.env) (fun v s₁=>wpAny (model X.prog X.w) X.A (eval b X.env) (fun u s₂=>wpAny (model X.prog X.w) X.A (f v u) Q X.xe s₂) X.xe s₁) X.xe s:=by
 refine thn (ha pins s σ H _ I h) fun v s1 ⟨x,H1,I1,r1,q1⟩=>?_
 refine thn (hb pins s1 σ H1 _ I1 q1) fun u s2 ⟨y,H2,I2,r2,q2⟩=>?_
 exact hf v u s2 x y H2 I2 r1 r2 q2
theorem pe_op {op : Operator} {r : R2} (ho : OpR X (binaryOp op) r) (ha : PE X a ta) (hb : PE X b tb) : PE X (.BinOp a op b pos) (tOp r ta tb):=by
 intro pins s σ H Q I h
 exact wpAny_BinOp (binT ha hb I h fun v u s2 x y H2 I2 rx ry q=>ho pins s2 σ H2 x y v u Q I2 rx ry q)
theorem pe_un {op : UnaryOp} {r : V->Hp->VK->Prop} (ho : UnR X (unaryOp op) r) (ha : PE X a ta) : PE X (.UnaryOp op a pos) (tUn r ta):=by
 intro pins s σ H Q I h
 exact UnaryOp_ (thn (ha pins s σ H _ I h) fun v s1 ⟨x,H1,I1,r1,q1⟩=>ho pins s1 σ H1 x v Q I1 r1 q1)
theorem opI {f : Value->Value->Sem Value} {C : Int->Int->Prop} {g : Int->Int->Int}
  (rule : ∀ (i j : Int) (t u : Tok) (s : Shared) (Q : Value->Shared->Prop) (E : Value->Shared->Prop),C i j->Q (.int (g i j) s.toks) { s with toks:=s.toks + 1 }->wpAny (model X.prog X.w) X.A (f (.int i t) (.int j u)) Q E s) :
  OpR X f (rI C fun i j=>.int (g i j)):=by
 intro pins s σ H x y v u Q I rx ry h
 obtain ⟨i,j,rfl,rfl,hc,q⟩:=h
 obtain ⟨t,rfl⟩:=rx
 obtain ⟨t',rfl⟩:=ry
 exact rule i j t t' s _ _ hc ⟨.int (g i j),H,I.tok _,⟨_,rfl⟩,q⟩
theorem opI0 {f : Value->Value->Sem Value} {g : Int->Int->Int}
  (rule : ∀ (i j : Int) (t u : Tok) (s : Shared) (Q : Value->Shared->Prop) (E : Value->Shared->Prop),Q (.int (g i j) s.toks) { s with toks:=s.toks + 1 }->wpAny (model X.prog X.w) X.A (f (.int i t) (.int j u)) Q E s) :
  OpR X f (rI0 fun i j=>.int (g i j)):=by
 intro pins s σ H x y v u Q I rx ry h
 obtain ⟨i,j,rfl,rfl,q⟩:=h
 obtain ⟨t,rfl⟩:=rx
 obtain ⟨t',rfl⟩:=ry
 exact rule i j t t' s _ _ ⟨.int (g i j),H,I.tok _,⟨_,rfl⟩,q⟩
theorem opB0 {f : Value->Value->Sem Value} {g : Int->Int->Bool}
  (rule : ∀ (i j : Int) (t u : Tok) (s : Shared) (Q : Value->Shared->Prop) (E : Value->Shared->Prop),Q (.bool (g i j)) s->wpAny (model X.prog X.w) X.A (f (.int i t) (.int j u)) Q E s) :
  OpR X f (rI0 fun i j=>.bl (g i j)):=by
 intro pins s σ H x y v u Q I rx ry h
 obtain ⟨i,j,rfl,rfl,q⟩:=h
 obtain ⟨t,rfl⟩:=rx
 obtain ⟨t',rfl⟩:=ry
 exact rule i j t t' s _ _ ⟨.bl (g i j),H,I,rfl,q⟩
def CDiv (i j : Int) : Prop:=0 < j/\j < 1073741824
def CDivN (i j : Int) : Prop:=j ≠ 0/\j.natAbs < 1073741824
def CPow (i j : Int) : Prop:=0 <= j/\j <= 1000000/\i.natAbs < 2 ^ 64
def CMul (i j : Int) : Prop:=(-(2 ^ 64) < i/\i < 2 ^ 64) \/ (-(2 ^ 64) < j/\j < 2 ^ 64)
theorem CMul.ok {i j : Int} (h : CMul i j) : IntMulOk i j:=by
 rcases h with ⟨h1,h2⟩ | ⟨h1,h2⟩
 ·exact .of_left (intBits_le_64 h1 h2)
 ·exact .of_right (intBits_le_64 h1 h2)
theorem op_add : OpR X (binaryOp .Add) (rI0 fun i j=>.int (i + j)):=opI0 fun _ _ _ _ _ _ _ q=>add_int q
theorem op_sub : OpR X (binaryOp .Sub) (rI0 fun i j=>.int (i - j)):=opI0 fun _ _ _ _ _ _ _ q=>sub_int q
theorem op_mul : OpR X (binaryOp .Mult) (rI CMul fun i j=>.int (i * j)):=opI fun _ _ _ _ _ _ _ hc q=>mul_int q hc.ok
theorem op_fdiv : OpR X (binaryOp .FloorDiv) (rI CDiv fun i j=>.int (i / j)):=opI fun i j _ _ _ _ _ hc q=>by
 have h1 : (0 : Int) < j:=hc.1
 have h2 : j < 1073741824:=hc.2
 exact floordiv_int (by omega) (by rw [Int.fdiv_eq_ediv_of_nonneg i (by omega)]; exact q) (.inl (PyProof.noPylong_small (by omega)))
theorem op_mod : OpR X (binaryOp .Mod) (rI (fun _ j=>0 < j) fun i j=>.int (i % j)):=opI fun i j _ _ _ _ _ hc q=>by
 have h1 : (0 : Int) < j:=hc
 exact mod_int' (by omega) (by rw [Int.fmod_eq_emod_of_nonneg i (by omega)]; exact q)
theorem op_pow : OpR X (binaryOp .Pow) (rI CPow fun i j=>.int (i ^ j.toNat)):=opI fun _ _ _ _ _ _ _ hc q=>pow_int_small hc.1 hc.2.1 hc.2.2 q
theorem unI {f : Value->Sem Value} {g : Int->Int}
  (rule : ∀ (i : Int) (t : Tok) (s : Shared) (Q : Value->Shared->Prop) (E : Value->Shared->Prop),Q (.int (g i) s.toks) { s with toks:=s.toks + 1 }->wpAny (model X.prog X.w) X.A (f (.int i t)) Q E s) :
  UnR X f (rU fun i=>.int (g i)):=by
 intro pins s σ H x v Q I rx h
 obtain ⟨i,rfl,q⟩:=h
 obtain ⟨t,rfl⟩:=rx
 exact rule i t s _ _ ⟨.int (g i),H,I.tok _,⟨_,rfl⟩,q⟩
theorem un_neg : UnR X (unaryOp .USub) (rU fun i=>.int (-i)):=unI fun _ _ _ _ _ q=>neg_int q
end
def scal : V->V->Bool
 | .non,.non=>true | .non,.int _=>true | .int _,.non=>true | .non,.bl _=>true | .bl _,.non=>true | .non,.str _=>true | .str _,.non=>true
 | .int _,.int _=>true | .bl _,.bl _=>true | .str _,.str _=>true | .byt _,.byt _=>true
 | .int _,.str _=>true | .str _,.int _=>true | .bl _,.str _=>true | .str _,.bl _=>true
 | _,_=>false
def rEq : R2:=fun x y H Q=>scal x y = true/\Q (.bl (decide (x = y))) H
def rNe : R2:=fun x y H Q=>scal x y = true/\Q (.bl (!decide (x = y))) H
theorem dec_int {i j : Int} : decide (V.int i = V.int j) = (i == j):=by
 rw [Bool.eq_iff_iff]
 simp
theorem dec_bl {i j : Bool} : decide (V.bl i = V.bl j) = (i == j):=by
 rw [Bool.eq_iff_iff]
 simp
theorem dec_str {i j : Str} : decide (V.str i = V.str j) = (i == j):=by
 rw [Bool.eq_iff_iff]
 simp
theorem dec_byt {i j : Array UInt8} : decide (V.byt i = V.byt j) = (i.toList == j.toList):=by
 rw [Bool.eq_iff_iff]
 cases i
 cases j
 simp
section
variable {X : Cx} {a b c : Expr} {ta tb tc : TE} {pos : Pos}
theorem fin_bl {pins : List (Addr × Obj)} {σ : St} {H : Hp} {s : Shared} {Q : VK} {k k' : Bool} (I : Inv X pins σ H s) (q : Q (.bl k) H) (e : k = k') : EP X pins σ Q (.bool k') s:=by
 subst e
 exact ⟨.bl k,H,I,rfl,q⟩
theorem op_eq : OpR X (compareOp .Eq) rEq:=by
 intro pins s σ H x y v u Q I rx ry h
 obtain ⟨hs,q⟩:=h
 cases x with
 | non =>
  cases rx
  cases y with
  | non=>cases ry; exact PySem.EqNone.eq_none_none (fin_bl I q (by simp))
  | bl j=>cases ry; exact PySem.EqNone.eq_none_bool (fin_bl I q (by simp))
  | int j=>obtain ⟨t',rfl⟩:=ry; exact PySem.EqNone.eq_none_int (fin_bl I q (by simp))
  | str j=>obtain ⟨t',rfl⟩:=ry; exact PySem.EqNone.eq_none_str (fin_bl I q (by simp))
  | _=>exact absurd (show false = true from hs) Bool.false_ne_true
 | bl i =>
  cases rx
  cases y with
  | non=>cases ry; exact PySem.EqNone.eq_bool_none (fin_bl I q (by simp))
  | bl j=>cases ry; exact eq_bool (fin_bl I q dec_bl)
  | str j=>obtain ⟨t',rfl⟩:=ry; exact PySem.EqMixed.eq_bool_str (fin_bl I q (by simp))
  | _=>exact absurd (show false = true from hs) Bool.false_ne_true
 | int i =>
  obtain ⟨t,rfl⟩:=rx
  cases y with
  | non=>cases ry; exact PySem.EqNone.eq_int_none (fin_bl I q (by simp))
  | int j=>obtain ⟨t',rfl⟩:=ry; exact eq_int (fin_bl I q dec_int)
  | str j=>obtain ⟨t',rfl⟩:=ry; exact PySem.EqMixed.eq_int_str (fin_bl I q (by simp))
  | _=>exact absurd (show false = true from hs) Bool.false_ne_true
 | str i =>
  obtain ⟨t,rfl⟩:=rx
  cases y with
  | non=>cases ry; exact PySem.EqNone.eq_str_none (fin_bl I q (by simp))
  | bl j=>cases ry; exact PySem.EqMixed.eq_str_bool (fin_bl I q (by simp))
  | int j=>obtain ⟨t',rfl⟩:=ry; exact PySem.EqMixed.eq_str_int (fin_bl I q (by simp))
  | str j=>obtain ⟨t',rfl⟩:=ry; exact eq_str (fin_bl I q dec_str)
  | _=>exact absurd (show false = true from hs) Bool.false_ne_true
 | byt i =>
  obtain ⟨t,rfl⟩:=rx
  cases y with
  | byt j=>obtain ⟨t',rfl⟩:=ry; exact PySem.W.eq_bytes (fin_bl I q dec_byt)
  | _=>exact absurd (show false = true from hs) Bool.false_ne_true
 | _=>cases y <;> exact absurd (show false = true from hs) Bool.false_ne_true
theorem op_ne : OpR X (compareOp .NotEq) rNe:=by
 intro pins s σ H x y v u Q I rx ry h
 obtain ⟨hs,q⟩:=h
 cases x with
 | non =>
  cases rx
  cases y with
  | non=>cases ry; exact PySem.EqNone.ne_none_none (fin_bl I q (by simp))
  | bl j=>cases ry; exact PySem.EqNone.ne_none_bool (fin_bl I q (by simp))
  | int j=>obtain ⟨t',rfl⟩:=ry; exact PySem.EqNone.ne_none_int (fin_bl I q (by simp))
  | str j=>obtain ⟨t',rfl⟩:=ry; exact PySem.EqNone.ne_none_str (fin_bl I q (by simp))
  | _=>exact absurd (show false = true from hs) Bool.false_ne_true
 | bl i =>
  cases rx
  cases y with
  | non=>cases ry; exact PySem.EqNone.ne_bool_none (fin_bl I q (by simp))
  | bl j=>cases ry; exact ne_bool (fin_bl I q (congrArg not dec_bl))
  | str j=>obtain ⟨t',rfl⟩:=ry; exact PySem.EqMixed.ne_bool_str (fin_bl I q (by simp))
  | _=>exact absurd (show false = true from hs) Bool.false_ne_true
 | int i =>
  obtain ⟨t,rfl⟩:=rx
  cases y with
  | non=>cases ry; exact PySem.EqNone.ne_int_none (fin_bl I q (by simp))
  | int j=>obtain ⟨t',rfl⟩:=ry; exact ne_int (fin_bl I q (congrArg not dec_int))
  | str j=>obtain ⟨t',rfl⟩:=ry; exact PySem.EqMixed.ne_int_str (fin_bl I q (by simp))
  | _=>exact absurd (show false = true from hs) Bool.false_ne_true
 | str i =>
  obtain ⟨t,rfl⟩:=rx
  cases y with
  | non=>cases ry; exact PySem.EqNone.ne_str_none (fin_bl I q (by simp))
  | bl j=>cases ry; exact PySem.EqMixed.ne_str_bool (fin_bl I q (by simp))
  | int j=>obtain ⟨t',rfl⟩:=ry; exact PySem.EqMixed.ne_str_int (fin_bl I q (by simp))
  | str j=>obtain ⟨t',rfl⟩:=ry; exact ne_str (fin_bl I q (congrArg not dec_str))
  | _=>exact absurd (show false = true from hs) Bool.false_ne_true
 | byt i =>
  obtain ⟨t,rfl⟩:=rx
  cases y with
  | byt j=>obtain ⟨t',rfl⟩:=ry; exact PySem.W.ne_bytes (fin_bl I q (congrArg not dec_byt))
  | _=>exact absurd (show false = true from hs) Bool.false_ne_true
 | _=>cases y <;> exact absurd (show false = true from hs) Bool.false_ne_true
theorem op_lt : OpR X (compareOp .Lt) (rI0 fun i j=>.bl (decide (i < j))):=opB0 fun _ _ _ _ _ _ _ q=>lt_int q
theorem op_le : OpR X (compareOp .LtE) (rI0 fun i j=>.bl (decide (i <= j))):=opB0 fun _ _ _ _ _ _ _ q=>le_int q
theorem op_gt : OpR X (compareOp .Gt) (rI0 fun i j=>.bl (decide (j < i))):=opB0 fun _ _ _ _ _ _ _ q=>gt_int q
theorem op_ge : OpR X (compareOp .GtE) (rI0 fun i j=>.bl (decide (j <= i))):=opB0 fun _ _ _ _ _ _ _ q=>ge_int q
def isObj : HO->Bool
 | .lst _=>true
 | .ins _ _ _=>true
 | _=>false
theorem nomark (b : Expr) {op : CmpOp} (h : op ≠ .In:=by decide) (h2 : op ≠ .NotIn:=by decide) : behindInMarks op b = false:=by
 have e1 : (op == CmpOp.In) = false:=by cases op <;> first | rfl | exact absurd rfl h
 have e2 : (op == CmpOp.NotIn) = false:=by cases op <;> first | rfl | exact absurd rfl h2
 cases b <;> simp [behindInMarks,e1,e2]
theorem pe_cmpR {op : CmpOp} {r : R2} (ho : OpR X (compareOp op) r) (ha : PE X a ta) (hb : PE X b tb) (hm : behindInMarks op b = false) : PE X (.Compare a [op] [b] pos) (tOp r ta tb):=by
 intro pins s σ H Q I h
 exact wpAny_Compare1 (binT ha hb I h fun v u s2 x y H2 I2 rx ry q=>ho pins s2 σ H2 x y v u Q I2 rx ry q) hm
def tTest (t : TE) : TT:=fun σ H Q=>t σ H fun x H'=>∃ k,x = .bl k/\Q k H'
theorem pt_cmpR {op : CmpOp} {r : R2} (ho : OpR X (compareOp op) r) (ha : PE X a ta) (hb : PE X b tb) (hm : behindInMarks op b = false) : PT X (.Compare a [op] [b] pos) (tTest (tOp r ta tb)):=by
 intro pins s σ H Q I h
 refine wpAny_isTrue_Compare1 (thn (ha pins s σ H _ I h) fun v s1 ⟨x,H1,I1,r1,q1⟩=>thn (hb pins s1 σ H1 _ I1 q1) fun u s2 ⟨y,H2,I2,r2,q2⟩ =>
  thn (ho pins s2 σ H2 x y v u _ I2 r1 r2 q2) fun c s3 ⟨z,H3,I3,r3,k,e,q3⟩=>?_) hm
 subst e
 cases r3
 exact wpAny_truthy_bool ⟨H3,I3,q3⟩
def tChain (r r' : R2) (ta tb tc : TE) : TE:=fun σ H Q=>ta σ H fun x H1=>tb σ H1 fun y H2=>r x y H2 fun z H3=>∃ k,z = .bl k /\
 (if k = true then tc σ H3 fun w' H4=>r' y w' H4 Q else Q (.bl false) H3)
theorem pe_chain {op op' : CmpOp} {r r' : R2} (ho : OpR X (compareOp op) r) (ho' : OpR X (compareOp op') r') (ha : PE X a ta) (hb : PE X b tb) (hc : PE X c tc)
  (hm : lastMarks [op,op'] [b,c] = false:=by with_unfolding_all rfl) : PE X (.Compare a [op,op'] [b,c] pos) (tChain r r' ta tb tc):=by
 intro pins s σ H Q I h
 refine Compare_chain (thn (ha pins s σ H _ I h) fun v s1 ⟨x,H1,I1,r1,q1⟩=>chain_link (thn (hb pins s1 σ H1 _ I1 q1) fun u s2 ⟨y,H2,I2,r2,q2⟩ =>
  thn (ho pins s2 σ H2 x y v u _ I2 r1 r2 q2) fun d s3 ⟨z,H3,I3,r3,k,e,q3⟩=>?_)) hm
 subst e
 cases r3
 refine wpAny_truthy_bool ?_
 cases k with
 | false=>exact ite_ff ⟨.bl false,H3,I3,rfl,q3⟩
 | true=>exact ite_tt (chain_last (thn (hc pins s3 σ H3 _ I3 q3) fun w' s4 ⟨z',H4,I4,r4,q4⟩=>ho' pins s4 σ H4 y z' u w' Q I4 r2 r4 q4))
theorem pt_chain {op op' : CmpOp} {r r' : R2} (ho : OpR X (compareOp op) r) (ho' : OpR X (compareOp op') r') (ha : PE X a ta) (hb : PE X b tb) (hc : PE X c tc)
  (hm : lastMarks [op,op'] [b,c] = false:=by with_unfolding_all rfl) : PT X (.Compare a [op,op'] [b,c] pos) (tTest (tChain r r' ta tb tc)):=by
 intro pins s σ H Q I h
 refine isTrue_chain (thn (ha pins s σ H _ I h) fun v s1 ⟨x,H1,I1,r1,q1⟩=>test_link (thn (hb pins s1 σ H1 _ I1 q1) fun u s2 ⟨y,H2,I2,r2,q2⟩ =>
  thn (ho pins s2 σ H2 x y v u _ I2 r1 r2 q2) fun d s3 ⟨z,H3,I3,r3,k,e,q3⟩=>?_)) hm
 subst e
 cases r3
 refine wpAny_truthy_bool ?_
 cases k with
 | false =>
  obtain ⟨k',e',q'⟩:=q3
  cases e'
  exact ite_ff ⟨H3,I3,q'⟩
 | true =>
  refine ite_tt (test_last (thn (hc pins s3 σ H3 _ I3 q3) fun w' s4 ⟨z',H4,I4,r4,q4⟩=>thn (ho' pins s4 σ H4 y z' u w' _ I4 r2 r4 q4) fun d' s5 ⟨z2,H5,I5,r5,k2,e2,q5⟩=>?_))
  subst e2
  cases r5
  exact wpAny_truthy_bool ⟨H5,I5,q5⟩
def TruV (K : PySem.W.Frag) (x : V) (H : Hp) (k : Bool) : Prop :=
 match x with
 | .non=>k = false
 | .bl b=>k = b
 | .int i=>k = (i != 0)
 | .str y=>y.length <= sizeLine/\k = ((y.length : Int) != 0)
 | .byt y=>y.size <= sizeLine/\k = ((y.size : Int) != 0)
 | .ref p=>(∃ xs,SqL K H p xs/\k = !xs.isEmpty) \/ (∃ xs,SqT K H p xs/\k = !xs.isEmpty) \/ ∃ kvs,H p = some (.dK kvs)/\k = !kvs.isEmpty
 | _=>False
theorem line63 : (sizeLine : Nat) < 2 ^ 63:=by rw [sizeLine_eq]; decide
theorem op_add_str : OpR X (binaryOp .Add) (fun x y H Q=>∃ i j,x = .str i/\y = .str j/\i.length + j.length <= sizeLine/\Q (.str (i ++ j)) H):=by
 intro pins s σ H x y v u Q I rx ry h
 obtain ⟨i,j,rfl,rfl,hz,q⟩:=h
 obtain ⟨t,rfl⟩:=rx
 obtain ⟨t',rfl⟩:=ry
 exact add_str (fun t' tk=>⟨.str (i ++ j),H,I.tok _,⟨_,rfl⟩,q⟩) hz
def PlainIxT (b : Expr) : Prop:=∀ o i,subscripted b false o i = operate [o,i] (getItem o i)
theorem vals1 {x : V} {us : List Value} (r : Vals [x] us) : ∃ u,us = [u]/\RelV x u:=by
 cases r with
 | cons r1 r2=>cases r2; exact ⟨_,rfl,r1⟩
theorem vals2 {x y : V} {us : List Value} (r : Vals [x,y] us) : ∃ u w',us = [u,w']/\RelV x u/\RelV y w':=by
 cases r with
 | cons r1 r2 =>
  cases r2 with
  | cons r3 r4=>cases r4; exact ⟨_,_,rfl,r1,r3⟩
theorem call_abs : CallR X (.builtin "abs") (fun xs H Q=>∃ i,xs = [.int i]/\Q (.int (if i < 0 then -i else i)) H):=by
 intro pins s σ H xs us Q I r h
 obtain ⟨i,rfl,q⟩:=h
 obtain ⟨u,rfl,t,rfl⟩:=vals1 r
 exact call_abs_int fun u tk=>⟨.int (if i < 0 then -i else i),H,I.tok _,⟨_,rfl⟩,q⟩
theorem call_max2 (hc : X.calm = true) : CallR X (.builtin "max") (fun xs H Q=>∃ i j,xs = [.int i,.int j]/\Q (.int (if j > i then j else i)) H):=by
 intro pins s σ H xs us Q I r h
 obtain ⟨i,j,rfl,q⟩:=h
 obtain ⟨u,w',rfl,⟨t,rfl⟩,⟨t',rfl⟩⟩:=vals2 r
 refine max_two_ints (I.ok.hd hc) fun h' tk k=>⟨_,H,I.kept k,?_,q⟩
 by_cases hj : j > i
 ·rw [if_pos hj,if_pos hj]; exact ⟨_,rfl⟩
 ·rw [if_neg hj,if_neg hj]; exact ⟨_,rfl⟩
theorem call_min2 (hc : X.calm = true) : CallR X (.builtin "min") (fun xs H Q=>∃ i j,xs = [.int i,.int j]/\Q (.int (if j < i then j else i)) H):=by
 intro pins s σ H xs us Q I r h
 obtain ⟨i,j,rfl,q⟩:=h
 obtain ⟨u,w',rfl,⟨t,rfl⟩,⟨t',rfl⟩⟩:=vals2 r
 refine min_two_ints (I.ok.hd hc) fun h' tk k=>⟨_,H,I.kept k,?_,q⟩
 by_cases hj : j < i
 ·rw [if_pos hj,if_pos hj]; exact ⟨_,rfl⟩
 ·rw [if_neg hj,if_neg hj]; exact ⟨_,rfl⟩
theorem call_int1 : CallR X (.type "int") (fun xs H Q=>(∃ i,xs = [.int i]/\Q (.int i) H) \/ ∃ k,xs = [.bl k]/\Q (.int (if k then 1 else 0)) H):=by
 intro pins s σ H xs us Q I r h
 rcases h with ⟨i,rfl,q⟩ | ⟨k,rfl,q⟩
 ·obtain ⟨u,rfl,t,rfl⟩:=vals1 r
  exact call_int_int ⟨.int i,H,I,⟨_,rfl⟩,q⟩
 ·obtain ⟨u,rfl,r1⟩:=vals1 r
  cases r1
  exact call_int_bool ⟨.int (if k then 1 else 0),H,I.tok _,⟨_,rfl⟩,q⟩
def LenV (K : PySem.W.Frag) (x : V) (H : Hp) (n : Nat) : Prop :=
 match x with
 | .str y=>y.length <= sizeLine/\n = y.length
 | .byt y=>y.size <= sizeLine/\n = y.size
 | .ref p=>(∃ xs,SqL K H p xs/\n = xs.length) \/ ∃ xs,SqT K H p xs/\n = xs.length
 | _=>False
end
end L2
namespace L2
open PySem PySem.Spec PyProof.Rows
structure ObjM (h : Heap) (x dx C : Addr) (mA : Str->Option Value) : Prop where
 obj : h.get? x = some (PySem.W.instObj C dx)
 ns : h.Ns1 dx mA
 ne : dx ≠ x
theorem lookIn_ns {h : Heap} {dx : Addr} {mA : Str->Option Value} (n : h.Ns1 dx mA) : ∃ od,h.get? dx = some od/\∀ name,PySem.W.lookIn name od = some (mA name):=by
 obtain ⟨o,es,ep,ho,hd,hk,_,hm⟩:=n
 refine ⟨o,ho,fun name=>?_⟩
 have e:=hm name
 unfold nsFind findBy at e
 rw [<- Array.find?_toList] at e
 unfold PySem.W.lookIn
 rw [hd]
 dsimp only
 split
 ·rename_i y q
  rw [q] at e
  exact congrArg some e
 ·rename_i q
  rw [q] at e
  have a : es.toList.any (·.refKey) = false:=by
   rw [List.any_eq_false]
   intro y hy
   obtain ⟨z,t,hkey⟩:=hk y (Array.mem_toList_iff.mp hy)
   simp [DictEntry.refKey,hkey]
  have a' : ¬ es.toList.any (·.refKey) = true:=by rw [a]; exact Bool.false_ne_true
  rw [if_neg a']
  exact congrArg some e
theorem ObjM.look {h : Heap} {x dx C : Addr} {mA : Str->Option Value} (I : ObjM h x dx C mA) : ∃ od,PySem.W.InstAt h x (PySem.W.instObj C dx) C (some od)/\∀ name,PySem.W.lookIn name od = some (mA name) :=
 let ⟨od,ho,hl⟩:=lookIn_ns I.ns
 ⟨od,⟨I.obj,rfl,rfl,ho⟩,hl⟩
section
variable {prog : Program} {w : World} {A : Around} {E : Value->Shared->Prop} {s : Shared} {K : PySem.W.Frag} {x dx C f : Addr} {mA : Str->Option Value} {name : Str} {v : Value}
end
def putF (f : Str) (v : V) : List (Str × V)->List (Str × V)
 | []=>[(f,v)]
 | (g,x) :: r=>if g = f then (g,v) :: r else (g,x) :: putF f v r
theorem lookup_putF (f g : Str) (v : V) : ∀ fs : List (Str × V),(putF f v fs).lookup g = if g = f then some v else fs.lookup g
 | []=>by
  show List.lookup g [(f,v)] = _
  by_cases h : g = f
  ·have hb : (g == f) = true:=beq_iff_eq.mpr h
   simp only [List.lookup,hb,if_pos h]
  ·have hb : (g == f) = false:=beq_eq_false_iff_ne.mpr h
   simp only [List.lookup,hb,if_neg h]
 | (k,x) :: r=>by
  have ih:=lookup_putF f g v r
  rw [show putF f v ((k,x) :: r) = (if k = f then (k,v) :: r else (k,x) :: putF f v r) from rfl]
  by_cases hk : k = f
  ·rw [if_pos hk]
   by_cases h : g = k
   ·have hb : (g == k) = true:=beq_iff_eq.mpr h
    simp only [List.lookup,hb,if_pos (h.trans hk)]
   ·have hb : (g == k) = false:=beq_eq_false_iff_ne.mpr h
    simp only [List.lookup,hb,if_neg (fun e : g = f=>h (e.trans hk.symm))]
  ·rw [if_neg hk]
   by_cases h : g = k
   ·have hb : (g == k) = true:=beq_iff_eq.mpr h
    simp only [List.lookup,hb,if_neg (fun e : g = f=>hk (h.symm.trans e))]
   ·have hb : (g == k) = false:=beq_eq_false_iff_ne.mpr h
    simp only [List.lookup,hb]
    exact ih
theorem RelO.some_of {v : V} {o : Option Value} (r : RelO (some v) o) : ∃ u,o = some u/\RelV v u:=by
 cases o with
 | none=>exact (show False from r).elim
 | some u=>exact ⟨u,rfl,r⟩
theorem RelO.none_of {o : Option Value} (r : RelO none o) : o = none:=by
 cases o with
 | none=>rfl
 | some u=>exact (show False from r).elim
theorem handed_of {v : V} {u : Value} (r : RelV v u) : PySem.W.handedIn u = true:=by
 cases v with
 | non=>cases (show u = Value.none from r); rfl
 | bl b=>cases (show u = Value.bool b from r); rfl
 | int i=>obtain ⟨t,e⟩:=(show ∃ t,u = Value.int i t from r); cases e; rfl
 | str x=>obtain ⟨t,e⟩:=(show ∃ t,u = Value.str x t from r); cases e; rfl
 | byt b=>obtain ⟨t,e⟩:=(show ∃ t,u = Value.bytes b t from r); cases e; rfl
 | flt b=>obtain ⟨t,e⟩:=(show ∃ t,u = Value.float b t from r); cases e; rfl
 | ref a=>cases (show u = Value.ref a from r); rfl
 | ty n=>cases (show u = Value.type n from r); rfl
section
variable {P : Program} {w : World} {H H' : Hp} {h h' : Heap} {a C dx : Addr} {fs fs' : List (Str × V)}
theorem ins_get (hok : HOk P w H h) (e : H a = some (.ins C dx fs)) : ∃ mA,ObjM h a dx C mA/\(∀ f,RelO (fs.lookup f) (mA f))/\PySem.Within mA (fs.map (·.1))/\fs.length <= 1000/\H dx = some (.own a):=by
 obtain ⟨d,z,ne,ob,mA,n,r,q⟩:=(show ObjOk P w H h a (.ins C dx fs) from hok a _ e)
 exact ⟨mA,⟨ob,n,ne⟩,r,q,z,d⟩
end
structure Cls (K : PySem.W.Frag) (C : Addr) : Prop where
 pg : PySem.W.plainGet K C Str.empty = true
 hd : PySem.W.hasDictIn K C = true
 po : PySem.W.plainOver K C = true
 sa : PySem.W.findIn K (.ref C) "__setattr__" = some (some (.builtin "object.__setattr__"))
theorem Cls.get {K : PySem.W.Frag} {C : Addr} (c : Cls K C) (f : Str) : PySem.W.plainGet K C f = true:=c.pg
def NoAttr (K : PySem.W.Frag) (C : Addr) (f : Str) : Prop:=PySem.W.findIn K (.ref C) f = some none
structure Con (K : PySem.W.Frag) (C : Addr) (f : Str) (v : V) (u : Value) : Prop where
 at_ : PySem.W.findIn K (.ref C) f = some (some u)
 rel : RelV v u
 get : PySem.W.specialIn K u "__get__" = some none
 cp : PySem.W.copiedNames.contains f = false
structure Meth (K : PySem.W.Frag) (C : Addr) (m : Str) (f : Addr) : Prop where
 at_ : PySem.W.findIn K (.ref C) m = some (some (.ref f))
 fn : PySem.W.isFn K (.ref f) = true
 kp : PySem.W.keepIn K (.ref f) = true
section
variable {X : Cx} {pins : List (Addr × Obj)} {σ : St} {H : Hp} {s : Shared} {a C dx : Addr} {fs : List (Str × V)} {f : Str} {v : V} {A : Around} {E : Value->Shared->Prop}
theorem attr_of {prog : Program} {w : World} {env : Env} {e : Expr} {f : Str} {pos : Pos} {s : Shared} {Q : Value->Shared->Prop} (hb : attributeBase e f env (eval e env) = eval e env)
  (h : wpAny (model prog w) A (eval e env) (fun o s₁=>wpAny (model prog w) A (getAttr o f true) Q E s₁) E s) : wpAny (model prog w) A (eval (.Attribute e f pos) env) Q E s :=
 Attribute_any_ h (by rw [arm_eval_Attribute,hb])
end
def tFld (K : PySem.W.Frag) (ta : TE) (f : Str) : TE:=fun σ H Q=>ta σ H fun x H1=>∃ a C dx fs v,x = .ref a/\H1 a = some (.ins C dx fs)/\Cls K C/\NoAttr K C f/\fs.lookup f = some v/\Q v H1
def tCon (K : PySem.W.Frag) (ta : TE) (f : Str) : TE:=fun σ H Q=>ta σ H fun x H1=>∃ a C dx fs v u,x = .ref a/\H1 a = some (.ins C dx fs)/\Cls K C/\Con K C f v u/\fs.lookup f = none/\Q v H1
def sFld (K : PySem.W.Frag) (ta tv : TE) (f : Str) : TS:=fun D σ H=>tv σ H fun y H1=>ta σ H1 fun x H2=>∃ a C dx fs,x = .ref a/\H2 a = some (.ins C dx fs)/\Cls K C/\NoAttr K C f/\fs.length < 1000 /\
 D.nx σ (upd H2 a (.ins C dx (putF f y fs)))
def InOp (X : Cx) (op : Operator) (rd : V->V->Hp->VK->Prop) : Prop :=
 ∀ (pins : List (Addr × Obj)) (s : Shared) (σ : St) (H : Hp) (x y : V) (u v : Value) (Q : VK),Inv X pins σ H s->RelV x u->RelV y v->rd x y H Q->wpAny (model X.prog X.w) X.A (inplaceOp op u v) (EP X pins σ Q) X.xe s
def sFldAug (K : PySem.W.Frag) (ta tv : TE) (rd : V->V->Hp->VK->Prop) (f : Str) : TS:=fun D σ H=>ta σ H fun x H1=>∃ a C dx fs v,x = .ref a/\H1 a = some (.ins C dx fs)/\Cls K C/\NoAttr K C f/\fs.lookup f = some v /\
 tv σ H1 fun y H2=>rd v y H2 fun z H3=>∃ dx' fs',H3 a = some (.ins C dx' fs')/\fs'.length < 1000/\D.nx σ (upd H3 a (.ins C dx' (putF f z fs')))
section
variable {X : Cx} {o e value : Expr} {f : Str} {pos pos' tpos : Pos} {ta tv : TE}
def rAdd : V->V->Hp->VK->Prop:=fun x y H Q=>∃ i j,x = .int i/\y = .int j/\Q (.int (i + j)) H
def rSub : V->V->Hp->VK->Prop:=fun x y H Q=>∃ i j,x = .int i/\y = .int j/\Q (.int (i - j)) H
end
section
variable {X : Cx} {pins : List (Addr × Obj)} {σ : St} {H : Hp} {s : Shared} {A : Around} {E : Value->Shared->Prop} {Q : Value->Shared->Prop} {c : Value} {b : Bool}
inductive TyOf (K : PySem.W.Frag) (H : Hp) : V->Value->Prop where
 | non : TyOf K H .non (.type "NoneType")
 | bl (x : Bool) : TyOf K H (.bl x) (.type "bool")
 | int (i : Int) : TyOf K H (.int i) (.type "int")
 | str (x : Str) : TyOf K H (.str x) (.type "str")
 | flt (x : UInt64) : TyOf K H (.flt x) (.type "float")
 | lst {a : Addr} {xs : List V} (e : H a = some (.lst xs)) : TyOf K H (.ref a) (.type "list")
 | frz {a : Addr} {o : Obj} {xs : List V} (e : H a = some (.frz o (.lst xs))) : TyOf K H (.ref a) (.type "list")
 | tup {a : Addr} {xs : List V} (e : H a = some (.tup xs)) : TyOf K H (.ref a) (.type "tuple")
 | dK {a : Addr} {kvs : List (Key × V)} (e : H a = some (.dK kvs)) : TyOf K H (.ref a) (.type "dict")
 | dT {a : Addr} {kvs : List (List Key × V)} (e : H a = some (.dT kvs)) : TyOf K H (.ref a) (.type "dict")
 | ins {a C dx : Addr} {fs : List (Str × V)} (e : H a = some (.ins C dx fs)) (cl : Cls K C) (ha : PySem.W.findIn K (.ref C) "__class__" = some (some (.builtin "object.__class__")))
   (hn : PySem.W.specialIn K (.builtin "object.__class__") "__get__" = some (some (.builtin "getset_descriptor.__get__"))) (htk : PySem.W.takesIn K (.builtin "object.__class__") = some true)
   (hm : PySem.W.mroIn K C (.type "object") = some true) : TyOf K H (.ref a) (.ref C)
theorem isinst_ok {x : V} {u t : Value} (I : Inv X pins σ H s) (rx : RelV x u) (ty : TyOf X.K H x t) (e : PySem.W.kitOne X.K t c = some b) (h : ∀ tk,Q (.bool b) { s with toks:=tk }) :
  wpAny (model X.prog X.w) A (call (.builtin "isinstance") [u,c]) Q E s:=by
 cases ty with
 | non=>cases (show u = Value.none from rx); exact PySem.W.kia_one PySem.W.kitx_none I.kIn True.intro e (fun z=>nomatch z) h
 | bl y=>cases (show u = Value.bool y from rx); exact PySem.W.kia_one PySem.W.kitx_bool I.kIn True.intro e (fun z=>nomatch z) h
 | int i=>obtain ⟨t,q⟩:=(show ∃ t,u = Value.int i t from rx); cases q; exact PySem.W.kia_one PySem.W.kitx_int I.kIn True.intro e (fun z=>nomatch z) h
 | str y=>obtain ⟨t,q⟩:=(show ∃ t,u = Value.str y t from rx); cases q; exact PySem.W.kia_one PySem.W.kitx_str I.kIn True.intro e (fun z=>nomatch z) h
 | flt y=>obtain ⟨t,q⟩:=(show ∃ t,u = Value.float y t from rx); cases q; exact PySem.W.kia_one PySem.W.kitx_float I.kIn True.intro e (fun z=>nomatch z) h
 | @lst a xs ea =>
  cases (show u = Value.ref a from rx)
  obtain ⟨_,_,n,_,h1⟩:=(show ObjOk X.prog X.w H s.heap a (.lst xs) from I.hok a _ ea)
  exact PySem.W.kia_one PySem.W.kitx_list I.kIn ⟨_,h1,rfl⟩ e (fun z=>nomatch z) h
 | @frz a ob xs ea =>
  cases (show u = Value.ref a from rx)
  obtain ⟨_,_,_,n,_,h1⟩:=(show ObjOk X.prog X.w H s.heap a (.frz ob (.lst xs)) from I.hok a _ ea)
  exact PySem.W.kia_one PySem.W.kitx_list I.kIn ⟨_,h1,rfl⟩ e (fun z=>nomatch z) h
 | @tup a xs ea =>
  cases (show u = Value.ref a from rx)
  obtain ⟨_,_,_,p⟩:=(show ObjOk X.prog X.w H s.heap a (.tup xs) from I.hok a _ ea)
  obtain ⟨o,h1,h2,_⟩:=p
  exact PySem.W.kia_one PySem.W.kitx_tuple I.kIn ⟨o,h1,h2⟩ e (fun z=>nomatch z) h
 | @dK a kvs ea =>
  cases (show u = Value.ref a from rx)
  obtain ⟨_,_,vs,_,p⟩:=(show ObjOk X.prog X.w H s.heap a (.dK kvs) from I.hok a _ ea)
  obtain ⟨o,es,ep,h1,h2,_⟩:=p
  exact PySem.W.kia_one PySem.W.kitx_dict I.kIn ⟨o,h1,h2.1⟩ e (fun z=>nomatch z) h
 | @dT a kvs ea =>
  cases (show u = Value.ref a from rx)
  obtain ⟨_,_,xs,_,o,es,ep,h1,h2,_⟩:=(show ObjOk X.prog X.w H s.heap a (.dT kvs) from I.hok a _ ea)
  exact PySem.W.kia_one PySem.W.kitx_dict I.kIn ⟨o,h1,h2.1⟩ e (fun z=>nomatch z) h
 | @ins a C dx fs ea cl ha hn htk hm =>
  cases (show u = Value.ref a from rx)
  obtain ⟨mA,O,_⟩:=ins_get I.hok ea
  obtain ⟨od,J,_⟩:=O.look
  exact PySem.W.kia_one (PySem.W.kitx_own (cl.get _) cl.hd ha hn htk hm) I.kIn J e (fun z=>nomatch z) h
end
end L2
namespace L2
open PySem PySem.Spec PyProof.Rows
structure Room (k : Nat) (A : Around) : Prop where
 hd : A.handled = none
 dp : A.depth + 3 * k + 5 < recursionLimit
 un : A.units + 16 * k + 200 < cLine
theorem Room.mono {j k : Nat} {A : Around} (r : Room k A) (h : j <= k) : Room j A:=⟨r.hd,by have:=r.dp; omega,by have:=r.un; omega⟩
theorem Room.deeper {k : Nat} {A : Around} (r : Room (k + 1) A) (env : Env) : Room k (A.deeper env) :=
 ⟨r.hd,by have:=r.dp; show A.depth + 1 + 3 * k + 5 < _; omega,by have:=r.un; show A.units + 3 + 16 * k + 200 < _; omega⟩
theorem make_depth {A : Around} {C : Addr} {us : List Value} {kw : List (Str × Value)} : (A.under (.builtin "type.__call__" ⟨.ref C :: us,kw⟩)).depth = A.depth + 1:=by
 first | rfl | simp [Around.under,Code.weight,Code.isCreation,Code.isGuard,Code.isCaller,Code.frames,Code.isFrame,guardIds]
theorem make_units {A : Around} {C : Addr} {us : List Value} {kw : List (Str × Value)} : (A.under (.builtin "type.__call__" ⟨.ref C :: us,kw⟩)).units = A.units + 1:=by
 first | rfl | simp [Around.under,Code.cUnits,Code.frames,Code.isFrame]
theorem Room.make {k : Nat} {A : Around} (r : Room (k + 1) A) (C : Addr) (us : List Value) (kw : List (Str × Value)) : Room k (A.under (.builtin "type.__call__" ⟨.ref C :: us,kw⟩)) :=
 ⟨r.hd,by have:=r.dp; rw [make_depth]; omega,by have:=r.un; rw [make_units]; omega⟩
theorem Room.depth {k : Nat} {A : Around} (r : Room k A) : A.depth < recursionLimit:=by have:=r.dp; omega
theorem Room.units {k : Nat} {A : Around} (r : Room k A) : A.units + 64 < cLine:=by have:=r.un; omega
def tNil : TA:=fun _ H Q=>Q [] H
def tCons (ta : TE) (tr : TA) : TA:=fun σ H Q=>ta σ H fun x H1=>tr σ H1 fun xs H2=>Q (x :: xs) H2
section
variable {X : Cx} {e : Expr} {es : List Expr} {te : TE} {t : TA} {pos : Pos}
theorem pa_nil : PA X [] tNil:=fun _ _ _ _ H Q I h=>Calls.spliced_nil ⟨[],H,I,.nil,h⟩
theorem pa_cons (ha : PE X e te) (hr : PA X es t) (hs : starEach (e :: es) X.env = (false,eval e X.env) :: starEach es X.env:=by rfl) : PA X (e :: es) (tCons te t):=by
 intro pos pins s σ H Q I h
 rw [hs]
 show wpAny _ _ (spliced ((false,eval e X.env) :: backTo pos (starEach es X.env))) _ _ s
 refine Calls.spliced_cons (thn (ha pins s σ H _ I h) fun u s1 ⟨x,H1,I1,r1,q1⟩=>?_)
 exact thn (hr pos pins s1 σ H1 _ I1 q1) fun us s2 ⟨xs,H2,I2,r2,q2⟩=>⟨x :: xs,H2,I2,.cons r1 r2,q2⟩
def tTup (t : TA) : TE:=fun σ H Q=>t σ H fun xs H1=>xs.length <= sizeLine/\∀ p,H1 p = none->Q (.ref p) (upd H1 p (.tup xs))
def tLst (t : TA) : TE:=fun σ H Q=>t σ H fun xs H1=>xs.length <= sizeLine/\∀ p,H1 p = none->Q (.ref p) (upd H1 p (.lst xs))
theorem pe_tup {x1} (h : PA X es t) : PE X (.Tuple es x1 pos) (tTup t):=by
 intro pins s σ H Q I hq
 refine wpAny_Tuple_spliced (thn (h pos pins s σ H _ I hq) fun us s1 ⟨xs,H1,I1,r,z,q⟩=>⟨by rw [<- r.length]; exact z,?_⟩)
 have hf : H1 s1.heap.objs.size = none:=I1.hok.fresh (Nat.le_refl _)
 refine ⟨.ref s1.heap.objs.size,upd H1 s1.heap.objs.size (.tup xs),I1.laid (t':=s1.toks) (fun b u e=>Heap.get?_push_of_some _ e) (Nat.le_refl _) ?_,rfl,q _ hf⟩
 exact ⟨z,us,r,⟨_,Heap.get?_push_size _ rfl,rfl,_,rfl⟩⟩
theorem pe_lst (h : PA X es t) : PE X (.List es pos) (tLst t):=by
 intro pins s σ H Q I hq
 refine wpAny_List_spliced (thn (h pos pins s σ H _ I hq) fun us s1 ⟨xs,H1,I1,r,z,q⟩=>⟨by rw [<- r.length]; exact z,?_⟩)
 have hf : H1 s1.heap.objs.size = none:=I1.hok.fresh (Nat.le_refl _)
 refine ⟨.ref s1.heap.objs.size,upd H1 s1.heap.objs.size (.lst xs),I1.laid (t':=s1.toks) (fun b u e=>Heap.get?_push_of_some _ e) (Nat.le_refl _) ?_,rfl,q _ hf⟩
 exact ⟨z,us,0,r,Heap.get?_push_size _ rfl⟩
end
abbrev Sp:=List V->Hp->VK->XK->Prop
abbrev CXT:=List Env->Hp->Shared->XK->Value->Shared->Prop
structure Env0 (P : Program) (w : World) (K : PySem.W.Frag) (mg : Str->Option Value) (base : Heap) (A : Around) (outer : List Env) (s : Shared) (H : Hp) : Prop where
 frames : A.frames = some outer
 mod : Mod K mg base
 bs : ∀ b o,base.get? b = some o->s.heap.get? b = some o/\H b = none
 bsz : base.objs.size <= s.heap.objs.size
 funs : s.heap.FunFrames base outer
 frf : ∀ b ∈ frs outer,H b = none
 hok : HOk P w H s.heap
 bare : AllBare s.gens
def CE (outer : List Env) (P : Program) (w : World) (H : Hp) (s : Shared) (Q : VK) (u : Value) (s' : Shared) : Prop :=
 ∃ v H',s'.os = s.os/\AllBare s'.gens/\Un (frs outer) [] H H' s.heap s'.heap/\HOk P w H' s'.heap/\RelV v u/\Q v H'
def CR (CX : CXT) (outer : List Env) (P : Program) (w : World) (H : Hp) (s : Shared) (Q : VK) (E : XK) (r : Result) (s' : Shared) : Prop :=
 match r with
 | .ok (.ret u)=>CE outer P w H s Q u s'
 | .ok _=>False
 | .error e=>CX outer H s E e s'
structure FnOk (P : Program) (w : World) (K : PySem.W.Frag) (mg : Str->Option Value) (base : Heap) (CX : CXT) (k : Nat) (f : Addr) (fd : FuncData) (ps : List Str) (sp : Sp) : Prop where
 len : ∀ vs H Q E,sp vs H Q E->vs.length = ps.length
 run : ∀ (A : Around) (outer : List Env) (s : Shared) (H : Hp) (args : Args) (us : List Value) (vs : List V) (Q : VK) (E : XK),Room k A->Env0 P w K mg base A outer s H->BindsTo s fd args (ps.zip us)->Vals vs us->sp vs H Q E ->
  codeAny (model P w) A (.call (.ref f) args) (CR CX outer P w H s Q E) s
theorem Env0.make {P : Program} {w : World} {K : PySem.W.Frag} {mg : Str->Option Value} {base : Heap} {A : Around} {outer : List Env} {s : Shared} {H : Hp} (e : Env0 P w K mg base A outer s H) (C : Addr) (us : List Value) (kw : List (Str × Value)) :
  Env0 P w K mg base (A.under (.builtin "type.__call__" ⟨.ref C :: us,kw⟩)) outer s H:=⟨by first | exact e.frames | (simpa [Around.under,Code.envs,Code.isFrame,pushEnvs] using e.frames),e.mod,e.bs,e.bsz,e.funs,e.frf,e.hok,e.bare⟩
section
variable {X : Cx} {pins : List (Addr × Obj)} {σ : St} {H : Hp} {s s' : Shared}
theorem Inv.env0 (I : Inv X pins σ H s) : Env0 X.prog X.w X.K X.mg X.base X.A X.stack s H :=
 ⟨I.ok.frames,I.ok.mod,I.bs,Nat.le_trans I.ok.bsz I.sz,I.stack,I.stkFree,I.hok,I.bare⟩
theorem Inv.after {Q : VK} {u : Value} (I : Inv X pins σ H s) (h : CE X.stack X.prog X.w H s Q u s') : EP X pins σ Q u s':=by
 obtain ⟨v,H',os,bare,un,hok,r,q⟩:=h
 obtain ⟨hh,g,d,t,os'⟩:=s'
 obtain rfl : os' = s.os:=os
 exact ⟨v,H',I.call (h':=hh) (g':=g) (d':=d) (t':=t) (ch:=[]) un hok bare (fun b z=>absurd z (by simp)),r,q⟩
end
def tCall (sp : Sp) (dvs : List V) (E : XK) (t : TA) : TE:=fun σ H Q=>t σ H fun vs H1=>sp (vs ++ dvs) H1 Q E
def tMeth (C : Addr) (m : Str) (sp : Sp) (dvs : List V) (E : XK) (ta : TE) (t : TA) : TE:=fun σ H Q=>ta σ H fun x H1=>∃ a dx fs,x = .ref a/\H1 a = some (.ins C dx fs)/\fs.lookup m = none /\
 t σ H1 fun vs H2=>sp (x :: (vs ++ dvs)) H2 Q E
def tMake (C : Addr) (sp : Sp) (dvs : List V) (E : XK) (t : TA) : TE:=fun σ H Q=>t σ H fun vs H1=>∀ x dx,H1 x = none->H1 dx = none->dx ≠ x ->
 sp (.ref x :: (vs ++ dvs)) (upd (upd H1 dx (.own x)) x (.ins C dx [])) (fun v H2=>v = .non/\Q (.ref x) H2) E
def Binds (K : PySem.W.Frag) (fd : FuncData) (ps : List Str) (ds : List Value) : Prop :=
 ∀ (s : Shared) (us : List Value),K.In s.heap->(us ++ ds).length = ps.length->BindsTo s fd ⟨us,[]⟩ (ps.zip (us ++ ds))
theorem Binds.all {K : PySem.W.Frag} {fd : FuncData} {ps : List Str} (h : ∀ us : List Value,us.length = ps.length->bindArgs fd ⟨us,[]⟩ = pure (ps.zip us)) : Binds K fd ps []:=fun s us _ hl=>by
 rw [List.append_nil] at hl ⊢
 exact .of_eq (h us hl)
def Passes (CX : CXT) (X : Cx) (E : XK) : Prop:=∀ (pins : List (Addr × Obj)) (σ : St) (H : Hp) (s : Shared) (e : Value) (s' : Shared),Inv X pins σ H s->CX X.stack H s E e s'->X.xe e s'
section
variable {X : Cx} {CX : CXT} {k : Nat} {f C : Addr} {fd : FuncData} {ps : List Str} {sp : Sp} {dvs : List V} {ds : List Value} {E : XK} {x m : Str} {p pos apos : Pos} {e o : Expr} {es : List Expr} {ta : TE} {t : TA}
theorem run_fn {pins : List (Addr × Obj)} {σ : St} {H : Hp} {s : Shared} {Q : VK} {us : List Value} {vs : List V} (F : FnOk X.prog X.w X.K X.mg X.base CX k f fd ps sp) (hr : Room k X.A) (hb : Binds X.K fd ps ds) (hd : Vals dvs ds) (hx : Passes CX X E)
  (I : Inv X pins σ H s) (r : Vals vs us) (h : sp (vs ++ dvs) H Q E) : wpAny (model X.prog X.w) X.A (call (.ref f) us) (EP X pins σ Q) X.xe s:=by
 have r2 : Vals (vs ++ dvs) (us ++ ds):=r.append hd
 have hl : (us ++ ds).length = ps.length:=by rw [<- r2.length]; exact F.len _ _ _ _ h
 refine wpAny_call (codeAny_mono (F.run X.A X.stack s H ⟨us,[]⟩ (us ++ ds) (vs ++ dvs) Q E hr I.env0 (hb s us I.kIn hl) r2 h) fun r s' hq=>?_)
 cases r with
 | error e=>exact hx pins σ H s e s' I hq
 | ok fl =>
  cases fl with
  | ret u=>exact I.after hq
  | next=>exact False.elim hq
  | brk=>exact False.elim hq
  | cont=>exact False.elim hq
theorem pe_call (F : FnOk X.prog X.w X.K X.mg X.base CX k f fd ps sp) (hr : Room k X.A) (hg : Gl X x) (hm : X.mg x = some (.ref f)) (hk : PySem.W.keepIn X.K (.ref f) = true) (hb : Binds X.K fd ps ds) (hd : Vals dvs ds) (hx : Passes CX X E)
  (ha : PA X (e :: es) t) (hdb : (x == ("__debug__" : Str)) = false:=by decide) (he : starEach (e :: es) X.env = (false,eval e X.env) :: starEach es X.env:=by rfl) (hpl : (backTo pos (starEach es X.env)).any (·.1) = false:=by rfl) :
  PE X (.Call (.Name x p) (e :: es) [] pos) (tCall sp dvs E t):=by
 intro pins s σ H Q I h
 refine wpAny_Call_Name_kw (ld_glob I hg hm ?_ hdb)
 refine PySem.W.callWith_K (h₀:=X.base) I.ok.mod.kin hk (thn (ha pos pins s σ H _ I h) fun us s1 ⟨vs,H1,I1,r,q⟩=>⟨I1.kIn,?_⟩) he hpl
 exact run_fn F hr hb hd hx I1 r q
structure Mk (K : PySem.W.Frag) (C f : Addr) : Prop where
 makes : PySem.W.makesIn K C = true
 init : PySem.W.findIn K (.ref C) "__init__" = some (some (.ref f))
 fn : PySem.W.isFn K (.ref f) = true
 kp : PySem.W.keepIn K (.ref C) = true
end
def PK (X : Cx) (kws : List Keyword) (t : TA) : Prop :=
 ∀ (pos : Pos) (pins : List (Addr × Obj)) (s : Shared) (σ : St) (H : Hp) (Q : List V->Hp->Prop),Inv X pins σ H s->t σ H Q->wpAny (model X.prog X.w) X.A (evalAll ((backToKw pos (keywordEach kws X.env)).map (·.2))) (AP X pins σ Q) X.xe s
section
variable {X : Cx} {CX : CXT} {k : Nat} {f C : Addr} {fd : FuncData} {ps ks : List Str} {sp : Sp} {E : XK} {x m : Str} {p pos apos kpos : Pos} {e o : Expr} {es : List Expr} {kws : List Keyword} {te ta : TE} {t tk : TA} {nm : Option Str}
structure KBinds (K : PySem.W.Frag) (fd : FuncData) (ps ks : List Str) (g : List Value->List Value->List Value) (gV : List V->List V->List V) : Prop where
 to : ∀ (s : Shared) (us ws : List Value),K.In s.heap->(g us ws).length = ps.length->BindsTo s fd ⟨us,ks.zip ws⟩ (ps.zip (g us ws))
 rel : ∀ {vs : List V} {us : List Value} {zs : List V} {ws : List Value},Vals vs us->Vals zs ws->Vals (gV vs zs) (g us ws)
def tCallK (sp : Sp) (gV : List V->List V->List V) (E : XK) (t tk : TA) : TE:=fun σ H Q=>t σ H fun vs H1=>tk σ H1 fun zs H2=>sp (gV vs zs) H2 Q E
variable {g : List Value->List Value->List Value} {gV : List V->List V->List V}
end
structure FnScope (N P : List Str) (sc : Scope) : Prop where
 kind : sc.kind = .function
 co : sc.isCoroutine = false
 gen : sc.isGenerator = false
 nd : N.Nodup
 pre : N.take P.length = P
 par : ∀ x ∈ P,sc.names.lookup x = some .local \/ sc.names.lookup x = some .cell
 nofree : ∀ y ∈ sc.names,y.2 ≠ .free
theorem bindL_out {kindOf : Str->Option NameKind} {x : Str} : ∀ {binds : List (Str × Value)} {m : Str->Option Value},(∀ v,(x,v) ∉ binds)->bindL kindOf binds m x = m x
 | [],_,_=>rfl
 | (n,v) :: r,m,h=>by
  unfold bindL
  rw [bindL_out fun w hw=>h w (List.mem_cons_of_mem _ hw)]
  split
  ·have : x ≠ n:=by rintro rfl; exact h v List.mem_cons_self
   simp [this]
  ·rfl
theorem bindC_out {kindOf : Str->Option NameKind} {x : Str} : ∀ {binds : List (Str × Value)} {m : Str->Option Value},(∀ v,(x,v) ∉ binds)->bindC kindOf binds m x = m x
 | [],_,_=>rfl
 | (n,v) :: r,m,h=>by
  unfold bindC
  rw [bindC_out fun w hw=>h w (List.mem_cons_of_mem _ hw)]
  split
  ·rfl
  ·have : x ≠ n:=by rintro rfl; exact h v List.mem_cons_self
   simp [this]
theorem bindL_get {kindOf : Str->Option NameKind} {x : Str} {v : Value} : ∀ {P : List Str} {vs : List Value} {i : Nat} {m : Str->Option Value},P.Nodup->P[i]? = some x->vs[i]? = some v->kindOf x = some .local ->
  bindL kindOf (P.zip vs) m x = some v
 | [],_,_,_,_,h,_,_=>by simp at h
 | _ :: _,[],_,_,_,_,h,_=>by simp at h
 | p :: P,w :: vs,0,m,nd,h1,h2,hk=>by
  simp at h1 h2; subst h1; subst h2
  show bindL kindOf ((p,w) :: P.zip vs) m p = _
  unfold bindL
  rw [bindL_out fun v hv=>(List.nodup_cons.mp nd).1 (List.of_mem_zip hv).1,if_pos hk]
  simp
 | p :: P,w :: vs,i + 1,m,nd,h1,h2,hk=>by
  show bindL kindOf ((p,w) :: P.zip vs) m x = _
  unfold bindL
  exact bindL_get (i:=i) (List.nodup_cons.mp nd).2 (by simpa using h1) (by simpa using h2) hk
theorem bindC_get {kindOf : Str->Option NameKind} {x : Str} {v : Value} : ∀ {P : List Str} {vs : List Value} {i : Nat} {m : Str->Option Value},P.Nodup->P[i]? = some x->vs[i]? = some v->kindOf x ≠ some .local ->
  bindC kindOf (P.zip vs) m x = some v
 | [],_,_,_,_,h,_,_=>by simp at h
 | _ :: _,[],_,_,_,_,h,_=>by simp at h
 | p :: P,w :: vs,0,m,nd,h1,h2,hk=>by
  simp at h1 h2; subst h1; subst h2
  show bindC kindOf ((p,w) :: P.zip vs) m p = _
  unfold bindC
  rw [bindC_out fun v hv=>(List.nodup_cons.mp nd).1 (List.of_mem_zip hv).1,if_neg hk]
  simp
 | p :: P,w :: vs,i + 1,m,nd,h1,h2,hk=>by
  show bindC kindOf ((p,w) :: P.zip vs) m x = _
  unfold bindC
  exact bindC_get (i:=i) (List.nodup_cons.mp nd).2 (by simpa using h1) (by simpa using h2) hk
def start (N : List Str) (vs : List V) : St:=vs.map some ++ List.replicate (N.length - vs.length) none
def cxOf (CX : CXT) (P : Program) (w : World) (K : PySem.W.Frag) (mg : Str->Option Value) (base : Heap) (N : List Str) (qual : Str) (scope : Scope) (f : Addr) (cd : Value) (A : Around) (outer : List Env) (s : Shared) (H : Hp) (E : XK) : Cx where
 prog:=P
 w:=w
 K:=K
 mg:=mg
 base:=base
 A:=A.deeper (envOfC qual scope s.heap.objs.size f cd)
 N:=N
 s₀:=s
 H₀:=H
 env:=envOfC qual scope s.heap.objs.size f cd
 outer:=outer
 stack:=envOfC qual scope s.heap.objs.size f cd :: outer
 ex:=[]
 calm:=true
 fn:=fun _=>true
 pn:=[]
 xe:=fun e s'=>wpAny (model P w) (A.deeper (envOfC qual scope s.heap.objs.size f cd)) (leaving (envOfC qual scope s.heap.objs.size f cd) e) (fun _ s''=>CX outer H s E e s'') (fun e' s''=>CX outer H s E e' s'') s'
theorem cell_has {sc : Scope} {n : Nat} {x : Str} (h : sc.names.lookup x = some .cell) : ∃ c,(cellsFrom n sc.names []).lookup x = some c:=by
 have q:=PySem.W.cellsFrom_some sc.names n [] (.inl h)
 exact Option.isSome_iff_exists.mp q
theorem inv_start {CX : CXT} {P : Program} {w : World} {K : PySem.W.Frag} {mg : Str->Option Value} {base : Heap} {N ps : List Str} {qual : Str} {scope : Scope} {f : Addr} {cd : Value} {A : Around} {outer : List Env} {s s1 : Shared} {H : Hp} {E : XK} {us : List Value} {vs : List V}
  (S : FnScope N ps scope) (hd : A.handled = none) (e0 : Env0 P w K mg base A outer s H) (hl : vs.length = ps.length) (r : Vals vs us)
  (x : InCallC s s.heap.objs.size (bindL (envOfC qual scope s.heap.objs.size f cd).kindOf (ps.zip us) fun _=>none) (cellsFrom (s.heap.objs.size + 1) scope.names []) (bindC (envOfC qual scope s.heap.objs.size f cd).kindOf (ps.zip us) fun _=>none) s1) :
  Inv (cxOf CX P w K mg base N qual scope f cd A outer s H E) [] (start N vs) H s1:=by
 have hpl : ps.length <= N.length:=by have:=congrArg List.length S.pre; rw [List.length_take] at this; omega
 obtain ⟨h1,tk,rfl,hk⟩:=x.done
 have noA : ∀ b : Addr,b ∉ (cxOf CX P w K mg base N qual scope f cd A outer s H E).ex:=fun b z=>absurd (show b ∈ ([] : List Addr) from z) (by simp)
 refine ⟨⟨e0.mod,S.kind,rfl,rfl,Nat.le_refl _,fun y z c h1 h2=>?_,fun y hy=>?_,fun y c _ h=>?_,fun _=>hd,Around.frames_deeper e0.frames,.inr ⟨rfl,rfl⟩,fun b z=>absurd z (noA b),e0.bs,e0.bsz,fun b _ _=>noA b,fun b z=>absurd z (noA b),e0.funs,e0.frf⟩,
  rfl,e0.bare,Un.kept hk,⟨_,x.toInCall.ns,fun i y v h1 h2 h3=>?_⟩,fun y c h=>⟨_,x.cell y c h⟩,e0.hok.fresh (Nat.le_refl _),fun y c h=>?_,fun p hp=>absurd (show p ∈ ([] : List (Addr × Obj)) from hp) (by simp),e0.hok.kept hk,?_⟩
 ·exact name_of_addr x.apart (PySem.mem_of_lookup h1) (PySem.mem_of_lookup h2)
 ·have hy : scope.names.lookup y = some .cell \/ scope.names.lookup y = some .free:=hy
  rcases hy with hy | hy
  ·exact cell_has hy
  ·exact absurd rfl (S.nofree _ (PySem.mem_of_lookup hy))
 ·exact Nat.le_of_lt (x.above y c (PySem.mem_of_lookup h))
 ·have hi : i < vs.length:=by
   unfold start at h2
   by_cases hi : i < vs.length
   ·exact hi
   ·rw [List.getElem?_append_right (by simpa using hi)] at h2
    rw [List.getElem?_replicate] at h2
    split at h2 <;> cases h2
  have ha : vs[i]? = some v:=by
   unfold start at h2
   rw [List.getElem?_append_left (by simpa using hi),List.getElem?_map] at h2
   cases e : vs[i]? with
   | none=>rw [e] at h2; cases h2
   | some a=>rw [e] at h2; cases h2; rfl
  obtain ⟨u,hu,rv⟩:=r.get ha
  have hp : ps[i]? = some y:=by
   rw [<- S.pre,List.getElem?_take_of_lt (by omega)]; exact h1
  have ndP : ps.Nodup:=by rw [<- S.pre]; exact S.nd.sublist (List.take_sublist _ _)
  refine ⟨u,rv,?_⟩
  rcases S.par y (List.mem_of_getElem? hp) with k | k
  ·exact .inl ⟨k,bindL_get ndP hp hu k⟩
  ·obtain ⟨c,e⟩:=cell_has (n:=s.heap.objs.size + 1) k
   refine .inr ⟨.inl k,c,e,?_⟩
   have q:=x.cell y c e
   rw [bindC_get ndP hp hu (by show scope.names.lookup y ≠ _; rw [k]; decide)] at q
   exact q
 ·exact e0.hok.fresh (Nat.le_of_lt (x.above y c (PySem.mem_of_lookup h)))
 ·unfold start
  show _ = N.length
  rw [List.length_append,List.length_map,List.length_replicate]
  omega
/-- THE RULE: a def (or a method) of the text,by its body. The body's reading t is chosen for each entry; it is run at the parameters' values -/
theorem fn_of {CX : CXT} {P : Program} {w : World} {K : PySem.W.Frag} {mg : Str->Option Value} {base : Heap} {k : Nat} {f : Addr} {name qual : Str} {params : Arguments} {body : List Stmt} {scope : Scope} {dV kV doc pm cdv ct oc : Value} {an od : Option Addr}
  {osl : Array (Option Value)} {N ps : List Str} {sp : Sp} (lk : K.lookup f = some ⟨oc,od,.func (PySem.W.fnOf name qual params body scope dV kV doc pm an cdv ct),osl⟩) (hcd : PySem.W.codeIn K cdv qual = true) (S : FnScope N ps scope)
  (len : ∀ vs H Q E,sp vs H Q E->vs.length = ps.length)
  (hbody : ∀ (A : Around) (outer : List Env) (s : Shared) (H : Hp) (vs : List V) (Q : VK) (E : XK),Room k (A.deeper (envOfC qual scope s.heap.objs.size f cdv))->sp vs H Q E ->
   ∃ t,PSs (cxOf CX P w K mg base N qual scope f cdv A outer s H E) body t/\t { nx:=fun _ H'=>Q .non H',rt:=Q } (start N vs) H) :
  FnOk P w K mg base CX (k + 1) f (PySem.W.fnOf name qual params body scope dV kV doc pm an cdv ct) ps sp:=by
 refine ⟨len,fun A outer s H args us vs Q E hr e0 hb r hsp=>?_⟩
 have hl:=len _ _ _ _ hsp
 have KX : K.In s.heap:=e0.mod.kin.keeps fun b o e=>(e0.bs b o e).1
 have lim : s.heap.NoLimit:=e0.mod.nolimit.keeps fun b o e=>(e0.bs b o e).1
 have hkind : ∀ y ∈ ps.zip us,scope.names.lookup y.1 = some .local \/ (scope.names.lookup y.1 = some .cell/\((cellsFrom (s.heap.objs.size + 1) scope.names []).lookup y.1).isSome = true):=fun ⟨n,v⟩ hy=>by
  rcases S.par n (List.of_mem_zip hy).1 with q | q
  ·exact .inl q
  ·exact .inr ⟨q,PySem.W.cellsFrom_some _ _ _ (.inl q)⟩
 refine codeAny_call_function hr.depth (KX _ _ lk) rfl S.co S.gen rfl (PySem.W.codeRec_of KX hcd) (hb _ _ _ _ ?_)
 refine wpAny_newFunctionEnv_cells S.kind hkind fun env he s1 x=>?_
 subst he
 refine ⟨lim.keeps x.toInCall.keep,codeAny_func ?_⟩
 obtain ⟨t,ht,hq⟩:=hbody A outer s H vs Q E (hr.deeper _) hsp
 have I : Inv (cxOf CX P w K mg base N qual scope f cdv A outer s H E) [] (start N vs) H s1:=inv_start S hr.hd e0 hl r x
 refine wpAny_mono (ht [] s1 (start N vs) H _ I hq) (fun fl s' hs=>?_) fun e s' hs=>hs
 have fin : ∀ {σ' : St} {H' : Hp} {v : V} {u : Value},Inv (cxOf CX P w K mg base N qual scope f cdv A outer s H E) [] σ' H' s'->RelV v u->Q v H'->CE outer P w H s Q u s' :=
  fun {σ' H' v u} J rv q=>⟨v,H',J.os,J.bare,J.base,J.hok,rv,q⟩
 cases fl with
 | ret u =>
  obtain ⟨v,σ',H',J,rv,q⟩:=hs
  exact fin J rv q
 | next =>
  obtain ⟨σ',H',J,q⟩:=hs
  exact fin (v:=V.non) (u:=Value.none) J rfl q
 | brk =>
  obtain ⟨_,_,_,q⟩:=hs
  exact False.elim q
 | cont =>
  obtain ⟨_,_,_,q⟩:=hs
  exact False.elim q
end L2
namespace L2
open PySem PySem.Spec PyProof.Rows
section
variable {X : Cx} {x : Str} {p pos : Pos} {e : Expr} {es : List Expr} {t : TA} {id T : String} {r : List V->Hp->VK->Prop}
def tCB (r : List V->Hp->VK->Prop) (t : TA) : TE:=fun σ H Q=>t σ H fun vs H1=>r vs H1 Q
theorem pe_callB (hc : CallR X (.builtin id) r) (hg : Gl X x) (hm : X.mg x = none) (hv : bootBuiltins x = some (.builtin id)) (ha : PA X (e :: es) t) (hn : x ≠ "__name__":=by decide) (hdb : (x == ("__debug__" : Str)) = false:=by decide)
  (he : starEach (e :: es) X.env = (false,eval e X.env) :: starEach es X.env:=by rfl) (hpl : (backTo pos (starEach es X.env)).any (·.1) = false:=by rfl) : PE X (.Call (.Name x p) (e :: es) [] pos) (tCB r t):=by
 intro pins s σ H Q I h
 refine wpAny_Call_Name_kw (ld_blt I hg hm hv ?_ hn hdb)
 exact PyProof.Rows.callWith_builtin1 (thn (ha pos pins s σ H _ I h) fun us s1 ⟨vs,H1,I1,r1,q1⟩=>hc pins s1 σ H1 vs us Q I1 r1 q1) he hpl
theorem pe_callTy (hc : CallR X (.type T) r) (hg : Gl X x) (hm : X.mg x = none) (hv : bootBuiltins x = some (.type T)) (ha : PA X (e :: es) t) (hn : x ≠ "__name__":=by decide) (hdb : (x == ("__debug__" : Str)) = false:=by decide)
  (he : starEach (e :: es) X.env = (false,eval e X.env) :: starEach es X.env:=by rfl) (hpl : (backTo pos (starEach es X.env)).any (·.1) = false:=by rfl) : PE X (.Call (.Name x p) (e :: es) [] pos) (tCB r t):=by
 intro pins s σ H Q I h
 refine wpAny_Call_Name_kw (ld_blt I hg hm hv ?_ hn hdb)
 exact PyProof.Rows.callWith_type1 (thn (ha pos pins s σ H _ I h) fun us s1 ⟨vs,H1,I1,r1,q1⟩=>hc pins s1 σ H1 vs us Q I1 r1 q1) he hpl
end
end L2
namespace HT
open PySem PyProof.Rows
def lexLt : List Int->List Int->Bool
 | [],[]=>false
 | [],_ :: _=>true
 | _ :: _,[]=>false
 | x :: xs,y :: ys=>if x = y then lexLt xs ys else decide (x < y)
section
open PySem.SeqAt
open PySem.AutoSeq1 (wpAny_loadPart')
open PySem.MeetsSeq PySem.MeetsSeq2 PySem.MeetsSeq3
end
section
variable {prog : Program} {w : World} {A : Around} {E : Value->Shared->Prop} {s : Shared}
theorem cat_tup {t b : Addr} {vs ws : List Value} {Q : Value->Shared->Prop} (ht : IsTup s.heap t vs.toArray) (hb : IsTup s.heap b ws.toArray) (hv : vs ≠ [])
  (h1 : ws = []->Q (.ref t) s) (h2 : ws ≠ []->Q (.ref s.heap.objs.size) { s with heap:=s.heap.push { cls:=.type "tuple",data:=.seq (vs ++ ws).toArray } })
  (hsz : vs.length + ws.length <= sizeLine) : wpAny (model prog w) A (binaryOp .Add (.ref t) (.ref b)) Q E s:=by
 obtain ⟨⟨cls,dd,data,sl⟩,ho,hc,n,hd⟩:=id ht
 obtain ⟨⟨cls2,dd2,data2,sl2⟩,ho2,hc2,n2,hd2⟩:=id hb
 simp only at hc hd hc2 hd2
 subst hc hd hc2 hd2
 have e : vs.toArray ++ ws.toArray = (vs ++ ws).toArray:=by simp
 by_cases hw : ws = []
 ·exact concat_meets ⟨_,ho,rfl⟩ ⟨_,ho2,rfl⟩ noFill_tuple_add seq_tuple_add PySem.F.slot_tuple_add PySem.F.entry_tuple_add (PySem.F.args_tuple_add_2 _ _)
   (tuple_addW1 t b vs.toArray ws.toArray n n2 dd dd2 sl sl2 (by simpa using hv) (by simp [hw])) ⟨ho,ho2,h1 hw⟩
 ·refine concat_meets ⟨_,ho,rfl⟩ ⟨_,ho2,rfl⟩ noFill_tuple_add seq_tuple_add PySem.F.slot_tuple_add PySem.F.entry_tuple_add (PySem.F.args_tuple_add_2 _ _)
   (tuple_addW2 t b vs.toArray ws.toArray n n2 dd dd2 sl sl2 (by simpa using hv) (by simpa using hw) (by rw [List.size_toArray,List.size_toArray]; exact hsz)) ⟨ho,ho2,?_⟩
  rw [e]
  exact h2 hw
def sIx (n d : Nat) : Option Int->Nat
 | none=>d
 | some v=>if v < 0 then (v + (n : Int)).toNat else min v.toNat n
theorem sIx_none (n d : Nat) : sIx n d none = d:=rfl
theorem sIx_nat (n d k : Nat) : sIx n d (some (k : Int)) = min k n:=by
 show (if (k : Int) < 0 then ((k : Int) + (n : Int)).toNat else min (k : Int).toNat n) = min k n
 rw [if_neg (by omega),Int.toNat_natCast]
theorem sIx_le (n d : Nat) (hd : d <= n) (o : Option Int) : sIx n d o <= n:=by
 cases o with
 | none=>exact hd
 | some v =>
  show (if v < 0 then (v + (n : Int)).toNat else min v.toNat n) <= n
  by_cases hv : v < 0
  ·rw [if_pos hv]; omega
  ·rw [if_neg hv]; exact Nat.min_le_right _ _
theorem clip_eq (v : Int) (n d : Nat) : (if v < 0 then max (v + (n : Int)) 0 else min v (n : Int)) = ((sIx n d (some v) : Nat) : Int):=by
 show (if v < 0 then max (v + (n : Int)) 0 else min v (n : Int)) = (((if v < 0 then (v + (n : Int)).toNat else min v.toNat n) : Nat) : Int)
 by_cases hv : v < 0
 ·simp only [if_pos hv]; omega
 ·simp only [if_neg hv]; omega
theorem adjust_gen (lo hi : Option Int) (n : Nat) : Builtin.Slice.sliceAdjust lo hi 1 (n : Int) = (((sIx n 0 lo : Nat) : Int),((sIx n n hi : Nat) : Int)):=by
 have h1 : ¬ ((1 : Int) < 0):=by omega
 unfold Builtin.Slice.sliceAdjust
 simp only [h1,if_false]
 refine Prod.ext ?_ ?_
 ·cases lo with
  | none=>rfl
  | some v=>exact clip_eq v n 0
 ·cases hi with
  | none=>rfl
  | some v=>exact clip_eq v n n
theorem places_gen (i j : Nat) : Builtin.Slice.slicePlaces (i : Int) (j : Int) 1 = j - i:=by
 unfold Builtin.Slice.slicePlaces
 have h1 : (1 : Int) > 0:=by omega
 simp only [h1,if_true,Int.ediv_one]
 split <;> omega
theorem slicePart_ {v : Value} {o : Option Int} {Q : Option Int->Shared->Prop} (p : IsPart v o) (h : Q o s) : wpAny (model prog w) A (Builtin.Slice.slicePartIndex v) Q E s:=by
 cases p with
 | none=>exact slicePart_none h
 | int i t=>exact slicePart_int h
theorem sliceApplied_gen {sl : Addr} {vl vu : Value} {lo hi : Option Int} {n : Nat} {Q : Int × Int × Nat->Shared->Prop} (hs : s.heap.IsSliceOf sl vl vu .none) (pl : IsPart vl lo) (pu : IsPart vu hi)
  (h : Q (((sIx n 0 lo : Nat) : Int),1,sIx n n hi - sIx n 0 lo) s) : wpAny (model prog w) A (Builtin.Slice.sliceApplied (.ref sl) (pure (n : Int))) Q E s:=by
 obtain ⟨os,hos,hcs,hds⟩:=id hs
 unfold Builtin.Slice.sliceApplied Builtin.Slice.sliceFields
 refine wpAny_bind (wpAny_bind (wpAny_field hos hds (x:=vl) rfl (wpAny_bind (wpAny_field hos hds (x:=vu) rfl (wpAny_bind (wpAny_field hos hds (x:=.none) rfl (wpAny_pure ?_)))))))
 refine wpAny_bind (slicePart_none ?_)
 show wpAny _ _ (if ((1 : Int) == 0) = true then _ else _) _ _ s
 rw [if_neg (by decide)]
 refine wpAny_bind (slicePart_ pl (wpAny_bind (slicePart_ pu (wpAny_bind (wpAny_pure ?_)))))
 show wpAny _ _ (match Builtin.Slice.sliceAdjust lo hi 1 (n : Int) with | (lo,hi)=>pure (lo,(1 : Int),Builtin.Slice.slicePlaces lo hi 1)) _ _ s
 rw [adjust_gen lo hi n]
 show wpAny _ _ (pure (((sIx n 0 lo : Nat) : Int),(1 : Int),Builtin.Slice.slicePlaces ((sIx n 0 lo : Nat) : Int) ((sIx n n hi : Nat) : Int) 1)) _ _ s
 rw [places_gen]
 exact wpAny_pure h
theorem pick_gen (xs : Array Value) (i k : Nat) : ((List.range k).filterMap fun (m : Nat)=>xs[((i : Int) + (m : Int) * 1).toNat]?).toArray = ((xs.toList.drop i).take k).toArray:=by
 have e : (fun (m : Nat)=>xs[((i : Int) + (m : Int) * 1).toNat]?) = fun m=>xs[i + m]?:=by
  funext m
  have : ((i : Int) + (m : Int) * 1).toNat = i + m:=by omega
  rw [this]
 rw [e]
 have:=pick_run xs i k
 rw [List.filterMap_map] at this
 have e2 : ((fun x=>xs[x]?) ∘ fun x=>i + x) = fun m=>xs[i + m]?:=rfl
 rw [e2] at this
 rw [this]
theorem getItem_tuple_cut {t sl : Addr} {items : Array Value} {vl vu : Value} {lo hi : Option Int} {Q : Value->Shared->Prop} (ht : IsTup s.heap t items) (hs : s.heap.IsSliceOf sl vl vu .none) (pl : IsPart vl lo) (pu : IsPart vu hi)
  (hw : ¬ (sIx items.size 0 lo = 0/\sIx items.size items.size hi = items.size))
  (h : Q (.ref s.heap.objs.size) { s with heap:=s.heap.push { cls:=.type "tuple",data:=.seq ((items.toList.drop (sIx items.size 0 lo)).take (sIx items.size items.size hi - sIx items.size 0 lo)).toArray } })
  (hsz : items.size <= sizeLine) : wpAny (model prog w) A (getItem (.ref t) (.ref sl)) Q E s:=by
 have htake : sizeOk (.seq ((items.toList.drop (sIx items.size 0 lo)).take (sIx items.size items.size hi - sIx items.size 0 lo)).toArray):=by
  show ((items.toList.drop (sIx items.size 0 lo)).take (sIx items.size items.size hi - sIx items.size 0 lo)).toArray.size <= sizeLine
  rw [List.size_toArray,List.length_take,List.length_drop,Array.length_toList]
  omega
 have hj : sIx items.size items.size hi <= items.size:=sIx_le _ _ (Nat.le_refl _) hi
 obtain ⟨os,hos,hcs,hds⟩:=id hs
 have hTs : s.TypeIs (.ref sl) "slice":=⟨os,hos,hcs⟩
 unfold getItem
 try with_reducible refine wpAny_holding ?_
 first | refine wpAny_bind (wpAny_pure ?_) | skip
 refine wpAny_bind (wpAny_sequenceKey ht.typeIs (by decide) ?_)
 refine wpAny_bind (wpAny_callSpecial?_slot (name:=Str.ofString "__getitem__") ht.typeIs PyProof.Rows.slot_tuple_getitem
  (wpAny_call_entry PyProof.Rows.slot_tuple_getitem ht.typeIs entry_tuple_getitem ?_ (args_tuple_getitem _ _)))
 show wpAny _ _ (Builtin.Tuple.tupleItemsOf (.ref t) >>= _) _ _ s
 refine wpAny_bind (tupleItemsOf_ ht ?_)
 refine wpAny_bind (wpAny_typeOf hTs ?_)
 rw [if_pos (by decide)]
 refine wpAny_bind (sliceApplied_gen hs pl pu ?_)
 have hno : ¬ ((((sIx items.size 0 lo : Nat) : Int) == 0 && (1 : Int) == 1 && (sIx items.size items.size hi - sIx items.size 0 lo) == items.size) = true):=by
  intro q
  rw [Bool.and_eq_true,Bool.and_eq_true] at q
  have q1 : ((sIx items.size 0 lo : Nat) : Int) = 0:=eq_of_beq q.1.1
  have q2 : sIx items.size items.size hi - sIx items.size 0 lo = items.size:=eq_of_beq q.2
  exact hw ⟨by omega,by omega⟩
 show wpAny _ _ (if (((sIx items.size 0 lo : Nat) : Int) == 0 && (1 : Int) == 1 && (sIx items.size items.size hi - sIx items.size 0 lo) == items.size) = true then _ else _) _ _ s
 rw [if_neg hno,pick_gen]
 first
  | exact wpAny_bind (m:=Builtin.Tuple.tupleExact _) (wpAny_newObj_type (wpAny_pure ⟨_,rfl,wpAny_pure h⟩) htake)
  | exact wpAny_bind (m:=Builtin.Tuple.tupleExact _) (wpAny_newObj_type (wpAny_bind (wpAny_pure (wpAny_pure ⟨_,rfl,wpAny_pure h⟩))) htake)
  | exact wpAny_bind (wpAny_bind (m:=Builtin.Tuple.tupleExact _) (wpAny_newObj_type (wpAny_pure (wpAny_pure ⟨_,rfl,wpAny_pure h⟩)) htake))
  | exact wpAny_bind (wpAny_bind (m:=Builtin.Tuple.tupleExact _) (wpAny_newObj_type (wpAny_pure ⟨_,rfl,wpAny_pure h⟩) htake))
end
end HT
namespace L2
open PySem PySem.Spec PyProof.Rows
abbrev TO:=St->Hp->(Option Int->Hp->Prop)->Prop
def PO (X : Cx) (e : Option Expr) (t : TO) : Prop :=
 ∀ (pins : List (Addr × Obj)) (s : Shared) (σ : St) (H : Hp) (Q : Option Int->Hp->Prop),Inv X pins σ H s->t σ H Q ->
  wpAny (model X.prog X.w) X.A (evalPart e X.env) (fun u s'=>∃ o H',Inv X pins σ H' s'/\IsPart u o/\Q o H') X.xe s
def tNoPart : TO:=fun _ H Q=>Q none H
def tPart (t : TE) : TO:=fun σ H Q=>t σ H fun x H1=>∃ i,x = .int i/\Q (some i) H1
section
variable {X : Cx} {e : Expr} {te : TE} {lo hi : Option Expr} {tl th : TO} {pos p2 : Pos}
theorem po_none : PO X none tNoPart:=by
 intro pins s σ H Q I h
 rw [evalPart_none]
 exact wpAny_pure ⟨none,H,I,.none,h⟩
theorem po_some (h : PE X e te) : PO X (some e) (tPart te):=by
 intro pins s σ H Q I hw
 rw [evalPart_some]
 refine thn (h pins s σ H _ I hw) fun u s1 ⟨x,H1,I1,r1,q1⟩=>?_
 obtain ⟨i,rfl,q⟩:=q1
 obtain ⟨t,rfl⟩:=r1
 exact ⟨some i,H1,I1,.int i t,q⟩
def SlR (X : Cx) (r : V->Option Int->Option Int->Hp->VK->Prop) : Prop :=
 ∀ (pins : List (Addr × Obj)) (s : Shared) (σ : St) (H : Hp) (x : V) (v vl vu : Value) (lo hi : Option Int) (sl : Addr) (Q : VK),Inv X pins σ H s->RelV x v->s.heap.IsSliceOf sl vl vu .none->IsPart vl lo->IsPart vu hi->r x lo hi H Q ->
  ∃ T id,typeLookup (.type T) "__getitem__" = pure (some (.builtin id))/\s.TypeIs v T/\wpAny (model X.prog X.w) X.A (getItem v (.ref sl)) (EP X pins σ Q) X.xe s
def tSl (r : V->Option Int->Option Int->Hp->VK->Prop) (te : TE) (tl th : TO) : TE:=fun σ H Q=>te σ H fun x H1=>tl σ H1 fun l H2=>th σ H2 fun u H3=>r x l u H3 Q
theorem pe_slice {r : V->Option Int->Option Int->Hp->VK->Prop} (hr : SlR X r) (he : PE X e te) (hl : PO X lo tl) (hu : PO X hi th) : PE X (.Subscript e (.Slice lo hi none p2) pos) (tSl r te tl th):=by
 intro pins s σ H Q I h
 refine Subscript_ (thn (he pins s σ H _ I h) fun v s1 ⟨x,H1,I1,r1,q1⟩=>?_)
 refine wpAny_Slice (thn (hl pins s1 σ H1 _ I1 q1) fun vl s2 ⟨l,H2,I2,pl,q2⟩=>thn (hu pins s2 σ H2 _ I2 q2) fun vu s3 ⟨u,H3,I3,pu,q3⟩=>?_)
 rw [evalPart_none]
 refine wpAny_pure ?_
 have I4 : Inv X pins σ H3 { s3 with heap:=s3.heap.push { cls:=.type "slice",data:=.fields #[vl,vu,.none] } }:=I3.kept (t':=s3.toks) fun b ob q=>Heap.get?_push_of_some _ q
 obtain ⟨T,id,hT,ht,hg⟩:=hr pins { s3 with heap:=s3.heap.push { cls:=.type "slice",data:=.fields #[vl,vu,.none] } } σ H3 x v vl vu l u s3.heap.objs.size Q I4 r1 (Heap.IsSliceOf.new ..) pl pu q3
 show wpAny (model X.prog X.w) X.A (subscriptTail e (.Slice lo hi none p2) v (.ref s3.heap.objs.size)) (EP X pins σ Q) X.xe { s3 with heap:=s3.heap.push { cls:=.type "slice",data:=.fields #[vl,vu,.none] } }
 exact tail_any (ops:=[.ref s3.heap.objs.size,v]) ht hT hg (by with_unfolding_all rfl)
def cutV (xs : List V) (lo hi : Option Int) : List V:=(xs.drop (HT.sIx xs.length 0 lo)).take (HT.sIx xs.length xs.length hi - HT.sIx xs.length 0 lo)
theorem cutV_length (xs : List V) (lo hi : Option Int) : (cutV xs lo hi).length <= xs.length:=by
 unfold cutV
 rw [List.length_take,List.length_drop]
 omega
def rSlT (K : PySem.W.Frag) : V->Option Int->Option Int->Hp->VK->Prop:=fun x lo hi H Q=>∃ a xs,x = .ref a/\SqT K H a xs /\
 ¬ (HT.sIx xs.length 0 lo = 0/\HT.sIx xs.length xs.length hi = xs.length)/\∀ p,H p = none->Q (.ref p) (upd H p (.tup (cutV xs lo hi)))
def rLtT (K : PySem.W.Frag) : R2:=fun x y H Q=>∃ a b ns ms,x = .ref a/\y = .ref b/\SqT K H a (ns.map V.int)/\SqT K H b (ms.map V.int)/\Q (.bl (HT.lexLt ns ms)) H
def rCatT (K : PySem.W.Frag) : R2:=fun x y H Q=>∃ a b xs ys,x = .ref a/\y = .ref b/\SqT K H a xs/\SqT K H b ys/\xs ≠ []/\xs.length + ys.length <= sizeLine /\
 (ys = []->Q (.ref a) H)/\(ys ≠ []->∀ p,H p = none->Q (.ref p) (upd H p (.tup (xs ++ ys))))
theorem Vals.nil_iff {xs : List V} {us : List Value} (r : Vals xs us) : us = [] ↔ xs = []:=by
 cases r with
 | nil=>simp
 | cons _ _=>simp
end
end L2
namespace L2
open PySem PySem.Spec PyProof.Rows
def ixN (n : Nat) (i : Int) : Option Nat:=if 0 <= i then (if i < n then some i.toNat else none) else if -(n : Int) <= i then some (i + n).toNat else none
def atI {α : Type} (xs : List α) (i : Int) : Option α:=(ixN xs.length i).bind fun j=>xs[j]?
theorem ixN_seq {n : Nat} {i : Int} {j : Nat} (h : ixN n i = some j) : seqIndex? i n = some j/\j < n/\-(n : Int) <= i/\i < n:=by
 unfold ixN at h
 by_cases h0 : 0 <= i
 ·rw [if_pos h0] at h
  by_cases h1 : i < n
  ·rw [if_pos h1] at h
   have e : i.toNat = j:=Option.some.inj h
   exact ⟨by rw [seqIndex_of h0 h1,e],by omega,by omega,h1⟩
  ·rw [if_neg h1] at h; cases h
 ·rw [if_neg h0] at h
  by_cases h1 : -(n : Int) <= i
  ·rw [if_pos h1] at h
   have e : (i + n).toNat = j:=Option.some.inj h
   exact ⟨by rw [seqIndex_neg (by omega) h1,e],by omega,h1,by omega⟩
  ·rw [if_neg h1] at h; cases h
theorem atI_get {α : Type} {xs : List α} {i : Int} {v : α} (h : atI xs i = some v) : ∃ j,seqIndex? i xs.length = some j/\xs[j]? = some v/\j < xs.length/\-(xs.length : Int) <= i/\i < xs.length:=by
 unfold atI at h
 cases e : ixN xs.length i with
 | none=>rw [e] at h; cases h
 | some j =>
  rw [e] at h
  obtain ⟨h1,h2,h3,h4⟩:=ixN_seq e
  exact ⟨j,h1,h,h2,h3,h4⟩
theorem atI_nat {α : Type} {xs : List α} {j : Nat} {v : α} (h : xs[j]? = some v) : atI xs (j : Int) = some v:=by
 have hj : j < xs.length:=(List.getElem?_eq_some_iff.mp h).1
 have e : ixN xs.length (j : Int) = some j:=by
  unfold ixN
  rw [if_pos (by omega),if_pos (by omega)]; simp
 unfold atI; rw [e]; exact h
def PlainIx (b : Expr) : Prop:=∀ o i,subscripted b false o i = operate [o,i] (getItem o i)
def IxR (X : Cx) (r : R2) : Prop :=
 ∀ (value slice : Expr) (pins : List (Addr × Obj)) (s : Shared) (σ : St) (H : Hp) (x y : V) (v u : Value) (Q : VK),Inv X pins σ H s->RelV x v->RelV y u->r x y H Q ->
  subscripted slice false v u = operate [v,u] (getItem v u)->wpAny (model X.prog X.w) X.A (subscriptTail value slice v u) (EP X pins σ Q) X.xe s
def MtR (X : Cx) (id : String) (r : V->List V->Hp->VK->Prop) : Prop :=
 ∀ (pins : List (Addr × Obj)) (s : Shared) (σ : St) (H : Hp) (x : V) (xs : List V) (v : Value) (us : List Value) (Q : VK),Inv X pins σ H s->RelV x v->Vals xs us->r x xs H Q ->
  wpAny (model X.prog X.w) X.A (call (.builtin id) (v :: us)) (EP X pins σ Q) X.xe s
section
variable {X : Cx} {a b : Expr} {ta tb : TE} {pos : Pos}
theorem pe_ix {r : R2} (hr : IxR X r) (ha : PE X a ta) (hb : PE X b tb) (hs : PlainIx b) : PE X (.Subscript a b pos) (tOp r ta tb):=by
 intro pins s σ H Q I h
 exact Subscript_ (binT ha hb I h fun v u s2 x y H2 I2 rx ry q=>hr a b pins s2 σ H2 x y v u Q I2 rx ry q (hs _ _))
def rIxL (K : PySem.W.Frag) : R2:=fun x y H Q=>∃ p xs i v,x = .ref p/\y = .int i/\SqL K H p xs/\atI xs i = some v/\Q v H
def rIxT (K : PySem.W.Frag) : R2:=fun x y H Q=>∃ p xs i v,x = .ref p/\y = .int i/\SqT K H p xs/\atI xs i = some v/\Q v H
def rIxS : R2:=fun x y H Q=>∃ z i c,x = .str z/\y = .int i/\z.length <= sizeLine/\atI z.cps.toList i = some c/\Q (.str ⟨#[c]⟩) H
theorem ix_list : IxR X (rIxL X.K):=by
 intro value slice pins s σ H x y v u Q I rx ry h hs
 obtain ⟨p,xs,i,z,rfl,rfl,hq,he,q⟩:=h
 cases rx
 obtain ⟨t,rfl⟩:=ry
 obtain ⟨its,r,pl,hz⟩:=I.list hq
 obtain ⟨j,h1,h2,h3,h4,h5⟩:=atI_get he
 obtain ⟨w,ew,rw'⟩:=r.get h2
 have hl:=r.length
 have hn:=line63
 have fin : EP X pins σ Q w s:=⟨z,H,I,rw',q⟩
 by_cases h0 : 0 <= i
 ·have hj : i.toNat = j:=by
   rw [seqIndex_of h0 h5] at h1
   exact Option.some.inj h1
  exact item_listR pl.isList h0 (by omega) (by rw [hj]; simpa using ew) fin hs
 ·have hj : (i + (its.toArray.size : Int)).toNat = j:=by
   rw [seqIndex_neg (by omega) h4] at h1
   rw [List.size_toArray,<- hl]
   exact Option.some.inj h1
  exact subscriptTail_builtinR (x:=w) pl.isList.typeIs slot_list_getitem.lookup
   (wpAny_getItem_list_neg (Q:=fun r s'=>r = w/\EP X pins σ Q r s') pl.isList (by omega) (by rw [List.size_toArray] <;> omega) (by omega) (by rw [hj]; simpa using ew) ⟨rfl,fin⟩) hs
theorem ix_tup : IxR X (rIxT X.K):=by
 intro value slice pins s σ H x y v u Q I rx ry h hs
 obtain ⟨p,xs,i,z,rfl,rfl,hq,he,q⟩:=h
 cases rx
 obtain ⟨t,rfl⟩:=ry
 obtain ⟨its,r,pl,hz⟩:=I.tuple hq
 obtain ⟨j,h1,h2,h3,h4,h5⟩:=atI_get he
 obtain ⟨w,ew,rw'⟩:=r.get h2
 have hl:=r.length
 have hn:=line63
 have fin : EP X pins σ Q w s:=⟨z,H,I,rw',q⟩
 exact subscriptTail_builtinR (x:=w) pl.typeIs slot_tuple_getitem.lookup
  (getItem_tuple (j:=j) (Q:=fun r s'=>r = w/\EP X pins σ Q r s') pl (by omega) (by omega) (by rw [List.size_toArray,<- hl]; exact h1) (by simpa using ew) ⟨rfl,fin⟩) hs
theorem ix_str : IxR X rIxS:=by
 intro value slice pins s σ H x y v u Q I rx ry h hs
 obtain ⟨z,i,c,rfl,rfl,hz,he,q⟩:=h
 obtain ⟨t,rfl⟩:=rx
 obtain ⟨t',rfl⟩:=ry
 obtain ⟨j,h1,h2,h3,h4,h5⟩:=atI_get he
 have hl : z.cps.toList.length = z.length:=by simp [Str.length]
 rw [hl] at h1 h4 h5
 have hn:=line63
 exact tail_any (typeIs_str s z t) slot_str_getitem.lookup (getItem_str (c:=c) (by
  have e1 : decide (i < -(2 ^ 63 : Int)) = false:=decide_eq_false (by omega)
  have e2 : decide (i ≥ 2 ^ 63) = false:=decide_eq_false (by omega)
  rw [e1,e2,Bool.or_false]) (by rw [h1]; simpa using h2) ⟨.str ⟨#[c]⟩,H,I.tok _,⟨_,rfl⟩,q⟩) hs
def rIx (K : PySem.W.Frag) : R2:=fun x y H Q=>rIxL K x y H Q \/ rIxT K x y H Q \/ rIxS x y H Q
theorem mapSeq_set (its : List Value) (n j : Nat) (u : Value) : Obj.mapSeq (·.setIfInBounds j u) { cls:=.type "list",data:=.seq its.toArray n } = { cls:=.type "list",data:=.seq (its.set j u).toArray n }:=by
 simp [Obj.mapSeq]
theorem Inv.lst {pins : List (Addr × Obj)} {σ : St} {H : Hp} {s : Shared} {p : Addr} {xs : List V} (I : Inv X pins σ H s) (h : H p = some (.lst xs)) :
  ∃ (its : List Value) (n : Nat),Vals xs its/\s.heap.get? p = some { cls:=.type "list",data:=.seq its.toArray n }/\xs.length <= sizeLine:=by
 obtain ⟨z,its,n,r,e⟩:=I.hok p _ h
 exact ⟨its,n,r,e,z⟩
theorem Inv.lstUpd {pins : List (Addr × Obj)} {σ : St} {H : Hp} {s : Shared} {p : Addr} {xs ys : List V} {its its' : List Value} {n n' : Nat} {f : Obj->Obj} (I : Inv X pins σ H s) (h : H p = some (.lst xs))
  (ho : s.heap.get? p = some { cls:=.type "list",data:=.seq its.toArray n }) (hf : f { cls:=.type "list",data:=.seq its.toArray n } = { cls:=.type "list",data:=.seq its'.toArray n' }) (r : Vals ys its') (hz : ys.length <= sizeLine) (t : Nat) :
  Inv X pins σ (upd H p (.lst ys)) { s with heap:=s.heap.update p f,toks:=t }:=by
 have e : (s.heap.update p f).get? p = some { cls:=.type "list",data:=.seq its'.toArray n' }:=by
  rw [Heap.get?_update_self f ho (by rw [hf] <;> rfl),hf]
 refine I.write (x:=p) (e:=p) (by rw [h]; trivial) (.inl rfl) (fun b u hb q=>(Heap.get?_update_other _ _ (Ne.symm hb)).trans q) ⟨_,e⟩ ?_
 exact ⟨hz,its',n',r,e⟩
def rSetL : V->V->V->Hp->(Hp->Prop)->Prop:=fun o i v H Q=>∃ p xs k j,o = .ref p/\i = .int k/\H p = some (.lst xs)/\ixN xs.length k = some j/\Q (upd H p (.lst (xs.set j v)))
theorem set_list : PSet X rSetL:=by
 intro pins s σ H o i v ov iv u Q I ro ri rv h
 obtain ⟨p,xs,k,j,rfl,rfl,hp,hj,q⟩:=h
 cases ro
 obtain ⟨t,rfl⟩:=ri
 obtain ⟨its,n,r,ho,hz⟩:=I.lst hp
 obtain ⟨h1,h2,h3,h4⟩:=ixN_seq hj
 have hl:=r.length
 have hn:=line63
 have I' : Inv X pins σ (upd H p (.lst (xs.set j v))) { s with heap:=s.heap.update p (Obj.mapSeq (·.setIfInBounds j u)) } :=
  I.lstUpd hp ho (mapSeq_set its n j u) (r.set rv j) (by rw [List.length_set]; exact hz) s.toks
 by_cases h0 : 0 <= k
 ·have hk : k.toNat = j:=by
   rw [seqIndex_of h0 h4] at h1
   exact Option.some.inj h1
  exact PySem.W.ki_setAt ho h0 (by omega) (by rw [List.size_toArray,<- hl]; exact h4) (by rw [hk]; exact ⟨_,I',q⟩)
 ·have hk : (k + (its.toArray.size : Int)).toNat = j:=by
   rw [seqIndex_neg (by omega) h3] at h1
   rw [List.size_toArray,<- hl]
   exact Option.some.inj h1
  exact PySem.W.ki_setBack ho (by omega) (by rw [List.size_toArray,<- hl]; exact h3) (by omega) (by rw [hk]; exact ⟨_,I',q⟩)
theorem slice_bounds (lo hi : Option Int) (n : Nat) : (sliceBounds lo hi none n).1 = ((HT.sIx n 0 lo : Nat) : Int)/\(sliceBounds lo hi none n).2.1 = ((HT.sIx n n hi : Nat) : Int)/\(sliceBounds lo hi none n).2.2 = 1:=by
 refine ⟨?_,?_,rfl⟩
 ·cases lo with
  | none=>simp [sliceBounds,HT.sIx]
  | some i =>
   simp only [sliceBounds,HT.sIx,Option.getD_none,show (1 : Int) > 0 by decide,if_true]
   by_cases h : i < 0
   ·simp only [h,if_true] <;> omega
   ·simp only [h,if_false] <;> omega
 ·cases hi with
  | none=>simp [sliceBounds,HT.sIx]
  | some i =>
   simp only [sliceBounds,HT.sIx,Option.getD_none,show (1 : Int) > 0 by decide,if_true]
   by_cases h : i < 0
   ·simp only [h,if_true] <;> omega
   ·simp only [h,if_false] <;> omega
theorem slicePick_cut (its : List Value) (lo hi : Option Int) : slicePick its.toArray lo hi none = ((its.drop (HT.sIx its.length 0 lo)).take (HT.sIx its.length its.length hi - HT.sIx its.length 0 lo)).toArray:=by
 obtain ⟨h1,h2,h3⟩:=slice_bounds lo hi its.toArray.size
 unfold slicePick
 rw [h1,h2,h3]
 simp only [sliceRange_one,pick_run,List.size_toArray] <;> rfl
def rSlL (K : PySem.W.Frag) : V->Option Int->Option Int->Hp->VK->Prop:=fun x lo hi H Q=>∃ a xs,x = .ref a/\SqL K H a xs/\∀ p,H p = none->Q (.ref p) (upd H p (.lst (cutV xs lo hi)))
theorem sl_list : SlR X (rSlL X.K):=by
 intro pins s σ H x v vl vu lo hi sl Q I rx hs pl pu h
 obtain ⟨a,xs,rfl,hx,q⟩:=h
 cases rx
 obtain ⟨its,r,ht,hz⟩:=I.list hx
 have hlen:=r.length
 refine ⟨"list",_,slot_list_getitem.lookup,ht.isList.typeIs,?_⟩
 refine wpAny_getItem_list_slice ht.isList hs pl pu .none (by simp) ?_ (by rw [List.size_toArray] <;> omega)
 rw [slicePick_cut,<- hlen]
 refine ⟨.ref s.heap.objs.size,_,I.laid (t':=s.toks) (o:=.lst (cutV xs lo hi)) (fun b ob q=>Heap.get?_push_of_some _ q) (Nat.le_refl _) ?_,rfl,q _ (I.hok.fresh (Nat.le_refl _))⟩
 exact ⟨Nat.le_trans (cutV_length xs lo hi) hz,_,0,(r.drop (HT.sIx xs.length 0 lo)).take (HT.sIx xs.length xs.length hi - HT.sIx xs.length 0 lo),Heap.get?_push_size _ rfl⟩
def flatV : V->Bool
 | .non=>true
 | .bl _=>true
 | .int _=>true
 | .str _=>true
 | _=>false
def eqV : V->V->Bool
 | .non,.non=>true
 | .bl a,.bl b=>a == b
 | .bl a,.int b=>(if a then 1 else 0) == b
 | .int a,.bl b=>a == (if b then 1 else 0)
 | .int a,.int b=>a == b
 | .str a,.str b=>a == b
 | _,_=>false
theorem eqAt_V {A : Around} {s : Shared} {y x : V} {u v : Value} (ry : RelV y u) (rx : RelV x v) (fy : flatV y = true) (fx : flatV x = true) : SeqAt.EqAt A s u v (eqV y x):=by
 cases y with
 | non =>
  cases ry
  cases x with
  | non=>cases rx; exact SeqAt.EqAt.same _
  | bl b=>cases rx; exact SeqAt.EqAt.none_bool b
  | int b=>obtain ⟨t,rfl⟩:=rx; exact SeqAt.EqAt.none_int b t
  | str b=>obtain ⟨t,rfl⟩:=rx; exact SeqAt.EqAt.none_str b t
  | _=>exact absurd (show false = true from fx) Bool.false_ne_true
 | bl a =>
  cases ry
  cases x with
  | non=>cases rx; exact SeqAt.EqAt.bool_none a
  | bl b=>cases rx; exact SeqAt.EqAt.bool_bool a b
  | int b=>obtain ⟨t,rfl⟩:=rx; exact SeqAt.EqAt.bool_int a b t
  | str b=>obtain ⟨t,rfl⟩:=rx; exact SeqAt.EqAt.bool_str a b t
  | _=>exact absurd (show false = true from fx) Bool.false_ne_true
 | int a =>
  obtain ⟨t',rfl⟩:=ry
  cases x with
  | non=>cases rx; exact SeqAt.EqAt.int_none a t'
  | bl b=>cases rx; exact SeqAt.EqAt.int_bool a t' b
  | int b=>obtain ⟨t,rfl⟩:=rx; exact SeqAt.EqAt.int_int a t' b t
  | str b=>obtain ⟨t,rfl⟩:=rx; exact SeqAt.EqAt.int_str a t' b t
  | _=>exact absurd (show false = true from fx) Bool.false_ne_true
 | str a =>
  obtain ⟨t',rfl⟩:=ry
  cases x with
  | non=>cases rx; exact SeqAt.EqAt.str_none a t'
  | bl b=>cases rx; exact SeqAt.EqAt.str_bool a t' b
  | int b=>obtain ⟨t,rfl⟩:=rx; exact SeqAt.EqAt.str_int a t' b t
  | str b=>obtain ⟨t,rfl⟩:=rx; exact SeqAt.EqAt.str_str a t' b t
  | _=>exact absurd (show false = true from fx) Bool.false_ne_true
 | _=>exact absurd (show false = true from fy) Bool.false_ne_true
def eqU (x : V) (u : Value) : Bool:=match u with
 | .none=>eqV .non x
 | .bool b=>eqV (.bl b) x
 | .int i _=>eqV (.int i) x
 | .str z _=>eqV (.str z) x
 | _=>false
theorem eqU_of {x y : V} {u : Value} (r : RelV y u) (f : flatV y = true) : eqU x u = eqV y x:=by
 cases y with
 | non=>cases r; rfl
 | bl b=>cases r; rfl
 | int i=>obtain ⟨t,rfl⟩:=r; rfl
 | str z=>obtain ⟨t,rfl⟩:=r; rfl
 | _=>exact absurd (show false = true from f) Bool.false_ne_true
theorem any_eqU {x : V} : ∀ {xs : List V} {us : List Value},Vals xs us->xs.all flatV = true->us.any (eqU x) = xs.any fun y=>eqV y x
 | _,_,.nil,_=>rfl
 | y :: xs,u :: us,.cons r t,f=>by
  rw [List.all_cons,Bool.and_eq_true] at f
  rw [List.any_cons,List.any_cons,eqU_of r f.1,any_eqU t f.2]
theorem mem_eqAt {A : Around} {s : Shared} {x : V} {v : Value} (rx : RelV x v) (fx : flatV x = true) : ∀ {xs : List V} {us : List Value},Vals xs us->xs.all flatV = true->∀ u ∈ us,SeqAt.EqAt A s u v (eqU x u)
 | _,_,.nil,_=>fun u hu=>by cases hu
 | y :: xs,u :: us,.cons r t,f=>fun u' hu=>by
  rw [List.all_cons,Bool.and_eq_true] at f
  rcases List.mem_cons.mp hu with rfl | hu
  ·rw [eqU_of r f.1]; exact eqAt_V r rx f.1 fx
  ·exact mem_eqAt rx fx t f.2 u' hu
def inV (x : V) (xs : List V) : Bool:=xs.any fun y=>eqV y x
def rIn (K : PySem.W.Frag) (neg : Bool) : R2:=fun x y H Q=>∃ p xs,y = .ref p/\(SqL K H p xs \/ SqT K H p xs)/\flatV x = true/\xs.all flatV = true/\Q (.bl (if neg then !inV x xs else inV x xs)) H
theorem op_in_seq : OpR X (compareOp .In) (rIn X.K false):=by
 intro pins s σ H x y v u Q I rx ry h
 obtain ⟨p,xs,rfl,hq,fx,fs,q⟩:=h
 cases ry
 rcases hq with hq | hq
 ·obtain ⟨its,r,pl,hz⟩:=I.list hq
  refine SeqAt.in_listAt (eqU x) pl.isList (fun w hw=>mem_eqAt rx fx r fs w (by simpa using hw)) ⟨.bl _,H,I,rfl,?_⟩
  rw [show its.toArray.any (eqU x) = its.any (eqU x) by simp,any_eqU r fs]
  exact q
 ·obtain ⟨its,r,pl,hz⟩:=I.tuple hq
  refine SeqAt.in_tupleAt (eqU x) pl (fun w hw=>mem_eqAt rx fx r fs w (by simpa using hw)) ⟨.bl _,H,I,rfl,?_⟩
  rw [show its.toArray.any (eqU x) = its.any (eqU x) by simp,any_eqU r fs]
  exact q
theorem call_len_seq : CallR X (.builtin "len") (fun xs H Q=>∃ p ys,xs = [.ref p]/\(SqL X.K H p ys \/ SqT X.K H p ys)/\Q (.int ys.length) H):=by
 intro pins s σ H xs us Q I r h
 obtain ⟨p,ys,rfl,hq,q⟩:=h
 obtain ⟨u,rfl,rx⟩:=vals1 r
 cases rx
 have hn:=line63
 rcases hq with hq | hq
 ·obtain ⟨its,r',pl,hz⟩:=I.list hq
  have hlen:=r'.length
  exact Calls.call_len_list pl.isList (by simp only [List.size_toArray] <;> omega) ⟨.int ys.length,H,I.tok _,⟨s.toks + 1,by rw [List.size_toArray,hlen]⟩,q⟩
 ·obtain ⟨its,r',pl,hz⟩:=I.tuple hq
  have hlen:=r'.length
  exact len_tuple pl (by simp only [List.size_toArray] <;> omega) ⟨.int ys.length,H,I.tok _,⟨s.toks + 1,by rw [List.size_toArray,hlen]⟩,q⟩
theorem call_list_of : CallR X (.type "list") (fun xs H Q=>∃ p ys,xs = [.ref p]/\(SqL X.K H p ys \/ SqT X.K H p ys)/\∀ l,H l = none->Q (.ref l) (upd H l (.lst ys))):=by
 intro pins s σ H xs us Q I r h
 obtain ⟨p,ys,rfl,hq,q⟩:=h
 obtain ⟨u,rfl,rx⟩:=vals1 r
 cases rx
 have fin : ∀ (its : List Value),Vals ys its->ys.length <= sizeLine->∀ (h' : Heap) (c' : Nat),(∀ b o',s.heap.get? b = some o'->h'.get? b = some o') ->
   h'.get? s.heap.objs.size = some { cls:=.type "list",dict:=none,data:=.seq its.toArray c',slots:=#[] }->EP X pins σ Q (.ref s.heap.objs.size) { s with heap:=h' }:=fun its r' hz h' c' kp e =>
  ⟨.ref s.heap.objs.size,_,I.laid (t':=s.toks) kp (Nat.le_refl _) (show ObjOk X.prog X.w _ h' _ (.lst ys) from ⟨hz,its,c',r',e⟩),rfl,q _ (I.hok.fresh (Nat.le_refl _))⟩
 rcases hq with hq | hq
 ·obtain ⟨its,r',pl,hz⟩:=I.list hq
  have hlen:=r'.length
  obtain ⟨o,ho,hc,n,hd⟩:=pl.isList
  exact call_list_seq p (.inl rfl) ho hc hd (fun h' c' kp e=>fin its r' hz h' c' kp e) (by simp only [List.size_toArray] <;> omega)
 ·obtain ⟨its,r',pl,hz⟩:=I.tuple hq
  have hlen:=r'.length
  obtain ⟨o,ho,hc,n,hd⟩:=pl
  exact call_list_seq p (.inr rfl) ho hc hd (fun h' c' kp e=>fin its r' hz h' c' kp e) (by simp only [List.size_toArray] <;> omega)
theorem call_tuple_of : CallR X (.type "tuple") (fun xs H Q=>∃ p ys,xs = [.ref p]/\((SqL X.K H p ys/\∀ l,H l = none->Q (.ref l) (upd H l (.tup ys))) \/ (SqT X.K H p ys/\Q (.ref p) H))):=by
 intro pins s σ H xs us Q I r h
 obtain ⟨p,ys,rfl,h⟩:=h
 obtain ⟨u,rfl,rx⟩:=vals1 r
 cases rx
 rcases h with ⟨hq,q⟩ | ⟨hq,q⟩
 ·obtain ⟨its,r',pl,hz⟩:=I.list hq
  have hlen:=r'.length
  refine call_tuple_list pl.isList (fun h' kp=>?_) (by simp only [List.size_toArray] <;> omega)
  have I1 : Inv X pins σ H { s with heap:=h' }:=I.kept (t':=s.toks) kp
  have I2 : Inv X pins σ (upd H h'.objs.size (.tup ys)) { s with heap:=h'.push { cls:=.type "tuple",data:=.seq its.toArray } } :=
   I1.laid (t':=s.toks) (fun b o e=>Heap.get?_push_of_some _ e) (Nat.le_refl _) (show ObjOk X.prog X.w _ _ _ (.tup ys) from ⟨hz,its,r',IsTup.new _ _⟩)
  exact ⟨.ref h'.objs.size,_,I2,rfl,q _ (I1.hok.fresh (Nat.le_refl _))⟩
 ·obtain ⟨its,r',pl,hz⟩:=I.tuple hq
  exact call_tuple_same pl ⟨.ref p,H,I,rfl,q⟩
def tyV (K : PySem.W.Frag) (T : String) (x : V) (H : Hp) : Prop:=match x with
 | .str _=>T = "str"
 | .int _=>T = "int"
 | .ref p=>(T = "list"/\∃ xs,SqL K H p xs) \/ (T = "tuple"/\∃ o,K.lookup p = some o/\o.cls = .type "tuple"/\o.dict = none) \/
   (T = "dict"/\((∃ kvs,H p = some (.dK kvs)) \/ ∃ kvs,H p = some (.dT kvs))) \/ (T = "set"/\∃ S n,H p = some (.set S n))
 | _=>False
theorem tyV_is {pins : List (Addr × Obj)} {σ : St} {H : Hp} {s : Shared} {T : String} {x : V} {v : Value} (I : Inv X pins σ H s) (r : RelV x v) (ty : tyV X.K T x H) :
  s.TypeIs v T/\∀ a,v = .ref a->∃ ob,s.heap.get? a = some ob/\ob.dict = none:=by
 cases x with
 | str z =>
  obtain ⟨t,rfl⟩:=r
  cases (show T = "str" from ty)
  exact ⟨typeIs_str s z t,fun _ e=>nomatch e⟩
 | int i =>
  obtain ⟨t,rfl⟩:=r
  cases (show T = "int" from ty)
  exact ⟨typeIs_int s i t,fun _ e=>nomatch e⟩
 | ref p =>
  cases r
  rcases ty with ⟨rfl,xs,hq⟩ | ⟨rfl,o,hk,hc,hd⟩ | ⟨rfl,hk⟩ | ⟨rfl,S,n,hk⟩
  ·obtain ⟨its,_,pl,_⟩:=I.list hq
   refine ⟨pl.isList.typeIs,fun a e=>?_⟩
   cases e
   obtain ⟨o,n,e,c,hd,_⟩:=pl
   exact ⟨o,e,hd⟩
  ·refine ⟨⟨o,I.kIn p o hk,hc⟩,fun a e=>?_⟩
   cases e
   exact ⟨o,I.kIn _ o hk,hd⟩
  ·have z : ∃ o,s.heap.get? p = some o/\o.ExactDict:=by
    rcases hk with ⟨kvs,hk⟩ | ⟨kvs,hk⟩
    ·obtain ⟨_,_,_,_,o,_,_,e,ex,_⟩:=I.hok p _ hk
     exact ⟨o,e,ex⟩
    ·obtain ⟨_,_,_,_,o,_,_,e,ex,_⟩:=I.hok p _ hk
     exact ⟨o,e,ex⟩
   obtain ⟨o,e,ex⟩:=z
   refine ⟨⟨o,e,ex.1⟩,fun a e2=>?_⟩
   cases e2
   exact ⟨o,e,ex.2.1⟩
  ·obtain ⟨o,_,_,_,e,ex,_⟩:=I.hok p _ hk
   refine ⟨⟨o,e,ex.1⟩,fun a e2=>?_⟩
   cases e2
   exact ⟨o,e,ex.2.1⟩
 | _=>exact False.elim ty
def tBM0 (K : PySem.W.Frag) (T : String) (r : V->List V->Hp->VK->Prop) (to : TE) : TE:=fun σ H Q=>to σ H fun x H1=>tyV K T x H1/\r x [] H1 Q
def tBM (K : PySem.W.Frag) (T : String) (r : V->List V->Hp->VK->Prop) (to : TE) (t : TA) : TE:=fun σ H Q=>to σ H fun x H1=>tyV K T x H1/\t σ H1 fun xs H2=>r x xs H2 Q
variable {o e : Expr} {es : List Expr} {to : TE} {t : TA} {name : Str} {apos cpos : Pos} {T id : String} {r : V->List V->Hp->VK->Prop}
theorem pe_bm (pa : PlainAttrs T) (slot : Slot T name id) (hty : typeOf (.builtin id) = pure (.type "method_descriptor")) (hm : MtR X id r) (ho : PE X o to) (ha : PA X (e :: es) t)
  (hbase : attributeBase o name X.env (eval o X.env) = eval o X.env:=by rfl)
  (hfew : ((backTo cpos (starEach (e :: es) X.env)).all (fun x=>!x.1) && (backToKw cpos (keywordEach [] X.env)).all (fun x=>x.1.isSome)
   && decide ((e :: es).length + ([] : List Keyword).length + (if ([] : List Keyword).isEmpty then 0 else 1) < 30)) = true:=by rfl)
  (hline : (apos.endLine == cpos.line) = true:=by rfl) (hs : starEach (e :: es) X.env = (false,eval e X.env) :: starEach es X.env:=by rfl) (hplain : (backTo cpos (starEach es X.env)).any (·.1) = false:=by rfl) :
  PE X (.Call (.Attribute o name apos) (e :: es) [] cpos) (tBM X.K T r to t):=by
 intro pins s σ H Q I h
 refine wpAny_Call_method_late hbase hfew hline rfl (thn (ho pins s σ H _ I h) fun v s1 ⟨x,H1,I1,r1,ty,q1⟩=>?_)
 obtain ⟨h1,h2⟩:=tyV_is I1 r1 ty
 refine ⟨T,id,pa,slot,hty,h1,h2,?_⟩
 have hA:=ha cpos pins s1 σ H1 _ I1 q1
 rw [hs] at hA ⊢
 refine Calls.callWith_builtin (by show (false || (backTo cpos (starEach es X.env)).any (·.1)) = false; rw [hplain] <;> rfl) (Calls.evalArgs_plain ?_)
 exact thn hA fun us s2 ⟨vs,H2,I2,r2,q2⟩=>hm pins s2 σ H2 x vs v us Q I2 r1 r2 q2
end
end L2
namespace L2
open PySem PySem.Spec PyProof.Rows
def MtM (X : Cx) (id : String) (r : V->List V->Hp->VK->Prop) : Prop :=
 ∀ (pins : List (Addr × Obj)) (s : Shared) (σ : St) (H : Hp) (x : V) (xs : List V) (v : Value) (us : List Value) (Q : VK),Inv X pins σ H s->RelV x v->Vals xs us->r x xs H Q ->
  wpAny (model X.prog X.w) X.A (call (.builtin id) (v :: us)) (EP X pins σ Q) X.xe s
theorem Vals.one : ∀ {x : V} {us : List Value},Vals [x] us->∃ u,us = [u]/\RelV x u
 | _,_,.cons r .nil=>⟨_,rfl,r⟩
theorem Vals.rep {xs : List V} {us : List Value} (h : Vals xs us) : ∀ k : Nat,Vals (List.replicate k xs).flatten (List.replicate k us).flatten
 | 0=>.nil
 | k + 1=>by
  rw [List.replicate_succ,List.replicate_succ,List.flatten_cons,List.flatten_cons]
  exact Vals.append h (Vals.rep h k)
theorem foldl_rep (its : List Value) : ∀ (k : Nat) (acc : List Value),
  List.foldl (fun x1 x2=>x1 ++ x2) acc.toArray (List.replicate k its.toArray) = (acc ++ (List.replicate k its).flatten).toArray
 | 0,acc=>by simp
 | k + 1,acc=>by
  have e : acc.toArray ++ its.toArray = (acc ++ its).toArray:=by simp
  have e2 : (acc ++ its) ++ (List.replicate k its).flatten = acc ++ (List.replicate (k + 1) its).flatten:=by
   rw [List.replicate_succ,List.flatten_cons,List.append_assoc]
  rw [<- e2,<- foldl_rep its k (acc ++ its),<- e,List.replicate_succ,List.foldl_cons]
section
variable {X : Cx} {pins : List (Addr × Obj)} {σ : St} {H : Hp} {s : Shared} {l b : Addr} {xs ys zs : List V}
theorem Inv.lset {its its' : List Value} {n : Nat} {f : Array Value->Array Value} {t' : Nat} (I : Inv X pins σ H s) (hH : H l = some (.lst xs))
  (e : s.heap.get? l = some { cls:=.type "list",data:=.seq its.toArray n }) (hf : f its.toArray = its'.toArray) (hv : Vals ys its') (hz : ys.length <= sizeLine) :
  Inv X pins σ (upd H l (.lst ys)) { s with heap:=s.heap.update l (Obj.mapSeq f),toks:=t' }:=by
 have q:=PySem.IsL.update e f
 rw [hf] at q
 refine I.write (x:=l) (e:=l) (by rw [hH]; exact trivial) (.inl rfl) (fun b' u hb hu=>(Heap.get?_update_other s.heap (Obj.mapSeq f) (Ne.symm hb)).trans hu) ⟨_,q⟩ ?_
 exact ⟨hz,its',_,hv,q⟩
theorem Inv.lnew {its : List Value} {t' : Nat} (I : Inv X pins σ H s) (hv : Vals ys its) (hz : ys.length <= sizeLine) :
  Inv X pins σ (upd H s.heap.objs.size (.lst ys)) { s with heap:=s.heap.push { cls:=.type "list",data:=.seq its.toArray },toks:=t' } :=
 I.laid (fun _ _ q=>Heap.get?_push_of_some _ q) (Nat.le_refl _) ⟨hz,its,0,hv,Heap.get?_push_size _ rfl⟩
theorem Inv.fresh (I : Inv X pins σ H s) : H s.heap.objs.size = none:=I.hok.fresh (Nat.le_refl _)
theorem Inv.lstM (I : Inv X pins σ H s) (hH : H l = some (.lst xs)) : xs.length <= sizeLine/\∃ (its : List Value) (n : Nat),Vals xs its/\xs.length = its.length/\s.heap.get? l = some { cls:=.type "list",data:=.seq its.toArray n }:=by
 obtain ⟨z,its,n,r,e⟩:=I.hok l _ hH
 exact ⟨z,its,n,r,r.length,e⟩
theorem notLongL {n : Nat} (h : n <= sizeLine) : Builtin.List.listTooLong n = false:=by
 unfold Builtin.List.listTooLong
 exact decide_eq_false (by omega)
end
section
variable {X : Cx}
def rAppend : V->List V->Hp->VK->Prop:=fun x vs H Q=>∃ l xs y,x = .ref l/\vs = [y]/\H l = some (.lst xs)/\xs.length < sizeLine/\Q .non (upd H l (.lst (xs ++ [y])))
theorem mt_append : MtM X "list.append" rAppend:=by
 intro pins s σ H x vs v us Q I rx rv h
 obtain ⟨l,xs,y,rfl,rfl,hH,hz,q⟩:=h
 cases rx
 obtain ⟨u,rfl,ru⟩:=rv.one
 obtain ⟨z,its,n,r,hl,e⟩:=I.lstM hH
 refine call_meets F.slot_list_append ⟨_,e,rfl⟩ F.entry_list_append (F.args_list_append_2 _ _) (PySem.list_append l its.toArray n u (by rw [List.size_toArray]; omega)) ⟨e,?_⟩
 refine ⟨.non,_,I.lset (its':=its ++ [u]) hH e (by simp) (r.append (.cons ru .nil)) ?_,rfl,q⟩
 rw [List.length_append,List.length_singleton]
 omega
def rExtend : V->List V->Hp->VK->Prop:=fun x vs H Q=>∃ l b xs zs,x = .ref l/\vs = [.ref b]/\H l = some (.lst xs)/\H b = some (.lst zs)/\xs.length + zs.length <= sizeLine/\Q .non (upd H l (.lst (xs ++ zs)))
theorem mt_extend : MtM X "list.extend" rExtend:=by
 intro pins s σ H x vs v us Q I rx rv h
 obtain ⟨l,b,xs,zs,rfl,rfl,hH,hB,hz,q⟩:=h
 cases rx
 obtain ⟨u,rfl,ru⟩:=rv.one
 cases ru
 obtain ⟨z,its,n,r,hl,e⟩:=I.lstM hH
 obtain ⟨z2,its2,n2,r2,hl2,e2⟩:=I.lstM hB
 have hsz : its.toArray.size + its2.toArray.size <= sizeLine:=by rw [List.size_toArray,List.size_toArray]; omega
 have hlong : ¬ (!its.toArray.isEmpty && Builtin.List.listTooLong (its.toArray.size + its2.toArray.size)) = true:=by
  rw [notLongL hsz,Bool.and_false]
  exact Bool.false_ne_true
 refine call_meets F.slot_list_extend ⟨_,e,rfl⟩ F.entry_list_extend (F.args_list_extend_2 _ _)
  (AutoSeq1.list_extend_list_list_0 l its.toArray n b its2.toArray n2 hlong (by rw [List.size_toArray]; omega) (by omega)) ⟨e,e2,?_⟩
 refine ⟨.non,_,I.lset (its':=its ++ its2) hH e (by simp) (r.append r2) ?_,rfl,q⟩
 rw [List.length_append]
 omega
def rPop : V->List V->Hp->VK->Prop:=fun x vs H Q=>∃ l xs y,x = .ref l/\vs = []/\H l = some (.lst xs)/\xs[xs.length - 1]? = some y/\Q y (upd H l (.lst xs.dropLast))
def rPopAt : V->List V->Hp->VK->Prop:=fun x vs H Q=>∃ l xs i k y,x = .ref l/\vs = [.int i]/\H l = some (.lst xs)/\-(2 ^ 63) <= i/\i < 2 ^ 63/\seqIndex? i xs.length = some k/\xs[k]? = some y/\Q y (upd H l (.lst (xs.eraseIdx k)))
def rReverse : V->List V->Hp->VK->Prop:=fun x vs H Q=>∃ l xs,x = .ref l/\vs = []/\H l = some (.lst xs)/\Q .non (upd H l (.lst xs.reverse))
def rClear : V->List V->Hp->VK->Prop:=fun x vs H Q=>∃ l xs,x = .ref l/\vs = []/\H l = some (.lst xs)/\Q .non (upd H l (.lst []))
def rCat : R2:=fun x y H Q=>∃ l b xs zs,x = .ref l/\y = .ref b/\H l = some (.lst xs)/\H b = some (.lst zs)/\xs.length + zs.length <= sizeLine/\∀ p,H p = none->Q (.ref p) (upd H p (.lst (xs ++ zs)))
theorem op_cat : OpR X (binaryOp .Add) rCat:=by
 intro pins s σ H x y v u Q I rx ry h
 obtain ⟨l,b,xs,zs,rfl,rfl,hH,hB,hz,q⟩:=h
 cases rx
 cases ry
 obtain ⟨z,its,n,r,hl,e⟩:=I.lstM hH
 obtain ⟨z2,its2,n2,r2,hl2,e2⟩:=I.lstM hB
 refine PySem.P.add_list e e2 ?_ (by rw [List.size_toArray,List.size_toArray]; omega)
 have ea : its.toArray ++ its2.toArray = (its ++ its2).toArray:=by simp
 rw [ea]
 exact ⟨.ref _,_,I.lnew (t':=s.toks) (r.append r2) (by rw [List.length_append]; omega),rfl,q _ I.fresh⟩
def rRep : R2:=fun x y H Q=>∃ l k xs,x = .ref l/\y = .int k/\H l = some (.lst xs)/\-(2 ^ 63) <= k/\k < 2 ^ 63/\xs.length * k.toNat <= sizeLine /\
 ∀ p,H p = none->Q (.ref p) (upd H p (.lst (List.replicate k.toNat xs).flatten))
theorem len_rep {α : Type} (xs : List α) (k : Nat) : (List.replicate k xs).flatten.length = k * xs.length:=by
 induction k with
 | zero=>simp
 | succ k ih=>rw [List.replicate_succ,List.flatten_cons,List.length_append,ih,Nat.succ_mul,Nat.add_comm]
theorem op_rep : OpR X (binaryOp .Mult) rRep:=by
 intro pins s σ H x y v u Q I rx ry h
 obtain ⟨l,k,xs,rfl,rfl,hH,h1,h2,hz,q⟩:=h
 cases rx
 obtain ⟨t,rfl⟩:=ry
 obtain ⟨z,its,n,r,hl,e⟩:=I.lstM hH
 have hlen : its.toArray.size * k.toNat <= sizeLine:=by rw [List.size_toArray,<- hl]; exact hz
 have hcap : ¬ its.toArray.size * k.toNat > (2 ^ 63 - 1) / 8:=by
  have : (sizeLine : Nat) <= (2 ^ 63 - 1) / 8:=by decide
  omega
 have hfit : ¬ (!Builtin.List.listFitsIndex k) = true:=by
  rw [fitsIndex_both h1 h2]
  exact Bool.false_ne_true
 have hlong : ¬ Builtin.List.listTooLong (its.toArray.size * k.toNat) = true:=by
  rw [notLongL hlen]
  exact Bool.false_ne_true
 have hnew : List.foldl (fun x1 x2=>x1 ++ x2) #[] (List.replicate (if its.toArray.isEmpty = true then 0 else k.toNat) its.toArray) = (List.replicate k.toNat its).flatten.toArray:=by
  have f0 : ∀ m : Nat,List.foldl (fun x1 x2=>x1 ++ x2) #[] (List.replicate m its.toArray) = (List.replicate m its).flatten.toArray:=fun m=>by
   have:=foldl_rep its m []
   rw [List.nil_append] at this
   exact this
  rw [f0]
  cases its with
  | nil=>simp
  | cons a r'=>rw [if_neg (by simp)]
 refine wpAny_binaryOp_repeat_ref (T:="list") (U:="int") (by decide) ⟨_,e,rfl⟩ (fun s'=>typeIs_int s' k t) noFill_list_mul F.fills_int_mul F.slot_int_rmul repeat_list F.slot_int_index.lookup
  (call_meets F.slot_int_rmul (typeIs_int s k t) F.entry_int_rmul (F.args_int_rmul_2 _ _) (int___rmul___int_list k t l its.toArray n)
   ⟨e,rfl,⟨_,e,rfl⟩,call_meets F.slot_list_mul ⟨_,e,rfl⟩ F.entry_list_mul (F.args_list_mul_2 _ _) (AutoListH.list___mul___list_int_3 l its.toArray n k t hfit hcap hlong) ⟨e,?_⟩⟩)
 rw [hnew]
 exact ⟨.ref _,_,I.lnew (t':=s.toks) (r.rep k.toNat) (by rw [len_rep,Nat.mul_comm]; exact hz),rfl,q _ I.fresh⟩
end
section
variable {prog : Program} {w : World} {A : Around} {E : Value->Shared->Prop} {s : Shared}
set_option maxRecDepth 100000 in
end
section
variable {X : Cx}
end
end L2
namespace Att
open PySem PySem.W PySem.Calls PyProof.Rows
theorem ints_of_wellAll {P : Params} {h : Heap} : ∀ (ns : List Int) (vs : List Value),WellAll P h vs (ns.map WData.int)->IntsAre vs ns:=by
 intro ns
 induction ns with
 | nil =>
  intro vs w
  rw [List.map_nil] at w
  cases w
  exact .nil
 | cons n ns ih =>
  intro vs w
  rw [List.map_cons] at w
  cases w with
  | cons a b =>
   cases a
   exact .cons _ _ (ih _ b)
theorem script_of {l : OpenLaw} {n : Nat} (hn : l.most = some n) {P : Params} {h : Heap} {args : List WData} {vals : List Value}
  (hpre : l.row.toRowW.claim.pre args = true) (hwl : WellAll P h vals args) :
  ∃ a vs ns,vals = [Value.ref a]/\args = [WData.list (ns.map WData.int)]/\h.get? a = some { cls:=.type "list",data:=.seq vs.toArray }/\IntsAre vs ns/\ns.length <= n:=by
 have hsh : WShape.hasAll [] args [.list .int] = true:=(pre_splitW hpre).1
 have hc : l.pre.holds [] { args:=args } = true:=(pre_splitW hpre).2
 obtain ⟨d,r,rfl,h1,h2⟩:=hasAllW_cons hsh
 obtain rfl:=hasAllW_nil h2
 obtain ⟨xs,rfl,h3⟩:=hasW_list h1
 obtain ⟨ns,rfl⟩:=items_int h3
 have hlen : ns.length <= n:=by
  unfold OpenLaw.pre at hc
  have h4 : (WTm.not (.lt (.lit (.int (n : Int))) (.len (.arg 0)))).holds [] { args:=[.list (ns.map .int)] } = true:=by
   have h4:=(holds_andW hc).1
   rw [hn] at h4
   exact h4
  have h5:=condW_of h4 (w_not (w_lt w_lit (w_len_list (w_arg rfl))))
  rw [List.length_map] at h5
  refine Nat.le_of_not_lt fun q=>?_
  have q' : (n : Int) < ((ns.length : Nat) : Int):=by omega
  first
   | (rw [decide_eq_true q'] at h5; exact absurd h5 (by decide))
   | (simp at h5; omega)
 cases hwl with
 | cons w1 w2 =>
  cases w2
  cases w1 with
  | list ho hall=>exact ⟨_,_,ns,rfl,rfl,ho,ints_of_wellAll ns _ hall,hlen⟩
theorem post_true (l : OpenLaw) (args : List WData) : l.row.toRowW.claim.post args (.bool true) args = true :=
 postW_of (r:=l.row.toRowW) (X:=(true == true))
  (show WShape.has [] (.bool true) .bool = true by first | rfl | decide | simp [WShape.has,WShape.arms,WShape.armsAll])
  (show (WTm.eq .res (.lit (.bool true))).value [] { args:=args,res:=some (.bool true),after:=args } = some (.bool (true == true)) from w_eq_bool (w_res rfl) w_lit) rfl
theorem attach_call {l : OpenLaw} {n : Nat} {q : Program} {loose : List Str} {XP : (Str->Option Value)->Heap->Prop} {YP : World->Heap->Prop} {d : DefRec}
  (hn : l.most = some n) (hdf : d.params.defaults = [])
  (call : ∀ (w : World) (s₀ s₁ : Shared) (mg mb : Str->Option Value) (fa : Addr) (o : Obj) (pm cd doc : Value) (a : Addr) (vs : List Value) (ns : List Int),
   Ground q loose [] XP w s₀ mg mb s₁.heap->YP w s₁.heap ->
   s₁.heap.get? fa = some o->o.data = .func (docDef d.name d.params d.body d.scope pm cd doc)->s₁.heap.CodeRec cd d.name->mg d.name = some (.ref fa) ->
   s₁.heap.get? a = some { cls:=.type "list",data:=.seq vs.toArray }->IntsAre vs ns->ns.length <= n->s₁.gens = #[] ->
   codeAny (model l.prog w) callerA (.call (.ref fa) ⟨[.ref a],[]⟩) (fun r s'=>r = .ok (.ret (.bool true))/\OldK s₁.heap s'.heap/\s'.os = s₁.os/\AllBare s'.gens) s₁) :
  WalkO q loose XP YP l.row.toRowW d [] (fun f vs=>PySem.call f vs):=by
 intro w s₀ s₁ mg mb G Y fa o pm cd doc dV kV ho hd hcd hD hmg hg args vals as hpre hlay hrd hwl hlo
 obtain rfl : dV = .none:=Dflts.none hD hdf
 obtain rfl : kV = .none:=Dflts.noKw hD
 obtain ⟨a,vs,ns,rfl,rfl,hobj,hints,hlen⟩:=script_of hn hpre hwl
 refine enter_call (codeAny_mono (call w s₀ s₁ mg mb fa o pm cd doc a vs ns G Y ho (fd_plain hd) hcd hmg hobj hints hlen hg) fun r s' hq=>?_)
 obtain ⟨rfl,h2,h3,h4⟩:=hq
 exact ⟨.inl ⟨.bool true,.bool true,[],rfl,fun _=>rfl,.bool true,post_true l _,fun _=>⟨List.Pairwise.nil,fun _ hm=>(nomatch hm)⟩⟩,h2,h3,h4⟩
section
variable {prog : Program} {w : World} {A : Around} {E : Value->Shared->Prop} {s : Shared} {K : Frag}
def noObjs (h : Heap) : Heap:={ h with objs:=#[] }
def ledger (h : Heap) (L d : Addr) : List (Addr × Obj):=(List.range h.objs.size).filterMap fun a=>if a = L \/ a = d then none else (h.get? a).map fun o=>(a,o)
end
end Att
namespace L2
open PySem PySem.Spec PyProof.Rows
theorem vals_ints : ∀ {vs : List Value} {ns : List Int},IntsAre vs ns->Vals (ns.map V.int) vs
 | _,_,.nil=>.nil
 | _,_,.cons n t h=>.cons ⟨t,rfl⟩ (vals_ints h)
def Only (H : Hp) : Prop:=∀ b,H b = none \/ ∃ o xs,H b = some (.frz o (.lst xs))
/-- THE HEAD: the law's promise,at the heap behind the top. F,the promise of the law's def,may use that base is part of the heap (so K.In base,base.Ns mainGlobals mg stand in Mod) -/
theorem law_call {P : Program} {w : World} {K : PySem.W.Frag} {mg mb : Str->Option Value} {CX : CXT} {k : Nat} {fa a : Addr} {fd : FuncData} {x : Str} {sp : Sp} {s₁ : Shared} {vs : List Value} {ns : List Int}
  (KX : K.In s₁.heap) (hns : s₁.heap.Ns mainGlobals mg) (hb : s₁.heap.Ns builtinsNs mb) (hbb : ∀ x : Str,x ≠ "__name__"->mb x = bootBuiltins x) (hlim : s₁.heap.NoLimit) (hg : s₁.gens = #[])
  (ha : s₁.heap.get? a = some { cls:=.type "list",data:=.seq vs.toArray }) (hi : IntsAre vs ns) (hl : ns.length <= sizeLine) (hr : Room k callerA)
  (F : ∀ base : Heap,K.In base->base.Ns mainGlobals mg->FnOk P w K mg base CX k fa fd [x] sp) (hbind : ∀ (s : Shared) (u : Value),BindsTo s fd ⟨[u],[]⟩ [(x,u)])
  (hsp : ∀ H : Hp,Only H->SqL K H a (ns.map V.int)->sp [.ref a] H (fun v _=>v = .bl true) fun _ _ _=>False)
  (hCX : ∀ H e s',CX [] H s₁ (fun _ _ _=>False) e s'->False) :
  codeAny (model P w) callerA (.call (.ref fa) ⟨[.ref a],[]⟩) (fun r s'=>r = .ok (.ret (.bool true))/\OldK s₁.heap s'.heap/\s'.os = s₁.os/\AllBare s'.gens) s₁:=by
 have rv:=vals_ints hi
 have lenV:=hi.length
 have core : ∀ H : Hp,Only H->SqL K H a (ns.map V.int)->HOk P w H s₁.heap->(∀ b,H b ≠ none->b = a)->(H a ≠ none->K.lookup a = none) ->
   codeAny (model P w) callerA (.call (.ref fa) ⟨[.ref a],[]⟩) (fun r s'=>r = .ok (.ret (.bool true))/\OldK s₁.heap s'.heap/\s'.os = s₁.os/\AllBare s'.gens) s₁:=by
  intro H hO hS hok hA hK
  have base_of : ∀ {b : Addr} {o : Obj},s₁.heap.get? b = some o->H b = none->(hidT s₁.heap H).get? b = some o:=fun e n=>hidT_get e n
  have noA : ∀ {b : Addr} {o : Obj} {es : Array DictEntry} {ep : Nat},s₁.heap.get? b = some o->o.data = .dict es ep->H b = none:=fun {b o es ep} e d=>by
   cases q : H b with
   | none=>rfl
   | some u =>
    have e' : b = a:=hA b (by rw [q]; simp)
    subst e'
    rw [ha] at e; cases e
    have d' : Data.seq vs.toArray _ = Data.dict es ep:=d
    cases d'
  have nsK : ∀ {b : Addr} {m : Str->Option Value},s₁.heap.Ns b m->(hidT s₁.heap H).Ns b m:=fun {b m} ⟨o,es,ep,e,d,r⟩=>⟨o,es,ep,base_of e (noA e d),d,r⟩
  have hKb : K.In (hidT s₁.heap H):=fun b o e=>base_of (KX b o e) (by
   cases q : H b with
   | none=>rfl
   | some u =>
    have e' : b = a:=hA b (by rw [q]; simp)
    subst e'
    rw [hK (by rw [q]; simp)] at e; cases e)
  have hM : Mod K mg (hidT s₁.heap H):=⟨hKb,nsK hns,⟨mb,nsK hb,hbb⟩,let ⟨mc,h1,h2⟩:=hlim; ⟨mc,nsK h1,h2⟩⟩
  have e0 : Env0 P w K mg (hidT s₁.heap H) callerA [] s₁ H:=⟨rfl,hM,fun b o e=>of_hidT e,Nat.le_of_eq (hidT_size _ _),trivial,fun b hb=>absurd (show b ∈ ([] : List Addr) from hb) (by simp),hok,.of_eq hg⟩
  refine codeAny_mono ((F _ hKb (nsK hns)).run callerA [] s₁ H ⟨[.ref a],[]⟩ [.ref a] [.ref a] _ _ hr e0 (hbind s₁ (.ref a)) (.cons rfl .nil) (hsp H hO hS)) fun r s' h=>?_
  cases r with
  | error e=>exact (hCX H e s' h).elim
  | ok fl =>
   cases fl with
   | next=>exact False.elim h
   | brk=>exact False.elim h
   | cont=>exact False.elim h
   | ret u =>
    obtain ⟨v,H',os,bare,un,hok',r',q⟩:=h
    have q' : v = .bl true:=q
    subst q'
    obtain rfl : u = Value.bool true:=r'
    refine ⟨rfl,OldK.of_keep fun b o e=>?_,os,bare⟩
    cases q : H b with
    | none=>exact un.keep b o e q (by intro z; exact absurd (show b ∈ ([] : List Addr) from z) (by simp)) (by simp)
    | some u =>
     rcases hO b with z | ⟨ob,xs,z⟩
     ·rw [q] at z; cases z
     ·have z2:=un.frzs b ob _ z
      obtain ⟨e1,_⟩:=hok b _ z
      obtain ⟨e2,_⟩:=hok' b _ z2
      rw [e] at e1; cases e1
      exact e2
 cases hk : K.lookup a with
 | some o =>
  have e:=KX a o hk
  rw [ha] at e
  cases e
  refine core (fun _=>none) (fun _=>.inl rfl) (.inr ⟨_,vs.toArray,_,hk,rfl,rfl,rfl,by rw [List.size_toArray,lenV]; exact hl,by simpa using rv⟩) (fun b u z=>by have z' : (none : Option HO) = some u:=z; cases z') (fun b z=>absurd rfl z) fun z=>absurd rfl z
 | none =>
  refine core (fun b=>if b = a then some (.frz { cls:=.type "list",data:=.seq vs.toArray } (.lst (ns.map V.int))) else none) (fun b=>?_) (.inl (.inr ⟨{ cls:=.type "list",data:=.seq vs.toArray },if_pos rfl⟩)) (fun b u z=>?_) (fun b z=>?_) fun _=>hk
  ·by_cases hb : b = a
   ·exact .inr ⟨_,_,if_pos hb⟩
   ·exact .inl (if_neg hb)
  ·by_cases hb : b = a
   ·have z':=(if_pos hb).symm.trans z
    cases z'
    subst hb
    exact ⟨ha,by rw [List.length_map]; exact hl,vs,_,rv,ha⟩
   ·have z':=(if_neg hb).symm.trans z
    cases z'
  ·by_cases hb : b = a
   ·exact hb
   ·exact absurd (if_neg hb) z
end L2
namespace L2
open PySem PySem.Spec PyProof.Rows
abbrev KOf {K : PySem.W.Frag} {h : Heap} (_ : K.In h) : PySem.W.Frag:=K
theorem walk_of {l : PySem.W.OpenLaw} {n k : Nat} {q : Program} {loose : List Str} {XP : (Str->Option Value)->Heap->Prop} {YP : World->Heap->Prop} {d : DefRec} {K : Params->PySem.W.Frag} {CX : World->CXT} {sp : World->Sp} {x : Str}
  (hn : l.most = some n) (hn2 : n <= sizeLine) (hdf : d.params.defaults = []) (hr : Room k callerA)
  (hY : ∀ (w : World) (h : Heap),YP w h->(K w.params).In h)
  (F : ∀ (w : World) (mg : Str->Option Value) (fa : Addr) (h : Heap),(K w.params).In h->h.Ns mainGlobals mg->mg d.name = some (.ref fa) ->
   ∃ fd : FuncData,(∀ (s : Shared) (u : Value),BindsTo s fd ⟨[u],[]⟩ [(x,u)]) /\
    ∀ base : Heap,(K w.params).In base->base.Ns mainGlobals mg->FnOk l.prog w (K w.params) mg base (CX w) k fa fd [x] (sp w))
  (hsp : ∀ (w : World) (H : Hp) (a : Addr) (ns : List Int),ns.length <= n->Only H->SqL (K w.params) H a (ns.map V.int)->sp w [.ref a] H (fun v _=>v = .bl true) fun _ _ _=>False)
  (hCX : ∀ (w : World) (H : Hp) (s : Shared) (e : Value) (s' : Shared),CX w [] H s (fun _ _ _=>False) e s'->False) :
  PySem.W.WalkO q loose XP YP l.row.toRowW d [] (fun f vs=>PySem.call f vs):=by
 refine Att.attach_call hn hdf fun w s₀ s₁ mg mb fa o pm cd doc a vs ns G Y ho hd hcd hmg hobj hints hlen hg=>?_
 have KX:=hY w _ Y
 obtain ⟨fd,hb,hF⟩:=F w mg fa _ KX G.T.g hmg
 exact law_call KX G.T.g G.T.b G.T.builtins G.T.nolimit hg hobj hints (Nat.le_trans hlen hn2) hr hF hb (fun H hO hS=>hsp w H a ns hlen hO hS) fun H e s'=>hCX w H s₁ e s'
theorem walk_ofK {l : PySem.W.OpenLaw} {n k : Nat} {q : Program} {loose : List Str} {XP : (Str->Option Value)->Heap->Prop} {YP : World->Heap->Prop} {d : DefRec} {K : Params->PySem.W.Frag} {CX : CXT} {sp : PySem.W.Frag->Sp} {x : Str}
  (hn : l.most = some n) (hn2 : n <= sizeLine) (hdf : d.params.defaults = []) (hr : Room k callerA)
  (hY : ∀ (w : World) (h : Heap),YP w h->(K w.params).In h)
  (F : ∀ (w : World) (mg : Str->Option Value) (fa : Addr) (h : Heap),(K w.params).In h->h.Ns mainGlobals mg->mg d.name = some (.ref fa) ->
   ∃ fd : FuncData,(∀ (s : Shared) (u : Value),BindsTo s fd ⟨[u],[]⟩ [(x,u)]) /\
    ∀ base : Heap,(K w.params).In base->base.Ns mainGlobals mg->FnOk l.prog w (K w.params) mg base CX k fa fd [x] (sp (K w.params)))
  (hsp : ∀ (K : PySem.W.Frag) (H : Hp) (a : Addr) (ns : List Int),ns.length <= n->Only H->SqL K H a (ns.map V.int)->sp K [.ref a] H (fun v _=>v = .bl true) fun _ _ _=>False)
  (hCX : ∀ (H : Hp) (s : Shared) (e : Value) (s' : Shared),CX [] H s (fun _ _ _=>False) e s'->False) :
  PySem.W.WalkO q loose XP YP l.row.toRowW d [] (fun f vs=>PySem.call f vs) :=
 walk_of (K:=K) (CX:=fun _=>CX) (sp:=fun w=>sp (K w.params)) hn hn2 hdf hr hY F (fun w H a ns h1 h2 h3=>hsp (K w.params) H a ns h1 h2 h3) fun _ H s e s'=>hCX H s e s'
end L2
namespace L2
open PySem PySem.Spec PyProof.Rows
def inClass (s : Stmt) (j : Nat) : Stmt:=match s with
 | .ClassDef _ _ _ body _ _ _ _ _ _ _=>body.getD j (.Pass ⟨0,0,0,0⟩)
 | _=>.Pass ⟨0,0,0,0⟩
def defArgs (s : Stmt) : Arguments:=match s with
 | .FunctionDef _ a _ _ _ _ _ _ _ _=>a
 | _=>{ posonlyargs:=[],args:=[],vararg:=none,kwonlyargs:=[],kw_defaults:=[],kwarg:=none,defaults:=[] }
def defBody (s : Stmt) : List Stmt:=match s with
 | .FunctionDef _ _ b _ _ _ _ _ _ _=>b
 | _=>[]
def defScope (s : Stmt) : Scope:=match s with
 | .FunctionDef _ _ _ _ _ _ sc _ _ _=>sc
 | _=>{ kind:=.function,names:=[],isGenerator:=false,isCoroutine:=false }
abbrev CX0 : CXT:=fun _ _ _ _ _ _=>False
abbrev E0 : XK:=fun _ _ _=>False
theorem pass0 {X : Cx} : Passes CX0 X E0:=fun _ _ _ _ _ _ _ h=>h.elim
structure Fun (K : PySem.W.Frag) (x qual : Str) (st : Stmt) (f : Addr) (fd : FuncData) : Prop where
 ex : ∃ (oc : Value) (od : Option Addr) (kV doc pm : Value) (an : Option Addr) (cdv ct : Value) (osl : Array (Option Value)),
  fd = PySem.W.fnOf x qual (defArgs st) (defBody st) (defScope st) .none kV doc pm an cdv ct/\K.lookup f = some ⟨oc,od,.func fd,osl⟩/\PySem.W.codeIn K cdv qual = true
 kp : PySem.W.keepIn K (.ref f) = true
section
variable {P : Program} {w : World} {K : PySem.W.Frag} {mg : Str->Option Value} {base : Heap}
/-- THE RULE for a def: its body as a term of rules,and the reading of that term -/
theorem Fun.ok {x qual : Str} {st : Stmt} {f : Addr} {fd : FuncData} {N ps : List Str} {k : Nat} {sp : Sp} (F : Fun K x qual st f fd) (S : FnScope N ps (defScope st)) (len : ∀ vs H Q E,sp vs H Q E->vs.length = ps.length)
  (hbody : ∀ (cdv : Value) (A : Around) (outer : List Env) (s : Shared) (H : Hp) (vs : List V) (Q : VK) (E : XK),Room k (A.deeper (envOfC qual (defScope st) s.heap.objs.size f cdv))->sp vs H Q E ->
   ∃ t,PSs (cxOf CX0 P w K mg base N qual (defScope st) f cdv A outer s H E).nox (defBody st) t/\t { nx:=fun _ H'=>Q .non H',rt:=Q } (start N vs) H) : FnOk P w K mg base CX0 (k + 1) f fd ps sp:=by
 obtain ⟨oc,od,kV,doc,pm,an,cdv,ct,osl,rfl,lk,hcd⟩:=F.ex
 refine fn_of lk hcd S len fun A outer s H vs Q E hr hsp=>?_
 obtain ⟨t,h,q⟩:=hbody cdv A outer s H vs Q E hr hsp
 exact ⟨t,h.nox,q⟩
theorem Fun.binds {x qual : Str} {st : Stmt} {f : Addr} {fd : FuncData} {ps : List Str} (F : Fun K x qual st f fd)
  (h : ∀ (kV doc pm : Value) (an : Option Addr) (cdv ct : Value) (us : List Value),us.length = ps.length->bindArgs (PySem.W.fnOf x qual (defArgs st) (defBody st) (defScope st) .none kV doc pm an cdv ct) ⟨us,[]⟩ = pure (ps.zip us)) : Binds K fd ps []:=by
 obtain ⟨oc,od,kV,doc,pm,an,cdv,ct,osl,rfl,lk,hcd⟩:=F.ex
 exact .all (h kV doc pm an cdv ct)
theorem fun_mk {x qual : Str} {st : Stmt} {f : Addr} {oc : Value} {od an : Option Addr} {osl : Array (Option Value)} {kV doc pm cdv ct : Value} (l : K.lookup f = some ⟨oc,od,.func (PySem.W.fnOf x qual (defArgs st) (defBody st) (defScope st) .none kV doc pm an cdv ct),osl⟩)
  (c : PySem.W.codeIn K cdv qual = true) (k : PySem.W.keepIn K (.ref f) = true) : Fun K x qual st f (PySem.W.fnOf x qual (defArgs st) (defBody st) (defScope st) .none kV doc pm an cdv ct):=⟨⟨oc,od,kV,doc,pm,an,cdv,ct,osl,rfl,l,c⟩,k⟩
end
theorem hu_of {A : Around} {k : Nat} (hr : Room k A) : A.units + 1 < cLine:=Nat.lt_of_le_of_lt (Nat.add_le_add_left (by decide : 1 <= 64) _) hr.units
theorem small1000 {n : Nat} (h : n <= 1000) : n < sizeLine:=Nat.lt_of_le_of_lt h (by decide)
section
variable {X : Cx}
end
theorem iteF {A B : Prop} (h : B) : if false = true then A else B:=by
 rw [if_neg Bool.false_ne_true]
 exact h
theorem iteT {A B : Prop} (h : A) : if true = true then A else B:=by
 rw [if_pos rfl]
 exact h
theorem ite2 {c A B : Prop} [Decidable c] (h1 : c->A) (h2 : ¬ c->B) : if c then A else B:=by
 by_cases h : c
 ·rw [if_pos h]
  exact h1 h
 ·rw [if_neg h]
  exact h2 h
def Same (H H' : Hp) : Prop:=∀ b o,H b = some o->H' b = some o
theorem Same.refl (H : Hp) : Same H H:=fun _ _ h=>h
theorem Same.trans {H H1 H2 : Hp} (a : Same H H1) (b : Same H1 H2) : Same H H2:=fun c o h=>b c o (a c o h)
theorem Same.free {H H' : Hp} (e : Same H H') {l : Addr} (h : H' l = Option.none) : H l = Option.none:=by
 cases q : H l with
 | none=>rfl
 | some o =>
  rw [e l o q] at h
  cases h
theorem Same.seq {K : PySem.W.Frag} {H H' : Hp} {a : Addr} {xs : List V} (e : Same H H') (h : SqL K H a xs) : SqL K H' a xs:=by
 rcases h with (h | ⟨o,h⟩) | h
 ·exact .inl (.inl (e _ _ h))
 ·exact .inl (.inr ⟨o,e _ _ h⟩)
 ·exact .inr h
end L2
set_option maxHeartbeats 4000000
namespace L2
open PySem
structure Flt (B : Heap) (l : List Env) (e : Addr) (cls : Value) (d : Option Addr) (fl : Value) (h : Heap) : Prop where
 stays : B.StaysIn h
 new : B.get? e = none
 frames : h.FunFrames B l
 tr : ∃ ox ws T oT ts,h.get? e = some ox/\ox.cls = cls/\ox.dict = d/\ox.data = .fields ws/\ws[1]? = some (.ref T) /\
  B.get? T = none/\T ≠ e/\h.get? T = some oT/\oT.data = .fields ts/\ts[3]? = some fl
theorem dict_mapF (o : Obj) (f : Array Value->Array Value) : (o.mapFields f).dict = o.dict:=by
 unfold Obj.mapFields
 split <;> rfl
section
variable {M : Model} {A : Around} {E : Value->Shared->Prop} {s : Shared} {B : Heap} {env : Env} {outer l : List Env} {L e : Addr} {cls fl : Value} {d : Option Addr} {Q : Unit->Shared->Prop}
theorem Flt.obj {h : Heap} (x : Flt B l e cls d fl h) : ∃ ox ws,h.get? e = some ox/\ox.cls = cls/\ox.dict = d/\ox.data = .fields ws:=by
 obtain ⟨ox,ws,_,_,_,a1,a2,a3,a4,_⟩:=x.tr
 exact ⟨ox,ws,a1,a2,a3,a4⟩
theorem note_tail {ox : Obj} {ws : Array Value} {head : Value} {more : Bool} (hA : A.frames = some (env :: outer)) (hF : s.heap.FunFrames B (env :: outer)) (hL : env.frame = some L)
  (h1 : s.heap.get? e = some ox) (hB : B.StaysIn s.heap) (hn : B.get? e = none) (hw : ox.data = .fields ws) (hz : 1 < ws.size)
  (k : ∀ h',Flt B (env :: outer) e ox.cls ox.dict (rawInt L) h'->s.heap.UpToSlots h'->Q () { s with heap:=h' }) :
  wpAny M A (do let a <- frameOf env; let pl <- entryPlaceOf L more; let b <- EntryCells.newEntry head a .none (rawInt L) .none pl; setField (.ref e) 1 b) Q E s:=by
 have nf : e ∉ (env :: outer).filterMap (·.frame):=by
  intro z
  obtain ⟨_,o,q,r⟩:=hF.mem z
  rw [h1] at q
  cases q
  exact r ws hw
 refine wpAny_bind (wpAny_frameOf_fun hA hF hL ?_)
 intro g1 k1
 refine wpAny_bind (wpAny_entryPlaceOf ?_)
 intro pl hp
 unfold EntryCells.newEntry newFields
 refine wpAny_bind (wpAny_newObj_type ?_ (hp.sizeOk5 _ _ _ _ _))
 have e1 : g1.get? e = some ox:=(k1.2.1 e nf).trans h1
 have B1 : B.StaysIn g1:=by
  intro b o q
  refine (k1.2.1 b ?_).trans (hB b o q)
  intro z
  rw [(hF.mem z).1] at q
  cases q
 generalize hR : ({ cls:=.type "traceback",dict:=none,data:=.fields ([head,.ref L,.none,rawInt L,.none] ++ (if pl.isEmpty then List.replicate 6 Value.none else pl)).toArray } : Obj) = R
 have R3 : ∃ ts,R.data = .fields ts/\ts[3]? = some (rawInt L):=by
  subst hR
  exact ⟨_,rfl,by simp⟩
 have Rf : R.isFreed = false:=by subst hR; rfl
 have e2:=Heap.get?_push_of_some (h:=g1) R e1
 refine wpAny_setField e2 hw hz (k _ ?_ ?_)
 ·have hT : g1.objs.size ≠ e:=Nat.ne_of_gt (Heap.lt_size e1)
  have w3:=Obj.data_mapFields hw (·.setIfInBounds 1 (Value.ref g1.objs.size))
  have e3:=Heap.get?_update_self (Obj.mapFields (·.setIfInBounds 1 (Value.ref g1.objs.size))) e2 (Obj.isFreed_of_fields w3)
  have T3:=(Heap.get?_update_other (g1.push R) (Obj.mapFields (·.setIfInBounds 1 (Value.ref g1.objs.size))) (Ne.symm hT)).trans (Heap.get?_push_size g1 Rf)
  refine ⟨?_,hn,?_,?_⟩
  ·intro b o q
   have ne : e ≠ b:=by intro z; subst z; rw [hn] at q; cases q
   rw [Heap.get?_update_other _ _ ne]
   exact Heap.get?_push_of_some _ (B1 b o q)
  ·refine hF.of_keeps ?_
   intro b o q r
   obtain ⟨sl,z⟩:=k1.2.2 b o q
   have ne : e ≠ b:=by intro y; subst y; rw [h1] at q; cases q; exact r ws hw
   refine ⟨{ o with slots:=sl },?_,rfl⟩
   rw [Heap.get?_update_other _ _ ne]
   exact Heap.get?_push_of_some _ z
  ·obtain ⟨ts,r1,r2⟩:=R3
   exact ⟨_,_,g1.objs.size,R,ts,e3,Obj.cls_mapFields _ _,dict_mapF _ _,w3,by simp [hz],B1.fresh,hT,T3,r1,r2⟩
 ·intro b o q r
  obtain ⟨sl,z⟩:=k1.2.2 b o q
  have ne : e ≠ b:=by intro y; subst y; rw [h1] at q; cases q; exact r ws hw
  refine ⟨sl,?_⟩
  rw [Heap.get?_update_other _ _ ne]
  exact Heap.get?_push_of_some _ z
theorem note_first {ox : Obj} {ws : Array Value} (hA : A.frames = some (env :: outer)) (hF : s.heap.FunFrames B (env :: outer)) (hL : env.frame = some L)
  (h1 : s.heap.get? e = some ox) (hB : B.StaysIn s.heap) (hn : B.get? e = none) (hw : ox.data = .fields ws) (hz : ws[1]? = some .none)
  (k : ∀ h',Flt B (env :: outer) e ox.cls ox.dict (rawInt L) h'->s.heap.UpToSlots h'->Q () { s with heap:=h' }) : wpAny M A (noteFrame (.ref e) env) Q E s:=by
 unfold noteFrame
 simp only [hL]
 refine wpAny_bind (wpAny_field h1 hw hz ?_)
 rw [if_neg (by decide)]
 exact note_tail hA hF hL h1 hB hn hw (Array.getElem?_eq_some_iff.mp hz).1 k
theorem note_next (hA : A.frames = some (env :: outer)) (hL : env.frame = some L) (x : Flt B (env :: outer) e cls d .none s.heap)
  (k : ∀ h',Flt B (env :: outer) e cls d (rawInt L) h'->s.heap.UpToSlots h'->Q () { s with heap:=h' }) : wpAny M A (noteFrame (.ref e) env) Q E s:=by
 obtain ⟨ox,ws,T,oT,ts,a1,a2,a3,a4,a5,a6,a7,a8,a9,a10⟩:=x.tr
 subst a2 a3
 unfold noteFrame
 simp only [hL]
 refine wpAny_bind (wpAny_field a1 a4 a5 ?_)
 rw [if_pos (show (Value.ref T != Value.none) = true by simp)]
 refine wpAny_bind (wpAny_field a8 a9 a10 ?_)
 rw [if_neg (show ¬ ((Value.none == rawInt L) = true) by simp [rawInt])]
 refine wpAny_bind (wpAny_setField a8 a9 (Array.getElem?_eq_some_iff.mp a10).1 ?_)
 have oth : ∀ b,b ≠ T->(s.heap.update T (Obj.mapFields (·.setIfInBounds 3 Value.none))).get? b = s.heap.get? b:=by
  intro b z
  exact Heap.get?_update_other _ _ (Ne.symm z)
 have nT : ∀ b o,s.heap.get? b = some o->(∀ us,o.data ≠ .fields us)->b ≠ T:=by
  intro b o q r z
  rw [z,a8] at q
  cases q
  exact r ts a9
 refine note_tail hA ?_ hL ((oth e (Ne.symm a7)).trans a1) ?_ x.new a4 (Array.getElem?_eq_some_iff.mp a5).1 ?_
 ·refine x.frames.of_keeps ?_
  intro b o q r
  exact ⟨o,(oth b (nT b o q r)).trans q,rfl⟩
 ·intro b o q
  refine (oth b ?_).trans (x.stays b o q)
  intro z
  rw [z,a6] at q
  cases q
 ·intro h' y1 y2
  refine k h' y1 ?_
  intro b o q r
  exact y2 b o ((oth b (nT b o q r)).trans q) r
theorem fly_on (x : Flt B l e cls d fl s.heap) (k : ∀ h',Flt B l e cls d .none h'->s.heap.UpToSlots h'->Q () { s with heap:=h' }) : wpAny M A (setFlight (.ref e) none) Q E s:=by
 obtain ⟨ox,ws,T,oT,ts,a1,a2,a3,a4,a5,a6,a7,a8,a9,a10⟩:=x.tr
 have z3 : 3 < ts.size:=(Array.getElem?_eq_some_iff.mp a10).1
 have oth : ∀ b,b ≠ T->(s.heap.update T (Obj.mapFields (·.setIfInBounds 3 ((none : Option Addr).elim Value.none fun f=>rawInt f)))).get? b = s.heap.get? b:=by
  intro b z
  exact Heap.get?_update_other _ _ (Ne.symm z)
 have nT : ∀ b o,s.heap.get? b = some o->(∀ us,o.data ≠ .fields us)->b ≠ T:=by
  intro b o q r z
  rw [z,a8] at q
  cases q
  exact r ts a9
 unfold setFlight
 refine wpAny_bind (wpAny_field a1 a4 a5 ?_)
 rw [if_pos (show (Value.ref T != Value.none) = true by simp)]
 refine wpAny_setField a8 a9 z3 (k _ ⟨?_,x.new,?_,?_⟩ ?_)
 ·intro b o q
  refine (oth b ?_).trans (x.stays b o q)
  intro z
  rw [z,a6] at q
  cases q
 ·refine x.frames.of_keeps ?_
  intro b o q r
  exact ⟨o,(oth b (nT b o q r)).trans q,rfl⟩
 ·have w3:=Obj.data_mapFields a9 (·.setIfInBounds 3 ((none : Option Addr).elim Value.none fun f=>rawInt f))
  exact ⟨ox,ws,T,_,_,(oth e (Ne.symm a7)).trans a1,a2,a3,a4,a5,a6,a7,Heap.get?_update_self _ a8 (Obj.isFreed_of_fields w3),w3,by simp [z3]⟩
 ·intro b o q r
  exact ⟨o.slots,(oth b (nT b o q r)).trans q⟩
theorem Flt.out {h : Heap} (x : Flt B (env :: outer) e cls d fl h) : Flt B outer e cls d fl h:=by
 obtain ⟨a1,a2,⟨_,_,a3⟩,a4⟩:=x
 exact ⟨a1,a2,a3,a4⟩
theorem leave_first {ox : Obj} {ws : Array Value} (hA : A.frames = some (env :: outer)) (hF : s.heap.FunFrames B (env :: outer)) (hL : env.frame = some L)
  (h1 : s.heap.get? e = some ox) (hB : B.StaysIn s.heap) (hn : B.get? e = none) (hw : ox.data = .fields ws) (hz : ws[1]? = some .none)
  (k : ∀ h',Flt B outer e ox.cls ox.dict .none h'->s.heap.UpToSlots h'->Q () { s with heap:=h' }) : wpAny M A (leaving env (.ref e)) Q E s:=by
 unfold leaving
 refine wpAny_bind (note_first hA hF hL h1 hB hn hw hz ?_)
 intro h' x y
 refine fly_on x ?_
 intro h'' x' y'
 exact k h'' x'.out (y.trans y')
theorem leave_next (hA : A.frames = some (env :: outer)) (hL : env.frame = some L) (x : Flt B (env :: outer) e cls d .none s.heap)
  (k : ∀ h',Flt B outer e cls d .none h'->s.heap.UpToSlots h'->Q () { s with heap:=h' }) : wpAny M A (leaving env (.ref e)) Q E s:=by
 unfold leaving
 refine wpAny_bind (note_next hA hL x ?_)
 intro h' x y
 refine fly_on x ?_
 intro h'' x' y'
 exact k h'' x'.out (y.trans y')
end
end L2
set_option maxHeartbeats 4000000
namespace L2
open PySem PySem.Spec PyProof.Rows
def CX1 (P : Program) (w : World) : CXT:=fun outer H s E e s' =>
 ∃ (a : Addr) (cls : Value) (d : Option Addr) (B : Heap) (H' : Hp),e = .ref a/\s'.os = s.os/\AllBare s'.gens/\Un (frs outer) [] H H' s.heap s'.heap/\HOk P w H' s'.heap /\
  Flt B outer a cls d .none s'.heap/\H' a = none /\
  (∀ b o,s.heap.get? b = some o->b ∉ frs outer->H b = none->B.get? b = some o) /\
  (∀ b u,H' b = some u->∃ o,B.get? b = some o) /\
  (∀ b o,s.heap.get? b = some o->b ∈ frs outer \/ ∃ o',B.get? b = some o')/\E cls d H'
theorem frs_cons {env : Env} {outer : List Env} {L : Addr} (h : env.frame = some L) : frs (env :: outer) = L :: frs outer:=by
 unfold frs
 rw [List.filterMap_cons,h]
theorem ObjOk.ex {P : Program} {w : World} {H : Hp} {h : Heap} {a : Addr} {o : HO} (x : ObjOk P w H h a o) : ∃ ob,h.get? a = some ob:=by
 cases o with
 | lst xs=>obtain ⟨_,_,_,_,e⟩:=x; exact ⟨_,e⟩
 | tup xs=>obtain ⟨_,_,_,ob,e,_⟩:=x; exact ⟨_,e⟩
 | dK kvs=>obtain ⟨_,_,_,_,o,_,_,e,_⟩:=x; exact ⟨_,e⟩
 | dT kvs=>obtain ⟨_,_,_,_,o,_,_,e,_⟩:=x; exact ⟨_,e⟩
 | set S n=>obtain ⟨o,_,_,_,e,_⟩:=x; exact ⟨_,e⟩
 | ins C dx fs=>obtain ⟨_,_,_,e,_⟩:=x; exact ⟨_,e⟩
 | own y=>exact x
 | xd fs=>obtain ⟨_,⟨_,_,_,e,_⟩,_⟩:=x; exact ⟨_,e⟩
 | rng lo hi=>obtain ⟨_,_,_,e⟩:=x; exact ⟨_,e⟩
 | frz ob u=>obtain ⟨e,_⟩:=x; exact ⟨_,e⟩
 | tbl ps=>exact ⟨_,(show h.get? a = some _ from x)⟩
 | met f y=>exact ⟨_,(show h.get? a = some _ from x)⟩
 | ext φ=>obtain ⟨_,e,_⟩:=x; exact e
section
variable {X : Cx} {pins : List (Addr × Obj)} {σ : St} {H H' : Hp} {s s1 : Shared} {B h' : Heap}
theorem Inv.flown (I : Inv X pins σ H s) (os : s1.os = s.os) (bare : AllBare s1.gens) (un : Un (frs X.stack) [] H H' s.heap s1.heap) (hok : HOk X.prog X.w H' s1.heap) (bs : B.StaysIn s1.heap)
  (b1 : ∀ b o,s.heap.get? b = some o->b ∉ frs X.stack->H b = none->B.get? b = some o) (b2 : ∀ b u,H' b = some u->∃ o,B.get? b = some o)
  (b3 : ∀ b o,s.heap.get? b = some o->b ∈ frs X.stack \/ ∃ o',B.get? b = some o') (st : B.StaysIn h') (up : s1.heap.UpToSlots h') : Inv X pins σ H' { s1 with heap:=h' }:=by
 have nf : ∀ b ∈ frs X.stack,∀ o,s.heap.get? b = some o->∀ vs,o.data ≠ .fields vs:=fun b hb o e=>by
  obtain ⟨_,o',e',r⟩:=I.stack.mem hb
  rw [e] at e'
  cases e'
  exact r
 have sl : ∀ b o,s.heap.get? b = some o->b ∈ frs X.stack->∃ sl,h'.get? b = some { o with slots:=sl }:=fun b o e hb=>by
  obtain ⟨s2,e2⟩:=un.slot b o e (I.stkFree b hb) hb (by simp)
  obtain ⟨s3,e3⟩:=up b _ e2 (nf b hb o e)
  exact ⟨s3,e3⟩
 refine I.call' (s':={ s1 with heap:=h' }) os ⟨fun b o e n hb _=>st b o (b1 b o e hb n),fun b o e n hb _=>sl b o e hb,un.free,fun b o e hx=>?_,un.tups,un.frzs,un.tbls⟩ (fun b u e=>?_) bare fun b z=>nomatch z
 ·rcases b3 b o e with z | ⟨o',z⟩
  ·obtain ⟨_,q⟩:=sl b o e z
   exact ⟨_,q⟩
  ·exact ⟨o',st b o' z⟩
 ·refine (hok b u e).stay (fun c v hc q=>?_) (fun _ q=>q) fun _ _ q=>q
  have ht : ∃ u',H' c = some u':=by
   rcases hc with rfl | hc
   ·exact ⟨u,e⟩
   ·exact ⟨_,hc⟩
  obtain ⟨u',hu⟩:=ht
  obtain ⟨o,ho⟩:=b2 c u' hu
  have q':=bs c o ho
  rw [q] at q'
  cases q'
  exact st c v ho
end
section
variable {P : Program} {w : World} {K : PySem.W.Frag} {mg : Str->Option Value} {base : Heap} {N : List Str} {qual : Str} {scope : Scope} {f : Addr} {cd : Value} {A : Around} {outer : List Env} {s₀ : Shared} {H₀ : Hp} {E : XK}
theorem passX : Passes (CX1 P w) (cxOf (CX1 P w) P w K mg base N qual scope f cd A outer s₀ H₀ E) E:=by
 intro pins σ H s e s1 I h
 obtain ⟨a,cls,d,B,H',rfl,os,bare,un,hok,fl,ha,b1,b2,b3,q⟩:=h
 have hfr : (envOfC qual scope s₀.heap.objs.size f cd).frame = some s₀.heap.objs.size:=rfl
 refine leave_next (B:=B) (outer:=outer) I.ok.frames hfr fl fun h' x y=>?_
 have J:=I.flown (s1:=s1) os bare un hok fl.stays b1 b2 b3 x.stays y
 have nL : ∀ b o,s₀.heap.get? b = some o->b ∉ frs outer->b ∉ frs (envOfC qual scope s₀.heap.objs.size f cd :: outer):=fun b o e hb z=>by
  rw [frs_cons hfr] at z
  rcases List.mem_cons.mp z with z | z
  ·exact absurd (Heap.lt_size e) (by rw [z]; exact Nat.lt_irrefl _)
  ·exact hb z
 refine ⟨a,cls,d,B,H',rfl,J.os,J.bare,J.base,J.hok,x,ha,fun b o e hb n=>?_,b2,fun b o e=>?_,q⟩
 ·exact b1 b o (I.base.keep b o e n hb (by intro z; cases z)) (nL b o e hb) (I.base.free b o e n (by intro z; cases z))
 ·obtain ⟨o',e'⟩:=I.base.there b o e (by intro z; cases z)
  by_cases hb : b ∈ frs outer
  ·exact .inl hb
  ·rcases b3 b o' e' with z | z
   ·exact absurd z (nL b o e hb)
   ·exact .inr z
theorem leaves_new {pins : List (Addr × Obj)} {σ : St} {H : Hp} {s : Shared} {h1 : Heap} {a : Addr} {cls : Value} {args : List Value} (I : Inv (cxOf (CX1 P w) P w K mg base N qual scope f cd A outer s₀ H₀ E) pins σ H s)
  (mk : Heap.MadeExcOf s.heap h1 a cls args) (q : E cls none H) : (cxOf (CX1 P w) P w K mg base N qual scope f cd A outer s₀ H₀ E).xe (.ref a) { s with heap:=h1 }:=by
 have hfr : (envOfC qual scope s₀.heap.objs.size f cd).frame = some s₀.heap.objs.size:=rfl
 have hstk : s.heap.FunFrames base (envOfC qual scope s₀.heap.objs.size f cd :: outer):=I.stack
 have hin : ∀ env ∈ (envOfC qual scope s₀.heap.objs.size f cd :: outer),∀ b,env.frame = some b->b ∈ frs (envOfC qual scope s₀.heap.objs.size f cd :: outer):=fun env he b hb=>List.mem_filterMap.mpr ⟨env,he,hb⟩
 have hB:=PySem.W.funFrames_hide hstk hin
 generalize hBB : PySem.W.hideAll s.heap (frs (envOfC qual scope s₀.heap.objs.size f cd :: outer)) = B at hB
 have inB : ∀ b o,s.heap.get? b = some o->b ∉ frs (envOfC qual scope s₀.heap.objs.size f cd :: outer)->B.get? b = some o:=fun b o e n=>by rw [<- hBB]; exact PySem.W.hideAll_get _ e n
 have ofB : ∀ b o,B.get? b = some o->s.heap.get? b = some o:=fun b o e=>by rw [<- hBB] at e; exact PySem.W.of_hideAll _ e
 have fresh : ∀ b,s.heap.get? b = none->B.get? b = none:=fun b e=>by
  cases z : B.get? b with
  | none=>rfl
  | some o=>rw [ofB b o z] at e; cases e
 obtain ⟨t,e1,e2,e3⟩:=mk.there
 have htr : H a = none:=by
  cases z : H a with
  | none=>rfl
  | some u =>
   obtain ⟨ob,e⟩:=(I.hok a u z).ex
   rw [mk.new] at e
   cases e
 show wpAny _ _ (leaving _ (.ref a)) _ _ _
 refine leave_first (B:=B) (outer:=outer) (s:={ s with heap:=h1 }) I.ok.frames (hB.of_keeps fun b o e _=>⟨o,mk.keeps b o e,rfl⟩) hfr e1 (fun b o e=>mk.keeps b o (ofB b o e)) (fresh a mk.new) rfl rfl fun h' x y=>?_
 have hok1 : HOk P w H h1:=I.hok.kept mk.keeps
 have b3 : ∀ b o,s.heap.get? b = some o->b ∈ frs (envOfC qual scope s₀.heap.objs.size f cd :: outer) \/ ∃ o',B.get? b = some o':=fun b o e=>by
  by_cases hb : b ∈ frs (envOfC qual scope s₀.heap.objs.size f cd :: outer)
  ·exact .inl hb
  ·exact .inr ⟨o,inB b o e hb⟩
 have b2 : ∀ b u,H b = some u->∃ o,B.get? b = some o:=fun b u e=>by
  obtain ⟨o,eo⟩:=(I.hok b u e).ex
  refine ⟨o,inB b o eo fun z=>?_⟩
  rw [I.stkFree b z] at e
  cases e
 have J:=I.flown (s1:={ s with heap:=h1 }) (H':=H) rfl I.bare (Un.kept mk.keeps) hok1 (fun b o e=>mk.keeps b o (ofB b o e)) (fun b o e hb _=>inB b o e hb) b2 b3 x.stays y
 have nL : ∀ b o,s₀.heap.get? b = some o->b ∉ frs outer->b ∉ frs (envOfC qual scope s₀.heap.objs.size f cd :: outer):=fun b o e hb z=>by
  rw [frs_cons hfr] at z
  rcases List.mem_cons.mp z with z | z
  ·exact absurd (Heap.lt_size e) (by rw [z]; exact Nat.lt_irrefl _)
  ·exact hb z
 refine ⟨a,cls,none,B,H,rfl,J.os,J.bare,J.base,J.hok,x,htr,fun b o e hb n=>?_,b2,fun b o e=>?_,q⟩
 ·exact inB b o (I.base.keep b o e n hb (by intro z; cases z)) (nL b o e hb)
 ·obtain ⟨o',e'⟩:=I.base.there b o e (by intro z; cases z)
  by_cases hb : b ∈ frs outer
  ·exact .inl hb
  ·exact .inr ⟨o',inB b o' e' (nL b o e hb)⟩
end
theorem Fun.okX {P : Program} {w : World} {K : PySem.W.Frag} {mg : Str->Option Value} {base : Heap} {x qual : Str} {st : Stmt} {f : Addr} {fd : FuncData} {N ps : List Str} {k : Nat} {sp : Sp} (F : Fun K x qual st f fd) (S : FnScope N ps (defScope st))
  (len : ∀ vs H Q E,sp vs H Q E->vs.length = ps.length)
  (hbody : ∀ (cdv : Value) (A : Around) (outer : List Env) (s : Shared) (H : Hp) (vs : List V) (Q : VK) (E : XK),Room k (A.deeper (envOfC qual (defScope st) s.heap.objs.size f cdv))->sp vs H Q E ->
   ∃ t,PSs (cxOf (CX1 P w) P w K mg base N qual (defScope st) f cdv A outer s H E) (defBody st) t/\t { nx:=fun _ H'=>Q .non H',rt:=Q } (start N vs) H) : FnOk P w K mg base (CX1 P w) (k + 1) f fd ps sp:=by
 obtain ⟨oc,od,kV,doc,pm,an,cdv,ct,osl,rfl,lk,hcd⟩:=F.ex
 exact fn_of lk hcd S len fun A outer s H vs Q E hr hsp=>hbody cdv A outer s H vs Q E hr hsp
end L2
set_option maxHeartbeats 4000000
namespace L2
open PySem PySem.Spec PyProof.Rows
abbrev bmVE : List Value:=[.type "ValueError",.type "Exception",.type "BaseException",.type "object"]
theorem exc_of_in {K : PySem.W.Frag} {h : Heap} {C : Addr} {bmB : List Value} {nid : String} (X : K.In h) (q : PySem.W.excIn K C bmB nid = true) :
  ∃ bm N nm qn bs hd sn sub ab col dd k0 k1 k2 k3 k5 mN,h.get? C = some (excClassObj nm qn C N bs bm hd sn sub ab col dd k0 k1 k2 k3 k5 nid)/\h.Ns N mN/\mN "__init__" = none/\OwnTail h bmB bm:=by
 unfold PySem.W.excIn at q
 split at q
 ·rename_i dd cd sl ho
  split at q
  ·rename_i C2 bm k0 k1 k2 k3 n k5 hm hs
   rw [Bool.and_eq_true,Bool.and_eq_true,Bool.and_eq_true,Bool.and_eq_true,Bool.and_eq_true] at q
   obtain ⟨⟨⟨⟨⟨q1,q2⟩,q3⟩,q4⟩,q5⟩,q6⟩:=q
   have e1:=beq_iff_eq.mp q1
   have e2:=beq_iff_eq.mp q2
   have e6:=beq_iff_eq.mp q6
   subst e1 e2
   obtain ⟨nm,bs,mro,ns,qn,hd,sn,sub,ab,col,del⟩:=cd
   have e3 : del = false:=by simpa using q3
   have hm' : mro = .ref C2 :: bm:=hm
   subst e3 hm'
   have hsl : sl = #[k0,k1,k2,k3,some (.builtin n),k5]:=by
    cases sl with
    | mk l=>exact congrArg Array.mk hs
   subst hsl
   exact ⟨bm,ns,nm,qn,bs,hd,sn,sub,ab,col,dd,k0,k1,k2,k3,k5,_,X _ _ ho,.of_isNs (PySem.W.isNs_of_in X q5),PySem.W.nsMap_none_of_in X q5 e6,PySem.W.tail_of_in X q4⟩
  ·cases q
 ·cases q
def tRaise (C : Addr) (E : XK) (t : TA) : TS:=fun _ σ H=>t σ H fun vs H1=>vs.length <= sizeLine/\E (.ref C) none H1
section
variable {P : Program} {w : World} {K : PySem.W.Frag} {mg : Str->Option Value} {base : Heap} {N : List Str} {qual : Str} {scope : Scope} {f : Addr} {cd : Value} {A : Around} {outer : List Env} {s₀ : Shared} {H₀ : Hp} {E : XK}
theorem ps_raise {x : Str} {C : Addr} {e : Expr} {es : List Expr} {t : TA} {np cpos pos : Pos} (hg : Gl (cxOf (CX1 P w) P w K mg base N qual scope f cd A outer s₀ H₀ E) x) (hm : mg x = some (.ref C)) (hq : PySem.W.excIn K C bmVE "ValueError.__new__" = true)
  (ha : PA (cxOf (CX1 P w) P w K mg base N qual scope f cd A outer s₀ H₀ E) (e :: es) t) (hd : (x == ("__debug__" : Str)) = false:=by decide)
  (he : starEach (e :: es) (cxOf (CX1 P w) P w K mg base N qual scope f cd A outer s₀ H₀ E).env = (false,eval e (cxOf (CX1 P w) P w K mg base N qual scope f cd A outer s₀ H₀ E).env) :: starEach es (cxOf (CX1 P w) P w K mg base N qual scope f cd A outer s₀ H₀ E).env:=by rfl)
  (hpl : (backTo cpos (starEach es (cxOf (CX1 P w) P w K mg base N qual scope f cd A outer s₀ H₀ E).env)).any (·.1) = false:=by rfl) :
  PS (cxOf (CX1 P w) P w K mg base N qual scope f cd A outer s₀ H₀ E) (.Raise (some (.Call (.Name x np) (e :: es) [] cpos)) none pos) (tRaise C E t):=by
 intro pins s σ H D I h
 obtain ⟨bm,NN,nm,qn,bs,hdd,sn,sub,ab,col,dd,k0,k1,k2,k3,k5,mN,hC,hN,hni,T⟩:=exc_of_in I.mod.kin hq
 have hbase : bm.contains (.type "BaseException") = true:=T.hasType (by decide)
 refine wpAny_Raise_call_subU (C:=C) (nm:=nm) (q:=qn) (N:=NN) (bs:=bs) (bm:=bm) (hdct:=hdd) (sn:=sn) (sub:=sub) (ab:=ab) (col:=col) (dd:=dd) (k0:=k0) (k1:=k1) (k2:=k2) (k3:=k3) (k5:=k5) (mN:=mN)
  PySem.F.excBase_ValueError (by decide : bmVE.contains (.type "ValueError") = true) PySem.F.excBase_ValueError hbase (I.ok.hd rfl) ?_ hni (ld_glob I hg hm ⟨rfl,?_⟩ hd)
 ·rw [he]
  show (false || (backTo cpos (starEach es _)).any (·.1)) = false
  rw [hpl]
  rfl
 ·have hp:=ha cpos pins s σ H _ I h
  rw [he] at hp ⊢
  refine Calls.evalArgs_plain (thn hp ?_)
  rintro us s2 ⟨vs,H1,I2,r,hz,q⟩
  exact ⟨rfl,by rw [<- r.length]; exact hz,I2.bk _ _ hC,hN.keeps I2.bk,T.keeps I2.bk,fun h' a mk=>leaves_new I2 mk q⟩
end
def excO (a : Addr) (cls : Value) (d : Option Addr) : HO:=.ext fun h=>∃ ox ws,h.get? a = some ox/\ox.cls = cls/\ox.dict = d/\ox.data = .fields ws
theorem excO_ok {P : Program} {w : World} {H : Hp} {h : Heap} {a : Addr} {cls : Value} {d : Option Addr} (x : ∃ ox ws,h.get? a = some ox/\ox.cls = cls/\ox.dict = d/\ox.data = .fields ws) : ObjOk P w H h a (excO a cls d):=by
 obtain ⟨ox,ws,e1,e2,e3,e4⟩:=x
 refine ⟨⟨ox,ws,e1,e2,e3,e4⟩,⟨ox,e1⟩,?_⟩
 rintro h1 h2 ⟨o,us,f1,f2,f3,f4⟩ k
 exact ⟨o,us,k o f1,f2,f3,f4⟩
section
variable {X : Cx} {pins : List (Addr × Obj)} {σ : St} {H : Hp} {s : Shared}
theorem Inv.track {a : Addr} {o : HO} (I : Inv X pins σ H s) (n : H a = none) (nL : a ≠ X.env.locals) (nC : ∀ x c,X.env.cells.lookup x = some c->c ≠ a) (nP : ∀ p ∈ X.pn ++ pins,p.1 ≠ a) (n0 : X.s₀.heap.get? a = none)
  (new : ObjOk X.prog X.w (upd H a o) s.heap a o) : Inv X pins σ (upd H a o) s:=by
 have ne : ∀ b u,H b = some u->b ≠ a:=fun b u e z=>by rw [z,n] at e; cases e
 refine ⟨I.ok,I.os,I.bare,⟨I.base.keep,I.base.slot,fun b ob e m hx=>?_,I.base.there,fun b xs e=>?_,fun b ob u e=>?_,fun b ps e=>?_⟩,I.loc,I.cell,?_,fun x c e=>?_,fun p hp=>?_,fun b u e=>?_,I.len⟩
 ·rw [upd_ne (by intro z; rw [z,n0] at e; cases e)]
  exact I.base.free b ob e m hx
 ·have e1:=I.base.tups b xs e
  rw [upd_ne (ne _ _ e1)]
  exact e1
 ·have e1:=I.base.frzs b ob u e
  rw [upd_ne (ne _ _ e1)]
  exact e1
 ·obtain ⟨m,e1⟩:=I.base.tbls b ps e
  exact ⟨m,by rw [upd_ne (ne _ _ e1)]; exact e1⟩
 ·rw [upd_ne (Ne.symm nL)]
  exact I.free
 ·rw [upd_ne (nC x c e)]
  exact I.freeC x c e
 ·obtain ⟨e1,e2,e3⟩:=I.pin p hp
  exact ⟨e1,by rw [upd_ne (nP p hp)]; exact e2,e3⟩
 ·by_cases hb : b = a
  ·subst hb
   rw [upd_same] at e
   cases e
   exact new
  ·rw [upd_ne hb] at e
   refine (I.hok b u e).stay (fun _ _ _ q=>q) (fun c q=>?_) fun c xs q=>?_
   ·rw [upd_ne (ne _ _ q)]
    exact q
   ·rw [upd_ne (ne _ _ q)]
    exact q
theorem Inv.unname {M : Model} {A : Around} {E : Value->Shared->Prop} {i : Nat} {n : Str} {pos : Pos} {Q : Unit->Shared->Prop} (I : Inv X pins σ H s) (hN : X.N.Nodup) (hi : X.N[i]? = some n) (hk : X.env.scope.names.lookup n = some .local)
  (k : ∀ s',Inv X pins (σ.set i none) H s'->Q () s') : wpAny M A (do bindName X.env n .none; unbindBehindTheSuite X.env n pos) Q E s:=by
 obtain ⟨m,hn,hl⟩:=id I.loc
 obtain ⟨oL,_,_,hoL,_⟩:=id hn
 refine wpAny_nameGoes_keeps hk hn (by rw [I.ok.kind]; rfl) fun h' v hn' sb=>k _ ?_
 have ne0 : ∀ b o,X.s₀.heap.get? b = some o->b ≠ X.env.locals:=fun b o e=>Nat.ne_of_lt (Nat.lt_of_lt_of_le (Heap.lt_size e) I.ok.above)
 refine ⟨I.ok,I.os,I.bare,⟨fun b o e m hb hx=>(sb.2 b (ne0 b o e)).trans (I.base.keep b o e m hb hx),fun b o e m hb hx=>?_,I.base.free,fun b o e hx=>?_,I.base.tups,I.base.frzs,I.base.tbls⟩,⟨_,hn',fun j y w e1 e2 e3=>?_⟩,fun y c e=>?_,I.free,I.freeC,fun p hp=>?_,fun b u e=>?_,?_⟩
 ·obtain ⟨sl,e1⟩:=I.base.slot b o e m hb hx
  exact ⟨sl,(sb.2 b (ne0 b o e)).trans e1⟩
 ·obtain ⟨o',e1⟩:=I.base.there b o e hx
  exact ⟨o',(sb.2 b (ne0 b o e)).trans e1⟩
 ·have hj : j ≠ i:=by
   intro z
   subst z
   have hz : j < σ.length:=by rw [I.len]; exact (List.getElem?_eq_some_iff.mp hi).1
   rw [List.getElem?_set_self hz] at e2
   cases e2
  rw [List.getElem?_set_ne (Ne.symm hj)] at e2
  obtain ⟨u,r,l⟩:=hl j y w e1 e2 e3
  have hy : y ≠ n:=by
   intro z
   subst z
   exact hj (nodup_ix hN e1 hi)
  refine ⟨u,r,?_⟩
  rcases l with ⟨l1,l2⟩ | ⟨l1,c,l2,l3⟩
  ·exact .inl ⟨l1,(if_neg hy).trans l2⟩
  ·exact .inr ⟨l1,c,l2,l3.sameBut sb (I.cne y c l2)⟩
 ·obtain ⟨w,z⟩:=I.cell y c e
  exact ⟨w,z.sameBut sb (I.cne y c e)⟩
 ·obtain ⟨e1,e2,e3,e4⟩:=I.pin p hp
  exact ⟨(sb.2 p.1 e3).trans e1,e2,e3,e4⟩
 ·refine (I.hok b u e).stay (fun c w hc q=>(sb.2 c ?_).trans q) (fun _ q=>q) fun _ _ q=>q
  intro z
  subst z
  rcases hc with hc | hc
  ·rw [<- hc,I.free] at e
   cases e
  ·rw [I.free] at hc
   cases hc
 ·rw [List.length_set]
  exact I.len
end
def XP (X : Cx) (pins : List (Addr × Obj)) (σ : St) (Ex : XK) (e : Value) (s' : Shared) : Prop:=∃ H s,Inv X pins σ H s/\CX1 X.prog X.w X.stack H s Ex e s'
abbrev TX:=St->Hp->VK->XK->Prop
def PEX (X : Cx) (e : Expr) (t : TX) : Prop :=
 ∀ (pins : List (Addr × Obj)) (s : Shared) (σ : St) (H : Hp) (Q : VK) (Ex : XK),Inv X pins σ H s->t σ H Q Ex->wpAny (model X.prog X.w) X.A (eval e X.env) (EP X pins σ Q) (XP X pins σ Ex) s
def tCallX (sp : Sp) (dvs : List V) (t : TA) : TX:=fun σ H Q Ex=>t σ H fun vs H1=>sp (vs ++ dvs) H1 Q Ex
section
variable {X : Cx} {k : Nat} {f : Addr} {fd : FuncData} {ps : List Str} {sp : Sp} {dvs : List V} {ds : List Value} {x : Str} {p pos : Pos} {e : Expr} {es : List Expr} {t : TA}
theorem PA.nox' {es : List Expr} {t : TA} (h : PA X.nox es t) {pos : Pos} {pins : List (Addr × Obj)} {s : Shared} {σ : St} {H : Hp} {Q : List V->Hp->Prop} {E : Value->Shared->Prop} (I : Inv X pins σ H s) (q : t σ H Q) :
  wpAny (model X.prog X.w) X.A (spliced (backTo pos (starEach es X.env))) (AP X pins σ Q) E s :=
 wpAny_mono (h pos pins s σ H Q (I.wish _) q) (fun _ _ ⟨vs,H',I',r,z⟩=>⟨vs,H',I'.unwish,r,z⟩) fun _ _ z=>False.elim z
theorem pex_call (F : FnOk X.prog X.w X.K X.mg X.base (CX1 X.prog X.w) k f fd ps sp) (hr : Room k X.A) (hg : Gl X x) (hm : X.mg x = some (.ref f)) (hk : PySem.W.keepIn X.K (.ref f) = true) (hb : Binds X.K fd ps ds) (hd : Vals dvs ds)
  (ha : PA X.nox (e :: es) t) (hdb : (x == ("__debug__" : Str)) = false:=by decide) (he : starEach (e :: es) X.env = (false,eval e X.env) :: starEach es X.env:=by rfl) (hpl : (backTo pos (starEach es X.env)).any (·.1) = false:=by rfl) :
  PEX X (.Call (.Name x p) (e :: es) [] pos) (tCallX sp dvs t):=by
 intro pins s σ H Q Ex I h
 refine wpAny_Call_Name_kw (ld_glob I hg hm ?_ hdb)
 refine PySem.W.callWith_K (h₀:=X.base) I.ok.mod.kin hk (thn (ha.nox' I h) ?_) he hpl
 rintro us s1 ⟨vs,H1,I1,r,q⟩
 refine ⟨I1.kIn,?_⟩
 have r2 : Vals (vs ++ dvs) (us ++ ds):=r.append hd
 have hl : (us ++ ds).length = ps.length:=by rw [<- r2.length]; exact F.len _ _ _ _ q
 refine wpAny_call (codeAny_mono (F.run X.A X.stack s1 H1 ⟨us,[]⟩ (us ++ ds) (vs ++ dvs) Q Ex hr I1.env0 (hb s1 us I1.kIn hl) r2 q) ?_)
 intro r s' z
 cases r with
 | error e=>exact ⟨H1,s1,I1,z⟩
 | ok fl =>
  cases fl with
  | ret u=>exact I1.after z
  | next=>exact False.elim z
  | brk=>exact False.elim z
  | cont=>exact False.elim z
end
abbrev Cx.caught (X : Cx) (a : Addr) : Cx:={ X with A:=X.A.mark (some (.ref a)),calm:=false }
theorem Inv.caught {X : Cx} {pins : List (Addr × Obj)} {σ : St} {H : Hp} {s : Shared} (I : Inv X pins σ H s) (a : Addr) : Inv (X.caught a) pins σ H s :=
 ⟨⟨I.ok.mod,I.ok.kind,I.ok.glob,I.ok.blt,I.ok.above,I.ok.inj,I.ok.has,I.ok.cab,(fun z=>nomatch z),I.ok.frames,I.ok.stk,I.ok.exf,I.ok.bs,I.ok.bsz,I.ok.noex,I.ok.exfs,I.ok.funs,I.ok.frf⟩,I.os,I.bare,I.base,I.loc,I.cell,I.free,I.freeC,I.pin,I.hok,I.len⟩
theorem Inv.uncaught {X : Cx} {pins : List (Addr × Obj)} {σ : St} {H : Hp} {s : Shared} {a : Addr} (ok : X.Ok) (I : Inv (X.caught a) pins σ H s) : Inv X pins σ H s :=
 ⟨ok,I.os,I.bare,I.base,I.loc,I.cell,I.free,I.freeC,I.pin,I.hok,I.len⟩
theorem matches_up {M : Model} {A : Around} {E : Value->Shared->Prop} {nm q nm' q' : Str} {C N S N' : Addr} {bs bm bs' bm' : List Value} {hd hd' : Bool} {sn sn' : List Str} {sub sub' : List Value} {ab ab' : Bool} {col col' : Option Bool} {dd dd' : Option Addr}
  {k0 k1 k2 k3 k5 l0 l1 l2 l3 l5 : Option Value} {id id' : String} {s : Shared} {e : Addr} {oe : Obj} {Q : Bool->Shared->Prop}
  (hC : s.heap.get? C = some (excClassObj nm q C N bs bm hd sn sub ab col dd k0 k1 k2 k3 k5 id)) (hS : s.heap.get? S = some (excClassObj nm' q' S N' bs' bm' hd' sn' sub' ab' col' dd' l0 l1 l2 l3 l5 id'))
  (he : s.heap.get? e = some oe) (hc : oe.cls = .ref C) (hb : bm'.contains (.type "BaseException") = true) (hup : (Value.ref C :: bm).contains (.ref S) = true) (k : Q true s) : wpAny M A (excMatches (.ref e) (.ref S)) Q E s:=by
 obtain ⟨h,g,d,t,os⟩:=s
 have hcB : (Value.ref S :: bm').contains (.type "BaseException") = true:=by rw [List.contains_cons,hb,Bool.or_true]
 have nt:=tc_notTuple
 unfold excMatches
 repeat (first | (with_reducible refine wpAny_loadPart_at he ?_; rw [hc]) | with_reducible refine wpAny_loadPart_at hS ?_ | (with_reducible refine wpAny_isSubtype_exc hS ?_; rw [hcB]) | (with_reducible refine wpAny_isSubtype_exc hC ?_; rw [hup]) | wp_step)
 exact k
def ExcC (K : PySem.W.Frag) (C : Addr) (bm : List Value) (nid : String) : Prop :=
 ∃ nm qn N bs hd sn sub ab col dd k0 k1 k2 k3 k5,K.lookup C = some (excClassObj nm qn C N bs bm hd sn sub ab col dd k0 k1 k2 k3 k5 nid)
theorem ExcC.mk {K : PySem.W.Frag} {C N : Addr} {bm bs sub : List Value} {nid : String} {nm qn : Str} {hd ab : Bool} {sn : List Str} {col : Option Bool} {dd : Option Addr} {k0 k1 k2 k3 k5 : Option Value}
  (h : K.lookup C = some (excClassObj nm qn C N bs bm hd sn sub ab col dd k0 k1 k2 k3 k5 nid)) : ExcC K C bm nid:=⟨nm,qn,N,bs,hd,sn,sub,ab,col,dd,k0,k1,k2,k3,k5,h⟩
def tTryAs (K : PySem.W.Frag) (i j : Nat) (S : Addr) (tx : TX) (ts : Addr->TS) : TS:=fun D σ H =>
 tx σ H (fun v H1=>D.nx (σ.set i (some v)) H1) fun cls d H1=>∃ C bm nid,cls = .ref C/\ExcC K C bm nid/\(Value.ref C :: bm).contains (.ref S) = true /\
  ∀ a,H1 a = none->ts a { nx:=fun σ' H'=>D.nx (σ'.set j none) H',rt:=D.rt,bk:=fun σ' H'=>D.bk (σ'.set j none) H',ct:=fun σ' H'=>D.ct (σ'.set j none) H' } (σ.set j (some (.ref a))) (upd H1 a (excO a cls d))
section
variable {X : Cx}
theorem fresh_exc {pins : List (Addr × Obj)} {σ : St} {H H' : Hp} {s s1 : Shared} {B : Heap} {a : Addr} {cls fl : Value} {d : Option Addr} {l : List Env} (I : Inv X pins σ H s) (un : Un (frs X.stack) [] H H' s.heap s1.heap) (x : Flt B l a cls d fl s1.heap)
  (b3 : ∀ b o,s.heap.get? b = some o->b ∈ frs X.stack \/ ∃ o',B.get? b = some o') : s.heap.get? a = none:=by
 cases e : s.heap.get? a with
 | none=>rfl
 | some o =>
  rcases b3 a o e with z | ⟨o',z⟩
  ·obtain ⟨_,o2,e2,r⟩:=I.stack.mem z
   rw [e] at e2
   cases e2
   obtain ⟨sl,e3⟩:=un.slot a o e (I.stkFree a z) z (by simp)
   obtain ⟨ox,ws,e4,_,_,e5⟩:=x.obj
   rw [e3] at e4
   cases e4
   exact absurd e5 (r ws)
  ·rw [x.new] at z
   cases z
theorem ps_tryas {i j : Nat} {y n S' : Str} {S : Addr} {bmS : List Value} {idS : String} {ce : Expr} {b0 : Stmt} {suite : List Stmt} {py np apos hpos pos : Pos} {tx : TX} {ts : Addr->TS}
  (hN : X.N.Nodup) (hi : X.N[i]? = some y) (hy : Loc X.env.scope y) (hj : X.N[j]? = some n) (hn : X.env.scope.names.lookup n = some .local) (hfr : X.env.frame = some X.env.locals) (hst : X.stack = X.env :: X.outer) (hex : X.ex = [])
  (hgS : Gl X S') (hmS : X.mg S' = some (.ref S)) (cS : ExcC X.K S bmS idS) (hbS : bmS.contains (.type "BaseException") = true) (hx : PEX X ce tx) (hs : ∀ a,PSs (X.caught a).nox (b0 :: suite) (ts a))
  (hf : X.fn y = true \/ X.env.scope.names.lookup y = some .local:=by first | exact .inl rfl | exact .inr rfl | assumption)
  (hsw : swapsWith ce (some (.Name y py)) apos.line X.env = pure false:=by rfl) (hdb : (S' == ("__debug__" : Str)) = false:=by decide) :
  PS X (.Try [.Assign [.Name y py] ce apos] [.ExceptHandler (some (.Name S' np)) (some n) (b0 :: suite) hpos] [] [] pos) (tTryAs X.K i j S tx ts):=by
 intro pins s σ H D I h
 refine wpAny_Try_except (wpAny_execs_cons (wpAny_Assign_Name (wpAny_mono (hx pins s σ H _ _ I h) ?ok ?err) hsw))
 case ok =>
  rintro v s1 ⟨x,H1,I1,r1,q1⟩
  refine store_ok I1 hN hi hy r1 (fun s2 I2=>?_) hf
  exact wpAny_execs_nil (wpAny_execs_nil ⟨_,H1,I2,q1⟩)
 case err =>
  rintro e s1 ⟨H0,s0,I0,a,cls,d,B,H',rfl,os,bare,un,hok,fl,ha,b1,b2,b3,C,bm,nid,rfl,cC,hup,q⟩
  have fl':=fl
  rw [hst] at fl'
  have hA : X.A.frames = some (X.env :: X.outer):=by rw [I.ok.frames,hst]
  have fr0:=fresh_exc I0 un fl b3
  refine note_next (B:=B) hA hfr fl' fun h4 x4 y4=>?_
  refine fly_on (s:={ s1 with heap:=h4 }) x4 fun h5 x5 y5=>?_
  have I5 : Inv X pins σ H' { s1 with heap:=h5 }:=I0.flown os bare un hok fl.stays b1 b2 b3 x5.stays (y4.trans y5)
  refine wpAny_handleBy_cons (codeAny_handlers_test ?_) (by intro z; cases z)
  refine Calls.Name_function_global I5.ok.kind hgS (Calls.loadGlobal_global (by rw [I5.ok.glob]; exact I5.mod.glob.keeps I5.bk) hmS ?_) hdb
  obtain ⟨ox,ws,e1,e2,e3,e4⟩:=x5.obj
  obtain ⟨_,_,_,_,_,_,_,_,_,_,_,_,_,_,_,lC⟩:=cC
  obtain ⟨_,_,_,_,_,_,_,_,_,_,_,_,_,_,_,lS⟩:=cS
  refine matches_up (s:={ s1 with heap:=h5 }) (I5.kIn _ _ lC) (I5.kIn _ _ lS) e1 e2 hbS hup ?_
  show codeAny _ _ (.handlers (.ref a) [.ExceptHandler none (some n) (b0 :: suite) hpos] X.env) _ _
  refine codeAny_handlers_suite_as ?_
  refine fly_on (s:={ s1 with heap:=h5 }) x5 fun h6 x6 y6=>?_
  have I6 : Inv X pins σ H' { s1 with heap:=h6 }:=I0.flown os bare un hok fl.stays b1 b2 b3 x6.stays ((y4.trans y5).trans y6)
  have I7 : Inv X pins σ (upd H' a (excO a (.ref C) d)) { s1 with heap:=h6 }:=by
   refine I6.track ha ?_ ?_ ?_ ?_ (excO_ok x6.obj)
   ·obtain ⟨m,⟨o,_,_,ho,_⟩,_⟩:=I0.loc
    intro z
    rw [<- z,fr0] at ho
    cases ho
   ·intro x c ec z
    obtain ⟨v,o,ho,_⟩:=I0.cell x c ec
    rw [z,fr0] at ho
    cases ho
   ·intro p hp z
    have ho:=(I0.pin p hp).1
    rw [z,fr0] at ho
    cases ho
   ·cases z : X.s₀.heap.get? a with
    | none=>rfl
    | some o =>
     obtain ⟨o',ho⟩:=I0.base.there a o z (by rw [hex]; simp)
     rw [fr0] at ho
     cases ho
  have I8:=(I7.caught a).wish fun _ _=>False
  refine store_ok (X:=(X.caught a).nox) (M:=model X.prog X.w) (i:=j) (v:=.ref a) I8 hN hj (.inl hn) rfl (fun s7 I9=>?_) (.inr hn)
  refine wpAny_mono (hs a pins s7 _ _ _ I9 (q a ha)) ?_ fun _ _ z=>False.elim z
  intro f s8 z
  show wpAny _ _ (do bindName X.env n .none; unbindBehindTheSuite X.env n hpos) _ _ _
  cases f with
  | next =>
   obtain ⟨σ',H8,J,z⟩:=z
   exact Inv.unname (J.unwish.uncaught I.ok) hN hj hn fun s9 J9=>⟨_,H8,J9,z⟩
  | brk =>
   obtain ⟨σ',H8,J,z⟩:=z
   exact Inv.unname (J.unwish.uncaught I.ok) hN hj hn fun s9 J9=>⟨_,H8,J9,z⟩
  | cont =>
   obtain ⟨σ',H8,J,z⟩:=z
   exact Inv.unname (J.unwish.uncaught I.ok) hN hj hn fun s9 J9=>⟨_,H8,J9,z⟩
  | ret u =>
   obtain ⟨v,σ',H8,J,r,z⟩:=z
   exact Inv.unname (J.unwish.uncaught I.ok) hN hj hn fun s9 J9=>⟨v,_,H8,J9,r,z⟩
end
end L2
set_option maxHeartbeats 4000000
namespace L2
open PySem PySem.Spec PyProof.Rows
theorem comp_loop {prog : Program} {w : World} {A : Around} {R : Result->Shared->Prop} {s : Shared} {elt target iter : Expr} {sc : Scope} {pos : Pos} {it acc : Value} {env : Env} (J : Nat->Shared->Prop)
  (turn : ∀ n s,J n s->wpAny (model prog w) A (pyNext it) (fun r s1=>match r with
   | none=>R (.ok .next) s1
   | some v=>wpAny (model prog w) A (letOwnedTupleGo target it v) (fun _ s2=>wpAny (model prog w) A (assign target env v) (fun _ s3=>wpAny (model prog w) A (eval elt env) (fun x s4 =>
     wpAny (model prog w) A (call (.builtin "list.append") [acc,x]) (fun _ s5=>∃ m,m < n/\J m s5) (fun _ _=>False) s4) (fun _ _=>False) s3) (fun _ _=>False) s2) (fun _ _=>False) s1) (fun _ _=>False) s)
  (n : Nat) (h : J n s) : codeAny (model prog w) A (.compLoop (.ListComp elt [⟨target,iter,[],0⟩] sc pos) 0 it acc env) R s:=by
 refine codeAny_loop rfl J ?_ n h
 intro n s hJ
 show wpAny _ _ ((compTurn (.ListComp elt [⟨target,iter,[],0⟩] sc pos) 0 it acc env).onRaise (fun x=>do noteFrame x env; theTreesLotGoes x)) _ _ s
 refine wpAny_noted ?_
 rw [compTurn_list1]
 refine wpAny_bind (wpAny_standAt (wpAny_bind (wpAny_mono (turn n s hJ) ?_ fun _ _ z=>False.elim z)))
 intro r s1 h1
 cases r with
 | none=>exact wpAny_pure h1
 | some v =>
  refine wpAny_bind (wpAny_mono h1 ?_ fun _ _ z=>False.elim z)
  intro _ s2 h2
  refine wpAny_bind (wpAny_mono h2 ?_ fun _ _ z=>False.elim z)
  intro _ s3 h3
  refine wpAny_bind (wpAny_bind (wpAny_mono h3 ?_ fun _ _ z=>False.elim z))
  intro x s4 h4
  refine wpAny_bind (wpAny_mono h4 ?_ fun _ _ z=>False.elim z)
  intro _ s5 h5
  exact wpAny_pure (wpAny_pure ⟨rfl,h5⟩)
def compCx (X : Cx) (sc : Scope) (N' : List Str) (cl : List (Str × Addr)) (s2 : Shared) (H2 : Hp) (C : Addr) (ex : List Addr) : Cx :=
 { X with N:=N',s₀:=s2,H₀:=H2,env:=compEnvC sc cl C X.env,outer:=X.stack,ex:=ex,fn:=fun _=>false,pn:=[],xe:=fun _ _=>False }
def Caps (X : Cx) (sc : Scope) (cl : List (Str × Addr)) : List Str->List Nat->Prop
 | [],[]=>True
 | y :: ys,j :: js=>X.N[j]? = some y/\X.env.kindOf y = some .cell/\cl.lookup y = X.env.cells.lookup y/\(relabel sc X.env).names.lookup y = some .cell/\Caps X sc cl ys js
 | _,_=>False
theorem Caps.get {X : Cx} {sc : Scope} {cl : List (Str × Addr)} : ∀ {ys : List Str} {js : List Nat} {i : Nat} {y : Str},Caps X sc cl ys js->ys[i]? = some y ->
  ∃ j,js[i]? = some j/\X.N[j]? = some y/\X.env.kindOf y = some .cell/\cl.lookup y = X.env.cells.lookup y/\(relabel sc X.env).names.lookup y = some .cell
 | [],[],i,y,_,e=>by simp at e
 | _ :: _,j :: _,0,y,h,e=>by
  simp at e
  subst e
  exact ⟨j,rfl,h.1,h.2.1,h.2.2.1,h.2.2.2.1⟩
 | _ :: _,_ :: _,i + 1,y,h,e=>by
  have q:=Caps.get (i:=i) (y:=y) h.2.2.2.2 (by simpa using e)
  simpa using q
 | [],_ :: _,_,_,h,_=>False.elim h
 | _ :: _,[],_,_,h,_=>False.elim h
theorem Caps.len {X : Cx} {sc : Scope} {cl : List (Str × Addr)} : ∀ {ys : List Str} {js : List Nat},Caps X sc cl ys js->ys.length = js.length
 | [],[],_=>rfl
 | _ :: _,_ :: _,h=>by simp [Caps.len h.2.2.2.2]
 | [],_ :: _,h=>False.elim h
 | _ :: _,[],h=>False.elim h
def capt (σ : St) (js : List Nat) : St:=js.map fun j=>(σ[j]?).join
def Comped (J : It) (cap : St) (te : TE) (Q : VK) (H1 : Hp) : Prop:=∀ D,H1 D = none->∃ W : Nat->Nat->List V->Hp->Prop,(∃ m,W 0 m [] (upd H1 D (.lst [])))/\∀ i m ys H2,W i m ys H2->H2 D = some (.lst ys) /\
 ((J.stop i H2/\Q (.ref D) H2) \/ (J.go i H2/\∀ x H3,J.yld i H2 x H3->te (some x :: cap) H3 fun y H4=>H4 D = some (.lst ys)/\ys.length < sizeLine/\∃ m',m' < m/\W (i + 1) m' (ys ++ [y]) (upd H4 D (.lst (ys ++ [y])))))
def tComp (wi : TI) (js : List Nat) (te : TE) : TE:=fun σ H Q=>wi σ H fun J H1=>Comped J (capt σ js) te Q H1
section
variable {X : Cx} {x : Str} {px pos : Pos} {elt iter : Expr} {sc : Scope} {ys : List Str} {js : List Nat} {cl : List (Str × Addr)}
theorem inv_comp {pins : List (Addr × Obj)} {σ : St} {H : Hp} {s s4 : Shared} {fp : List Addr} {C : Addr} {H4 : Hp} {m : Str->Option Value} (I : Inv X pins σ H s) (hf : ∀ b ∈ fp,FpOk X pins H b)
  (hkind : sc.kind = .function) (hcap : Caps X sc cl ys js) (hin : ∀ y c,cl.lookup y = some c->X.env.cells.lookup y = some c) (hhas : ∀ y,((relabel sc X.env).names.lookup y = some .cell \/ (relabel sc X.env).names.lookup y = some .free)->∃ c,cl.lookup y = some c)
  (hfl : ∀ b ∈ fp,b < s.heap.objs.size) (hC : s.heap.objs.size <= C) (hos : s4.os = s.os) (hb : AllBare s4.gens) (un : Un (frs X.stack) fp H H4 s.heap s4.heap) (kp : ∀ b o,s.heap.get? b = some o->s4.heap.get? b = some o) (hn : s4.heap.Ns C m) (hC4 : H4 C = none)
  (hok : HOk X.prog X.w H4 s4.heap) : Inv (compCx X sc (x :: ys) cl s H C fp) [] (none :: capt σ js) H4 s4:=by
 have frb : ∀ b ∈ fp,b ∉ frs X.stack:=fun b hb z=>by
  rcases List.mem_cons.mp (I.stkSub b z) with q | q
  ·exact (hf b hb).2.1 q
  ·exact (hf b hb).2.2.1 q
 refine ⟨⟨I.ok.mod,hkind,I.ok.glob,I.ok.blt,hC,fun y z c h1 h2=>I.ok.inj y z c (hin y c h1) (hin z c h2),hhas,(fun _ _ z=>nomatch z),I.ok.hd,I.ok.frames,.inl rfl,fun b z=>⟨?_,fun y c e=>?_⟩,I.bs,Nat.le_trans I.ok.bsz I.sz,fun b o e z=>?_,frb,I.stack,I.stkFree⟩,
  hos,hb,un,⟨m,hn,fun i y v e1 e2 e3=>?_⟩,fun y c e=>?_,hC4,fun y c e=>?_,fun p hp=>?_,hok,?_⟩
 ·exact Nat.ne_of_lt (Nat.lt_of_lt_of_le (hfl b z) hC)
 ·exact (hf b z).2.2.2.2.1 y c (hin y c e)
 ·rcases (hf b z).2.2.2.1 with q | q
  ·exact I.ok.noex b o e q
  ·exact absurd (Nat.lt_of_lt_of_le (Heap.lt_size e) (Nat.le_trans I.ok.bsz q)) (Nat.lt_irrefl _)
 ·cases i with
  | zero =>
   have z : (none : Option V) = some v:=by simpa using e2
   cases z
  | succ i =>
   have e1' : ys[i]? = some y:=by simpa [compCx] using e1
   have e2' : (capt σ js)[i]? = some (some v):=by simpa using e2
   obtain ⟨j,q1,q2,q3,q4,q5⟩:=hcap.get e1'
   unfold capt at e2'
   rw [List.getElem?_map,q1] at e2'
   have e2'' : (σ[j]?).join = some v:=by simpa using e2'
   have e3' : σ[j]? = some (some v):=by
    cases z : σ[j]? with
    | none=>rw [z] at e2''; cases e2''
    | some o =>
     cases o with
     | none=>rw [z] at e2''; cases e2''
     | some w'=>rw [z] at e2''; cases e2''; rfl
   obtain ⟨m0,_,hl⟩:=I.loc
   obtain ⟨u,r,l⟩:=hl j y v q2 e3' (.inr (.inl q3))
   refine ⟨u,r,.inr ⟨.inl q5,?_⟩⟩
   rcases l with ⟨l1,_⟩ | ⟨_,c,l2,l3⟩
   ·rw [q3] at l1; cases l1
   ·obtain ⟨o,ho,hd⟩:=l3
    exact ⟨c,q4.trans l2,o,kp c o ho,hd⟩
 ·obtain ⟨v,o,ho,hd⟩:=I.cell y c (hin y c e)
  exact ⟨v,o,kp c o ho,hd⟩
 ·obtain ⟨v,o,ho,hd⟩:=I.cell y c (hin y c e)
  exact un.free c o ho (I.freeC y c (hin y c e)) fun z=>(hf c z).2.2.2.2.1 y c (hin y c e) rfl
 ·exact absurd (show p ∈ ([] : List (Addr × Obj)) from hp) (by simp)
 ·show (none :: capt σ js).length = (x :: ys).length
  unfold capt
  rw [List.length_cons,List.length_cons,List.length_map,hcap.len]
theorem pe_comp {wi : TI} {te : TE} (hclos : closureFor sc X.env = pure cl) (hcell : ∀ y ∈ sc.names,y.2 ≠ .cell) (hkind : sc.kind = .function) (hnames : ∀ y ∈ sc.names,y.2 = .local->sc.names.lookup y.1 = some .local)
  (hx : (relabel sc X.env).names.lookup x = some .local) (hcap : Caps X sc cl ys js) (hin : ∀ y c,cl.lookup y = some c->X.env.cells.lookup y = some c)
  (hhas : ∀ y,((relabel sc X.env).names.lookup y = some .cell \/ (relabel sc X.env).names.lookup y = some .free)->∃ c,cl.lookup y = some c) (hnd : (x :: ys).Nodup) (hc : X.calm = true)
  (hi : PI X.nox (.Name x px) iter wi) (he : ∀ s2 H2 C ex,PE (compCx X sc (x :: ys) cl s2 H2 C ex) elt te) (hs : ∀ v,foldedSetIterable iter X.env v = pure v:=by intro _; rfl) :
  PE X (.ListComp elt [⟨.Name x px,iter,[],0⟩] sc pos) (tComp wi js te):=by
 intro pins s σ H Q I h
 rw [eval_ListComp]
 refine wpAny_mono (E:=fun _ _=>False) (wpAny_comprehension_free (use:=none) rfl hs hclos hkind hnames (wpAny_mono (hi pins s σ H _ (I.wish _) h) ?_ fun _ _ z=>False.elim z)) (fun _ _ z=>z) fun _ _ z=>False.elim z
 intro v s1 h1
 refine wpAny_mono h1 ?_ fun _ _ z=>False.elim z
 rintro itv s2 ⟨it,fp,tn,J,H2,rfl,I2w,T,st2,f2w,q⟩
 have I2:=I2w.unwish
 have f2 : ∀ b ∈ fp,FpOk X pins H2 b:=f2w
 refine wpAny_newObj_type (wpAny_newFunctionEnv hcell (by intro y hy; simp at hy) (fun h4 hns hsb=>?_) hkind)
 dsimp only at hns hsb ⊢
 generalize hE : s2.heap.push { cls:=.type "list",dict:=none,data:=.seq ([] : List Value).toArray } = g3 at hns hsb ⊢
 have hsz : g3.objs.size = s2.heap.objs.size + 1:=by rw [<- hE,Heap.size_push]
 have hDC : s2.heap.objs.size ≠ g3.objs.size:=by omega
 have old : ∀ b o,s2.heap.get? b = some o->h4.get? b = some o:=fun b o e=>by
  have lt : b < s2.heap.objs.size:=Heap.lt_size e
  rw [hsb.2 b (Nat.ne_of_lt (by rw [hsz]; exact Nat.lt_succ_of_lt lt))]
  exact Heap.get?_push_of_some _ (hE ▸ Heap.get?_push_of_some _ e)
 have hD0 : H2 s2.heap.objs.size = none:=I2.hok.fresh (Nat.le_refl _)
 have hC0 : H2 g3.objs.size = none:=I2.hok.fresh (by omega)
 have hDat : h4.get? s2.heap.objs.size = some { cls:=.type "list",data:=.seq ([] : List Value).toArray }:=by
  rw [hsb.2 _ hDC]
  exact Heap.get?_push_of_some _ (hE ▸ Heap.get?_push_size _ rfl)
 obtain ⟨W,⟨m0,w0⟩,turn⟩:=q s2.heap.objs.size hD0
 have hfl : ∀ b ∈ fp,b < s2.heap.objs.size:=fun b hb=>by
  obtain ⟨o,e,_⟩:=T.obj _ _ st2 b hb
  exact Heap.lt_size e
 have J0 : Inv (compCx X sc (x :: ys) cl s2 H2 g3.objs.size fp) [] (none :: capt σ js) (upd H2 s2.heap.objs.size (.lst [])) { s2 with heap:=h4,toks:=s2.toks + ([] : List (Str × Value)).length }:=by
  refine inv_comp (m:=fun y=>([] : List (Str × Value)).reverse.lookup y) I2 f2 hkind hcap hin hhas hfl (by omega) rfl I2.bare (Un.laid old (Nat.le_refl _) hD0) old hns ?_ ?_
  ·rw [upd_ne (Ne.symm hDC)]; exact hC0
  ·exact I2.hok.laid old (Nat.le_refl _) ⟨Nat.zero_le _,[],0,.nil,hDat⟩
 have st4 : tn 0 h4:=T.keep _ _ _ st2 fun b hb o e=>old b o e
 have xcell : ∀ y c,(compCx X sc (x :: ys) cl s2 H2 g3.objs.size fp).env.cells.lookup y = some c->X.env.cells.lookup y = some c:=hin
 have stat : ∀ {H' : Hp},(∀ b ∈ fp,H' b = none)->∀ b ∈ fp,FpOk (compCx X sc (x :: ys) cl s2 H2 g3.objs.size fp) [] H' b:=fun hn b hb=>by
  refine ⟨hn b hb,?_,?_,.inl hb,fun y c e=>(f2 b hb).2.2.2.2.1 y c (hin y c e),fun p hp=>absurd (show p ∈ ([] : List (Addr × Obj)) from hp) (by simp)⟩
  ·have lt : b < s2.heap.objs.size:=hfl b hb
   exact Nat.ne_of_lt (by show b < g3.objs.size; rw [hsz]; exact Nat.lt_succ_of_lt lt)
  ·intro z
   rcases List.mem_cons.mp (I2.stkSub b z) with q | q
   ·exact (f2 b hb).2.1 q
   ·exact (f2 b hb).2.2.1 q
 have fin : ∀ {σ' : St} {H' : Hp} {s' : Shared},Inv (compCx X sc (x :: ys) cl s2 H2 g3.objs.size fp) [] σ' H' s'->Q (.ref s2.heap.objs.size) H' ->
   compPost (model X.prog X.w) X.A (fun _ _=>False) none (EP X pins σ Q) (.ref s2.heap.objs.size) g3.objs.size (.ok .next) s':=fun {σ' H' s'} J' q'=>by
  obtain ⟨m,hm,_⟩:=J'.loc
  refine ⟨m,hm,fun h' sb=>?_⟩
  have neC : ∀ b o,s2.heap.get? b = some o->b ≠ g3.objs.size:=fun b o e=>by
   have lt : b < s2.heap.objs.size:=Heap.lt_size e
   exact Nat.ne_of_lt (by rw [hsz]; exact Nat.lt_succ_of_lt lt)
  have ub:=J'.base
  refine ⟨.ref s2.heap.objs.size,H',?_,rfl,q'⟩
  refine I2.call' (s':={ s' with heap:=h' }) (ch:=fp) J'.os ⟨fun b o e n hb hx=>(sb.2 b (neC b o e)).trans (ub.keep b o e n hb hx),fun b o e n hb hx=>?_,ub.free,fun b o e hx=>?_,ub.tups,ub.frzs,ub.tbls⟩ (fun b u e=>?_) J'.bare fun b hb=>⟨(f2 b hb).2.2.2.1,(f2 b hb).2.1,(f2 b hb).2.2.2.2.1,(f2 b hb).2.2.2.2.2⟩
  ·obtain ⟨sl,e1⟩:=ub.slot b o e n hb hx
   exact ⟨sl,(sb.2 b (neC b o e)).trans e1⟩
  ·obtain ⟨o',e1⟩:=ub.there b o e hx
   exact ⟨o',(sb.2 b (neC b o e)).trans e1⟩
  ·have hCn : H' g3.objs.size = none:=J'.free
   refine (J'.hok b u e).stay (fun c v hc z=>(sb.2 c ?_).trans z) (fun _ z=>z) fun _ _ z=>z
   rintro rfl
   rcases hc with hc | hc
   ·rw [<- hc,hCn] at e; cases e
   ·rw [hCn] at hc; cases hc
 have loop : ∀ s4 : Shared,s4 = { s2 with heap:=h4,toks:=s2.toks + ([] : List (Str × Value)).length } ->
   codeAny (model X.prog X.w) X.A (.compLoop (.ListComp elt [⟨.Name x px,iter,[],0⟩] sc pos) 0 (.ref it) (.ref s2.heap.objs.size) (compEnvC sc cl g3.objs.size X.env))
    (compPost (model X.prog X.w) X.A (fun _ _=>False) none (EP X pins σ Q) (.ref s2.heap.objs.size) g3.objs.size) s4:=by
  rintro s4 rfl
  refine comp_loop (fun n s'=>∃ i xo ys' H',Inv (compCx X sc (x :: ys) cl s2 H2 g3.objs.size fp) [] (xo :: capt σ js) H' s'/\tn i s'.heap/\(∀ b ∈ fp,H' b = none)/\W i n ys' H') ?_ m0 ⟨0,none,[],_,J0,st4,fun b hb=>?_,w0⟩
  ·rintro n s' ⟨i,xo,ys',H',J',st',fr',w'⟩
   obtain ⟨hD,alt⟩:=turn i n ys' H' w'
   rcases alt with ⟨stop,qn⟩ | ⟨go,step⟩
   ·refine wpAny_mono (T.done (compCx X sc (x :: ys) cl s2 H2 g3.objs.size fp) rfl rfl rfl hc i [] s' _ H' (fun _ _=>False) J' (stat fr') st' stop) ?_ fun _ _ z=>z
    rintro r s'' ⟨rfl,J''⟩
    exact fin J'' qn
   ·refine wpAny_mono (T.item (compCx X sc (x :: ys) cl s2 H2 g3.objs.size fp) rfl rfl rfl hc i [] s' _ H' (fun _ _=>False) J' (stat fr') st' go) ?_ fun _ _ z=>z
    rintro r s'' ⟨u,rfl,hu⟩
    refine wpAny_mono hu ?_ fun _ _ z=>z
    rintro _ s5 ⟨xv,H5,J5,r5,y5,st5,fr5⟩
    have J5':=J5.pinned (stat fr5) (T.obj _ _ st5)
    refine wpAny_assign_Name (store_ok (X:=compCx X sc (x :: ys) cl s2 H2 g3.objs.size fp) (i:=0) J5' hnd rfl (.inl hx) r5 (fun s6 J6=>?_) (.inr hx))
    refine wpAny_mono (he s2 H2 g3.objs.size fp _ s6 _ H5 _ J6 (step xv H5 y5)) ?_ fun _ _ z=>z
    rintro yv s7 ⟨yy,H7,J7,r7,hD7,hlen,m',hm',w7⟩
    refine wpAny_mono (mt_append (X:=compCx X sc (x :: ys) cl s2 H2 g3.objs.size fp) _ s7 _ H7 (.ref s2.heap.objs.size) [yy] (.ref s2.heap.objs.size) [yv] (fun _ H8=>H8 = upd H7 s2.heap.objs.size (.lst (ys' ++ [yy]))) J7 rfl (.cons r7 .nil) ⟨_,ys',yy,rfl,rfl,hD7,hlen,rfl⟩) ?_ fun _ _ z=>z
    rintro _ s8 ⟨_,H8,J8,_,rfl⟩
    have pinned : ∀ b ∈ fp,∀ o,s5.heap.get? b = some o->s8.heap.get? b = some o/\(upd H7 s2.heap.objs.size (.lst (ys' ++ [yy]))) b = none:=fun b hb o e=>by
     obtain ⟨q1,q2,_⟩:=J8.pin (b,o) (List.mem_append_right _ (List.mem_append_right _ (mem_pinsAt hb e)))
     exact ⟨q1,q2⟩
    refine ⟨m',hm',i + 1,some xv,ys' ++ [yy],_,J8.unpinned,T.keep _ _ _ st5 fun b hb o e=>(pinned b hb o e).1,fun b hb=>?_,w7⟩
    obtain ⟨o,e,_⟩:=T.obj _ _ st5 b hb
    exact (pinned b hb o e).2
  ·rw [upd_ne (Nat.ne_of_lt (hfl b hb))]
   exact (f2 b hb).1
 exact codeAny_compStart_list (loop _ rfl) (T.self _ _ _ _ _ st4 (loop _ rfl))
end
end L2
set_option maxHeartbeats 4000000
namespace L2
open PySem PySem.Spec PyProof.Rows
section
variable {X : Cx}
def rSlS : V->Option Int->Option Int->Hp->VK->Prop:=fun x lo hi H Q=>∃ z,x = .str z/\z.length <= sizeLine/\Q (.str (Txt.slice z lo hi)) H
theorem sl_str : SlR X rSlS:=by
 intro pins s σ H x v vl vu lo hi sl Q I rx hs pl pu h
 obtain ⟨z,rfl,hz,q⟩:=h
 obtain ⟨t,rfl⟩:=rx
 refine ⟨"str",_,F.slot_str_getitem.lookup,typeIs_str _ _ _,?_⟩
 cases pl with
 | none =>
  cases pu with
  | none=>exact wpAny_getItem_str_slice (l:=none) (u:=none) (st:=none) hs rfl (post_val_or_str ⟨Nat.le_trans (Txt.slice_le z _ _) hz,fun t' k=>⟨.str _,H,I.tok _,⟨_,rfl⟩,q⟩⟩)
  | int j tj=>exact wpAny_getItem_str_slice (l:=none) (u:=some (j,tj)) (st:=none) hs rfl (post_val_or_str ⟨Nat.le_trans (Txt.slice_le z _ _) hz,fun t' k=>⟨.str _,H,I.tok _,⟨_,rfl⟩,q⟩⟩)
 | int i ti =>
  cases pu with
  | none=>exact wpAny_getItem_str_slice (l:=some (i,ti)) (u:=none) (st:=none) hs rfl (post_val_or_str ⟨Nat.le_trans (Txt.slice_le z _ _) hz,fun t' k=>⟨.str _,H,I.tok _,⟨_,rfl⟩,q⟩⟩)
  | int j tj=>exact wpAny_getItem_str_slice (l:=some (i,ti)) (u:=some (j,tj)) (st:=none) hs rfl (post_val_or_str ⟨Nat.le_trans (Txt.slice_le z _ _) hz,fun t' k=>⟨.str _,H,I.tok _,⟨_,rfl⟩,q⟩⟩)
def rZfill : V->List V->Hp->VK->Prop:=fun x vs H Q=>∃ z k,x = .str z/\vs = [.int k]/\PadOk k = true/\Q (.str (Txt.zfill z k)) H
def Its (x : Str) : It:=⟨fun i _=>i < x.cps.size,fun i H v H'=>H' = H/\∃ c,x.cps[i]? = some c/\v = .str ⟨#[c]⟩,fun i _=>x.cps.size <= i⟩
def iStr (tl : TE) : TI:=fun σ H R=>tl σ H fun v H1=>∃ x,v = .str x/\R (Its x) H1
theorem call_all : CallR X (.builtin "all") (fun xs H Q=>∃ (a : Addr) (bs : List Bool),xs = [.ref a]/\SqL X.K H a (bs.map V.bl)/\X.calm = true/\Q (.bl (bs.all id)) H):=by
 intro pins s σ H xs us Q I r h
 obtain ⟨a,bs,rfl,hS,hc,q⟩:=h
 obtain ⟨u,rfl,rx⟩:=vals1 r
 cases rx
 obtain ⟨its,rv,pl,hz⟩:=I.list hS
 have hlen : its.length = bs.length:=by rw [<- rv.length,List.length_map]
 refine call_all_walk (wpAny_pyIter_list pl.isList ?_)
 have ne : a ≠ s.heap.objs.size:=by
  obtain ⟨o,e,_⟩:=pl.isList
  exact Nat.ne_of_lt (Heap.lt_size e)
 have hh : X.A.in1.handled = none:=I.ok.hd hc
 refine ⟨s.heap.objs.size,_,_,_,_,_,fun i=>bs.getD i true,rfl,Walks.list hh s.heap.objs.size a ne its.toArray,⟨⟨_,Heap.get?_push_size _ rfl,rfl,rfl⟩,?_⟩,?_,?_⟩
 ·obtain ⟨o,e,r⟩:=pl.isList
  exact ⟨o,Heap.get?_push_of_some _ e,r⟩
 ·intro i v s' Q' E' hv hq
  have hv' : its[i]? = some v:=by simpa using hv
  have hi : i < its.length:=(List.getElem?_eq_some_iff.mp hv').1
  have hb : bs[i]? = some bs[i]:=List.getElem?_eq_getElem (by omega)
  obtain ⟨u,hu,ru⟩:=rv.get (i:=i) (x:=V.bl bs[i]) (by rw [List.getElem?_map,hb]; rfl)
  rw [hv'] at hu
  cases hu
  cases ru
  refine wpAny_truthy_bool ?_
  have e : bs.getD i true = bs[i]:=by rw [List.getD_eq_getElem?_getD,hb]; rfl
  exact e ▸ hq
 ·intro h' tk kp
  have e : (List.range its.toArray.size).all (fun i=>bs.getD i true) = bs.all id:=by
   rw [List.size_toArray,hlen]
   clear q hS rv hz hlen pl
   induction bs with
   | nil=>rfl
   | cons b r ih =>
    rw [List.length_cons,List.range_succ_eq_map,List.all_cons,List.all_cons,<- ih,List.all_map]
    rfl
  rw [e]
  refine ⟨.bl _,H,?_,rfl,q⟩
  refine I.kept (h':=h') fun b o e=>kp b o ?_ (Heap.get?_push_of_some _ e)
  have lt : b < s.heap.objs.size:=Heap.lt_size e
  rw [List.mem_singleton]
  exact Nat.ne_of_lt lt
end
mutual
inductive Den (K : PySem.W.Frag) (H : Hp) : V->PyData->Prop
 | non : Den K H .non .none
 | bl (b : Bool) : Den K H (.bl b) (.bool b)
 | int (i : Int) : Den K H (.int i) (.int i)
 | str (x : Str) : Den K H (.str x) (.str x)
 | lst {a : Addr} {xs : List V} {ds : List PyData} : SqL K H a xs->DenAll K H xs ds->Den K H (.ref a) (.list ds)
 | tup {a : Addr} {xs : List V} {ds : List PyData} : SqT K H a xs->DenAll K H xs ds->Den K H (.ref a) (.tuple ds)
inductive DenAll (K : PySem.W.Frag) (H : Hp) : List V->List PyData->Prop
 | nil : DenAll K H [] []
 | cons {x : V} {xs : List V} {d : PyData} {ds : List PyData} : Den K H x d->DenAll K H xs ds->DenAll K H (x :: xs) (d :: ds)
end
section
variable {X : Cx} {pins : List (Addr × Obj)} {σ : St} {H : Hp} {s : Shared}
mutual
theorem Den.reads (I : Inv X pins σ H s) : ∀ {v : V} {d : PyData} {u : Value},Den X.K H v d->RelV v u->∃ as,Reads s.heap u d as
 | _,_,_,.non,r=>by cases r; exact ⟨_,.none⟩
 | _,_,_,.bl b,r=>by cases r; exact ⟨_,.bool b⟩
 | _,_,_,.int i,r=>by obtain ⟨t,rfl⟩:=r; exact ⟨_,.int i t⟩
 | _,_,_,.str x,r=>by obtain ⟨t,rfl⟩:=r; exact ⟨_,.str x t⟩
 | _,_,_,.lst hS ha,r=>by
  cases r
  obtain ⟨its,rv,⟨o,n,e,c,_,d⟩,_⟩:=I.list hS
  obtain ⟨as,ra⟩:=DenAll.reads I ha rv
  exact ⟨_,.list e c d (by simpa using ra)⟩
 | _,_,_,.tup hS ha,r=>by
  cases r
  obtain ⟨its,rv,⟨o,e,c,n,d⟩,_⟩:=I.tuple hS
  obtain ⟨as,ra⟩:=DenAll.reads I ha rv
  exact ⟨_,.tuple e c d (by simpa using ra)⟩
theorem DenAll.reads (I : Inv X pins σ H s) : ∀ {vs : List V} {ds : List PyData} {us : List Value},DenAll X.K H vs ds->Vals vs us->∃ as,ReadsAll s.heap us ds as
 | _,_,_,.nil,r=>by cases r; exact ⟨_,.nil⟩
 | _,_,_,.cons h t,r=>by
  cases r with
  | cons r1 r2 =>
   obtain ⟨as,ra⟩:=Den.reads I h r1
   obtain ⟨bs,rb⟩:=DenAll.reads I t r2
   exact ⟨_,.cons ra rb⟩
end
end
section
variable {X : Cx}
def rEqD (K : PySem.W.Frag) : R2:=fun x y H Q=>∃ da db,Den K H x da/\Den K H y db/\da.canLay0 = true/\db.canLay0 = true/\min da.depth db.depth <= 60/\Q (.bl (PyData.eqv da db)) H
def rNeD (K : PySem.W.Frag) : R2:=fun x y H Q=>∃ da db,Den K H x da/\Den K H y db/\da.canLay0 = true/\db.canLay0 = true/\min da.depth db.depth <= 60/\Q (.bl (!PyData.eqv da db)) H
theorem op_eqD {k : Nat} (hr : Room k X.A) : OpR X (compareOp .Eq) (rEqD X.K):=by
 intro pins s σ H x y v u Q I rx ry h
 obtain ⟨da,db,ha,hb,ca,cb,hd,q⟩:=h
 obtain ⟨as,ra⟩:=ha.reads I rx
 obtain ⟨bs,rb⟩:=hb.reads I ry
 have hu:=hr.units
 exact PySem.SeqAt.compareEq_reads ra rb ca cb (by omega) ⟨.bl _,H,I,rfl,q⟩
theorem op_neD {k : Nat} (hr : Room k X.A) : OpR X (compareOp .NotEq) (rNeD X.K):=by
 intro pins s σ H x y v u Q I rx ry h
 obtain ⟨da,db,ha,hb,ca,cb,hd,q⟩:=h
 obtain ⟨as,ra⟩:=ha.reads I rx
 obtain ⟨bs,rb⟩:=hb.reads I ry
 have hu:=hr.units
 exact PySem.SeqAt.compareNe_reads ra rb ca cb (by omega) ⟨.bl _,H,I,rfl,q⟩
def valOf : V->Value
 | .ref a=>.ref a
 | .ty n=>.type n
 | _=>.none
theorem call_isinst : CallR X (.builtin "isinstance") (fun xs H Q=>∃ x c t b,xs = [x,c]/\TyOf X.K H x t/\(c = .ref (match c with | .ref a=>a | _=>0) \/ ∃ n,c = .ty n)/\PySem.W.kitOne X.K t (valOf c) = some b/\Q (.bl b) H):=by
 intro pins s σ H xs us Q I r h
 obtain ⟨x,c,t,b,rfl,ty,hc,hk,q⟩:=h
 obtain ⟨u,w',rfl,rx,rc⟩:=vals2 r
 have e : w' = valOf c:=by
  cases c with
  | ref a=>exact rc
  | ty n=>exact rc
  | _=>rcases hc with z | ⟨n,z⟩ <;> cases z
 subst e
 exact isinst_ok I rx ty hk fun tk=>⟨.bl b,H,I.tok _,rfl,q⟩
end
end L2
set_option maxHeartbeats 4000000
namespace L2
open PySem PySem.W
section
variable {prog : Program} {w : World} {A : Around} {E : Value->Shared->Prop} {K : Frag} {x C : Addr} {ox : Obj} {od : Option Obj} {name : Str}
def foundGoes (prog : Program) (w : World) (A : Around) (x C : Addr) (Q : Value->Shared->Prop) (s : Shared) : Builtin.ObjectAttr.Found->Prop
 | .value v=>handedIn v = true/\Q v s
 | .bind g a=>wpAny (model prog w) A (call g [a,.ref x,.ref C]) (fun v s'=>handedIn v = true/\Q v s') (fun _ _=>False) s
 | .missing=>False
theorem exc_entry {s : Shared} {tk : Tok} {r : Builtin.ObjectAttr.Found} {Q : Value->Shared->Prop} (X : K.In s.heap) (I : InstAt s.heap x ox C od) (hf : findObj K C od name = some r) (h : foundGoes prog w A x C Q s r) :
  wpAny (model prog w) A (Builtin.«object.__getattribute__» ⟨[.ref x,.str name tk],[]⟩) (fun fin s'=>match fin with | .done (.ret v)=>handedIn v = true/\Q v s' | _=>False) (fun _ _=>False) s:=by
 obtain ⟨hh,g,d,t,os⟩:=s
 have L0:=I.type (M:=model prog w)
 have L1:=looks_find (M:=model prog w) X I hf
 unfold Builtin.«object.__getattribute__»
 refine wpAny_bind (wpAny_pure ?_)
 dsimp only
 refine wpAny_bind (wpAny_pure ?_)
 refine wpAny_bind (L0.at ?_)
 refine wpAny_bind (L1.at ?_)
 cases r with
 | value v=>exact wpAny_pure h
 | bind g a =>
  dsimp only
  unfold Builtin.ObjectAttr.bindTo
  exact wpAny_bind (wpAny_holding (wpAny_mono h (fun v s' q=>wpAny_pure q) fun _ _ z=>z))
 | missing=>exact False.elim h
theorem exc_call {s : Shared} {tk : Tok} {r : Builtin.ObjectAttr.Found} {Q : Value->Shared->Prop} (X : K.In s.heap) (I : InstAt s.heap x ox C od) (hm : mroIn K C (.type "BaseException") = some true) (hf : findObj K C od name = some r)
  (h : foundGoes prog w A.in1 x C Q s r) :
  wpAny (model prog w) A (call (.builtin "BaseException.__getattribute__") [.ref x,.str name tk]) (fun v s'=>handedIn v = true/\Q v s') (fun _ _=>False) s:=by
 have hk : builtinKind "BaseException.__getattribute__" = some .slot:=by decide +kernel
 have hsplit : splitId "BaseException.__getattribute__" = some ("BaseException", "__getattribute__"):=by decide +kernel
 have ha:=PySem.F.args_bexc_ga (.ref x) (.str name tk)
 have L0:=I.type (M:=model prog w)
 have L1:=looks_mroIn (M:=model prog w) X hm
 refine wpAny_call (codeAny_call_builtin PySem.F.attr_ValueError.ga.plain PySem.F.entry_bexc_ga ?_)
 simp only [checkBuiltinCall,hk,hsplit]
 refine wpAny_bind ?_
 unfold isInstance
 refine wpAny_bind (L0.here (L1.here ?_))
 rw [if_neg (by decide)]
 unfold argsOk at ha
 have go:=wpAny_mono (exc_entry (tk:=tk) X I hf h) (Q':=fun fin s'=>match fin with
  | .done f=>(match (Except.ok f : Result) with | .ok (.ret v)=>handedIn v = true/\Q v s' | .ok _=>False | .error _=>False)
  | .again c'=>c'.quiet = true/\codeAny (model prog w) A c' (fun r s'=>match r with | .ok (.ret v)=>handedIn v = true/\Q v s' | .ok _=>False | .error _=>False) s') (fun fin s' z=>by
   rcases fin with (_ | _ | _ | _) | _ <;> first | exact z | exact False.elim z) fun _ _ z=>z
 cases hs : Manifest.signature? "BaseException.__getattribute__" with
 | none=>exact wpAny_pure go
 | some sg =>
  rw [hs] at ha
  dsimp only at ha ⊢
  rw [ha]
  exact wpAny_pure go
theorem exc_by {s : Shared} {tk : Tok} {fill expr : Bool} {r : Builtin.ObjectAttr.Found} {Q : Value->Shared->Prop} (X : K.In s.heap) (I : InstAt s.heap x ox C od) (hm : mroIn K C (.type "BaseException") = some true) (hf : findObj K C od name = some r)
  (hga : findIn K (.ref C) "__getattribute__" = some (some (.builtin "BaseException.__getattribute__"))) (hgn : findIn K (.ref C) "__getattr__" = some none) (h : foundGoes prog w A.in1 x C Q s r) :
  wpAny (model prog w) A (getAttrBy (.ref x) (.str name tk) fill expr) Q E s:=by
 have L0:=I.type (M:=model prog w)
 have L1:=looks_findIn (M:=model prog w) X hga
 have L2:=looks_findIn (M:=model prog w) X hgn
 have hx2 : (Value.builtin "BaseException.__getattribute__" == Value.builtin "object.__getattribute__") = false:=by decide +kernel
 unfold getAttrBy
 refine wpAny_holding (wpAny_bind (L0.here (wpAny_bind (L1.here ?_))))
 dsimp only
 rw [hx2,Bool.and_false,if_neg (by decide)]
 unfold getAttrByItsOwn hookBefore
 rw [if_pos (show onTheHeap (Value.ref C) = true from rfl)]
 refine wpAny_bind (L2.here (wpAny_bind (wpAny_attempt (wpAny_holding ?_))))
 unfold callGetattribute
 rw [show (expr && onTheHeap (Value.builtin "BaseException.__getattribute__")) = false by cases expr <;> rfl,if_neg (by decide)]
 unfold boundAndCalled
 rw [PySem.F.attr_ValueError.ga.bind (.ref x)]
 refine wpAny_bind (wpAny_pure (wpAny_mono (exc_call X I hm hf h) ?_ fun _ _ z=>False.elim z))
 rintro v s' ⟨hv,q⟩
 exact handed_on hv q
theorem exc_attr {s : Shared} {expr : Bool} {r : Builtin.ObjectAttr.Found} {Q : Value->Shared->Prop} (X : K.In s.heap) (I : InstAt s.heap x ox C od) (hm : mroIn K C (.type "BaseException") = some true) (hf : findObj K C od name = some r)
  (hga : findIn K (.ref C) "__getattribute__" = some (some (.builtin "BaseException.__getattribute__"))) (hgn : findIn K (.ref C) "__getattr__" = some none) (h : foundGoes prog w A.in1 x C Q { s with toks:=s.toks + 1 } r) :
  wpAny (model prog w) A (getAttr (.ref x) name expr) Q E s:=by
 unfold getAttr
 exact wpAny_bind (wpAny_mkText (exc_by (s:={ s with toks:=s.toks + 1 }) X I hm hf hga hgn h))
theorem exc_attrQ {s : Shared} {r : Builtin.ObjectAttr.Found} {Q : Option Value->Shared->Prop} (X : K.In s.heap) (I : InstAt s.heap x ox C od) (hm : mroIn K C (.type "BaseException") = some true) (hf : findObj K C od name = some r)
  (hga : findIn K (.ref C) "__getattribute__" = some (some (.builtin "BaseException.__getattribute__"))) (hgn : findIn K (.ref C) "__getattr__" = some none) (h : foundGoes prog w A.in1 x C (fun v s'=>Q (some v) s') { s with toks:=s.toks + 1 } r) :
  wpAny (model prog w) A (getAttr? (.ref x) name) Q E s:=by
 unfold getAttr? getAttrBy?
 refine wpAny_bind (wpAny_mkText (wpAny_bind (wpAny_attempt (wpAny_mono (exc_by (E:=fun _ _=>False) (s:={ s with toks:=s.toks + 1 }) X I hm hf hga hgn h) ?_ fun _ _ z=>False.elim z))))
 intro v s' q
 exact wpAny_pure q
theorem exc_class {s : Shared} {Q : Option Value->Shared->Prop} (X : K.In s.heap) (I : InstAt s.heap x ox C od) (hm : mroIn K C (.type "BaseException") = some true) (hmo : mroIn K C (.type "object") = some true)
  (hga : findIn K (.ref C) "__getattribute__" = some (some (.builtin "BaseException.__getattribute__"))) (hgn : findIn K (.ref C) "__getattr__" = some none) (hdct : (clsIn K C).isSome = true)
  (ha : findIn K (.ref C) "__class__" = some (some (.builtin "object.__class__"))) (hn : specialIn K (.builtin "object.__class__") "__get__" = some (some (.builtin "getset_descriptor.__get__"))) (htk : takesIn K (.builtin "object.__class__") = some true)
  (q : Q (some (.ref C)) { s with toks:=s.toks + 1 }) : wpAny (model prog w) A (getAttr? (.ref x) "__class__") Q E s:=by
 have hf : findObj K C od "__class__" = some (.bind (.builtin "getset_descriptor.__get__") (.builtin "object.__class__")):=by
  obtain ⟨cd,hcd⟩:=Option.isSome_iff_exists.mp hdct
  unfold findObj
  rw [hcd,Option.bind_some,ha,Option.bind_some]
  simp [hn,htk]
 exact exc_attrQ X I hm hf hga hgn (wpAny_call (class_get (s:={ s with toks:=s.toks + 1 }) X I hmo ⟨rfl,q⟩))
end
end L2
set_option maxHeartbeats 4000000
namespace L2
open PySem PySem.Spec PyProof.Rows
structure ExcK (K : PySem.W.Frag) (C : Addr) : Prop where
 hm : PySem.W.mroIn K C (.type "BaseException") = some true
 hmo : PySem.W.mroIn K C (.type "object") = some true
 hga : PySem.W.findIn K (.ref C) "__getattribute__" = some (some (.builtin "BaseException.__getattribute__"))
 hgn : PySem.W.findIn K (.ref C) "__getattr__" = some none
 hc : (PySem.W.clsIn K C).isSome = true
 ha : PySem.W.findIn K (.ref C) "__class__" = some (some (.builtin "object.__class__"))
 hn : PySem.W.specialIn K (.builtin "object.__class__") "__get__" = some (some (.builtin "getset_descriptor.__get__"))
 ht : PySem.W.takesIn K (.builtin "object.__class__") = some true
theorem kitx_exc {K : PySem.W.Frag} {x C : Addr} (k : ExcK K C) : PySem.W.KitX K (.ref x) (.ref C) (fun h=>∃ ox od,PySem.W.InstAt h x ox C od) where
 ty:=fun _ _ _ ⟨_,_,I⟩=>I.type
 it:=fun _ _ X _=>by
  obtain ⟨cd,hcd⟩:=Option.isSome_iff_exists.mp k.hc
  unfold PySem.W.clsIn at hcd
  split at hcd
  ·rename_i c2 d2 cd2 sl2 ho
   intro A Q E s kp q
   unfold isType loadHead
   exact wpAny_bind (wpAny_loadPart (kp _ _ (X _ _ ho)) (wpAny_pure q))
  ·cases hcd
 ne:=fun h tp dd its n sl X htp=>by
  obtain ⟨cd,hcd⟩:=Option.isSome_iff_exists.mp k.hc
  refine Bool.eq_false_iff.mpr fun q=>?_
  have e : C = tp:=Value.ref.inj (beq_iff_eq.mp q)
  subst e
  unfold PySem.W.clsIn at hcd
  split at hcd
  ·rename_i c2 d2 cd2 sl2 ho
   have z:=(X _ _ ho).symm.trans htp
   cases z
  ·cases hcd
 ca:=fun X ⟨_,_,I⟩ q=>exc_class X I k.hm k.hmo k.hga k.hgn k.hc k.ha k.hn k.ht q
section
variable {X : Cx}
end
end L2
set_option maxHeartbeats 4000000
namespace L2
open PySem PySem.Spec PyProof.Rows
theorem Same.new {H : Hp} {p : Addr} (h : H p = none) (o : HO) : Same H (upd H p o):=fun b u q=>by rw [upd_ne (ne_of_none q h)]; exact q
theorem comp_pure {J : It} {xs ys : List V} {H : Hp} {cap : St} {te : TE} {Q : VK} (hn : xs.length <= sizeLine) (hl : ys.length = xs.length)
  (go : ∀ i H',Same H H'->i < xs.length->J.go i H') (yld : ∀ i H' x H'',Same H H'->i < xs.length->J.yld i H' x H''->H'' = H'/\xs[i]? = some x) (stop : ∀ H',Same H H'->J.stop xs.length H')
  (el : ∀ (i : Nat) x y H' (P : VK),Same H H'->xs[i]? = some x->ys[i]? = some y->(∀ H'',Same H' H''->P y H'')->te (some x :: cap) H' P) (fin : ∀ D H',Same H H'->H' D = some (.lst ys)->Q (.ref D) H') :
  Comped J cap te Q H:=by
 intro D hD
 refine ⟨fun i m zs H2=>m = xs.length - i/\i <= xs.length/\zs = ys.take i/\H2 D = some (.lst zs)/\Same H H2,⟨xs.length,rfl,Nat.zero_le _,by simp,upd_same,Same.new hD _⟩,?_⟩
 rintro i m zs H2 ⟨rfl,hi,hz,hDz,hS⟩
 refine ⟨hDz,?_⟩
 by_cases h : i < xs.length
 ·refine .inr ⟨go i H2 hS h,?_⟩
  intro x H3 hy
  obtain ⟨rfl,hx⟩:=yld i H2 x H3 hS h hy
  obtain ⟨yv,hyi⟩ : ∃ yv,ys[i]? = some yv:=⟨ys[i]'(by omega),List.getElem?_eq_getElem (by omega)⟩
  have hzl : zs.length = i:=by rw [hz,List.length_take]; omega
  refine el i x yv H3 _ hS hx hyi fun H4 hS4=>⟨hS4 _ _ hDz,by omega,xs.length - (i + 1),by omega,rfl,h,?_,upd_same,fun b u q=>?_⟩
  ·rw [hz,List.take_add_one,hyi]
   rfl
  ·rw [upd_ne (ne_of_none q hD)]
   exact hS4 _ _ (hS _ _ q)
 ·have e : i = xs.length:=by omega
  subst e
  refine .inl ⟨stop H2 hS,fin D H2 hS ?_⟩
  rw [hDz,hz,List.take_of_length_le (by omega)]
theorem comp_range {lo : Int} {n : Nat} {H : Hp} {cap : St} {te : TE} {Q : VK} (f : Nat->V) (hn : n <= sizeLine)
  (el : ∀ (i : Nat) H' (P : VK),i < n->Same H H'->(∀ H'',Same H' H''->P (f i) H'')->te (some (.int (lo + i)) :: cap) H' P) (fin : ∀ D H',Same H H'->H' D = some (.lst ((List.range n).map f))->Q (.ref D) H') :
  Comped (Itr lo n) cap te Q H:=by
 have hlen : ((List.range n).map fun (i : Nat)=>V.int (lo + i)).length = n:=by rw [List.length_map,List.length_range]
 refine comp_pure (xs:=(List.range n).map fun (i : Nat)=>V.int (lo + i)) (ys:=(List.range n).map f) (by rw [hlen]; exact hn) (by rw [List.length_map,List.length_map]) ?_ ?_ ?_ ?_ fin
 ·intro i H' _ h
  rw [hlen] at h
  exact h
 ·rintro i H' y H'' _ h ⟨rfl,rfl⟩
  refine ⟨rfl,?_⟩
  rw [hlen] at h
  rw [List.getElem?_map,List.getElem?_range h]
  rfl
 ·intro H' _
  rw [hlen]
  exact Nat.le_refl _
 ·intro i y z H' P hS h1 h2 hP
  rw [List.getElem?_map] at h1 h2
  cases hc : (List.range n)[i]? with
  | none=>rw [hc] at h1; cases h1
  | some c =>
   obtain ⟨h3,h4⟩:=List.getElem?_eq_some_iff.mp hc
   rw [hc] at h1 h2
   rw [List.getElem_range] at h4
   subst h4
   cases h1
   cases h2
   rw [List.length_range] at h3
   exact el i H' P h3 hS hP
end L2
namespace L2
open PySem PySem.Spec PyProof.Rows
def ClIn (env : Env) : List (Str × Addr)->Prop
 | []=>True
 | p :: r=>env.cells.lookup p.1 = some p.2/\ClIn env r
theorem ClIn.mem {env : Env} : ∀ {cl : List (Str × Addr)} {p : Str × Addr},ClIn env cl->p ∈ cl->env.cells.lookup p.1 = some p.2
 | [],_,_,h=>by cases h
 | q :: r,p,k,h=>by
  rcases List.mem_cons.mp h with z | z
  ·subst z; exact k.1
  ·exact ClIn.mem k.2 z
theorem pe_compR {X : Cx} {x : Str} {px pos : Pos} {elt iter : Expr} {sc : Scope} {wi : TI} {te : TE} (ys : List Str) (js : List Nat) (cl : List (Str × Addr)) (hclos : closureFor sc X.env = pure cl) (hcap : Caps X sc cl ys js) (hin : ClIn X.env cl)
  (hi : PI X.nox (.Name x px) iter wi) (he : ∀ s2 H2 C ex,PE (compCx X sc (x :: ys) cl s2 H2 C ex) elt te) (hc : X.calm = true:=by rfl)
  (hcell : (sc.names.all fun p=>p.2 != NameKind.cell) = true:=by rfl) (hkind : sc.kind = .function:=by rfl) (hnames : (sc.names.all fun p=>p.2 != NameKind.local || sc.names.lookup p.1 == some NameKind.local) = true:=by rfl)
  (hx : (relabel sc X.env).names.lookup x = some .local:=by rfl) (hhas : ((relabel sc X.env).names.all fun p=>p.2 == NameKind.local || p.2 == NameKind.globalImplicit || (cl.lookup p.1).isSome) = true:=by rfl)
  (hnd : (x :: ys).Nodup:=by decide +kernel) (hs : ∀ v,foldedSetIterable iter X.env v = pure v:=by intro _; rfl) : PE X (.ListComp elt [⟨.Name x px,iter,[],0⟩] sc pos) (tComp wi js te):=by
 refine pe_comp hclos (fun y hy z=>?_) hkind (fun y hy z=>?_) hx hcap (fun y c e=>hin.mem (PySem.mem_of_lookup e)) (fun y h=>?_) hnd hc hi he hs
 ·have:=List.all_eq_true.mp hcell y hy
  rw [z] at this
  exact absurd this (by decide)
 ·have:=List.all_eq_true.mp hnames y hy
  rw [z] at this
  simpa using this
 ·have hm : ∃ k,(y,k) ∈ (relabel sc X.env).names/\(k = .cell \/ k = .free):=by
   rcases h with h | h
   ·exact ⟨_,PySem.mem_of_lookup h,.inl rfl⟩
   ·exact ⟨_,PySem.mem_of_lookup h,.inr rfl⟩
  obtain ⟨k,hk,hz⟩:=hm
  have:=List.all_eq_true.mp hhas _ hk
  rcases hz with rfl | rfl
  ·exact Option.isSome_iff_exists.mp (by simpa using this)
  ·exact Option.isSome_iff_exists.mp (by simpa using this)
end L2
set_option maxHeartbeats 4000000
namespace L2
open PySem PySem.Spec PyProof.Rows
def Def (P : Program) (w : World) (K : PySem.W.Frag) (mg : Str->Option Value) (base : Heap) (CX : CXT) (x : Str) (k : Nat) (ps : List Str) (sp : Sp) : Prop :=
 ∃ f fd,FnOk P w K mg base CX k f fd ps sp/\Binds K fd ps []/\PySem.W.keepIn K (.ref f) = true/\mg x = some (.ref f)
section
variable {X : Cx} {CX : CXT} {j k : Nat} {ps : List Str} {sp : Sp} {E : XK} {x : Str} {p pos : Pos} {e : Expr} {es : List Expr} {t : TA}
theorem pe_callD (D : Def X.prog X.w X.K X.mg X.base CX x j ps sp) (hr : Room k X.A) (hx : Passes CX X E) (ha : PA X (e :: es) t) (hj : j <= k:=by decide) (hg : Gl X x:=by rfl)
  (hdb : (x == ("__debug__" : Str)) = false:=by decide) (he : starEach (e :: es) X.env = (false,eval e X.env) :: starEach es X.env:=by rfl) (hpl : (backTo pos (starEach es X.env)).any (·.1) = false:=by rfl) :
  PE X (.Call (.Name x p) (e :: es) [] pos) (tCall sp [] E t):=by
 obtain ⟨f,fd,F,b,kk,m⟩:=D
 exact pe_call F (hr.mono hj) hg m kk b .nil hx ha hdb he hpl
theorem pex_callD (D : Def X.prog X.w X.K X.mg X.base (CX1 X.prog X.w) x j ps sp) (hr : Room k X.A) (ha : PA X.nox (e :: es) t) (hj : j <= k:=by decide) (hg : Gl X x:=by rfl)
  (hdb : (x == ("__debug__" : Str)) = false:=by decide) (he : starEach (e :: es) X.env = (false,eval e X.env) :: starEach es X.env:=by rfl) (hpl : (backTo pos (starEach es X.env)).any (·.1) = false:=by rfl) :
  PEX X (.Call (.Name x p) (e :: es) [] pos) (tCallX sp [] t):=by
 obtain ⟨f,fd,F,b,kk,m⟩:=D
 exact pex_call F (hr.mono hj) hg m kk b .nil ha hdb he hpl
def tCut (t : TS) : TS:=fun D σ H=>∃ P : St->Hp->Prop,t { D with nx:=P } σ H/\∀ σ' H',P σ' H'->D.nx σ' H'
theorem ps_cut {st : Stmt} {t : TS} (h : PS X st t) : PS X st (tCut t):=by
 rintro pins s σ H D I ⟨P,hp,hq⟩
 refine thn (h pins s σ H _ I hp) fun f s' q=>?_
 cases f with
 | next =>
  obtain ⟨σ',H',I',q⟩:=q
  exact ⟨σ',H',I',hq _ _ q⟩
 | brk=>exact q
 | cont=>exact q
 | ret v=>exact q
def tCutE (t : TE) : TE:=fun σ H Q=>∃ P : VK,t σ H P/\∀ v H',P v H'->Q v H'
end
end L2
set_option maxHeartbeats 4000000
namespace L2
open PySem PySem.Spec PyProof.Rows
def FunIn (K : PySem.W.Frag) (x : Str) (st : Stmt) : Prop:=∃ f fd,PySem.W.nsIn K mainGlobals x = some (some (.ref f))/\Fun K x x st f fd
theorem funIn_mk {K : PySem.W.Frag} {x : Str} {st : Stmt} {f : Addr} {oc : Value} {od an : Option Addr} {osl : Array (Option Value)} {kV doc pm cdv ct : Value} (a : PySem.W.nsIn K mainGlobals x = some (some (.ref f)))
  (l : K.lookup f = some ⟨oc,od,.func (PySem.W.fnOf x x (defArgs st) (defBody st) (defScope st) .none kV doc pm an cdv ct),osl⟩) (c : PySem.W.codeIn K cdv x = true) (k : PySem.W.keepIn K (.ref f) = true) : FunIn K x st :=
 ⟨f,_,a,fun_mk l c k⟩
theorem Def.of {P : Program} {w : World} {K : PySem.W.Frag} {mg : Str->Option Value} {base h : Heap} {CX : CXT} {x : Str} {k : Nat} {ps : List Str} {sp : Sp} {st : Stmt} (X : K.In h) (G : h.Ns mainGlobals mg) (FI : FunIn K x st)
  (ok : ∀ f fd,Fun K x x st f fd->FnOk P w K mg base CX k f fd ps sp)
  (hb : ∀ (kV doc pm : Value) (an : Option Addr) (cdv ct : Value) (us : List Value),us.length = ps.length->bindArgs (PySem.W.fnOf x x (defArgs st) (defBody st) (defScope st) .none kV doc pm an cdv ct) ⟨us,[]⟩ = pure (ps.zip us)) :
  Def P w K mg base CX x k ps sp:=by
 obtain ⟨f,fd,a,F⟩:=FI
 exact ⟨f,fd,ok f fd F,F.binds hb,F.kp,PySem.W.mg_of X G a⟩
end L2
set_option maxHeartbeats 4000000
namespace L2
open PySem PySem.W Builtin Builtin.ObjectAttr
def onlyVE : List Value->Bool
 | .ref _ :: r=>onlyVE r
 | l=>l == [.type "ValueError",.type "Exception",.type "BaseException",.type "object"]
theorem onlyVE_nil : onlyVE [] = false:=by decide
theorem onlyVE_other {v : Value} {r : List Value} (h : ∀ c,v ≠ .ref c) (e : onlyVE (v :: r) = true) : v :: r = [.type "ValueError",.type "Exception",.type "BaseException",.type "object"]:=by
 have z : onlyVE (v :: r) = (v :: r == [.type "ValueError",.type "Exception",.type "BaseException",.type "object"]):=by
  cases v <;> first | rfl | exact absurd rfl (h _)
 rw [z] at e
 exact beq_iff_eq.mp e
theorem refuse_VE (self : Value) : ∀ {l : List Value},onlyVE l = true->refuseLoop self "__setattr__" l = pure ()
 | [],e=>by rw [onlyVE_nil] at e; cases e
 | v :: r,e=>by
  by_cases h : ∃ c,v = .ref c
  ·obtain ⟨c,rfl⟩:=h
   rw [refuseLoop_ref]
   exact refuse_VE self (l:=r) e
  ·rw [onlyVE_other (fun c z=>h ⟨c,z⟩) e]
   exact PySem.F.store_ValueError.passes self
theorem has_VE : ∀ {l : List Value},onlyVE l = true->l.contains (.type "object") = true
 | [],e=>by rw [onlyVE_nil] at e; cases e
 | v :: r,e=>by
  by_cases h : ∃ c,v = .ref c
  ·obtain ⟨c,rfl⟩:=h
   rw [List.contains_cons,has_VE (l:=r) e,Bool.or_true]
  ·rw [onlyVE_other (fun c z=>h ⟨c,z⟩) e]
   decide
section
variable {prog : Program} {w : World} {A : Around} {E : Value->Shared->Prop} {K : Frag} {x C : Addr} {ox : Obj} {od : Option Obj} {name : Str} {s : Shared} {cd : ClassData} {v : Value} {R : Result->Shared->Prop}
theorem osa_exc {tk : Tok} (X : K.In s.heap) (I : InstAt s.heap x ox C od) (hc : clsIn K C = some cd) (ho : onlyVE cd.mro = true) (ht : takerIn K C name = some none)
  (h : ∀ b,wpAny (model prog w) A.in1 (storeInOwnDict (.ref x) (.ref C) (.str name tk) name v b)
   (fun fin s'=>match fin with | .done f=>R (.ok f) s' | .again c'=>c'.quiet = true/\codeAny (model prog w) A c' R s') (fun e s'=>R (.error e) s') s) :
  codeAny (model prog w) A (.call (.builtin "object.__setattr__") ⟨[.ref x,.str name tk,v],[]⟩) R s:=by
 have SF:=PySem.F.store_object
 have ne : cd.mro.isEmpty = false:=by cases q : cd.mro with | nil=>rw [q,onlyVE_nil] at ho; cases ho | cons _ _=>rfl
 have sub : Looks (model prog w) s.heap (isInstance (.ref x) (.type "object")) true:=I.type.andThen (looks_mroIn X (by unfold mroIn; rw [hc,Option.bind_some,if_neg (by rw [ne]; decide),has_VE ho]))
 refine codeAny_call_builtin SF.slot.plain SF.entry (@check_slot (model prog w) _ _ s "object.__setattr__" "object" "__setattr__" (.ref x) [.str name tk,v] [] _ SF.kind SF.split sub (SF.args (.ref x) (.str name tk) v) ?_)
 obtain ⟨attr,ha,hr⟩:=Option.bind_eq_some_iff.mp ht
 have hm : Looks (model prog w) s.heap (mroOf (.ref C)) cd.mro:=(looks_clsIn X hc).andThen .now
 have L3 : Looks (model prog w) s.heap (storeTaker? attr) none:=by
  cases attr with
  | none=>exact .now
  | some a =>
   obtain ⟨b,hb,e⟩:=Option.map_eq_some_iff.mp hr
   refine (looks_takesIn X hb).andThen ?_
   cases b with
   | true=>cases e
   | false=>exact .now
 rw [osa_eq,refuse_eq]
 refine wpAny_bind (wpAny_bind (I.type.here (wpAny_bind (hm.here ?_))))
 rw [refuse_VE _ ho]
 refine wpAny_pure (wpAny_bind (I.type.here (wpAny_bind ((looks_findIn X ha).here (wpAny_bind (L3.here ?_))))))
 exact h _
theorem exc_set_new {ws : Array Value} {Q : Unit->Shared->Prop} (X : K.In s.heap) (I : InstAt s.heap x ox C od) (hc : clsIn K C = some cd) (ho : onlyVE cd.mro = true) (ht : takerIn K C name = some none)
  (hs : findIn K (.ref C) "__setattr__" = some (some (.builtin "object.__setattr__"))) (hdd : cd.hasDict = true) (hn : ox.dict = none) (hf : ox.data = .fields ws)
  (h : ∀ h',h'.get? x = some { ox with dict:=some s.heap.objs.size }->h'.Ns1 s.heap.objs.size (fun y=>if y = name then some v else none) ->
   (∀ b o,b ≠ x->s.heap.get? b = some o->h'.get? b = some o)->Q () { s with heap:=h',toks:=s.toks + 2 }) :
  wpAny (model prog w) A (setAttr (.ref x) name v) Q E s:=by
 refine PySem.W.set_plain X I hs (osa_exc (s:={ s with toks:=s.toks + 1 }) X I hc ho ht fun b=>?_)
 obtain ⟨hx,hcl,_,_⟩:=I
 have hxs : x ≠ s.heap.objs.size:=Nat.ne_of_lt (Heap.lt_size hx)
 unfold storeInOwnDict ownStreamTells
 refine wpAny_bind (wpAny_pure ?_)
 rw [if_neg (by intro z; cases (beq_iff_eq.mp z))]
 refine wpAny_bind ?_
 unfold ownDictForStores instanceDict
 refine wpAny_bind (wpAny_loadPart hx ?_)
 rw [hcl]
 dsimp only
 refine wpAny_bind (Looks.here (s:={ s with toks:=s.toks + 1 }) (looks_clsIn X hc) ?_)
 rw [hdd,hn,hf]
 dsimp only
 rw [if_neg (by decide),if_neg (show ¬ ((!true || !typeHasDict (Value.ref C)) = true) by simp [typeHasDict])]
 have hx1 : (s.heap.push { cls:=.type "dict",data:=.dict #[] }).get? x = some ox:=Heap.get?_push_of_some _ hx
 refine wpAny_bind (wpAny_alloc' ?_)
 refine wpAny_bind (wpAny_update' hx1 ?_)
 refine wpAny_pure ?_
 have hgd : ((s.heap.push { cls:=.type "dict",data:=.dict #[] }).update x fun o=>{ cls:=o.cls,dict:=some s.heap.objs.size,data:=o.data,slots:=o.slots }).get? s.heap.objs.size = some { cls:=.type "dict",data:=.dict #[] } :=
  (Heap.get?_update_ne _ _ _ _ hxs.symm).trans (Heap.get?_push_at rfl rfl)
 have hnd : ((s.heap.push { cls:=.type "dict",data:=.dict #[] }).update x fun o=>{ cls:=o.cls,dict:=some s.heap.objs.size,data:=o.data,slots:=o.slots }).Ns s.heap.objs.size (fun _=>none) :=
  ⟨_,#[],_,hgd,rfl,fun e he=>absurd he (by simp),fun _=>rfl⟩
 show wpAny _ _ (storeInDict s.heap.objs.size (.str name _) name v) _ _ _
 unfold storeInDict newKeyGuard
 refine wpAny_bind (wpAny_pure (wpAny_bind (wpAny_nsSet1 (Heap.Ns1.of_empty hnd) fun h' hn' hs'=>?_)))
 obtain ⟨oD,esD,epD,hoD,hdD,hcD⟩:=hn'.count (Within.cons name v Within.nil)
 refine wpAny_bind (wpAny_lookBehind hoD (by rw [hdD]; exact pastItsLine_dict (Nat.le_trans hcD (by rw [List.length_cons,List.length_nil,sizeLine_eq]; omega))) ?_)
 refine wpAny_pure (h h' ?_ hn' fun b ob hbx hb=>?_)
 ·refine (hs'.2 x hxs).trans (Heap.get?_update_self _ hx1 ?_)
  exact Obj.isFreed_of_fields (o:={ ox with dict:=some s.heap.objs.size }) (by exact hf)
 ·exact (hs'.2 b (Nat.ne_of_lt (Heap.lt_size hb))).trans ((Heap.get?_update_ne _ _ _ _ hbx).trans (Heap.get?_push_of_some _ hb))
theorem exc_set_old {dx : Addr} {mA : Str->Option Value} {ns : List Str} {Q : Unit->Shared->Prop} (X : K.In s.heap) (I : InstAt s.heap x ox C od) (hc : clsIn K C = some cd) (ho : onlyVE cd.mro = true) (ht : takerIn K C name = some none)
  (hs : findIn K (.ref C) "__setattr__" = some (some (.builtin "object.__setattr__"))) (hdd : cd.hasDict = true) (hn : ox.dict = some dx) (hm : s.heap.Ns1 dx mA) (hw : PySem.Within mA ns) (hsz : ns.length <= 1000)
  (h : ∀ h',h'.Ns1 dx (fun y=>if y = name then some v else mA y)->Heap.SameBut dx s.heap h'->Q () { s with heap:=h',toks:=s.toks + 2 }) :
  wpAny (model prog w) A (setAttr (.ref x) name v) Q E s:=by
 refine PySem.W.set_plain X I hs (osa_exc (s:={ s with toks:=s.toks + 1 }) X I hc ho ht fun b=>?_)
 obtain ⟨hx,hcl,_,_⟩:=I
 unfold storeInOwnDict ownStreamTells
 refine wpAny_bind (wpAny_pure ?_)
 rw [if_neg (by intro z; cases (beq_iff_eq.mp z))]
 refine wpAny_bind ?_
 unfold ownDictForStores instanceDict
 refine wpAny_bind (wpAny_loadPart hx ?_)
 rw [hcl]
 dsimp only
 refine wpAny_bind (Looks.here (s:={ s with toks:=s.toks + 1 }) (looks_clsIn X hc) ?_)
 rw [hdd,hn]
 dsimp only
 rw [if_neg (by decide)]
 refine wpAny_pure ?_
 show wpAny _ _ (storeInDict dx (.str name _) name v) _ _ _
 unfold storeInDict newKeyGuard
 refine wpAny_bind (wpAny_pure (wpAny_bind (wpAny_nsSet1 hm fun h' hn' hs'=>?_)))
 obtain ⟨oD,esD,epD,hoD,hdD,hcD⟩:=hn'.count (Within.cons name v hw)
 refine wpAny_bind (wpAny_lookBehind hoD (by rw [hdD]; exact pastItsLine_dict (Nat.le_trans hcD (by rw [List.length_cons,sizeLine_eq]; omega))) ?_)
 exact wpAny_pure (h h' hn' hs')
end
end L2
set_option maxHeartbeats 4000000
namespace L2
open PySem PySem.W
section
variable {prog : Program} {w : World} {A : Around} {E : Value->Shared->Prop} {h : Heap} {g : Array GenState} {d : Drawn} {t : Nat} {os : OsState}
variable {nm q : Str} {C N fI : Addr} {bs bm bmB : List Value} {hdct : Bool} {sn : List Str} {sub : List Value} {ab : Bool} {col : Option Bool} {dd : Option Addr} {k0 k1 k2 k3 k5 : Option Value} {B Bn newId nid initId inN : String} {bmN : List Value} {K : Frag}
abbrev excObj (C t : Addr) : Obj:={ cls:=.ref C,data:=.fields #[.ref t,.none,.none,.none,.bool false,.none] }
abbrev excObjD (C t : Addr) (dO : Option Addr) : Obj:={ cls:=.ref C,dict:=dO,data:=.fields #[.ref t,.none,.none,.none,.bool false,.none] }
abbrev excHeap (h : Heap) (C : Addr) (rest : List Value) : Heap:=(h.push { cls:=.type "tuple",data:=.seq rest.toArray }).push (excObj C h.objs.size)
theorem type_call_init (Fn : ExcBaseFacts Bn newId inN bmN) (hBn : bmB.contains (.type Bn) = true) (F : ExcBaseFacts B nid initId bmB) (T : OwnTail h bmB bm) {rest : List Value} {Q : Fin->Shared->Prop} (X : K.In h)
  (hC : h.get? C = some (excClassObj nm q C N bs bm hdct sn sub ab col dd k0 k1 k2 k3 k5 newId)) (hi : findIn K (.ref C) "__init__" = some (some (.ref fI))) (hf : typeIn K (.ref fI) = some (.type "function"))
  (hq : wpAny (model prog w) A (call (.ref fI) (.ref (h.objs.size + 1) :: rest)) (fun v s'=>v = .none/\Q (.done (.ret (.ref (h.objs.size + 1)))) s') E ⟨excHeap h C rest,g,d,t,os⟩) (hrest : rest.length <= sizeLine) :
  wpAny (model prog w) A (Builtin.«type.__call__» ⟨.ref C :: rest,[]⟩) Q E ⟨h,g,d,t,os⟩:=by
 repeat (first | with_reducible refine wpAny_loadPart_at hC ?_ | with_reducible refine wpAny_madeBy_exc hC ?_ | wp_step)
 refine codeAny_call_builtin_code (Code.quiet_builtin _ Fn.quiet) (wpAny_check_new_subU Fn hBn T hC ?_)
 refine codeAny_exc_new_subU Fn hBn F T hC ?_ hrest
 show wpAny _ _ _ _ _ _
 have hC₁:=Heap.get?_push_of_some { cls:=.ref C,data:=.fields #[.ref h.objs.size,.none,.none,.none,.bool false,.none] }
  (Heap.get?_push_of_some { cls:=.type "tuple",data:=.seq rest.toArray } hC)
 have hget : ((h.push { cls:=.type "tuple",data:=.seq rest.toArray }).push
   { cls:=.ref C,data:=.fields #[.ref h.objs.size,.none,.none,.none,.bool false,.none] }).get? (h.objs.size + 1) = some
   { cls:=.ref C,data:=.fields #[.ref h.objs.size,.none,.none,.none,.bool false,.none] }:=by heap_get
 have hcC : (Value.ref C :: bm).contains (.ref C) = true:=by simp
 have X₁ : K.In (excHeap h C rest):=X.keeps fun b o e=>Heap.get?_push_of_some _ (Heap.get?_push_of_some _ e)
 unfold isInstance
 repeat (first | with_reducible refine wpAny_loadPart_at hget ?_ | (with_reducible refine wpAny_isSubtype_exc hC₁ ?_; rw [hcC]) | wp_step)
 show wpAny _ _ (typeLookup (.ref C) _) _ _ _
 refine (looks_findIn X₁ hi).at ?_
 refine wpAny_holding (wpAny_bind ((bind_fn X₁ _ hf).at ?_))
 refine wpAny_bind (wpAny_mono hq ?_ fun _ _ z=>z)
 rintro v s' ⟨rfl,z⟩
 wp_walk
 exact z
theorem call_init (Fn : ExcBaseFacts Bn newId inN bmN) (hBn : bmB.contains (.type Bn) = true) (F : ExcBaseFacts B nid initId bmB) (T : OwnTail h bmB bm) {rest : List Value} {Q : Value->Shared->Prop} (X : K.In h)
  (hC : h.get? C = some (excClassObj nm q C N bs bm hdct sn sub ab col dd k0 k1 k2 k3 k5 newId)) (hi : findIn K (.ref C) "__init__" = some (some (.ref fI))) (hf : typeIn K (.ref fI) = some (.type "function"))
  (hq : wpAny (model prog w) (A.under (.builtin "type.__call__" ⟨.ref C :: rest,[]⟩)) (call (.ref fI) (.ref (h.objs.size + 1) :: rest)) (fun v s'=>v = .none/\Q (.ref (h.objs.size + 1)) s') E ⟨excHeap h C rest,g,d,t,os⟩) (hrest : rest.length <= sizeLine) :
  wpAny (model prog w) A (call (.ref C) rest) Q E ⟨h,g,d,t,os⟩:=by
 have f1:=tc_lookup
 have f2:=tc_bind (.ref C)
 have hT : (⟨h,g,d,t,os⟩ : Shared).TypeIs (.ref C) "type":=⟨_,hC,rfl⟩
 refine wpAny_call (codeAny_of_tree ?_)
 show wpAny _ _ (callAny (.ref C) _) _ _ _
 repeat (any_goals (first | assumption | with_reducible refine wpAny_loadPart_at hC ?_ | wp_step))
 refine ⟨rfl,?_⟩
 refine codeAny_call_builtin_at (Code.quiet_builtin _ (by decide +kernel)) entry_typeCall (wpAny_check_type_call_sub hC (type_call_init Fn hBn F T X hC hi hf ?_ hrest))
 exact hq
end
section
variable {prog : Program} {w : World} {A : Around} {E : Value->Shared->Prop} {s : Shared} {env : Env}
variable {nm q : Str} {C N fI : Addr} {bs bm bmB : List Value} {hdct : Bool} {sn : List Str} {sub : List Value} {ab : Bool} {col : Option Bool} {dd : Option Addr} {k0 k1 k2 k3 k5 : Option Value} {B Bn newId nid initId inN : String} {bmN : List Value} {K : Frag}
theorem raiseStmt_any {M : Model} {x : Sem Value} {Q : Flow->Shared->Prop} (hbase : bm.contains (.type "BaseException") = true) (hh : A.handled = none)
  (h : wpAny M A x (fun v s₁=>∃ e t dO,v = .ref e/\s₁.heap.get? C = some (excClassObj nm q C N bs bm hdct sn sub ab col dd k0 k1 k2 k3 k5 newId)/\s₁.heap.get? e = some (excObjD C t dO)/\E (.ref e) s₁) E s) :
  wpAny M A (raiseStmt env (some x) none) Q E s:=by
 have hcB : (Value.ref C :: bm).contains (.type "BaseException") = true:=by rw [List.contains_cons,hbase,Bool.or_true]
 unfold raiseStmt
 refine wpAny_bind (wpAny_mono h (fun v s₁ h₁=>?_) fun _ _ x=>x)
 obtain ⟨e,t,dO,rfl,hC,he,hE⟩:=h₁
 obtain ⟨hp,g,d,tk,os⟩:=s₁
 repeat (first | with_reducible refine wpAny_loadPart_at he ?_ | with_reducible refine wpAny_loadPart_at hC ?_ | (with_reducible refine wpAny_isSubtype_exc hC ?_; rw [hcB]) | wp_step)
 exact wpAny_raiseNew_none hh hE
theorem Raise_init (Fn : ExcBaseFacts Bn newId inN bmN) (hBn : bmB.contains (.type Bn) = true) (F : ExcBaseFacts B nid initId bmB) {x : Str} {np cpos pos : Pos} {args : List Expr} {Q : Flow->Shared->Prop}
  (hbase : bm.contains (.type "BaseException") = true) (hh : A.handled = none) (hplain : (backTo cpos (starEach args env)).any (·.1) = false) (hi : findIn K (.ref C) "__init__" = some (some (.ref fI))) (hf : typeIn K (.ref fI) = some (.type "function"))
  (h : wpAny (model prog w) A (eval (.Name x np) env) (fun f s₁=>f = .ref C/\wpAny (model prog w) A (evalArgs (.ref C) true (backTo cpos (starEach args env)) [])
   (fun a s₂=>a.kw = []/\a.pos.length <= sizeLine/\s₂.heap.get? C = some (excClassObj nm q C N bs bm hdct sn sub ab col dd k0 k1 k2 k3 k5 newId)/\K.In s₂.heap/\OwnTail s₂.heap bmB bm /\
    wpAny (model prog w) (A.under (.builtin "type.__call__" ⟨.ref C :: a.pos,[]⟩)) (call (.ref fI) (.ref (s₂.heap.objs.size + 1) :: a.pos)) (fun v s'=>v = .none/\s'.heap.get? C = some (excClassObj nm q C N bs bm hdct sn sub ab col dd k0 k1 k2 k3 k5 newId) /\
     (∃ t dO,s'.heap.get? (s₂.heap.objs.size + 1) = some (excObjD C t dO))/\E (.ref (s₂.heap.objs.size + 1)) s') E { s₂ with heap:=excHeap s₂.heap C a.pos }) E s₁) E s) :
  wpAny (model prog w) A (exec (.Raise (some (.Call (.Name x np) args [] cpos)) none pos) env) Q E s:=by
 rw [arm_exec_Raise]
 first
  | refine wpAny_bind (wpAny_standAt (raiseStmt_any (C:=C) (nm:=nm) (q:=q) (N:=N) (bs:=bs) (bm:=bm) (hdct:=hdct) (sn:=sn) (sub:=sub) (ab:=ab) (col:=col) (dd:=dd) (k0:=k0) (k1:=k1) (k2:=k2) (k3:=k3) (k5:=k5) (newId:=newId) hbase hh (wpAny_bind (wpAny_mono (wpAny_Call_ofName (wpAny_mono h (fun f s₁ h₁=>?_) fun _ _ x=>x)) (fun v s₃ h₃=>wpAny_bind (wpAny_standAt (wpAny_pure h₃))) fun _ _ x=>x))))
  | (simp only [evalOpt,Option.map]; refine wpAny_bind (wpAny_standAt (raiseStmt_any (C:=C) (nm:=nm) (q:=q) (N:=N) (bs:=bs) (bm:=bm) (hdct:=hdct) (sn:=sn) (sub:=sub) (ab:=ab) (col:=col) (dd:=dd) (k0:=k0) (k1:=k1) (k2:=k2) (k3:=k3) (k5:=k5) (newId:=newId) hbase hh (wpAny_bind (wpAny_mono (wpAny_Call_ofName (wpAny_mono h (fun f s₁ h₁=>?_) fun _ _ x=>x)) (fun v s₃ h₃=>wpAny_bind (wpAny_standAt (wpAny_pure h₃))) fun _ _ x=>x)))))
 obtain ⟨rfl,h₁⟩:=h₁
 unfold callWith
 refine wpAny_bind (wpAny_holding (wpAny_mono h₁ (fun a s₂ h₂=>wpAny_bind (wpAny_standAt ?_)) fun _ _ x=>x))
 obtain ⟨apos,akw⟩:=a
 obtain ⟨hkw,hlen,hC,X,T,h₂⟩:=h₂
 obtain rfl : akw = []:=hkw
 obtain ⟨hp,g,d,tk,os⟩:=s₂
 simp only [hplain]
 refine wpAny_bind (wpAny_keeperOf_exc hC ?_)
 refine wpAny_bind (call_init Fn hBn F T X hC hi hf (wpAny_mono h₂ ?_ fun _ _ z=>z) hlen)
 rintro v s' ⟨rfl,hC',⟨t,dO,he⟩,hE⟩
 exact ⟨rfl,wpAny_bind (wpAny_holding (wpAny_point (wpAny_pure ⟨_,t,dO,rfl,hC',he,hE⟩)))⟩
end
end L2
set_option maxHeartbeats 4000000
namespace L2
open PySem PySem.Spec PyProof.Rows
def newO (a C : Addr) (d : Option Addr) : HO:=.ext fun h=>∃ t,h.get? a = some (excObjD C t d)
def xdO (a : Addr) (fs : List (Str × V)) : HO:=.ext fun h=>∃ mA,h.Ns1 a mA/\∀ f,RelO (fs.lookup f) (mA f)
section
variable {P : Program} {w : World} {H : Hp} {h : Heap} {a C : Addr} {d : Option Addr} {fs : List (Str × V)}
theorem newO_ok (x : ∃ t,h.get? a = some (excObjD C t d)) : ObjOk P w H h a (newO a C d):=by
 obtain ⟨t,e⟩:=x
 refine ⟨⟨t,e⟩,⟨_,e⟩,?_⟩
 rintro h1 h2 ⟨t,f⟩ k
 exact ⟨t,k _ f⟩
theorem newO_get (x : ObjOk P w H h a (newO a C d)) : ∃ t,h.get? a = some (excObjD C t d):=x.1
theorem xdO_ok (x : ∃ mA,h.Ns1 a mA/\∀ f,RelO (fs.lookup f) (mA f)) : ObjOk P w H h a (xdO a fs):=by
 obtain ⟨mA,n,r⟩:=x
 refine ⟨⟨mA,n,r⟩,?_,?_⟩
 ·obtain ⟨o,_,_,e,_⟩:=n
  exact ⟨o,e⟩
 ·rintro h1 h2 ⟨mA,n,r⟩ k
  obtain ⟨o,es,ep,e,q⟩:=n
  exact ⟨mA,⟨o,es,ep,k _ e,q⟩,r⟩
theorem xdO_get (x : ObjOk P w H h a (xdO a fs)) : ∃ mA,h.Ns1 a mA/\∀ f,RelO (fs.lookup f) (mA f):=x.1
theorem within_of {mA : Str->Option Value} (r : ∀ f,RelO (fs.lookup f) (mA f)) : PySem.Within mA (fs.map (·.1)):=by
 intro g hg
 cases q : fs.lookup g with
 | none =>
  have z:=r g
  rw [q] at z
  exact absurd z.none_of hg
 | some v =>
  exact List.mem_map.mpr ⟨(g,v),PySem.mem_of_lookup q,rfl⟩
end
structure XCls (K : PySem.W.Frag) (C : Addr) : Prop where
 cd : ∃ cd,PySem.W.clsIn K C = some cd/\onlyVE cd.mro = true/\cd.hasDict = true
 sa : PySem.W.findIn K (.ref C) "__setattr__" = some (some (.builtin "object.__setattr__"))
def XNo (K : PySem.W.Frag) (C : Addr) (f : Str) : Prop:=PySem.W.findIn K (.ref C) f = some none
theorem XNo.taker {K : PySem.W.Frag} {C : Addr} {f : Str} (n : XNo K C f) : PySem.W.takerIn K C f = some none:=by
 unfold PySem.W.takerIn
 rw [n]
 rfl
theorem get_push_ne {h : Heap} {o v : Obj} {b : Addr} (z : (h.push o).get? b = some v) (hb : b ≠ h.objs.size) : h.get? b = some v:=by
 rw [<- z]
 exact (Heap.get?_push_ne h b o hb).symm
def sX (K : PySem.W.Frag) (ta tv : TE) (f : Str) : TS:=fun D σ H=>tv σ H fun y H1=>ta σ H1 fun x H2=>∃ a C,x = .ref a/\XCls K C/\XNo K C f /\
 ((H2 a = some (newO a C none)/\∀ dx,H2 dx = none->dx ≠ a->D.nx σ (upd (upd H2 dx (xdO dx [(f,y)])) a (newO a C (some dx)))) \/
  (∃ dx fs,H2 a = some (newO a C (some dx))/\H2 dx = some (xdO dx fs)/\fs.length < 1000/\D.nx σ (upd H2 dx (xdO dx (putF f y fs)))))
section
variable {X : Cx} {o value : Expr} {f : Str} {pos pos' : Pos} {ta tv : TE}
theorem ps_xset (ha : PE X o ta) (hv : PE X value tv) (hs : swapsWith value (some (.Attribute o f pos')) pos.line X.env = pure false:=by rfl) : PS X (.Assign [.Attribute o f pos'] value pos) (sX X.K ta tv f):=by
 intro pins s σ H D I h
 refine plainObj_wpAny_Assign_Attribute (thn (hv pins s σ H _ I h) fun u s1 ⟨y,H1,I1,ry,q⟩=>thn (ha pins s1 σ H1 _ I1 q) fun ov s2 ⟨x,H2,I2,rx,a,C,ex,c,n,q2⟩=>?_) hs
 subst ex
 obtain rfl : ov = Value.ref a:=rx
 obtain ⟨cd,c1,c2,c3⟩:=c.cd
 rcases q2 with ⟨ea,q2⟩ | ⟨dx,fs,ea,ed,hl,q2⟩
 ·obtain ⟨t,et⟩:=newO_get (I2.hok a _ ea)
  have hI : PySem.W.InstAt s2.heap a (excObjD C t none) C none:=⟨et,rfl,rfl,trivial⟩
  refine exc_set_new I2.kIn hI c1 c2 n.taker c.sa c3 rfl rfl fun h' g1 g2 g3=>?_
  have nd : H2 s2.heap.objs.size = none:=I2.hok.fresh (Nat.le_refl _)
  have na : s2.heap.objs.size ≠ a:=Ne.symm (Nat.ne_of_lt (Heap.lt_size et))
  obtain ⟨od,es,ep,e1,e2⟩:=id g2
  have hfr : od.isFreed = false:=(Heap.get?_some_iff.mp e1).2
  have p1 : (s2.heap.push od).get? s2.heap.objs.size = some od:=Heap.get?_push_size _ hfr
  have J1:=I2.laid (a:=s2.heap.objs.size) (o:=xdO s2.heap.objs.size [(f,y)]) (h':=s2.heap.push od) (t':=s2.toks) (fun b v z=>Heap.get?_push_of_some _ z) (Nat.le_refl _) (xdO_ok ⟨_,⟨od,es,ep,p1,e2⟩,fun g=>by
   by_cases z : g = f
   ·subst z
    simp only [List.lookup,beq_self_eq_true,if_pos]
    exact ry
   ·have z' : (g == f) = false:=beq_eq_false_iff_ne.mpr z
    simp only [List.lookup,z',if_neg z]
    trivial⟩)
  refine ⟨σ,_,J1.write (x:=a) (e:=a) (o:=newO a C (some s2.heap.objs.size)) (h':=h') (t':=s2.toks + 2) ?_ (.inl rfl) ?_ ⟨_,g1⟩ (newO_ok ⟨t,g1⟩),q2 _ nd na⟩
  ·rw [upd_ne (Ne.symm na),ea]
   exact True.intro
  ·intro b v hb z
   by_cases hd : b = s2.heap.objs.size
   ·subst hd
    rw [p1] at z
    cases z
    exact e1
   ·refine g3 b v hb ?_
    exact get_push_ne z hd
 ·obtain ⟨t,et⟩:=newO_get (I2.hok a _ ea)
  obtain ⟨mA,hm,r⟩:=xdO_get (I2.hok dx _ ed)
  obtain ⟨od,es,ep,e1,e2⟩:=id hm
  have hI : PySem.W.InstAt s2.heap a (excObjD C t (some dx)) C (some od):=⟨et,rfl,rfl,e1⟩
  refine exc_set_old I2.kIn hI c1 c2 n.taker c.sa c3 rfl hm (within_of r) (by rw [List.length_map]; omega) fun h' g1 g2=>?_
  refine ⟨σ,_,I2.write (x:=dx) (e:=dx) (o:=xdO dx (putF f y fs)) (h':=h') (t':=s2.toks + 2) (by rw [ed]; exact True.intro) (.inl rfl) (fun b v hb z=>(g2.2 b hb).trans z) (let ⟨o,_,_,e',_⟩:=g1; ⟨o,e'⟩) (xdO_ok ⟨_,g1,fun g=>?_⟩),q2⟩
  rw [lookup_putF]
  by_cases z : g = f
  ·rw [if_pos z,if_pos z]; exact ry
  ·rw [if_neg z,if_neg z]; exact r g
end
end L2
set_option maxHeartbeats 4000000
namespace L2
open PySem PySem.Spec PyProof.Rows
def del (H : Hp) (a : Addr) : Hp:=fun b=>if b = a then none else H b
theorem del_same {H : Hp} {a : Addr} : del H a a = none:=if_pos rfl
theorem del_ne {H : Hp} {a b : Addr} (h : b ≠ a) : del H a b = H b:=if_neg h
theorem del_some {H : Hp} {a b : Addr} {u : HO} (h : del H a b = some u) : b ≠ a/\H b = some u:=by
 by_cases e : b = a
 ·subst e; rw [del_same] at h; cases h
 ·rw [del_ne e] at h; exact ⟨e,h⟩
theorem del_none {H : Hp} {a b : Addr} (h : H b = none) : del H a b = none:=by
 by_cases e : b = a
 ·subst e; exact del_same
 ·rw [del_ne e]; exact h
theorem Same.del {H H' : Hp} {a : Addr} (e : Same H H') (n : H a = none) : Same H (del H' a):=fun b o q=>by
 rw [del_ne (ne_of_none q n)]
 exact e b o q
section
variable {X : Cx} {pins : List (Addr × Obj)} {σ : St} {H H' : Hp} {s s1 : Shared} {B h' : Heap} {a C : Addr} {d : Option Addr}
theorem un_del {fs : List Addr} {φ : Heap->Prop} (e : H a = some (.ext φ)) : Un fs [] H (del H a) s.heap s.heap where
 keep:=fun b o q _ _ _=>q
 slot:=fun b o q _ _ _=>⟨o.slots,q⟩
 free:=fun b o q n _=>del_none n
 there:=fun b o q _=>⟨o,q⟩
 tups:=fun b xs q=>by rw [del_ne (by intro z; subst z; rw [e] at q; cases q)]; exact q
 frzs:=fun b o u q=>by rw [del_ne (by intro z; subst z; rw [e] at q; cases q)]; exact q
 tbls:=fun b ps q=>⟨#[],by rw [del_ne (by intro z; subst z; rw [e] at q; cases q)]; simpa using q⟩
theorem hok_del {φ : Heap->Prop} {P : Program} {w : World} {h : Heap} (ok : HOk P w H h) (e : H a = some (.ext φ)) : HOk P w (del H a) h:=fun b u q=>by
 obtain ⟨hb,q⟩:=del_some q
 refine (ok b u q).stay (fun _ _ _ z=>z) (fun c z=>?_) fun c xs z=>?_
 ·rw [del_ne (by intro y; subst y; rw [e] at z; cases z)]; exact z
 ·rw [del_ne (by intro y; subst y; rw [e] at z; cases z)]; exact z
theorem Inv.flown2 (I : Inv X pins σ H s) (os : s1.os = s.os) (bare : AllBare s1.gens) (un : Un (frs X.stack) [] H H' s.heap s1.heap) (hok : HOk X.prog X.w H' s1.heap) (bs : B.StaysIn s1.heap)
  (b1 : ∀ b o,s.heap.get? b = some o->b ∉ frs X.stack->H b = none->B.get? b = some o) (b2 : ∀ b u,H' b = some u->∃ o,B.get? b = some o)
  (b3 : ∀ b o,s.heap.get? b = some o->b ∈ frs X.stack \/ (∃ o',B.get? b = some o') \/ ∃ o',h'.get? b = some o') (st : B.StaysIn h') (up : s1.heap.UpToSlots h') : Inv X pins σ H' { s1 with heap:=h' }:=by
 have nf : ∀ b ∈ frs X.stack,∀ o,s.heap.get? b = some o->∀ vs,o.data ≠ .fields vs:=fun b hb o e=>by
  obtain ⟨_,o',e',r⟩:=I.stack.mem hb
  rw [e] at e'
  cases e'
  exact r
 have sl : ∀ b o,s.heap.get? b = some o->b ∈ frs X.stack->∃ sl,h'.get? b = some { o with slots:=sl }:=fun b o e hb=>by
  obtain ⟨s2,e2⟩:=un.slot b o e (I.stkFree b hb) hb (by simp)
  obtain ⟨s3,e3⟩:=up b _ e2 (nf b hb o e)
  exact ⟨s3,e3⟩
 refine I.call' (s':={ s1 with heap:=h' }) os ⟨fun b o e n hb _=>st b o (b1 b o e hb n),fun b o e n hb _=>sl b o e hb,un.free,fun b o e hx=>?_,un.tups,un.frzs,un.tbls⟩ (fun b u e=>?_) bare fun b z=>nomatch z
 ·rcases b3 b o e with z | ⟨o',z⟩ | z
  ·obtain ⟨_,q⟩:=sl b o e z
   exact ⟨_,q⟩
  ·exact ⟨o',st b o' z⟩
  ·exact z
 ·refine (hok b u e).stay (fun c v hc q=>?_) (fun _ q=>q) fun _ _ q=>q
  have ht : ∃ u',H' c = some u':=by
   rcases hc with rfl | hc
   ·exact ⟨u,e⟩
   ·exact ⟨_,hc⟩
  obtain ⟨u',hu⟩:=ht
  obtain ⟨o,ho⟩:=b2 c u' hu
  have q':=bs c o ho
  rw [q] at q'
  cases q'
  exact st c v ho
end
section
variable {P : Program} {w : World} {K : PySem.W.Frag} {mg : Str->Option Value} {base : Heap} {N : List Str} {qual : Str} {scope : Scope} {f : Addr} {cd : Value} {A : Around} {outer : List Env} {s₀ : Shared} {H₀ : Hp} {E : XK}
theorem leaves_any {pins : List (Addr × Obj)} {σ : St} {H : Hp} {s : Shared} {a C : Addr} {d : Option Addr} (I : Inv (cxOf (CX1 P w) P w K mg base N qual scope f cd A outer s₀ H₀ E) pins σ H s)
  (hd : H a = some (newO a C d)) (n0 : s₀.heap.get? a = none) (q : E (.ref C) d (del H a)) : (cxOf (CX1 P w) P w K mg base N qual scope f cd A outer s₀ H₀ E).xe (.ref a) s:=by
 have hfr : (envOfC qual scope s₀.heap.objs.size f cd).frame = some s₀.heap.objs.size:=rfl
 have hstk : s.heap.FunFrames base (envOfC qual scope s₀.heap.objs.size f cd :: outer):=I.stack
 obtain ⟨t,et⟩:=newO_get (I.hok a _ hd)
 have nfr : a ∉ frs (envOfC qual scope s₀.heap.objs.size f cd :: outer):=fun z=>by
  have:=I.stkFree a z
  rw [hd] at this
  cases this
 have hin : ∀ env ∈ (envOfC qual scope s₀.heap.objs.size f cd :: outer),∀ b,env.frame = some b->b ∈ a :: frs (envOfC qual scope s₀.heap.objs.size f cd :: outer):=fun env he b hb=>.tail _ (List.mem_filterMap.mpr ⟨env,he,hb⟩)
 have hB:=PySem.W.funFrames_hide hstk hin
 have hBa : (PySem.W.hideAll s.heap (a :: frs (envOfC qual scope s₀.heap.objs.size f cd :: outer))).get? a = none:=PySem.W.hideAll_none _ (.head _)
 generalize hBB : PySem.W.hideAll s.heap (a :: frs (envOfC qual scope s₀.heap.objs.size f cd :: outer)) = B at hB hBa
 have inB : ∀ b o,s.heap.get? b = some o->b ≠ a->b ∉ frs (envOfC qual scope s₀.heap.objs.size f cd :: outer)->B.get? b = some o:=fun b o e n1 n=>by
  rw [<- hBB]
  refine PySem.W.hideAll_get _ e fun z=>?_
  rcases List.mem_cons.mp z with z | z
  ·exact n1 z
  ·exact n z
 have ofB : ∀ b o,B.get? b = some o->s.heap.get? b = some o:=fun b o e=>by rw [<- hBB] at e; exact PySem.W.of_hideAll _ e
 show wpAny _ _ (leaving _ (.ref a)) _ _ _
 refine leave_first (B:=B) (outer:=outer) (s:=s) I.ok.frames hB hfr et (fun b o e=>ofB b o e) hBa rfl rfl fun h' x y=>?_
 have b2 : ∀ b u,del H a b = some u->∃ o,B.get? b = some o:=fun b u e=>by
  obtain ⟨hb,e⟩:=del_some e
  obtain ⟨o,eo⟩:=(I.hok b u e).ex
  refine ⟨o,inB b o eo hb fun z=>?_⟩
  have:=I.stkFree b z
  rw [this] at e
  cases e
 have J:=I.flown2 (s1:=s) (H':=del H a) rfl I.bare (un_del hd) (hok_del I.hok hd) (fun b o e=>ofB b o e) (fun b o e hb n=>inB b o e (by intro z; subst z; rw [hd] at n; cases n) hb) b2 (fun b o e=>by
  by_cases hb : b ∈ frs (envOfC qual scope s₀.heap.objs.size f cd :: outer)
  ·exact .inl hb
  ·by_cases hba : b = a
   ·subst hba
    obtain ⟨ox,ws,e1,_⟩:=x.obj
    exact .inr (.inr ⟨ox,e1⟩)
   ·exact .inr (.inl ⟨o,inB b o e hba hb⟩)) x.stays y
 have nL : ∀ b o,s₀.heap.get? b = some o->b ∉ frs outer->b ∉ frs (envOfC qual scope s₀.heap.objs.size f cd :: outer):=fun b o e hb z=>by
  rw [frs_cons hfr] at z
  rcases List.mem_cons.mp z with z | z
  ·exact absurd (Heap.lt_size e) (by rw [z]; exact Nat.lt_irrefl _)
  ·exact hb z
 have nA : ∀ b o,s₀.heap.get? b = some o->b ≠ a:=fun b o e z=>by rw [z,n0] at e; cases e
 refine ⟨a,.ref C,d,B,del H a,rfl,J.os,J.bare,J.base,J.hok,x,del_same,fun b o e hb n=>?_,b2,fun b o e=>?_,q⟩
 ·exact inB b o (I.base.keep b o e n hb (by intro z; cases z)) (nA b o e) (nL b o e hb)
 ·obtain ⟨o',e'⟩:=I.base.there b o e (by intro z; cases z)
  by_cases hb : b ∈ frs outer
  ·exact .inl hb
  ·exact .inr ⟨o',inB b o' e' (nA b o e) (nL b o e hb)⟩
structure XRaise (K : PySem.W.Frag) (C fI : Addr) : Prop where
 obj : ∃ nm qn NN bs bm hd sn sub ab col dd k0 k1 k2 k3 k5,K.lookup C = some (excClassObj nm qn C NN bs bm hd sn sub ab col dd k0 k1 k2 k3 k5 "ValueError.__new__")/\PySem.W.tailIn K bmVE bm = true
 init : PySem.W.findIn K (.ref C) "__init__" = some (some (.ref fI))
 fn : PySem.W.typeIn K (.ref fI) = some (.type "function")
def tRaiseI (C : Addr) (sp : Sp) (E : XK) (t : TA) : TS:=fun _ σ H=>t σ H fun vs H1=>vs.length <= sizeLine/\∀ a,H1 a = none ->
 sp (.ref a :: vs) (upd H1 a (newO a C none)) (fun v H2=>v = .non/\∃ d,H2 a = some (newO a C d)/\E (.ref C) d (del H2 a)) E0
theorem ps_raiseI {x : Str} {C fI : Addr} {fd : FuncData} {ps : List Str} {sp : Sp} {k : Nat} {e : Expr} {es : List Expr} {t : TA} {np cpos pos : Pos} (hg : Gl (cxOf (CX1 P w) P w K mg base N qual scope f cd A outer s₀ H₀ E) x) (hm : mg x = some (.ref C)) (R : XRaise K C fI)
  (G : FnOk P w K mg base CX0 k fI fd ps sp) (hr : Room (k + 1) (cxOf (CX1 P w) P w K mg base N qual scope f cd A outer s₀ H₀ E).A) (hb : Binds K fd ps [])
  (ha : PA (cxOf (CX1 P w) P w K mg base N qual scope f cd A outer s₀ H₀ E) (e :: es) t) (hdb : (x == ("__debug__" : Str)) = false:=by decide)
  (he : starEach (e :: es) (cxOf (CX1 P w) P w K mg base N qual scope f cd A outer s₀ H₀ E).env = (false,eval e (cxOf (CX1 P w) P w K mg base N qual scope f cd A outer s₀ H₀ E).env) :: starEach es (cxOf (CX1 P w) P w K mg base N qual scope f cd A outer s₀ H₀ E).env:=by rfl)
  (hpl : (backTo cpos (starEach es (cxOf (CX1 P w) P w K mg base N qual scope f cd A outer s₀ H₀ E).env)).any (·.1) = false:=by rfl) :
  PS (cxOf (CX1 P w) P w K mg base N qual scope f cd A outer s₀ H₀ E) (.Raise (some (.Call (.Name x np) (e :: es) [] cpos)) none pos) (tRaiseI C sp E t):=by
 intro pins s σ H D I h
 obtain ⟨nm,qn,NN,bs,bm,hdd,sn,sub,ab,col,dd,k0,k1,k2,k3,k5,lC,ht⟩:=R.obj
 have hbase : bm.contains (.type "BaseException") = true:=(PySem.W.tail_of_in I.kIn ht).hasType (by decide)
 refine Raise_init (K:=K) (C:=C) (nm:=nm) (q:=qn) (N:=NN) (bs:=bs) (bm:=bm) (hdct:=hdd) (sn:=sn) (sub:=sub) (ab:=ab) (col:=col) (dd:=dd) (k0:=k0) (k1:=k1) (k2:=k2) (k3:=k3) (k5:=k5) (newId:="ValueError.__new__")
  PySem.F.excBase_ValueError (by decide : bmVE.contains (.type "ValueError") = true) PySem.F.excBase_ValueError hbase (I.ok.hd rfl) ?_ R.init R.fn (ld_glob I hg hm ⟨rfl,?_⟩ hdb)
 ·rw [he]
  show (false || (backTo cpos (starEach es _)).any (·.1)) = false
  rw [hpl]
  rfl
 ·have hp:=ha cpos pins s σ H _ I h
  rw [he] at hp ⊢
  refine Calls.evalArgs_plain (thn hp ?_)
  rintro us s2 ⟨vs,H1,I2,r,hz,q⟩
  refine ⟨rfl,by rw [<- r.length]; exact hz,I2.kIn _ _ lC,I2.kIn,PySem.W.tail_of_in I2.kIn ht,?_⟩
  have I3 : Inv (cxOf (CX1 P w) P w K mg base N qual scope f cd A outer s₀ H₀ E) pins σ (upd H1 (s2.heap.objs.size + 1) (newO (s2.heap.objs.size + 1) C none)) { s2 with heap:=excHeap s2.heap C us }:=by
   have J:=I2.kept (h':=s2.heap.push { cls:=.type "tuple",data:=.seq us.toArray }) (t':=s2.toks) fun b o e=>Heap.get?_push_of_some _ e
   refine J.laid (a:=s2.heap.objs.size + 1) (h':=excHeap s2.heap C us) (t':=s2.toks) (fun b o e=>Heap.get?_push_of_some _ e) (Nat.le_of_eq (Heap.size_push _ _)) (newO_ok ⟨s2.heap.objs.size,?_⟩)
   exact Heap.get?_push_at (by rw [Heap.size_push]) rfl
  have nA : H1 (s2.heap.objs.size + 1) = none:=I2.hok.fresh (Nat.le_succ _)
  have hq:=q _ nA
  have r2 : Vals (V.ref (s2.heap.objs.size + 1) :: vs) (Value.ref (s2.heap.objs.size + 1) :: us):=.cons rfl r
  have hl : ((Value.ref (s2.heap.objs.size + 1) :: us) ++ []).length = ps.length:=by
   rw [List.append_nil,<- r2.length]
   exact G.len _ _ _ _ hq
  have hbd:=hb { s2 with heap:=excHeap s2.heap C us } (Value.ref (s2.heap.objs.size + 1) :: us) I3.kIn hl
  rw [List.append_nil] at hbd
  refine wpAny_call (codeAny_mono (G.run _ (cxOf (CX1 P w) P w K mg base N qual scope f cd A outer s₀ H₀ E).stack _ _ ⟨Value.ref (s2.heap.objs.size + 1) :: us,[]⟩ (Value.ref (s2.heap.objs.size + 1) :: us) _ _ _ (hr.make C us []) (I3.env0.make C us []) hbd r2 hq) fun r s' hq'=>?_)
  cases r with
  | error e=>exact False.elim hq'
  | ok fl =>
   cases fl with
   | ret u =>
    obtain ⟨v,H4,I4,rv,ev,d,hd,q4⟩:=I3.after hq'
    subst ev
    have n0 : s₀.heap.get? (s2.heap.objs.size + 1) = none:=Heap.get?_none_of_le (Nat.le_trans I2.sz (Nat.le_succ _))
    obtain ⟨t,et⟩:=newO_get (I4.hok _ _ hd)
    exact ⟨rv,I4.kIn _ _ lC,⟨t,d,et⟩,leaves_any I4 hd n0 q4⟩
   | next=>exact False.elim hq'
   | brk=>exact False.elim hq'
   | cont=>exact False.elim hq'
end
section
variable {X : Cx}
def XDict (H : Hp) (d : Option Addr) : Prop:=d = none \/ ∃ dx fs,d = some dx/\H dx = some (xdO dx fs)
theorem inst_exc {pins : List (Addr × Obj)} {σ : St} {H : Hp} {s : Shared} {a C : Addr} {d : Option Addr} (I : Inv X pins σ H s) (hH : H a = some (excO a (.ref C) d)) (hd : XDict H d) : ∃ ox od,PySem.W.InstAt s.heap a ox C od:=by
 obtain ⟨⟨ox,ws,e1,e2,e3,e4⟩,_,_⟩:=(show ObjOk X.prog X.w H s.heap a (excO a (.ref C) d) from I.hok a _ hH)
 have hno : PySem.W.notCls ox = true:=by unfold PySem.W.notCls; rw [e4]
 rcases hd with rfl | ⟨dx,fs,rfl,hx⟩
 ·exact ⟨ox,none,e1,e2,hno,by rw [e3]; trivial⟩
 ·obtain ⟨mA,⟨od,es,ep,f1,f2⟩,r⟩:=xdO_get (I.hok dx _ hx)
  exact ⟨ox,some od,e1,e2,hno,by rw [e3]; exact f1⟩
theorem call_isinst_x : CallR X (.builtin "isinstance") (fun xs H Q=>∃ a C d c b,xs = [.ref a,c]/\H a = some (excO a (.ref C) d)/\XDict H d/\ExcK X.K C/\(c = .ref (match c with | .ref a=>a | _=>0) \/ ∃ n,c = .ty n)/\PySem.W.kitOne X.K (.ref C) (valOf c) = some b/\Q (.bl b) H):=by
 intro pins s σ H xs us Q I r h
 obtain ⟨a,C,d,c,b,rfl,hH,hd,hk,hc,hb,q⟩:=h
 obtain ⟨u,w',rfl,rx,rc⟩:=vals2 r
 cases rx
 have e : w' = valOf c:=by
  cases c with
  | ref a=>exact rc
  | ty n=>exact rc
  | _=>rcases hc with z | ⟨n,z⟩ <;> cases z
 subst e
 exact PySem.W.kia_one (kitx_exc hk) I.kIn (inst_exc I hH hd) hb (fun z=>nomatch z) fun tk=>⟨.bl b,H,I.tok _,rfl,q⟩
def tXFld (K : PySem.W.Frag) (ta : TE) (f : Str) : TE:=fun σ H Q=>ta σ H fun x H1=>∃ a C dx fs v,x = .ref a/\H1 a = some (excO a (.ref C) (some dx))/\H1 dx = some (xdO dx fs)/\ExcK K C/\XCls K C/\XNo K C f/\fs.lookup f = some v/\Q v H1
theorem pe_xfld {e : Expr} {f : Str} {pos : Pos} {ta : TE} (he : PE X e ta) (hb : attributeBase e f X.env (eval e X.env) = eval e X.env:=by rfl) : PE X (.Attribute e f pos) (tXFld X.K ta f):=by
 intro pins s σ H Q I h
 refine attr_of hb (thn (he pins s σ H _ I h) ?_)
 rintro u s1 ⟨x,H1,I1,rx,a,C,dx,fs,v,rfl,hH,hx,k,c,n,l,q⟩
 obtain rfl : u = Value.ref a:=rx
 obtain ⟨⟨ox,ws,e1,e2,e3,e4⟩,_,_⟩:=(show ObjOk X.prog X.w H1 s1.heap a (excO a (.ref C) (some dx)) from I1.hok a _ hH)
 obtain ⟨mA,hn,r⟩:=xdO_get (I1.hok dx _ hx)
 obtain ⟨od,ho,hl⟩:=lookIn_ns hn
 have hI : PySem.W.InstAt s1.heap a ox C (some od):=⟨e1,e2,by unfold PySem.W.notCls; rw [e4],by rw [e3]; exact ho⟩
 obtain ⟨cd,c1,c2,c3⟩:=c.cd
 have rv:=r f
 rw [l] at rv
 obtain ⟨u,hu,ru⟩:=rv.some_of
 have hf : PySem.W.findObj X.K C (some od) f = some (.value u):=by
  unfold PySem.W.findObj
  rw [c1,Option.bind_some,n,Option.bind_some]
  simp only [Option.bind_some,PySem.W.ownOf,c3,hl f,hu,if_true]
 exact exc_attr I1.kIn hI k.hm hf k.hga k.hgn ⟨handed_of ru,⟨v,H1,I1.tok _,ru,q⟩⟩
end
end L2
namespace L2
open PySem PySem.Spec PyProof.Rows
section
variable {κ : Type} [DecidableEq κ]
def valV (kvs : List (κ × V)) (k : κ) : Option V:=(kvs.find? fun kv=>decide (kv.1 = k)).map (·.2)
def putK (kvs : List (κ × V)) (k : κ) (v : V) : List (κ × V) :=
 if (kvs.any fun kv=>decide (kv.1 = k)) = true then kvs.map (fun kv=>if kv.1 = k then (kv.1,v) else kv) else kvs ++ [(k,v)]
def dropK (kvs : List (κ × V)) (k : κ) : List (κ × V):=kvs.filter fun kv=>decide (kv.1 ≠ k)
theorem valV_pos {p : κ × V} {r : List (κ × V)} {k : κ} (e : p.1 = k) : valV (p :: r) k = some p.2:=by simp [valV,List.find?_cons,e]
theorem valV_neg {p : κ × V} {r : List (κ × V)} {k : κ} (e : ¬ p.1 = k) : valV (p :: r) k = valV r k:=by simp [valV,List.find?_cons,e]
theorem valV_any (k : κ) : ∀ kvs : List (κ × V),(kvs.any fun kv=>decide (kv.1 = k)) = (valV kvs k).isSome
 | []=>rfl
 | p :: r=>by
  rw [List.any_cons]
  by_cases e : p.1 = k
  ·simp only [valV_pos e,decide_eq_true e,Bool.true_or,Option.isSome_some]
  ·rw [valV_neg e,decide_eq_false e,Bool.false_or]; exact valV_any k r
theorem valV_map (k j : κ) (y : V) : ∀ kvs : List (κ × V),valV (kvs.map fun kv=>if kv.1 = k then (kv.1,y) else kv) j = (valV kvs j).map fun x=>if j = k then y else x
 | []=>rfl
 | p :: r=>by
  have ih:=valV_map k j y r
  rw [List.map_cons]
  by_cases h : p.1 = k
  ·rw [if_pos h]
   by_cases e : p.1 = j
   ·rw [valV_pos (p:=(p.1,y)) e,valV_pos e,Option.map_some,if_pos (e.symm.trans h)]
   ·rw [valV_neg (p:=(p.1,y)) e,valV_neg e,ih]
  ·rw [if_neg h]
   by_cases e : p.1 = j
   ·rw [valV_pos (p:=p) e,valV_pos e,Option.map_some,if_neg (fun z=>h (e.trans z))]
   ·rw [valV_neg (p:=p) e,valV_neg e,ih]
theorem valV_snoc (k j : κ) (y : V) : ∀ kvs : List (κ × V),valV kvs k = none->valV (kvs ++ [(k,y)]) j = if j = k then some y else valV kvs j
 | [],_=>by
  by_cases e : k = j
  ·rw [if_pos e.symm]; exact valV_pos (p:=(k,y)) e
  ·rw [if_neg (fun z=>e z.symm)]; exact valV_neg (p:=(k,y)) e
 | p :: r,hn=>by
  rw [List.cons_append]
  have hk : ¬ p.1 = k:=fun z=>by rw [valV_pos z] at hn; cases hn
  rw [valV_neg hk] at hn
  have ih:=valV_snoc k j y r hn
  by_cases e : p.1 = j
  ·rw [valV_pos e,valV_pos e,if_neg (fun z=>hk (e.trans z))]
  ·rw [valV_neg e,valV_neg e,ih]
theorem valV_put (kvs : List (κ × V)) (k j : κ) (y : V) : valV (putK kvs k y) j = if j = k then some y else valV kvs j:=by
 unfold putK
 by_cases a : (kvs.any fun kv=>decide (kv.1 = k)) = true
 ·rw [if_pos a,valV_map]
  rw [valV_any] at a
  by_cases e : j = k
  ·obtain ⟨x,hx⟩:=Option.isSome_iff_exists.mp a
   rw [if_pos e,e,hx,Option.map_some,if_pos rfl]
  ·rw [if_neg e]
   cases valV kvs j with
   | none=>rfl
   | some x=>rw [Option.map_some,if_neg e]
 ·rw [if_neg a]
  refine valV_snoc k j y kvs ?_
  rw [valV_any] at a
  cases q : valV kvs k with
  | none=>rfl
  | some x=>rw [q] at a; exact (a rfl).elim
theorem length_putK (kvs : List (κ × V)) (k : κ) (v : V) : (putK kvs k v).length <= kvs.length + 1:=by
 unfold putK
 split
 ·rw [List.length_map]; omega
 ·rw [List.length_append,List.length_cons,List.length_nil]; omega
theorem putK_new {kvs : List (κ × V)} {k : κ} (v : V) (h : valV kvs k = none) : putK kvs k v = kvs ++ [(k,v)]:=by
 unfold putK
 rw [valV_any,h]
 exact if_neg (by decide)
theorem RelO.isSome_eq {o : Option V} {u : Option Value} (r : RelO o u) : o.isSome = u.isSome:=by
 cases o with
 | none=>cases u with
  | none=>rfl
  | some _=>exact (show False from r).elim
 | some _=>cases u with
  | none=>exact (show False from r).elim
  | some _=>rfl
theorem RelO.getD {o : Option V} {u : Option Value} {d : V} {d' : Value} (r : RelO o u) (rd : RelV d d') : RelV (o.getD d) (u.getD d'):=by
 cases o with
 | none=>cases u with
  | none=>exact rd
  | some _=>exact (show False from r).elim
 | some _=>cases u with
  | none=>exact (show False from r).elim
  | some _=>exact r
theorem KV.val {kvs : List (κ × V)} {vs : List (κ × Value)} (r : KV kvs vs) (k : κ) : RelO (valV kvs k) (valueAt vs k):=by
 unfold KV at r
 induction r with
 | nil=>exact True.intro
 | @cons p q ps qs h t ih =>
  obtain ⟨h1,h2⟩:=h
  by_cases e : p.1 = k
  ·have e' : q.1 = k:=h1.symm.trans e
   have b : valueAt (q :: qs) k = some q.2:=by simp [valueAt,List.find?_cons,e']
   rw [valV_pos e,b]; exact h2
  ·have e' : ¬ q.1 = k:=fun z=>e (h1.trans z)
   have b : valueAt (q :: qs) k = valueAt qs k:=by simp [valueAt,List.find?_cons,e']
   rw [valV_neg e,b]; exact ih
theorem KV.any {kvs : List (κ × V)} {vs : List (κ × Value)} (r : KV kvs vs) (k : κ) : (kvs.any fun kv=>decide (kv.1 = k)) = vs.any fun kv=>decide (kv.1 = k):=by
 unfold KV at r
 induction r with
 | nil=>rfl
 | cons h t ih=>rw [List.any_cons,List.any_cons,ih,h.1]
theorem KV.repl {kvs : List (κ × V)} {vs : List (κ × Value)} (r : KV kvs vs) (k : κ) {y : V} {u : Value} (ry : RelV y u) :
  KV (kvs.map fun kv=>if kv.1 = k then (kv.1,y) else kv) (vs.map fun kv=>if kv.1 = k then (kv.1,u) else kv):=by
 unfold KV at r ⊢
 induction r with
 | nil=>exact .nil
 | @cons p q ps qs h t ih =>
  rw [List.map_cons,List.map_cons]
  refine .cons ?_ ih
  obtain ⟨h1,h2⟩:=h
  by_cases e : p.1 = k
  ·rw [if_pos e,if_pos (h1.symm.trans e)]; exact ⟨h1,ry⟩
  ·rw [if_neg e,if_neg (fun z=>e (h1.trans z))]; exact ⟨h1,h2⟩
theorem KV.put {kvs : List (κ × V)} {vs : List (κ × Value)} (r : KV kvs vs) (k : κ) {y : V} {u : Value} (ry : RelV y u) : KV (putK kvs k y) (stored vs k u):=by
 unfold putK stored
 rw [r.any k]
 by_cases e : (vs.any fun kv=>decide (kv.1 = k)) = true
 ·rw [if_pos e,if_pos e]; exact r.repl k ry
 ·rw [if_neg e,if_neg e]; exact Paired.snoc r ⟨rfl,ry⟩
theorem KV.length {kvs : List (κ × V)} {vs : List (κ × Value)} (r : KV kvs vs) : kvs.length = vs.length:=Paired.length r
end
theorem kV_is {P : Program} {w : World} {k : Key} {u : Value} (r : RelV (kV k) u) : (mixKind P w).is k u = true:=by
 cases k with
 | inl i=>obtain ⟨t,e⟩:=(show ∃ t,u = Value.int i t from r); subst e; exact mixKind_int P w i t
 | inr x=>obtain ⟨t,e⟩:=(show ∃ t,u = Value.str x t from r); subst e; exact mixKind_str P w x t
theorem items_are {P : Program} {w : World} : ∀ {ks : List Key} {us : List Value},Vals (ks.map kV) us->ItemsAre (mixKind P w) ks us
 | [],_,r=>by rw [List.map_nil] at r; cases r; exact .nil
 | k :: ks,_,r=>by
  rw [List.map_cons] at r
  cases r with
  | cons h t=>exact .cons (kV_is h) (items_are t)
abbrev KT (H : Hp) : List (List Key × V)->List (List Key × Addr × Value)->Prop:=Paired fun p q=>p.1 = q.1/\H q.2.1 = some (.tup (p.1.map kV))/\RelV p.2 q.2.2
theorem KT.val {H : Hp} {kvs : List (List Key × V)} {xs : List (List Key × Addr × Value)} (r : KT H kvs xs) (k : List Key) : RelO (valV kvs k) ((atKey xs k).map (·.2)):=by
 induction r with
 | nil=>exact True.intro
 | @cons p q ps qs h t ih =>
  obtain ⟨h1,_,h2⟩:=h
  by_cases e : p.1 = k
  ·have e' : q.1 = k:=h1.symm.trans e
   have b : atKey (q :: qs) k = some q.2:=by simp [atKey,List.find?_cons,e']
   rw [valV_pos e,b]; exact h2
  ·have e' : ¬ q.1 = k:=fun z=>e (h1.trans z)
   have b : atKey (q :: qs) k = atKey qs k:=by simp [atKey,List.find?_cons,e']
   rw [valV_neg e,b]; exact ih
theorem KT.repl {H : Hp} {kvs : List (List Key × V)} {xs : List (List Key × Addr × Value)} (r : KT H kvs xs) (k : List Key) {y : V} {u : Value} (ry : RelV y u) :
  KT H (kvs.map fun kv=>if kv.1 = k then (kv.1,y) else kv) (xs.map (putAt k u)):=by
 induction r with
 | nil=>exact .nil
 | @cons p q ps qs h t ih =>
  rw [List.map_cons,List.map_cons]
  refine .cons ?_ ih
  obtain ⟨h1,h2,h3⟩:=h
  unfold putAt
  by_cases e : p.1 = k
  ·rw [if_pos e,if_pos (h1.symm.trans e)]; exact ⟨h1,h2,ry⟩
  ·rw [if_neg e,if_neg (fun z=>e (h1.trans z))]; exact ⟨h1,h2,h3⟩
theorem KT.put {H : Hp} {kvs : List (List Key × V)} {xs : List (List Key × Addr × Value)} (r : KT H kvs xs) (k : List Key) {b : Addr} {y : V} {u : Value} (hb : H b = some (.tup (k.map kV))) (ry : RelV y u) :
  KT H (putK kvs k y) (storedH xs k b u):=by
 have e : (kvs.any fun kv=>decide (kv.1 = k)) = (atKey xs k).isSome:=by
  rw [valV_any,(r.val k).isSome_eq,Option.isSome_map]
 unfold putK storedH
 rw [e]
 by_cases q : (atKey xs k).isSome = true
 ·rw [if_pos q,if_pos q]; exact r.repl k ry
 ·rw [if_neg q,if_neg q]; exact Paired.snoc r ⟨rfl,hb,ry⟩
theorem KT.keeps {H H' : Hp} {kvs : List (List Key × V)} {xs : List (List Key × Addr × Value)} (r : KT H kvs xs) (ht : ∀ b ys,H b = some (.tup ys)->H' b = some (.tup ys)) : KT H' kvs xs :=
 Paired.mapP r fun _ _ z=>⟨z.1,ht _ _ z.2.1,z.2.2⟩
section
variable {P : Program} {w : World} {H : Hp} {h : Heap} {a : Addr}
theorem rd_of {u : HO} (ok : HOk P w H h) (e : Rd H a u) : ObjOk P w H h a u:=e.ok ok
theorem dk_rd {kvs : List (Key × V)} (ok : HOk P w H h) (e : Rd H a (.dK kvs)) : kvs.length <= sizeLine/\(a == sysModules) = false/\∃ vs,KV kvs vs/\h.DictOf (mixKind P w) a vs :=
 show ObjOk P w H h a (.dK kvs) from rd_of ok e
theorem dk_of {kvs : List (Key × V)} (ok : HOk P w H h) (e : H a = some (.dK kvs)) : kvs.length <= sizeLine/\(a == sysModules) = false/\∃ vs,KV kvs vs/\h.DictOf (mixKind P w) a vs:=dk_rd ok (.inl e)
theorem key_of {ks : List Key} (ok : HOk P w H h) (e : H a = some (.tup (ks.map kV))) : (tupleKind (mixKind P w)).is h ks a:=by
 obtain ⟨_,its,r,o,h1,h2,n,h3⟩:=(show ObjOk P w H h a (.tup (ks.map kV)) from ok a _ e)
 exact ⟨o,its.toArray,n,h1,h2,h3,by simpa using items_are r⟩
theorem dt_rd {kvs : List (List Key × V)} (ok : HOk P w H h) (e : Rd H a (.dT kvs)) : kvs.length <= sizeLine/\(a == sysModules) = false /\
  ∃ xs,KT H kvs xs/\h.DictOfH (tupleKind (mixKind P w)) a xs:=by
 obtain ⟨z,y,xs,r,o,es,ep,h1,h2,h3,h4,h5⟩:=(show ObjOk P w H h a (.dT kvs) from rd_of ok e)
 refine ⟨z,y,xs,r,o,es,ep,h1,h2,h3,h4,fun x hx=>?_,h5⟩
 have all : ∀ {l : List (List Key × V)} {m : List (List Key × Addr × Value)},KT H l m->∀ x ∈ m,(tupleKind (mixKind P w)).is h x.1 x.2.1:=by
  intro l m q
  induction q with
  | nil=>intro x hx; exact nomatch hx
  | @cons p q ps qs hq t ih =>
   intro x hx
   rcases List.mem_cons.mp hx with e | hx
   ·subst e
    exact key_of ok (by rw [<- hq.1]; exact hq.2.1)
   ·exact ih x hx
 exact all r x hx
theorem dt_of {kvs : List (List Key × V)} (ok : HOk P w H h) (e : H a = some (.dT kvs)) : kvs.length <= sizeLine/\(a == sysModules) = false /\
  ∃ xs,KT H kvs xs/\h.DictOfH (tupleKind (mixKind P w)) a xs:=dt_rd ok (.inl e)
end
def DGet (H : Hp) (a : Addr) (y : V) (r : Option V) : Prop :=
 (∃ kvs k,Rd H a (.dK kvs)/\y = kV k/\r = valV kvs k) \/ ∃ kvs k b,Rd H a (.dT kvs)/\y = .ref b/\H b = some (.tup (k.map kV))/\r = valV kvs k
def DPut (H : Hp) (a : Addr) (y v : V) (H' : Hp) : Prop :=
 (∃ kvs k,H a = some (.dK kvs)/\y = kV k/\kvs.length < sizeLine/\H' = upd H a (.dK (putK kvs k v))) \/
 ∃ kvs k b,H a = some (.dT kvs)/\y = .ref b/\H b = some (.tup (k.map kV))/\kvs.length < sizeLine/\H' = upd H a (.dT (putK kvs k v))
theorem DGet.k {H : Hp} {a : Addr} {kvs : List (Key × V)} {k : Key} (e : H a = some (.dK kvs)) : DGet H a (kV k) (valV kvs k):=.inl ⟨kvs,k,.inl e,rfl,rfl⟩
theorem DPut.k {H : Hp} {a : Addr} {kvs : List (Key × V)} {k : Key} {v : V} (e : H a = some (.dK kvs)) (hl : kvs.length < sizeLine) : DPut H a (kV k) v (upd H a (.dK (putK kvs k v))):=.inl ⟨kvs,k,e,rfl,hl,rfl⟩
section
variable {X : Cx} {pins : List (Addr × Obj)} {σ : St} {H : Hp} {s : Shared} {a : Addr} {y v : V} {u r : Value} {o : Option V} {A : Around} {E : Value->Shared->Prop}
theorem Inv.big (I : Inv X pins σ H s) : sysModules < s.heap.objs.size:=by
 have h : mainGlobals < s.heap.objs.size:=(I.mod.glob.keeps I.bk).lt
 exact Nat.lt_trans (by decide) h
theorem d_getItem {Q : Value->Shared->Prop} (hu : A.units + 1 < cLine) (I : Inv X pins σ H s) (g : DGet H a y (some v)) (ry : RelV y u) (h : ∀ w' s',Inv X pins σ H s'->RelV v w'->Q w' s') :
  wpAny (model X.prog X.w) A (getItem (.ref a) u) Q E s:=by
 rcases g with ⟨kvs,k,e,ey,l⟩ | ⟨kvs,k,b,e,ey,eb,l⟩
 ·subst ey
  obtain ⟨z,hd,vs,rel,dd⟩:=dk_rd I.hok e
  obtain ⟨w',hw,rw'⟩:=RelO.some_of (v:=v) (o:=valueAt vs k) (by rw [l]; exact rel.val k)
  exact wpAny_getItem_of (kV_is ry) dd.mapOf hw (h w' _ (I.tok _) rw')
 ·subst ey
  cases (show u = Value.ref b from ry)
  obtain ⟨z,hd,xs,rel,dd⟩:=dt_rd I.hok e
  obtain ⟨w',hw,rw'⟩:=RelO.some_of (v:=v) (o:=(atKey xs k).map (·.2)) (by rw [l]; exact rel.val k)
  obtain ⟨p,hp,hp2⟩:=Option.map_eq_some_iff.mp hw
  refine wpAny_getItem_heap (tupleKind_room_in1 hu) (key_of I.hok eb) dd hp ?_
  rw [hp2]
  exact h w' _ (I.tok _) rw'
theorem d_notIn {Q : Value->Shared->Prop} (hu : A.units + 1 < cLine) (I : Inv X pins σ H s) (g : DGet H a y o) (ry : RelV y u) (h : ∀ s',Inv X pins σ H s'->Q (.bool (!o.isSome)) s') :
  wpAny (model X.prog X.w) A (compareOp .NotIn u (.ref a)) Q E s:=by
 rcases g with ⟨kvs,k,e,ey,l⟩ | ⟨kvs,k,b,e,ey,eb,l⟩
 ·subst ey
  obtain ⟨z,hd,vs,rel,dd⟩:=dk_rd I.hok e
  refine wpAny_notIn_of (kV_is ry) hd dd.mapOf ?_
  rw [<- (rel.val k).isSome_eq,<- l]
  exact h _ (I.tok _)
 ·subst ey
  cases (show u = Value.ref b from ry)
  obtain ⟨z,hd,xs,rel,dd⟩:=dt_rd I.hok e
  refine wpAny_notIn_heap (tupleKind_room_in1 hu) (key_of I.hok eb) hd dd ?_
  have q:=(rel.val k).isSome_eq
  rw [Option.isSome_map] at q
  rw [<- q,<- l]
  exact h _ (I.tok _)
theorem d_write {h' : Heap} {t' : Nat} {ob : HO} (I : Inv X pins σ H s) (mu : Mut (H a)) (hs : Heap.SameBut a s.heap h') (he : ∃ q,h'.get? a = some q) (new : ObjOk X.prog X.w (upd H a ob) h' a ob) :
  Inv X pins σ (upd H a ob) { s with heap:=h',toks:=t' } :=
 I.write (x:=a) (e:=a) mu (.inl rfl) (fun b q hb z=>(hs.2 b hb).trans z) he new
theorem dk_new {P : Program} {w : World} {H' : Hp} {h' : Heap} {kvs : List (Key × V)} {vs : List (Key × Value)} (z : kvs.length <= sizeLine) (hd : (a == sysModules) = false) (rel : KV kvs vs) (dd : h'.DictOf (mixKind P w) a vs) :
  ObjOk P w H' h' a (.dK kvs):=⟨z,hd,vs,rel,dd⟩
theorem d_setItem {H' : Hp} {Q : Unit->Shared->Prop} (hu : A.units + 1 < cLine) (I : Inv X pins σ H s) (g : DPut H a y v H') (ry : RelV y u) (rv : RelV v r) (h : ∀ s',Inv X pins σ H' s'->Q () s') :
  wpAny (model X.prog X.w) A (setItem (.ref a) u r) Q E s:=by
 rcases g with ⟨kvs,k,e,ey,l,eH⟩ | ⟨kvs,k,b,e,ey,eb,l,eH⟩
 ·subst ey eH
  obtain ⟨z,hd,vs,rel,dd⟩:=dk_of I.hok e
  have hz : vs.length <= sizeLine:=by rw [<- rel.length]; exact z
  have hl : (putK kvs k v).length <= sizeLine:=by have:=length_putK kvs k v; omega
  refine wpAny_setItem_pairs (hsz:=hz) (kV_is ry) dd fun h' dd' hs=>h _ ?_
  have he : ∃ q,h'.get? a = some q:=let ⟨q,_,_,hq,_⟩:=dd'; ⟨q,hq⟩
  exact d_write I (by rw [e]; exact True.intro) hs he (dk_new hl hd (rel.put k rv) dd')
 ·subst ey eH
  cases (show u = Value.ref b from ry)
  obtain ⟨z,hd,xs,rel,dd⟩:=dt_of I.hok e
  have hz : xs.length <= sizeLine:=by rw [<- Paired.length rel]; exact z
  have hl : (putK kvs k v).length <= sizeLine:=by have:=length_putK kvs k v; omega
  refine wpAny_setItem_heap (hsz:=hz) (tupleKind_room_in1 hu) (key_of I.hok eb) dd fun h' dd' hs=>h _ ?_
  obtain ⟨q,es,ep,hq,h2,h3,h4,_,h5⟩:=dd'
  refine d_write I (by rw [e]; exact True.intro) hs ⟨q,hq⟩ ⟨hl,hd,_,(rel.put k eb rv).keeps fun c ys ec=>?_,q,es,ep,hq,h2,h3,h4,h5⟩
  rw [upd_ne (ne_of ec e (fun z=>nomatch z))]
  exact ec
end
section
variable {X : Cx} {pins : List (Addr × Obj)} {σ : St} {H : Hp} {s : Shared} {a : Addr} {kvs : List (Key × V)} {k : Key} {u : Value} {A : Around} {E : Value->Shared->Prop}
end
def NoSl (i : Expr) : Prop:=∀ ov iv,subscripted i false ov iv = operate [ov,iv] (getItem ov iv)
theorem subD_of {prog : Program} {w : World} {A : Around} {E : Value->Shared->Prop} {s : Shared} {env : Env} {value slice : Expr} {pos : Pos} {T id : String} {Q : Value->Shared->Prop}
  (hl : typeLookup (.type T) "__getitem__" = pure (some (.builtin id))) (hs : NoSl slice)
  (h : wpAny (model prog w) A (eval value env) (fun o s₁=>wpAny (model prog w) A (eval slice env) (fun i s₂=>s₂.TypeIs o T/\wpAny (model prog w) A (getItem o i) Q E s₂) E s₁) E s) :
  wpAny (model prog w) A (eval (.Subscript value slice pos) env) Q E s:=by
 refine Subscript_ (wpAny_mono h (fun o s₁ h₁=>wpAny_mono h₁ (fun i s₂ h₂=>?_) fun _ _ x=>x) fun _ _ x=>x)
 obtain ⟨hT,h₂⟩:=h₂
 unfold subscriptTail
 refine wpAny_bind ?_
 rw [getitemInPython_of_ne hT.not_modules]
 refine wpAny_bind (wpAny_specialOf hT hl ?_)
 have fin : wpAny (model prog w) A (subscripted slice false o i) (fun r s₃=>wpAny (model prog w) A (letTemporaryGo value o r >>= fun _=>pure r) Q E s₃) E s₂:=by
  rw [hs o i]
  exact wpAny_operating (wpAny_mono h₂ (fun r s₃ h₃=>wpAny_bind (wpAny_letTemporaryGo (wpAny_pure h₃))) fun _ _ x=>x)
 first
  | exact wpAny_pure (wpAny_bind fin)
  | exact wpAny_bind (wpAny_pure (wpAny_bind fin))
  | exact wpAny_bind fin
theorem dict_typeIs {X : Cx} {pins : List (Addr × Obj)} {σ : St} {H : Hp} {s : Shared} {a : Addr} {y : V} {o : Option V} (I : Inv X pins σ H s) (g : DGet H a y o) : s.TypeIs (.ref a) "dict":=by
 rcases g with ⟨kvs,k,e,_,_⟩ | ⟨kvs,k,b,e,_,_,_⟩
 ·obtain ⟨_,_,vs,_,dd⟩:=dk_rd I.hok e
  exact dd.typeIs
 ·obtain ⟨_,_,xs,_,dd⟩:=dt_rd I.hok e
  exact dd.typeIs
def tDGet (td ty : TE) : TE:=fun σ H Q=>td σ H fun x H1=>ty σ H1 fun y H2=>∃ a v,x = .ref a/\DGet H2 a y (some v)/\Q v H2
def tDIn (ty td : TE) : TE:=fun σ H Q=>ty σ H fun y H1=>td σ H1 fun x H2=>∃ a o,x = .ref a/\DGet H2 a y o/\Q (.bl o.isSome) H2
def tDNotIn (ty td : TE) : TE:=fun σ H Q=>ty σ H fun y H1=>td σ H1 fun x H2=>∃ a o,x = .ref a/\DGet H2 a y o/\Q (.bl (!o.isSome)) H2
def sDPut (td ty tv : TE) : TS:=fun D σ H=>tv σ H fun v H1=>td σ H1 fun x H2=>ty σ H2 fun y H3=>∃ a H4,x = .ref a/\DPut H3 a y v H4/\D.nx σ H4
def sDAug (td ty tv : TE) (rd : V->V->Hp->VK->Prop) : TS:=fun D σ H=>td σ H fun x H1=>ty σ H1 fun y H2=>∃ a v,x = .ref a/\DGet H2 a y (some v) /\
 tv σ H2 fun y2 H3=>rd v y2 H3 fun z H4=>∃ H5,DPut H4 a y z H5/\D.nx σ H5
def sDDel (td ty : TE) : TS:=fun D σ H=>td σ H fun x H1=>ty σ H1 fun y H2=>∃ a kvs k,x = .ref a/\H2 a = some (.dK kvs)/\y = kV k/\(valV kvs k).isSome = true/\D.nx σ (upd H2 a (.dK (dropK kvs k)))
section
variable {X : Cx} {o i e value : Expr} {pos pos' tpos : Pos} {td ty tv : TE}
theorem pe_dget (hu : X.A.units + 1 < cLine) (ho : PE X o td) (hi : PE X i ty) (hs : NoSl i) : PE X (.Subscript o i pos) (tDGet td ty):=by
 intro pins s σ H Q I h
 refine subD_of PySem.F.slot_dict_getitem.lookup hs (thn (ho pins s σ H _ I h) fun u s1 ⟨x,H1,I1,rx,q1⟩=>thn (hi pins s1 σ H1 _ I1 q1) fun iv s2 ⟨y,H2,I2,ry,a,v,ex,g,q2⟩=>?_)
 subst ex
 obtain rfl : u = Value.ref a:=rx
 exact ⟨dict_typeIs I2 g,d_getItem hu I2 g ry fun w' s3 I3 rw'=>⟨v,H2,I3,rw',q2⟩⟩
theorem pc_dnotin (hu : X.A.units + 1 < cLine) (hi : PE X i ty) (ho : PE X o td) : PC X .NotIn i o (tDNotIn ty td):=by
 intro pins s σ H Q I h
 refine thn (hi pins s σ H _ I h) fun iv s1 ⟨y,H1,I1,ry,q1⟩=>thn (ho pins s1 σ H1 _ I1 q1) fun u s2 ⟨x,H2,I2,rx,a,ov,ex,g,q2⟩=>?_
 subst ex
 obtain rfl : u = Value.ref a:=rx
 exact d_notIn hu I2 g ry fun s3 I3=>⟨.bl (!ov.isSome),H2,I3,rfl,q2⟩
theorem ps_dput (hu : X.A.units + 1 < cLine) (ho : PE X o td) (hi : PE X i ty) (hv : PE X value tv) (hs : swapsWith value (some (.Subscript o i pos')) pos.line X.env = pure false) :
  PS X (.Assign [.Subscript o i pos'] value pos) (sDPut td ty tv):=by
 intro pins s σ H D I h
 refine wpAny_Assign_Subscript (thn (hv pins s σ H _ I h) fun r s1 ⟨v,H1,I1,rv,q1⟩=>thn (ho pins s1 σ H1 _ I1 q1) fun u s2 ⟨x,H2,I2,rx,q2⟩=>thn (hi pins s2 σ H2 _ I2 q2) fun iv s3 ⟨y,H3,I3,ry,a,H4,ex,g,q3⟩=>?_) hs
 subst ex
 obtain rfl : u = Value.ref a:=rx
 exact d_setItem hu I3 g ry rv fun s4 I4=>⟨σ,H4,I4,q3⟩
end
theorem dk_empty {P : Program} {w : World} {H : Hp} (h : Heap) (hb : sysModules < h.objs.size) : ObjOk P w H (h.push { cls:=.type "dict",data:=.dict #[] }) h.objs.size (.dK []) :=
 ⟨Nat.zero_le _,beq_eq_false_iff_ne.mpr (Ne.symm (Nat.ne_of_lt hb)),[],.nil,Heap.DictOf.new h⟩
def tDNewK : TE:=fun _ H Q=>∀ p,H p = none->Q (.ref p) (upd H p (.dK []))
def tDNewT : TE:=fun _ H Q=>∀ p,H p = none->Q (.ref p) (upd H p (.dT []))
section
variable {X : Cx} {pos : Pos}
theorem pe_dnewK : PE X (.Dict [] [] pos) tDNewK:=fun pins s σ H Q I h =>
 wpAny_Dict_empty ⟨.ref s.heap.objs.size,_,I.laid (a:=s.heap.objs.size) (o:=.dK []) (t':=s.toks) (fun _ _ q=>Heap.get?_push_of_some _ q) (Nat.le_refl _) (dk_empty s.heap I.big),rfl,h _ (I.hok.fresh (Nat.le_refl _))⟩
end
def tPairs : List (TE × TE)->St->Hp->(List (V × V)->Hp->Prop)->Prop
 | [],_,H,Q=>Q [] H
 | (tk,tv) :: r,σ,H,Q=>tk σ H fun x H1=>tv σ H1 fun y H2=>tPairs r σ H2 fun ps H3=>Q ((x,y) :: ps) H3
abbrev VV : List (V × V)->List (Value × Value)->Prop:=Paired fun p q=>RelV p.1 q.1/\RelV p.2 q.2
def PPs (X : Cx) (pos : Pos) (keys : List (Option Expr)) (values : List Expr) (trs : List (TE × TE)) : Prop :=
 ∀ (pins : List (Addr × Obj)) (s : Shared) (σ : St) (H : Hp) (Q : List (V × V)->Hp->Prop),Inv X pins σ H s->tPairs trs σ H Q ->
  wpAny (model X.prog X.w) X.A (evalPairs (pairTrees keys values X.env pos)) (fun vs s'=>∃ ps H',Inv X pins σ H' s'/\VV ps vs/\Q ps H') X.xe s
theorem pps_nil {X : Cx} {pos : Pos} : PPs X pos [] [] []:=fun pins s σ H Q I h=>pairTrees_nil_walk ⟨[],H,I,.nil,h⟩
theorem pps_cons {X : Cx} {pos : Pos} {k v : Expr} {ks : List (Option Expr)} {vs : List Expr} {tk tv : TE} {trs : List (TE × TE)} (hk : PE X k tk) (hv : PE X v tv) (hr : PPs X pos ks vs trs) :
  PPs X pos (some k :: ks) (v :: vs) ((tk,tv) :: trs):=fun pins s σ H Q I h =>
 pairTrees_cons_walk (thn (hk pins s σ H _ I h) fun u s1 ⟨x,H1,I1,rx,q1⟩=>thn (hv pins s1 σ H1 _ I1 q1) fun w2 s2 ⟨y,H2,I2,ry,q2⟩ =>
  thn (hr pins s2 σ H2 _ I2 q2) fun ws s3 ⟨ps,H3,I3,rel,q3⟩=>⟨(x,y) :: ps,H3,I3,.cons ⟨rx,ry⟩ rel,q3⟩)
def mergeK (kvs more : List (Key × V)) : List (Key × V):=more.foldl (fun acc kv=>putK acc kv.1 kv.2) kvs
theorem KV.merge : ∀ {more : List (Key × V)} {rs : List (Key × Value)} {kvs : List (Key × V)} {vs : List (Key × Value)},KV more rs->KV kvs vs->KV (mergeK kvs more) (merged vs rs):=by
 intro more rs kvs vs r
 unfold KV at r
 induction r generalizing kvs vs with
 | nil=>intro q; exact q
 | @cons p q ps qs h t ih =>
  intro r0
  have e : KV (putK kvs p.1 p.2) (stored vs q.1 q.2):=by
   have:=r0.put p.1 h.2
   rw [<- h.1]; exact this
  exact ih e
theorem length_mergeK : ∀ (more kvs : List (Key × V)),(mergeK kvs more).length <= kvs.length + more.length
 | [],kvs=>by show kvs.length <= kvs.length + 0; omega
 | p :: r,kvs=>by
  have h1:=length_mergeK r (putK kvs p.1 p.2)
  have h2:=length_putK kvs p.1 p.2
  show (mergeK (putK kvs p.1 p.2) r).length <= _
  rw [List.length_cons]; omega
theorem carries_of {P : Program} {w : World} : ∀ {kvs : List (Key × V)} {ws : List (Value × Value)},VV (kvs.map fun kv=>(kV kv.1,kv.2)) ws->∃ rs,Carries (mixKind P w) ws rs/\KV kvs rs
 | [],_,r=>by rw [List.map_nil] at r; cases r; exact ⟨[],True.intro,.nil⟩
 | p :: kvs,_,r=>by
  rw [List.map_cons] at r
  cases r with
  | @cons a b as bs h t =>
   obtain ⟨rs,c,q⟩:=carries_of (P:=P) (w:=w) t
   obtain ⟨b1,b2⟩:=b
   exact ⟨(p.1,b2) :: rs,⟨kV_is h.1,rfl,c⟩,.cons ⟨rfl,h.2⟩ q⟩
def tDisp (trs : List (TE × TE)) : TE:=fun σ H Q=>∀ p,H p = none->tPairs trs σ (upd H p (.dK [])) fun ps H2=>H2 p = some (.dK [])/\∃ kvs : List (Key × V),ps = kvs.map (fun kv=>(kV kv.1,kv.2))/\kvs.length <= 15/\Q (.ref p) (upd H2 p (.dK (mergeK [] kvs)))
theorem pe_disp {X : Cx} {pos : Pos} {keys : List (Option Expr)} {values : List Expr} {trs : List (TE × TE)} (h : PPs X pos keys values trs) (hall : keys.all (·.isSome) = true) (hl : keys.length = values.length) (h0 : keys ≠ [])
  (h15 : keys.length <= 15) : PE X (.Dict keys values pos) (tDisp trs):=by
 intro pins s σ H Q I q
 have hn:=I.hok.fresh (Nat.le_refl s.heap.objs.size)
 have I1:=I.laid (a:=s.heap.objs.size) (o:=.dK []) (h':=s.heap.push { cls:=.type "dict",data:=.dict #[] }) (t':=s.toks) (fun _ _ q=>Heap.get?_push_of_some _ q) (Nat.le_refl _) (dk_empty s.heap I.big)
 refine wpAny_Dict_walk (knd:=mixKind X.prog X.w) hall hl h0 h15 (thn (h pins _ σ _ _ I1 (q _ hn)) fun ws s2 ⟨ps,H2,I2,rel,e,kvs,ep,lk,q2⟩=>?_)
 subst ep
 obtain ⟨rs,c,rk⟩:=carries_of (P:=X.prog) (w:=X.w) rel
 obtain ⟨z,hd,vs0,r0,dd⟩:=dk_of I2.hok e
 cases r0
 refine ⟨rs,c,dd,fun h' dd' hs=>⟨.ref s.heap.objs.size,_,?_,rfl,q2⟩⟩
 have hz : (mergeK [] kvs).length <= sizeLine:=by
  have h1:=length_mergeK kvs []
  rw [List.length_nil] at h1
  rw [sizeLine_eq]; omega
 have he : ∃ q,h'.get? s.heap.objs.size = some q:=let ⟨q,_,_,hq,_⟩:=dd'; ⟨q,hq⟩
 exact d_write I2 (by rw [e]; exact True.intro) hs he (dk_new hz hd (rk.merge .nil) dd')
structure M1 (X : Cx) (o : Expr) (m : Str) (apos : Pos) (e : Expr) (cpos : Pos) : Prop where
 base : attributeBase o m X.env (eval o X.env) = eval o X.env
 few : ((backTo cpos (starEach [e] X.env)).all (fun x=>!x.1) && (backToKw cpos (keywordEach [] X.env)).all (fun x=>x.1.isSome)
  && decide (([e] : List Expr).length + ([] : List Keyword).length + (if ([] : List Keyword).isEmpty then 0 else 1) < 30)) = true
 line : (apos.endLine == cpos.line) = true
 trees : backTo cpos (starEach [e] X.env) = [(false,eval e X.env)]
structure M2 (X : Cx) (o : Expr) (m : Str) (apos : Pos) (e f : Expr) (cpos : Pos) : Prop where
 base : attributeBase o m X.env (eval o X.env) = eval o X.env
 few : ((backTo cpos (starEach [e,f] X.env)).all (fun x=>!x.1) && (backToKw cpos (keywordEach [] X.env)).all (fun x=>x.1.isSome)
  && decide (([e,f] : List Expr).length + ([] : List Keyword).length + (if ([] : List Keyword).isEmpty then 0 else 1) < 30)) = true
 line : (apos.endLine == cpos.line) = true
 trees : backTo cpos (starEach [e,f] X.env) = [(false,eval e X.env),(false,eval f X.env)]
def IsD (H : Hp) (a : Addr) : Prop:=(∃ kvs,Rd H a (.dK kvs)) \/ ∃ kvs,Rd H a (.dT kvs)
theorem isD_at {X : Cx} {pins : List (Addr × Obj)} {σ : St} {H : Hp} {s : Shared} {a : Addr} (I : Inv X pins σ H s) (d : IsD H a) :
  s.TypeIs (.ref a) "dict"/\(∀ b,Value.ref a = .ref b->∃ ob,s.heap.get? b = some ob/\ob.dict = none)/\(a == sysModules) = false:=by
 rcases d with ⟨kvs,e⟩ | ⟨kvs,e⟩
 ·obtain ⟨_,hd,vs,_,dd⟩:=dk_rd I.hok e
  refine ⟨dd.typeIs,fun b q=>?_,hd⟩
  cases q
  obtain ⟨ob,_,_,h1,h2,_⟩:=dd
  exact ⟨ob,h1,h2.2.1⟩
 ·obtain ⟨_,hd,xs,_,dd⟩:=dt_rd I.hok e
  refine ⟨dd.typeIs,fun b q=>?_,hd⟩
  cases q
  obtain ⟨ob,_,_,h1,h2,_⟩:=dd
  exact ⟨ob,h1,h2.2.1⟩
section
variable {X : Cx} {pins : List (Addr × Obj)} {σ : St} {H : Hp} {s : Shared} {a : Addr} {y d : V} {u r : Value} {o : Option V} {A : Around} {E : Value->Shared->Prop}
theorem d_get2 {Q : Value->Shared->Prop} (hu : A.units + 1 < cLine) (I : Inv X pins σ H s) (g : DGet H a y o) (ry : RelV y u) (rd : RelV d r) (h : ∀ w' s',Inv X pins σ H s'->RelV (o.getD d) w'->Q w' s') :
  wpAny (model X.prog X.w) A (call (.builtin "dict.get") [.ref a,u,r]) Q E s:=by
 rcases g with ⟨kvs,k,e,ey,l⟩ | ⟨kvs,k,b,e,ey,eb,l⟩
 ·subst ey
  obtain ⟨z,hd,vs,rel,dd⟩:=dk_rd I.hok e
  refine call_meetsIn PySem.F.slot_dict_get dd.typeIs PySem.F.entry_dict_get (PySem.F.args_dict_get_3 _ _ _) (meets_dict_get_default (mixKind X.prog X.w) a (kV_is ry) hd r) ⟨_,dd.mapOf,h _ _ (I.tok _) ?_⟩
  rw [l]
  exact (rel.val k).getD rd
 ·subst ey
  cases (show u = Value.ref b from ry)
  obtain ⟨z,hd,xs,rel,dd⟩:=dt_rd I.hok e
  refine call_meetsIn PySem.F.slot_dict_get dd.typeIs PySem.F.entry_dict_get (PySem.F.args_dict_get_3 _ _ _) (meetsH_dict_get_default (tupleKind (mixKind X.prog X.w)) a b hd r) ⟨tupleKind_room_in1 hu,k,xs,key_of I.hok eb,dd,h _ _ (I.tok _) ?_⟩
  rw [l]
  exact (rel.val k).getD rd
end
def tDGet1 (td ty : TE) : TE:=fun σ H Q=>td σ H fun x H1=>∃ a,x = .ref a/\IsD H1 a/\ty σ H1 fun y H2=>∃ o,DGet H2 a y o/\Q (o.getD .non) H2
def tDGet2 (td ty tx : TE) : TE:=fun σ H Q=>td σ H fun x H1=>∃ a,x = .ref a/\IsD H1 a/\ty σ H1 fun y H2=>tx σ H2 fun z H3=>∃ o,DGet H3 a y o/\Q (o.getD z) H3
def tDPop1 (td ty : TE) : TE:=fun σ H Q=>td σ H fun x H1=>∃ a,x = .ref a/\IsD H1 a/\ty σ H1 fun y H2=>∃ kvs k v,H2 a = some (.dK kvs)/\y = kV k/\valV kvs k = some v/\Q v (upd H2 a (.dK (dropK kvs k)))
def tDPop2 (td ty tx : TE) : TE:=fun σ H Q=>td σ H fun x H1=>∃ a,x = .ref a/\IsD H1 a/\ty σ H1 fun y H2=>tx σ H2 fun z H3=>∃ kvs k,H3 a = some (.dK kvs)/\y = kV k /\
 (∀ v,valV kvs k = some v->Q v (upd H3 a (.dK (dropK kvs k))))/\(valV kvs k = none->Q z H3)
section
variable {X : Cx} {o e f : Expr} {apos cpos : Pos} {td ty tx : TE}
theorem pe_dget2 (hu : X.A.units + 1 < cLine) (ho : PE X o td) (he : PE X e ty) (hf : PE X f tx) (m : M2 X o "get" apos e f cpos) : PE X (.Call (.Attribute o "get" apos) [e,f] [] cpos) (tDGet2 td ty tx):=by
 intro pins s σ H Q I h
 refine wpAny_Call_method m.base m.few m.line PySem.F.plainAttrs_dict PySem.F.slot_dict_get PySem.F.type_dict_get (thn (ho pins s σ H _ I h) fun u s1 ⟨x,H1,I1,rx,a,ex,d,q1⟩=>?_)
 subst ex
 obtain rfl : u = Value.ref a:=rx
 obtain ⟨t1,t2,_⟩:=isD_at I1 d
 refine ⟨t1,t2,?_⟩
 rw [m.trees]
 refine Calls.callWith_builtin rfl (Calls.evalArgs_plain (Calls.spliced_cons (thn (he pins s1 σ H1 _ I1 q1) fun iv s2 ⟨y,H2,I2,ry,q2⟩ =>
  Calls.spliced_cons (thn (hf pins s2 σ H2 _ I2 q2) fun fv s3 ⟨z,H3,I3,rz,ov,g,q3⟩=>Calls.spliced_nil ?_))))
 exact d_get2 hu I3 g ry rz fun w' s4 I4 rw'=>⟨_,H3,I4,rw',q3⟩
end
section
variable {X : Cx} {pins : List (Addr × Obj)} {σ : St} {H : Hp} {s : Shared} {a : Addr} {kvs : List (Key × V)} {A : Around} {E : Value->Shared->Prop}
end
section
variable {X : Cx} {pins : List (Addr × Obj)} {σ : St} {H : Hp} {s : Shared} {a : Addr} {y : V} {u : Value} {A : Around} {E : Value->Shared->Prop}
end
end L2
namespace L2
open PySem PySem.Spec PyProof.Rows
section
variable {X : Cx}
end
section
variable {κ : Type} [DecidableEq κ]
theorem valV_not {kvs : List (κ × V)} {k : κ} (h : valV kvs k = none) : ¬ k ∈ kvs.map (·.1):=by
 intro m
 obtain ⟨p,hp,e⟩:=List.mem_map.mp m
 have q : (kvs.any fun kv=>decide (kv.1 = k)) = true:=List.any_eq_true.mpr ⟨p,hp,decide_eq_true e⟩
 rw [valV_any,h] at q
 exact absurd q (by simp)
theorem nd_snoc : ∀ {l : List κ} {k : κ},l.Nodup->¬ k ∈ l->(l ++ [k]).Nodup
 | [],k,_,_=>by simp
 | a :: r,k,h,hk=>by
  obtain ⟨h1,h2⟩:=List.nodup_cons.mp h
  show (a :: (r ++ [k])).Nodup
  refine List.nodup_cons.mpr ⟨fun m=>?_,nd_snoc h2 fun m=>hk (List.mem_cons.mpr (Or.inr m))⟩
  rcases List.mem_append.mp m with q | q
  ·exact h1 q
  ·exact hk (List.mem_cons.mpr (Or.inl (List.mem_singleton.mp q).symm))
theorem nd_putK {kvs : List (κ × V)} {k : κ} (v : V) (hn : (kvs.map (·.1)).Nodup) (h : valV kvs k = none) : ((putK kvs k v).map (·.1)).Nodup:=by
 rw [putK_new v h,List.map_append]
 exact nd_snoc hn (valV_not h)
end
end L2
set_option maxHeartbeats 4000000
namespace L2
open PySem PySem.Spec PyProof.Rows
section
variable {X : Cx} {pins : List (Addr × Obj)} {σ : St} {H : Hp} {s : Shared} {h' : Heap}
theorem Inv.turnedL {t' : Nat} {ch : List Addr} (I : Inv X pins σ H s) (k : ∀ b o,b ∉ ch->s.heap.get? b = some o->h'.get? b = some o) (hf : ∀ b ∈ ch,FpOk X pins H b) : Inv X pins σ H { s with heap:=h',toks:=t' }:=by
 have nit : ∀ b u,H b = some u->b ∉ ch:=fun b u e z=>by rw [(hf b z).1] at e; cases e
 refine I.step (g':=s.gens) (d':=s.drawn) (ch:=ch) (fun b hb=>⟨(hf b hb).2.2.2.1,(hf b hb).2.1,(hf b hb).2.2.2.2.1,(hf b hb).2.2.2.2.2⟩) (fun b o _ _ hc e _=>k b o hc e) (fun b o _ _ hc e _=>⟨o.slots,k b o hc e⟩) (fun _ _ _ _ n=>n)
  (fun b o hc e=>⟨o,k b o hc e⟩) (fun _ _ e=>e) (fun _ _ _ e=>e) (fun b ps e=>⟨#[],by rw [e]; simp⟩) (fun m hm=>?_) (fun b u e=>?_) I.bare
 ·obtain ⟨o,es,ep,ho,r⟩:=hm
  exact ⟨o,es,ep,k _ o (fun z=>(hf _ z).2.1 rfl) ho,r⟩
 ·refine (I.hok b u e).stay (fun c v hc q=>k c v ?_ q) (fun _ q=>q) fun _ _ q=>q
  rcases hc with z | z
  ·rw [z]; exact nit b u e
  ·exact nit c _ z
end
def Ite (K : PySem.W.Frag) (a : Addr) : It :=
 ⟨fun i H=>∃ xs x,SqL K H a xs/\xs[i]? = some x,fun i H x H'=>∃ p v,x = .ref p/\H p = none/\H' = upd H p (.tup [.int (i : Int),v])/\∀ xs,SqL K H a xs->xs[i]? = some v,fun i H=>∃ xs,SqL K H a xs/\xs.length <= i⟩
theorem turn_enum {P : Program} {w : World} {K : PySem.W.Frag} {elts : List Expr} {x1} {pos : Pos} (a e it : Addr) (hne : e ≠ it) :
  Turn P w K (.Tuple elts x1 pos) (Ite K a) [e,it] e (fun i h=>∃ old,IsEnum h e it (i : Int) old/\h.IsListIter it a i) where
 mem:=by simp
 obj:=fun i h st b hb=>by
  obtain ⟨old,he,o,e1,c,d⟩:=st
  have hb' : b = e \/ b = it:=by simpa using hb
  rcases hb' with rfl | rfl
  ·exact ⟨_,he,fun v z=>by
    have z' : Data.fields _ = Data.cell v:=z
    cases z'⟩
  ·exact ⟨o,e1,fun v z=>by rw [d] at z; cases z⟩
 keep:=fun i h h' st k=>by
  obtain ⟨old,he,hi⟩:=st
  exact ⟨old,k e (by simp) _ he,hi.at fun o q=>k it (by simp) o q⟩
 item:=by
  intro X hP hw hK hc i pins s σ H E I hf st hg
  subst hP hw hK
  obtain ⟨xs,x,hq,hx⟩:=hg
  obtain ⟨old,he,hit⟩:=st
  obtain ⟨its,rv,p,hz⟩:=I.list hq
  obtain ⟨u,hu,ru⟩:=rv.get hx
  refine wpAny_pyNext_enum_item he hit p.isList (x:=u) (by simpa using hu) hne fun h1 eo hit1 ht hz1 hk1=>?_
  refine ⟨_,rfl,wpAny_letOwnedTupleGo_enum (s:={ s with heap:=h1,toks:=s.toks + 1 }) eo fun h2 he2 hs2=>?_⟩
  have hs2' : Heap.SameBut e h1 h2:=hs2
  have nH : H s.heap.objs.size = none:=I.hok.fresh (Nat.le_refl _)
  have eL : e < s.heap.objs.size:=Heap.lt_size he
  obtain ⟨oi,hoi,ci,di⟩:=id hit
  have iL : it < s.heap.objs.size:=Heap.lt_size hoi
  have ht2 : h2.get? s.heap.objs.size = some { cls:=.type "tuple",data:=.seq #[.int i s.toks,u] }:=(hs2'.2 _ (Nat.ne_of_gt eL)).trans ht
  have pg : (s.heap.push { cls:=.type "tuple",data:=.seq #[.int i s.toks,u] }).get? s.heap.objs.size = some { cls:=.type "tuple",data:=.seq #[.int i s.toks,u] }:=Heap.get?_push_size _ rfl
  have J1:=I.laid (a:=s.heap.objs.size) (o:=.tup [.int (i : Int),x]) (h':=s.heap.push { cls:=.type "tuple",data:=.seq #[.int i s.toks,u] }) (t':=s.toks) (fun b v z=>Heap.get?_push_of_some _ z) (Nat.le_refl _)
   ⟨(by show 2 <= sizeLine; decide),[.int i s.toks,u],.cons ⟨_,rfl⟩ (.cons ru .nil),⟨_,pg,rfl,_,rfl⟩⟩
  have fp' : ∀ b ∈ [e,it],FpOk X pins (upd H s.heap.objs.size (.tup [.int (i : Int),x])) b:=fun b hb=>by
   obtain ⟨f0,f1,f2,f3,f4,f5⟩:=hf b hb
   have hb' : b = e \/ b = it:=by simpa using hb
   refine ⟨?_,f1,f2,f3,f4,f5⟩
   rw [upd_ne (by rcases hb' with rfl | rfl; exact Nat.ne_of_lt eL; exact Nat.ne_of_lt iL)]
   exact f0
  have J2:=J1.turnedL (h':=h2) (t':=s.toks + 1) (ch:=[e,it]) (fun b o hb z=>by
   have n1 : b ≠ e:=fun y=>hb (by simp [y])
   have n2 : b ≠ it:=fun y=>hb (by simp [y])
   by_cases hp : b = s.heap.objs.size
   ·subst hp
    have z' : s.heap.objs.size = s.heap.objs.size->(s.heap.push { cls:=.type "tuple",data:=.seq #[.int i s.toks,u] }).get? s.heap.objs.size = some o:=fun _=>z
    rw [pg] at z'
    have:=z' rfl
    cases this
    exact ht2
   ·have z2 : s.heap.get? b = some o:=get_push_ne z hp
    exact (hs2'.2 b n1).trans (hk1 b o n1 n2 z2)) fp'
  refine ⟨.ref s.heap.objs.size,_,J2,rfl,⟨_,x,rfl,nH,rfl,fun ys hy=>by rw [I.list_inj hy hq]; exact hx⟩,⟨u,?_,?_⟩,fun b hb=>(fp' b hb).1⟩
  ·have e1 : ((i : Int) + 1) = ((i + 1 : Nat) : Int):=by omega
   rw [<- e1]
   exact he2
  ·exact hit1.at fun o q=>(hs2'.2 it (Ne.symm hne)).trans q
 done:=by
  intro X hP hw hK hc i pins s σ H E I hf st hg
  subst hP hw hK
  obtain ⟨xs,hq,hx⟩:=hg
  obtain ⟨old,he,hit⟩:=st
  obtain ⟨its,rv,p,hz⟩:=I.list hq
  have hl:=rv.length
  refine wpAny_pyNext_enum_end (I.ok.hd hc) he hit p.isList (by simp; omega) fun h' eb=>⟨rfl,I.turnedL (t':=s.toks) (ch:=[e,it]) (fun b o hb z=>eb b o (fun y=>hb (by simp [y])) z) hf⟩
 self:=fun _ _ _ _ _ st h=>by
  obtain ⟨old,he,_⟩:=st
  exact wpAny_pyIter_enum he h
def iEnum (K : PySem.W.Frag) (ta : TA) : TI:=fun σ H R=>ta σ H fun vs H1=>∃ a,vs = [.ref a]/\(∃ xs,SqL K H1 a xs)/\R (Ite K a) H1
section
variable {X : Cx}
theorem pi_enum {elts : List Expr} {x1} {tpos p pos : Pos} {a : Expr} {ta : TA} (hg : Gl X "enumerate") (hm : X.mg "enumerate" = none) (hbt : bootBuiltins "enumerate" = some (.type "enumerate")) (ha : PA X [a] ta) (hs : starEach [a] X.env = [(false,eval a X.env)]:=by rfl) :
  PI X (.Tuple elts x1 tpos) (.Call (.Name "enumerate" p) [a] [] pos) (iEnum X.K ta):=by
 intro pins s σ H R I h
 refine Call_ (ld_blt I hg hm hbt (PyProof.Rows.callWith_type1 (thn (ha pos pins s σ H _ I h) fun us s1 ⟨vs,H1,I1,r1,q1⟩=>?_) hs rfl))
 obtain ⟨a,rfl,⟨xs,hq⟩,q⟩:=q1
 obtain ⟨u,rfl,ru⟩:=vals1 r1
 cases ru
 obtain ⟨its,rv,pl,hz⟩:=I1.list hq
 refine call_enumerate_list pl.isList fun h' he hi hsz hk=>?_
 refine wpAny_pyIter_enum he ?_
 have I2 : Inv X pins σ H1 { s1 with heap:=h' }:=I1.kept (t':=s1.toks) hk
 refine ⟨s1.heap.objs.size + 1,[s1.heap.objs.size + 1,s1.heap.objs.size],_,_,H1,rfl,I2,turn_enum a _ _ (Nat.succ_ne_self _),⟨_,he,hi⟩,fun b hb=>?_,q⟩
 have hb' : b = s1.heap.objs.size + 1 \/ b = s1.heap.objs.size:=by simpa using hb
 rcases hb' with rfl | rfl
 ·exact I1.fpOk (Nat.le_succ _) (I1.hok.fresh (Nat.le_succ _))
 ·exact I1.fpOk (Nat.le_refl _) (I1.hok.fresh (Nat.le_refl _))
theorem for_enum {K : PySem.W.Frag} {a : Addr} {xs : List V} {g : TG} {tb : TS} {D : Ends} {σ : St} {H : Hp} (Pv : Nat->St->Hp->Prop) (h0 : Pv 0 σ H) (hl : ∀ i σ H,i <= xs.length->Pv i σ H->SqL K H a xs)
  (hs : ∀ i x σ H p,xs[i]? = some x->Pv i σ H->H p = none->g (.ref p) σ (upd H p (.tup [.int (i : Int),x])) fun σ2 H2=>tb { D with nx:=Pv (i + 1),ct:=Pv (i + 1),bk:=D.nx } σ2 H2) (hd : ∀ σ H,Pv xs.length σ H->D.nx σ H) :
  ∃ W : Nat->Nat->St->Hp->Prop,(∃ m,W 0 m σ H)/\∀ i m σ H,W i m σ H ->
   ((Ite K a).stop i H/\D.nx σ H) \/ ((Ite K a).go i H/\∃ N : St->Hp->Prop,(∀ σ' H',N σ' H'->∃ m',m' < m/\W (i + 1) m' σ' H')/\∀ x H',(Ite K a).yld i H x H'->g x σ H' fun σ2 H2=>tb { D with nx:=N,ct:=N,bk:=D.nx } σ2 H2):=by
 refine ⟨fun i m σ H=>m = xs.length - i/\i <= xs.length/\Pv i σ H,⟨xs.length,by simp,Nat.zero_le _,h0⟩,?_⟩
 rintro i m σ H ⟨rfl,hi,p⟩
 have q:=hl i σ H hi p
 by_cases hlt : i < xs.length
 ·refine .inr ⟨⟨xs,xs[i],q,by simp [hlt]⟩,Pv (i + 1),fun σ' H' p'=>⟨xs.length - (i + 1),by omega,rfl,hlt,p'⟩,fun x H' y=>?_⟩
  obtain ⟨pp,v,rfl,hn,rfl,y⟩:=y
  exact hs i v σ H pp (y xs q) p hn
 ·have e : i = xs.length:=by omega
  subst e
  exact .inl ⟨⟨xs,q,Nat.le_refl _⟩,hd σ H p⟩
end
end L2
set_option maxHeartbeats 4000000
namespace L2
open PySem PySem.Spec PyProof.Rows
theorem strs_of : ∀ {l : List Str} {us : List Value},Vals (l.map V.str) us->∃ ts : List (Str × Tok),us = strValues ts/\ts.map (·.1) = l
 | [],_,r=>by cases r; exact ⟨[],rfl,rfl⟩
 | x :: l,_,r=>by
  cases r with
  | cons r1 r2 =>
   obtain ⟨t,rfl⟩:=r1
   obtain ⟨ts,rfl,e⟩:=strs_of r2
   exact ⟨(x,t) :: ts,rfl,by rw [List.map_cons,e]⟩
section
variable {X : Cx}
def rJoin (K : PySem.W.Frag) : V->List V->Hp->VK->Prop:=fun x vs H Q=>∃ z p l,x = .str z/\vs = [.ref p]/\SqL K H p (l.map V.str)/\JoinOk z l = true/\Q (.str (Txt.join z l)) H
theorem mt_join : MtR X "str.join" (rJoin X.K):=by
 intro pins s σ H x vs v us Q I rx rv h
 obtain ⟨z,p,l,rfl,rfl,hS,hj,q⟩:=h
 obtain ⟨t,rfl⟩:=rx
 obtain ⟨u,rfl,ru⟩:=vals1 rv
 cases ru
 obtain ⟨its,r,pl,_⟩:=I.list hS
 obtain ⟨ts,rfl,e⟩:=strs_of r
 exact SC.join pl.isList e hj fun t' k=>⟨.str _,H,I.tok _,⟨_,rfl⟩,q⟩
end
end L2
namespace L2
open PySem PySem.Spec PyProof.Rows
def nostar : Expr->Bool
 | .Starred _ _=>false
 | _=>true
theorem star_plain {e : Expr} {es : List Expr} {env : Env} (h : nostar e = true) : starEach (e :: es) env = (false,eval e env) :: starEach es env:=by
 cases e <;> first | rfl | cases h
theorem any_plain {env : Env} {pos : Pos} : ∀ {es : List Expr},es.all nostar = true->(backTo pos (starEach es env)).any (·.1) = false
 | [],_=>rfl
 | e :: es,h=>by
  rw [List.all_cons,Bool.and_eq_true] at h
  rw [star_plain h.1]
  show (false || (backTo pos (starEach es env)).any (·.1)) = false
  rw [any_plain h.2]
  rfl
section
variable {X : Cx}
theorem pw' (i : Nat) {x : Str} {pos : Pos} (hN : X.N[i]? = some x:=by kernel_rfl) (hv : X.env.scope.names.lookup x = some .local:=by kernel_rfl) (hd : (x == ("__debug__" : Str)) = false:=by kernel_rfl)
  (hcd : (x == ("__classdict__" : Str)) = false:=by kernel_rfl) : PE X (.Name x pos) (tVar i):=pe_var hN (.inl hv) hd hcd
theorem pc' (i : Nat) {x : Str} {pos : Pos} (hN : X.N[i]? = some x:=by kernel_rfl) (hv : X.env.scope.names.lookup x = some .cell:=by kernel_rfl) (hd : (x == ("__debug__" : Str)) = false:=by kernel_rfl)
  (hcd : (x == ("__classdict__" : Str)) = false:=by kernel_rfl) : PE X (.Name x pos) (tVar i):=pe_var hN (.inr (.inl hv)) hd hcd
theorem ps_setL {i : Nat} {x : Str} {e : Expr} {te : TE} {pos pos' : Pos} (hN : X.N.Nodup) (he : PE X e te) (hi : X.N[i]? = some x:=by kernel_rfl) (hx : X.env.scope.names.lookup x = some .local:=by kernel_rfl)
  (hs : swapsWith e (some (.Name x pos')) pos.line X.env = pure false:=by kernel_rfl) : PS X (.Assign [.Name x pos'] e pos) (tAsg te (gName i)):=ps_set (i:=i) hN hi (.inl hx) he hs (.inr hx)
theorem ps_setC {i : Nat} {x : Str} {e : Expr} {te : TE} {pos pos' : Pos} (hN : X.N.Nodup) (hfn : X.fn x = true) (he : PE X e te) (hi : X.N[i]? = some x:=by kernel_rfl) (hx : X.env.scope.names.lookup x = some .cell:=by kernel_rfl)
  (hs : swapsWith e (some (.Name x pos')) pos.line X.env = pure false:=by kernel_rfl) : PS X (.Assign [.Name x pos'] e pos) (tAsg te (gName i)):=ps_set (i:=i) hN hi (.inr hx) he hs (.inl hfn)
theorem pg_nameL {i : Nat} {x : Str} {pos : Pos} (hN : X.N.Nodup) (hi : X.N[i]? = some x:=by kernel_rfl) (hx : X.env.scope.names.lookup x = some .local:=by kernel_rfl) : PG X (.Name x pos) (gName i):=pg_name hN hi (.inl hx) (.inr hx)
theorem pa' {e : Expr} {es : List Expr} {te : TE} {t : TA} (ha : PE X e te) (hr : PA X es t) (hs : nostar e = true:=by rfl) : PA X (e :: es) (tCons te t):=pa_cons ha hr (star_plain hs)
theorem pe_callE {CX : CXT} {j k : Nat} {ps : List Str} {sp : Sp} {E : XK} {x : Str} {p pos : Pos} {e : Expr} {es : List Expr} {t : TA} (D : Def X.prog X.w X.K X.mg X.base CX x j ps sp) (hr : Room k X.A) (hx : Passes CX X E) (ha : PA X (e :: es) t) (hj : j <= k:=by decide) (hg : X.env.kindOf x = some .globalImplicit:=by kernel_rfl)
  (hdb : (x == ("__debug__" : Str)) = false:=by kernel_rfl) (he : nostar e = true:=by rfl) (hpl : es.all nostar = true:=by rfl) :
  PE X (.Call (.Name x p) (e :: es) [] pos) (tCall sp [] E t):=pe_callD D hr hx ha hj hg hdb (star_plain he) (any_plain hpl)
theorem pex_callE {j k : Nat} {ps : List Str} {sp : Sp} {x : Str} {p pos : Pos} {e : Expr} {es : List Expr} {t : TA} (D : Def X.prog X.w X.K X.mg X.base (CX1 X.prog X.w) x j ps sp) (hr : Room k X.A) (ha : PA X.nox (e :: es) t) (hj : j <= k:=by decide) (hg : X.env.kindOf x = some .globalImplicit:=by kernel_rfl)
  (hdb : (x == ("__debug__" : Str)) = false:=by kernel_rfl) (he : nostar e = true:=by rfl) (hpl : es.all nostar = true:=by rfl) :
  PEX X (.Call (.Name x p) (e :: es) [] pos) (tCallX sp [] t):=pex_callD D hr ha hj hg hdb (star_plain he) (any_plain hpl)
theorem pb' {id : String} {r : List V->Hp->VK->Prop} {x : Str} {p pos : Pos} {e : Expr} {es : List Expr} {t : TA} (hc : CallR X (.builtin id) r) (hm : X.mg x = none) (hv : bootBuiltins x = some (.builtin id)) (ha : PA X (e :: es) t) (hg : X.env.kindOf x = some .globalImplicit:=by kernel_rfl) (hn : x ≠ "__name__":=by decide) (hdb : (x == ("__debug__" : Str)) = false:=by kernel_rfl)
  (he : nostar e = true:=by rfl) (hpl : es.all nostar = true:=by rfl) : PE X (.Call (.Name x p) (e :: es) [] pos) (tCB r t):=pe_callB hc hg hm hv ha hn hdb (star_plain he) (any_plain hpl)
theorem pt' {T : String} {r : List V->Hp->VK->Prop} {x : Str} {p pos : Pos} {e : Expr} {es : List Expr} {t : TA} (hc : CallR X (.type T) r) (hm : X.mg x = none) (hv : bootBuiltins x = some (.type T)) (ha : PA X (e :: es) t) (hg : X.env.kindOf x = some .globalImplicit:=by kernel_rfl) (hn : x ≠ "__name__":=by decide) (hdb : (x == ("__debug__" : Str)) = false:=by kernel_rfl)
  (he : nostar e = true:=by rfl) (hpl : es.all nostar = true:=by rfl) : PE X (.Call (.Name x p) (e :: es) [] pos) (tCB r t):=pe_callTy hc hg hm hv ha hn hdb (star_plain he) (any_plain hpl)
theorem pgl {x : Str} {v : V} {u : Value} {pos : Pos} (hm : X.mg x = some u) (r : RelV v u) (hg : X.env.kindOf x = some .globalImplicit:=by kernel_rfl) (hd : (x == ("__debug__" : Str)) = false:=by kernel_rfl) : PE X (.Name x pos) (tC v):=pe_glob hg hm r hd
theorem pbl {x : Str} {v : V} {u : Value} {pos : Pos} (hm : X.mg x = none) (hv : bootBuiltins x = some u) (r : RelV v u) (hg : X.env.kindOf x = some .globalImplicit:=by kernel_rfl) (hn : x ≠ "__name__":=by decide) (hd : (x == ("__debug__" : Str)) = false:=by kernel_rfl) : PE X (.Name x pos) (tC v):=pe_bltn hg hm hv r hn hd
end
end L2
set_option maxHeartbeats 4000000
set_option autoImplicit true
set_option relaxedAutoImplicit true
namespace L2
open PySem PySem.Spec PyProof.Rows
structure QE (X : Cx) (e : Expr) (t : TE) : Prop where
 h : PE X e t
structure QT (X : Cx) (e : Expr) (t : TT) : Prop where
 h : PT X e t
structure QW (X : Cx) (e : Expr) (t : TT) : Prop where
 h : PW X e t
structure QA (X : Cx) (es : List Expr) (t : TA) : Prop where
 h : PA X es t
structure QS (X : Cx) (st : Stmt) (t : TS) : Prop where
 h : PS X st t
structure QSs (X : Cx) (st : List Stmt) (t : TS) : Prop where
 h : PSs X st t
structure QG (X : Cx) (e : Expr) (t : TG) : Prop where
 h : PG X e t
structure QGs (X : Cx) (es : List Expr) (t : TGs) : Prop where
 h : PGs X es t
structure QO (X : Cx) (e : Option Expr) (t : TO) : Prop where
 h : PO X e t
structure QI (X : Cx) (tg it : Expr) (t : TI) : Prop where
 h : PI X tg it t
structure QX (X : Cx) (e : Expr) (t : TX) : Prop where
 h : PEX X e t
section
variable {X : Cx}
theorem e_int {i j pos} : QE X (.Constant (.int i) j pos) (tC (.int i)):=⟨pe_int⟩
theorem e_str {x j pos} : QE X (.Constant (.str x) j pos) (tC (.str x)):=⟨pe_str⟩
theorem e_bl {b j pos} : QE X (.Constant (.bool b) j pos) (tC (.bl b)):=⟨pe_bl⟩
theorem e_non {j pos} : QE X (.Constant .none j pos) (tC .non):=⟨pe_non⟩
theorem e_v (i : Nat) {x : Str} {pos : Pos} (hN : X.N[i]? = some x:=by kernel_rfl) (hv : X.env.scope.names.lookup x = some .local:=by kernel_rfl) (hd : (x == ("__debug__" : Str)) = false:=by kernel_rfl) (hcd : (x == ("__classdict__" : Str)) = false:=by kernel_rfl) : QE X (.Name x pos) (tVar i):=⟨pw' i hN hv hd hcd⟩
theorem e_c (i : Nat) {x : Str} {pos : Pos} (hN : X.N[i]? = some x:=by kernel_rfl) (hv : X.env.scope.names.lookup x = some .cell:=by kernel_rfl) (hd : (x == ("__debug__" : Str)) = false:=by kernel_rfl) (hcd : (x == ("__classdict__" : Str)) = false:=by kernel_rfl) : QE X (.Name x pos) (tVar i):=⟨pc' i hN hv hd hcd⟩
theorem e_n (i : Nat) {x : Str} {pos : Pos} (hN : X.N[i]? = some x:=by rfl) (hv : Vis X.env.scope x:=by first | exact Or.inl rfl | exact Or.inr (Or.inl rfl) | exact Or.inr (Or.inr rfl)) (hd : (x == ("__debug__" : Str)) = false:=by kernel_rfl) (hcd : (x == ("__classdict__" : Str)) = false:=by kernel_rfl) : QE X (.Name x pos) (tVar i):=⟨pe_var hN hv hd hcd⟩
theorem e_gl {x : Str} {v : V} {u : Value} {pos : Pos} (hm : X.mg x = some u) (r : RelV v u) (hg : X.env.kindOf x = some .globalImplicit:=by kernel_rfl) (hd : (x == ("__debug__" : Str)) = false:=by kernel_rfl) : QE X (.Name x pos) (tC v):=⟨pgl hm r hg hd⟩
theorem e_bt {x : Str} {v : V} {u : Value} {pos : Pos} (hm : X.mg x = none) (hv : bootBuiltins x = some u) (r : RelV v u) (hg : X.env.kindOf x = some .globalImplicit:=by kernel_rfl) (hn : x ≠ "__name__":=by decide) (hd : (x == ("__debug__" : Str)) = false:=by kernel_rfl) : QE X (.Name x pos) (tC v):=⟨pbl hm hv r hg hn hd⟩
theorem e_op {op : Operator} {r : R2} {a b : Expr} {ta tb : TE} {pos : Pos} (ho : OpR X (binaryOp op) r) (ha : QE X a ta) (hb : QE X b tb) : QE X (.BinOp a op b pos) (tOp r ta tb):=⟨pe_op ho ha.h hb.h⟩
theorem e_un {op : UnaryOp} {r : V->Hp->VK->Prop} {a : Expr} {ta : TE} {pos : Pos} (ho : UnR X (unaryOp op) r) (ha : QE X a ta) : QE X (.UnaryOp op a pos) (tUn r ta):=⟨pe_un ho ha.h⟩
theorem e_cmp {op : CmpOp} {r : R2} {a b : Expr} {ta tb : TE} {pos : Pos} (ho : OpR X (compareOp op) r) (ha : QE X a ta) (hb : QE X b tb) (hm : behindInMarks op b = false:=by first | exact nomark _ | with_unfolding_all rfl) : QE X (.Compare a [op] [b] pos) (tOp r ta tb):=⟨pe_cmpR ho ha.h hb.h hm⟩
theorem t_cmp {op : CmpOp} {r : R2} {a b : Expr} {ta tb : TE} {pos : Pos} (ho : OpR X (compareOp op) r) (ha : QE X a ta) (hb : QE X b tb) (hm : behindInMarks op b = false:=by first | exact nomark _ | with_unfolding_all rfl) : QT X (.Compare a [op] [b] pos) (tTest (tOp r ta tb)):=⟨pt_cmpR ho ha.h hb.h hm⟩
theorem e_chain {op op' : CmpOp} {r r' : R2} {a b c : Expr} {ta tb tc : TE} {pos : Pos} (ho : OpR X (compareOp op) r) (ho' : OpR X (compareOp op') r') (ha : QE X a ta) (hb : QE X b tb) (hc : QE X c tc) (hm : lastMarks [op,op'] [b,c] = false:=by with_unfolding_all rfl) :
  QE X (.Compare a [op,op'] [b,c] pos) (tChain r r' ta tb tc):=⟨pe_chain ho ho' ha.h hb.h hc.h hm⟩
theorem t_chain {op op' : CmpOp} {r r' : R2} {a b c : Expr} {ta tb tc : TE} {pos : Pos} (ho : OpR X (compareOp op) r) (ho' : OpR X (compareOp op') r') (ha : QE X a ta) (hb : QE X b tb) (hc : QE X c tc) (hm : lastMarks [op,op'] [b,c] = false:=by with_unfolding_all rfl) :
  QT X (.Compare a [op,op'] [b,c] pos) (tTest (tChain r r' ta tb tc)):=⟨pt_chain ho ho' ha.h hb.h hc.h hm⟩
theorem t_isN {a : Expr} {ta : TE} {j pos pos'} (ha : QE X a ta) : QT X (.Compare a [.Is] [.Constant .none j pos'] pos) (tB (tIsN ta)):=⟨pt_cmp (pc_isN ha.h)⟩
theorem t_dnotin {i o : Expr} {ty td : TE} {pos} (hu : X.A.units + 1 < cLine) (hi : QE X i ty) (ho : QE X o td) (h1 : behindInMarks .NotIn o = false:=by with_unfolding_all rfl) : QT X (.Compare i [.NotIn] [o] pos) (tB (tDNotIn ty td)):=⟨pt_cmp (pc_dnotin hu hi.h ho.h) h1⟩
theorem t_val {e : Expr} {t : TE} (h : QE X e t) (he : ∀ whole,isTrue e X.env whole = (do let v <- whole; standAt e.pos; holding [v] (truthy v)):=by intro _; rfl) : QT X e (tB t):=⟨pt_val h.h he⟩
theorem t_not {a : Expr} {t : TT} {pos} (h : QT X a t) : QT X (.UnaryOp .Not a pos) (tNot t):=⟨pt_not h.h⟩
theorem t_w {e : Expr} {t : TT} (h : QW X e t) : QT X e t:=⟨PW.pt h.h⟩
theorem w_and1 {a : Expr} {t : TT} {pos} (h : QT X a t) : QW X (.BoolOp .And [a] pos) t:=⟨pw_and1 h.h⟩
theorem w_or1 {a : Expr} {t : TT} {pos} (h : QT X a t) : QW X (.BoolOp .Or [a] pos) t:=⟨pw_or1 h.h⟩
theorem w_and {a b : Expr} {rest : List Expr} {t u : TT} {pos} (ha : QT X a t) (hb : QW X (.BoolOp .And (b :: rest) pos) u) : QW X (.BoolOp .And (a :: b :: rest) pos) (tAnd t u):=⟨pw_and ha.h hb.h⟩
theorem w_or {a b : Expr} {rest : List Expr} {t u : TT} {pos} (ha : QT X a t) (hb : QW X (.BoolOp .Or (b :: rest) pos) u) : QW X (.BoolOp .Or (a :: b :: rest) pos) (tOr t u):=⟨pw_or ha.h hb.h⟩
theorem e_one {op} {a : Expr} {t : TE} {pos} (h : QE X a t) : QE X (.BoolOp op [a] pos) t:=⟨pe_one h.h⟩
theorem e_and {a b : Expr} {rest : List Expr} {ta tb : TE} {pos} (ha : QE X a ta) (hb : QE X (.BoolOp .And (b :: rest) pos) tb) : QE X (.BoolOp .And (a :: b :: rest) pos) (tAndV ta tb):=⟨pe_and ha.h hb.h⟩
theorem e_not {a : Expr} {ta : TE} {pos} (ha : QE X a ta) : QE X (.UnaryOp .Not a pos) (tNotV ta):=⟨pe_not ha.h⟩
theorem a_nil : QA X [] tNil:=⟨pa_nil⟩
theorem a_cons {e : Expr} {es : List Expr} {te : TE} {t : TA} (ha : QE X e te) (hr : QA X es t) (hs : nostar e = true:=by rfl) : QA X (e :: es) (tCons te t):=⟨pa' ha.h hr.h hs⟩
theorem e_lst {es : List Expr} {t : TA} {pos} (h : QA X es t) : QE X (.List es pos) (tLst t):=⟨pe_lst h.h⟩
theorem e_tup {es : List Expr} {t : TA} {x1 pos} (h : QA X es t) : QE X (.Tuple es x1 pos) (tTup t):=⟨pe_tup h.h⟩
theorem e_ix {r : R2} {a b : Expr} {ta tb : TE} {pos} (hr : IxR X r) (ha : QE X a ta) (hb : QE X b tb) (hs : PlainIx b:=by exact fun _ _=>rfl) : QE X (.Subscript a b pos) (tOp r ta tb):=⟨pe_ix hr ha.h hb.h hs⟩
theorem o_none : QO X none tNoPart:=⟨po_none⟩
theorem o_some {e : Expr} {t : TE} (h : QE X e t) : QO X (some e) (tPart t):=⟨po_some h.h⟩
theorem e_sl {r : V->Option Int->Option Int->Hp->VK->Prop} {e : Expr} {lo hi : Option Expr} {te : TE} {tl th : TO} {p2 pos} (hr : SlR X r) (he : QE X e te) (hl : QO X lo tl) (hu : QO X hi th) : QE X (.Subscript e (.Slice lo hi none p2) pos) (tSl r te tl th):=⟨pe_slice hr he.h hl.h hu.h⟩
theorem e_call {CX : CXT} {j k : Nat} {ps : List Str} {sp : Sp} {E : XK} {x : Str} {p pos : Pos} {e : Expr} {es : List Expr} {t : TA} (D : Def X.prog X.w X.K X.mg X.base CX x j ps sp) (hr : Room k X.A) (hx : Passes CX X E) (ha : QA X (e :: es) t) (hj : j <= k:=by decide) (hg : X.env.kindOf x = some .globalImplicit:=by kernel_rfl)
  (hdb : (x == ("__debug__" : Str)) = false:=by kernel_rfl) (he : nostar e = true:=by rfl) (hpl : es.all nostar = true:=by rfl) : QE X (.Call (.Name x p) (e :: es) [] pos) (tCall sp [] E t):=⟨pe_callE D hr hx ha.h hj hg hdb he hpl⟩
theorem x_call {j k : Nat} {ps : List Str} {sp : Sp} {x : Str} {p pos : Pos} {e : Expr} {es : List Expr} {t : TA} (D : Def X.prog X.w X.K X.mg X.base (CX1 X.prog X.w) x j ps sp) (hr : Room k X.A) (ha : QA X.nox (e :: es) t) (hj : j <= k:=by decide) (hg : X.env.kindOf x = some .globalImplicit:=by kernel_rfl)
  (hdb : (x == ("__debug__" : Str)) = false:=by kernel_rfl) (he : nostar e = true:=by rfl) (hpl : es.all nostar = true:=by rfl) : QX X (.Call (.Name x p) (e :: es) [] pos) (tCallX sp [] t):=⟨pex_callE D hr ha.h hj hg hdb he hpl⟩
theorem e_b {id : String} {r : List V->Hp->VK->Prop} {x : Str} {p pos : Pos} {e : Expr} {es : List Expr} {t : TA} (hc : CallR X (.builtin id) r) (hm : X.mg x = none) (hv : bootBuiltins x = some (.builtin id)) (ha : QA X (e :: es) t) (hg : X.env.kindOf x = some .globalImplicit:=by kernel_rfl) (hn : x ≠ "__name__":=by decide) (hdb : (x == ("__debug__" : Str)) = false:=by kernel_rfl)
  (he : nostar e = true:=by rfl) (hpl : es.all nostar = true:=by rfl) : QE X (.Call (.Name x p) (e :: es) [] pos) (tCB r t):=⟨pb' hc hm hv ha.h hg hn hdb he hpl⟩
theorem e_t {T : String} {r : List V->Hp->VK->Prop} {x : Str} {p pos : Pos} {e : Expr} {es : List Expr} {t : TA} (hc : CallR X (.type T) r) (hm : X.mg x = none) (hv : bootBuiltins x = some (.type T)) (ha : QA X (e :: es) t) (hg : X.env.kindOf x = some .globalImplicit:=by kernel_rfl) (hn : x ≠ "__name__":=by decide) (hdb : (x == ("__debug__" : Str)) = false:=by kernel_rfl)
  (he : nostar e = true:=by rfl) (hpl : es.all nostar = true:=by rfl) : QE X (.Call (.Name x p) (e :: es) [] pos) (tCB r t):=⟨pt' hc hm hv ha.h hg hn hdb he hpl⟩
theorem e_append {o e : Expr} {to te : TE} {apos cpos : Pos} (ho : QE X o to) (ha : QE X e te) (hs : nostar e = true:=by rfl) (hbase : attributeBase o "append" X.env (eval o X.env) = eval o X.env:=by rfl) (hline : (apos.endLine == cpos.line) = true:=by rfl) :
  QE X (.Call (.Attribute o "append" apos) [e] [] cpos) (tBM X.K "list" rAppend to (tCons te tNil)):=⟨pe_bm PySem.F.plainAttrs_list PySem.F.slot_list_append PySem.F.type_list_append mt_append ho.h (pa' ha.h pa_nil hs) hbase (by rw [star_plain hs]; rfl) hline (star_plain hs)⟩
theorem e_join {o e : Expr} {to te : TE} {apos cpos : Pos} (ho : QE X o to) (ha : QE X e te) (hs : nostar e = true:=by rfl) (hbase : attributeBase o "join" X.env (eval o X.env) = eval o X.env:=by rfl) (hline : (apos.endLine == cpos.line) = true:=by rfl) :
  QE X (.Call (.Attribute o "join" apos) [e] [] cpos) (tBM X.K "str" (rJoin X.K) to (tCons te tNil)):=⟨pe_bm PySem.F.plainAttrs_str PySem.F.slot_str_join PySem.F.type_str_join mt_join ho.h (pa' ha.h pa_nil hs) hbase (by rw [star_plain hs]; rfl) hline (star_plain hs)⟩
theorem e_xf {e : Expr} {f : Str} {pos : Pos} {ta : TE} (he : QE X e ta) (hb : attributeBase e f X.env (eval e X.env) = eval e X.env:=by rfl) : QE X (.Attribute e f pos) (tXFld X.K ta f):=⟨pe_xfld he.h hb⟩
theorem e_dnew {pos} : QE X (.Dict [] [] pos) tDNewK:=⟨pe_dnewK⟩
theorem e_comp {x : Str} {px pos : Pos} {elt iter : Expr} {sc : Scope} {wi : TI} {te : TE} (ys : List Str) (js : List Nat) (cl : List (Str × Addr)) (hclos : closureFor sc X.env = pure cl) (hcap : Caps X sc cl ys js) (hin : ClIn X.env cl)
  (hi : QI X.nox (.Name x px) iter wi) (he : ∀ s2 H2 C ex,QE (compCx X sc (x :: ys) cl s2 H2 C ex) elt te) (hc : X.calm = true:=by rfl)
  (hcell : (sc.names.all fun p=>p.2 != NameKind.cell) = true:=by rfl) (hkind : sc.kind = .function:=by rfl) (hnames : (sc.names.all fun p=>p.2 != NameKind.local || sc.names.lookup p.1 == some NameKind.local) = true:=by rfl)
  (hx : (relabel sc X.env).names.lookup x = some .local:=by rfl) (hhas : ((relabel sc X.env).names.all fun p=>p.2 == NameKind.local || p.2 == NameKind.globalImplicit || (cl.lookup p.1).isSome) = true:=by rfl)
  (hnd : (x :: ys).Nodup:=by decide +kernel) (hs : ∀ v,foldedSetIterable iter X.env v = pure v:=by intro _; rfl) : QE X (.ListComp elt [⟨.Name x px,iter,[],0⟩] sc pos) (tComp wi js te) :=
 ⟨pe_compR ys js cl hclos hcap hin hi.h (fun a b c d=>(he a b c d).h) hc hcell hkind hnames hx hhas hnd hs⟩
theorem ss_nil : QSs X [] tNext:=⟨pss_nil⟩
theorem ss_cons {st : Stmt} {rest : List Stmt} {t u : TS} (h1 : QS X st t) (h2 : QSs X rest u) : QSs X (st :: rest) (tSeq t u):=⟨pss_cons h1.h h2.h⟩
theorem ss_one {st : Stmt} {t : TS} (h1 : QS X st t) : QSs X [st] t:=⟨pss_one h1.h⟩
theorem s_set {i : Nat} {x : Str} {e : Expr} {te : TE} {pos pos' : Pos} (hN : X.N.Nodup) (he : QE X e te) (hi : X.N[i]? = some x:=by kernel_rfl) (hx : X.env.scope.names.lookup x = some .local:=by kernel_rfl)
  (hs : swapsWith e (some (.Name x pos')) pos.line X.env = pure false:=by kernel_rfl) : QS X (.Assign [.Name x pos'] e pos) (tAsg te (gName i)):=⟨ps_setL (i:=i) hN he.h hi hx hs⟩
theorem s_setc {i : Nat} {x : Str} {e : Expr} {te : TE} {pos pos' : Pos} (hN : X.N.Nodup) (he : QE X e te) (hfn : X.fn x = true:=by rfl) (hi : X.N[i]? = some x:=by kernel_rfl) (hx : X.env.scope.names.lookup x = some .cell:=by kernel_rfl)
  (hs : swapsWith e (some (.Name x pos')) pos.line X.env = pure false:=by kernel_rfl) : QS X (.Assign [.Name x pos'] e pos) (tAsg te (gName i)):=⟨ps_setC (i:=i) hN hfn he.h hi hx hs⟩
theorem s_asg {tg e : Expr} {te : TE} {g : TG} {pos} (he : QE X e te) (hg : QG X tg g) (hs : swapsWithSole [tg] e pos.line X.env = pure false:=by rfl) (hw : swappedStores [tg] e X.env = pure none:=by rfl)
  (h1 : (assignEach [tg] X.env).map (·.2) = [assign tg X.env]:=by rfl) : QS X (.Assign [tg] e pos) (tAsg te g):=⟨ps_asg he.h hg.h hs hw h1⟩
theorem s_if {c : Expr} {a b : List Stmt} {tc : TT} {t u : TS} {pos} (hc : QT X c tc) (ha : QSs X a t) (hb : QSs X b u) : QS X (.If c a b pos) (tIfS tc t u):=⟨ps_if hc.h ha.h hb.h⟩
theorem s_for {tg iter : Expr} {body : List Stmt} {wi : TI} {g : TG} {tb : TS} {pos} (hp : PassesOwn (model X.prog X.w) X.A X.env X.xe) (hc : X.calm = true) (hi : QI X tg iter wi) (hg : QG X tg g) (hb : QSs X body tb)
  (hs : ∀ x,foldedSetIterable iter X.env x = pure x:=by intro _; rfl) : QS X (.For tg iter body [] pos) (tFor wi g tb):=⟨ps_for hp hc hi.h hg.h hb.h hs⟩
theorem s_ret {e : Expr} {t : TE} {pos} (h : QE X e t) : QS X (.Return (some e) pos) (tRet t):=⟨ps_ret h.h⟩
theorem s_expr {e : Expr} {t : TE} {pos} (h : QE X e t) (hs : swapsWith e none pos.line X.env = pure false:=by rfl) : QS X (.Expr e pos) (tDrop t):=⟨ps_expr h.h hs⟩
theorem s_cut {st : Stmt} {t : TS} (h : QS X st t) : QS X st (tCut t):=⟨ps_cut h.h⟩
theorem s_xset {o value : Expr} {f : Str} {pos pos' : Pos} {ta tv : TE} (ha : QE X o ta) (hv : QE X value tv) (hs : swapsWith value (some (.Attribute o f pos')) pos.line X.env = pure false:=by rfl) : QS X (.Assign [.Attribute o f pos'] value pos) (sX X.K ta tv f):=⟨ps_xset ha.h hv.h hs⟩
theorem s_dput {o i value : Expr} {td ty tv : TE} {pos pos' : Pos} (hu : X.A.units + 1 < cLine) (ho : QE X o td) (hi : QE X i ty) (hv : QE X value tv) (hs : swapsWith value (some (.Subscript o i pos')) pos.line X.env = pure false:=by rfl) : QS X (.Assign [.Subscript o i pos'] value pos) (sDPut td ty tv):=⟨ps_dput hu ho.h hi.h hv.h hs⟩
theorem g_name {i : Nat} {x : Str} {pos : Pos} (hN : X.N.Nodup) (hi : X.N[i]? = some x:=by kernel_rfl) (hx : X.env.scope.names.lookup x = some .local:=by kernel_rfl) : QG X (.Name x pos) (gName i):=⟨pg_nameL hN hi hx⟩
theorem gs_nil : QGs X [] gNil:=⟨pgs_nil⟩
theorem gs_cons {e : Expr} {es : List Expr} {t : TG} {u : TGs} (h1 : QG X e t) (h2 : QGs X es u) (hs : (assignEach (e :: es) X.env).map (·.2) = assign e X.env :: (assignEach es X.env).map (·.2):=by rfl) : QGs X (e :: es) (gCons t u):=⟨pgs_cons h1.h h2.h hs⟩
theorem g_tup {es : List Expr} {k : Nat} {t : TGs} {n : Nat} {pos} (hc : X.calm = true) (h : QGs X es t) (hn : (assignEach es X.env).length = n:=by rfl) (hst : (assignEach es X.env).findIdx? (·.1) = none:=by rfl) : QG X (.Tuple es k pos) (gTup X.K n t):=⟨pg_tup hc h.h hn hst⟩
theorem i_list {tg l : Expr} {t : TE} (h : QE X l t) : QI X tg l (iList X.K t):=⟨pi_list h.h⟩
theorem i_tup {tg l : Expr} {t : TE} (h : QE X l t) : QI X tg l (iTup X.K t):=⟨pi_tup h.h⟩
theorem i_rng1 {tg a : Expr} {t : TE} {p pos : Pos} (hm : X.mg "range" = none) (ha : QE X a t) (hg : X.env.kindOf "range" = some .globalImplicit:=by kernel_rfl) (hs : nostar a = true:=by rfl) : QI X tg (.Call (.Name "range" p) [a] [] pos) (iRng1 (tCons t tNil)):=⟨pi_range1 hg hm (pa' ha.h pa_nil hs) ((star_plain hs).trans rfl)⟩
theorem i_rng2 {tg a b : Expr} {t u : TE} {p pos : Pos} (hm : X.mg "range" = none) (ha : QE X a t) (hb : QE X b u) (hg : X.env.kindOf "range" = some .globalImplicit:=by kernel_rfl) (hs : nostar a = true:=by rfl) (hs2 : nostar b = true:=by rfl) : QI X tg (.Call (.Name "range" p) [a,b] [] pos) (iRng2 (tCons t (tCons u tNil))) :=
 ⟨pi_range2 hg hm (pa' ha.h (pa' hb.h pa_nil hs2) hs) (by rw [star_plain hs,star_plain hs2]; rfl) (by rw [star_plain hs2]; rfl)⟩
theorem i_enum {elts : List Expr} {x1} {tpos p pos : Pos} {a : Expr} {t : TE} (hm : X.mg "enumerate" = none) (ha : QE X a t) (hg : X.env.kindOf "enumerate" = some .globalImplicit:=by kernel_rfl) (hs : nostar a = true:=by rfl) : QI X (.Tuple elts x1 tpos) (.Call (.Name "enumerate" p) [a] [] pos) (iEnum X.K (tCons t tNil)) :=
 ⟨pi_enum hg hm (by decide +kernel) (pa' ha.h pa_nil hs) ((star_plain hs).trans rfl)⟩
theorem s_try {i j : Nat} {y n S' : Str} {S : Addr} {bmS : List Value} {idS : String} {ce : Expr} {b0 : Stmt} {suite : List Stmt} {py np apos hpos pos : Pos} {tx : TX} {ts : Addr->TS}
  (hN : X.N.Nodup) (hmS : X.mg S' = some (.ref S)) (cS : ExcC X.K S bmS idS) (hbS : bmS.contains (.type "BaseException") = true) (hx : QX X ce tx) (hs : ∀ a,QSs (X.caught a).nox (b0 :: suite) (ts a))
  (hi : X.N[i]? = some y:=by kernel_rfl) (hy : X.env.scope.names.lookup y = some .local:=by kernel_rfl) (hj : X.N[j]? = some n:=by kernel_rfl) (hn : X.env.scope.names.lookup n = some .local:=by kernel_rfl) (hfr : X.env.frame = some X.env.locals:=by rfl) (hst : X.stack = X.env :: X.outer:=by rfl) (hex : X.ex = []:=by rfl)
  (hgS : X.env.kindOf S' = some .globalImplicit:=by kernel_rfl) (hsw : swapsWith ce (some (.Name y py)) apos.line X.env = pure false:=by rfl) (hdb : (S' == ("__debug__" : Str)) = false:=by kernel_rfl) :
  QS X (.Try [.Assign [.Name y py] ce apos] [.ExceptHandler (some (.Name S' np)) (some n) (b0 :: suite) hpos] [] [] pos) (tTryAs X.K i j S tx ts) :=
 ⟨ps_tryas (i:=i) (j:=j) hN hi (.inl hy) hj hn hfr hst hex hgS hmS cS hbS hx.h (fun a=>(hs a).h) (.inr hy) hsw hdb⟩
end
section
variable {P : Program} {w : World} {K : PySem.W.Frag} {mg : Str->Option Value} {base : Heap} {N : List Str} {qual : Str} {scope : Scope} {f : Addr} {cd : Value} {A : Around} {outer : List Env} {s₀ : Shared} {H₀ : Hp} {E : XK}
theorem s_raise {x : Str} {C : Addr} {e : Expr} {es : List Expr} {t : TA} {np cpos pos : Pos} (hm : mg x = some (.ref C)) (hq : PySem.W.excIn K C bmVE "ValueError.__new__" = true) (ha : QA (cxOf (CX1 P w) P w K mg base N qual scope f cd A outer s₀ H₀ E) (e :: es) t)
  (hg : (cxOf (CX1 P w) P w K mg base N qual scope f cd A outer s₀ H₀ E).env.kindOf x = some .globalImplicit:=by kernel_rfl) (hd : (x == ("__debug__" : Str)) = false:=by kernel_rfl) (he : nostar e = true:=by rfl) (hpl : es.all nostar = true:=by rfl) :
  QS (cxOf (CX1 P w) P w K mg base N qual scope f cd A outer s₀ H₀ E) (.Raise (some (.Call (.Name x np) (e :: es) [] cpos)) none pos) (tRaise C E t):=⟨ps_raise hg hm hq ha.h hd (star_plain he) (any_plain hpl)⟩
theorem s_raiseI {x : Str} {C fI : Addr} {fd : FuncData} {ps : List Str} {sp : Sp} {k j : Nat} {e : Expr} {es : List Expr} {t : TA} {np cpos pos : Pos} (hm : mg x = some (.ref C)) (R : XRaise K C fI)
  (G : FnOk P w K mg base CX0 k fI fd ps sp) (hr : Room j (cxOf (CX1 P w) P w K mg base N qual scope f cd A outer s₀ H₀ E).A) (hb : Binds K fd ps [])
  (ha : QA (cxOf (CX1 P w) P w K mg base N qual scope f cd A outer s₀ H₀ E) (e :: es) t) (hj : k + 1 <= j:=by decide) (hg : (cxOf (CX1 P w) P w K mg base N qual scope f cd A outer s₀ H₀ E).env.kindOf x = some .globalImplicit:=by kernel_rfl) (hdb : (x == ("__debug__" : Str)) = false:=by kernel_rfl) (he : nostar e = true:=by rfl) (hpl : es.all nostar = true:=by rfl) :
  QS (cxOf (CX1 P w) P w K mg base N qual scope f cd A outer s₀ H₀ E) (.Raise (some (.Call (.Name x np) (e :: es) [] cpos)) none pos) (tRaiseI C sp E t):=⟨ps_raiseI hg hm R G (hr.mono hj) hb ha.h hdb (star_plain he) (any_plain hpl)⟩
end
end L2
set_option maxHeartbeats 4000000
namespace L2
open PySem PySem.Spec PyProof.Rows
structure InitIn (K : PySem.W.Frag) (C : Addr) (qual : Str) (st : Stmt) : Prop where
 ex : ∃ fI fd,XRaise K C fI/\Fun K "__init__" qual st fI fd
 xc : XCls K C
 ek : ExcK K C
 ec : ∃ bm id,ExcC K C bm id
theorem initIn_mk {K : PySem.W.Frag} {C fI : Addr} {qual : Str} {st : Stmt} {oc : Value} {od an : Option Addr} {osl : Array (Option Value)} {kV doc pm cdv ct : Value} {cd : ClassData}
  {bm bs sub : List Value} {NN : Addr} {nm qn : Str} {hd ab : Bool} {sn : List Str} {col : Option Bool} {dd : Option Addr} {k0 k1 k2 k3 k5 : Option Value}
  (hi : PySem.W.findIn K (.ref C) "__init__" = some (some (.ref fI))) (ht : PySem.W.typeIn K (.ref fI) = some (.type "function"))
  (l : K.lookup fI = some ⟨oc,od,.func (PySem.W.fnOf "__init__" qual (defArgs st) (defBody st) (defScope st) .none kV doc pm an cdv ct),osl⟩) (cc : PySem.W.codeIn K cdv qual = true) (kk : PySem.W.keepIn K (.ref fI) = true)
  (lC : K.lookup C = some (excClassObj nm qn C NN bs bm hd sn sub ab col dd k0 k1 k2 k3 k5 "ValueError.__new__")) (tl : PySem.W.tailIn K bmVE bm = true)
  (hcd : PySem.W.clsIn K C = some cd) (ho : onlyVE cd.mro = true) (hdd : cd.hasDict = true) (sa : PySem.W.findIn K (.ref C) "__setattr__" = some (some (.builtin "object.__setattr__")))
  (hm : PySem.W.mroIn K C (.type "BaseException") = some true) (hmo : PySem.W.mroIn K C (.type "object") = some true) (hga : PySem.W.findIn K (.ref C) "__getattribute__" = some (some (.builtin "BaseException.__getattribute__"))) (hgn : PySem.W.findIn K (.ref C) "__getattr__" = some none)
  (hc : (PySem.W.clsIn K C).isSome = true) (ha : PySem.W.findIn K (.ref C) "__class__" = some (some (.builtin "object.__class__"))) (hn : PySem.W.specialIn K (.builtin "object.__class__") "__get__" = some (some (.builtin "getset_descriptor.__get__")))
  (htk : PySem.W.takesIn K (.builtin "object.__class__") = some true) : InitIn K C qual st :=
 ⟨⟨fI,_,⟨⟨nm,qn,NN,bs,bm,hd,sn,sub,ab,col,dd,k0,k1,k2,k3,k5,lC,tl⟩,hi,ht⟩,fun_mk l cc kk⟩,⟨⟨cd,hcd,ho,hdd⟩,sa⟩,⟨hm,hmo,hga,hgn,hc,ha,hn,htk⟩,⟨bm,_,.mk lC⟩⟩
end L2
set_option maxHeartbeats 1000000
namespace L2
open PySem PySem.Spec PyProof.Rows
theorem unpackItems_list {prog : Program} {w : World} {A : Around} {E : Value->Shared->Prop} {s : Shared} {l : Addr} {items : Array Value} {Q : List Value->Shared->Prop} (hh : A.handled = none) (hl : s.heap.IsList l items)
  (q : ∀ h',Heap.ExtBut s.heap.objs.size s.heap h'->Q items.toList { s with heap:=h' }) : wpAny (model prog w) A (unpackItems (.ref l) items.size none) Q E s:=by
 unfold unpackItems notIterableAtAll
 have ty : s.TypeIs (.ref l) "list":=by
  obtain ⟨o,e,c,d⟩:=hl
  exact ⟨o,e,c⟩
 refine wpAny_bind (wpAny_bind (wpAny_specialOf ty PySem.F.slot_list_iter.lookup (wpAny_pure ?_)))
 refine wpAny_bind (wpAny_holding (wpAny_pyIter_list hl ?_))
 have hlt : l < s.heap.objs.size:=by
  obtain ⟨o,e,c,d⟩:=hl
  exact Heap.lt_size e
 have ne : l ≠ s.heap.objs.size:=Nat.ne_of_lt hlt
 have hl1 : (s.heap.push { cls:=.type "list_iterator",data:=.fields #[.ref l,.int 0 0] }).IsList l items:=by
  obtain ⟨o,e,c,d⟩:=hl
  exact ⟨o,Heap.get?_push_of_some _ e,c,d⟩
 refine wpAny_bind (wpAny_holding (PySem.W.kun_draw ne items.size 0 _ _ ⟨_,Heap.get?_push_size _ rfl,rfl,rfl⟩ hl1 (by omega) fun h' it' sb=>?_))
 have hl2 : h'.IsList l items:=by
  obtain ⟨o,e,c,d⟩:=hl1
  exact ⟨o,(sb.2 l ne).trans e,c,d⟩
 have e : List.take items.size (List.drop 0 items.toList) = items.toList:=by
  rw [List.drop_zero]
  exact List.take_of_length_le (by simp)
 rw [e]
 have hn : ¬ items.toList.length < items.size:=by simp
 show wpAny _ _ (if items.toList.length < items.size then _ else _) _ _ _
 rw [if_neg hn]
 refine wpAny_bind (wpAny_holding (wpAny_pyNext_list_end hh it' hl2 (by simp) fun h2 eb=>wpAny_pure (q h2 fun b o hb eo=>eb b o hb ?_)))
 rw [sb.2 b hb]
 exact Heap.get?_push_of_some _ eo
theorem assign_Tuple_list {prog : Program} {w : World} {A : Around} {E : Value->Shared->Prop} {s : Shared} {env : Env} {elts : List Expr} {x1 : Nat} {pos : Pos} {l : Addr} {items : Array Value} {Q : Unit->Shared->Prop} (hh : A.handled = none) (hl : s.heap.IsList l items)
  (hn : (assignEach elts env).length = items.size) (hst : List.findIdx? (fun x=>x.fst) (assignEach elts env) = none)
  (q : ∀ h',Heap.ExtBut s.heap.objs.size s.heap h'->wpAny (model prog w) A (assignInOrder ((assignEach elts env).map (·.2)) items.toList) Q E { s with heap:=h' }) : wpAny (model prog w) A (assign (.Tuple elts x1 pos) env (.ref l)) Q E s:=by
 rw [PyProof.Rows.assign_Tuple]
 refine wpAny_bind (wpAny_standAt ?_)
 unfold unpack
 rw [hst,hn]
 exact wpAny_bind (wpAny_holding (unpackItems_list hh hl fun h' hx=>q h' hx))
section
variable {X : Cx} {pos : Pos}
def gTupL (K : PySem.W.Frag) (n : Nat) (t : TGs) : TG:=fun v σ H Q=>∃ a xs,v = .ref a/\SqL K H a xs/\xs.length = n/\t xs σ H Q
theorem pg_tupL {es : List Expr} {k : Nat} {t : TGs} {n : Nat} (hc : X.calm = true) (h : PGs X es t)
  (hn : (assignEach es X.env).length = n:=by rfl) (hst : (assignEach es X.env).findIdx? (·.1) = none:=by rfl) : PG X (.Tuple es k pos) (gTupL X.K n t):=by
 intro pins s σ H v u Q I r hw
 obtain ⟨a,xs,e1,hq,hl,hw⟩:=hw
 subst e1
 cases r
 obtain ⟨its,rv,p,hz⟩:=I.list hq
 refine assign_Tuple_list (I.ok.hd hc) p.isList (by simp [hn,<- hl,rv.length]) hst fun h' hx=>?_
 have I1 : Inv X pins σ H { s with heap:=h' }:=I.kept (t':=s.toks) fun b o e=>hx b o (Nat.ne_of_lt (Heap.lt_size e)) e
 exact h pins _ σ H xs _ Q I1 (by simpa using rv) hw
theorem g_tupL {es : List Expr} {k : Nat} {t : TGs} {n : Nat} {pos} (hc : X.calm = true) (h : QGs X es t) (hn : (assignEach es X.env).length = n:=by rfl) (hst : (assignEach es X.env).findIdx? (·.1) = none:=by rfl) : QG X (.Tuple es k pos) (gTupL X.K n t):=⟨pg_tupL hc h.h hn hst⟩
theorem Def.never {P : Program} {w : World} {K : PySem.W.Frag} {mg : Str->Option Value} {base h : Heap} {CX : CXT} {x : Str} {k : Nat} {ps : List Str} {st : Stmt} (X : K.In h) (G : h.Ns mainGlobals mg) (FI : FunIn K x st)
  (hb : ∀ (kV doc pm : Value) (an : Option Addr) (cdv ct : Value) (us : List Value),us.length = ps.length->bindArgs (PySem.W.fnOf x x (defArgs st) (defBody st) (defScope st) .none kV doc pm an cdv ct) ⟨us,[]⟩ = pure (ps.zip us)) :
  Def P w K mg base CX x k ps (fun _ _ _ _=>False):=Def.of X G FI (fun f fd F=>⟨fun _ _ _ _ z=>z.elim,fun _ _ _ _ _ _ _ _ _ _ _ _ _ z=>z.elim⟩) hb
end
def tTryE (K : PySem.W.Frag) (j : Nat) (S : Addr) (tx : TX) (ts : Addr->TS) : TS:=fun D σ H =>
 tx σ H (fun v H1=>D.nx σ H1) fun cls d H1=>∃ C bm nid,cls = .ref C/\ExcC K C bm nid/\(Value.ref C :: bm).contains (.ref S) = true /\
  ∀ a,H1 a = none->ts a { nx:=fun σ' H'=>D.nx (σ'.set j none) H',rt:=D.rt,bk:=fun σ' H'=>D.bk (σ'.set j none) H',ct:=fun σ' H'=>D.ct (σ'.set j none) H' } (σ.set j (some (.ref a))) (upd H1 a (excO a cls d))
section
variable {X : Cx}
end
end L2
set_option maxHeartbeats 4000000
namespace G
open PySem L2
abbrev Fine (x : Str) : Prop:=PyData.strOk x = true
theorem fine_iff {x : Str} : Fine x ↔ ∀ c ∈ x.cps.toList,c < 0x110000:=by
 unfold Fine PyData.strOk
 rw [<- Array.all_toList,List.all_eq_true]
 constructor
 ·intro h c hc
  exact of_decide_eq_true (h c hc)
 ·intro h c hc
  exact decide_eq_true (h c hc)
theorem fine_app {a b : Str} (ha : Fine a) (hb : Fine b) : Fine (a ++ b):=by
 rw [fine_iff] at ha hb ⊢
 intro c hc
 have hc' : c ∈ (a.cps ++ b.cps).toList:=hc
 rw [Array.toList_append,List.mem_append] at hc'
 rcases hc' with h | h
 ·exact ha c h
 ·exact hb c h
theorem fine_slice {x : Str} (h : Fine x) (lo hi : Option Int) : Fine (Txt.slice x lo hi):=by
 unfold Txt.slice
 split
 ·exact h
 ·rw [fine_iff] at h ⊢
  intro c hc
  have hc' : c ∈ (Builtin.Str.strSliceIndices lo hi 1 x.length).filterMap (x.cps[·]?):=hc
  obtain ⟨i,_,hi⟩:=List.mem_filterMap.mp hc'
  exact h c (Array.mem_toList_iff.mpr (Array.mem_of_getElem? hi))
theorem fine_one {c : Nat} (h : c < 0x110000) : Fine ⟨#[c]⟩:=by
 rw [fine_iff]
 intro d hd
 have : d = c:=by simpa using hd
 omega
theorem fine_join {l : List Str} (h : ∀ x ∈ l,Fine x) : Fine (Txt.join (Str.ofString "") l):=by
 show Fine (Builtin.Str.glued (Str.ofString "") l)
 rw [PySem.StrLaws.glued_eq_join]
 induction l with
 | nil=>exact (by decide +kernel : PyData.strOk Str.empty = true)
 | cons a r ih =>
  cases r with
  | nil=>exact h a (.head _)
  | cons b r =>
   show Fine (a ++ Str.ofString "" ++ Str.join (Str.ofString "") (b :: r))
   exact fine_app (fine_app (h a (.head _)) (by decide +kernel)) (ih fun x hx=>h x (.tail _ hx))
theorem foldl_len (l : List Str) : ∀ n : Nat,(∀ x ∈ l,x.length <= 100)->l.toArray.foldl (fun acc (p : Str)=>acc + p.length + (Str.ofString "").length) n <= n + 100 * l.length:=by
 have z : (Str.ofString "").length = 0:=by decide
 simp only [z,List.foldl_toArray']
 induction l with
 | nil=>intro n _; simp
 | cons a r ih =>
  intro n h
  have h1:=h a (.head _)
  have h2:=ih (n + a.length + 0) fun x hx=>h x (.tail _ hx)
  simp only [List.foldl_cons,List.length_cons]
  omega
theorem join_ok {l : List Str} (h : ∀ x ∈ l,x.length <= 100) (hl : l.length <= 1000) : JoinOk (Str.ofString "") l = true:=by
 have:=foldl_len l 0 h
 unfold JoinOk
 rw [Bool.not_eq_true']
 unfold Builtin.Str.tooLong
 have zl : sizeLine = 16777216:=sizeLine_eq
 exact decide_eq_false (by omega)
theorem comp_pure2 {J : It} {xs ys : List V} {H : Hp} {cap : St} {te : TE} {Q : VK} (hn : xs.length <= sizeLine) (hl : ys.length = xs.length)
  (go : ∀ i H',Same H H'->i < xs.length->J.go i H') (yld : ∀ i H' x H'',Same H H'->i < xs.length->J.yld i H' x H''->H'' = H'/\xs[i]? = some x) (stop : ∀ H',Same H H'->J.stop xs.length H')
  (el : ∀ (i : Nat) x y H' (P : VK),Same H H'->xs[i]? = some x->ys[i]? = some y->(∀ H'',Same H' H''->P y H'')->te (some x :: cap) H' P) (fin : ∀ D H',Same H H'->H D = none->H' D = some (.lst ys)->Q (.ref D) H') :
  Comped J cap te Q H:=by
 intro D hD
 refine ⟨fun i m zs H2=>m = xs.length - i/\i <= xs.length/\zs = ys.take i/\H2 D = some (.lst zs)/\Same H H2,⟨xs.length,rfl,Nat.zero_le _,by simp,upd_same,Same.new hD _⟩,?_⟩
 rintro i m zs H2 ⟨rfl,hi,hz,hDz,hS⟩
 refine ⟨hDz,?_⟩
 by_cases h : i < xs.length
 ·refine .inr ⟨go i H2 hS h,?_⟩
  intro x H3 hy
  obtain ⟨rfl,hx⟩:=yld i H2 x H3 hS h hy
  obtain ⟨yv,hyi⟩ : ∃ yv,ys[i]? = some yv:=⟨ys[i]'(by omega),List.getElem?_eq_getElem (by omega)⟩
  have hzl : zs.length = i:=by rw [hz,List.length_take]; omega
  refine el i x yv H3 _ hS hx hyi fun H4 hS4=>⟨hS4 _ _ hDz,by omega,xs.length - (i + 1),by omega,rfl,h,?_,upd_same,fun b u q=>?_⟩
  ·rw [hz,List.take_add_one,hyi]
   rfl
  ·rw [upd_ne (ne_of_none q hD)]
   exact hS4 _ _ (hS _ _ q)
 ·have e : i = xs.length:=by omega
  subst e
  refine .inl ⟨stop H2 hS,fin D H2 hS hD ?_⟩
  rw [hDz,hz,List.take_of_length_le (by omega)]
theorem comp_list {K : PySem.W.Frag} {a : Addr} {xs : List V} {H : Hp} {cap : St} {te : TE} {Q : VK} (ys : List V) (hS : SqL K H a xs) (hn : xs.length <= sizeLine) (hl : ys.length = xs.length)
  (el : ∀ (i : Nat) x y H' (P : VK),Same H H'->xs[i]? = some x->ys[i]? = some y->(∀ H'',Same H' H''->P y H'')->te (some x :: cap) H' P) (fin : ∀ D H',Same H H'->H D = none->H' D = some (.lst ys)->Q (.ref D) H') :
  Comped (Itl K a) cap te Q H:=by
 refine comp_pure2 (J:=Itl K a) (xs:=xs) (ys:=ys) hn hl ?_ ?_ ?_ el fin
 ·intro i H' s hi
  exact ⟨xs,xs[i],s.seq hS,List.getElem?_eq_getElem hi⟩
 ·rintro i H' x H'' s hi ⟨rfl,h⟩
  exact ⟨rfl,h xs (s.seq hS)⟩
 ·intro H' s
  exact ⟨xs,s.seq hS,Nat.le_refl _⟩
theorem comp_rng {lo : Int} {n : Nat} {H : Hp} {cap : St} {te : TE} {Q : VK} (f : Nat->V) (hn : n <= sizeLine)
  (el : ∀ (i : Nat) H' (P : VK),i < n->Same H H'->(∀ H'',Same H' H''->P (f i) H'')->te (some (.int (lo + i)) :: cap) H' P) (fin : ∀ D H',Same H H'->H D = none->H' D = some (.lst ((List.range n).map f))->Q (.ref D) H') :
  Comped (Itr lo n) cap te Q H:=by
 have hlen : ((List.range n).map fun (i : Nat)=>V.int (lo + i)).length = n:=by rw [List.length_map,List.length_range]
 refine comp_pure2 (xs:=(List.range n).map fun (i : Nat)=>V.int (lo + i)) (ys:=(List.range n).map f) (by rw [hlen]; exact hn) (by rw [List.length_map,List.length_map]) ?_ ?_ ?_ ?_ fin
 ·intro i H' _ h
  rw [hlen] at h
  exact h
 ·rintro i H' y H'' _ h ⟨rfl,rfl⟩
  refine ⟨rfl,?_⟩
  rw [hlen] at h
  rw [List.getElem?_map,List.getElem?_range h]
  rfl
 ·intro H' _
  rw [hlen]
  exact Nat.le_refl _
 ·intro i y z H' P hS h1 h2 hP
  rw [List.getElem?_map] at h1 h2
  cases hc : (List.range n)[i]? with
  | none=>rw [hc] at h1; cases h1
  | some c =>
   obtain ⟨h3,h4⟩:=List.getElem?_eq_some_iff.mp hc
   rw [hc] at h1 h2
   rw [List.getElem_range] at h4
   subst h4
   cases h1
   cases h2
   rw [List.length_range] at h3
   exact el i H' P h3 hS hP
end G
namespace K01
open PySem
abbrev t9 (a b c d e f p g h : Nat) : Str:=⟨#[a,b,c,d,e,f,p,g,h]⟩
end K01
namespace K01
open PySem PySem.NumText
def greatS : Str:="ABCDEFGHIJKLMNOPQRSTUVWXYZ"
def figS : Str:="0123456789"
def gr (c : Nat) : Bool:=decide (c ∈ greatS.cps.toList)
def dg (c : Nat) : Bool:=decide (c ∈ figS.cps.toList)
theorem greatL : greatS.cps.toList = [65,66,67,68,69,70,71,72,73,74,75,76,77,78,79,80,81,82,83,84,85,86,87,88,89,90]:=by decide
def keyOf (x : Str) : Option (Str × Int):=match x.cps.toList with
 | [a,b,c,d,e,f,p,g,h]=>if (gr a && gr b && (dg c && dg d && dg e && dg f) && (p == 43) && (dg g && dg h) && decide (digitsVal [g,h] < 16)) = true then some (⟨#[a,b]⟩,((digitsVal [c,d,e,f] : Nat) : Int) * 16 + ((digitsVal [g,h] : Nat) : Int)) else none
 | _=>none
def shown (a b : Nat) (n : Nat) : Str:=t9 a b (48 + n / 16 / 1000) (48 + n / 16 / 100 % 10) (48 + n / 16 / 10 % 10) (48 + n / 16 % 10) 43 (48 + n % 16 / 10) (48 + n % 16 % 10)
end K01
set_option maxHeartbeats 4000000
namespace G
open PySem L2
theorem small {n : Nat} (h : n <= 1000) : n <= sizeLine:=Nat.le_of_lt (small1000 h)
theorem fitS {a b : Str} (ha : a.length <= 400) (hb : b.length <= 400) : a.length + b.length <= sizeLine:=by
 have zl : sizeLine = 16777216:=sizeLine_eq
 omega
theorem appS {a b : Str} {m n : Nat} (ha : a.length <= m) (hb : b.length <= n) : (a ++ b).length <= m + n:=by
 rw [PySem.Str.length_append]
 omega
theorem at_list {α : Type} {xs : List α} {i : Int} (h0 : 0 <= i) (h : i < (xs.length : Int)) : ∃ v,atI xs i = some v/\v ∈ xs:=by
 have hj : i.toNat < xs.length:=by omega
 have e : i = ((i.toNat : Nat) : Int):=by omega
 have q:=atI_nat (List.getElem?_eq_getElem hj)
 rw [<- e] at q
 exact ⟨xs[i.toNat],q,List.getElem_mem hj⟩
section
variable {K : PySem.W.Frag}
theorem kit_self {T : String} : PySem.W.kitOne K (.type T) (valOf (.ty T)) = some true:=by
 unfold PySem.W.kitOne
 exact if_pos (beq_self_eq_true (Value.type T))
theorem kit_not {T C : String} (h1 : ¬ (Value.type T == valOf (.ty C)) = true) (h2 : PySem.W.kitMeta C = true) (h3 : (fastBuiltinMro T).map (·.contains (.type C)) = some false) : PySem.W.kitOne K (.type T) (valOf (.ty C)) = some false:=by
 unfold PySem.W.kitOne
 rw [if_neg h1]
 show (if PySem.W.kitMeta C = true then PySem.W.subIn K (.type T) (.type C) else none) = some false
 rw [if_pos h2]
 exact h3
theorem int_bool : PySem.W.kitOne K (.type "int") (valOf (.ty "bool")) = some false:=kit_not (by decide +kernel) (by decide +kernel) (by decide +kernel)
end
inductive Scal : V->Prop
 | non : Scal .non
 | int (i : Int) : Scal (.int i)
 | str (x : Str) (h : x.length <= 1000) (ok : Fine x) : Scal (.str x)
def isStr : V->Bool
 | .str _=>true
 | _=>false
def datV : V->PyData
 | .int i=>.int i
 | .str x=>.str x
 | _=>.none
end G
set_option maxHeartbeats 4000000
namespace L2
open PySem PySem.Spec PyProof.Rows
section
variable {X : Cx} {x : Str} {px pos : Pos} {elt iter : Expr} {sc : Scope} {ys : List Str} {js : List Nat} {cl : List (Str × Addr)}
end
end L2
namespace L2
open PySem PySem.Spec PyProof.Rows
def strC : Expr->Option Str
 | .Constant (.str x) _ _=>some x
 | _=>none
end L2
set_option maxHeartbeats 4000000
namespace L2
open PySem PySem.Spec PyProof.Rows
def rngV (i : Int) (n : Nat) (k : Int) : List V:=(List.range n).map fun (m : Nat)=>V.int (i + (m : Int) * k)
section
variable {X : Cx}
def Small62 (i : Int) : Prop:=-(2 ^ 62) <= i/\i < 2 ^ 62
def tLRng3 (ta : TA) : TE:=fun σ H Q=>ta σ H fun vs H1=>∃ i j k : Int,vs = [.int i,.int j,.int k]/\Small62 i/\Small62 j/\∃ n : Nat,((k = 1/\n = (j - i).toNat) \/ (k = -1/\n = (i - j).toNat))/\n <= 2 ^ 24/\∀ l,H1 l = none->Q (.ref l) (upd H1 l (.lst (rngV i n k)))
def tLRng2 (ta : TA) : TE:=fun σ H Q=>ta σ H fun vs H1=>∃ i j : Int,vs = [.int i,.int j]/\Small62 i/\Small62 j/\(j - i).toNat <= 2 ^ 24/\∀ l,H1 l = none->Q (.ref l) (upd H1 l (.lst (rngV i (j - i).toNat 1)))
theorem g_sub {o i : Expr} {to ti : TE} {pos : Pos} (ho : QE X o to) (hi : QE X i ti)
  (ha : ∀ v,assign (.Subscript o i pos) X.env v = (do
   let ov <- holding [v] (eval o X.env)
   let iv <- holding [v,ov] (eval i X.env)
   standAt pos
   holding [v,ov,iv] (setItem ov iv v)
   release [v,ov,iv] []):=by intro _; rfl) : QG X (.Subscript o i pos) (gSub to ti rSetL):=⟨pg_sub ho.h hi.h set_list ha⟩
end
section
variable {X : Cx} {K : PySem.W.Frag}
theorem call_isinstK (hK : X.K = K) : CallR X (.builtin "isinstance") (fun xs H Q=>∃ x c t b,xs = [x,c]/\TyOf K H x t/\(c = .ref (match c with | .ref a=>a | _=>0) \/ ∃ n,c = .ty n)/\PySem.W.kitOne K t (valOf c) = some b/\Q (.bl b) H):=by
 subst hK
 exact call_isinst
theorem ix_tupK (hK : X.K = K) : IxR X (rIxT K):=by subst hK; exact ix_tup
end
theorem useQ {X : Cx} {b : List Stmt} {t : TS} {D : Ends} {σ : St} {H : Hp} (h : QSs X b t) (r : t D σ H) : ∃ t,PSs X b t/\t D σ H:=⟨t,h.h,r⟩
end L2
set_option maxHeartbeats 4000000
namespace PySem
namespace F
end F
section
variable {prog : Program} {w : World} {A : Around} {E : Value->Shared->Prop} {s : Shared}
def revTObj (l : Addr) (i : Int) : Obj:={ cls:=.type "reversed",data:=.fields #[.ref l,rawInt i] }
def Heap.IsRevT (h : Heap) (a l : Addr) (i : Int) : Prop:=∃ o,h.get? a = some o/\o.cls = .type "reversed"/\o.data = .fields #[.ref l,rawInt i]
open PyProof.Rows in
open PyProof.Rows in
end
end PySem
set_option maxHeartbeats 4000000
namespace PySem
section
variable {prog : Program} {w : World} {A : Around} {E : Value->Shared->Prop} {s : Shared}
open PyProof.Rows in
end
end PySem
set_option maxHeartbeats 4000000
namespace L2
open PySem PySem.Spec PyProof.Rows
section
variable {X : Cx}
theorem e_dget {o i : Expr} {td ty : TE} {pos : Pos} (hu : X.A.units + 1 < cLine) (ho : QE X o td) (hi : QE X i ty) (hs : NoSl i:=by exact fun _ _=>rfl) : QE X (.Subscript o i pos) (tDGet td ty):=⟨pe_dget hu ho.h hi.h hs⟩
theorem e_extend {o e : Expr} {to te : TE} {apos cpos : Pos} (ho : QE X o to) (ha : QE X e te) (hs : nostar e = true:=by rfl) (hbase : attributeBase o "extend" X.env (eval o X.env) = eval o X.env:=by rfl) (hline : (apos.endLine == cpos.line) = true:=by rfl) :
  QE X (.Call (.Attribute o "extend" apos) [e] [] cpos) (tBM X.K "list" rExtend to (tCons te tNil)):=⟨pe_bm PySem.F.plainAttrs_list PySem.F.slot_list_extend PySem.F.type_list_extend mt_extend ho.h (pa' ha.h pa_nil hs) hbase (by rw [star_plain hs]; rfl) hline (star_plain hs)⟩
end
theorem cat_tupG {prog : Program} {w : World} {A : Around} {E : Value->Shared->Prop} {s : Shared} {t b : Addr} {vs ws : List Value} {Q : Value->Shared->Prop} (ht : IsTup s.heap t vs.toArray) (hb : IsTup s.heap b ws.toArray) (h0 : vs = []->Q (.ref b) s)
  (h1 : vs ≠ []->ws = []->Q (.ref t) s) (h2 : vs ≠ []->ws ≠ []->Q (.ref s.heap.objs.size) { s with heap:=s.heap.push { cls:=.type "tuple",data:=.seq (vs ++ ws).toArray } })
  (hsz : vs.length + ws.length <= sizeLine) : wpAny (model prog w) A (binaryOp .Add (.ref t) (.ref b)) Q E s:=by
 by_cases hv : vs = []
 ·obtain ⟨⟨cls,dd,data,sl⟩,ho,hc,n,hd⟩:=id ht
  obtain ⟨⟨cls2,dd2,data2,sl2⟩,ho2,hc2,n2,hd2⟩:=id hb
  simp only at hc hd hc2 hd2
  subst hc hd hc2 hd2
  exact concat_meets ⟨_,ho,rfl⟩ ⟨_,ho2,rfl⟩ noFill_tuple_add seq_tuple_add PySem.F.slot_tuple_add PySem.F.entry_tuple_add (PySem.F.args_tuple_add_2 _ _)
   (tuple_addW0 t b vs.toArray ws.toArray n n2 dd dd2 sl sl2 (by simp [hv])) ⟨ho,ho2,h0 hv⟩
 ·exact HT.cat_tup ht hb hv (h1 hv) (h2 hv) hsz
def rCatG : R2:=fun x y H Q=>∃ a b xs ys,x = .ref a/\y = .ref b/\H a = some (.tup xs)/\H b = some (.tup ys)/\xs.length + ys.length <= sizeLine/\∀ p H',Same H H'->H' p = some (.tup (xs ++ ys))->Q (.ref p) H'
section
variable {X : Cx}
theorem op_catG : OpR X (binaryOp .Add) rCatG:=by
 intro pins s σ H x y v u Q I rx ry h
 obtain ⟨a,b,xs,ys,rfl,rfl,ha,hb,hz,q⟩:=h
 cases rx
 cases ry
 obtain ⟨its,r1,p1,_⟩:=I.tuple (SqT.of (K:=X.K) ha)
 obtain ⟨its2,r2,p2,_⟩:=I.tuple (SqT.of (K:=X.K) hb)
 refine cat_tupG p1 p2 (fun z=>⟨.ref b,H,I,rfl,q b H (Same.refl _) ?_⟩) (fun _ z=>⟨.ref a,H,I,rfl,q a H (Same.refl _) ?_⟩) (fun _ z=>?_) (by rw [<- r1.length,<- r2.length]; exact hz)
 ·rw [r1.nil_iff.mp z]
  exact hb
 ·rw [r2.nil_iff.mp z,List.append_nil]
  exact ha
 ·have fr : H s.heap.objs.size = none:=I.hok.fresh (Nat.le_refl _)
  refine ⟨.ref s.heap.objs.size,_,I.laid (t':=s.toks) (o:=.tup (xs ++ ys)) (fun b ob q=>Heap.get?_push_of_some _ q) (Nat.le_refl _) ?_,rfl,q _ _ (Same.new fr _) upd_same⟩
  exact ⟨by rw [List.length_append]; exact hz,_,r1.append r2,IsTup.new _ _⟩
theorem getItem_tuple_whole {prog : Program} {w : World} {A : Around} {E : Value->Shared->Prop} {s : Shared} {t sl : Addr} {items : Array Value} {vl vu : Value} {lo hi : Option Int} {Q : Value->Shared->Prop} (ht : IsTup s.heap t items) (hs : s.heap.IsSliceOf sl vl vu .none) (pl : IsPart vl lo) (pu : IsPart vu hi)
  (hw : HT.sIx items.size 0 lo = 0/\HT.sIx items.size items.size hi = items.size) (h : Q (.ref t) s) : wpAny (model prog w) A (getItem (.ref t) (.ref sl)) Q E s:=by
 obtain ⟨os,hos,hcs,hds⟩:=id hs
 have hTs : s.TypeIs (.ref sl) "slice":=⟨os,hos,hcs⟩
 unfold getItem
 try with_reducible refine wpAny_holding ?_
 first | refine wpAny_bind (wpAny_pure ?_) | skip
 refine wpAny_bind (wpAny_sequenceKey ht.typeIs (by decide) ?_)
 refine wpAny_bind (wpAny_callSpecial?_slot (name:=Str.ofString "__getitem__") ht.typeIs PyProof.Rows.slot_tuple_getitem
  (wpAny_call_entry PyProof.Rows.slot_tuple_getitem ht.typeIs entry_tuple_getitem ?_ (args_tuple_getitem _ _)))
 show wpAny _ _ (Builtin.Tuple.tupleItemsOf (.ref t) >>= _) _ _ s
 refine wpAny_bind (tupleItemsOf_ ht ?_)
 refine wpAny_bind (wpAny_typeOf hTs ?_)
 rw [if_pos (by decide)]
 refine wpAny_bind (HT.sliceApplied_gen hs pl pu ?_)
 have hyes : (((HT.sIx items.size 0 lo : Nat) : Int) == 0 && (1 : Int) == 1 && (HT.sIx items.size items.size hi - HT.sIx items.size 0 lo) == items.size) = true:=by
  rw [hw.1,hw.2]
  simp
 show wpAny _ _ (if (((HT.sIx items.size 0 lo : Nat) : Int) == 0 && (1 : Int) == 1 && (HT.sIx items.size items.size hi - HT.sIx items.size 0 lo) == items.size) = true then _ else _) _ _ s
 rw [if_pos hyes]
 refine wpAny_bind (m:=Builtin.Tuple.tupleIsExact _) ?_
 show wpAny _ _ (typeOf (.ref t) >>= _) _ _ s
 refine wpAny_bind (wpAny_typeOf ht.typeIs (wpAny_pure ?_))
 rw [if_pos (by decide)]
 refine wpAny_bind (wpAny_rule ?_)
 exact wpAny_pure ⟨_,rfl,wpAny_pure h⟩
def rSlG : V->Option Int->Option Int->Hp->VK->Prop:=fun x lo hi H Q=>∃ a xs,x = .ref a/\H a = some (.tup xs)/\∀ p H',Same H H'->H' p = some (.tup (cutV xs lo hi))->Q (.ref p) H'
theorem sl_tupG : SlR X rSlG:=by
 intro pins s σ H x v vl vu lo hi sl Q I rx hs pl pu h
 obtain ⟨a,xs,rfl,hx,q⟩:=h
 cases rx
 obtain ⟨its,r,ht,hz⟩:=I.tuple (SqT.of (K:=X.K) hx)
 have hlen : its.toArray.size = xs.length:=by rw [List.size_toArray]; exact r.length.symm
 refine ⟨"tuple",_,PyProof.Rows.slot_tuple_getitem.lookup,ht.typeIs,?_⟩
 by_cases hw : HT.sIx xs.length 0 lo = 0/\HT.sIx xs.length xs.length hi = xs.length
 ·refine getItem_tuple_whole ht hs pl pu (by rw [hlen]; exact hw) ⟨.ref a,H,I,rfl,q a H (Same.refl _) ?_⟩
  unfold cutV
  rw [hw.1,hw.2,List.drop_zero,Nat.sub_zero,List.take_length]
  exact hx
 ·refine HT.getItem_tuple_cut ht hs pl pu (by rw [hlen]; exact hw) ?_ (by rw [hlen]; exact hz)
  rw [hlen]
  have fr : H s.heap.objs.size = none:=I.hok.fresh (Nat.le_refl _)
  refine ⟨.ref s.heap.objs.size,_,I.laid (t':=s.toks) (o:=.tup (cutV xs lo hi)) (fun b ob q=>Heap.get?_push_of_some _ q) (Nat.le_refl _) ?_,rfl,q _ _ (Same.new fr _) upd_same⟩
  exact ⟨Nat.le_trans (cutV_length xs lo hi) hz,_,(r.drop (HT.sIx xs.length 0 lo)).take (HT.sIx xs.length xs.length hi - HT.sIx xs.length 0 lo),IsTup.new _ _⟩
end
def Itv (K : PySem.W.Frag) (a : Addr) (xs : List V) : It :=
 ⟨fun i H=>SqT K H a xs/\i < xs.length,fun i H x H'=>H' = H/\xs.reverse[i]? = some x,fun i H=>SqT K H a xs/\xs.length <= i⟩
def iRevT (K : PySem.W.Frag) (ta : TA) : TI:=fun σ H R=>ta σ H fun vs H1=>∃ a xs,vs = [.ref a]/\SqT K H1 a xs/\R (Itv K a xs) H1
section
variable {X : Cx}
end
end L2
set_option maxHeartbeats 1000000
namespace IT
open PySem
inductive It where
 | clip (r : Str) (f l : Int)
 | times (m : Int) (xs : List It)
 | back (xs : List It)
 | part (n : Str) (xs : List It)
 | fade (m : Int)
structure Cl where
 r : Str
 f : Int
 l : Int
 d : Int
def isF : It->Bool
 | .fade _=>true
 | _=>false
def setF (m : Int) : List Cl->List Cl
 | []=>[]
 | c :: r=>⟨c.r,c.f,c.l,m⟩ :: r
def revA : Int->List Cl->List Cl
 | _,[]=>[]
 | a,c :: r=>⟨c.r,c.l,c.f,a⟩ :: revA c.d r
def rev (cs : List Cl) : List Cl:=revA 0 cs.reverse
def rep (n : Nat) (A : List Cl) : List Cl:=(List.replicate n A).flatten
def step (x : It) (more : List Cl) (s : List Cl × Int) : List Cl × Int :=
 match x with
 | .fade m=>(s.1,m)
 | _=>match more with
  | []=>s
  | c :: r=>(s.1 ++ setF s.2 (c :: r),0)
mutual
def flI : It->List Cl
 | .clip r f l=>[⟨r,f,l,0⟩]
 | .times m xs=>rep m.toNat (run xs ([],0)).1
 | .back xs=>rev (run xs ([],0)).1
 | .part _ xs=>(run xs ([],0)).1
 | .fade _=>[]
def run : List It->List Cl × Int->List Cl × Int
 | [],s=>s
 | x :: r,s=>run r (step x (flI x) s)
end
def flL (xs : List It) : List Cl:=(run xs ([],0)).1
theorem flI_times (m : Int) (xs : List It) : flI (.times m xs) = rep m.toNat (flL xs):=by rw [flI,flL]
theorem flI_back (xs : List It) : flI (.back xs) = rev (flL xs):=by rw [flI,flL]
theorem flI_part (n : Str) (xs : List It) : flI (.part n xs) = flL xs:=by rw [flI,flL]
theorem run_app : ∀ (xs ys : List It) (s : List Cl × Int),run (xs ++ ys) s = run ys (run xs s)
 | [],ys,s=>by rw [List.nil_append,run]
 | x :: r,ys,s=>by rw [List.cons_append,run,run,run_app r ys]
mutual
inductive WI : It->Prop
 | clip {r f l} : WI (.clip r f l)
 | times {m xs} : 1 <= m->m <= 20->WL xs->WI (.times m xs)
 | back {xs} : WL xs->WI (.back xs)
 | part {n xs} : WL xs->WI (.part n xs)
inductive WL : List It->Prop
 | one {x} : WI x->WL [x]
 | cons {x r} : WI x->WL r->WL (x :: r)
 | fade {x m r} : WI x->WL r->WL (x :: .fade m :: r)
end
theorem WI.nf {x : It} (h : WI x) : isF x = false:=by cases h <;> rfl
theorem WL.app : ∀ {p q : List It},WL p->WL q->WL (p ++ q)
 | _,_,.one x,h=>.cons x h
 | _,_,.cons x r,h=>.cons x (r.app h)
 | _,_,.fade x r,h=>.fade x (r.app h)
theorem WL.appF : ∀ {p q : List It} {m : Int},WL p->WL q->WL (p ++ .fade m :: q)
 | _,_,_,.one x,h=>.fade x h
 | _,_,_,.cons x r,h=>.cons x (r.appF h)
 | _,_,_,.fade x r,h=>.fade x (r.appF h)
theorem WL.head {xs : List It} (h : WL xs) : ∃ x r,xs = x :: r/\WI x:=by
 cases h with
 | one h=>exact ⟨_,_,rfl,h⟩
 | cons h _=>exact ⟨_,_,rfl,h⟩
 | fade h _=>exact ⟨_,_,rfl,h⟩
theorem setF_setF (m n : Int) (A : List Cl) : setF m (setF n A) = setF m A:=by cases A <;> rfl
theorem setF_app {m : Int} {A B : List Cl} (h : A ≠ []) : setF m (A ++ B) = setF m A ++ B:=by
 cases A with
 | nil=>exact absurd rfl h
 | cons a r=>rfl
theorem setF_ne {m : Int} {A : List Cl} (h : A ≠ []) : setF m A ≠ []:=by
 cases A with
 | nil=>exact absurd rfl h
 | cons a r=>exact List.cons_ne_nil _ _
theorem setF_len (m : Int) (A : List Cl) : (setF m A).length = A.length:=by cases A <;> rfl
def H0 (A : List Cl) : Prop:=A ≠ []/\setF 0 A = A
theorem step_nf {x : It} {A : List Cl} {s : List Cl × Int} (hx : isF x = false) (hA : A ≠ []) : step x A s = (s.1 ++ setF s.2 A,0):=by
 cases A with
 | nil=>exact absurd rfl hA
 | cons a r=>cases x <;> first | rfl | cases hx
theorem step_frame (x : It) (A F : List Cl) (s : List Cl × Int) : step x A (F ++ s.1,s.2) = (F ++ (step x A s).1,(step x A s).2):=by
 cases x <;> cases A <;> simp [step]
theorem run_frame : ∀ (xs : List It) (F : List Cl) (s : List Cl × Int),run xs (F ++ s.1,s.2) = (F ++ (run xs s).1,(run xs s).2)
 | [],F,s=>by rw [run,run]
 | x :: r,F,s=>by rw [run,run,step_frame,run_frame r F]
theorem run_frame0 (xs : List It) (F : List Cl) (k : Int) : run xs (F,k) = (F ++ (run xs ([],k)).1,(run xs ([],k)).2):=by
 have:=run_frame xs F ([],k)
 rwa [List.append_nil] at this
theorem revA_set (a b : Int) (A : List Cl) : revA a A = setF a (revA b A):=by cases A <;> rfl
theorem rev_len (A : List Cl) : (rev A).length = A.length:=by
 have : ∀ (a : Int) (B : List Cl),(revA a B).length = B.length:=by
  intro a B
  induction B generalizing a with
  | nil=>rfl
  | cons c r ih=>rw [revA,List.length_cons,List.length_cons,ih]
 rw [rev,this,List.length_reverse]
theorem rev_ne {A : List Cl} (h : A ≠ []) : rev A ≠ []:=by
 intro z
 have:=rev_len A
 rw [z] at this
 exact h (List.eq_nil_of_length_eq_zero this.symm)
theorem rev_H0 {A : List Cl} (h : A ≠ []) : H0 (rev A):=by
 refine ⟨rev_ne h,?_⟩
 rw [rev,<- revA_set]
theorem rep_succ (n : Nat) (A : List Cl) : rep (n + 1) A = A ++ rep n A:=by rw [rep,List.replicate_succ,List.flatten_cons,<- rep]
theorem rep_H0 {n : Nat} {A : List Cl} (h : H0 A) (hn : 1 <= n) : H0 (rep n A):=by
 obtain ⟨k,rfl⟩ : ∃ k,n = k + 1:=⟨n - 1,by omega⟩
 rw [rep_succ]
 exact ⟨fun z=>h.1 (List.append_eq_nil_iff.mp z).1,by rw [setF_app h.1,h.2]⟩
theorem rep_len (n : Nat) (A : List Cl) : (rep n A).length = n * A.length:=by
 induction n with
 | zero=>simp [rep]
 | succ n ih=>rw [rep_succ,List.length_append,ih,Nat.succ_mul,Nat.add_comm]
mutual
theorem WI.h0 : ∀ {x : It},WI x->H0 (flI x)
 | _,.clip=>by rw [flI]; exact ⟨List.cons_ne_nil _ _,rfl⟩
 | _,.times h1 _ h=>by rw [flI_times]; exact rep_H0 h.h0.1 (by omega)
 | _,.back h=>by rw [flI_back]; exact rev_H0 h.h0.1.1
 | _,.part h=>by rw [flI_part]; exact h.h0.1
theorem WL.h0 : ∀ {xs : List It},WL xs->H0 (flL xs)/\(run xs ([],0)).2 = 0
 | _,.one (x:=x) h=>by
  have a:=h.h0
  rw [flL,run,step_nf h.nf a.1,run]
  simp only [List.nil_append]
  exact ⟨⟨setF_ne a.1,setF_setF 0 0 _⟩,trivial⟩
 | _,.cons (x:=x) (r:=r) h t=>by
  have a:=h.h0
  obtain ⟨b,c⟩:=t.h0
  rw [flL,run,step_nf h.nf a.1,run_frame0]
  simp only [List.nil_append]
  exact ⟨⟨fun z=>setF_ne a.1 (List.append_eq_nil_iff.mp z).1,by rw [setF_app (setF_ne a.1),setF_setF]⟩,c⟩
 | _,.fade (x:=x) (m:=m) (r:=r) h t=>by
  have a:=h.h0
  obtain ⟨b,c⟩:=t.h0
  rw [flL,run,step_nf h.nf a.1,run,step,run_frame0]
  simp only [List.nil_append]
  refine ⟨⟨fun z=>setF_ne a.1 (List.append_eq_nil_iff.mp z).1,by rw [setF_app (setF_ne a.1),setF_setF]⟩,?_⟩
  obtain ⟨y,q,rfl,hy⟩:=t.head
  have ay:=hy.h0
  have z : ∀ k : Int,(run (y :: q) ([],k)).2 = (run (y :: q) ([],0)).2:=by
   intro k
   rw [run,run,step_nf hy.nf ay.1,step_nf hy.nf ay.1]
   simp only [List.nil_append]
   rw [run_frame0 q (setF k (flI y)) 0,run_frame0 q (setF 0 (flI y)) 0]
  show (run (y :: q) ([],m)).2 = 0
  rw [z,c]
end
theorem WL.run {xs : List It} (h : WL xs) (F : List Cl) (k : Int) : run xs (F,k) = (F ++ setF k (flL xs),0):=by
 obtain ⟨y,q,rfl,hy⟩:=h.head
 have ay:=hy.h0
 have c:=h.h0.2
 rw [flL]
 rw [IT.run,step_nf hy.nf ay.1] at c ⊢
 rw [IT.run,step_nf hy.nf ay.1]
 simp only [List.nil_append] at c ⊢
 rw [run_frame0 q (setF 0 (flI y)) 0] at c ⊢
 rw [run_frame0 q (F ++ setF k (flI y)) 0]
 simp only at c ⊢
 rw [c,setF_app (setF_ne ay.1),setF_setF,List.append_assoc]
theorem fl_one {x : It} (h : WI x) : flL [x] = flI x:=by
 have a:=h.h0
 rw [flL,run,step_nf h.nf a.1,run]
 exact a.2
theorem fl_app {p q : List It} (hp : WL p) (hq : WL q) : flL (p ++ q) = flL p ++ flL q:=by
 have a:=hq.h0.1
 rw [flL,run_app,hp.run,hq.run]
 simp only [List.nil_append]
 rw [hp.h0.1.2,a.2]
theorem fl_appF {p q : List It} {m : Int} (hp : WL p) (hq : WL q) : flL (p ++ .fade m :: q) = flL p ++ setF m (flL q):=by
 rw [flL,run_app,hp.run,IT.run,step,hq.run]
 simp only [List.nil_append]
 rw [hp.h0.1.2]
def inp (xs : List It) : List It:=if (xs.take 1 ++ xs.drop (xs.length - 1)).any isF then [.times 1 xs] else xs
mutual
def tI : It->List It
 | .clip r f l=>[.clip r l f]
 | .times m xs=>[.times m (tL xs)]
 | .part n xs=>[.back [.part n xs]]
 | .back xs=>inp (sL xs)
 | .fade m=>[.fade m]
def tL : List It->List It
 | []=>[]
 | x :: r=>tL r ++ tI x
def sI : It->List It
 | .clip r f l=>[.clip r f l]
 | .times m xs=>[.times m (sL xs)]
 | .part n xs=>[.part n xs]
 | .back xs=>inp (tL xs)
 | .fade m=>[.fade m]
def sL : List It->List It
 | []=>[]
 | x :: r=>sI x ++ sL r
end
end IT
set_option maxHeartbeats 1000000
namespace IT
open PySem
mutual
def dI : It->PyData
 | .clip r f l=>.tuple [.str "clip",.str r,.int f,.int l]
 | .times m xs=>.tuple [.str "times",.int m,.tuple (dL xs)]
 | .back xs=>.tuple [.str "back",.tuple (dL xs)]
 | .part n _=>.tuple [.str "part",.str n]
 | .fade m=>.tuple [.str "fade",.int m]
def dL : List It->List PyData
 | []=>[]
 | x :: r=>dI x :: dL r
end
theorem dL_map : ∀ xs : List It,dL xs = xs.map dI
 | []=>by rw [dL]; rfl
 | x :: r=>by rw [dL,dL_map r]; rfl
theorem dL_app (p q : List It) : dL (p ++ q) = dL p ++ dL q:=by rw [dL_map,dL_map,dL_map,List.map_append]
mutual
def okI (T : Str->Prop) (G : Str->List It->Prop) : It->Prop
 | .clip r _ _=>T r
 | .times _ xs=>okL T G xs
 | .back xs=>okL T G xs
 | .part n xs=>G n xs
 | .fade _=>True
def okL (T : Str->Prop) (G : Str->List It->Prop) : List It->Prop
 | []=>True
 | x :: r=>okI T G x/\okL T G r
end
section
variable {T : Str->Prop} {G : Str->List It->Prop}
end
mutual
def dpI : It->Nat
 | .clip _ _ _=>0
 | .times _ xs=>dpL xs + 1
 | .back xs=>dpL xs + 1
 | .part _ xs=>dpL xs + 1
 | .fade _=>0
def dpL : List It->Nat
 | []=>0
 | x :: r=>max (dpI x) (dpL r)
end
theorem dpL_le {d : Nat} : ∀ {xs : List It},dpL xs <= d ↔ ∀ x ∈ xs,dpI x <= d
 | []=>by rw [dpL]; exact ⟨fun _ x h=>(nomatch h),fun _=>Nat.zero_le _⟩
 | y :: r=>by
  rw [dpL,Nat.max_le,dpL_le (xs:=r)]
  constructor
  ·intro h x hx
   rcases List.mem_cons.mp hx with rfl | z
   ·exact h.1
   ·exact h.2 x z
  ·exact fun h=>⟨h y (List.mem_cons_self ..),fun x hx=>h x (List.mem_cons_of_mem _ hx)⟩
theorem dpL_app {d : Nat} {p q : List It} (hp : dpL p <= d) (hq : dpL q <= d) : dpL (p ++ q) <= d:=dpL_le.mpr fun x hx=>by
 rcases List.mem_append.mp hx with z | z
 ·exact dpL_le.mp hp x z
 ·exact dpL_le.mp hq x z
theorem dp1 {d : Nat} {x : It} (h : dpI x <= d) : dpL [x] <= d:=by rw [dpL,dpL]; omega
mutual
def wI : It->Nat
 | .clip _ _ _=>1
 | .times _ xs=>wL xs + 1
 | .back xs=>wL xs + 1
 | .part _ _=>1
 | .fade _=>1
def wL : List It->Nat
 | []=>0
 | x :: r=>wI x + wL r
end
theorem wL_app : ∀ p q : List It,wL (p ++ q) = wL p + wL q
 | [],q=>by rw [List.nil_append,wL,Nat.zero_add]
 | x :: r,q=>by rw [List.cons_append,wL,wL,wL_app r q]; omega
theorem wI_pos (x : It) : 1 <= wI x:=by cases x <;> simp [wI]
theorem wL_len : ∀ xs : List It,xs.length <= wL xs
 | []=>Nat.zero_le _
 | x :: r=>by have:=wL_len r; have:=wI_pos x; rw [wL,List.length_cons]; omega
mutual
def plI : It->Prop
 | .clip _ _ _=>True
 | .times _ xs=>plL xs/\xs ≠ []
 | .back xs=>∃ n ys,xs = [.part n ys]
 | .part _ _=>True
 | .fade _=>True
def plL : List It->Prop
 | []=>True
 | x :: r=>plI x/\plL r
end
mutual
def cnI : It->Int
 | .clip _ _ _=>1
 | .times m xs=>m * cnL xs
 | .back xs=>cnL xs
 | .part _ xs=>cnL xs
 | .fade _=>0
def cnL : List It->Int
 | []=>0
 | x :: r=>cnI x + cnL r
end
mutual
def frI : It->Int
 | .clip _ f l=>(if l - f < 0 then -(l - f) else l - f) + 1
 | .times m xs=>m * frL xs
 | .back xs=>frL xs
 | .part _ xs=>frL xs
 | .fade _=>0
def frL : List It->Int
 | []=>0
 | x :: r=>frI x + frL r
end
theorem cnL_app : ∀ p q : List It,cnL (p ++ q) = cnL p + cnL q
 | [],q=>by rw [List.nil_append,cnL,Int.zero_add]
 | x :: r,q=>by rw [List.cons_append,cnL,cnL,cnL_app r q]; omega
theorem frL_app : ∀ p q : List It,frL (p ++ q) = frL p + frL q
 | [],q=>by rw [List.nil_append,frL,Int.zero_add]
 | x :: r,q=>by rw [List.cons_append,frL,frL,frL_app r q]; omega
theorem step_len (x : It) (A : List Cl) (s : List Cl × Int) (h : isF x = true->A = []) : (step x A s).1.length = s.1.length + A.length:=by
 cases x with
 | fade m=>rw [h rfl]; simp [step]
 | _=>cases A <;> simp [step,setF_len]
theorem fl_fade {x : It} (h : isF x = true) : flI x = []:=by cases x with | fade m=>rw [flI] | _=>cases h
theorem rep_cast {m : Int} (h : 0 <= m) (A : List Cl) : ((rep m.toNat A).length : Int) = m * (A.length : Int):=by
 rw [rep_len,Int.natCast_mul,Int.toNat_of_nonneg h]
mutual
theorem cn_len : ∀ {x : It},WI x->((flI x).length : Int) = cnI x
 | _,.clip=>by rw [flI,cnI]; rfl
 | _,.times h1 _ h=>by rw [flI_times,rep_cast (by omega),cn_lenL h,cnI]
 | _,.back h=>by rw [flI_back,rev_len,cn_lenL h,cnI]
 | _,.part h=>by rw [flI_part,cn_lenL h,cnI]
theorem cn_lenL : ∀ {xs : List It},WL xs->((flL xs).length : Int) = cnL xs
 | _,.one h=>by rw [fl_one h,cn_len h,cnL,cnL,Int.add_zero]
 | _,.cons (x:=x) (r:=r) h t=>by
  have e : flL (x :: r) = flL [x] ++ flL r:=fl_app (.one h) t
  rw [e,List.length_append,fl_one h,Int.natCast_add,cn_len h,cn_lenL t,cnL]
 | _,.fade (x:=x) (m:=m) (r:=r) h t=>by
  have e : flL (x :: .fade m :: r) = flL [x] ++ setF m (flL r):=fl_appF (.one h) t
  rw [e,List.length_append,setF_len,fl_one h,Int.natCast_add,cn_len h,cn_lenL t,cnL,cnL,cnI,Int.zero_add]
end
mutual
theorem cn_pos : ∀ {x : It},WI x->1 <= cnI x
 | _,.clip=>by rw [cnI]; omega
 | _,.times (m:=m) h1 _ h=>by
  rw [cnI]
  have a:=cn_posL h
  have b : m * 1 <= m * cnL _:=Int.mul_le_mul_of_nonneg_left a (by omega)
  omega
 | _,.back h=>by rw [cnI]; exact cn_posL h
 | _,.part h=>by rw [cnI]; exact cn_posL h
theorem cn_posL : ∀ {xs : List It},WL xs->1 <= cnL xs
 | _,.one h=>by rw [cnL,cnL,Int.add_zero]; exact cn_pos h
 | _,.cons h t=>by rw [cnL]; have:=cn_pos h; have:=cn_posL t; omega
 | _,.fade h t=>by rw [cnL,cnL,cnI]; have:=cn_pos h; have:=cn_posL t; omega
end
end IT
set_option maxHeartbeats 1000000
namespace IT
open PySem
theorem WL.mem : ∀ {xs : List It},WL xs->∀ x ∈ xs,WI x \/ ∃ m,x = .fade m
 | _,.one h,x,hx=>by rw [List.mem_singleton.mp hx]; exact .inl h
 | _,.cons h t,x,hx=>by
  rcases List.mem_cons.mp hx with rfl | z
  ·exact .inl h
  ·exact t.mem x z
 | _,.fade h t,x,hx=>by
  rcases List.mem_cons.mp hx with rfl | z
  ·exact .inl h
  ·rcases List.mem_cons.mp z with rfl | z
   ·exact .inr ⟨_,rfl⟩
   ·exact t.mem x z
theorem run_take {xs : List It} {i : Nat} {x : It} (h : xs[i]? = some x) (s : List Cl × Int) : run (xs.take (i + 1)) s = step x (flI x) (run (xs.take i) s):=by
 rw [List.take_add_one,h,run_app]
 show run [x] _ = _
 rw [run,run]
theorem cn_nn {x : It} (h : WI x \/ ∃ m,x = .fade m) : 0 <= cnI x:=by
 rcases h with h | ⟨m,rfl⟩
 ·have:=cn_pos h; omega
 ·rw [cnI]; omega
theorem run_len : ∀ (xs : List It) (s : List Cl × Int),(∀ x ∈ xs,WI x \/ ∃ m,x = .fade m)->((run xs s).1.length : Int) = s.1.length + cnL xs
 | [],s,_=>by rw [run,cnL,Int.add_zero]
 | x :: r,s,h=>by
  rw [run,run_len r _ fun y hy=>h y (List.mem_cons_of_mem _ hy),cnL,step_len x (flI x) s fl_fade]
  have : ((flI x).length : Int) = cnI x:=by
   rcases h x (List.mem_cons_self ..) with w | ⟨m,rfl⟩
   ·exact cn_len w
   ·rw [flI,cnI]; rfl
  omega
theorem cnL_take : ∀ (xs : List It) (i : Nat),(∀ x ∈ xs,WI x \/ ∃ m,x = .fade m)->cnL (xs.take i) <= cnL xs/\0 <= cnL xs
 | [],i,_=>by rw [List.take_nil,cnL]; omega
 | x :: r,0,h=>by
  have a:=cn_nn (h x (List.mem_cons_self ..))
  have b:=(cnL_take r 0 fun y hy=>h y (List.mem_cons_of_mem _ hy)).2
  rw [List.take_zero,cnL,cnL]
  omega
 | x :: r,i + 1,h=>by
  have a:=cn_nn (h x (List.mem_cons_self ..))
  have b:=cnL_take r i fun y hy=>h y (List.mem_cons_of_mem _ hy)
  rw [List.take_succ_cons,cnL,cnL]
  omega
theorem cnI_le : ∀ {xs : List It} {x : It},(∀ x ∈ xs,WI x \/ ∃ m,x = .fade m)->x ∈ xs->cnI x <= cnL xs
 | y :: r,x,h,hx=>by
  have a:=cn_nn (h y (List.mem_cons_self ..))
  have b:=(cnL_take r 0 fun y hy=>h y (List.mem_cons_of_mem _ hy)).2
  rw [cnL]
  rcases List.mem_cons.mp hx with rfl | z
  ·omega
  ·have:=cnI_le (fun y hy=>h y (List.mem_cons_of_mem _ hy)) z; omega
def NM (T : Str->Prop) (cs : List Cl) : Prop:=∀ c ∈ cs,T c.r
section
variable {T : Str->Prop} {G : Str->List It->Prop}
theorem NM.app {A B : List Cl} (a : NM T A) (b : NM T B) : NM T (A ++ B):=fun c hc=>by
 rcases List.mem_append.mp hc with z | z
 ·exact a c z
 ·exact b c z
theorem NM.set {m : Int} {A : List Cl} (a : NM T A) : NM T (setF m A):=by
 cases A with
 | nil=>exact a
 | cons x r =>
  intro c hc
  rw [setF] at hc
  rcases List.mem_cons.mp hc with rfl | z
  ·exact a x (List.mem_cons_self ..)
  ·exact a c (List.mem_cons_of_mem _ z)
theorem NM.revA {T : Str->Prop} : ∀ {A : List Cl} {k : Int},NM T A->NM T (revA k A)
 | [],_,a=>fun c hc=>by rw [IT.revA] at hc; exact (nomatch hc)
 | x :: r,k,a=>fun c hc=>by
  rw [IT.revA] at hc
  rcases List.mem_cons.mp hc with rfl | z
  ·exact a x (List.mem_cons_self ..)
  ·exact NM.revA (fun y hy=>a y (List.mem_cons_of_mem _ hy)) c z
theorem NM.rev {A : List Cl} (a : NM T A) : NM T (rev A):=NM.revA fun c hc=>a c (List.mem_reverse.mp hc)
theorem NM.rep {n : Nat} {A : List Cl} (a : NM T A) : NM T (rep n A):=fun c hc=>by
 unfold IT.rep at hc
 obtain ⟨l,hl,hc⟩:=List.mem_flatten.mp hc
 rw [(List.mem_replicate.mp hl).2] at hc
 exact a c hc
theorem NM.step {x : It} {A : List Cl} {s : List Cl × Int} (a : NM T A) (b : NM T s.1) : NM T (step x A s).1:=by
 cases x with
 | fade m=>exact b
 | _=>cases A with
  | nil=>exact b
  | cons y r=>exact b.app a.set
mutual
theorem nmI (clo : ∀ n ys,G n ys->okL T G ys) : ∀ {x : It},okI T G x->NM T (flI x)
 | .clip r f l,h=>by
  rw [okI] at h
  rw [flI]
  intro c hc
  rw [List.mem_singleton.mp hc]
  exact h
 | .times m xs,h=>by rw [okI] at h; rw [flI]; exact NM.rep (nmR clo h fun c hc=>(nomatch hc))
 | .back xs,h=>by rw [okI] at h; rw [flI]; exact NM.rev (nmR clo h fun c hc=>(nomatch hc))
 | .part n xs,h=>by rw [okI] at h; rw [flI]; exact nmR clo (clo n xs h) fun c hc=>(nomatch hc)
 | .fade m,h=>by rw [flI]; exact fun c hc=>(nomatch hc)
theorem nmR (clo : ∀ n ys,G n ys->okL T G ys) : ∀ {xs : List It} {s : List Cl × Int},okL T G xs->NM T s.1->NM T (run xs s).1
 | [],s,_,b=>by rw [run]; exact b
 | x :: r,s,h,b=>by rw [okL] at h; rw [run]; exact nmR clo h.2 (NM.step (nmI clo h.1) b)
end
theorem nmL (clo : ∀ n ys,G n ys->okL T G ys) {xs : List It} (h : okL T G xs) : NM T (flL xs):=nmR clo h fun c hc=>(nomatch hc)
end
theorem revA_get : ∀ (L : List Cl) (a : Int) (j : Nat) (c : Cl),L[j]? = some c->(revA a L)[j]? = some ⟨c.r,c.l,c.f,if j = 0 then a else ((L[j - 1]?).map (·.d)).getD 0⟩
 | [],_,_,_,h=>by cases h
 | x :: r,a,0,c,h=>by
  cases h
  rfl
 | x :: r,a,j + 1,c,h=>by
  have h' : r[j]? = some c:=h
  have:=revA_get r x.d j c h'
  rw [revA,List.getElem?_cons_succ,this]
  rw [if_neg (Nat.succ_ne_zero j),Nat.add_sub_cancel]
  cases j with
  | zero=>rfl
  | succ k=>rw [if_neg (Nat.succ_ne_zero k),Nat.add_sub_cancel,List.getElem?_cons_succ]
theorem rev_get {A : List Cl} {j : Nat} {c : Cl} (hj : j < A.length) (hc : A[A.length - 1 - j]? = some c) : (rev A)[j]? = some ⟨c.r,c.l,c.f,if j = 0 then 0 else ((A[A.length - j]?).map (·.d)).getD 0⟩:=by
 rw [rev,revA_get A.reverse 0 j c (by rw [List.getElem?_reverse hj]; exact hc)]
 by_cases h0 : j = 0
 ·rw [if_pos h0,if_pos h0]
 ·rw [if_neg h0,if_neg h0,List.getElem?_reverse (by omega),show A.length - 1 - (j - 1) = A.length - j by omega]
theorem nodup_len {α : Type} [DecidableEq α] : ∀ {l m : List α},l.Nodup->(∀ x ∈ l,x ∈ m)->l.length <= m.length
 | [],_,_,_=>Nat.zero_le _
 | a :: r,m,h,s=>by
  obtain ⟨h1,h2⟩:=List.nodup_cons.mp h
  have ha:=s a (List.mem_cons_self ..)
  have:=nodup_len (m:=m.erase a) h2 fun x hx=>(List.mem_erase_of_ne (fun (e : x = a)=>h1 (by rw [<- e]; exact hx))).mpr (s x (List.mem_cons_of_mem _ hx))
  rw [List.length_erase_of_mem ha] at this
  have : 0 < m.length:=List.length_pos_of_mem ha
  rw [List.length_cons]
  omega
end IT
set_option maxHeartbeats 1000000
namespace DT
open PySem L2 G
mutual
inductive Td (H : Hp) : V->PyData->Prop
 | int (i : Int) : Td H (.int i) (.int i)
 | str (x : Str) : Td H (.str x) (.str x)
 | tup {a : Addr} {vs : List V} {ds : List PyData} : H a = some (.tup vs)->Tds H vs ds->Td H (.ref a) (.tuple ds)
inductive Tds (H : Hp) : List V->List PyData->Prop
 | nil : Tds H [] []
 | cons {v : V} {vs : List V} {d : PyData} {ds : List PyData} : Td H v d->Tds H vs ds->Tds H (v :: vs) (d :: ds)
end
def TK (H H' : Hp) : Prop:=∀ a xs,H a = some (.tup xs)->H' a = some (.tup xs)
theorem TK.trans {H H1 H2 : Hp} (a : TK H H1) (b : TK H1 H2) : TK H H2:=fun c o h=>b c o (a c o h)
theorem TK.of {H H' : Hp} (s : Same H H') : TK H H':=fun _ _ h=>s _ _ h
theorem TK.lst {H : Hp} {p : Addr} {xs : List V} {o : HO} (h : H p = some (.lst xs)) : TK H (upd H p o):=fun a ys e=>by rw [upd_ne (ne_of e h (by intro z; cases z))]; exact e
theorem TK.dk {H : Hp} {p : Addr} {kvs : List (Key × V)} {o : HO} (h : H p = some (.dK kvs)) : TK H (upd H p o):=fun a ys e=>by rw [upd_ne (ne_of e h (by intro z; cases z))]; exact e
theorem TK.new {H : Hp} {p : Addr} (h : H p = none) (o : HO) : TK H (upd H p o):=TK.of (Same.new h o)
mutual
theorem Td.tk {H H' : Hp} (t : TK H H') : ∀ {v : V} {d : PyData},Td H v d->Td H' v d
 | _,_,.int i=>.int i
 | _,_,.str x=>.str x
 | _,_,.tup h r=>.tup (t _ _ h) (r.tk t)
theorem Tds.tk {H H' : Hp} (t : TK H H') : ∀ {vs : List V} {ds : List PyData},Tds H vs ds->Tds H' vs ds
 | _,_,.nil=>.nil
 | _,_,.cons h r=>.cons (h.tk t) (r.tk t)
end
mutual
theorem Td.den {K : PySem.W.Frag} {H : Hp} : ∀ {v : V} {d : PyData},Td H v d->Den K H v d
 | _,_,.int i=>.int i
 | _,_,.str x=>.str x
 | _,_,.tup h r=>.tup (SqT.of h) r.den
theorem Tds.den {K : PySem.W.Frag} {H : Hp} : ∀ {vs : List V} {ds : List PyData},Tds H vs ds->DenAll K H vs ds
 | _,_,.nil=>.nil
 | _,_,.cons h r=>.cons h.den r.den
end
theorem Tds.len {H : Hp} : ∀ {vs : List V} {ds : List PyData},Tds H vs ds->vs.length = ds.length
 | _,_,.nil=>rfl
 | _,_,.cons _ r=>by rw [List.length_cons,List.length_cons,r.len]
theorem Tds.app {H : Hp} : ∀ {vs us : List V} {ds es : List PyData},Tds H vs ds->Tds H us es->Tds H (vs ++ us) (ds ++ es)
 | _,_,_,_,.nil,h=>h
 | _,_,_,_,.cons a r,h=>.cons a (r.app h)
theorem Tds.one {H : Hp} {v : V} {d : PyData} (h : Td H v d) : Tds H [v] [d]:=.cons h .nil
theorem Tds.get {H : Hp} : ∀ {vs : List V} {ds : List PyData} {i : Nat} {v : V},Tds H vs ds->vs[i]? = some v->∃ d,ds[i]? = some d/\Td H v d
 | _,_,0,_,.cons h _,e=>by cases e; exact ⟨_,rfl,h⟩
 | _,_,i + 1,_,.cons _ r,e=>r.get (i:=i) e
theorem Tds.at {H : Hp} : ∀ {vs : List V} {ds : List PyData} {i : Nat} {d : PyData},Tds H vs ds->ds[i]? = some d->∃ v,vs[i]? = some v/\Td H v d
 | _,_,0,_,.cons h _,e=>by cases e; exact ⟨_,rfl,h⟩
 | _,_,i + 1,_,.cons _ r,e=>r.at (i:=i) e
theorem Tds.drop {H : Hp} : ∀ {vs : List V} {ds : List PyData} (n : Nat),Tds H vs ds->Tds H (vs.drop n) (ds.drop n)
 | _,_,0,h=>h
 | _,_,n + 1,.nil=>.nil
 | _,_,n + 1,.cons h r=>r.drop n
theorem cut_first (vs : List V) : cutV vs none (some 1) = vs.take 1:=by
 unfold cutV
 have e : HT.sIx vs.length vs.length (some 1) = min 1 vs.length:=HT.sIx_nat _ _ 1
 rw [e,HT.sIx_none,List.drop_zero,Nat.sub_zero]
 cases vs with
 | nil=>rfl
 | cons a r=>rw [Nat.min_eq_left (by rw [List.length_cons]; omega)]
theorem cut_from (vs : List V) (k : Nat) : cutV vs (some (k : Int)) none = vs.drop k:=by
 unfold cutV
 rw [HT.sIx_nat,HT.sIx_none]
 by_cases h : k <= vs.length
 ·rw [Nat.min_eq_left h,List.take_of_length_le (by rw [List.length_drop]; omega)]
 ·rw [Nat.min_eq_right (by omega),Nat.sub_self,List.take_zero,List.drop_eq_nil_of_le (by omega)]
theorem Tds.rev {H : Hp} : ∀ {vs : List V} {ds : List PyData},Tds H vs ds->Tds H vs.reverse ds.reverse
 | _,_,.nil=>.nil
 | _,_,.cons h r=>by
  rw [List.reverse_cons,List.reverse_cons]
  exact r.rev.app (.cons h .nil)
theorem Tds.rep {H : Hp} {vs : List V} {ds : List PyData} (h : Tds H vs ds) : ∀ n : Nat,Tds H (List.replicate n vs).flatten (List.replicate n ds).flatten
 | 0=>.nil
 | n + 1=>by
  rw [List.replicate_succ,List.replicate_succ,List.flatten_cons,List.flatten_cons]
  exact h.app (h.rep n)
theorem Td.tinv {H : Hp} {v : V} {ds : List PyData} (h : Td H v (.tuple ds)) : ∃ a vs,v = .ref a/\H a = some (.tup vs)/\Tds H vs ds:=by
 cases h with
 | tup h r=>exact ⟨_,_,rfl,h,r⟩
theorem Td.sinv {H : Hp} {v : V} {x : Str} (h : Td H v (.str x)) : v = .str x:=by cases h; rfl
theorem Td.iinv {H : Hp} {v : V} {x : Int} (h : Td H v (.int x)) : v = .int x:=by cases h; rfl
open IT
def kd : IT.It->Str
 | .clip _ _ _=>"clip"
 | .times _ _=>"times"
 | .back _=>"back"
 | .part _ _=>"part"
 | .fade _=>"fade"
theorem td_clip {H : Hp} {v : V} {r : Str} {f l : Int} (h : Td H v (dI (.clip r f l))) : ∃ a,v = .ref a/\H a = some (.tup [.str "clip",.str r,.int f,.int l]):=by
 rw [dI] at h
 obtain ⟨a,vs,rfl,h1,h2⟩:=h.tinv
 cases h2 with | cons a1 h2=>cases h2 with | cons a2 h2=>cases h2 with | cons a3 h2=>cases h2 with | cons a4 h2=>cases h2; rw [a1.sinv,a2.sinv,a3.iinv,a4.iinv] at h1; exact ⟨_,rfl,h1⟩
theorem td_times {H : Hp} {v : V} {m : Int} {xs : List IT.It} (h : Td H v (dI (.times m xs))) : ∃ a b,v = .ref a/\H a = some (.tup [.str "times",.int m,.ref b])/\Td H (.ref b) (.tuple (dL xs)):=by
 rw [dI] at h
 obtain ⟨a,vs,rfl,h1,h2⟩:=h.tinv
 cases h2 with | cons a1 h2=>cases h2 with | cons a2 h2=>cases h2 with | cons a3 h2=>cases h2; rw [a1.sinv,a2.iinv] at h1; obtain ⟨b,us,rfl,h3,h4⟩:=a3.tinv; exact ⟨_,b,rfl,h1,.tup h3 h4⟩
theorem td_back {H : Hp} {v : V} {xs : List IT.It} (h : Td H v (dI (.back xs))) : ∃ a b,v = .ref a/\H a = some (.tup [.str "back",.ref b])/\Td H (.ref b) (.tuple (dL xs)):=by
 rw [dI] at h
 obtain ⟨a,vs,rfl,h1,h2⟩:=h.tinv
 cases h2 with | cons a1 h2=>cases h2 with | cons a3 h2=>cases h2; rw [a1.sinv] at h1; obtain ⟨b,us,rfl,h3,h4⟩:=a3.tinv; exact ⟨_,b,rfl,h1,.tup h3 h4⟩
theorem td_part {H : Hp} {v : V} {n : Str} {xs : List IT.It} (h : Td H v (dI (.part n xs))) : ∃ a,v = .ref a/\H a = some (.tup [.str "part",.str n]):=by
 rw [dI] at h
 obtain ⟨a,vs,rfl,h1,h2⟩:=h.tinv
 cases h2 with | cons a1 h2=>cases h2 with | cons a2 h2=>cases h2; rw [a1.sinv,a2.sinv] at h1; exact ⟨_,rfl,h1⟩
theorem td_fade {H : Hp} {v : V} {m : Int} (h : Td H v (dI (.fade m))) : ∃ a,v = .ref a/\H a = some (.tup [.str "fade",.int m]):=by
 rw [dI] at h
 obtain ⟨a,vs,rfl,h1,h2⟩:=h.tinv
 cases h2 with | cons a1 h2=>cases h2 with | cons a2 h2=>cases h2; rw [a1.sinv,a2.iinv] at h1; exact ⟨_,rfl,h1⟩
theorem td_kd {H : Hp} {v : V} {x : IT.It} (h : Td H v (dI x)) : ∃ a vs,v = .ref a/\H a = some (.tup (.str (kd x) :: vs)):=by
 cases x with
 | clip r f l=>obtain ⟨a,rfl,e⟩:=td_clip h; exact ⟨a,_,rfl,e⟩
 | times m xs=>obtain ⟨a,b,rfl,e,_⟩:=td_times h; exact ⟨a,_,rfl,e⟩
 | back xs=>obtain ⟨a,b,rfl,e,_⟩:=td_back h; exact ⟨a,_,rfl,e⟩
 | part n xs=>obtain ⟨a,rfl,e⟩:=td_part h; exact ⟨a,_,rfl,e⟩
 | fade m=>obtain ⟨a,rfl,e⟩:=td_fade h; exact ⟨a,_,rfl,e⟩
theorem mk_clip {H : Hp} {a : Addr} {r : Str} {f l : Int} (h : H a = some (.tup [.str "clip",.str r,.int f,.int l])) : Td H (.ref a) (dI (.clip r f l)):=by
 rw [dI]; exact .tup h (.cons (.str _) (.cons (.str _) (.cons (.int _) (.cons (.int _) .nil))))
theorem mk_times {H : Hp} {a b : Addr} {m : Int} {xs : List IT.It} (h : H a = some (.tup [.str "times",.int m,.ref b])) (hb : Td H (.ref b) (.tuple (dL xs))) : Td H (.ref a) (dI (.times m xs)):=by
 rw [dI]; exact .tup h (.cons (.str _) (.cons (.int _) (.cons hb .nil)))
theorem mk_back {H : Hp} {a b : Addr} {xs : List IT.It} (h : H a = some (.tup [.str "back",.ref b])) (hb : Td H (.ref b) (.tuple (dL xs))) : Td H (.ref a) (dI (.back xs)):=by
 rw [dI]; exact .tup h (.cons (.str _) (.cons hb .nil))
theorem mk_part {H : Hp} {a : Addr} {n : Str} {xs : List IT.It} (h : H a = some (.tup [.str "part",.str n])) : Td H (.ref a) (dI (.part n xs)):=by
 rw [dI]; exact .tup h (.cons (.str _) (.cons (.str _) .nil))
theorem mk_fade {H : Hp} {a : Addr} {m : Int} (h : H a = some (.tup [.str "fade",.int m])) : Td H (.ref a) (dI (.fade m)):=by
 rw [dI]; exact .tup h (.cons (.str _) (.cons (.int _) .nil))
theorem sne {x y : Str} (h : (x == y) = false:=by decide +kernel) : decide (V.str x = V.str y) = false:=decide_eq_false fun e=>by
 cases e
 rw [beq_self_eq_true] at h
 cases h
theorem seq (x : Str) : decide (V.str x = V.str x) = true:=decide_eq_true rfl
theorem iteN {c : Bool} {A B : Prop} (h : c = false) (b : B) : if c = true then A else B:=by rw [h]; exact iteF b
theorem iteY {c : Bool} {A B : Prop} (h : c = true) (a : A) : if c = true then A else B:=by rw [h]; exact iteT a
theorem kd_fade : ∀ x : IT.It,decide (V.str (kd x) = V.str "fade") = isF x
 | .clip _ _ _=>(sne : decide (V.str "clip" = V.str "fade") = false)
 | .times _ _=>(sne : decide (V.str "times" = V.str "fade") = false)
 | .back _=>(sne : decide (V.str "back" = V.str "fade") = false)
 | .part _ _=>(sne : decide (V.str "part" = V.str "fade") = false)
 | .fade _=>(seq _ : decide (V.str "fade" = V.str "fade") = true)
theorem dL_get {xs : List IT.It} {i : Nat} {d : PyData} (h : (dL xs)[i]? = some d) : ∃ x,xs[i]? = some x/\d = dI x:=by
 rw [dL_map,List.getElem?_map] at h
 cases e : xs[i]? with
 | none=>rw [e] at h; cases h
 | some x=>rw [e] at h; exact ⟨x,rfl,(Option.some.inj h).symm⟩
def IL (H : Hp) (l : Addr) (xs : List IT.It) : Prop:=∃ vs,H l = some (.lst vs)/\Tds H vs (dL xs)
def dC (c : Cl) : PyData:=.tuple [.str c.r,.int c.f,.int c.l,.int c.d]
theorem td_cl {H : Hp} {v : V} {c : Cl} (h : Td H v (dC c)) : ∃ a,v = .ref a/\H a = some (.tup [.str c.r,.int c.f,.int c.l,.int c.d]):=by
 obtain ⟨a,vs,rfl,h1,h2⟩:=Td.tinv h
 cases h2 with | cons a1 h2=>cases h2 with | cons a2 h2=>cases h2 with | cons a3 h2=>cases h2 with | cons a4 h2=>cases h2; rw [a1.sinv,a2.iinv,a3.iinv,a4.iinv] at h1; exact ⟨_,rfl,h1⟩
theorem mk_cl {H : Hp} {a : Addr} {c : Cl} (h : H a = some (.tup [.str c.r,.int c.f,.int c.l,.int c.d])) : Td H (.ref a) (dC c):=.tup h (.cons (.str _) (.cons (.int _) (.cons (.int _) (.cons (.int _) .nil))))
def CL (H : Hp) (l : Addr) (cs : List Cl) : Prop:=∃ vs,H l = some (.lst vs)/\Tds H vs (cs.map dC)
theorem CL.same {H H' : Hp} {l : Addr} {cs : List Cl} (h : CL H l cs) (s : Same H H') : CL H' l cs:=by
 obtain ⟨vs,h1,h2⟩:=h
 exact ⟨vs,s _ _ h1,h2.tk (TK.of s)⟩
def CF (cs : List Cl) : Prop:=∀ c ∈ cs,Fine c.r
theorem lay_cl {c : Cl} (h : Fine c.r) : (dC c).canLay0 = true:=by
 unfold dC
 simp only [PyData.canLay0,PyData.canLayAll0,Bool.and_true]
 exact h
theorem lay_cls : ∀ {cs : List Cl},CF cs->PyData.canLayAll0 (cs.map dC) = true
 | [],_=>rfl
 | c :: r,h=>by
  rw [List.map_cons,PyData.canLayAll0,lay_cl (h c (List.mem_cons_self ..)),lay_cls fun x hx=>h x (List.mem_cons_of_mem _ hx)]
  rfl
theorem dep_cls : ∀ cs : List Cl,PyData.depthAll (cs.map dC) <= 5
 | []=>by simp [PyData.depthAll]
 | c :: r=>by
  have:=dep_cls r
  rw [List.map_cons,PyData.depthAll]
  simp only [dC,PyData.depth,PyData.depthAll]
  omega
end DT
set_option maxHeartbeats 4000000
namespace L2
open PySem PySem.Spec PyProof.Rows PySem.Builtin PySem.Builtin.Str
section
variable {X : Cx}
def rSplit : V->List V->Hp->VK->Prop:=fun x vs H Q=>∃ z y,x = .str z/\vs = [.str y]/\(y.length == 0) = false/\z.length + 2 <= sizeLine/\∀ p,H p = none->Q (.ref p) (upd H p (.lst ((Txt.split z y).map V.str)))
def rPart : V->List V->Hp->VK->Prop:=fun x vs H Q=>∃ z y,x = .str z/\vs = [.str y]/\(y.length == 0) = false/\z.length <= sizeLine/\∀ p,H p = none->Q (.ref p) (upd H p (.tup [.str (Txt.partition z y).1,.str (Txt.partition z y).2.1,.str (Txt.partition z y).2.2]))
def rStarts : V->List V->Hp->VK->Prop:=fun x vs H Q=>∃ z y,x = .str z/\vs = [.str y]/\Q (.bl (Txt.startswith z y)) H
def rEnds : V->List V->Hp->VK->Prop:=fun x vs H Q=>∃ z y,x = .str z/\vs = [.str y]/\Q (.bl (Txt.endswith z y)) H
def rCount : V->List V->Hp->VK->Prop:=fun x vs H Q=>∃ z y,x = .str z/\vs = [.str y]/\Q (.int (Txt.count z y)) H
def tF (te : TE) : TE:=fun σ H Q=>te σ H fun v H1=>(∃ x,v = .str x/\x.length <= sizeLine/\Q (.str x) H1) \/ ∃ i,v = .int i/\i.natAbs.log2 < 1920/\Q (.str (toString i)) H1
abbrev TJ:=Str->St->Hp->VK->Prop
structure QJ (X : Cx) (es : List Expr) (t : TJ) : Prop where
 h : ∀ (out : Str) (pins : List (Addr × Obj)) (s : Shared) (σ : St) (H : Hp) (Q : VK),Inv X pins σ H s->t out σ H Q->wpAny (model X.prog X.w) X.A (joinParts out (evalEach es X.env)) (EP X pins σ Q) X.xe s
end
end L2
set_option maxHeartbeats 4000000
namespace L2
open PySem PySem.Spec PyProof.Rows
def CompedT (J : It) (n : Nat) (cap : St) (g : TG) (te : TE) (Q : VK) (H1 : Hp) : Prop:=∀ D,H1 D = none->∃ W : Nat->Nat->List V->Hp->Prop,(∃ m,W 0 m [] (upd H1 D (.lst [])))/\∀ i m ys H2,W i m ys H2->H2 D = some (.lst ys) /\
 ((J.stop i H2/\Q (.ref D) H2) \/ (J.go i H2/\∀ x H3 (xo : St),xo.length = n->J.yld i H2 x H3->g x (xo ++ cap) H3 fun σ6 H6=>(∃ xo' : St,xo'.length = n/\σ6 = xo' ++ cap)/\te σ6 H6 fun y H4=>H4 D = some (.lst ys)/\ys.length < sizeLine/\∃ m',m' < m/\W (i + 1) m' (ys ++ [y]) (upd H4 D (.lst (ys ++ [y])))))
def tCompT (wi : TI) (n : Nat) (js : List Nat) (g : TG) (te : TE) : TE:=fun σ H Q=>wi σ H fun J H1=>CompedT J n (capt σ js) g te Q H1
section
variable {X : Cx} {pos : Pos} {elt iter : Expr} {sc : Scope} {xs ys : List Str} {js : List Nat} {cl : List (Str × Addr)}
end
end L2
set_option maxHeartbeats 4000000
namespace L2
open PySem PySem.Spec PyProof.Rows
def Itz (K : PySem.W.Frag) (a b : Addr) : It :=
  ⟨fun i H=>∃ xs ys x y,SqL K H a xs/\SqL K H b ys/\xs[i]? = some x/\ys[i]? = some y,
   fun i H x H'=>∃ p v w,x = .ref p/\H p = none/\H' = upd H p (.tup [v,w])/\(∀ xs,SqL K H a xs->xs[i]? = some v)/\(∀ ys,SqL K H b ys->ys[i]? = some w),
   fun i H=>∃ xs ys,SqL K H a xs/\SqL K H b ys/\(xs.length <= i \/ ys.length <= i)⟩
def iZip (K : PySem.W.Frag) (ta : TA) : TI:=fun σ H R=>ta σ H fun vs H1=>∃ a b,vs = [.ref a,.ref b]/\(∃ xs,SqL K H1 a xs)/\(∃ ys,SqL K H1 b ys)/\R (Itz K a b) H1
section
variable {X : Cx}
end
end L2
set_option maxHeartbeats 4000000
namespace L2
open PySem PySem.Spec PyProof.Rows
section
variable {M : Model} {A : Around} {E : Value->Shared->Prop} {s : Shared} {B : Heap} {env : Env} {outer l : List Env} {L e : Addr} {cls fl : Value} {d : Option Addr} {Q : Unit->Shared->Prop}
end
def compXe (X : Cx) (sc : Scope) (cl : List (Str × Addr)) (C : Addr) : Value->Shared->Prop :=
 notedBy (model X.prog X.w) X.A (compEnvC sc cl C X.env) fun x s'=>∃ m,s'.heap.Ns C m/\∀ h',Heap.SameBut C s'.heap h'->∀ cenv : Env,cenv.locals = C ->
  wpAny (model X.prog X.w) X.A (PySem.passOn "comprehension.variables-let-go" x cenv : Sem Value) (fun _ _=>False) X.xe { s' with heap:=h' }
def compCxX (X : Cx) (sc : Scope) (N' : List Str) (cl : List (Str × Addr)) (s2 : Shared) (H2 : Hp) (C : Addr) (ex : List Addr) : Cx :=
 (compCx X sc N' cl s2 H2 C ex).wish (compXe X sc cl C)
section
variable {P : Program} {w : World} {K : PySem.W.Frag} {mg : Str->Option Value} {base : Heap} {N : List Str} {qual : Str} {scope : Scope} {f : Addr} {cd : Value} {A : Around} {outer : List Env} {s₀ : Shared} {H₀ : Hp} {E : XK}
end
section
variable {X : Cx} {x : Str} {px pos : Pos} {elt iter : Expr} {sc : Scope} {ys : List Str} {js : List Nat} {cl : List (Str × Addr)}
end
end L2
set_option maxHeartbeats 4000000
namespace ET
open PySem PySem.Spec PyProof.Rows
section
variable {prog : Program} {w : World} {A : Around} {E : Value->Shared->Prop} {s : Shared}
theorem next_item {J T : Addr} {k : Nat} {us : Array Value} {v : Value} {Q : Value->Shared->Prop} (hJ : s.heap.IsTupleIter J T k) (hT : s.heap.IsTuple T us) (hv : us[k]? = some v)
  (q : ∀ h',h'.IsTupleIter J T (k + 1)->Heap.SameBut J s.heap h'->Q v { s with heap:=h' }) : wpAny (model prog w) A (Builtin.SmallTypes.nextOf (.ref J)) Q E s:=by
 obtain ⟨oJ,gJ,cJ,dJ⟩:=id hJ
 obtain ⟨oT,gT,_,m,dT⟩:=hT
 unfold Builtin.SmallTypes.nextOf
 refine wpAny_bind (wpAny_callSpecial?_slot (name:=Str.ofString "__next__") hJ.typeIs F.slot_tuple_iterator_next (wpAny_call_entry F.slot_tuple_iterator_next hJ.typeIs F.entry_tuple_iterator_next ?_ (F.args_tuple_iterator_next_1 _)))
 show wpAny _ _ (field (.ref J) 0 >>= _) _ _ s
 refine wpAny_bind (wpAny_field gJ dJ (x:=.ref T) rfl ?_)
 show wpAny _ _ (if (Value.ref T == Value.none) = true then _ else _) _ _ s
 rw [if_neg (show ¬ ((Value.ref T == Value.none) = true) from Bool.false_ne_true)]
 show wpAny _ _ (field (.ref J) 1 >>= _) _ _ s
 refine wpAny_bind (wpAny_field gJ dJ (x:=.int k 0) rfl ?_)
 show wpAny _ _ (seqItems? (.ref T) >>= _) _ _ s
 refine wpAny_bind (wpAny_seqItems gT dT ?_)
 simp only [Int.toNat_natCast,hv]
 refine wpAny_bind (wpAny_setField gJ dJ (by simp) (wpAny_pure ⟨v,rfl,wpAny_pure (q _ ?_ (Heap.SameBut.update ..))⟩))
 exact ⟨_,Heap.get?_update_self _ gJ (Obj.isFreed_of_fields (Obj.data_mapFields dJ _)),(Obj.cls_mapFields ..).trans cJ,by rw [Obj.data_mapFields dJ]; simp [rawInt]⟩
theorem next_end {J T : Addr} {k : Nat} {us : Array Value} {Q : Value->Shared->Prop} (hA : A.handled = none) (hJ : s.heap.IsTupleIter J T k) (hT : s.heap.IsTuple T us) (hv : us[k]? = none)
  (q : ∀ h' e,Heap.ExtBut J s.heap h'->(∃ o,h'.get? e = some o/\o.cls = .type "StopIteration")->E (.ref e) { s with heap:=h' }) : wpAny (model prog w) A (Builtin.SmallTypes.nextOf (.ref J)) Q E s:=by
 obtain ⟨oJ,gJ,cJ,dJ⟩:=id hJ
 obtain ⟨oT,gT,_,m,dT⟩:=hT
 unfold Builtin.SmallTypes.nextOf
 refine wpAny_bind (wpAny_callSpecial?_slot (name:=Str.ofString "__next__") hJ.typeIs F.slot_tuple_iterator_next (wpAny_call_entry F.slot_tuple_iterator_next hJ.typeIs F.entry_tuple_iterator_next ?_ (F.args_tuple_iterator_next_1 _)))
 show wpAny _ _ (field (.ref J) 0 >>= _) _ _ s
 refine wpAny_bind (wpAny_field gJ dJ (x:=.ref T) rfl ?_)
 show wpAny _ _ (if (Value.ref T == Value.none) = true then _ else _) _ _ s
 rw [if_neg (show ¬ ((Value.ref T == Value.none) = true) from Bool.false_ne_true)]
 show wpAny _ _ (field (.ref J) 1 >>= _) _ _ s
 refine wpAny_bind (wpAny_field gJ dJ (x:=.int k 0) rfl ?_)
 show wpAny _ _ (seqItems? (.ref T) >>= _) _ _ s
 refine wpAny_bind (wpAny_seqItems gT dT ?_)
 simp only [Int.toNat_natCast,hv]
 refine wpAny_bind (wpAny_rule (wpAny_bind (wpAny_setField gJ dJ (by simp) ?_)))
 show wpAny _ _ (newExc (.type "StopIteration") [] >>= _) _ _ _
 refine wpAny_bind ?_
 simp only [newExc,newTuple]
 refine wpAny_bind (wpAny_newObj_type ?_ (by size_fits))
 refine wpAny_bind (m:=firstArgMember _ _) (wpAny_of_eq (a:=Value.none) (by first | rfl | (simp only [firstArgMember]; rfl)) ?_)
 refine wpAny_newObj_type ?_ (by size_fits)
 simp only [raiseNew]
 refine wpAny_bind (wpAny_handled ?_)
 rw [hA]
 refine wpAny_bind (wpAny_pure (wpAny_throw ?_))
 exact q _ _ (((Heap.SameBut.update ..).extBut.push _).push _) ⟨_,Heap.get?_push_size _ rfl,rfl⟩
end
theorem draws {prog : Program} {w : World} {A : Around} (hA : A.handled = none) (J T : Addr) (ne : T ≠ J) (us : Array Value) :
  Draws prog w A J [J,T] us.size (fun i v=>us[i]? = some v) (fun i h=>h.IsTupleIter J T i/\h.IsTuple T us) where
 live:=fun _ _ st=>let ⟨o,ho,_⟩:=st.1; ⟨o,ho⟩
 frame:=fun _ _ _ st k=>⟨st.1.at fun o e=>k J (by simp) o e,let ⟨o,ho,r⟩:=st.2; ⟨o,k T (by simp) o ho,r⟩⟩
 item:=fun i s Q E hi st q=>next_item st.1 st.2 (v:=us[i]) (by simp [hi]) fun h' a b=>q _ h' s.toks (by simp [hi]) ⟨a,st.2.extBut b.extBut ne⟩ b
 done:=fun s Q E st q=>next_end hA st.1 st.2 (by simp) q
open AutoSeq1 (wpAny_loadPart')
theorem meets_new (T : Addr) (us : Array Value) (n : Nat) (dc : Option Addr) (sl : Array (Option Value)) :
  Meets (Builtin.«enumerate.__new__» ⟨[.type "enumerate",.ref T],[]⟩) (fun _ R s=>s.heap.get? T = some { cls:=.type "tuple",dict:=dc,data:=.seq us n,slots:=sl } /\
   R (.ok (.ret (.ref (s.heap.push { cls:=.type "tuple_iterator",data:=.fields #[.ref T,.int 0 0] }).objs.size)))
    { s with heap:=(s.heap.push { cls:=.type "tuple_iterator",data:=.fields #[.ref T,.int 0 0] }).push { cls:=.type "enumerate",data:=.fields #[.none,.bool false,.ref s.heap.objs.size,rawInt 0,.none,.none] } }) :=
 .of_wp fun prog w A R s h=>by
  obtain ⟨hp,g,d,tk,os⟩:=s
  obtain ⟨hl,h⟩:=h
  have hsub:=sub_enumerate
  have hT : Heap.IsTuple (Shared.heap ⟨hp,g,d,tk,os⟩) T us:=⟨_,hl,rfl,n,rfl⟩
  wp_walk using wpAny_loadPart' hl
  refine wpAny_stack_any fun st=>wpAny_pure ?_
  split
  ·rename_i c _ _ _ _ _
   cases (c == Value.type "enumerate")
   ·wp_walk using wpAny_loadPart' hl,wpAny_pyIter_tuple hT
    exact ⟨_,rfl,h⟩
   ·wp_walk using wpAny_loadPart' hl,wpAny_pyIter_tuple hT
    exact ⟨_,rfl,h⟩
  ·wp_walk using wpAny_loadPart' hl,wpAny_pyIter_tuple hT
   exact ⟨_,rfl,h⟩
theorem call_new {prog : Program} {w : World} {A : Around} {E : Value->Shared->Prop} {s : Shared} {T : Addr} {us : Array Value} {Q : Value->Shared->Prop} (hT : s.heap.IsTuple T us)
  (h : ∀ h',IsEnum h' (s.heap.objs.size + 1) s.heap.objs.size 0 .none->h'.IsTupleIter s.heap.objs.size T 0->(∀ b o,s.heap.get? b = some o->h'.get? b = some o)->Q (.ref (s.heap.objs.size + 1)) { s with heap:=h' }) :
  wpAny (model prog w) A (call (.type "enumerate") [.ref T]) Q E s:=by
 obtain ⟨⟨c,dc,dt,sl⟩,g,c1,n,d1⟩:=hT
 replace c1 : c = .type "tuple":=c1
 replace d1 : dt = .seq us n:=d1
 subst c1 d1
 refine callType_new F.called_enumerate (by decide) (F.typeCall_enumerate_1 _) (F.newCall_enumerate_1 _) (fun obj=>F.args_object_init_2 obj _) F.entry_enumerate_new (meets_new T us n dc sl) ⟨g,?_⟩
 have hz : (s.heap.push { cls:=.type "tuple_iterator",data:=.fields #[.ref T,.int 0 0] }).objs.size = s.heap.objs.size + 1:=Heap.size_push ..
 show _/\_
 rw [hz]
 have he : IsEnum ((s.heap.push { cls:=.type "tuple_iterator",data:=.fields #[.ref T,.int 0 0] }).push { cls:=.type "enumerate",data:=.fields #[.none,.bool false,.ref s.heap.objs.size,rawInt 0,.none,.none] }) (s.heap.objs.size + 1) s.heap.objs.size 0 .none:=by
  have z:=Heap.get?_push_size (s.heap.push { cls:=.type "tuple_iterator",data:=.fields #[.ref T,.int 0 0] }) (o:={ cls:=.type "enumerate",data:=.fields #[.none,.bool false,.ref s.heap.objs.size,rawInt 0,.none,.none] }) rfl
  rw [hz] at z
  exact z
 exact ⟨⟨_,he,rfl⟩,h _ he ⟨_,Heap.get?_push_of_some _ (Heap.get?_push_size _ rfl),rfl,rfl⟩ fun b o x=>Heap.get?_push_of_some _ (Heap.get?_push_of_some _ x)⟩
end ET
namespace L2
open PySem PySem.Spec PyProof.Rows
def IteT (K : PySem.W.Frag) (a : Addr) : It :=
 ⟨fun i H=>∃ xs x,SqT K H a xs/\xs[i]? = some x,fun i H x H'=>∃ p v,x = .ref p/\H p = none/\H' = upd H p (.tup [.int (i : Int),v])/\∀ xs,SqT K H a xs->xs[i]? = some v,fun i H=>∃ xs,SqT K H a xs/\xs.length = i⟩
theorem turn_enumT {P : Program} {w : World} {K : PySem.W.Frag} {elts : List Expr} {x1} {pos : Pos} (a e it : Addr) (hne : e ≠ it) :
  Turn P w K (.Tuple elts x1 pos) (IteT K a) [e,it] e (fun i h=>∃ old,IsEnum h e it (i : Int) old/\h.IsTupleIter it a i) where
 mem:=by simp
 obj:=fun i h st b hb=>by
  obtain ⟨old,he,o,e1,c,d⟩:=st
  have hb' : b = e \/ b = it:=by simpa using hb
  rcases hb' with rfl | rfl
  ·exact ⟨_,he,fun v z=>by
    have z' : Data.fields _ = Data.cell v:=z
    cases z'⟩
  ·exact ⟨o,e1,fun v z=>by rw [d] at z; cases z⟩
 keep:=fun i h h' st k=>by
  obtain ⟨old,he,hi⟩:=st
  exact ⟨old,k e (by simp) _ he,hi.at fun o q=>k it (by simp) o q⟩
 item:=by
  intro X hP hw hK hc i pins s σ H E I hf st hg
  subst hP hw hK
  obtain ⟨xs,x,hq,hx⟩:=hg
  obtain ⟨old,he,hit⟩:=st
  obtain ⟨its,rv,p,hz⟩:=I.tuple hq
  have p' : s.heap.IsTuple a its.toArray:=p
  obtain ⟨u,hu,ru⟩:=rv.get hx
  have hu' : its.toArray[i]? = some u:=by simpa using hu
  have nea : e ≠ a:=fun z=>by
   obtain ⟨o,e1,c1,_⟩:=p'
   rw [<- z,he] at e1
   cases e1
   exact absurd (Value.type.inj c1) (by decide)
  have nia : a ≠ it:=fun z=>by
   obtain ⟨o,e1,c1,_⟩:=p'
   obtain ⟨o2,e2,c2,_⟩:=hit
   rw [z,e2] at e1
   cases e1
   rw [c1] at c2
   exact absurd (Value.type.inj c2) (by decide)
  refine wpAny_pyNext_enum_itemD (ET.draws (show X.A.in1.handled = none from I.ok.hd hc) it a nia its.toArray) he ⟨hit,p'⟩ (Array.getElem?_eq_some_iff.mp hu').1 hne (by simp [hne,nea]) fun x' h1 tk hP eo st1 ht hz1 hk1=>?_
  obtain rfl : u = x':=by
   have z:=hu'.symm.trans hP
   cases z
   rfl
  refine ⟨_,rfl,wpAny_letOwnedTupleGo_enum (s:={ s with heap:=h1,toks:=tk + 1 }) eo fun h2 he2 hs2=>?_⟩
  have hs2' : Heap.SameBut e h1 h2:=hs2
  have nH : H s.heap.objs.size = none:=I.hok.fresh (Nat.le_refl _)
  have eL : e < s.heap.objs.size:=Heap.lt_size he
  obtain ⟨oi,hoi,ci,di⟩:=id hit
  have iL : it < s.heap.objs.size:=Heap.lt_size hoi
  have ht2 : h2.get? s.heap.objs.size = some { cls:=.type "tuple",data:=.seq #[.int i tk,u] }:=(hs2'.2 _ (Nat.ne_of_gt eL)).trans ht
  have pg : (s.heap.push { cls:=.type "tuple",data:=.seq #[.int i tk,u] }).get? s.heap.objs.size = some { cls:=.type "tuple",data:=.seq #[.int i tk,u] }:=Heap.get?_push_size _ rfl
  have J1:=I.laid (a:=s.heap.objs.size) (o:=.tup [.int (i : Int),x]) (h':=s.heap.push { cls:=.type "tuple",data:=.seq #[.int i tk,u] }) (t':=s.toks) (fun b v z=>Heap.get?_push_of_some _ z) (Nat.le_refl _)
   ⟨(by show 2 <= sizeLine; decide),[.int i tk,u],.cons ⟨_,rfl⟩ (.cons ru .nil),⟨_,pg,rfl,_,rfl⟩⟩
  have fp' : ∀ b ∈ [e,it],FpOk X pins (upd H s.heap.objs.size (.tup [.int (i : Int),x])) b:=fun b hb=>by
   obtain ⟨f0,f1,f2,f3,f4,f5⟩:=hf b hb
   have hb' : b = e \/ b = it:=by simpa using hb
   refine ⟨?_,f1,f2,f3,f4,f5⟩
   rw [upd_ne (by rcases hb' with rfl | rfl; exact Nat.ne_of_lt eL; exact Nat.ne_of_lt iL)]
   exact f0
  have J2:=J1.turnedL (h':=h2) (t':=tk + 1) (ch:=[e,it]) (fun b o hb z=>by
   have n1 : b ≠ e:=fun y=>hb (by simp [y])
   have n2 : b ≠ it:=fun y=>hb (by simp [y])
   by_cases hp : b = s.heap.objs.size
   ·subst hp
    have z' : s.heap.objs.size = s.heap.objs.size->(s.heap.push { cls:=.type "tuple",data:=.seq #[.int i tk,u] }).get? s.heap.objs.size = some o:=fun _=>z
    rw [pg] at z'
    have:=z' rfl
    cases this
    exact ht2
   ·have z2 : s.heap.get? b = some o:=get_push_ne z hp
    exact (hs2'.2 b n1).trans (hk1 b o n1 n2 z2)) fp'
  refine ⟨.ref s.heap.objs.size,_,J2,rfl,⟨_,x,rfl,nH,rfl,fun ys hy=>by rw [I.tuple_inj hy hq]; exact hx⟩,⟨u,?_,?_⟩,fun b hb=>(fp' b hb).1⟩
  ·have e1 : ((i : Int) + 1) = ((i + 1 : Nat) : Int):=by omega
   rw [<- e1]
   exact he2
  ·exact st1.1.at fun o q=>(hs2'.2 it (Ne.symm hne)).trans q
 done:=by
  intro X hP hw hK hc i pins s σ H E I hf st hg
  subst hP hw hK
  obtain ⟨xs,hq,hx⟩:=hg
  obtain ⟨old,he,hit⟩:=st
  obtain ⟨its,rv,p,hz⟩:=I.tuple hq
  have p' : s.heap.IsTuple a its.toArray:=p
  have hl:=rv.length
  have nia : a ≠ it:=fun z=>by
   obtain ⟨o,e1,c1,_⟩:=p'
   obtain ⟨o2,e2,c2,_⟩:=hit
   rw [z,e2] at e1
   cases e1
   rw [c1] at c2
   exact absurd (Value.type.inj c2) (by decide)
  obtain rfl : i = its.toArray.size:=by simp; omega
  refine wpAny_pyNext_enum_endD (ET.draws (show X.A.in1.handled = none from I.ok.hd hc) it a nia its.toArray) he ⟨hit,p'⟩ fun h' eb=>⟨rfl,I.turnedL (t':=s.toks) (ch:=[e,it]) (fun b o hb z=>eb b o (fun y=>hb (by simp [y])) z) hf⟩
 self:=fun _ _ _ _ _ st h=>by
  obtain ⟨old,he,_⟩:=st
  exact wpAny_pyIter_enum he h
def iEnumT (K : PySem.W.Frag) (ta : TA) : TI:=fun σ H R=>ta σ H fun vs H1=>∃ a,vs = [.ref a]/\(∃ xs,SqT K H1 a xs)/\R (IteT K a) H1
section
variable {X : Cx}
theorem pi_enumT {elts : List Expr} {x1} {tpos p pos : Pos} {a : Expr} {ta : TA} (hg : Gl X "enumerate") (hm : X.mg "enumerate" = none) (hbt : bootBuiltins "enumerate" = some (.type "enumerate")) (ha : PA X [a] ta) (hs : starEach [a] X.env = [(false,eval a X.env)]:=by rfl) :
  PI X (.Tuple elts x1 tpos) (.Call (.Name "enumerate" p) [a] [] pos) (iEnumT X.K ta):=by
 intro pins s σ H R I h
 refine Call_ (ld_blt I hg hm hbt (PyProof.Rows.callWith_type1 (thn (ha pos pins s σ H _ I h) fun us s1 ⟨vs,H1,I1,r1,q1⟩=>?_) hs rfl))
 obtain ⟨a,rfl,⟨xs,hq⟩,q⟩:=q1
 obtain ⟨u,rfl,ru⟩:=vals1 r1
 cases ru
 obtain ⟨its,rv,pl,hz⟩:=I1.tuple hq
 refine ET.call_new (show s1.heap.IsTuple a its.toArray from pl) fun h' he hi hk=>?_
 refine wpAny_pyIter_enum he ?_
 have I2 : Inv X pins σ H1 { s1 with heap:=h' }:=I1.kept (t':=s1.toks) hk
 refine ⟨s1.heap.objs.size + 1,[s1.heap.objs.size + 1,s1.heap.objs.size],_,_,H1,rfl,I2,turn_enumT a _ _ (Nat.succ_ne_self _),⟨_,he,hi⟩,fun b hb=>?_,q⟩
 have hb' : b = s1.heap.objs.size + 1 \/ b = s1.heap.objs.size:=by simpa using hb
 rcases hb' with rfl | rfl
 ·exact I1.fpOk (Nat.le_succ _) (I1.hok.fresh (Nat.le_succ _))
 ·exact I1.fpOk (Nat.le_refl _) (I1.hok.fresh (Nat.le_refl _))
theorem for_enumT {K : PySem.W.Frag} {a : Addr} {xs : List V} {g : TG} {tb : TS} {D : Ends} {σ : St} {H : Hp} (Pv : Nat->St->Hp->Prop) (h0 : Pv 0 σ H) (hl : ∀ i σ H,i <= xs.length->Pv i σ H->SqT K H a xs)
  (hs : ∀ i x σ H p,xs[i]? = some x->Pv i σ H->H p = none->g (.ref p) σ (upd H p (.tup [.int (i : Int),x])) fun σ2 H2=>tb { D with nx:=Pv (i + 1),ct:=Pv (i + 1),bk:=D.nx } σ2 H2) (hd : ∀ σ H,Pv xs.length σ H->D.nx σ H) :
  ∃ W : Nat->Nat->St->Hp->Prop,(∃ m,W 0 m σ H)/\∀ i m σ H,W i m σ H ->
   ((IteT K a).stop i H/\D.nx σ H) \/ ((IteT K a).go i H/\∃ N : St->Hp->Prop,(∀ σ' H',N σ' H'->∃ m',m' < m/\W (i + 1) m' σ' H')/\∀ x H',(IteT K a).yld i H x H'->g x σ H' fun σ2 H2=>tb { D with nx:=N,ct:=N,bk:=D.nx } σ2 H2):=by
 refine ⟨fun i m σ H=>m = xs.length - i/\i <= xs.length/\Pv i σ H,⟨xs.length,by simp,Nat.zero_le _,h0⟩,?_⟩
 rintro i m σ H ⟨rfl,hi,p⟩
 have q:=hl i σ H hi p
 by_cases hlt : i < xs.length
 ·refine .inr ⟨⟨xs,xs[i],q,by simp [hlt]⟩,Pv (i + 1),fun σ' H' p'=>⟨xs.length - (i + 1),by omega,rfl,hlt,p'⟩,fun x H' y=>?_⟩
  obtain ⟨pp,v,rfl,hn,rfl,y⟩:=y
  exact hs i v σ H pp (y xs q) p hn
 ·have e : i = xs.length:=by omega
  subst e
  exact .inl ⟨⟨xs,q,rfl⟩,hd σ H p⟩
end
end L2
set_option maxHeartbeats 4000000
namespace L2
open PySem PySem.Spec PyProof.Rows
section
variable {X : Cx}
theorem i_enumT {elts : List Expr} {x1} {tpos p pos : Pos} {a : Expr} {t : TE} (hm : X.mg "enumerate" = none) (ha : QE X a t) (hg : X.env.kindOf "enumerate" = some .globalImplicit:=by kernel_rfl) (hs : nostar a = true:=by rfl) : QI X (.Tuple elts x1 tpos) (.Call (.Name "enumerate" p) [a] [] pos) (iEnumT X.K (tCons t tNil)) :=
 ⟨pi_enumT hg hm (by decide +kernel) (pa' ha.h pa_nil hs) ((star_plain hs).trans rfl)⟩
theorem e_dgetD {o e f : Expr} {td ty tx : TE} {apos cpos : Pos} (hu : X.A.units + 1 < cLine) (ho : QE X o td) (he : QE X e ty) (hf : QE X f tx) (h1 : nostar e = true:=by rfl) (h2 : nostar f = true:=by rfl) (hbase : attributeBase o "get" X.env (eval o X.env) = eval o X.env:=by rfl) (hline : (apos.endLine == cpos.line) = true:=by rfl) :
  QE X (.Call (.Attribute o "get" apos) [e,f] [] cpos) (tDGet2 td ty tx) :=
 ⟨pe_dget2 hu ho.h he.h hf.h ⟨hbase,by rw [star_plain h1,star_plain h2]; rfl,hline,by rw [star_plain h1,star_plain h2]; rfl⟩⟩
end
end L2
set_option maxHeartbeats 4000000
namespace L2
open PySem PySem.Spec PyProof.Rows
section
variable {prog : Program} {w : World} {A : Around} {E : Value->Shared->Prop} {h : Heap} {g : Array GenState} {d : Drawn} {t : Nat} {os : OsState} {a : Addr} {o : Obj}
end
end L2
set_option maxHeartbeats 4000000
namespace L2
open PySem PySem.Spec PyProof.Rows PySem.W
def eKV (ks : List (Str × V)) : List (Key × V):=ks.map fun x=>(Sum.inr x.1,x.2)
section
variable {prog : Program} {w : World} {A : Around} {R : Result->Shared->Prop} {I : Addr} {fp wr : List Addr} {G : Array GenState->Array GenState->Prop} {n : Nat} {P : Nat->Value->Prop} {St : Nat->Shared->Prop}
end
section
variable {prog : Program} {w : World} {A : Around} {E : Value->Shared->Prop} {s : Shared}
end
section
variable {X : Cx} {pins : List (Addr × Obj)} {σ : St} {H : Hp} {s : Shared}
theorem Inv.trackV {a : Addr} {o : HO} (I : Inv X pins σ H s) (f : FpOk X pins H a) (hx : X.s₀.heap.get? a = none) (new : ObjOk X.prog X.w (upd H a o) s.heap a o) : Inv X pins σ (upd H a o) s:=by
 obtain ⟨f0,f1,f2,f3,f4,f5⟩:=f
 have ne0 : ∀ b o,X.s₀.heap.get? b = some o->b ≠ a:=fun b o e z=>by rw [z,hx] at e; cases e
 have neH : ∀ b u,H b = some u->b ≠ a:=fun b u e z=>by rw [z,f0] at e; cases e
 refine ⟨I.ok,I.os,I.bare,⟨I.base.keep,I.base.slot,fun b o e n he=>?_,I.base.there,fun b xs e=>?_,fun b o u e=>?_,fun b ps e=>?_⟩,I.loc,I.cell,?_,fun x c e=>?_,fun p hp=>?_,fun b u e=>?_,I.len⟩
 ·rw [upd_ne (ne0 b o e)]; exact I.base.free b o e n he
 ·have:=I.base.tups b xs e
  rw [upd_ne (neH _ _ this)]; exact this
 ·have:=I.base.frzs b o u e
  rw [upd_ne (neH _ _ this)]; exact this
 ·obtain ⟨more,q⟩:=I.base.tbls b ps e
  exact ⟨more,by rw [upd_ne (neH _ _ q)]; exact q⟩
 ·rw [upd_ne (Ne.symm f1)]; exact I.free
 ·rw [upd_ne (f4 x c e)]; exact I.freeC x c e
 ·obtain ⟨q1,q2,q3⟩:=I.pin p hp
  exact ⟨q1,by rw [upd_ne (f5 p hp)]; exact q2,q3⟩
 ·by_cases hb : b = a
  ·subst hb
   rw [upd_same] at e
   cases e
   exact new
  ·rw [upd_ne hb] at e
   exact (I.hok b u e).stay (fun c v _ q=>q) (fun c q=>by rw [upd_ne (neH _ _ q)]; exact q) fun c xs q=>by rw [upd_ne (neH _ _ q)]; exact q
end
section
variable {X : Cx}
theorem call_dictD : CallR X (.type "dict") (fun xs H Q=>∃ (a : Addr) (kvs : List (Key × V)),xs = [.ref a]/\H a = some (.dK kvs)/\∀ D,H D = none->Q (.ref D) (upd H D (.dK kvs))):=by
 intro pins s σ H xs us Q I r h
 obtain ⟨a,kvs,rfl,ha,q⟩:=h
 obtain ⟨u,rfl,ru⟩:=vals1 r
 cases ru
 obtain ⟨z,hs,vs,kv,hd⟩:=(show ObjOk X.prog X.w H s.heap a (.dK kvs) from I.hok _ _ ha)
 refine PySem.kt_call_dict hs hd (by rw [<- kv.length]; exact z) fun h' hd' sb=>?_
 have kp : ∀ b o,s.heap.get? b = some o->h'.get? b = some o:=fun b o e=>(sb.2 b (Nat.ne_of_lt (Heap.lt_size e))).trans (Heap.get?_push_of_some _ e)
 have I1 : Inv X pins σ H { s with heap:=h' }:=I.kept (t':=s.toks) kp
 have fa:=I.fpOk (Nat.le_refl _) (I.hok.fresh (Nat.le_refl s.heap.objs.size))
 have xa : X.s₀.heap.get? s.heap.objs.size = none:=Heap.get?_none_of_le I.sz
 have hsm : (s.heap.objs.size == sysModules) = false:=beq_eq_false_iff_ne.mpr (Nat.ne_of_gt I.big)
 have I2:=I1.trackV (o:=.dK kvs) fa xa ⟨z,hsm,vs,kv,hd'⟩
 exact ⟨.ref s.heap.objs.size,_,I2,rfl,q _ fa.1⟩
end
end L2
set_option maxHeartbeats 4000000
namespace L2
open PySem PySem.Spec PyProof.Rows
section
variable {X : Cx}
def Itp (d : Addr) (ob : Obj) (kvs : List (Key × V)) : It:=⟨fun i H=>H d = some (.frz ob (.dK kvs))/\i < kvs.length,fun i H x H'=>∃ p k v,kvs[i]? = some (k,v)/\x = .ref p/\H p = none/\H' = upd H p (.tup [kV k,v]),fun i H=>H d = some (.frz ob (.dK kvs))/\kvs.length <= i⟩
def iItems (tl : TE) : TI:=fun σ H R=>tl σ H fun x H1=>∃ d kvs,x = .ref d/\Rd H1 d (.dK kvs)/\∀ ob H2,H2 d = some (.frz ob (.dK kvs))->(∀ b,b ≠ d->H2 b = H1 b)->R (Itp d ob kvs) H2
end
end L2
set_option maxHeartbeats 4000000
namespace L2
open PySem PySem.Spec PyProof.Rows PySem.W
inductive DD (K : PySem.W.Frag) (H : Hp) : List (Key × V)->List (Str × PyData)->Prop
 | nil : DD K H [] []
 | cons {k : Str} {v : V} {d : PyData} {kvs : List (Key × V)} {ds : List (Str × PyData)} : Den K H v d->d.canLay0 = true->d.depth <= 50->DD K H kvs ds->DD K H ((.inr k,v) :: kvs) ((k,d) :: ds)
def dHits (db : List (Str × PyData)) : List (Str × PyData)->Bool
 | []=>true
 | (k,d) :: r=>match db.lookup k with
  | none=>false
  | some e=>PyData.eqv d e && dHits db r
def dEq (da db : List (Str × PyData)) : Bool:=(da.length == db.length) && dHits db da
section
variable {K : PySem.W.Frag} {H : Hp}
theorem DD.len : ∀ {kvs : List (Key × V)} {ds : List (Str × PyData)},DD K H kvs ds->kvs.length = ds.length
 | _,_,.nil=>rfl
 | _,_,.cons _ _ _ r=>by rw [List.length_cons,List.length_cons,r.len]
theorem DD.none : ∀ {kvs : List (Key × V)} {ds : List (Str × PyData)} {k : Str},DD K H kvs ds->ds.lookup k = none->valV kvs (.inr k) = none
 | _,_,_,.nil,_=>rfl
 | _,_,k,.cons (k:=k') _ _ _ r,h=>by
  rw [List.lookup_cons] at h
  by_cases e : k = k'
  ·subst e
   rw [beq_self_eq_true] at h
   cases h
  ·rw [beq_eq_false_iff_ne.mpr e] at h
   rw [valV_neg (fun z=>e (Sum.inr.inj z).symm)]
   exact r.none h
theorem DD.some : ∀ {kvs : List (Key × V)} {ds : List (Str × PyData)} {k : Str} {d : PyData},DD K H kvs ds->ds.lookup k = some d->∃ v,valV kvs (.inr k) = some v/\Den K H v d/\d.canLay0 = true/\d.depth <= 50
 | _,_,_,_,.nil,h=>by cases h
 | _,_,k,d,.cons (k:=k') (v:=v) (d:=d') a b c r,h=>by
  rw [List.lookup_cons] at h
  by_cases e : k = k'
  ·subst e
   rw [beq_self_eq_true] at h
   cases h
   exact ⟨v,valV_pos rfl,a,b,c⟩
  ·rw [beq_eq_false_iff_ne.mpr e] at h
   rw [valV_neg (fun z=>e (Sum.inr.inj z).symm)]
   exact r.some h
end
section
variable {X : Cx} {pins : List (Addr × Obj)} {σ : St} {H : Hp} {s : Shared}
theorem dd_hits {A : Around} (I : Inv X pins σ H s) (hu : A.units + 50 < cLine) {kb : List (Key × V)} {db : List (Str × PyData)} {vb : List (Key × Value)} (hb : KV kb vb) (ddb : DD X.K H kb db) :
  ∀ {ka : List (Key × V)} {da : List (Str × PyData)} {va : List (Key × Value)},KV ka va->DD X.K H ka da->KeqHits A s vb va (dHits db da):=by
 intro ka da va ha dda
 induction dda generalizing va with
 | nil=>cases ha; exact .nil
 | @cons k v d kvs ds h1 h2 h3 r ih =>
  cases ha with
  | cons h0 r0 =>
   rename_i v' va
   obtain ⟨e1,e2⟩:=h0
   obtain ⟨kk,vv⟩:=v'
   have e1 : (Sum.inr k : Key) = kk:=e1
   subst e1
   have e2 : RelV v vv:=e2
   have hv:=hb.val (.inr k)
   unfold dHits
   cases hl : db.lookup k with
   | none =>
    rw [ddb.none hl] at hv
    cases hy : valueAt vb (.inr k) with
    | none=>exact .miss hy
    | some y=>rw [hy] at hv; exact hv.elim
   | some e =>
    obtain ⟨w',hw,g1,g2,g3⟩:=ddb.some hl
    rw [hw] at hv
    cases hy : valueAt vb (.inr k) with
    | none=>rw [hy] at hv; exact hv.elim
    | some y =>
     rw [hy] at hv
     have hv : RelV w' y:=hv
     obtain ⟨as,ra⟩:=h1.reads I e2
     obtain ⟨bs,rb⟩:=g1.reads I hv
     exact .hit hy (SeqAt.eqAt_reads _ _ _ _ _ _ _ _ ra rb h2 g2 (by have:=Nat.min_le_left d.depth e.depth; omega)) (ih r0)
end
end L2
namespace L2
open PySem PySem.Spec PyProof.Rows PySem.W
section
variable {X : Cx}
def rDE (K : PySem.W.Frag) (f : Bool->Bool) : R2:=fun x y H Q=>∃ a b ka kb da db,x = .ref a/\y = .ref b/\Rd H a (.dK ka)/\Rd H b (.dK kb)/\DD K H ka da/\DD K H kb db/\Q (.bl (f (dEq da db))) H
end
end L2
set_option maxHeartbeats 4000000
namespace L2
open PySem PySem.Spec PyProof.Rows PySem.W
open AutoSeq1 (wpAny_loadPart')
def EqIn (prog : Program) (w : World) (A : Around) (s : Shared) (y x : Value) (b : Bool) : Prop:=∀ (E : Value->Shared->Prop) (Q : Bool->Shared->Prop),Q b s->wpAny (model prog w) A (eqBool y x) Q E s
theorem t2_ne {prog : Program} {w : World} {A : Around} {E : Value->Shared->Prop} {Q : Value->Shared->Prop} {s : Shared} {l b : Addr} {v1 v2 u1 u2 : Value} {e1 e2 : Bool} (hl : s.heap.IsTuple l #[v1,v2]) (hb : s.heap.IsTuple b #[u1,u2]) (hu : A.units < cLine)
  (h1 : EqIn prog w A.in1 s v1 u1 e1) (h2 : EqIn prog w A.in1 s v2 u2 e2) (q : Q (.bool (!(e1 && e2))) s) : wpAny (model prog w) A (compareOp .NotEq (.ref l) (.ref b)) Q E s:=by
 obtain ⟨hp,g,d,tk,os⟩:=s
 obtain ⟨⟨cls,dd,data,sl⟩,ho,hc,n,hd⟩:=id hl
 obtain ⟨⟨cls2,dd2,data2,sl2⟩,ho2,hc2,n2,hd2⟩:=id hb
 simp only at hc hd hc2 hd2
 subst hc hd hc2 hd2
 have f2:=AutoSeq1.sub_tuple_tuple
 refine wpAny_richCompare_same_room (op:=.NotEq) ⟨_,ho,rfl⟩ ⟨_,ho2,rfl⟩ F.slot_tuple_ne (wpAny_call_entry F.slot_tuple_ne ⟨_,ho,rfl⟩ F.entry_tuple_ne ?_ (F.args_tuple_ne_2 _ _)) hu
 have r1 : ∀ {E : Value->Shared->Prop} {Q : Bool->Shared->Prop},Q e1 ⟨hp,g,d,tk,os⟩->wpAny (model prog w) A.in1 (eqBool v1 u1) Q E ⟨hp,g,d,tk,os⟩:=fun q=>h1 _ _ q
 have r2 : ∀ {E : Value->Shared->Prop} {Q : Bool->Shared->Prop},Q e2 ⟨hp,g,d,tk,os⟩->wpAny (model prog w) A.in1 (eqBool v2 u2) Q E ⟨hp,g,d,tk,os⟩:=fun q=>h2 _ _ q
 cases e1 <;> cases e2 <;> wp_walk using wpAny_loadPart' ho,wpAny_loadPart' ho2,r1,r2
 all_goals exact ⟨_,rfl,(fun x=>nomatch x),q⟩
inductive Cmp (K : PySem.W.Frag) (H : Hp) : V->V->Bool->Prop
 | den {v u : V} {da db : PyData} : Den K H v da->Den K H u db->da.canLay0 = true->db.canLay0 = true->min da.depth db.depth <= 50->Cmp K H v u (PyData.eqv da db)
 | dic {a b : Addr} {ka kb : List (Key × V)} {da db : List (Str × PyData)} : a ≠ b->Rd H a (.dK ka)->Rd H b (.dK kb)->DD K H ka da->DD K H kb db->Cmp K H (.ref a) (.ref b) (dEq da db)
section
variable {X : Cx} {pins : List (Addr × Obj)} {σ : St} {H : Hp} {s : Shared}
theorem EqIn.refs {prog : Program} {w : World} {A : Around} {s : Shared} {l b : Addr} {k : Bool} (hne : l ≠ b) (h : ∀ (E : Value->Shared->Prop) (Q : Value->Shared->Prop),Q (.bool k) s->wpAny (model prog w) A (compareOp .Eq (.ref l) (.ref b)) Q E s) : EqIn prog w A s (.ref l) (.ref b) k:=fun E Q hq=>by
 unfold eqBool
 refine wpAny_holding (wpAny_ite_split (fun z=>absurd (by have:=eq_of_beq z; injection this) hne) fun _=>?_)
 exact wpAny_bind (h E _ (wpAny_truthy_bool hq))
theorem Cmp.at' {A : Around} {v u : V} {v' u' : Value} {e : Bool} (I : Inv X pins σ H s) (c : Cmp X.K H v u e) (r1 : RelV v v') (r2 : RelV u u') (hu : A.units + 60 < cLine) : EqIn X.prog X.w A s v' u' e:=by
 cases c with
 | den a b ca cb d =>
  obtain ⟨as,ra⟩:=a.reads I r1
  obtain ⟨bs,rb⟩:=b.reads I r2
  exact fun E Q q=>SeqAt.eqAt_reads _ _ _ _ _ _ _ _ ra rb ca cb (by omega) X.prog X.w E Q q
 | @dic a b ka kb da db ne ha hb dda ddb =>
  obtain rfl : v' = Value.ref a:=r1
  obtain rfl : u' = Value.ref b:=r2
  obtain ⟨za,sa,va,kva,ga⟩:=dk_rd I.hok ha
  obtain ⟨zb,sb,vb,kvb,gb⟩:=dk_rd I.hok hb
  refine EqIn.refs ne fun E Q q=>?_
  refine PySem.W.keq_eq sa sb ga gb (by omega) (r:=dHits db da) (fun _=>dd_hits I (by show A.units + 1 + 50 < cLine; omega) kvb ddb kva dda) ?_
  rw [<- kva.length,<- kvb.length,dda.len,ddb.len]
  exact q
end
section
variable {X : Cx}
def rT2 (K : PySem.W.Frag) (f : Bool->Bool) : R2:=fun x y H Q=>∃ a b v1 v2 u1 u2 e1 e2,x = .ref a/\y = .ref b/\SqT K H a [v1,v2]/\SqT K H b [u1,u2]/\Cmp K H v1 u1 e1/\Cmp K H v2 u2 e2/\Q (.bl (f (e1 && e2))) H
theorem op_neT2 {k : Nat} (hr : Room k X.A) : OpR X (compareOp .NotEq) (rT2 X.K not):=by
 intro pins s σ H x y v u Q I rx ry h
 obtain ⟨a,b,v1,v2,u1,u2,e1,e2,rfl,rfl,ha,hb,c1,c2,q⟩:=h
 obtain rfl : v = Value.ref a:=rx
 obtain rfl : u = Value.ref b:=ry
 obtain ⟨its,rv,p,hz⟩:=I.tuple ha
 obtain ⟨jts,rw',p',hz'⟩:=I.tuple hb
 obtain ⟨w1,w2,rfl,r1,r2⟩:=vals2 rv
 obtain ⟨x1,x2,rfl,t1,t2⟩:=vals2 rw'
 have hu:=hr.units
 exact t2_ne p p' (by omega) (c1.at' I r1 t1 (by show X.A.units + 1 + 60 < cLine; omega)) (c2.at' I r2 t2 (by show X.A.units + 1 + 60 < cLine; omega)) ⟨.bl (!(e1 && e2)),H,I,rfl,q⟩
end
end L2
set_option maxHeartbeats 4000000
namespace L2
open PySem PySem.Spec PyProof.Rows
def Itw (K : PySem.W.Frag) (a : Addr) (xs : List V) : It :=
 ⟨fun i H=>SqL K H a xs/\i < xs.length,fun i H x H'=>H' = H/\xs.reverse[i]? = some x,fun i H=>SqL K H a xs/\xs.length <= i⟩
theorem turn_revL {P : Program} {w : World} {K : PySem.W.Frag} {tg : Expr} (a it : Addr) (xs : List V) : Turn P w K tg (Itw K a xs) [it] it (fun i h=>i <= xs.length/\h.IsRevIter it a ((xs.length : Int) - 1 - (i : Int))) where
 mem:=by simp
 obj:=fun i h st b hb=>by
  have e : b = it:=by simpa using hb
  subst e
  obtain ⟨_,o,e,c,d⟩:=st
  exact ⟨o,e,fun v z=>by rw [d] at z; cases z⟩
 keep:=fun i h h' st k=>⟨st.1,st.2.at fun o e=>k it (by simp) o e⟩
 item:=by
  intro X hP hw hK hc i pins s σ H E I hf st hg
  subst hP hw hK
  obtain ⟨hq,hx⟩:=hg
  obtain ⟨its,rv,p,hz⟩:=I.list hq
  have hl:=rv.length
  have hj : xs[xs.length - 1 - i]? = some (xs[xs.length - 1 - i]'(by omega)):=List.getElem?_eq_getElem (by omega)
  obtain ⟨u,hu,ru⟩:=rv.get hj
  obtain ⟨f0,f1,f2,f3,f4,f5⟩:=hf it (by simp)
  have e1 : (xs.length : Int) - 1 - (i : Int) = ((xs.length - 1 - i : Nat) : Int):=by omega
  have st2:=st.2
  rw [e1] at st2
  refine wpAny_pyNext_rev_item st2 p.isList (x:=u) (by simpa using hu) fun h' st' sb=>?_
  have I1 : Inv X pins σ H { s with heap:=h' }:=I.turned (t':=s.toks) (fun b o hb e=>(sb.2 b hb).trans e) f0 f1 f3 f4 f5
  have e2 : ((xs.length - 1 - i : Nat) : Int) - 1 = (xs.length : Int) - 1 - ((i + 1 : Nat) : Int):=by omega
  rw [e2] at st'
  obtain ⟨o,e,c,d⟩:=id st'
  refine ⟨u,rfl,go_of (s:={ s with heap:=h' }) e c d (by decide) ⟨xs[xs.length - 1 - i]'(by omega),H,I1,ru,⟨rfl,?_⟩,⟨hx,st'⟩,fun b hb=>(hf b hb).1⟩⟩
  rw [List.getElem?_reverse hx]
  exact hj
 done:=by
  intro X hP hw hK hc i pins s σ H E I hf st hg
  subst hP hw hK
  obtain ⟨hq,hx⟩:=hg
  obtain ⟨f0,f1,f2,f3,f4,f5⟩:=hf it (by simp)
  have hi:=st.1
  have e1 : (xs.length : Int) - 1 - (i : Int) = -1:=by omega
  have st2:=st.2
  rw [e1] at st2
  exact wpAny_pyNext_rev_end (I.ok.hd hc) st2 fun h' eb=>⟨rfl,I.turned (t':=s.toks) (fun b o hb e=>eb b o hb e) f0 f1 f3 f4 f5⟩
 self:=fun _ _ _ _ _ st h=>wpAny_pyIter_revIter st.2 h
def iRevL (K : PySem.W.Frag) (ta : TA) : TI:=fun σ H R=>ta σ H fun vs H1=>∃ a xs,vs = [.ref a]/\SqL K H1 a xs/\R (Itw K a xs) H1
section
variable {X : Cx}
theorem pi_revL {tg : Expr} {p pos : Pos} {a : Expr} {ta : TA} (hg : Gl X "reversed") (hm : X.mg "reversed" = none) (hbt : bootBuiltins "reversed" = some (.type "reversed")) (ha : PA X [a] ta) (hs : starEach [a] X.env = [(false,eval a X.env)]:=by rfl) :
  PI X tg (.Call (.Name "reversed" p) [a] [] pos) (iRevL X.K ta):=by
 intro pins s σ H R I h
 refine Call_ (ld_blt I hg hm hbt (PyProof.Rows.callWith_type1 (thn (ha pos pins s σ H _ I h) fun us s1 ⟨vs,H1,I1,r1,q1⟩=>?_) hs rfl))
 obtain ⟨a,xs,rfl,hq,q⟩:=q1
 obtain ⟨u,rfl,ru⟩:=vals1 r1
 cases ru
 obtain ⟨its,rv,pl,hz⟩:=I1.list hq
 have hl:=rv.length
 refine call_reversed_list pl.isList ?_
 have e : ((its.toArray.size : Nat) : Int) - 1 = (xs.length : Int) - 1 - ((0 : Nat) : Int):=by rw [List.size_toArray,<- hl]; omega
 rw [e]
 have it : (s1.heap.push (revObj a ((xs.length : Int) - 1 - ((0 : Nat) : Int)))).IsRevIter s1.heap.objs.size a ((xs.length : Int) - 1 - ((0 : Nat) : Int)):=⟨_,Heap.get?_push_size _ rfl,rfl,rfl⟩
 refine wpAny_pyIter_revIter it ?_
 refine ⟨s1.heap.objs.size,[s1.heap.objs.size],_,_,H1,rfl,I1.kept (t':=s1.toks) fun b o e=>Heap.get?_push_of_some _ e,turn_revL a _ xs,⟨Nat.zero_le _,it⟩,fun b hb=>?_,q⟩
 have e : b = s1.heap.objs.size:=by simpa using hb
 subst e
 exact I1.fpOk (Nat.le_refl _) (I1.hok.fresh (Nat.le_refl _))
theorem i_revL {tg a : Expr} {t : TE} {p pos : Pos} (hm : X.mg "reversed" = none) (ha : QE X a t) (hg : X.env.kindOf "reversed" = some .globalImplicit:=by kernel_rfl) (hs : nostar a = true:=by rfl) : QI X tg (.Call (.Name "reversed" p) [a] [] pos) (iRevL X.K (tCons t tNil)) :=
 ⟨pi_revL hg hm (by decide +kernel) (pa' ha.h pa_nil hs) ((star_plain hs).trans rfl)⟩
theorem for_revL {K : PySem.W.Frag} {a : Addr} {xs : List V} {g : TG} {tb : TS} {D : Ends} {σ : St} {H : Hp} (Pv : Nat->St->Hp->Prop) (h0 : Pv 0 σ H) (hl : ∀ i σ H,i <= xs.length->Pv i σ H->SqL K H a xs)
  (hs : ∀ i x σ H,xs.reverse[i]? = some x->Pv i σ H->g x σ H fun σ2 H2=>tb { D with nx:=Pv (i + 1),ct:=Pv (i + 1),bk:=D.nx } σ2 H2) (hd : ∀ σ H,Pv xs.length σ H->D.nx σ H) :
  ∃ W : Nat->Nat->St->Hp->Prop,(∃ m,W 0 m σ H)/\∀ i m σ H,W i m σ H ->
   ((Itw K a xs).stop i H/\D.nx σ H) \/ ((Itw K a xs).go i H/\∃ N : St->Hp->Prop,(∀ σ' H',N σ' H'->∃ m',m' < m/\W (i + 1) m' σ' H')/\∀ x H',(Itw K a xs).yld i H x H'->g x σ H' fun σ2 H2=>tb { D with nx:=N,ct:=N,bk:=D.nx } σ2 H2):=by
 refine ⟨fun i m σ H=>m = xs.length - i/\i <= xs.length/\Pv i σ H,⟨xs.length,by simp,Nat.zero_le _,h0⟩,?_⟩
 rintro i m σ H ⟨rfl,hi,p⟩
 have q:=hl i σ H hi p
 by_cases hlt : i < xs.length
 ·refine .inr ⟨⟨q,hlt⟩,Pv (i + 1),fun σ' H' p'=>⟨xs.length - (i + 1),by omega,rfl,hlt,p'⟩,fun x H' y=>?_⟩
  obtain ⟨rfl,y⟩:=y
  exact hs i x σ _ y p
 ·have e : i = xs.length:=by omega
  subst e
  exact .inl ⟨⟨q,Nat.le_refl _⟩,hd σ H p⟩
end
end L2
set_option maxHeartbeats 4000000
namespace L2
open PySem PySem.Spec PyProof.Rows
section
variable {X : Cx}
theorem call_sum : CallR X (.builtin "sum") (fun xs H Q=>∃ (a : Addr) (ns : List Int),xs = [.ref a]/\SqL X.K H a (ns.map V.int)/\X.calm = true/\Q (.int ns.sum) H):=by
 intro pins s σ H xs us Q I r h
 obtain ⟨a,ns,rfl,hS,hc,q⟩:=h
 obtain ⟨u,rfl,ru⟩:=vals1 r
 cases ru
 obtain ⟨its,rv,pl,hz⟩:=I.list hS
 have hlen : its.length = ns.length:=by rw [<- rv.length,List.length_map]
 refine PySem.call_sum_walkAnyS (wpAny_pyIter_list pl.isList ?_)
 have ne : a ≠ s.heap.objs.size:=by
  obtain ⟨o,e,_⟩:=pl.isList
  exact Nat.ne_of_lt (Heap.lt_size e)
 have hh : X.A.in1.handled = none:=I.ok.hd hc
 refine ⟨s.heap.objs.size,_,_,_,_,_,_,fun i=>ns.getD i 0,rfl,(Walks.list hh s.heap.objs.size a ne its.toArray).toS,⟨⟨_,Heap.get?_push_size _ rfl,rfl,rfl⟩,?_⟩,?_,?_,?_⟩
 ·obtain ⟨o,e,r⟩:=pl.isList
  exact ⟨o,Heap.get?_push_of_some _ e,r⟩
 ·intro b hb
  have hb : b = s.heap.objs.size \/ b = a:=by simpa using hb
  show b < (s.heap.push _).objs.size
  rw [Heap.size_push]
  obtain ⟨o,e,r⟩:=pl.isList
  have:=Heap.lt_size e
  rcases hb with rfl | rfl
  ·exact Nat.lt_succ_self _
  ·exact Nat.lt_succ_of_lt this
 ·intro i v hv
  have hv' : its[i]? = some v:=by simpa using hv
  have hi : i < its.length:=(List.getElem?_eq_some_iff.mp hv').1
  have hb : ns[i]? = some ns[i]:=List.getElem?_eq_getElem (by omega)
  obtain ⟨u,hu,ru⟩:=rv.get (i:=i) (x:=V.int ns[i]) (by rw [List.getElem?_map,hb]; rfl)
  rw [hv'] at hu
  cases hu
  obtain ⟨t,rfl⟩:=ru
  exact ⟨t,by show Value.int ns[i] t = Value.int (ns.getD i 0) t; rw [List.getD_eq_getElem?_getD,hb]; rfl⟩
 ·intro s' t' hm
  rw [preSum_getD,List.size_toArray,hlen,List.take_length]
  have kp : ∀ b o,s.heap.get? b = some o->s'.heap.get? b = some o:=fun b o e=>hm.heap b o (by
   rw [List.mem_singleton]
   exact Nat.ne_of_lt (Heap.lt_size e)) (Heap.get?_push_of_some _ e)
  rw [hm.eq_with]
  exact ⟨.int ns.sum,H,I.kept kp,⟨t',rfl⟩,q⟩
end
end L2
namespace Hd
open PySem PySem.W PyProof.Rows
def run (tb : String->Option Builtin) (p : Program) (w : World) (m : Nat) (ann : Option Value) : Nat->SharedT->Thread->Option SharedT
 | 0,_,_=>none
 | n + 1,s,t=>match through t with
  | true=>some s
  | false=>match stepOk m ann t with
   | false=>none
   | true=>match stepT (denote tb) p w s t with
    | none=>none
    | some x=>run tb p w m ann n x.1 x.2
theorem run_of {tb : String->Option Builtin} {p : Program} {w : World} {m : Nat} {ann : Option Value} {r : SharedT} :
  ∀ (n : Nat) (s : SharedT) (t : Thread),run tb p w m ann n s t = some r->topRun tb p w m ann n s.abs t = some r.abs:=by
 intro n
 induction n with
 | zero=>intro s t h; cases h
 | succ n ih =>
  intro s t h
  simp only [run] at h
  simp only [topRun]
  cases a : through t
  ·simp only [a] at h ⊢
   cases b : stepOk m ann t
   ·simp only [b] at h; cases h
   ·simp only [b] at h ⊢
    cases c : stepT (denote tb) p w s t with
    | none=>simp only [c] at h; cases h
    | some x =>
     simp only [c] at h
     rw [stepT_spec (s':=x.1) (t':=x.2) c]
     exact ih _ _ h
  ·simp only [a] at h ⊢
   cases h; rfl
noncomputable def bt (P : Params) : BT :=
 .node (boot_o_0 P)
  (.node (boot_o_1 P) (.node (boot_o_3 P) (.node (boot_o_7 P) .nil .nil) .nil) (.node (boot_o_5 P) (.node (boot_o_9 P) .nil .nil) .nil))
  (.node (boot_o_2 P) (.node (boot_o_4 P) (.node (boot_o_8 P) .nil .nil) .nil) (.node (boot_o_6 P) (.node (boot_o_10 P) .nil .nil) .nil))
theorem boot_size (w : World) : ((boot_heap w.params).isNs mainGlobals && (#[] : Array GenState).size == 0,(boot_heap w.params).objs.size,(boot_heap w.params).nsMap mainGlobals "__annotations__") = (true,11,some (.ref 6)):=by kernel_rfl
noncomputable def tests (p : Program) (w : World) (s : Shared) : Bool :=
 staticsOk (importedModules p.main.body) (boot_heap w.params) s.heap && namesBound p s.heap && gensDone s && laidKept (boot_heap w.params) s.heap
noncomputable def look (p q : Program) (loose : List Str) (Xt : Shared->Bool) (N : Nat) (w : World) (os : OsState) :=
 (run treeTable p w 11 (some (.ref 6)) N ⟨bt w.params,11,(boot_heap w.params).life,#[],boot_drawn,boot_toks,os⟩ (topStub p)).map fun s =>
  (tests p w s.abs,openSeen q loose (importedModules p.main.body) Xt true s.abs,s.abs)
theorem left_of {p q : Program} {loose : List Str} {Xt : Shared->Bool} {α : Type} {Yf : Shared->α} {Ya : World->α} {N : Nat}
  (e : opening p = plainProg p.main.scope.names) (hN : Nat.ble 600 N = true) (f : ∀ s,fenceModules? p s = some s)
  (h : ∀ w,(fun os=>(look p q loose Xt N w os).map fun x=>(x.1,x.2.1,Yf x.2.2)) = fun _=>some (true,openGood q loose,Ya w)) : LeftO p q loose Xt Yf Ya N true:=by
 intro w
 have o:=boot_open e hN f w
 obtain ⟨⟨hp,gs,d,k,os⟩,e1,e2⟩:=Option.map_eq_some_iff.mp o
 simp only [Prod.mk.injEq] at e2
 obtain ⟨rfl,rfl,rfl,rfl⟩:=e2
 have z:=boot_size w
 simp only [Prod.mk.injEq] at z
 obtain ⟨z1,z2,z3⟩:=z
 obtain ⟨x,l1,l2⟩:=Option.map_eq_some_iff.mp (congrFun (h w) os)
 unfold look at l1
 obtain ⟨s,r,rfl⟩:=Option.map_eq_some_iff.mp l1
 simp only [Prod.mk.injEq] at l2
 obtain ⟨t1,t2,t3⟩:=l2
 have R:=run_of _ _ _ r
 have E : SharedT.abs ⟨bt w.params,11,(boot_heap w.params).life,#[],boot_drawn,boot_toks,os⟩ = ⟨boot_heap w.params,#[],boot_drawn,boot_toks,os⟩:=rfl
 rw [E] at R
 have T : topFrom treeTable p w N ⟨boot_heap w.params,#[],boot_drawn,boot_toks,os⟩ = some s.abs:=by
  unfold topFrom
  simp only [z1,z2,z3,R,Option.bind_some]
  unfold tests at t1
  simp only [t1]
 show (openEnds treeTable p w N).map _ = _
 unfold openEnds
 rw [e1]
 simp only [Option.bind_some,T,Option.map_some,t2,t3]
def yes {α β : Type} (_ : α) (_ : β) : Bool:=true
theorem left_tw {p q : Program} {loose : List Str} {Xt : Shared->Bool} {α : Type} {Yf : Shared->α} {Ya : World->α} {N : Nat} {L : World->OsState->Option _} {g : _}
  (hl : look p q loose Xt N = L) (hg : openGood q loose = g) (e : opening p = plainProg p.main.scope.names) (hN : Nat.ble 600 N = true) (f : ∀ s,fenceModules? p s = some s)
  (h : ∀ w,(fun os=>(L w os).map fun x=>(x.1,x.2.1,Yf x.2.2)) = fun _=>some (true,g,Ya w)) : LeftO p q loose Xt Yf Ya N true:=by
 subst hl hg
 exact left_of e hN f h
end Hd
namespace L2
open PySem PySem.Spec PyProof.Rows
theorem mulT_noFill : fillsNumberSlot (.type "tuple") "mul" = pure false:=PySem.fillsNumberSlot_seq (id:="tuple.__mul__") (r:=some (.builtin "tuple.__rmul__")) PySem.F.slot_tuple_mul.lookup (by decide +kernel) PySem.F.slot_tuple_rmul.lookup (by decide +kernel)
theorem mulT_repeat : seqRepeat? (.type "tuple") = pure (some (.builtin "tuple.__mul__")):=by
 unfold seqRepeat?
 rw [PySem.seqSlot_of (T:="tuple") (name:="__mul__") (id:="tuple.__mul__") PySem.F.slot_tuple_mul.lookup (by decide +kernel)]
 rw [PySem.seqSlot_of (T:="tuple") (name:="__rmul__") (id:="tuple.__rmul__") PySem.F.slot_tuple_rmul.lookup (by decide +kernel)]
 rfl
theorem mulT_int (a : Int) (t : Tok) (l : Addr) (its : Array Value) (n : Nat) (dd : Option Addr) (sl : Array (Option Value)) :
  Meets (Builtin.«int.__rmul__» ⟨[.int a t,.ref l],[]⟩) (fun _ R s=>s.heap.get? l = some { cls:=.type "tuple",dict:=dd,data:=.seq its n,slots:=sl }/\R (.ok (.ret Value.notImplemented)) s) :=
 .of_wp fun prog w A R s h=>by
  obtain ⟨hp,g,d,tk,os⟩:=s
  obtain ⟨hl,h⟩:=h
  wp_walk
  exact ⟨_,rfl,h⟩
theorem mulT_one (l : Addr) (its : Array Value) (n : Nat) (dd : Option Addr) (sl : Array (Option Value)) (t : Tok) :
  Meets (Builtin.«tuple.__mul__» ⟨[.ref l,.int 1 t],[]⟩) (fun _ R s=>s.heap.get? l = some { cls:=.type "tuple",dict:=dd,data:=.seq its n,slots:=sl }/\R (.ok (.ret (.ref l))) s) :=
 .of_wp fun prog w A R s h=>by
  obtain ⟨hp,g,d,tk,os⟩:=s
  obtain ⟨hl,h⟩:=h
  wp_walk
  exact ⟨_,rfl,h⟩
theorem mulT_none (l : Addr) (its : Array Value) (n : Nat) (dd : Option Addr) (sl : Array (Option Value)) (x : Int) (t : Tok) (h0 : ¬ (decide (x < -2 ^ 63) || decide (x ≥ 2 ^ 63)) = true) (h1 : ¬ (its.isEmpty || x == 1) = true) (h2 : (decide (x <= 0) || its.isEmpty) = true) :
  Meets (Builtin.«tuple.__mul__» ⟨[.ref l,.int x t],[]⟩) (fun _ R s=>s.heap.get? l = some { cls:=.type "tuple",dict:=dd,data:=.seq its n,slots:=sl }/\R (.ok (.ret (.ref s.heap.objs.size))) { s with heap:=s.heap.push { cls:=.type "tuple",data:=.seq #[] } }) :=
 .of_wp fun prog w A R s h=>by
  obtain ⟨hp,g,d,tk,os⟩:=s
  obtain ⟨hl,h⟩:=h
  wp_walk
  refine wpAny_ite_false (decide_eq_false h0) ?_
  wp_walk
  exact ⟨_,rfl,h⟩
theorem mulT_many (l : Addr) (its : Array Value) (n : Nat) (dd : Option Addr) (sl : Array (Option Value)) (x : Int) (t : Tok) (h0 : ¬ (decide (x < -2 ^ 63) || decide (x ≥ 2 ^ 63)) = true) (h1 : ¬ (its.isEmpty || x == 1) = true) (h2 : ¬ (decide (x <= 0) || its.isEmpty) = true) (h3 : ¬ (its.size : Int) * x > (2 ^ 63 - 1) / 8) (h4 : ¬ Builtin.Tuple.tupleTooMany ((its.size : Int) * x) = true) (h5 : ¬ (List.foldl (fun x1 x2=>x1 ++ x2) #[] (List.replicate x.toNat its)).size > sizeLine) :
  Meets (Builtin.«tuple.__mul__» ⟨[.ref l,.int x t],[]⟩) (fun _ R s=>s.heap.get? l = some { cls:=.type "tuple",dict:=dd,data:=.seq its n,slots:=sl }/\R (.ok (.ret (.ref s.heap.objs.size))) { s with heap:=s.heap.push { cls:=.type "tuple",data:=.seq (List.foldl (fun x1 x2=>x1 ++ x2) #[] (List.replicate x.toNat its)) } }) :=
 .of_wp fun prog w A R s h=>by
  obtain ⟨hp,g,d,tk,os⟩:=s
  obtain ⟨hl,h⟩:=h
  wp_walk
  refine wpAny_ite_false (decide_eq_false h0) ?_
  wp_walk
  refine wpAny_ite_false (decide_eq_false h3) ?_
  wp_walk
  exact ⟨_,rfl,h⟩
def rRepT : R2:=fun x y H Q=>∃ l k v,x = .ref l/\y = .int k/\H l = some (.tup [v])/\-(2 ^ 63) <= k/\k <= 1000000/\∀ p H',Same H H'->H' p = some (.tup (List.replicate k.toNat v))->Q (.ref p) H'
section
variable {X : Cx}
theorem fold_one (u : Value) : ∀ (m : Nat) (a : Array Value),List.foldl (fun x1 x2=>x1 ++ x2) a (List.replicate m #[u]) = a ++ (List.replicate m u).toArray
 | 0,a=>by simp
 | m + 1,a=>by
  rw [List.replicate_succ,List.foldl_cons,fold_one u m,List.replicate_succ]
  apply Array.toList_inj.mp
  simp
theorem op_repT : OpR X (binaryOp .Mult) rRepT:=by
 intro pins s σ H x y v u Q I rx ry h
 obtain ⟨l,k,z,rfl,rfl,hH,h1,h2,q⟩:=h
 cases rx
 obtain ⟨t,rfl⟩:=ry
 obtain ⟨its,r1,p1,_⟩:=I.tuple (SqT.of (K:=X.K) hH)
 obtain ⟨u,rfl,ru⟩:=vals1 r1
 obtain ⟨⟨cls,dd,data,sl⟩,ho,hc,n,hd⟩:=id p1
 simp only at hc hd
 subst hc hd
 have fr : H s.heap.objs.size = none:=I.hok.fresh (Nat.le_refl _)
 have zl : sizeLine = 16777216:=sizeLine_eq
 have b0 : ¬ (decide (k < -2 ^ 63) || decide (k ≥ 2 ^ 63)) = true:=by simp; omega
 refine wpAny_binaryOp_repeat_ref (T:="tuple") (U:="int") (by decide) ⟨_,ho,rfl⟩ (fun s'=>typeIs_int s' k t) mulT_noFill F.fills_int_mul F.slot_int_rmul mulT_repeat F.slot_int_index.lookup (call_meets F.slot_int_rmul (typeIs_int s k t) F.entry_int_rmul (F.args_int_rmul_2 _ _) (mulT_int k t l [u].toArray n dd sl) ⟨ho,rfl,⟨_,ho,rfl⟩,?_⟩)
 by_cases k1 : k = 1
 ·subst k1
  refine call_meets F.slot_tuple_mul ⟨_,ho,rfl⟩ F.entry_tuple_mul (F.args_tuple_mul_2 _ _) (mulT_one l [u].toArray n dd sl t) ⟨ho,?_⟩
  exact ⟨.ref l,H,I,rfl,q l H (Same.refl _) hH⟩
 have b1 : ¬ ([u].toArray.isEmpty || k == 1) = true:=by simp [k1]
 by_cases k0 : k <= 0
 ·refine call_meets F.slot_tuple_mul ⟨_,ho,rfl⟩ F.entry_tuple_mul (F.args_tuple_mul_2 _ _) (mulT_none l [u].toArray n dd sl k t b0 b1 (by simp [k0])) ⟨ho,?_⟩
  refine ⟨.ref s.heap.objs.size,_,I.laid (t':=s.toks) (o:=.tup []) (fun b ob q=>Heap.get?_push_of_some _ q) (Nat.le_refl _) ⟨by decide,_,.nil,IsTup.new _ _⟩,rfl,q _ _ (Same.new fr _) ?_⟩
  rw [upd_same,show k.toNat = 0 by omega]
  rfl
 ·have ef:=fold_one u k.toNat #[]
  rw [show #[] ++ (List.replicate k.toNat u).toArray = (List.replicate k.toNat u).toArray by simp] at ef
  have hs : (List.foldl (fun x1 x2=>x1 ++ x2) #[] (List.replicate k.toNat [u].toArray)).size = k.toNat:=by
   rw [show [u].toArray = #[u] from rfl,ef]
   simp
  refine call_meets F.slot_tuple_mul ⟨_,ho,rfl⟩ F.entry_tuple_mul (F.args_tuple_mul_2 _ _) (mulT_many l [u].toArray n dd sl k t b0 b1 (by simp; omega) (by simp; omega) (by simp [Builtin.Tuple.tupleTooMany]; omega) (by rw [hs]; omega)) ⟨ho,?_⟩
  refine ⟨.ref s.heap.objs.size,_,I.laid (t':=s.toks) (o:=.tup (List.replicate k.toNat z)) (fun b ob q=>Heap.get?_push_of_some _ q) (Nat.le_refl _) ⟨by rw [List.length_replicate]; omega,List.replicate k.toNat u,?_,?_⟩,rfl,q _ _ (Same.new fr _) upd_same⟩
  ·have:=r1.rep k.toNat
   rwa [List.flatten_replicate_singleton,List.flatten_replicate_singleton] at this
  ·rw [show [u].toArray = #[u] from rfl,ef]
   exact IsTup.new _ _
end
end L2
set_option maxHeartbeats 1000000
namespace K12
open PySem L2 G
def smallS : Str:="abcdefghijklmnopqrstuvwxyz"
theorem smallL : smallS.cps.toList = [97,98,99,100,101,102,103,104,105,106,107,108,109,110,111,112,113,114,115,116,117,118,119,120,121,122]:=by decide
theorem smallLen : smallS.length <= sizeLine:=small (by show smallS.cps.toList.length <= 1000; rw [smallL]; decide)
def lc (x : Int) : Nat:=97 + (x % 26).toNat
theorem small_get : ∀ k : Nat,k < 26->smallS.cps.toList[k]? = some (97 + k):=by
 rw [smallL]
 decide
theorem lc_at (x : Int) : atI smallS.cps.toList (x % 26) = some (lc x)/\lc x < 0x110000:=by
 have h0 : 0 <= x % 26:=by omega
 have h1 : x % 26 < 26:=by omega
 have e : x % 26 = (((x % 26).toNat : Nat) : Int):=by omega
 have q:=atI_nat (small_get (x % 26).toNat (by omega))
 rw [<- e] at q
 exact ⟨q,by unfold lc; omega⟩
theorem app_list (a b : Str) : (a ++ b).cps.toList = a.cps.toList ++ b.cps.toList:=by
 show (a.cps ++ b.cps).toList = _
 simp
theorem sl_to {x : Str} {j : Int} (h0 : 0 <= j) (h : j <= x.length) : (Txt.slice x none (some j)).cps.toList = x.cps.toList.take j.toNat:=by
 have e:=eq_of_beq (PyProof.Rows.slice_closes_toL h0 h)
 rw [e]
 simp
theorem sl_from {x : Str} {i : Int} (h0 : 0 <= i) (h : i <= x.length) : (Txt.slice x (some i) none).cps.toList = x.cps.toList.drop i.toNat:=by
 have e:=PyProof.Rows.slice_from_eq h0 h rfl
 rw [e]
 have l : x.cps.toList.length = x.length:=rfl
 simp only
 rw [List.take_of_length_le]
 rw [List.length_drop,l]
 omega
theorem len_cps (x : Str) : x.cps.toList.length = x.length:=rfl
def nmAt (stem : Str) (at' size : Int) (c : Nat) : Str:=Txt.slice (Txt.slice stem none (some at') ++ ⟨#[c]⟩ ++ Txt.slice stem (some (at' + 1)) none) none (some size)
theorem nmAt_get {stem : Str} {at' size : Int} {c : Nat} (hl : stem.length = 8) (h0 : 0 <= at') (h1 : at' < size) (h2 : size <= 8) : (nmAt stem at' size c).cps.toList[at'.toNat]? = some c:=by
 have l1 : (Txt.slice stem none (some at')).cps.toList = stem.cps.toList.take at'.toNat:=sl_to h0 (by omega)
 have l2 : (Txt.slice stem (some (at' + 1)) none).cps.toList = stem.cps.toList.drop (at' + 1).toNat:=sl_from (by omega) (by omega)
 have L : (Txt.slice stem none (some at') ++ (⟨#[c]⟩ : Str) ++ Txt.slice stem (some (at' + 1)) none).cps.toList = stem.cps.toList.take at'.toNat ++ [c] ++ stem.cps.toList.drop (at' + 1).toNat:=by
  rw [app_list,app_list,l1,l2]
 have n8 : stem.cps.toList.length = 8:=hl
 have len : (Txt.slice stem none (some at') ++ (⟨#[c]⟩ : Str) ++ Txt.slice stem (some (at' + 1)) none).length = 8:=by
  rw [<- len_cps,L,List.length_append,List.length_append,List.length_take,List.length_drop,n8]
  simp only [List.length_cons,List.length_nil]
  omega
 unfold nmAt
 rw [sl_to (by omega) (by omega),L,List.getElem?_take,if_pos (by omega),List.append_assoc,List.getElem?_append_right (by rw [List.length_take,n8]; omega),List.length_take,n8]
 rw [show at'.toNat - min at'.toNat 8 = 0 by omega]
 rfl
theorem nodup_map {α β : Type} (f : α->β) : ∀ l : List α,l.Nodup->(∀ x ∈ l,∀ y ∈ l,f x = f y->x = y)->(l.map f).Nodup
 | [],_,_=>List.nodup_nil
 | a :: r,h,inj=>by
  rw [List.map_cons,List.nodup_cons]
  obtain ⟨h1,h2⟩:=List.nodup_cons.mp h
  refine ⟨fun hm=>?_,nodup_map f r h2 fun x hx y hy e=>inj x (List.mem_cons_of_mem _ hx) y (List.mem_cons_of_mem _ hy) e⟩
  obtain ⟨b,hb,e⟩:=List.mem_map.mp hm
  exact h1 (inj b (List.mem_cons_of_mem _ hb) a (List.mem_cons_self ..) e ▸ hb)
theorem inj_nodup {α β : Type} (f : α->β) : ∀ l : List α,(l.map f).Nodup->∀ x ∈ l,∀ y ∈ l,f x = f y->x = y
 | [],_=>fun x hx=>nomatch hx
 | a :: r,h=>by
  rw [List.map_cons,List.nodup_cons] at h
  intro x hx y hy e
  rcases List.mem_cons.mp hx with rfl | ux <;> rcases List.mem_cons.mp hy with rfl | uy
  ·rfl
  ·exact absurd (e ▸ List.mem_map.mpr ⟨y,uy,rfl⟩) h.1
  ·exact absurd (e ▸ List.mem_map.mpr ⟨x,ux,rfl⟩) h.1
  ·exact inj_nodup f r h.2 x ux y uy e
theorem nodup_one {stem : Str} {at' size x : Int} {m : Nat} (hl : stem.length = 8) (h0 : 0 <= at') (h1 : at' < size) (h2 : size <= 8) (hm : m <= 13) : ((List.range m).map fun (i : Nat)=>nmAt stem at' size (lc (x + 5 * (0 + (i : Int))))).Nodup:=by
 refine nodup_map _ _ List.nodup_range fun a ha b hb e=>?_
 have z:=nmAt_get (c:=lc (x + 5 * (0 + (a : Int)))) hl h0 h1 h2
 rw [e,nmAt_get hl h0 h1 h2] at z
 have z:=Option.some.inj z
 have ha:=List.mem_range.mp ha
 have hb:=List.mem_range.mp hb
 unfold lc at z
 omega
theorem nodup_pre {stem : Str} {m : Nat} (hl : stem.length = 8) (hm : m < 9) : ((List.range m).map fun (i : Nat)=>Txt.slice stem none (some (0 + (i : Int) + 1))).Nodup:=by
 have n8 : stem.cps.toList.length = 8:=hl
 refine nodup_map _ _ List.nodup_range fun a ha b hb e=>?_
 have ha:=List.mem_range.mp ha
 have hb:=List.mem_range.mp hb
 have z:=congrArg (fun s : Str=>s.cps.toList.length) e
 rw [sl_to (by omega) (by omega),sl_to (by omega) (by omega),List.length_take,List.length_take,n8] at z
 omega
end K12
set_option maxHeartbeats 1000000
namespace K12
open PySem L2 G
def top (i : Nat) : Stmt:=PySem.Challenge.pw_leadersplice_k12_played.main.body.getD i (.Pass ⟨0,0,0,0⟩)
abbrev s_NoReel_init : Stmt:=inClass (top 3) 0
abbrev s_NoFrame_init : Stmt:=inClass (top 4) 0
abbrev s_NoName_init : Stmt:=inClass (top 5) 0
abbrev s_NoList_init : Stmt:=inClass (top 6) 0
abbrev s_TooShort_init : Stmt:=inClass (top 9) 0
abbrev s_is_whole : Stmt:=top 13
abbrev s_reel_named : Stmt:=top 17
abbrev s_has_frame : Stmt:=top 18
abbrev s_sound : Stmt:=top 20
abbrev s_look_through : Stmt:=top 21
abbrev s_look_at_clip : Stmt:=top 22
abbrev s_look_at_fade : Stmt:=top 23
abbrev s_is_fade : Stmt:=top 24
abbrev s_look_at_part : Stmt:=top 25
abbrev s_played : Stmt:=top 29
abbrev s_clips_of : Stmt:=top 30
abbrev s_clips_of_item : Stmt:=top 31
abbrev s_faded_in : Stmt:=top 32
abbrev s_backwards : Stmt:=top 33
abbrev s_frames_in : Stmt:=top 34
abbrev s_refuse_film : Stmt:=top 35
abbrev s_refuse_many : Stmt:=top 36
abbrev s_refuse_short : Stmt:=top 37
abbrev s__law_cell : Stmt:=top 39
abbrev s__law_numbers : Stmt:=top 40
abbrev s__law_whole : Stmt:=top 41
abbrev s__law_only : Stmt:=top 42
abbrev s__law_names : Stmt:=top 43
abbrev s__law_reels : Stmt:=top 44
abbrev s__law_items : Stmt:=top 45
abbrev s__law_count : Stmt:=top 46
abbrev s__law_flat : Stmt:=top 47
abbrev s__law_due : Stmt:=top 48
abbrev s__law_told : Stmt:=top 49
abbrev s__law_right : Stmt:=top 50
abbrev s__law_sized : Stmt:=top 51
abbrev s__law_chain : Stmt:=top 52
abbrev s_law : Stmt:=top 53
section
variable {P : Program} {w : World} {K : PySem.W.Frag} {mg : Str->Option Value} {base : Heap}
def cellOf (ns : List Int) (k : Nat) : Int:=ns.getD k 0
def spCell (K : PySem.W.Frag) : Sp:=fun vs H Q _=>∃ (a : Addr) (ns : List Int) (k : Nat),vs = [.ref a,.int (k : Int)]/\SqL K H a (ns.map V.int)/\∀ H',Same H H'->Q (.int (cellOf ns k)) H'
theorem cut_one (ns : List Int) (k : Nat) : cutV (ns.map V.int) (some (k : Int)) (some ((k : Int) + 1)) = ((ns.drop k).take 1).map V.int:=by
 unfold cutV
 have e : ((k : Int) + 1) = ((k + 1 : Nat) : Int):=by omega
 rw [e,HT.sIx_nat,HT.sIx_nat,List.length_map]
 by_cases h : k < ns.length
 ·rw [Nat.min_eq_left (by omega),Nat.min_eq_left (by omega),show k + 1 - k = 1 by omega,<- List.map_drop,<- List.map_take]
 ·rw [Nat.min_eq_right (by omega),Nat.min_eq_right (by omega),Nat.sub_self,List.take_zero,List.drop_eq_nil_of_le (by omega)]
  rfl
theorem head_cell (ns : List Int) (k : Nat) : ((((ns.drop k).take 1).map V.int) ++ [V.int 0])[0]? = some (V.int (cellOf ns k)):=by
 by_cases h : k < ns.length
 ·have e : cellOf ns k = ns[k]:=by
   unfold cellOf
   rw [List.getD_eq_getElem?_getD,List.getElem?_eq_getElem h]
   rfl
  rw [e,List.drop_eq_getElem_cons h]
  rfl
 ·have e : cellOf ns k = 0:=by
   unfold cellOf
   rw [List.getD_eq_getElem?_getD,List.getElem?_eq_none (by omega)]
   rfl
  rw [e,List.drop_eq_nil_of_le (by omega)]
  rfl
theorem scCell : FnScope ["_law_script", "_law_k"] ["_law_script", "_law_k"] (defScope s__law_cell):=⟨rfl,rfl,rfl,by decide +kernel,rfl,by decide +kernel,by decide +kernel⟩
theorem ok_cell {f : Addr} {fd : FuncData} (F : Fun K "_law_cell" "_law_cell" s__law_cell f fd) : FnOk P w K mg base CX0 1 f fd ["_law_script", "_law_k"] (spCell K):=by
 refine F.ok scCell (fun vs H Q E h=>?_) (fun cdv A outer s H vs Q E hr h=>?_)
 ·obtain ⟨a,ns,k,rfl,_⟩:=h
  rfl
 obtain ⟨a,ns,k,rfl,hS,q⟩:=h
 refine useQ (ss_one (s_ret (e_ix ix_list (e_op op_cat (e_sl sl_list (e_v 0) (o_some (e_v 1)) (o_some (e_op op_add (e_v 1) e_int))) (e_lst (a_cons e_int a_nil))) e_int))) ?_
 refine ⟨_,rfl,_,rfl,_,rfl,_,rfl,_,_,rfl,rfl,_,rfl,a,_,rfl,hS,fun p hp=>⟨(by show 1 <= sizeLine; decide),fun r hr'=>?_⟩⟩
 have hpr : p ≠ r:=by intro z; subst z; rw [upd_same] at hr'; cases hr'
 refine ⟨p,r,_,_,rfl,rfl,(by rw [upd_ne hpr]; exact upd_same),upd_same,?_,fun t ht=>?_⟩
 ·rw [cut_one,List.length_map,List.length_take]
  show min 1 _ + 1 <= sizeLine
  have zl : sizeLine = 16777216:=sizeLine_eq
  omega
 ·refine ⟨t,_,0,_,rfl,rfl,SqL.of upd_same,atI_nat (j:=0) (by rw [cut_one]; exact head_cell ns k),?_⟩
  exact q _ (((Same.new hp _).trans (Same.new hr' _)).trans (Same.new ht _))
def spNum : Sp:=fun vs H Q _=>∃ (c : Int) (n : Nat),vs = [.int c,.int (n : Int)]/\n <= 1000/\∀ (l : Addr) (ns : List Int) (H' : Hp),Same H H'->ns.length = n->H l = none->H' l = some (.lst (ns.map V.int))->Q (.ref l) H'
theorem scNum : FnScope ["_law_cell_here", "_law_many", "_law_found", "_law_number", "_law_digits", "_law_k"] ["_law_cell_here", "_law_many"] (defScope s__law_numbers):=⟨rfl,rfl,rfl,by decide +kernel,rfl,by decide +kernel,by decide +kernel⟩
theorem ok_num {f : Addr} {fd : FuncData} (F : Fun K "_law_numbers" "_law_numbers" s__law_numbers f fd) (n_abs : mg "abs" = none) (n_range : mg "range" = none) (n_int : mg "int" = none) : FnOk P w K mg base CX0 1 f fd ["_law_cell_here", "_law_many"] spNum:=by
 refine F.ok scNum (fun vs H Q E h=>?_) (fun cdv A outer s H vs Q E hr h=>?_)
 ·obtain ⟨c,n,rfl,_⟩:=h
  rfl
 obtain ⟨c,n,rfl,hn,q⟩:=h
 refine useQ (ss_cons (s_set (i:=2) scNum.nd (e_lst a_nil))
  (ss_cons (s_set (i:=3) scNum.nd (e_op op_mod (e_op op_mul (e_op op_add (e_op op_mod (e_v 0) e_int) e_int) e_int) e_int))
  (ss_cons (s_set (i:=4) scNum.nd e_int)
  (ss_cons (s_cut (s_if (t_w (w_or (t_cmp op_lt (e_v 0) e_int) (w_or1 (t_cmp op_ge (e_v 0) (e_op op_pow e_int e_int)))))
   (ss_one (s_set (i:=4) scNum.nd (e_b call_abs n_abs (by decide +kernel) (a_cons (e_v 0) a_nil))))
   ss_nil))
  (ss_cons (s_for PassesOwn.never rfl (i_rng1 n_range (e_v 1)) (g_name (i:=5) scNum.nd)
   (ss_cons (s_set (i:=3) scNum.nd (e_op op_mod (e_op op_add (e_op op_add (e_op op_mul (e_v 3) (e_op op_add (e_op op_mod (e_v 3) e_int) e_int)) (e_op op_mul e_int (e_v 5))) e_int) e_int))
   (ss_cons (s_expr (e_append (e_v 2) (e_ix ix_list (e_lst (a_cons (e_v 3) (a_cons (e_op op_mod (e_v 4) e_int) a_nil))) (e_t call_int1 n_int PyProof.Rows.boot_int (a_cons (e_cmp op_gt (e_v 4) e_int) a_nil)))))
   (ss_one (s_set (i:=4) scNum.nd (e_op op_fdiv (e_v 4) e_int))))))
  (ss_one (s_ret (e_v 2)))))))) ?_
 have zl : sizeLine = 16777216:=sizeLine_eq
 refine ⟨(by show 0 <= sizeLine; decide),fun p hp=>?_⟩
 refine ⟨_,rfl,_,_,rfl,rfl,(by show (0 : Int) < 1999999973; decide),_,_,rfl,rfl,_,_,rfl,rfl,.inr ⟨by decide,by decide⟩,_,_,rfl,rfl,(by show (0 : Int) < 1999999973; decide),?_⟩
 refine ⟨fun σ' H'=>∃ a d : Int,σ' = [some (.int c),some (.int (n : Int)),some (.ref p),some (.int a),some (.int d),none]/\0 <= a/\a < 1999999973/\H' = upd H p (.lst []),?_,?_⟩
 ·have b1 : 0 <= (c % 1999999973 + 31) * 765432101 % 1999999973:=by omega
  have b2 : (c % 1999999973 + 31) * 765432101 % 1999999973 < 1999999973:=by omega
  refine ⟨_,rfl,_,_,rfl,rfl,_,rfl,?_⟩
  refine ite2 (fun _=>?_) (fun _=>?_)
  ·exact iteT ⟨_,rfl,_,rfl,_,_,rfl,b1,b2,rfl⟩
  ·refine ⟨_,rfl,_,_,rfl,rfl,⟨by decide,by decide,by decide⟩,_,_,rfl,rfl,_,rfl,?_⟩
   refine ite2 (fun _=>?_) (fun _=>?_)
   ·exact ⟨_,rfl,_,rfl,_,_,rfl,b1,b2,rfl⟩
   ·exact ⟨_,_,rfl,b1,b2,rfl⟩
 rintro σ H1 ⟨a,d,rfl,h1,h2,rfl⟩
 refine ⟨_,rfl,(n : Int),rfl,by omega,by omega,for_range (lo:=0) (n:=n) (fun i σ H'=>∃ (a d : Int) (ns : List Int) (o : Option V),σ = [some (.int c),some (.int (n : Int)),some (.ref p),some (.int a),some (.int d),o]/\0 <= a/\a < 1999999973/\ns.length = i/\H' p = some (.lst (ns.map V.int))/\Same H H')
  ⟨a,d,[],none,rfl,h1,h2,rfl,upd_same,Same.new hp _⟩ ?_ ?_⟩
 ·rintro i σ H' hi ⟨a,d,ns,o,rfl,h1,h2,hl,hpp,hS⟩
  refine ⟨_,rfl,_,rfl,_,_,rfl,rfl,(by show (0 : Int) < 65521; decide),_,_,rfl,rfl,_,_,rfl,rfl,.inl ⟨by omega,by omega⟩,_,rfl,_,_,rfl,rfl,.inl ⟨by decide,by decide⟩,_,_,rfl,rfl,_,_,rfl,rfl,_,_,rfl,rfl,(by show (0 : Int) < 1999999973; decide),?_⟩
  have z1 : 0 <= (a * (a % 65521 + 40487) + 7 * (0 + (i : Int)) + 5) % 1999999973:=Int.emod_nonneg _ (by decide)
  have z2 : (a * (a % 65521 + 40487) + 7 * (0 + (i : Int)) + 5) % 1999999973 < 1999999973:=Int.emod_lt_of_pos _ (by decide)
  obtain ⟨v,hv,hm⟩:=at_list (xs:=[V.int ((a * (a % 65521 + 40487) + 7 * (0 + (i : Int)) + 5) % 1999999973),.int (d % 1000000)]) (i:=if decide (0 < d) = true then 1 else 0) (by split <;> decide) (by split <;> (show _ < (2 : Int); decide))
  obtain ⟨u,rfl⟩ : ∃ u,v = .int u:=by
   simp only [List.mem_cons,List.not_mem_nil,or_false] at hm
   rcases hm with rfl | rfl
   ·exact ⟨_,rfl⟩
   ·exact ⟨_,rfl⟩
  refine ⟨_,rfl,.inl ⟨rfl,_,SqL.of hpp⟩,_,rfl,_,rfl,_,_,rfl,rfl,(by show (0 : Int) < 1000000; decide),(by show 2 <= sizeLine; decide),fun p2 hp2=>⟨_,rfl,_,_,rfl,rfl,.inr ⟨_,rfl,p2,_,_,.int u,rfl,rfl,SqL.of upd_same,hv,p,_,_,rfl,rfl,Same.new hp2 _ _ _ hpp,(by rw [List.length_map]; omega),?_⟩⟩⟩
  refine ⟨_,rfl,_,_,rfl,rfl,⟨by decide,by decide⟩,(a * (a % 65521 + 40487) + 7 * (0 + (i : Int)) + 5) % 1999999973,_,ns ++ [u],_,rfl,z1,z2,(by rw [List.length_append,hl]; rfl),?_,?_⟩
  ·rw [upd_same,List.map_append]
   rfl
  ·intro b o hb
   rw [upd_ne (ne_of_none hb hp)]
   exact Same.new hp2 _ _ _ (hS _ _ hb)
 ·rintro σ H' ⟨a,d,ns,o,rfl,h1,h2,hl,hpp,hS⟩
  exact ⟨_,rfl,q p ns H' hS hl hp hpp⟩
end
end K12
set_option maxHeartbeats 1000000
namespace K12
open PySem L2 G
theorem get_int {ns : List Int} {j : Nat} (h : j < ns.length) : (ns.map V.int)[j]? = some (.int ns[j]):=by rw [List.getElem?_map,List.getElem?_eq_getElem h]; rfl
theorem cut_take {α : Type} (f : α->V) (ns : List α) (k : Nat) : cutV (ns.map f) none (some (k : Int)) = (ns.take k).map f:=by
 unfold cutV
 rw [HT.sIx_nat,HT.sIx_none,List.length_map,List.drop_zero,Nat.sub_zero,<- List.map_take,List.take_eq_take_min (i:=k),Nat.min_comm]
section
variable {P : Program} {w : World} {K : PySem.W.Frag} {mg : Str->Option Value} {base : Heap}
def spNames : Sp:=fun vs H Q _=>∃ (c : Int) (m : Nat),vs = [.int c,.int (m : Int)]/\m <= 13/\∀ (l : Addr) (ss : List Str) (H' : Hp),Same H H'->ss.length = m->(∀ s ∈ ss,s.length <= 100/\Fine s)->ss.Nodup->H l = none->H' l = some (.lst (ss.map V.str))->Q (.ref l) H'
theorem scNames : FnScope ["_law_cell_here", "_law_many", "_law_letters", "_law_xs", "_law_stem", "_law_at", "_law_size", "_law_found", "_law_k", "_law_sign"] ["_law_cell_here", "_law_many"] (defScope s__law_names):=⟨rfl,rfl,rfl,by decide +kernel,rfl,by decide +kernel,by decide +kernel⟩
theorem ok_names {f : Addr} {fd : FuncData} (F : Fun K "_law_names" "_law_names" s__law_names f fd) (dNum : Def P w K mg base CX0 "_law_numbers" 1 ["_law_cell_here", "_law_many"] spNum) (n_range : mg "range" = none) : FnOk P w K mg base CX0 2 f fd ["_law_cell_here", "_law_many"] spNames:=by
 refine F.ok scNames (fun vs H Q E h=>?_) (fun cdv A outer s H vs Q E hr h=>?_)
 ·obtain ⟨c,m,rfl,_⟩:=h
  rfl
 obtain ⟨c,m,rfl,hm,q⟩:=h
 refine useQ (ss_cons (s_setc (i:=2) scNames.nd e_str)
  (ss_cons (s_set (i:=3) scNames.nd (e_call dNum hr pass0 (a_cons (e_v 0) (a_cons e_int a_nil))))
  (ss_cons (s_setc (i:=4) scNames.nd (e_join e_str (e_comp ["_law_letters"] [2] [("_law_letters",s.heap.objs.size + 1)] rfl ⟨rfl,rfl,rfl,rfl,trivial⟩ ⟨rfl,trivial⟩ (i_list (e_sl sl_list (e_v 3) o_none (o_some e_int))) (fun _ _ _ _=>(e_ix ix_str (e_n 1) (e_op op_mod (e_n 0) e_int))))))
  (ss_cons (s_cut (s_if (t_w (w_and (t_cmp op_eq (e_op op_mod (e_v 0) e_int) e_int) (w_and1 (t_cmp op_lt (e_v 1) e_int))))
   (ss_one (s_ret (e_comp ["_law_stem"] [4] [("_law_stem",s.heap.objs.size + 2)] rfl ⟨rfl,rfl,rfl,rfl,trivial⟩ ⟨rfl,trivial⟩ (i_rng1 n_range (e_v 1)) (fun _ _ _ _=>(e_sl sl_str (e_n 1) o_none (o_some (e_op op_add (e_n 0) e_int)))))))
   ss_nil))
  (ss_cons (s_set (i:=5) scNames.nd (e_op op_mod (e_ix ix_list (e_v 3) e_int) e_int))
  (ss_cons (s_set (i:=6) scNames.nd (e_op op_add (e_op op_add (e_v 5) e_int) (e_op op_mod (e_ix ix_list (e_v 3) e_int) (e_op op_sub e_int (e_v 5)))))
  (ss_cons (s_set (i:=7) scNames.nd (e_lst a_nil))
  (ss_cons (s_for PassesOwn.never rfl (i_rng1 n_range (e_v 1)) (g_name (i:=8) scNames.nd)
   (ss_cons (s_set (i:=9) scNames.nd (e_ix ix_str (e_c 2) (e_op op_mod (e_op op_add (e_ix ix_list (e_v 3) e_int) (e_op op_mul e_int (e_v 8))) e_int)))
   (ss_one (s_expr (e_append (e_v 7) (e_sl sl_str (e_op op_add_str (e_op op_add_str (e_sl sl_str (e_c 4) o_none (o_some (e_v 5))) (e_v 9)) (e_sl sl_str (e_c 4) (o_some (e_op op_add (e_v 5) e_int)) o_none)) o_none (o_some (e_v 6))))))))
  (ss_one (s_ret (e_v 7))))))))))) ?_
 have zl : sizeLine = 16777216:=sizeLine_eq
 refine ⟨_,rfl,c,12,rfl,by decide,fun px ns H1 s1 hl hpx0 hpx=>?_⟩
 refine ⟨rfl,_,rfl,_,rfl,px,_,rfl,SqL.of hpx,fun p8 hp8=>⟨p8,rfl,⟨_,SqL.of upd_same⟩,?_⟩⟩
 have s8:=Same.new hp8 (.lst (cutV (ns.map V.int) none (some 8)))
 have e8 : cutV (ns.map V.int) none (some 8) = (ns.take 8).map V.int:=cut_take V.int ns 8
 have len8 : (ns.take 8).length <= 8:=by rw [List.length_take]; omega
 refine comp_list (((ns.take 8).map fun x=>(⟨#[lc x]⟩ : Str)).map V.str) (SqL.of upd_same) (by rw [e8,List.length_map]; omega) (by rw [e8,List.length_map,List.length_map,List.length_map]) ?_ ?_
 ·intro i x y H' R hS hx hy hR
  rw [e8,List.getElem?_map] at hx
  rw [List.getElem?_map,List.getElem?_map] at hy
  cases hz : (ns.take 8)[i]? with
  | none=>rw [hz] at hx; cases hx
  | some z =>
   rw [hz] at hx hy
   cases hx
   cases hy
   exact ⟨_,rfl,_,rfl,_,_,rfl,rfl,(by show (0 : Int) < 26; decide),_,_,lc z,rfl,rfl,smallLen,(lc_at z).1,hR H' (Same.refl _)⟩
 intro D H2 s2 hD0 hD
 have hone : ∀ x ∈ (ns.take 8).map fun x=>(⟨#[lc x]⟩ : Str),x.length = 1/\Fine x:=by
  intro x hx
  obtain ⟨z,_,rfl⟩:=List.mem_map.mp hx
  exact ⟨rfl,fine_one (lc_at z).2⟩
 refine ⟨_,D,(ns.take 8).map fun x=>(⟨#[lc x]⟩ : Str),rfl,rfl,SqL.of hD,join_ok (fun x hx=>by rw [(hone x hx).1]; decide) (by rw [List.length_map]; omega),?_⟩
 have fstem:=fine_join fun x hx=>(hone x hx).2
 have lst8 : (Txt.join (Str.ofString "") ((ns.take 8).map fun x=>(⟨#[lc x]⟩ : Str))).length = 8:=by
  rw [PySem.W.KT.join_ones _ fun x hx=>(hone x hx).1,List.length_map,List.length_take]
  omega
 generalize hst : Txt.join (Str.ofString "") ((ns.take 8).map fun x=>(⟨#[lc x]⟩ : Str)) = stem at fstem lst8
 have lstem : stem.length <= 8:=by omega
 have S2:=(s1.trans s8).trans s2
 have hpx2:=s2 _ _ (s8 _ _ hpx)
 refine ⟨fun σ' H'=>σ' = [some (.int c),some (.int (m : Int)),some (.str smallS),some (.ref px),some (.str stem),none,none,none,none,none]/\H' = H2,?_,?_⟩
 ·rw [<- hst]
  refine ⟨_,rfl,_,_,rfl,rfl,(by show (0 : Int) < 2; decide),rfl,_,rfl,?_⟩
  refine ite2 (fun _=>?_) (fun _=>iteF ⟨rfl,rfl⟩)
  refine ⟨_,rfl,_,_,rfl,rfl,_,rfl,?_⟩
  refine ite2 (fun c9=>?_) (fun _=>⟨rfl,rfl⟩)
  have hm9 : m < 9:=by
   have:=of_decide_eq_true c9
   omega
  rw [hst]
  refine ⟨_,rfl,(m : Int),rfl,by omega,by omega,comp_rng (lo:=0) (n:=m) (fun i=>V.str (Txt.slice stem none (some (0 + (i : Int) + 1)))) (by omega) ?_ ?_⟩
  ·intro i H' R hi hS hR
   exact ⟨_,rfl,_,rfl,_,_,rfl,rfl,_,rfl,_,rfl,(by omega),hR H' (Same.refl _)⟩
  ·intro D H' hS hD0 hD
   refine q D ((List.range m).map fun (i : Nat)=>Txt.slice stem none (some (0 + (i : Int) + 1))) H' (S2.trans hS) (by rw [List.length_map,List.length_range]) (fun x hx=>?_) (nodup_pre lst8 hm9) (S2.free hD0) (by rw [List.map_map]; exact hD)
   obtain ⟨i,_,rfl⟩:=List.mem_map.mp hx
   exact ⟨Nat.le_trans (Txt.slice_le _ _ _) (by omega),fine_slice fstem _ _⟩
 rintro σ H3 ⟨rfl,rfl⟩
 refine ⟨_,rfl,px,_,_,_,rfl,rfl,SqL.of hpx2,atI_nat (j:=8) (get_int (by omega)),_,_,rfl,rfl,(by show (0 : Int) < 8; decide),?_⟩
 refine ⟨_,rfl,_,_,rfl,rfl,_,rfl,px,_,_,_,rfl,rfl,SqL.of hpx2,atI_nat (j:=9) (get_int (by omega)),_,rfl,_,_,rfl,rfl,_,_,rfl,rfl,(by show (0 : Int) < 8 - ns[8] % 8; omega),_,_,rfl,rfl,?_⟩
 refine ⟨(by show 0 <= sizeLine; decide),fun pf hpf=>?_⟩
 have sf:=Same.new hpf (.lst [])
 have hb8 : 0 <= ns[8] % 8/\ns[8] % 8 < ns[8] % 8 + 1 + ns[9] % (8 - ns[8] % 8)/\ns[8] % 8 + 1 + ns[9] % (8 - ns[8] % 8) <= 8:=by
  have p0 : 0 < 8 - ns[8] % 8:=by omega
  have p1:=Int.emod_nonneg ns[9] (b:=8 - ns[8] % 8) (by omega)
  have p2:=Int.emod_lt_of_pos ns[9] p0
  omega
 refine ⟨_,rfl,(m : Int),rfl,by omega,by omega,for_range (lo:=0) (n:=m) (fun i σ H'=>∃ (ss : List Str) (o8 o9 : Option V) (at' size : Int),(0 <= at'/\at' < size/\size <= 8)/\ss = ((List.range i).map fun (k : Nat)=>nmAt stem at' size (lc (ns[10] + 5 * (0 + (k : Int)))))/\σ = [some (.int c),some (.int (m : Int)),some (.str smallS),some (.ref px),some (.str stem),some (.int at'),some (.int size),some (.ref pf),o8,o9] /\
  H' pf = some (.lst (ss.map V.str))/\ss.length = i/\(∀ s ∈ ss,s.length <= 100/\Fine s)/\Same H3 H') ⟨[],none,none,ns[8] % 8,ns[8] % 8 + 1 + ns[9] % (8 - ns[8] % 8),hb8,rfl,rfl,upd_same,rfl,(fun s hs=>nomatch hs),sf⟩ ?_ ?_⟩
 ·rintro i σ H' hi ⟨ss,o8,o9,at',size,hb,hse,rfl,hpp,hsl,hss,hS⟩
  have len3 : (ns.map V.int)[10]? = some (.int ns[10]):=get_int (by omega)
  refine ⟨_,rfl,_,rfl,px,_,_,_,rfl,rfl,SqL.of (hS _ _ hpx2),atI_nat (j:=10) len3,_,rfl,_,_,rfl,rfl,.inl ⟨by decide,by decide⟩,_,_,rfl,rfl,_,_,rfl,rfl,(by show (0 : Int) < 26; decide),_,_,lc (ns[10] + 5 * (0 + (i : Int))),rfl,rfl,smallLen,(lc_at _).1,?_⟩
  have f1:=fine_one (lc_at (ns[10] + 5 * (0 + (i : Int)))).2
  have sl : ∀ lo hi,(Txt.slice stem lo hi).length <= 8:=fun lo hi=>Nat.le_trans (Txt.slice_le _ _ _) lstem
  have ls : stem.length <= sizeLine:=by omega
  have l1 : (⟨#[lc (ns[10] + 5 * (0 + (i : Int)))]⟩ : Str).length <= 1:=Nat.le_refl 1
  refine ⟨_,rfl,.inl ⟨rfl,_,SqL.of hpp⟩,_,rfl,_,rfl,_,rfl,_,rfl,ls,_,rfl,_,_,rfl,rfl,fitS (Nat.le_trans (sl _ _) (by decide)) (Nat.le_trans l1 (by decide)),_,rfl,_,rfl,_,_,rfl,rfl,_,rfl,_,rfl,ls,_,_,rfl,rfl,fitS (Nat.le_trans (appS (sl _ _) l1) (by decide)) (Nat.le_trans (sl _ _) (by decide)),
   _,rfl,_,rfl,_,rfl,Nat.le_trans (appS (appS (sl _ _) l1) (sl _ _)) (by omega),pf,_,_,rfl,rfl,hpp,(by rw [List.length_map]; omega),?_⟩
  refine ⟨ss ++ [Txt.slice (Txt.slice stem none (some at') ++ ⟨#[lc (ns[10] + 5 * (0 + (i : Int)))]⟩ ++ Txt.slice stem (some (at' + 1)) none) none (some size)],_,_,at',size,hb,(by rw [List.range_succ,List.map_append,<- hse]; rfl),rfl,?_,(by rw [List.length_append,hsl]; rfl),fun s hs=>?_,fun b o hb=>?_⟩
  ·rw [upd_same,List.map_append]
   rfl
  ·rcases List.mem_append.mp hs with h | h
   ·exact hss s h
   ·rw [List.mem_singleton.mp h]
    exact ⟨Nat.le_trans (Txt.slice_le _ _ _) (Nat.le_trans (appS (appS (sl _ _) l1) (sl _ _)) (by decide)),fine_slice (fine_app (fine_app (fine_slice fstem _ _) f1) (fine_slice fstem _ _)) _ _⟩
  ·rw [upd_ne (ne_of_none hb hpf)]
   exact hS _ _ hb
 ·rintro σ H' ⟨ss,o8,o9,at',size,hb,hse,rfl,hpp,hsl,hss,hS⟩
  exact ⟨_,rfl,q pf ss H' (S2.trans hS) hsl hss (by rw [hse]; exact nodup_one lst8 hb.1 hb.2.1 hb.2.2 hm) (S2.free hpf) hpp⟩
end
end K12
set_option maxHeartbeats 1000000
namespace K12
open PySem L2 G
theorem great_at {i : Int} (h0 : 0 <= i) (h : i < 26) : ∃ c,atI K01.greatS.cps.toList i = some c/\c < 0x110000:=by
 obtain ⟨c,h1,h2⟩:=at_list (xs:=K01.greatS.cps.toList) h0 (by rw [K01.greatL]; exact h)
 have : ∀ c ∈ K01.greatS.cps.toList,c < 0x110000:=by rw [K01.greatL]; decide
 exact ⟨c,h1,this c h2⟩
theorem greatLen : K01.greatS.length <= sizeLine:=small (by show K01.greatS.cps.toList.length <= 1000; rw [K01.greatL]; decide)
structure Reel where
 name : Str
 letters : Str
 start : Int
 many : Int
def Reel.vs (r : Reel) : List V:=[.str r.name,.str r.letters,.int r.start,.int r.many]
structure ROk (r : Reel) : Prop where
 nl : r.name.length <= 100
 nf : Fine r.name
 lf : Fine r.letters
 m1 : 1 <= r.many
def RL (H : Hp) (p : Addr) (prs : List (Addr × Reel)) : Prop:=H p = some (.lst (prs.map fun x=>V.ref x.1))/\∀ x ∈ prs,H x.1 = some (.tup x.2.vs)/\ROk x.2
theorem RL.same {H H' : Hp} {p : Addr} {prs : List (Addr × Reel)} (h : RL H p prs) (s : Same H H') : RL H' p prs:=⟨s _ _ h.1,fun x hx=>⟨s _ _ (h.2 x hx).1,(h.2 x hx).2⟩⟩
theorem RL.push {H : Hp} {p pt : Addr} {prs : List (Addr × Reel)} {r : Reel} (h : RL H p prs) (ht : H pt = some (.tup r.vs)) (hr : ROk r) : RL (upd H p (.lst ((prs.map fun x=>V.ref x.1) ++ [.ref pt]))) p (prs ++ [(pt,r)]):=by
 have ne : ∀ a xs,H a = some (.tup xs)->a ≠ p:=fun a xs e=>ne_of e h.1 (by intro z; cases z)
 refine ⟨by rw [upd_same,List.map_append]; rfl,fun x hx=>?_⟩
 rcases List.mem_append.mp hx with z | z
 ·obtain ⟨h1,h2⟩:=h.2 x z
  exact ⟨by rw [upd_ne (ne _ _ h1)]; exact h1,h2⟩
 ·rw [List.mem_singleton.mp z]
  exact ⟨by rw [upd_ne (ne _ _ ht)]; exact ht,hr⟩
section
variable {P : Program} {w : World} {K : PySem.W.Frag} {mg : Str->Option Value} {base : Heap}
def spReels : Sp:=fun vs H Q _=>∃ (c mo : Int) (pn : Addr) (ss : List Str),vs = [.int c,.ref pn,.int mo]/\1 <= mo/\mo <= 160000/\H pn = some (.lst (ss.map V.str))/\(∀ s ∈ ss,s.length <= 100/\Fine s)/\ss.length <= 100 /\
 ∀ (l : Addr) (prs : List (Addr × Reel)) (H' : Hp),Same H H'->prs.map (fun x=>x.2.name) = ss->H l = none->RL H' l prs->Q (.ref l) H'
theorem scReels : FnScope ["_law_cell_here", "_law_names_here", "_law_most", "_law_great", "_law_found", "_law_k", "_law_xs", "_law_many", "_law_start"] ["_law_cell_here", "_law_names_here", "_law_most"] (defScope s__law_reels):=⟨rfl,rfl,rfl,by decide +kernel,rfl,by decide +kernel,by decide +kernel⟩
theorem ok_reels {f : Addr} {fd : FuncData} (F : Fun K "_law_reels" "_law_reels" s__law_reels f fd) (dNum : Def P w K mg base CX0 "_law_numbers" 1 ["_law_cell_here", "_law_many"] spNum) (n_range : mg "range" = none) (n_len : mg "len" = none) : FnOk P w K mg base CX0 2 f fd ["_law_cell_here", "_law_names_here", "_law_most"] spReels:=by
 refine F.ok scReels (fun vs H Q E h=>?_) (fun cdv A outer s H vs Q E hr h=>?_)
 ·obtain ⟨c,mo,pn,ss,rfl,_⟩:=h
  rfl
 obtain ⟨c,mo,pn,ss,rfl,hm1,hm2,hpn,hss,hsl,q⟩:=h
 refine useQ (ss_cons (s_set (i:=3) scReels.nd e_str)
  (ss_cons (s_set (i:=4) scReels.nd (e_lst a_nil))
  (ss_cons (s_for PassesOwn.never rfl (i_rng1 n_range (e_b call_len_seq n_len PySem.boot_len (a_cons (e_v 1) a_nil))) (g_name (i:=5) scReels.nd)
   (ss_cons (s_set (i:=6) scReels.nd (e_call dNum hr pass0 (a_cons (e_op op_add (e_v 0) (e_op op_mul e_int (e_v 5))) (a_cons e_int a_nil))))
   (ss_cons (s_set (i:=7) scReels.nd (e_op op_add e_int (e_op op_mod (e_ix ix_list (e_v 6) e_int) (e_v 2))))
   (ss_cons (s_set (i:=8) scReels.nd (e_op op_mod (e_ix ix_list (e_v 6) e_int) (e_op op_sub e_int (e_v 7))))
   (ss_cons (s_cut (s_if (t_cmp op_eq (e_op op_mod (e_ix ix_list (e_v 6) e_int) e_int) e_int)
    (ss_one (s_set (i:=8) scReels.nd (e_ix ix_list (e_lst (a_cons e_int (a_cons (e_op op_sub e_int (e_v 7)) a_nil))) (e_op op_mod (e_ix ix_list (e_v 6) e_int) e_int))))
    ss_nil))
   (ss_one (s_expr (e_append (e_v 4) (e_tup (a_cons (e_ix ix_list (e_v 1) (e_v 5)) (a_cons (e_op op_add_str (e_ix ix_str (e_v 3) (e_op op_mod (e_ix ix_list (e_v 6) e_int) e_int)) (e_ix ix_str (e_v 3) (e_op op_mod (e_ix ix_list (e_v 6) e_int) e_int))) (a_cons (e_v 8) (a_cons (e_v 7) a_nil)))))))))))))
  (ss_one (s_ret (e_v 4)))))) ?_
 have zl : sizeLine = 16777216:=sizeLine_eq
 refine ⟨(by show 0 <= sizeLine; decide),fun pf hpf=>?_⟩
 have sf:=Same.new hpf (.lst [])
 refine ⟨_,rfl,pn,_,rfl,.inl (SqL.of (sf _ _ hpn)),_,rfl,by rw [List.length_map]; omega,by rw [List.length_map]; omega,for_range (lo:=0) (n:=(ss.map V.str).length) (fun i σ H'=>∃ (prs : List (Addr × Reel)) (o5 o6 o7 o8 : Option V),σ = [some (.int c),some (.ref pn),some (.int mo),some (.str K01.greatS),some (.ref pf),o5,o6,o7,o8]/\RL H' pf prs/\prs.map (fun x=>x.2.name) = ss.take i/\Same H H')
  ⟨[],none,none,none,none,rfl,⟨upd_same,fun x hx=>nomatch hx⟩,rfl,sf⟩ ?_ ?_⟩
 ·rintro i σ H' hi ⟨prs,o5,o6,o7,o8,rfl,rl,hpl,hS⟩
  rw [List.length_map] at hi
  have hpn' : prs.length <= 100:=by
   have:=congrArg List.length hpl
   rw [List.length_map,List.length_take] at this
   omega
  refine ⟨_,rfl,_,rfl,_,_,rfl,rfl,.inl ⟨by decide,by decide⟩,_,_,rfl,rfl,_,5,rfl,by decide,fun px ns H1 s1 hl hp0 hpx=>?_⟩
  have k0 : 0 < ns.length:=by omega
  have mb0:=Int.emod_nonneg ns[0] (b:=mo) (by omega)
  have mb1:=Int.emod_lt_of_pos ns[0] (b:=mo) (by omega)
  have k1 : 1 < ns.length:=by omega
  have k2 : 2 < ns.length:=by omega
  have k3 : 3 < ns.length:=by omega
  have k4 : 4 < ns.length:=by omega
  refine ⟨_,rfl,px,_,_,_,rfl,rfl,SqL.of hpx,atI_nat (j:=0) (get_int k0),_,rfl,_,_,rfl,rfl,(by show (0 : Int) < mo; omega),_,_,rfl,rfl,?_⟩
  refine ⟨_,rfl,px,_,_,_,rfl,rfl,SqL.of hpx,atI_nat (j:=1) (get_int k1),_,rfl,_,_,rfl,rfl,_,_,rfl,rfl,(by show (0 : Int) < 160001 - (1 + ns[0] % mo); omega),?_⟩
  refine ⟨fun σ' H2=>∃ st : Int,σ' = [some (.int c),some (.ref pn),some (.int mo),some (.str K01.greatS),some (.ref pf),some (.int (0 + (i : Int))),some (.ref px),some (.int (1 + ns[0] % mo)),some (.int st)]/\Same H1 H2,?_,?_⟩
  ·refine ⟨_,rfl,px,_,_,_,rfl,rfl,SqL.of hpx,atI_nat (j:=2) (get_int k2),_,_,rfl,rfl,(by show (0 : Int) < 4; decide),rfl,_,rfl,?_⟩
   refine ite2 (fun _=>?_) (fun _=>⟨_,rfl,Same.refl _⟩)
   refine ⟨_,rfl,_,_,rfl,rfl,(by show 2 <= sizeLine; decide),fun p2 hp2=>⟨_,rfl,px,_,_,_,rfl,rfl,SqL.of (Same.new hp2 _ _ _ hpx),atI_nat (j:=3) (get_int k3),_,_,rfl,rfl,(by show (0 : Int) < 2; decide),?_⟩⟩
   obtain ⟨v,hv,hm⟩:=at_list (xs:=[V.int 0,.int (160000 - (1 + ns[0] % mo))]) (i:=ns[3] % 2) (by omega) (by show _ < (2 : Int); omega)
   refine ⟨p2,_,_,v,rfl,rfl,SqL.of upd_same,hv,?_⟩
   simp only [List.mem_cons,List.not_mem_nil,or_false] at hm
   rcases hm with rfl | rfl
   ·exact ⟨_,rfl,Same.new hp2 _⟩
   ·exact ⟨_,rfl,Same.new hp2 _⟩
  rintro σ H2 ⟨st,rfl,s2⟩
  obtain ⟨ca,hca,fa⟩:=great_at (i:=ns[3] % 2) (by omega) (by omega)
  obtain ⟨cb,hcb,fb⟩:=great_at (i:=ns[4] % 3) (by omega) (by omega)
  have S12:=s1.trans s2
  have hgs : ss[i]? = some ss[i]:=List.getElem?_eq_getElem hi
  have hnm : atI (ss.map V.str) (0 + (i : Int)) = some (.str ss[i]):=by
   rw [Int.zero_add]
   exact atI_nat (by rw [List.getElem?_map,hgs]; rfl)
  refine ⟨_,rfl,.inl ⟨rfl,_,SqL.of (S12 _ _ rl.1)⟩,_,rfl,_,rfl,pn,_,_,_,rfl,rfl,SqL.of (S12 _ _ (hS _ _ hpn)),hnm,_,rfl,_,rfl,px,_,_,_,rfl,rfl,SqL.of (s2 _ _ hpx),atI_nat (j:=3) (get_int k3),_,_,rfl,rfl,(by show (0 : Int) < 2; decide),_,_,ca,rfl,rfl,greatLen,hca,
   _,rfl,_,rfl,px,_,_,_,rfl,rfl,SqL.of (s2 _ _ hpx),atI_nat (j:=4) (get_int k4),_,_,rfl,rfl,(by show (0 : Int) < 3; decide),_,_,cb,rfl,rfl,greatLen,hcb,_,_,rfl,rfl,(by show 2 <= sizeLine; decide),_,rfl,_,rfl,(by show 4 <= sizeLine; decide),fun pt hpt=>?_⟩
  have st3:=Same.new hpt (.tup [.str ss[i],.str (⟨#[ca]⟩ ++ ⟨#[cb]⟩),.int st,.int (1 + ns[0] % mo)])
  have rl3 : RL (upd H2 pt (.tup [.str ss[i],.str (⟨#[ca]⟩ ++ ⟨#[cb]⟩),.int st,.int (1 + ns[0] % mo)])) pf prs:=rl.same (S12.trans st3)
  obtain ⟨hs1,hs2⟩:=hss ss[i] (List.getElem_mem hi)
  refine ⟨pf,_,_,rfl,rfl,rl3.1,(by rw [List.length_map]; omega),prs ++ [(pt,⟨ss[i],⟨#[ca]⟩ ++ ⟨#[cb]⟩,st,1 + ns[0] % mo⟩)],_,_,_,_,rfl,?_,(by rw [List.map_append,hpl,List.take_add_one,hgs]; rfl),fun b o hb=>?_⟩
  ·exact rl3.push (r:=⟨ss[i],⟨#[ca]⟩ ++ ⟨#[cb]⟩,st,1 + ns[0] % mo⟩) upd_same ⟨hs1,hs2,fine_app (fine_one fa) (fine_one fb),by show 1 <= 1 + ns[0] % mo; omega⟩
  ·rw [upd_ne (ne_of_none hb hpf)]
   exact st3 _ _ (S12 _ _ (hS _ _ hb))
 ·rintro σ H' ⟨prs,o5,o6,o7,o8,rfl,rl,hpl,hS⟩
  exact ⟨_,rfl,q pf prs H' hS (by rw [hpl,List.length_map,List.take_length]) hpf rl⟩
end
end K12
set_option maxHeartbeats 2000000
namespace K12
open PySem L2 G
theorem raised1 {H H1 : Hp} {a dx : Addr} {o x o' : HO} (s1 : Same H H1) (ha : H1 a = none) (hdx : upd H1 a o dx = none) (hne : dx ≠ a) : Same H (del (upd (upd (upd H1 a o) dx x) a o') a)/\del (upd (upd (upd H1 a o) dx x) a o') a dx = some x:=by
 refine ⟨Same.del ?_ (s1.free ha),by rw [del_ne hne,upd_ne hne]; exact upd_same⟩
 intro b o hb
 have hb1:=s1 _ _ hb
 rw [upd_ne (ne_of_none hb1 ha),upd_ne,upd_ne (ne_of_none hb1 ha)]
 ·exact hb1
 ·intro z
  subst z
  rw [upd_ne hne,hb1] at hdx
  cases hdx
theorem raised2 {H H1 : Hp} {a dx : Addr} {o x o' x' : HO} (s1 : Same H H1) (ha : H1 a = none) (hdx : upd H1 a o dx = none) (hne : dx ≠ a) : Same H (del (upd (upd (upd (upd H1 a o) dx x) a o') dx x') a)/\del (upd (upd (upd (upd H1 a o) dx x) a o') dx x') a dx = some x':=by
 refine ⟨Same.del ?_ (s1.free ha),by rw [del_ne hne]; exact upd_same⟩
 intro b o hb
 have hb1:=s1 _ _ hb
 have hn : b ≠ dx:=by
  intro z
  subst z
  rw [upd_ne hne,hb1] at hdx
  cases hdx
 rw [upd_ne hn,upd_ne (ne_of_none hb1 ha),upd_ne hn,upd_ne (ne_of_none hb1 ha)]
 exact hb1
section
variable {P : Program} {w : World} {K : PySem.W.Frag} {mg : Str->Option Value} {base : Heap}
def spInit (C : Addr) (f : Str) : Sp:=fun vs H Q _=>∃ a y,vs = [.ref a,y]/\H a = some (newO a C none)/\∀ dx,H dx = none->dx ≠ a->Q .non (upd (upd H dx (xdO dx [(f,y)])) a (newO a C (some dx)))
theorem scInit : FnScope ["self", "name"] ["self", "name"] (defScope s_NoName_init):=⟨rfl,rfl,rfl,by decide +kernel,rfl,by decide +kernel,by decide +kernel⟩
theorem ok_init {f C : Addr} {fd : FuncData} (F : Fun K "__init__" "NoName.__init__" s_NoName_init f fd) (XC : XCls K C) (XN : XNo K C "name") : FnOk P w K mg base CX0 1 f fd ["self", "name"] (spInit C "name"):=by
 refine F.ok scInit (fun vs H Q E h=>?_) (fun cdv A outer s0 H vs Q E hr h=>?_)
 ·obtain ⟨a,y,rfl,_⟩:=h
  rfl
 obtain ⟨a,y,rfl,hH,q⟩:=h
 refine useQ (ss_one (s_xset (e_v 0) (e_v 1))) ?_
 exact ⟨_,rfl,_,rfl,a,C,rfl,XC,XN,.inl ⟨hH,fun dx n1 n2=>q dx n1 n2⟩⟩
def spInit2 (C : Addr) : Sp:=fun vs H Q _=>∃ a y z,vs = [.ref a,y,z]/\H a = some (newO a C none)/\∀ dx,H dx = none->dx ≠ a->Q .non (upd (upd (upd H dx (xdO dx [("reel",y)])) a (newO a C (some dx))) dx (xdO dx [("reel",y),("frame",z)]))
theorem scInit2 : FnScope ["self", "reel", "frame"] ["self", "reel", "frame"] (defScope s_NoFrame_init):=⟨rfl,rfl,rfl,by decide +kernel,rfl,by decide +kernel,by decide +kernel⟩
theorem ok_init2 {f C : Addr} {fd : FuncData} (F : Fun K "__init__" "NoFrame.__init__" s_NoFrame_init f fd) (XC : XCls K C) (XN1 : XNo K C "reel") (XN2 : XNo K C "frame") : FnOk P w K mg base CX0 1 f fd ["self", "reel", "frame"] (spInit2 C):=by
 refine F.ok scInit2 (fun vs H Q E h=>?_) (fun cdv A outer s0 H vs Q E hr h=>?_)
 ·obtain ⟨a,y,z,rfl,_⟩:=h
  rfl
 obtain ⟨a,y,z,rfl,hH,q⟩:=h
 refine useQ (ss_cons (s_xset (e_v 0) (e_v 1))
  (ss_one (s_xset (e_v 0) (e_v 2)))) ?_
 refine ⟨_,rfl,_,rfl,a,C,rfl,XC,XN1,.inl ⟨hH,fun dx n1 n2=>⟨_,rfl,_,rfl,a,C,rfl,XC,XN2,.inr ⟨dx,_,upd_same,(by rw [upd_ne n2]; exact upd_same),(by show 1 < 1000; decide),?_⟩⟩⟩⟩
 exact q dx n1 n2
def spWhole : Sp:=fun vs H Q _=>∃ i : Int,vs = [.int i]/\Q (.bl true) H
theorem scWhole : FnScope ["value"] ["value"] (defScope s_is_whole):=⟨rfl,rfl,rfl,by decide +kernel,rfl,by decide +kernel,by decide +kernel⟩
theorem ok_whole {f : Addr} {fd : FuncData} (F : Fun K "is_whole" "is_whole" s_is_whole f fd) (n_isinstance : mg "isinstance" = none) (n_int : mg "int" = none) (n_bool : mg "bool" = none) : FnOk P w K mg base CX0 1 f fd ["value"] spWhole:=by
 refine F.ok scWhole (fun vs H Q E h=>?_) (fun cdv A outer s H vs Q E hr h=>?_)
 ·obtain ⟨i,rfl,_⟩:=h
  rfl
 obtain ⟨i,rfl,q⟩:=h
 refine useQ (ss_one (s_ret (e_and (e_b call_isinst n_isinstance PyProof.Rows.boot_isinstance (a_cons (e_v 0) (a_cons (e_bt (v:=.ty "int") n_int PyProof.Rows.boot_int rfl) a_nil))) (e_one (e_not (e_b call_isinst n_isinstance PyProof.Rows.boot_isinstance (a_cons (e_v 0) (a_cons (e_bt (v:=.ty "bool") n_bool (by decide +kernel) rfl) a_nil)))))))) ?_
 refine ⟨_,rfl,_,_,_,true,rfl,TyOf.int i,.inr ⟨_,rfl⟩,kit_self,true,rfl,iteT ?_⟩
 exact ⟨_,rfl,_,_,_,false,rfl,TyOf.int i,.inr ⟨_,rfl⟩,int_bool,false,rfl,q⟩
def spHasF : Sp:=fun vs H Q _=>∃ (p : Addr) (r : Reel) (f : Int),vs = [.ref p,.int f]/\H p = some (.tup r.vs)/\((0 <= f/\f < r.many)->Q (.bl true) H)/\(¬ (0 <= f/\f < r.many)->Q (.bl false) H)
theorem scHasF : FnScope ["reel", "frame"] ["reel", "frame"] (defScope s_has_frame):=⟨rfl,rfl,rfl,by decide +kernel,rfl,by decide +kernel,by decide +kernel⟩
theorem ok_hasF {f : Addr} {fd : FuncData} {t3 : Tok} (F : Fun K "has_frame" "has_frame" s_has_frame f fd) (dWh : Def P w K mg base CX0 "is_whole" 1 ["value"] spWhole) (mMANY : mg "MANY" = some (.int 3 t3)) : FnOk P w K mg base CX0 2 f fd ["reel", "frame"] spHasF:=by
 refine F.ok scHasF (fun vs H Q E h=>?_) (fun cdv A outer s0 H vs Q E hr h=>?_)
 ·obtain ⟨p,r,f,rfl,_⟩:=h
  rfl
 obtain ⟨p,r,f,rfl,hp,q1,q2⟩:=h
 refine useQ (ss_one (s_ret (e_and (e_call dWh hr pass0 (a_cons (e_v 1) a_nil)) (e_one (e_chain op_le op_lt e_int (e_v 1) (e_ix ix_tup (e_v 0) (e_gl (v:=.int 3) mMANY ⟨_,rfl⟩))))))) ?_
 refine ⟨_,rfl,f,rfl,true,rfl,iteT ⟨_,rfl,_,_,rfl,rfl,_,rfl,?_⟩⟩
 refine ite2 (fun c1=>?_) (fun c1=>?_)
 ·have d1:=of_decide_eq_true c1
  refine ⟨_,rfl,p,_,_,_,rfl,rfl,SqT.of hp,atI_nat (j:=3) rfl,_,_,rfl,rfl,?_⟩
  have z : Q (.bl (decide (f < r.many))) H:=by
   by_cases d2 : f < r.many
   ·rw [decide_eq_true d2]
    exact q1 ⟨d1,d2⟩
   ·rw [decide_eq_false d2]
    exact q2 fun z=>d2 z.2
  exact z
 ·have d1:=of_decide_eq_false (Bool.eq_false_iff.mpr c1)
  exact q2 fun z=>d1 z.1
def spNamed (CN : Addr) : Sp:=fun vs H Q E=>∃ (p : Addr) (prs : List (Addr × Reel)) (nm : Str),vs = [.ref p,.str nm]/\RL H p prs/\(∀ x ∈ prs,x.2.name = nm->∀ H',Same H H'->Q (.ref x.1) H') /\
 ((∀ x ∈ prs,x.2.name ≠ nm)->∀ H' dx,Same H H'->H' dx = some (xdO dx [("name",.str nm)])->E (.ref CN) (some dx) H')
theorem scNamed : FnScope ["reels", "name", "reel"] ["reels", "name"] (defScope s_reel_named):=⟨rfl,rfl,rfl,by decide +kernel,rfl,by decide +kernel,by decide +kernel⟩
theorem ok_named {f CN fI : Addr} {fd fdI : FuncData} {t0 : Tok} (F : Fun K "reel_named" "reel_named" s_reel_named f fd) (mNAME : mg "NAME" = some (.int 0 t0)) (m_NoName : mg "NoName" = some (.ref CN)) (R_NoName : XRaise K CN fI) (G_NoName : FnOk P w K mg base CX0 1 fI fdI ["self", "name"] (spInit CN "name")) (b_NoName : Binds K fdI ["self", "name"] []) :
  FnOk P w K mg base (CX1 P w) 3 f fd ["reels", "name"] (spNamed CN):=by
 refine F.okX scNamed (fun vs H Q E h=>?_) (fun cdv A outer s H vs Q E hr h=>?_)
 ·obtain ⟨p,prs,nm,rfl,_⟩:=h
  rfl
 obtain ⟨p,prs,nm,rfl,rl,q,e⟩:=h
 refine useQ (ss_cons (s_for PassesOwn.leaving rfl (i_list (e_v 0)) (g_name (i:=2) scNamed.nd)
   (ss_one (s_if (t_cmp op_eq (e_ix ix_tup (e_v 2) (e_gl (v:=.int 0) mNAME ⟨_,rfl⟩)) (e_v 1))
    (ss_one (s_ret (e_v 2)))
    ss_nil)))
  (ss_one (s_raiseI m_NoName R_NoName G_NoName hr b_NoName (a_cons (e_v 1) a_nil)))) ?_
 refine ⟨_,rfl,p,rfl,⟨_,SqL.of rl.1⟩,for_list (K:=K) (a:=p) (xs:=prs.map fun x=>V.ref x.1) (fun i σ H'=>∃ (o2 : Option V),σ = [some (.ref p),some (.str nm),o2]/\(∀ j y,j < i->prs[j]? = some y->y.2.name ≠ nm)/\Same H H') ⟨none,rfl,(fun j y hj=>absurd hj (Nat.not_lt_zero _)),Same.refl _⟩ (fun i σ H' _ ⟨_,_,_,s⟩=>SqL.of (s _ _ rl.1)) ?_ ?_⟩
 ·rintro i x σ H' hx ⟨o2,rfl,hn,hS⟩
  obtain ⟨pr,hpr,rfl⟩ : ∃ pr,prs[i]? = some pr/\x = V.ref pr.1:=by
   rw [List.getElem?_map] at hx
   cases z : prs[i]? with
   | none=>rw [z] at hx; cases hx
   | some pr=>rw [z] at hx; exact ⟨pr,rfl,(Option.some.inj hx).symm⟩
  have hmem : pr ∈ prs:=List.mem_of_getElem? hpr
  refine ⟨_,rfl,pr.1,_,_,_,rfl,rfl,SqT.of (hS _ _ (rl.2 pr hmem).1),atI_nat (j:=0) rfl,_,rfl,rfl,_,rfl,?_⟩
  refine ite2 (fun c=>?_) (fun c=>?_)
  ·exact ⟨_,rfl,q pr hmem (V.str.inj (of_decide_eq_true c)) H' hS⟩
  ·refine ⟨_,rfl,fun j y hj hy=>?_,hS⟩
   by_cases z : j < i
   ·exact hn j y z hy
   ·have : j = i:=by omega
    subst this
    rw [hpr] at hy
    cases hy
    exact fun e=>c (decide_eq_true (congrArg V.str e))
 ·rintro σ H' ⟨o2,rfl,hn,hS⟩
  rw [List.length_map] at hn
  refine ⟨_,rfl,(by show 1 <= sizeLine; decide),fun a ha=>⟨a,_,rfl,upd_same,fun dx n1 n2=>⟨rfl,some dx,upd_same,?_⟩⟩⟩
  obtain ⟨r1,r2⟩:=raised1 (x:=xdO dx [("name",V.str nm)]) (o':=newO a CN (some dx)) hS ha n1 n2
  refine e (fun x hx=>?_) _ dx r1 r2
  obtain ⟨j,hj⟩:=List.mem_iff_getElem?.mp hx
  exact hn j x (List.getElem?_eq_some_iff.mp hj).1 hj
end
end K12
set_option maxHeartbeats 2000000
namespace K12
open PySem L2 G DT
open IT hiding It
def Ex (p : Addr) (H H' : Hp) : Prop:=∀ b o,b ≠ p->H b = some o->H' b = some o
theorem Ex.refl (p : Addr) (H : Hp) : Ex p H H:=fun _ _ _ h=>h
theorem Ex.of {p : Addr} {H H' : Hp} (s : Same H H') : Ex p H H':=fun b o _ h=>s b o h
theorem Ex.trans {p : Addr} {H H1 H2 : Hp} (a : Ex p H H1) (b : Ex p H1 H2) : Ex p H H2:=fun c o n h=>b c o n (a c o n h)
theorem rd_tk {H H' : Hp} {d : Addr} {kvs : List (Key × V)} (h : Rd H d (.dK kvs)) (e : Ex d H H') : TK H H':=fun a xs ha=>e a _ (by
 rintro rfl
 rcases h with h | ⟨o,h⟩
 ·rw [h] at ha; cases ha
 ·rw [h] at ha; cases ha) ha
theorem RL.ex {H H' : Hp} {p d : Addr} {prs : List (Addr × Reel)} {kvs : List (Key × V)} (h : RL H p prs) (hd : Rd H d (.dK kvs)) (e : Ex d H H') : RL H' p prs:=by
 refine ⟨e _ _ ?_ h.1,fun x hx=>⟨rd_tk hd e _ _ (h.2 x hx).1,(h.2 x hx).2⟩⟩
 rintro rfl
 rcases hd with r | ⟨o,r⟩
 ·rw [h.1] at r; cases r
 ·rw [h.1] at r; cases r
def Uq (prs : List (Addr × Reel)) : Prop:=∀ x ∈ prs,∀ y ∈ prs,x.2.name = y.2.name->x = y
def Ck (prs : List (Addr × Reel)) (r : Str) (f l : Int) : Prop:=∃ x ∈ prs,x.2.name = r/\0 <= f/\f < x.2.many/\0 <= l/\l < x.2.many
def has (r : Reel) (f : Int) : Prop:=0 <= f/\f < r.many
mutual
def hI (T : Str->Int->Int->Prop) (G : Str->List IT.It->Prop) : IT.It->Prop
 | .clip r f l=>Fine r/\T r f l
 | .times _ xs=>hL T G xs
 | .back xs=>hL T G xs
 | .part n xs=>Fine n/\G n xs
 | .fade m=>0 <= m
def hL (T : Str->Int->Int->Prop) (G : Str->List IT.It->Prop) : List IT.It->Prop
 | []=>True
 | x :: r=>hI T G x/\hL T G r
end
theorem hL_mem {T : Str->Int->Int->Prop} {G : Str->List IT.It->Prop} : ∀ {xs : List IT.It} {x : IT.It},hL T G xs->x ∈ xs->hI T G x
 | y :: r,x,g,h=>by
  rw [hL] at g
  rcases List.mem_cons.mp h with rfl | h
  ·exact g.1
  ·exact hL_mem g.2 h
structure Pa (T : Str->Int->Int->Prop) (G : Str->List IT.It->Prop) (ns : List Str) : Prop where
 fn : ∀ n ys ys',G n ys->G n ys'->ys = ys'
 dom : ∀ n ys,G n ys->n ∈ ns
 len : ns.length <= 100
 wl : ∀ n ys,G n ys->WL ys
 ok : ∀ n ys,G n ys->hL T G ys
def PR (H : Hp) (pd : Addr) (G : Str->List IT.It->Prop) : Prop:=∃ kvs,Rd H pd (.dK kvs)/\∀ n ys,G n ys->∃ b,valV kvs (Sum.inr n) = some (.ref b)/\Td H (.ref b) (.tuple (dL ys))
theorem rds {H H' : Hp} {d : Addr} {u : HO} (h : Rd H d u) (s : Same H H') : Rd H' d u:=by
 rcases h with r | ⟨o,r⟩
 ·exact .inl (s _ _ r)
 ·exact .inr ⟨o,s _ _ r⟩
theorem rde {H H' : Hp} {d e : Addr} {u : HO} (h : Rd H d u) (n : d ≠ e) (s : Ex e H H') : Rd H' d u:=by
 rcases h with r | ⟨o,r⟩
 ·exact .inl (s _ _ n r)
 ·exact .inr ⟨o,s _ _ n r⟩
theorem rdn {H : Hp} {d e : Addr} {u : HO} (h : Rd H d u) (n : H e = none) : e ≠ d:=by
 rintro rfl
 rcases h with r | ⟨o,r⟩ <;> rw [r] at n <;> cases n
theorem PR.ex {H H' : Hp} {pd p : Addr} {G : Str->List IT.It->Prop} {kvs : List (Key × V)} (h : PR H pd G) (e : Ex p H H') (hp : Rd H p (.dK kvs)) (n : pd ≠ p) : PR H' pd G:=by
 obtain ⟨k,h1,h2⟩:=h
 refine ⟨k,rde h1 n e,fun m ys g=>?_⟩
 obtain ⟨b,h3,h4⟩:=h2 m ys g
 exact ⟨b,h3,h4.tk (rd_tk hp e)⟩
theorem PR.same {H H' : Hp} {pd : Addr} {G : Str->List IT.It->Prop} (h : PR H pd G) (s : Same H H') : PR H' pd G:=by
 obtain ⟨k,h1,h2⟩:=h
 refine ⟨k,rds h1 s,fun m ys g=>?_⟩
 obtain ⟨b,h3,h4⟩:=h2 m ys g
 exact ⟨b,h3,h4.tk (TK.of s)⟩
theorem PR.get {H : Hp} {pd : Addr} {G : Str->List IT.It->Prop} (h : PR H pd G) {n : Str} {ys : List IT.It} (g : G n ys) : ∃ b,DGet H pd (.str n) (some (.ref b))/\Td H (.ref b) (.tuple (dL ys)):=by
 obtain ⟨kvs,h1,h2⟩:=h
 obtain ⟨b,h3,h4⟩:=h2 n ys g
 exact ⟨b,.inl ⟨kvs,.inr n,h1,rfl,h3.symm⟩,h4⟩
theorem nodup_sub_len {α : Type} : ∀ {l m : List α},l.Nodup->(∀ x ∈ l,x ∈ m)->l.length <= m.length
 | [],_,_,_=>Nat.zero_le _
 | a :: l,m,h,k=>by
  obtain ⟨p,q,rfl⟩:=List.append_of_mem (k a List.mem_cons_self)
  rw [List.nodup_cons] at h
  have:=nodup_sub_len (m:=p ++ q) h.2 fun x hx=>by
   have:=k x (List.mem_cons_of_mem _ hx)
   simp only [List.mem_append,List.mem_cons] at this ⊢
   rcases this with z | z | z
   ·exact .inl z
   ·subst z; exact absurd hx h.1
   ·exact .inr z
  simp only [List.length_append,List.length_cons] at this ⊢
  omega
structure Wk (G : Str->List IT.It->Prop) (N : Str->Prop) (ns : List Str) (n0 : Nat) (wk : List (Key × V)) : Prop where
 nd : (wk.map (·.1)).Nodup
 sub : ∀ k ∈ wk.map (·.1),k ∈ ns.map (Sum.inr : Str->Key)
 bl : ∀ n v,valV wk (.inr n : Key) = some v->v = .bl true \/ v = .bl false
 way : ∀ n,valV wk (.inr n : Key) = some (.bl true)->∀ zs,G n zs->n0 <= dpL zs
 fin : ∀ n,valV wk (.inr n : Key) = some (.bl false)->N n
theorem Wk.len {G : Str->List IT.It->Prop} {N : Str->Prop} {ns : List Str} {n0 : Nat} {wk : List (Key × V)} (h : Wk G N ns n0 wk) : wk.length <= ns.length:=by
 have:=nodup_sub_len h.nd h.sub
 simpa using this
theorem Wk.mono {G : Str->List IT.It->Prop} {N : Str->Prop} {ns : List Str} {n0 n1 : Nat} {wk : List (Key × V)} (h : Wk G N ns n0 wk) (l : n1 <= n0) : Wk G N ns n1 wk:=⟨h.nd,h.sub,h.bl,fun n e zs g=>Nat.le_trans l (h.way n e zs g),h.fin⟩
theorem putK_keys {kvs : List (Key × V)} {k : Key} {v : V} : ∀ j ∈ (putK kvs k v).map (·.1),j = k \/ j ∈ kvs.map (·.1):=fun j hj=>by
 cases z : valV kvs k with
 | none =>
  rw [putK_new v z,List.map_append] at hj
  rcases List.mem_append.mp hj with y | y
  ·exact .inr y
  ·exact .inl (List.mem_singleton.mp y)
 | some u =>
  refine .inr ?_
  unfold putK at hj
  split at hj
  ·rw [List.map_map] at hj
   obtain ⟨p,hp,e⟩:=List.mem_map.mp hj
   refine List.mem_map.mpr ⟨p,hp,?_⟩
   rw [<- e]
   dsimp only [Function.comp]
   split <;> simp_all
  ·rename_i h
   exfalso
   apply h
   simp only [valV] at z
   exact (by
    rw [List.any_eq_true]
    cases f : kvs.find? (fun p=>decide (p.1 = k)) with
    | none=>rw [f] at z; cases z
    | some p=>exact ⟨p,List.mem_of_find?_eq_some f,by have:=List.find?_some f; simpa using this⟩)
theorem hL_iff {T : Str->Int->Int->Prop} {G : Str->List IT.It->Prop} : ∀ {xs : List IT.It},hL T G xs ↔ ∀ x ∈ xs,hI T G x
 | []=>by rw [hL]; exact ⟨fun _ x hx=>(nomatch hx),fun _=>trivial⟩
 | y :: r=>by
  rw [hL,hL_iff (xs:=r)]
  exact ⟨fun h x hx=>by
   rcases List.mem_cons.mp hx with rfl | z
   ·exact h.1
   ·exact h.2 x z,fun h=>⟨h y List.mem_cons_self,fun x hx=>h x (List.mem_cons_of_mem _ hx)⟩⟩
theorem hL_app {T : Str->Int->Int->Prop} {G : Str->List IT.It->Prop} {p q : List IT.It} (hp : hL T G p) (hq : hL T G q) : hL T G (p ++ q):=hL_iff.mpr fun x hx=>by
 rcases List.mem_append.mp hx with z | z
 ·exact hL_iff.mp hp x z
 ·exact hL_iff.mp hq x z
theorem h1 {T : Str->Int->Int->Prop} {G : Str->List IT.It->Prop} {x : IT.It} (h : hI T G x) : hL T G [x]:=by rw [hL,hL]; exact ⟨h,trivial⟩
mutual
theorem hI_mono {T : Str->Int->Int->Prop} {G G' : Str->List IT.It->Prop} (g : ∀ n xs,G n xs->G' n xs) : ∀ {x : IT.It},hI T G x->hI T G' x
 | .clip _ _ _,h=>by rw [hI] at h ⊢; exact h
 | .times _ _,h=>by rw [hI] at h ⊢; exact hL_mono g h
 | .back _,h=>by rw [hI] at h ⊢; exact hL_mono g h
 | .part _ _,h=>by rw [hI] at h ⊢; exact ⟨h.1,g _ _ h.2⟩
 | .fade _,h=>by rw [hI] at h ⊢; exact h
theorem hL_mono {T : Str->Int->Int->Prop} {G G' : Str->List IT.It->Prop} (g : ∀ n xs,G n xs->G' n xs) : ∀ {xs : List IT.It},hL T G xs->hL T G' xs
 | [],_=>by rw [hL]; trivial
 | _ :: _,h=>by rw [hL] at h ⊢; exact ⟨hI_mono g h.1,hL_mono g h.2⟩
end
mutual
theorem okI_of {T : Str->Int->Int->Prop} {G : Str->List IT.It->Prop} : ∀ {x : IT.It},hI T G x->okI Fine G x
 | .clip _ _ _,h=>by rw [hI] at h; rw [okI]; exact h.1
 | .times _ _,h=>by rw [hI] at h; rw [okI]; exact okL_of h
 | .back _,h=>by rw [hI] at h; rw [okI]; exact okL_of h
 | .part _ _,h=>by rw [hI] at h; rw [okI]; exact h.2
 | .fade _,h=>by rw [okI]; trivial
theorem okL_of {T : Str->Int->Int->Prop} {G : Str->List IT.It->Prop} : ∀ {xs : List IT.It},hL T G xs->okL Fine G xs
 | [],_=>by rw [okL]; trivial
 | _ :: _,h=>by rw [hL] at h; rw [okL]; exact ⟨okI_of h.1,okL_of h.2⟩
end
inductive Du where
 | nm (n : Str)
 | fr (n : Str) (f : Int)
 | fd
inductive Bk (prs : List (Addr × Reel)) (G G0 : Str->List IT.It->Prop) (A : Str->Prop) : List IT.It->Du->Prop
 | clipF {p q : List IT.It} {x : Addr × Reel} {f l : Int} : p = [] \/ WL p->hL (Ck prs) G p->x ∈ prs->¬ has x.2 f->Bk prs G G0 A (p ++ .clip x.2.name f l :: q) (.fr x.2.name f)
 | clipL {p q : List IT.It} {x : Addr × Reel} {f l : Int} : p = [] \/ WL p->hL (Ck prs) G p->x ∈ prs->has x.2 f->¬ has x.2 l->Bk prs G G0 A (p ++ .clip x.2.name f l :: q) (.fr x.2.name l)
 | fade {p : List IT.It} {m : Int} : p = [] \/ WL p->hL (Ck prs) G p->Bk prs G G0 A (p ++ [.fade m]) .fd
 | none {p q : List IT.It} {n : Str} {ys : List IT.It} : p = [] \/ WL p->hL (Ck prs) G p->A n->Bk prs G G0 A (p ++ .part n ys :: q) (.nm n)
 | part {p q : List IT.It} {n : Str} {ys : List IT.It} {e : Du} : p = [] \/ WL p->hL (Ck prs) G p->G0 n ys->(∀ zs,¬ G n zs)->Bk prs G G0 A ys e->Bk prs G G0 A (p ++ .part n ys :: q) e
def NoK (H : Hp) (pd : Addr) (n : Str) : Prop:=∃ kvs,Rd H pd (.dK kvs)/\valV kvs (Sum.inr n) = none
theorem NoK.ex {H H' : Hp} {pd p : Addr} {n : Str} (h : NoK H pd n) (e : Ex p H H') (ne : pd ≠ p) : NoK H' pd n:=by
 obtain ⟨k,h1,h2⟩:=h
 exact ⟨k,rde h1 ne e,h2⟩
theorem NoK.same {H H' : Hp} {pd : Addr} {n : Str} (h : NoK H pd n) (s : Same H H') : NoK H' pd n:=by
 obtain ⟨k,h1,h2⟩:=h
 exact ⟨k,rds h1 s,h2⟩
theorem NoK.get {H : Hp} {pd : Addr} {n : Str} (h : NoK H pd n) : DGet H pd (.str n) none:=by
 obtain ⟨k,h1,h2⟩:=h
 exact .inl ⟨k,.inr n,h1,rfl,h2.symm⟩
def DueX (CN CF CD : Addr) (R : Hp->Prop) (E : XK) : Du->Prop
 | .nm n=>∀ H' dx,R H'->H' dx = some (xdO dx [("name",.str n)])->E (.ref CN) (some dx) H'
 | .fr n f=>∀ H' dx,R H'->H' dx = some (xdO dx [("reel",.str n),("frame",.int f)])->E (.ref CF) (some dx) H'
 | .fd=>∀ H',R H'->E (.ref CD) none H'
theorem DueX.mono {CN CF CD : Addr} {R R' : Hp->Prop} {E : XK} {e : Du} (h : DueX CN CF CD R E e) (k : ∀ H,R' H->R H) : DueX CN CF CD R' E e:=by
 cases e with
 | nm n=>exact fun H' dx r hd=>h H' dx (k _ r) hd
 | fr n f=>exact fun H' dx r hd=>h H' dx (k _ r) hd
 | fd=>exact fun H' r=>h H' (k _ r)
end K12
set_option maxHeartbeats 2000000
namespace K12
open PySem L2 G DT
open IT hiding It
theorem cut_part (ns : List Int) (k m : Nat) (h : k + m <= ns.length) {a b : Int} (ea : a = (k : Int)) (eb : b = ((k + m : Nat) : Int)) : cutV (ns.map V.int) (some a) (some b) = ((ns.drop k).take m).map V.int:=by
 subst ea eb
 unfold cutV
 rw [HT.sIx_nat,HT.sIx_nat,List.length_map,Nat.min_eq_left (by omega),Nat.min_eq_left (by omega),show k + m - k = m by omega,<- List.map_drop,<- List.map_take]
theorem cut4 (ns : List Int) (k : Nat) (h : k + 4 <= ns.length) {a b : Int} (ea : a = (k : Int)) (eb : b = ((k + 4 : Nat) : Int)) : ∃ x y z w : Int,cutV (ns.map V.int) (some a) (some b) = [.int x,.int y,.int z,.int w]:=by
 have l : ((ns.drop k).take 4).length = 4:=by rw [List.length_take,List.length_drop]; omega
 rw [cut_part ns k 4 h ea eb]
 match e : (ns.drop k).take 4,l with
 | [x,y,z,w],_=>exact ⟨x,y,z,w,rfl⟩
theorem cut3 (ns : List Int) (k : Nat) (h : k + 3 <= ns.length) {a b : Int} (ea : a = (k : Int)) (eb : b = ((k + 3 : Nat) : Int)) : ∃ x y z : Int,cutV (ns.map V.int) (some a) (some b) = [.int x,.int y,.int z]:=by
 have l : ((ns.drop k).take 3).length = 3:=by rw [List.length_take,List.length_drop]; omega
 rw [cut_part ns k 3 h ea eb]
 match e : (ns.drop k).take 3,l with
 | [x,y,z],_=>exact ⟨x,y,z,rfl⟩
structure GIt (prs : List (Addr × Reel)) (G : Str->List IT.It->Prop) (e : Nat) (B : Int) (D : Nat) (xs : List IT.It) : Prop where
 wl : WL xs
 ok : hL (Ck prs) G xs
 cn : cnL xs <= 3 * (((9 ^ e : Nat) : Int) * B)
 dp : dpL xs <= e + D + 1
 w : wL xs <= 6 ^ (e + 1)
structure Fd (prs : List (Addr × Reel)) (G : Str->List IT.It->Prop) (e : Nat) (B : Int) (D : Nat) (H0 H' : Hp) (pf : Addr) (i b : Nat) (vs : List V) (xs : List IT.It) : Prop where
 at' : H' pf = some (.lst vs)
 ds : Tds H' vs (dL xs)
 pre : ∀ x,WI x->WL (xs ++ [x])
 ok : hL (Ck prs) G xs
 cn : cnL xs <= (i : Int) * (((9 ^ e : Nat) : Int) * B)
 dp : dpL xs <= e + D + 1
 w : wL xs <= i * (2 * 6 ^ e) + b
 same : Same H0 H'
section
variable {prs : List (Addr × Reel)} {G : Str->List IT.It->Prop} {e : Nat} {B : Int} {D : Nat} {H0 H' H2 : Hp} {pf pt : Addr} {i b : Nat} {vs : List V} {xs : List IT.It} {x : IT.It}
theorem Fd.later (h : Fd prs G e B D H0 H' pf i b vs xs) (s : Same H' H2) : Fd prs G e B D H0 H2 pf i b vs xs:=⟨s _ _ h.at',h.ds.tk (TK.of s),h.pre,h.ok,h.cn,h.dp,h.w,h.same.trans s⟩
theorem six_le {e : Nat} (he : e <= 5) : 6 ^ e <= 7776:=Nat.pow_le_pow_right (by decide) he
theorem Fd.room (h : Fd prs G e B D H0 H' pf i b vs xs) (he : e <= 5) (hi : i <= 3) (hb : b <= 1) : vs.length < sizeLine:=by
 have z:=sizeLine_eq
 have l : vs.length = xs.length:=by rw [h.ds.len,dL_map,List.length_map]
 have:=wL_len xs
 have:=h.w
 have s6:=six_le he
 have : i * (2 * 6 ^ e) <= 3 * (2 * 7776):=Nat.mul_le_mul hi (Nat.mul_le_mul_left 2 s6)
 omega
theorem Fd.fade (h : Fd prs G e B D H0 H' pf i 0 vs xs) (hpf : H0 pf = none) (hw : WL xs) {m : Int} (hm : 0 <= m) (ht : H' pt = some (.tup [.str "fade",.int m])) : Fd prs G e B D H0 (upd H' pf (.lst (vs ++ [.ref pt]))) pf i 1 (vs ++ [.ref pt]) (xs ++ [.fade m]) where
 at':=upd_same
 ds:=by
  rw [dL_app]
  refine (h.ds.tk (TK.lst h.at')).app ?_
  have:=Tds.one ((mk_fade ht).tk (TK.lst (o:=.lst (vs ++ [.ref pt])) h.at'))
  rw [dL,dL]
  exact this
 pre:=fun x hx=>by rw [List.append_assoc]; exact hw.appF (.one hx)
 ok:=hL_app h.ok (h1 (by rw [hI]; exact hm))
 cn:=by rw [cnL_app,cnL,cnL,cnI]; have:=h.cn; omega
 dp:=dpL_app h.dp (dp1 (by rw [dpI]; omega))
 w:=by rw [wL_app,wL,wL,wI]; have:=h.w; omega
 same:=fun a o ha=>by rw [upd_ne (ne_of_none ha hpf)]; exact h.same _ _ ha
theorem Fd.push (h : Fd prs G e B D H0 H' pf i b vs xs) (hb : b <= 1) (hpf : H0 pf = none) (ht : Td H' (.ref pt) (dI x)) (hx : WI x) (ho : hI (Ck prs) G x) (hc : cnI x <= ((9 ^ e : Nat) : Int) * B) (hd : dpI x <= e + D + 1) (hw : wI x + 1 <= 2 * 6 ^ e) :
  Fd prs G e B D H0 (upd H' pf (.lst (vs ++ [.ref pt]))) pf (i + 1) 0 (vs ++ [.ref pt]) (xs ++ [x])/\WL (xs ++ [x]):=by
 have wl:=h.pre x hx
 refine ⟨⟨upd_same,?_,fun y hy=>wl.app (.one hy),hL_app h.ok (h1 ho),?_,dpL_app h.dp (dp1 hd),?_,fun a o ha=>by rw [upd_ne (ne_of_none ha hpf)]; exact h.same _ _ ha⟩,wl⟩
 ·rw [dL_app]
  refine (h.ds.tk (TK.lst h.at')).app ?_
  have:=Tds.one (ht.tk (TK.lst (o:=.lst (vs ++ [.ref pt])) h.at'))
  rw [dL,dL]
  exact this
 ·rw [cnL_app,cnL,cnL]
  have:=h.cn
  have e1 : ((i + 1 : Nat) : Int) * (((9 ^ e : Nat) : Int) * B) = (i : Int) * (((9 ^ e : Nat) : Int) * B) + ((9 ^ e : Nat) : Int) * B:=by rw [Int.natCast_add,Int.add_mul]; simp
  omega
 ·rw [wL_app,wL,wL]
  have:=h.w
  have e1 : (i + 1) * (2 * 6 ^ e) = i * (2 * 6 ^ e) + 2 * 6 ^ e:=by rw [Nat.add_mul,Nat.one_mul]
  omega
end
section
variable {P : Program} {w : World} {K : PySem.W.Frag} {mg : Str->Option Value} {base : Heap}
def spItems (d : Nat) : Sp:=fun vs H Q _=>∃ (e : Nat) (c : Int) (lr lp : Addr) (prs : List (Addr × Reel)) (ss : List Str) (G : Str->List IT.It->Prop) (B : Int) (D : Nat),e <= d/\vs = [.int c,.int (e : Int),.ref lr,.ref lp]/\RL H lr prs/\1 <= prs.length/\H lp = some (.lst (ss.map V.str))/\1 <= B /\
 (∀ s ∈ ss,Fine s/\∃ ys,G s ys/\WL ys/\cnL ys <= B/\dpL ys <= D)/\∀ p xs H',Same H H'->Td H' (.ref p) (.tuple (dL xs))->GIt prs G e B D xs->Q (.ref p) H'
def spItemsP : Nat->Sp
 | 0=>fun _ _ _ _=>False
 | d + 1=>spItems d
theorem spItemsP_of {d : Nat} {vs : List V} {H : Hp} {Q : VK} {E : XK} (h : 0 < d) (z : spItems (d - 1) vs H Q E) : spItemsP d vs H Q E:=by
 cases d with
 | zero=>exact absurd h (Nat.lt_irrefl _)
 | succ d=>exact z
theorem goAnd {c T A' : Prop} [Decidable c] {B : Hp->Prop} {H H0 : Hp} (hB : ∀ H',Same H0 H'->B H') (s : Same H0 H) (hT : (∀ H',Same H0 H'->B H')->c->T) : if c then T else (if false = true then A' else B H) :=
 ite2 (hT hB) fun _=>iteF (hB H s)
theorem lay_strs : ∀ {ss : List Str},(∀ s ∈ ss,Fine s)->PyData.canLayAll0 (ss.map PyData.str) = true
 | [],_=>rfl
 | s :: r,h=>by
  have h1 : (PyData.str s).canLay0 = true:=by simpa [PyData.canLay0] using h s (List.mem_cons_self ..)
  rw [List.map_cons,PyData.canLayAll0,h1,lay_strs fun x hx=>h x (List.mem_cons_of_mem _ hx)]
  rfl
theorem dep_strs : ∀ ss : List Str,PyData.depthAll (ss.map PyData.str) = 0
 | []=>by simp [PyData.depthAll]
 | s :: r=>by simp [PyData.depthAll,PyData.depth,dep_strs r]
theorem den_strs {H : Hp} : ∀ ss : List Str,DenAll K H (ss.map V.str) (ss.map PyData.str)
 | []=>.nil
 | s :: r=>.cons (.str s) (den_strs r)
theorem scItems : FnScope ["_law_cell_here", "_law_deep", "_law_reels_here", "_law_parts", "_law_xs", "_law_found", "_law_k", "_law_kind", "_law_reel", "_law_first", "_law_last", "_law_fade", "_law_inner", "_law_times", "_law_name", "_law_letters", "_law_start", "_law_many", "_law_some", "_law_end"] ["_law_cell_here", "_law_deep", "_law_reels_here", "_law_parts"] (defScope s__law_items):=⟨rfl,rfl,rfl,by decide +kernel,rfl,by decide +kernel,by decide +kernel⟩
theorem ok_items {d : Nat} (hd5 : d <= 5) {f : Addr} {fd : FuncData} (F : Fun K "_law_items" "_law_items" s__law_items f fd) (dNum : Def P w K mg base CX0 "_law_numbers" 1 ["_law_cell_here", "_law_many"] spNum) (dItems : Def P w K mg base CX0 "_law_items" (d + 1) ["_law_cell_here", "_law_deep", "_law_reels_here", "_law_parts"] (spItemsP d))
  (n_range : mg "range" = none) (n_len : mg "len" = none) (n_min : mg "min" = none) (n_max : mg "max" = none) (n_tuple : mg "tuple" = none) : FnOk P w K mg base CX0 (d + 2) f fd ["_law_cell_here", "_law_deep", "_law_reels_here", "_law_parts"] (spItems d):=by
 refine F.ok scItems (fun vs H Q E h=>?_) (fun cdv A outer s H vs Q E hr h=>?_)
 ·obtain ⟨e,c,lr,lp,prs,ss,G,B,D,_,rfl,_⟩:=h
  rfl
 obtain ⟨e,c,lr,lp,prs,ss,G,B,D,hed,rfl,rl,hp1,hlp,hB,hss,q⟩:=h
 refine useQ (ss_cons (s_set (i:=4) scItems.nd (e_call dNum hr pass0 (a_cons (e_v 0) (a_cons e_int a_nil)) (hj:=by omega)))
  (ss_cons (s_set (i:=5) scItems.nd (e_lst a_nil))
  (ss_cons (s_for PassesOwn.never rfl (i_rng1 n_range (e_op op_add e_int (e_op op_mod (e_ix ix_list (e_v 4) e_int) e_int))) (g_name (i:=6) scItems.nd)
   (ss_cons (s_asg (e_sl sl_list (e_v 4) (o_some (e_op op_add (e_op op_mul e_int (e_v 6)) e_int)) (o_some (e_op op_add (e_op op_mul e_int (e_v 6)) e_int))) (g_tupL rfl (gs_cons (g_name (i:=7) scItems.nd) (gs_cons (g_name (i:=8) scItems.nd) (gs_cons (g_name (i:=9) scItems.nd) (gs_cons (g_name (i:=10) scItems.nd) gs_nil))))))
   (ss_cons (s_asg (e_sl sl_list (e_v 4) (o_some (e_op op_add (e_op op_mul e_int (e_v 6)) e_int)) (o_some (e_op op_add (e_op op_mul e_int (e_v 6)) e_int))) (g_tupL rfl (gs_cons (g_name (i:=11) scItems.nd) (gs_cons (g_name (i:=12) scItems.nd) (gs_cons (g_name (i:=13) scItems.nd) gs_nil)))))
   (ss_cons (s_cut (s_if (t_w (w_and (t_cmp op_gt (e_v 6) e_int) (w_and1 (t_cmp op_eq (e_op op_mod (e_v 11) e_int) e_int))))
    (ss_one (s_expr (e_append (e_v 5) (e_tup (a_cons e_str (a_cons (e_op op_add e_int (e_op op_mod (e_op op_fdiv (e_v 11) e_int) e_int)) a_nil))))))
    ss_nil))
   (ss_cons (s_asg (e_ix ix_list (e_v 2) (e_op op_mod (e_v 8) (e_b call_len_seq n_len PySem.boot_len (a_cons (e_v 2) a_nil)))) (g_tup rfl (gs_cons (g_name (i:=14) scItems.nd) (gs_cons (g_name (i:=15) scItems.nd) (gs_cons (g_name (i:=16) scItems.nd) (gs_cons (g_name (i:=17) scItems.nd) gs_nil))))))
   (ss_one (s_if (t_w (w_and (t_cmp op_eq (e_op op_mod (e_v 7) e_int) e_int) (w_and1 (t_cmp (op_neD hr) (e_v 3) (e_lst a_nil)))))
    (ss_one (s_expr (e_append (e_v 5) (e_tup (a_cons e_str (a_cons (e_ix ix_list (e_v 3) (e_op op_mod (e_op op_fdiv (e_v 7) e_int) (e_b call_len_seq n_len PySem.boot_len (a_cons (e_v 3) a_nil)))) a_nil))))))
    (ss_one (s_if (t_w (w_and (t_cmp op_eq (e_op op_mod (e_v 7) e_int) e_int) (w_and1 (t_cmp op_gt (e_v 1) e_int))))
     (ss_cons (s_set (i:=18) scItems.nd (e_call dItems hr pass0 (a_cons (e_v 12) (a_cons (e_op op_sub (e_v 1) e_int) (a_cons (e_v 2) (a_cons (e_v 3) a_nil)))) (hj:=by omega)))
     (ss_one (s_expr (e_append (e_v 5) (e_tup (a_cons e_str (a_cons (e_op op_add e_int (e_op op_mod (e_v 13) e_int)) (a_cons (e_v 18) a_nil))))))))
     (ss_one (s_if (t_w (w_and (t_cmp op_eq (e_op op_mod (e_v 7) e_int) e_int) (w_and1 (t_cmp op_gt (e_v 1) e_int))))
      (ss_cons (s_set (i:=18) scItems.nd (e_call dItems hr pass0 (a_cons (e_v 12) (a_cons (e_op op_sub (e_v 1) e_int) (a_cons (e_v 2) (a_cons (e_v 3) a_nil)))) (hj:=by omega)))
      (ss_one (s_expr (e_append (e_v 5) (e_tup (a_cons e_str (a_cons (e_v 18) a_nil)))))))
      (ss_cons (s_set (i:=19) scItems.nd (e_b (call_min2 rfl) n_min (by decide +kernel) (a_cons (e_op op_sub (e_v 17) e_int) (a_cons (e_b (call_max2 rfl) n_max (by decide +kernel) (a_cons e_int (a_cons (e_op op_sub (e_op op_add (e_op op_mod (e_v 9) (e_v 17)) (e_op op_mod (e_v 10) e_int)) e_int) a_nil))) a_nil))))
      (ss_one (s_expr (e_append (e_v 5) (e_tup (a_cons e_str (a_cons (e_v 14) (a_cons (e_op op_mod (e_v 9) (e_v 17)) (a_cons (e_v 19) a_nil))))))))))))))))))))
  (ss_one (s_ret (e_t call_tuple_of n_tuple (by decide +kernel) (a_cons (e_v 5) a_nil))))))) ?_
 have zl : sizeLine = 16777216:=sizeLine_eq
 have he5 : e <= 5:=by omega
 have p6 : 1 <= 6 ^ e:=Nat.pow_pos (by decide)
 have p9 : 1 <= 9 ^ e:=Nat.pow_pos (by decide)
 have pB : B <= ((9 ^ e : Nat) : Int) * B:=by
  have : (1 : Int) * B <= ((9 ^ e : Nat) : Int) * B:=Int.mul_le_mul_of_nonneg_right (by omega) (by omega)
  omega
 refine ⟨_,rfl,c,22,rfl,by decide,fun px ns H1 s1 hl hpx0 hpx=>?_⟩
 refine ⟨(by show 0 <= sizeLine; decide),fun pf hpf=>?_⟩
 have sf:=Same.new hpf (.lst [])
 have hpf0 : H pf = none:=s1.free hpf
 have npf : px ≠ pf:=ne_of_none hpx hpf
 have k0 : 0 < ns.length:=by omega
 refine ⟨_,rfl,px,_,_,_,rfl,rfl,SqL.of (sf _ _ hpx),atI_nat (j:=0) (get_int k0),_,_,rfl,rfl,(by show (0 : Int) < 3; decide),_,_,rfl,rfl,_,rfl,by omega,by omega,
  for_range (lo:=0) (n:=(1 + ns[0] % 3).toNat) (fun i σ H'=>∃ (xs : List IT.It) (vs : List V) (o6 o7 o8 o9 o10 o11 o12 o13 o14 o15 o16 o17 o18 o19 : Option V),σ = [some (.int c),some (.int (e : Int)),some (.ref lr),some (.ref lp),some (.ref px),some (.ref pf),o6,o7,o8,o9,o10,o11,o12,o13,o14,o15,o16,o17,o18,o19]/\Fd prs G e B D H H' pf i 0 vs xs/\H' px = some (.lst (ns.map V.int))/\(i ≠ 0->WL xs))
  ⟨[],[],none,none,none,none,none,none,none,none,none,none,none,none,none,none,rfl,⟨upd_same,(by rw [dL]; exact .nil),fun x hx=>.one hx,(by rw [hL]; trivial),(by rw [cnL]; simp),(by rw [dpL]; omega),(by rw [wL]; omega),s1.trans sf⟩,sf _ _ hpx,fun z=>absurd rfl z⟩ ?_ ?_⟩
 ·rintro i σ H' hi ⟨xs,vs,o6,o7,o8,o9,o10,o11,o12,o13,o14,o15,o16,o17,o18,o19,rfl,fd,hpx,hwl⟩
  have hi3 : i < 3:=by omega
  obtain ⟨vk,vr,vf,vl,e4⟩:=cut4 ns (7 * i + 1) (by omega) (a:=7 * (0 + (i : Int)) + 1) (b:=7 * (0 + (i : Int)) + 5) (by omega) (by omega)
  obtain ⟨wf,wi,wt,e3⟩:=cut3 ns (7 * i + 5) (by omega) (a:=7 * (0 + (i : Int)) + 5) (b:=7 * (0 + (i : Int)) + 8) (by omega) (by omega)
  refine ⟨_,rfl,_,rfl,_,_,rfl,rfl,.inl ⟨by decide,by decide⟩,_,_,rfl,rfl,_,rfl,_,rfl,_,_,rfl,rfl,.inl ⟨by decide,by decide⟩,_,_,rfl,rfl,_,rfl,px,_,rfl,SqL.of hpx,fun p4 hp4=>⟨p4,[.int vk,.int vr,.int vf,.int vl],rfl,SqL.of (by rw [<- e4]; exact upd_same),rfl,_,_,rfl,_,_,rfl,_,_,rfl,_,_,rfl,rfl,?_⟩⟩
  have t4:=Same.new hp4 (.lst (cutV (ns.map V.int) (some (7 * (0 + (i : Int)) + 1)) (some (7 * (0 + (i : Int)) + 5))))
  have hpx4:=t4 _ _ hpx
  refine ⟨_,rfl,_,rfl,_,_,rfl,rfl,.inl ⟨by decide,by decide⟩,_,_,rfl,rfl,_,rfl,_,rfl,_,_,rfl,rfl,.inl ⟨by decide,by decide⟩,_,_,rfl,rfl,_,rfl,px,_,rfl,SqL.of hpx4,fun p3 hp3=>⟨p3,[.int wf,.int wi,.int wt],rfl,SqL.of (by rw [<- e3]; exact upd_same),rfl,_,_,rfl,_,_,rfl,_,_,rfl,rfl,?_⟩⟩
  have t3:=Same.new hp3 (.lst (cutV (ns.map V.int) (some (7 * (0 + (i : Int)) + 5)) (some (7 * (0 + (i : Int)) + 8))))
  have fd:=fd.later (t4.trans t3)
  have hpx:=t3 _ _ hpx4
  generalize (upd (upd H' p4 (.lst (cutV (ns.map V.int) (some (7 * (0 + (i : Int)) + 1)) (some (7 * (0 + (i : Int)) + 5))))) p3 (.lst (cutV (ns.map V.int) (some (7 * (0 + (i : Int)) + 5)) (some (7 * (0 + (i : Int)) + 8))))) = H2 at fd hpx
  refine ⟨fun σ' H3=>∃ (xs2 : List IT.It) (vs2 : List V) (b : Nat),b <= 1/\σ' = [some (.int c),some (.int (e : Int)),some (.ref lr),some (.ref lp),some (.ref px),some (.ref pf),some (.int (0 + (i : Int))),some (.int vk),some (.int vr),some (.int vf),some (.int vl),some (.int wf),some (.int wi),some (.int wt),o14,o15,o16,o17,o18,o19]/\Fd prs G e B D H H3 pf i b vs2 xs2/\H3 px = some (.lst (ns.map V.int)),?_,?_⟩
  ·refine ⟨_,rfl,_,_,rfl,rfl,_,rfl,?_⟩
   refine ite2 (fun c1=>?_) (fun _=>iteF ⟨xs,vs,0,by decide,rfl,fd,hpx⟩)
   refine ⟨_,rfl,_,_,rfl,rfl,(by show (0 : Int) < 4; decide),rfl,_,rfl,?_⟩
   refine ite2 (fun c2=>?_) (fun _=>⟨xs,vs,0,by decide,rfl,fd,hpx⟩)
   have hi0 : i ≠ 0:=by
    have:=of_decide_eq_true c1
    omega
   refine ⟨_,rfl,.inl ⟨rfl,_,SqL.of fd.at'⟩,_,rfl,_,_,rfl,rfl,⟨by decide,by decide⟩,_,_,rfl,rfl,(by show (0 : Int) < 3; decide),_,_,rfl,rfl,(by show 2 <= sizeLine; decide),fun pt hpt=>?_⟩
   have fd2:=fd.later (Same.new hpt (.tup [.str "fade",.int (1 + wf / 4 % 3)]))
   refine ⟨pf,_,_,rfl,rfl,fd2.at',fd2.room he5 (by omega) (by decide),xs ++ [.fade (1 + wf / 4 % 3)],_,1,by decide,rfl,fd2.fade hpf0 (hwl hi0) (by omega) upd_same,?_⟩
   rw [upd_ne npf]
   exact Same.new hpt _ _ _ hpx
  rintro σ H3 ⟨xs2,vs2,b,hb,rfl,fd,hpx⟩
  have rl3:=rl.same fd.same
  have lenp : (prs.map fun x=>V.ref x.1).length = prs.length:=List.length_map ..
  have hpos : (0 : Int) < (((prs.map fun x=>V.ref x.1).length : Nat) : Int):=by rw [lenp]; omega
  obtain ⟨v,hv,hvm⟩:=at_list (xs:=prs.map fun x=>V.ref x.1) (i:=vr % (((prs.map fun x=>V.ref x.1).length : Nat) : Int)) (Int.emod_nonneg _ (by omega)) (Int.emod_lt_of_pos _ hpos)
  obtain ⟨y,hy,rfl⟩:=List.mem_map.mp hvm
  obtain ⟨hyt,yok⟩:=rl3.2 y hy
  have m1:=yok.m1
  have hI3 : i <= 3:=by omega
  refine ⟨_,rfl,_,rfl,_,rfl,lr,_,rfl,.inl (SqL.of rl3.1),_,_,rfl,rfl,hpos,lr,_,_,_,rfl,rfl,SqL.of rl3.1,hv,y.1,_,rfl,SqT.of hyt,rfl,_,_,rfl,_,_,rfl,_,_,rfl,_,_,rfl,rfl,?_⟩
  refine ⟨_,rfl,_,_,rfl,rfl,(by show (0 : Int) < 8; decide),rfl,_,rfl,goAnd (H0:=H3) ?e1 (Same.refl _) fun hE c1=>?t1⟩
  case t1 =>
   refine ⟨_,rfl,(by show 0 <= sizeLine; decide),fun p0 hp0=>?_⟩
   have t0:=Same.new hp0 (.lst [])
   have hlp4:=t0 _ _ (fd.same _ _ hlp)
   refine ⟨.list (ss.map PyData.str),.list [],.lst (SqL.of hlp4) (den_strs ss),.lst (SqL.of upd_same) .nil,(by rw [PyData.canLay0]; exact lay_strs fun s hs=>(hss s hs).1),rfl,Nat.le_trans (Nat.min_le_left _ _) (by rw [PyData.depth,dep_strs]; decide),_,rfl,?_⟩
   cases ss with
   | nil=>exact iteN (by rw [List.map_nil,PySem.SeqAt.eqv_refl _ rfl]; rfl) (hE _ t0)
   | cons s0 sr =>
    refine iteY rfl ?_
    have hpos2 : (0 : Int) < ((((s0 :: sr).map V.str).length : Nat) : Int):=by rw [List.length_map,List.length_cons]; omega
    obtain ⟨v2,hv2,hvm2⟩:=at_list (xs:=(s0 :: sr).map V.str) (i:=vk / 8 % ((((s0 :: sr).map V.str).length : Nat) : Int)) (Int.emod_nonneg _ (by omega)) (Int.emod_lt_of_pos _ hpos2)
    obtain ⟨pn,hpn,rfl⟩:=List.mem_map.mp hvm2
    obtain ⟨_,ys,hG,hwy,hcy,hdy⟩:=hss pn hpn
    have fd4:=fd.later t0
    refine ⟨_,rfl,.inl ⟨rfl,_,SqL.of fd4.at'⟩,_,rfl,_,rfl,_,_,rfl,rfl,⟨by decide,by decide⟩,_,rfl,lp,_,rfl,.inl (SqL.of hlp4),_,_,rfl,rfl,hpos2,lp,_,_,_,rfl,rfl,SqL.of hlp4,hv2,(by show 2 <= sizeLine; decide),fun pt hpt=>?_⟩
    have tt:=Same.new hpt (.tup [.str "part",.str pn])
    have fd5:=fd4.later tt
    obtain ⟨n1,n2⟩:=fd5.push (x:=.part pn ys) hb hpf0 (mk_part upd_same) (.part hwy) (by rw [hI]; exact ⟨(hss pn hpn).1,hG⟩) (by rw [cnI]; omega) (by rw [dpI]; omega) (by rw [wI]; omega)
    exact ⟨pf,_,_,rfl,rfl,fd5.at',fd5.room he5 hI3 hb,_,_,_,_,_,_,_,_,_,_,_,_,_,_,_,_,rfl,n1,(by rw [upd_ne npf]; exact tt _ _ (t0 _ _ hpx)),fun _=>n2⟩
  case e1 =>
   intro H4 t4
   refine ⟨_,rfl,_,_,rfl,rfl,(by show (0 : Int) < 8; decide),rfl,_,rfl,goAnd (H0:=H4) ?e2 (Same.refl _) fun hE c1=>?t2⟩
   case t2 =>
    refine ⟨_,rfl,_,_,rfl,rfl,_,rfl,?_⟩
    refine ite2 (fun c2=>?_) (fun _=>hE _ (Same.refl _))
    have he1 : 1 <= e:=by
     have:=of_decide_eq_true c2
     omega
    have fd4:=fd.later t4
    refine ⟨_,rfl,_,rfl,_,_,rfl,rfl,_,rfl,_,rfl,spItemsP_of (by omega) ⟨e - 1,wi,lr,lp,prs,ss,G,B,D,by omega,(by rw [show ((e - 1 : Nat) : Int) = (e : Int) - 1 by omega]; rfl),rl3.same t4,hp1,fd4.same _ _ hlp,hB,hss,fun p ys H5 s5 hp gi=>?_⟩⟩
    have fd5:=fd4.later s5
    refine ⟨_,rfl,.inl ⟨rfl,_,SqL.of fd5.at'⟩,_,rfl,_,_,rfl,rfl,(by show (0 : Int) < 3; decide),_,_,rfl,rfl,_,rfl,(by show 3 <= sizeLine; decide),fun pt hpt=>?_⟩
    have tt:=Same.new hpt (.tup [.str "times",.int (1 + wt % 3),.ref p])
    have fd6:=fd5.later tt
    have g1:=gi.cn
    have g2:=gi.dp
    have g3:=gi.w
    rw [show e - 1 + 1 = e by omega] at g3
    have q6 : 6 <= 6 ^ e:=Nat.pow_le_pow_right (n:=6) (by decide) he1
    have q9 : ((9 ^ e : Nat) : Int) * B = 9 * (((9 ^ (e - 1) : Nat) : Int) * B):=by
     have z : 9 ^ e = 9 * 9 ^ (e - 1):=by rw [<- Nat.pow_succ',Nat.succ_eq_add_one,show e - 1 + 1 = e by omega]
     rw [z,Int.natCast_mul,Int.mul_assoc]
     rfl
    have c0:=cn_posL gi.wl
    have c3 : (1 + wt % 3) * cnL ys <= 3 * cnL ys:=Int.mul_le_mul_of_nonneg_right (by omega) (by omega)
    obtain ⟨n1,n2⟩:=fd6.push (x:=.times (1 + wt % 3) ys) hb hpf0 (mk_times upd_same (hp.tk (TK.of tt))) (.times (by omega) (by omega) gi.wl) (by rw [hI]; exact gi.ok) (by rw [cnI]; omega) (by rw [dpI]; omega) (by rw [wI]; omega)
    exact ⟨pf,_,_,rfl,rfl,fd6.at',fd6.room he5 hI3 hb,_,_,_,_,_,_,_,_,_,_,_,_,_,_,_,_,rfl,n1,(by rw [upd_ne npf]; exact tt _ _ (s5 _ _ (t4 _ _ hpx))),fun _=>n2⟩
   case e2 =>
    intro H5 t5
    have t5:=t4.trans t5
    refine ⟨_,rfl,_,_,rfl,rfl,(by show (0 : Int) < 8; decide),rfl,_,rfl,goAnd (H0:=H5) ?e3 (Same.refl _) fun hE c1=>?t3⟩
    case t3 =>
     refine ⟨_,rfl,_,_,rfl,rfl,_,rfl,?_⟩
     refine ite2 (fun c2=>?_) (fun _=>hE _ (Same.refl _))
     have he1 : 1 <= e:=by
      have:=of_decide_eq_true c2
      omega
     have fd4:=fd.later t5
     refine ⟨_,rfl,_,rfl,_,_,rfl,rfl,_,rfl,_,rfl,spItemsP_of (by omega) ⟨e - 1,wi,lr,lp,prs,ss,G,B,D,by omega,(by rw [show ((e - 1 : Nat) : Int) = (e : Int) - 1 by omega]; rfl),rl3.same t5,hp1,fd4.same _ _ hlp,hB,hss,fun p ys H5 s5 hp gi=>?_⟩⟩
     have fd5:=fd4.later s5
     refine ⟨_,rfl,.inl ⟨rfl,_,SqL.of fd5.at'⟩,_,rfl,(by show 2 <= sizeLine; decide),fun pt hpt=>?_⟩
     have tt:=Same.new hpt (.tup [.str "back",.ref p])
     have fd6:=fd5.later tt
     have g1:=gi.cn
     have g2:=gi.dp
     have g3:=gi.w
     rw [show e - 1 + 1 = e by omega] at g3
     have q6 : 6 <= 6 ^ e:=Nat.pow_le_pow_right (n:=6) (by decide) he1
     have q9 : ((9 ^ e : Nat) : Int) * B = 9 * (((9 ^ (e - 1) : Nat) : Int) * B):=by
      have z : 9 ^ e = 9 * 9 ^ (e - 1):=by rw [<- Nat.pow_succ',Nat.succ_eq_add_one,show e - 1 + 1 = e by omega]
      rw [z,Int.natCast_mul,Int.mul_assoc]
      rfl
     have c0:=cn_posL gi.wl
     obtain ⟨n1,n2⟩:=fd6.push (x:=.back ys) hb hpf0 (mk_back upd_same (hp.tk (TK.of tt))) (.back gi.wl) (by rw [hI]; exact gi.ok) (by rw [cnI]; omega) (by rw [dpI]; omega) (by rw [wI]; omega)
     exact ⟨pf,_,_,rfl,rfl,fd6.at',fd6.room he5 hI3 hb,_,_,_,_,_,_,_,_,_,_,_,_,_,_,_,_,rfl,n1,(by rw [upd_ne npf]; exact tt _ _ (s5 _ _ (t5 _ _ hpx))),fun _=>n2⟩
    case e3 =>
     intro H6 t6
     have t6:=t5.trans t6
     have fd4:=fd.later t6
     refine ⟨_,rfl,_,_,rfl,rfl,_,rfl,_,rfl,_,_,rfl,rfl,(by show (0 : Int) < y.2.many; omega),_,rfl,_,_,rfl,rfl,(by show (0 : Int) < 13; decide),_,_,rfl,rfl,_,_,rfl,rfl,_,_,rfl,_,_,rfl,?_⟩
     refine ⟨_,rfl,.inl ⟨rfl,_,SqL.of fd4.at'⟩,_,rfl,_,rfl,_,rfl,_,_,rfl,rfl,(by show (0 : Int) < y.2.many; omega),_,rfl,(by show 4 <= sizeLine; decide),fun pt hpt=>?_⟩
     have np:=fun (en : Int) (hen : 0 <= en/\en < y.2.many)=>(fd4.later (Same.new hpt (.tup [.str "clip",.str y.2.name,.int (vf % y.2.many),.int en]))).push (x:=.clip y.2.name (vf % y.2.many) en) hb hpf0 (mk_clip upd_same) .clip (by rw [hI]; exact ⟨yok.nf,y,hy,rfl,Int.emod_nonneg _ (by omega),Int.emod_lt_of_pos _ (by omega),hen.1,hen.2⟩) (by rw [cnI]; omega) (by rw [dpI]; omega) (by rw [wI]; omega)
     have hen : 0 <= (if (if (0 : Int) < vf % y.2.many + vl % 13 - 6 then vf % y.2.many + vl % 13 - 6 else 0) < y.2.many - 1 then (if (0 : Int) < vf % y.2.many + vl % 13 - 6 then vf % y.2.many + vl % 13 - 6 else 0) else y.2.many - 1)/\(if (if (0 : Int) < vf % y.2.many + vl % 13 - 6 then vf % y.2.many + vl % 13 - 6 else 0) < y.2.many - 1 then (if (0 : Int) < vf % y.2.many + vl % 13 - 6 then vf % y.2.many + vl % 13 - 6 else 0) else y.2.many - 1) < y.2.many:=by
      constructor <;> (split <;> (try split) <;> omega)
     exact ⟨pf,_,_,rfl,rfl,(fd4.later (Same.new hpt _)).at',fd4.room he5 hI3 hb,_,_,_,_,_,_,_,_,_,_,_,_,_,_,_,_,rfl,(np _ hen).1,(by rw [upd_ne npf]; exact Same.new hpt _ _ _ (t6 _ _ hpx)),fun _=>(np _ hen).2⟩
 ·rintro σ H' ⟨xs,vs,o6,o7,o8,o9,o10,o11,o12,o13,o14,o15,o16,o17,o18,o19,rfl,fd,hpx,hwl⟩
  have hn : (1 + ns[0] % 3).toNat <= 3:=by omega
  have hn1 : (1 + ns[0] % 3).toNat ≠ 0:=by omega
  refine ⟨_,rfl,pf,_,rfl,.inl ⟨SqL.of fd.at',fun p hp=>?_⟩⟩
  refine q p xs _ (fd.same.trans (Same.new hp _)) (.tup upd_same (fd.ds.tk (TK.new hp _))) ⟨hwl hn1,fd.ok,?_,fd.dp,?_⟩
  ·have:=fd.cn
   have z : (((1 + ns[0] % 3).toNat : Nat) : Int) * (((9 ^ e : Nat) : Int) * B) <= 3 * (((9 ^ e : Nat) : Int) * B):=Int.mul_le_mul_of_nonneg_right (by omega) (by omega)
   omega
  ·have:=fd.w
   have z : (1 + ns[0] % 3).toNat * (2 * 6 ^ e) <= 3 * (2 * 6 ^ e):=Nat.mul_le_mul_right _ hn
   rw [Nat.pow_succ]
   omega
end
end K12
set_option maxHeartbeats 2000000
namespace K12
open PySem L2 G DT
open IT hiding It
theorem nd_put {kvs : List (Key × V)} {k : Key} (v : V) (hn : (kvs.map (·.1)).Nodup) : ((putK kvs k v).map (·.1)).Nodup:=by
 cases z : valV kvs k with
 | none=>exact nd_putK v hn z
 | some u =>
  unfold putK
  split
  ·rw [List.map_map]
   have e : ((fun x : Key × V=>x.1) ∘ fun kv : Key × V=>if kv.1 = k then (kv.1,v) else kv) = fun x=>x.1:=by
    funext p
    dsimp only [Function.comp]
    split <;> rfl
   rw [e]
   exact hn
  ·rename_i h
   rw [<- putK_new v (by
    cases q : valV kvs k with
    | none=>rfl
    | some x=>rw [valV_any,q] at h; exact (h rfl).elim)]
   exact nd_putK v hn (by
    cases q : valV kvs k with
    | none=>rfl
    | some x=>rw [valV_any,q] at h; exact (h rfl).elim)
theorem Wk.put {G : Str->List IT.It->Prop} {N : Str->Prop} {ns : List Str} {n0 n1 : Nat} {wk : List (Key × V)} {n : Str} {b : Bool} (h : Wk G N ns n0 wk) (hn : n ∈ ns) (l : n1 <= n0) (hb : b = true->∀ zs,G n zs->n1 <= dpL zs) (hf : b = false->N n) : Wk G N ns n1 (putK wk (.inr n) (.bl b)):=by
 refine ⟨nd_put _ h.nd,fun k hk=>?_,fun m v hv=>?_,fun m hm zs g=>?_,fun m hm=>?_⟩
 ·rcases putK_keys k hk with rfl | z
  ·exact List.mem_map.mpr ⟨n,hn,rfl⟩
  ·exact h.sub k z
 ·rw [valV_put] at hv
  split at hv
  ·cases hv
   cases b
   ·exact .inr rfl
   ·exact .inl rfl
  ·exact h.bl m v hv
 ·rw [valV_put] at hm
  split at hm
  ·rename_i e
   cases e
   cases hm
   exact hb rfl zs g
  ·exact Nat.le_trans l (h.way m hm zs g)
 ·rw [valV_put] at hm
  split at hm
  ·rename_i e
   cases e
   cases hm
   exact hf rfl
  ·exact h.fin m hm
theorem Wk.later {G : Str->List IT.It->Prop} {N : Str->Prop} {ns : List Str} {n0 : Nat} {wk wk' : List (Key × V)} (h : Wk G N ns n0 wk) (k : Wk G N ns 0 wk') (t : ∀ m,valV wk' (.inr m : Key) = some (.bl true)->valV wk (.inr m : Key) = some (.bl true)) : Wk G N ns n0 wk':=⟨k.nd,k.sub,k.bl,fun n e zs g=>h.way n (t n e) zs g,k.fin⟩
def isFd : Option IT.It->Bool
 | some (.fade _)=>true
 | _=>false
section
variable {P : Program} {w : World} {K : PySem.W.Frag} {mg : Str->Option Value} {base : Heap}
def spLClip (CF : Addr) : Sp:=fun vs H Q E=>∃ (c lr : Addr) (prs : List (Addr × Reel)) (x : Addr × Reel) (f l : Int),vs = [.ref c,.ref lr]/\H c = some (.tup [.str "clip",.str x.2.name,.int f,.int l])/\RL H lr prs/\Uq prs/\x ∈ prs/\(has x.2 f->has x.2 l->∀ H',Same H H'->Q .non H') /\
 (∀ g,(g = f/\¬ has x.2 f) \/ (g = l/\has x.2 f/\¬ has x.2 l)->∀ H' dx,Same H H'->H' dx = some (xdO dx [("reel",.str x.2.name),("frame",.int g)])->E (.ref CF) (some dx) H')
theorem scLClip : FnScope ["clip", "reels", "reel", "frame"] ["clip", "reels"] (defScope s_look_at_clip):=⟨rfl,rfl,rfl,by decide +kernel,rfl,by decide +kernel,by decide +kernel⟩
theorem ok_lclip {f CN CF fI : Addr} {fd fdI : FuncData} (F : Fun K "look_at_clip" "look_at_clip" s_look_at_clip f fd) (dNamed : Def P w K mg base (CX1 P w) "reel_named" 3 ["reels", "name"] (spNamed CN)) (dHasF : Def P w K mg base CX0 "has_frame" 2 ["reel", "frame"] spHasF)
  (m_NoFrame : mg "NoFrame" = some (.ref CF)) (R_NoFrame : XRaise K CF fI) (G_NoFrame : FnOk P w K mg base CX0 1 fI fdI ["self", "reel", "frame"] (spInit2 CF)) (b_NoFrame : Binds K fdI ["self", "reel", "frame"] []) :
  FnOk P w K mg base (CX1 P w) 4 f fd ["clip", "reels"] (spLClip CF):=by
 refine F.okX scLClip (fun vs H Q E h=>?_) (fun cdv A outer s H vs Q E hr h=>?_)
 ·obtain ⟨c,lr,prs,r,f,l,rfl,_⟩:=h
  rfl
 obtain ⟨c,lr,prs,x0,f,l,rfl,hc,rl,uq,hx0,q,e⟩:=h
 refine useQ (ss_cons (s_set (i:=2) scLClip.nd (e_call dNamed hr passX (a_cons (e_v 1) (a_cons (e_ix ix_tup (e_v 0) e_int) a_nil))))
  (ss_one (s_for PassesOwn.leaving rfl (i_tup (e_sl sl_tupG (e_v 0) (o_some e_int) o_none)) (g_name (i:=3) scLClip.nd)
   (ss_one (s_if (t_not (t_val (e_call dHasF hr pass0 (a_cons (e_v 2) (a_cons (e_v 3) a_nil)))))
    (ss_one (s_raiseI m_NoFrame R_NoFrame G_NoFrame hr b_NoFrame (a_cons (e_ix ix_tup (e_v 0) e_int) (a_cons (e_v 3) a_nil))))
    ss_nil))))) ?_
 refine ⟨_,rfl,_,rfl,c,_,_,_,rfl,rfl,SqT.of hc,atI_nat (j:=1) rfl,lr,prs,x0.2.name,rfl,rl,fun x hx hn H1 s1=>?_,fun hn H1 dx s1 hdx=>absurd rfl (hn x0 hx0)⟩
 have ex:=uq x hx x0 hx0 hn
 subst ex
 have hc1:=s1 _ _ hc
 refine ⟨_,rfl,_,rfl,c,_,rfl,hc1,fun pt H2 s2 hpt=>?_⟩
 have S2:=s1.trans s2
 have ecut : cutV [V.str "clip",.str x.2.name,.int f,.int l] (some 2) none = [.int f,.int l]:=rfl
 rw [ecut] at hpt
 refine ⟨pt,rfl,⟨_,SqT.of hpt⟩,for_tup (K:=K) (a:=pt) (xs:=[.int f,.int l]) (fun i σ H'=>∃ o3 : Option V,σ = [some (.ref c),some (.ref lr),some (.ref x.1),o3]/\(1 <= i->has x.2 f)/\(2 <= i->has x.2 l)/\Same H2 H') ⟨none,rfl,by intro z; omega,by intro z; omega,Same.refl _⟩ (fun i σ H' _ ⟨_,_,_,_,sm⟩=>SqT.of (sm _ _ hpt)) ?_ ?_⟩
 ·rintro i v σ H' hv ⟨o3,rfl,h1,h2,sm⟩
  have S3:=S2.trans sm
  obtain ⟨g,rfl,hg⟩ : ∃ g : Int,v = .int g/\((i = 0/\g = f) \/ (i = 1/\g = l)):=by
   match i,hv with
   | 0,hv=>cases hv; exact ⟨f,rfl,.inl ⟨rfl,rfl⟩⟩
   | 1,hv=>cases hv; exact ⟨l,rfl,.inr ⟨rfl,rfl⟩⟩
   | n + 2,hv=>cases hv
  refine ⟨_,rfl,_,rfl,x.1,x.2,g,rfl,S3 _ _ (rl.2 x hx).1,fun z=>⟨_,rfl,iteF ?_⟩,fun z=>⟨_,rfl,iteT ?_⟩⟩
  ·refine ⟨_,rfl,fun y=>?_,fun y=>?_,sm⟩
   ·rcases hg with ⟨rfl,rfl⟩ | ⟨rfl,rfl⟩
    ·exact z
    ·exact h1 (Nat.le_refl _)
   ·rcases hg with ⟨rfl,rfl⟩ | ⟨rfl,rfl⟩
    ·omega
    ·exact z
  ·have dg:=e g (by
    rcases hg with ⟨rfl,rfl⟩ | ⟨rfl,rfl⟩
    ·exact .inl ⟨rfl,z⟩
    ·exact .inr ⟨rfl,h1 (Nat.le_refl _),z⟩)
   refine ⟨_,rfl,c,_,_,_,rfl,rfl,SqT.of (S3 _ _ hc),atI_nat (j:=1) rfl,_,rfl,(by show 2 <= sizeLine; decide),fun a ha=>⟨a,_,_,rfl,upd_same,fun dx n1 n2=>⟨rfl,some dx,?_,?_⟩⟩⟩
   ·rw [upd_ne (fun z=>n2 z.symm)]
    exact upd_same
   ·obtain ⟨r1,r2⟩:=raised2 (x:=xdO dx [("reel",V.str x.2.name)]) (o':=newO a CF (some dx)) (x':=xdO dx [("reel",V.str x.2.name),("frame",V.int g)]) S3 ha n1 n2
    exact dg _ dx r1 r2
 ·rintro σ H' ⟨o3,rfl,h1,h2,sm⟩
  exact q (h1 (by show 1 <= 2; decide)) (h2 (by show 2 <= 2; decide)) H' (S2.trans sm)
def spIsF : Sp:=fun vs H Q _=>∃ (v : V) (x : IT.It),vs = [v]/\Td H v (dI x)/\Q (.bl (isF x)) H
theorem scIsF : FnScope ["item"] ["item"] (defScope s_is_fade):=⟨rfl,rfl,rfl,by decide +kernel,rfl,by decide +kernel,by decide +kernel⟩
theorem ok_isF {f : Addr} {fd : FuncData} (F : Fun K "is_fade" "is_fade" s_is_fade f fd) : FnOk P w K mg base CX0 1 f fd ["item"] spIsF:=by
 refine F.ok scIsF (fun vs H Q E h=>?_) (fun cdv A outer s H vs Q E hr h=>?_)
 ·obtain ⟨v,x,rfl,_⟩:=h
  rfl
 obtain ⟨v,x,rfl,ht,q⟩:=h
 refine useQ (ss_one (s_ret (e_cmp op_eq (e_ix ix_tup (e_v 0) e_int) e_str))) ?_
 obtain ⟨a,us,rfl,ha⟩:=td_kd ht
 rw [<- kd_fade] at q
 exact ⟨_,rfl,a,_,_,_,rfl,rfl,SqT.of ha,atI_nat (j:=0) rfl,rfl,q⟩
theorem at_item {H : Hp} {vs : List V} {xs : List IT.It} {j : Nat} {x : IT.It} (t : Tds H vs (dL xs)) (h : xs[j]? = some x) : ∃ v,vs[j]? = some v/\Td H v (dI x) :=
 t.at (by rw [dL_map,List.getElem?_map,h]; rfl)
theorem len_item {H : Hp} {vs : List V} {xs : List IT.It} (t : Tds H vs (dL xs)) : vs.length = xs.length:=by rw [t.len,dL_map,List.length_map]
theorem fade_in : ∀ {xs : List IT.It},WL xs->∀ (k : Nat) (m : Int),xs[k]? = some (.fade m)->∃ j x y,k = j + 1/\xs[j]? = some x/\xs[k + 1]? = some y/\isF x = false/\isF y = false
 | _,.one h,k,m,e=>by
  match k,e with
  | 0,e=>cases e; cases h
  | k + 1,e=>cases e
 | _,@WL.cons x r h t,k,m,e=>by
  match k,e with
  | 0,e=>cases e; cases h
  | k + 1,e =>
   obtain ⟨j,a,b,rfl,h1,h2,h3,h4⟩:=fade_in t k m e
   exact ⟨j + 1,a,b,rfl,h1,h2,h3,h4⟩
 | _,@WL.fade x m' r h t,k,m,e=>by
  match k,e with
  | 0,e=>cases e; cases h
  | 1,e =>
   obtain ⟨y,r',rfl,wy⟩:=t.head
   exact ⟨0,x,y,rfl,rfl,rfl,h.nf,wy.nf⟩
  | k + 2,e =>
   obtain ⟨j,a,b,rfl,h1,h2,h3,h4⟩:=fade_in t k m e
   exact ⟨j + 2,a,b,rfl,h1,h2,h3,h4⟩
theorem isFd_some (x : IT.It) : isFd (some x) = isF x:=by cases x <;> rfl
def fadeBad (xs : List IT.It) (k : Nat) : Prop:=k = 0 \/ k + 1 = xs.length \/ isFd xs[k - 1]? = true \/ isFd xs[k + 1]? = true
def spLFade (CD : Addr) : Sp:=fun vs H Q E=>∃ (p : Addr) (xs : List IT.It) (k : Nat),vs = [.ref p,.int (k : Int)]/\Td H (.ref p) (.tuple (dL xs))/\k < xs.length/\(¬ fadeBad xs k->∀ H',Same H H'->Q .non H')/\(fadeBad xs k->∀ H',Same H H'->E (.ref CD) none H')
theorem scLFade : FnScope ["items", "place"] ["items", "place"] (defScope s_look_at_fade):=⟨rfl,rfl,rfl,by decide +kernel,rfl,by decide +kernel,by decide +kernel⟩
theorem ok_lfade {f CD : Addr} {fd : FuncData} (F : Fun K "look_at_fade" "look_at_fade" s_look_at_fade f fd) (dIsF : Def P w K mg base CX0 "is_fade" 1 ["item"] spIsF) (n_len : mg "len" = none)
  (m_NoFade : mg "NoFade" = some (.ref CD)) (q_NoFade : PySem.W.excIn K CD bmVE "ValueError.__new__" = true) :
  FnOk P w K mg base (CX1 P w) 3 f fd ["items", "place"] (spLFade CD):=by
 refine F.okX scLFade (fun vs H Q E h=>?_) (fun cdv A outer s H vs Q E hr h=>?_)
 ·obtain ⟨p,xs,k,rfl,_⟩:=h
  rfl
 obtain ⟨p,xs,k,rfl,td,hk,q,e⟩:=h
 refine useQ (ss_cons (s_if (t_w (w_or (t_cmp op_eq (e_v 1) e_int) (w_or1 (t_cmp op_eq (e_v 1) (e_op op_sub (e_b call_len_seq n_len PySem.boot_len (a_cons (e_v 0) a_nil)) e_int)))))
   (ss_one (s_raise m_NoFade q_NoFade (a_cons e_str a_nil)))
   ss_nil)
  (ss_one (s_if (t_w (w_or (t_val (e_call dIsF hr pass0 (a_cons (e_ix ix_tup (e_v 0) (e_op op_sub (e_v 1) e_int)) a_nil))) (w_or1 (t_val (e_call dIsF hr pass0 (a_cons (e_ix ix_tup (e_v 0) (e_op op_add (e_v 1) e_int)) a_nil))))))
   (ss_one (s_raise m_NoFade q_NoFade (a_cons e_str a_nil)))
   ss_nil))) ?_
 obtain ⟨_,vs,ep,hp,tds⟩:=td.tinv
 cases ep
 have lv:=len_item tds
 have bad : fadeBad xs k->1 <= sizeLine/\E (.ref CD) none H:=fun z=>⟨by decide,e z H (Same.refl _)⟩
 refine ⟨_,rfl,rfl,_,rfl,?_⟩
 refine ite2 (fun c=>bad (.inl ?_)) (fun c0=>?_)
 ·have:=V.int.inj (of_decide_eq_true c)
  omega
 have k0 : ¬ k = 0:=fun z=>c0 (decide_eq_true (by rw [z]; rfl))
 refine ⟨_,rfl,_,rfl,p,vs,rfl,.inr (SqT.of hp),_,_,rfl,rfl,rfl,_,rfl,?_⟩
 refine ite2 (fun c=>bad (.inr (.inl ?_))) (fun c1=>?_)
 ·have:=V.int.inj (of_decide_eq_true c)
  omega
 have k1 : ¬ k + 1 = xs.length:=fun z=>c1 (decide_eq_true (congrArg V.int (by omega)))
 obtain ⟨x1,hx1⟩ : ∃ x1,xs[k - 1]? = some x1:=⟨_,List.getElem?_eq_getElem (by omega)⟩
 obtain ⟨x2,hx2⟩ : ∃ x2,xs[k + 1]? = some x2:=⟨_,List.getElem?_eq_getElem (by omega)⟩
 obtain ⟨v1,hv1,t1⟩:=at_item tds hx1
 obtain ⟨v2,hv2,t2⟩:=at_item tds hx2
 have e1 : ((k : Int) - 1) = ((k - 1 : Nat) : Int):=by omega
 have e2 : ((k : Int) + 1) = ((k + 1 : Nat) : Int):=by omega
 refine ⟨_,rfl,_,rfl,_,_,rfl,rfl,p,_,_,v1,rfl,rfl,SqT.of hp,(by show atI _ ((k : Int) - 1) = _; rw [e1]; exact atI_nat hv1),v1,x1,rfl,t1,_,rfl,?_⟩
 refine ite2 (fun c=>bad (.inr (.inr (.inl ?_)))) (fun c2=>?_)
 ·rw [hx1,isFd_some]; exact c
 refine ⟨_,rfl,_,rfl,_,_,rfl,rfl,p,_,_,v2,rfl,rfl,SqT.of hp,(by show atI _ ((k : Int) + 1) = _; rw [e2]; exact atI_nat hv2),v2,x2,rfl,t2,_,rfl,?_⟩
 refine ite2 (fun c=>bad (.inr (.inr (.inr ?_)))) (fun c3=>?_)
 ·rw [hx2,isFd_some]; exact c
 refine q (fun z=>?_) H (Same.refl _)
 rcases z with z | z | z | z
 ·exact k0 z
 ·exact k1 z
 ·rw [hx1,isFd_some] at z; exact c2 z
 ·rw [hx2,isFd_some] at z; exact c3 z
theorem good_fade {p q : List IT.It} {k : Nat} {m : Int} (wl : WL p) (h : p[k]? = some (.fade m)) : ¬ fadeBad (p ++ q) k:=by
 obtain ⟨j,x,y,rfl,h1,h2,n1,n2⟩:=fade_in wl k m h
 have l2:=(List.getElem?_eq_some_iff.mp h2).1
 rintro (z | z | z | z)
 ·omega
 ·rw [List.length_append] at z; omega
 ·rw [Nat.add_sub_cancel,List.getElem?_append_left (by omega),h1,isFd_some,n1] at z; cases z
 ·rw [List.getElem?_append_left (by omega),h2,isFd_some,n2] at z; cases z
structure Arnd (H : Hp) (pd lr pw : Addr) (G G0 : Str->List IT.It->Prop) (A : Str->Prop) (ns : List Str) (prs : List (Addr × Reel)) (n0 : Nat) (wk : List (Key × V)) : Prop where
 pr : PR H pd G0
 na : ∀ n,A n->NoK H pd n
 fn : ∀ n ys ys',G0 n ys->G0 n ys'->ys = ys'
 dom : ∀ n ys,G0 n ys->n ∈ ns
 sub : ∀ n ys,G n ys->G0 n ys
 pa : Pa (Ck prs) G ns
 rl : RL H lr prs
 uq : Uq prs
 w : H pw = some (.dK wk)
 wo : Wk G0 (fun n=>∃ ys,G n ys) ns n0 wk
 ne : pd ≠ pw
theorem Arnd.ex {H H' : Hp} {pd lr pw : Addr} {G G0 : Str->List IT.It->Prop} {A : Str->Prop} {ns : List Str} {prs : List (Addr × Reel)} {n0 n1 : Nat} {wk wk' : List (Key × V)} (h : Arnd H pd lr pw G G0 A ns prs n0 wk) (e : Ex pw H H') (hw : H' pw = some (.dK wk')) (wo : Wk G0 (fun n=>∃ ys,G n ys) ns n1 wk') : Arnd H' pd lr pw G G0 A ns prs n1 wk' :=
 ⟨h.pr.ex e (.inl h.w) h.ne,fun n a=>(h.na n a).ex e h.ne,h.fn,h.dom,h.sub,h.pa,RL.ex h.rl (.inl h.w) e,h.uq,hw,wo,h.ne⟩
theorem Arnd.less {H : Hp} {pd lr pw : Addr} {G G0 : Str->List IT.It->Prop} {A : Str->Prop} {ns : List Str} {prs : List (Addr × Reel)} {n0 n1 : Nat} {wk : List (Key × V)} (h : Arnd H pd lr pw G G0 A ns prs n0 wk) (l : n1 <= n0) : Arnd H pd lr pw G G0 A ns prs n1 wk:=h.ex (Ex.refl _ _) h.w (h.wo.mono l)
def WellQ (H : Hp) (pw : Addr) (G G0 : Str->List IT.It->Prop) (ns : List Str) (wk : List (Key × V)) (R : Hp->Prop) : Prop:=∀ wk' H',Ex pw H H'->H' pw = some (.dK wk')->Wk G0 (fun n=>∃ ys,G n ys) ns 0 wk'->(∀ m,valV wk' (.inr m : Key) = some (.bl true)->valV wk (.inr m : Key) = some (.bl true))->R H'
def spLook (CN CF CD : Addr) (d : Nat) : Sp:=fun vs H Q E=>∃ (p pd lr pw : Addr) (xs : List IT.It) (G G0 : Str->List IT.It->Prop) (A : Str->Prop) (ns : List Str) (prs : List (Addr × Reel)) (wk : List (Key × V)),vs = [.ref p,.ref pd,.ref lr,.ref pw] /\
 Td H (.ref p) (.tuple (dL xs))/\Arnd H pd lr pw G G0 A ns prs (dpL xs) wk/\dpL xs <= d/\((WL xs/\hL (Ck prs) G xs/\WellQ H pw G G0 ns wk (Q .non)) \/ ∃ e,Bk prs G G0 A xs e/\DueX CN CF CD (Ex pw H) E e)
def spLookP (CN CF CD : Addr) : Nat->Sp
 | 0=>fun _ _ _ _=>False
 | d + 1=>spLook CN CF CD d
theorem spLookP_of {CN CF CD : Addr} {d : Nat} {vs : List V} {H : Hp} {Q : VK} {E : XK} (h : 0 < d) (z : spLook CN CF CD (d - 1) vs H Q E) : spLookP CN CF CD d vs H Q E:=by
 cases d with
 | zero=>exact absurd h (Nat.lt_irrefl _)
 | succ d=>exact z
def spLPart (CN CF CD : Addr) (d : Nat) : Sp:=fun vs H Q E=>∃ (n : Str) (pd lr pw : Addr) (ys : List IT.It) (G G0 : Str->List IT.It->Prop) (A : Str->Prop) (ns : List Str) (prs : List (Addr × Reel)) (wk : List (Key × V)),vs = [.str n,.ref pd,.ref lr,.ref pw]/\dpL ys + 1 <= d /\
 Arnd H pd lr pw G G0 A ns prs (dpL ys + 1) wk/\((G n ys/\WellQ H pw G G0 ns wk (Q .non)) \/ (A n/\DueX CN CF CD (Ex pw H) E (.nm n)) \/ ∃ e,G0 n ys/\(∀ zs,¬ G n zs)/\Bk prs G G0 A ys e/\DueX CN CF CD (Ex pw H) E e)
theorem scLPart : FnScope ["name", "parts", "reels", "within"] ["name", "parts", "reels", "within"] (defScope s_look_at_part):=⟨rfl,rfl,rfl,by decide +kernel,rfl,by decide +kernel,by decide +kernel⟩
theorem ok_lpart {d : Nat} {f CN CF CD fI : Addr} {fd fdI : FuncData} (F : Fun K "look_at_part" "look_at_part" s_look_at_part f fd) (dLook : Def P w K mg base (CX1 P w) "look_through" (2 * d + 5) ["items", "parts", "reels", "within"] (spLookP CN CF CD d))
  (m_NoName : mg "NoName" = some (.ref CN)) (R_NoName : XRaise K CN fI) (G_NoName : FnOk P w K mg base CX0 1 fI fdI ["self", "name"] (spInit CN "name")) (b_NoName : Binds K fdI ["self", "name"] []) :
  FnOk P w K mg base (CX1 P w) (2 * d + 6) f fd ["name", "parts", "reels", "within"] (spLPart CN CF CD d):=by
 refine F.okX scLPart (fun vs H Q E h=>?_) (fun cdv A outer s H vs Q E hr h=>?_)
 ·obtain ⟨n,pd,lr,pw,ys,G,G0,A,ns,prs,wk,rfl,_⟩:=h
  rfl
 obtain ⟨n,pd,lr,pw,ys,G,G0,A,ns,prs,wk,rfl,hdy,A0,q⟩:=h
 refine useQ (ss_cons (s_if (t_w (w_or (t_dnotin (hu_of hr) (e_v 0) (e_v 1)) (w_or1 (t_val (e_dgetD (hu_of hr) (e_v 3) (e_v 0) e_bl)))))
   (ss_one (s_raiseI m_NoName R_NoName G_NoName hr b_NoName (a_cons (e_v 0) a_nil) (hj:=by omega)))
   ss_nil)
  (ss_one (s_if (t_dnotin (hu_of hr) (e_v 0) (e_v 3))
   (ss_cons (s_dput (hu_of hr) (e_v 3) (e_v 0) e_bl)
   (ss_cons (s_expr (e_call dLook hr passX (a_cons (e_dget (hu_of hr) (e_v 1) (e_v 0)) (a_cons (e_v 1) (a_cons (e_v 2) (a_cons (e_v 3) a_nil)))) (hj:=by omega)))
   (ss_one (s_dput (hu_of hr) (e_v 3) (e_v 0) e_bl))))
   ss_nil))) ?_
 have zl : sizeLine = 16777216:=sizeLine_eq
 have dw : DGet H pw (.str n) (valV wk (.inr n)):=DGet.k (k:=.inr n) A0.w
 have hns:=A0.pa.len
 have il:=A0.wo.len
 rcases q with ⟨gn,q⟩ | ⟨an,q⟩ | ⟨e,gn,ng,bk,q⟩
 ·have gn0:=A0.sub n ys gn
  obtain ⟨b,dg,tb⟩:=A0.pr.get gn0
  have hnm:=A0.pa.dom n ys gn
  refine ⟨_,rfl,_,rfl,pd,_,rfl,dg,_,rfl,iteF ?_⟩
  cases hz : valV wk (.inr n : Key) with
  | some v =>
   rw [hz] at dw
   rcases A0.wo.bl n v hz with rfl | rfl
   ·have:=A0.wo.way n hz ys gn0
    omega
   ·refine ⟨_,rfl,pw,rfl,.inl ⟨wk,.inl A0.w⟩,_,rfl,_,dw,_,rfl,iteF ⟨_,rfl,_,rfl,pw,_,rfl,dw,_,rfl,iteF ?_⟩⟩
    exact q wk H (Ex.refl _ _) A0.w (A0.wo.mono (Nat.zero_le _)) fun _ h=>h
  | none =>
   rw [hz] at dw
   refine ⟨_,rfl,pw,rfl,.inl ⟨wk,.inl A0.w⟩,_,rfl,_,dw,_,rfl,iteF ⟨_,rfl,_,rfl,pw,_,rfl,dw,_,rfl,iteT ?_⟩⟩
   refine ⟨_,rfl,_,rfl,pw,_,rfl,.inl ⟨wk,.inr n,A0.w,rfl,by omega,rfl⟩,?_⟩
   have x1 : Ex pw H (upd H pw (.dK (putK wk (.inr n) (.bl true)))):=fun c o hc h=>by rw [upd_ne hc]; exact h
   have W1 : Wk G0 (fun n=>∃ ys,G n ys) ns (dpL ys) (putK wk (.inr n) (.bl true)):=A0.wo.put hnm (by omega) (fun _ zs g=>by rw [A0.fn n zs ys g gn0]; exact Nat.le_refl _) (fun z=>by cases z)
   have A1:=A0.ex x1 upd_same W1
   generalize upd H pw (.dK (putK wk (.inr n) (.bl true))) = H1 at x1 A1 ⊢
   obtain ⟨b1,dg1,tb1⟩:=A1.pr.get gn0
   refine ⟨_,rfl,_,rfl,pd,_,rfl,dg1,_,rfl,_,rfl,_,rfl,spLookP_of (by omega) ⟨b1,pd,lr,pw,ys,G,G0,A,ns,prs,_,rfl,tb1,A1,by omega,.inl ⟨A0.pa.wl n ys gn,A0.pa.ok n ys gn,fun wk2 H2 x2 hw2 W2 k2=>?_⟩⟩⟩
   have il2:=W2.len
   refine ⟨_,rfl,_,rfl,pw,_,rfl,.inl ⟨wk2,.inr n,hw2,rfl,by omega,rfl⟩,?_⟩
   refine q _ _ (x1.trans (x2.trans fun c o hc h=>by rw [upd_ne hc]; exact h)) upd_same (W2.put hnm (Nat.le_refl _) (fun e=>by cases e) fun _=>⟨ys,gn⟩) fun m hm=>?_
   rw [valV_put] at hm
   split at hm
   ·cases hm
   ·rename_i ne
    have:=k2 m hm
    rw [valV_put,if_neg ne] at this
    exact this
 ·refine ⟨_,rfl,_,rfl,pd,_,rfl,(A0.na n an).get,_,rfl,iteT ?_⟩
  refine ⟨_,rfl,(by show 1 <= sizeLine; decide),fun a ha=>⟨a,_,rfl,upd_same,fun dx n1 n2=>⟨rfl,some dx,upd_same,?_⟩⟩⟩
  obtain ⟨r1,r2⟩:=raised1 (x:=xdO dx [("name",V.str n)]) (o':=newO a CN (some dx)) (Same.refl H) ha n1 n2
  exact q _ dx (Ex.of r1) r2
 ·obtain ⟨b,dg,tb⟩:=A0.pr.get gn
  have hnm:=A0.dom n ys gn
  refine ⟨_,rfl,_,rfl,pd,_,rfl,dg,_,rfl,iteF ?_⟩
  have hz : valV wk (.inr n : Key) = none:=by
   cases hz : valV wk (.inr n : Key) with
   | none=>rfl
   | some v =>
    rcases A0.wo.bl n v hz with rfl | rfl
    ·have:=A0.wo.way n hz ys gn
     omega
    ·obtain ⟨zs,z⟩:=A0.wo.fin n hz
     exact absurd z (ng zs)
  rw [hz] at dw
  refine ⟨_,rfl,pw,rfl,.inl ⟨wk,.inl A0.w⟩,_,rfl,_,dw,_,rfl,iteF ⟨_,rfl,_,rfl,pw,_,rfl,dw,_,rfl,iteT ?_⟩⟩
  refine ⟨_,rfl,_,rfl,pw,_,rfl,.inl ⟨wk,.inr n,A0.w,rfl,by omega,rfl⟩,?_⟩
  have x1 : Ex pw H (upd H pw (.dK (putK wk (.inr n) (.bl true)))):=fun c o hc h=>by rw [upd_ne hc]; exact h
  have W1 : Wk G0 (fun n=>∃ ys,G n ys) ns (dpL ys) (putK wk (.inr n) (.bl true)):=A0.wo.put hnm (by omega) (fun _ zs g=>by rw [A0.fn n zs ys g gn]; exact Nat.le_refl _) (fun z=>by cases z)
  have A1:=A0.ex x1 upd_same W1
  generalize upd H pw (.dK (putK wk (.inr n) (.bl true))) = H1 at x1 A1 ⊢
  obtain ⟨b1,dg1,tb1⟩:=A1.pr.get gn
  exact ⟨_,rfl,_,rfl,pd,_,rfl,dg1,_,rfl,_,rfl,_,rfl,spLookP_of (by omega) ⟨b1,pd,lr,pw,ys,G,G0,A,ns,prs,_,rfl,tb1,A1,by omega,.inr ⟨e,bk,q.mono fun H' z=>x1.trans z⟩⟩⟩
end
end K12
set_option maxHeartbeats 2000000
namespace K12
open PySem L2 G DT
open IT hiding It
def WellTo (prs : List (Addr × Reel)) (G : Str->List IT.It->Prop) (xs : List IT.It) (lim : Nat) : Prop:=∀ i x,i < lim->xs[i]? = some x->(WI x \/ ∃ m,x = .fade m)/\hI (Ck prs) G x/\(∀ m,x = .fade m->¬ fadeBad xs i)
inductive BadI (prs : List (Addr × Reel)) (G G0 : Str->List IT.It->Prop) (A : Str->Prop) (xs : List IT.It) (i : Nat) : Du->Prop
 | clip {x : Addr × Reel} {f l g : Int} : xs[i]? = some (.clip x.2.name f l)->x ∈ prs->(g = f/\¬ has x.2 f) \/ (g = l/\has x.2 f/\¬ has x.2 l)->BadI prs G G0 A xs i (.fr x.2.name g)
 | fade {m : Int} : xs[i]? = some (.fade m)->fadeBad xs i->BadI prs G G0 A xs i .fd
 | none {n : Str} {ys : List IT.It} : xs[i]? = some (.part n ys)->A n->BadI prs G G0 A xs i (.nm n)
 | part {n : Str} {ys : List IT.It} {e : Du} : xs[i]? = some (.part n ys)->G0 n ys->(∀ zs,¬ G n zs)->Bk prs G G0 A ys e->BadI prs G G0 A xs i e
theorem well_pre {prs : List (Addr × Reel)} {G : Str->List IT.It->Prop} {p : List IT.It} (q : List IT.It) (h : p = [] \/ WL p) (k : hL (Ck prs) G p) : WellTo prs G (p ++ q) p.length:=by
 intro i x hi hx
 rw [List.getElem?_append_left hi] at hx
 have mx:=List.mem_of_getElem? hx
 rcases h with rfl | h
 ·cases mx
 ·exact ⟨h.mem x mx,hL_mem k mx,fun m e=>good_fade h (by rw [hx,e])⟩
theorem get_mid {α : Type} (p q : List α) (x : α) : (p ++ x :: q)[p.length]? = some x:=by
 rw [List.getElem?_append_right (Nat.le_refl _),Nat.sub_self]; rfl
theorem Bk.at {prs : List (Addr × Reel)} {G G0 : Str->List IT.It->Prop} {A : Str->Prop} {xs : List IT.It} {e : Du} (h : Bk prs G G0 A xs e) : ∃ lim,lim < xs.length/\WellTo prs G xs lim/\BadI prs G G0 A xs lim e:=by
 have l : ∀ {p q : List IT.It} {x : IT.It},p.length < (p ++ x :: q).length:=by
  intro p q x
  rw [List.length_append,List.length_cons]
  omega
 cases h with
 | clipF h1 h2 h3 h4=>exact ⟨_,l,well_pre _ h1 h2,.clip (get_mid _ _ _) h3 (.inl ⟨rfl,h4⟩)⟩
 | clipL h1 h2 h3 h4 h5=>exact ⟨_,l,well_pre _ h1 h2,.clip (get_mid _ _ _) h3 (.inr ⟨rfl,h4,h5⟩)⟩
 | fade h1 h2=>exact ⟨_,l,well_pre _ h1 h2,.fade (get_mid _ _ _) (.inr (.inl (by rw [List.length_append]; rfl)))⟩
 | none h1 h2 h3=>exact ⟨_,l,well_pre _ h1 h2,.none (get_mid _ _ _) h3⟩
 | part h1 h2 h3 h4 h5=>exact ⟨_,l,well_pre _ h1 h2,.part (get_mid _ _ _) h3 h4 h5⟩
section
variable {P : Program} {w : World} {K : PySem.W.Frag} {mg : Str->Option Value} {base : Heap}
theorem scLook : FnScope ["items", "parts", "reels", "within", "place", "item"] ["items", "parts", "reels", "within"] (defScope s_look_through):=⟨rfl,rfl,rfl,by decide +kernel,rfl,by decide +kernel,by decide +kernel⟩
theorem ok_look {d : Nat} {f CN CF CD : Addr} {fd : FuncData} (F : Fun K "look_through" "look_through" s_look_through f fd) (dLook : Def P w K mg base (CX1 P w) "look_through" (2 * d + 5) ["items", "parts", "reels", "within"] (spLookP CN CF CD d))
  (dLPart : Def P w K mg base (CX1 P w) "look_at_part" (2 * d + 6) ["name", "parts", "reels", "within"] (spLPart CN CF CD d)) (dLClip : Def P w K mg base (CX1 P w) "look_at_clip" 4 ["clip", "reels"] (spLClip CF)) (dLFade : Def P w K mg base (CX1 P w) "look_at_fade" 3 ["items", "place"] (spLFade CD)) (n_enumerate : mg "enumerate" = none) :
  FnOk P w K mg base (CX1 P w) (2 * d + 7) f fd ["items", "parts", "reels", "within"] (spLook CN CF CD d):=by
 refine F.okX scLook (fun vs H Q E h=>?_) (fun cdv A outer s H vs Q E hr h=>?_)
 ·obtain ⟨p,pd,lr,pw,xs,G,G0,A,ns,prs,wk,rfl,_⟩:=h
  rfl
 obtain ⟨p,pd,lr,pw,xs,G,G0,A,ns,prs,wk,rfl,td,A0,hd,hq⟩:=h
 refine useQ (ss_one (s_for PassesOwn.leaving rfl (i_enumT n_enumerate (e_v 0)) (g_tup rfl (gs_cons (g_name (i:=4) scLook.nd) (gs_cons (g_name (i:=5) scLook.nd) gs_nil)))
   (ss_one (s_if (t_cmp op_eq (e_ix ix_tup (e_v 5) e_int) e_str)
    (ss_one (s_expr (e_call dLClip hr passX (a_cons (e_v 5) (a_cons (e_v 2) a_nil)) (hj:=by omega))))
    (ss_one (s_if (t_cmp op_eq (e_ix ix_tup (e_v 5) e_int) e_str)
     (ss_one (s_expr (e_call dLFade hr passX (a_cons (e_v 0) (a_cons (e_v 4) a_nil)) (hj:=by omega))))
     (ss_one (s_if (t_cmp op_eq (e_ix ix_tup (e_v 5) e_int) e_str)
      (ss_one (s_expr (e_call dLPart hr passX (a_cons (e_ix ix_tup (e_v 5) e_int) (a_cons (e_v 1) (a_cons (e_v 2) (a_cons (e_v 3) a_nil)))) (hj:=by omega))))
      (ss_one (s_expr (e_call dLook hr passX (a_cons (e_ix ix_tup (e_v 5) (e_un un_neg e_int)) (a_cons (e_v 1) (a_cons (e_v 2) (a_cons (e_v 3) a_nil)))) (hj:=by omega)))))))))))) ?_
 obtain ⟨_,vs,ep,hp,tds⟩:=td.tinv
 cases ep
 have lv:=len_item tds
 have pne : p ≠ pw:=fun z=>by rw [z,A0.w] at hp; cases hp
 obtain ⟨lim,hlim,wt,q⟩ : ∃ lim,lim <= xs.length/\WellTo prs G xs lim/\((lim = xs.length/\WellQ H pw G G0 ns wk (Q .non)) \/ ∃ e,lim < xs.length/\BadI prs G G0 A xs lim e/\DueX CN CF CD (Ex pw H) E e):=by
  rcases hq with ⟨wl,hl,q⟩ | ⟨e,bk,q⟩
  ·exact ⟨xs.length,Nat.le_refl _,by have:=well_pre [] (.inr wl) hl; rwa [List.append_nil] at this,.inl ⟨rfl,q⟩⟩
  ·obtain ⟨lim,l1,l2,l3⟩:=bk.at
   exact ⟨lim,Nat.le_of_lt l1,l2,.inr ⟨e,l1,l3,q⟩⟩
 refine ⟨_,rfl,p,rfl,⟨_,SqT.of hp⟩,for_enumT (K:=K) (a:=p) (xs:=vs) (fun i σ H'=>∃ (o4 o5 : Option V) (wk' : List (Key × V)),σ = [some (.ref p),some (.ref pd),some (.ref lr),some (.ref pw),o4,o5]/\Ex pw H H'/\H' pw = some (.dK wk')/\Wk G0 (fun n=>∃ ys,G n ys) ns 0 wk'/\(∀ m,valV wk' (.inr m : Key) = some (.bl true)->valV wk (.inr m : Key) = some (.bl true))/\i <= lim)
  ⟨none,none,wk,rfl,Ex.refl _ _,A0.w,A0.wo.mono (Nat.zero_le _),fun _ h=>h,Nat.zero_le _⟩ (fun i σ H' _ ⟨_,_,_,_,ex,_⟩=>SqT.of (ex _ _ pne hp)) ?_ ?_⟩
 ·rintro i v σ H' pe hvv ⟨o4,o5,wk',rfl,ex,hk',W',k',hil⟩ hpe
  obtain ⟨dd,hdd,tv⟩:=tds.get hvv
  obtain ⟨x,hx,rfl⟩:=dL_get hdd
  have mx:=List.mem_of_getElem? hx
  have hix : i < xs.length:=(List.getElem?_eq_some_iff.mp hx).1
  have hdx : dpI x <= dpL xs:=dpL_le.mp (Nat.le_refl _) x mx
  have te:=Same.new hpe (.tup [.int (i : Int),v])
  have ex2 : Ex pw H (upd H' pe (.tup [.int (i : Int),v])):=ex.trans (Ex.of te)
  have hk2:=te _ _ hk'
  have A2:=A0.ex ex2 hk2 (A0.wo.later W' k')
  have tkk:=rd_tk (.inl A0.w) ex2
  have tv2:=tv.tk tkk
  have td2:=td.tk tkk
  have hpt : upd H' pe (.tup [.int (i : Int),v]) pe = some (.tup [.int (i : Int),v]):=upd_same
  generalize upd H' pe (.tup [.int (i : Int),v]) = H2 at te ex2 hk2 A2 tv2 td2 hpt
  refine ⟨pe,_,rfl,SqT.of hpt,rfl,_,_,rfl,_,_,rfl,rfl,?_⟩
  by_cases hlt : i < lim
  ·obtain ⟨hxw,hxh,hxf⟩:=wt i x hlt hx
   have nxt : ∀ {o4 o5 : Option V} {wk2 : List (Key × V)} {H3 : Hp},Ex pw H2 H3->H3 pw = some (.dK wk2)->Wk G0 (fun n=>∃ ys,G n ys) ns 0 wk2->(∀ m,valV wk2 (.inr m : Key) = some (.bl true)->valV wk' (.inr m : Key) = some (.bl true))->∃ (o4' o5' : Option V) (wk'' : List (Key × V)),[some (V.ref p),some (.ref pd),some (.ref lr),some (.ref pw),o4,o5] = [some (.ref p),some (.ref pd),some (.ref lr),some (.ref pw),o4',o5']/\Ex pw H H3/\H3 pw = some (.dK wk'')/\Wk G0 (fun n=>∃ ys,G n ys) ns 0 wk''/\(∀ m,valV wk'' (.inr m : Key) = some (.bl true)->valV wk (.inr m : Key) = some (.bl true))/\i + 1 <= lim:=fun x3 h3 w3 k3=>⟨_,_,_,rfl,ex2.trans x3,h3,w3,fun m hm=>k' m (k3 m hm),hlt⟩
   cases x with
   | clip r cf cl =>
    obtain ⟨a,rfl,ha⟩:=td_clip tv2
    rw [hI] at hxh
    obtain ⟨y,hy,rfl,f0,f1,l0,l1⟩:=hxh.2
    refine ⟨_,rfl,a,_,_,_,rfl,rfl,SqT.of ha,atI_nat (j:=0) rfl,rfl,_,rfl,iteY (seq _) ?_⟩
    exact ⟨_,rfl,_,rfl,a,lr,prs,y,cf,cl,rfl,ha,A2.rl,A2.uq,hy,fun _ _ H3 s3=>nxt (Ex.of s3) (s3 _ _ hk2) W' fun _ h=>h,fun g hg=>by
     rcases hg with ⟨_,z⟩ | ⟨_,_,z⟩
     ·exact absurd ⟨f0,f1⟩ z
     ·exact absurd ⟨l0,l1⟩ z⟩
   | fade m =>
    obtain ⟨a,rfl,ha⟩:=td_fade tv2
    refine ⟨_,rfl,a,_,_,_,rfl,rfl,SqT.of ha,atI_nat (j:=0) rfl,rfl,_,rfl,iteN sne ?_⟩
    refine ⟨_,rfl,a,_,_,_,rfl,rfl,SqT.of ha,atI_nat (j:=0) rfl,rfl,_,rfl,iteY (seq _) ?_⟩
    exact ⟨_,rfl,_,rfl,p,xs,i,rfl,td2,hix,fun _ H3 s3=>nxt (Ex.of s3) (s3 _ _ hk2) W' fun _ h=>h,fun z=>absurd z (hxf m rfl)⟩
   | part n zs =>
    obtain ⟨a,rfl,ha⟩:=td_part tv2
    rw [hI] at hxh
    rw [dpI] at hdx
    refine ⟨_,rfl,a,_,_,_,rfl,rfl,SqT.of ha,atI_nat (j:=0) rfl,rfl,_,rfl,iteN sne ?_⟩
    refine ⟨_,rfl,a,_,_,_,rfl,rfl,SqT.of ha,atI_nat (j:=0) rfl,rfl,_,rfl,iteN sne ?_⟩
    refine ⟨_,rfl,a,_,_,_,rfl,rfl,SqT.of ha,atI_nat (j:=0) rfl,rfl,_,rfl,iteY (seq _) ?_⟩
    exact ⟨_,rfl,a,_,_,_,rfl,rfl,SqT.of ha,atI_nat (j:=1) rfl,_,rfl,_,rfl,_,rfl,n,pd,lr,pw,zs,G,G0,A,ns,prs,wk',rfl,by omega,A2.less hdx,.inl ⟨hxh.2,fun wk2 H3 x3 h3 w3 k3=>nxt x3 h3 w3 k3⟩⟩
   | times m ys =>
    obtain ⟨a,b,rfl,ha,tb⟩:=td_times tv2
    rw [hI] at hxh
    rw [dpI] at hdx
    have wy : WL ys:=by
     rcases hxw with z | ⟨k,e⟩
     ·cases z with | times h1 h2 h3=>exact h3
     ·cases e
    refine ⟨_,rfl,a,_,_,_,rfl,rfl,SqT.of ha,atI_nat (j:=0) rfl,rfl,_,rfl,iteN sne ?_⟩
    refine ⟨_,rfl,a,_,_,_,rfl,rfl,SqT.of ha,atI_nat (j:=0) rfl,rfl,_,rfl,iteN sne ?_⟩
    refine ⟨_,rfl,a,_,_,_,rfl,rfl,SqT.of ha,atI_nat (j:=0) rfl,rfl,_,rfl,iteN sne ?_⟩
    exact ⟨_,rfl,_,rfl,a,_,_,V.ref b,rfl,rfl,SqT.of ha,rfl,_,rfl,_,rfl,_,rfl,spLookP_of (by omega) ⟨b,pd,lr,pw,ys,G,G0,A,ns,prs,wk',rfl,tb,A2.less (by omega),by omega,.inl ⟨wy,hxh,fun wk2 H3 x3 h3 w3 k3=>nxt x3 h3 w3 k3⟩⟩⟩
   | back ys =>
    obtain ⟨a,b,rfl,ha,tb⟩:=td_back tv2
    rw [hI] at hxh
    rw [dpI] at hdx
    have wy : WL ys:=by
     rcases hxw with z | ⟨k,e⟩
     ·cases z with | back h3=>exact h3
     ·cases e
    refine ⟨_,rfl,a,_,_,_,rfl,rfl,SqT.of ha,atI_nat (j:=0) rfl,rfl,_,rfl,iteN sne ?_⟩
    refine ⟨_,rfl,a,_,_,_,rfl,rfl,SqT.of ha,atI_nat (j:=0) rfl,rfl,_,rfl,iteN sne ?_⟩
    refine ⟨_,rfl,a,_,_,_,rfl,rfl,SqT.of ha,atI_nat (j:=0) rfl,rfl,_,rfl,iteN sne ?_⟩
    exact ⟨_,rfl,_,rfl,a,_,_,V.ref b,rfl,rfl,SqT.of ha,rfl,_,rfl,_,rfl,_,rfl,spLookP_of (by omega) ⟨b,pd,lr,pw,ys,G,G0,A,ns,prs,wk',rfl,tb,A2.less (by omega),by omega,.inl ⟨wy,hxh,fun wk2 H3 x3 h3 w3 k3=>nxt x3 h3 w3 k3⟩⟩⟩
  ·have eil : i = lim:=by omega
   subst eil
   rcases q with ⟨z,_⟩ | ⟨e,_,bad,q⟩
   ·omega
   have q2:=q.mono fun H' (z : Ex pw H2 H')=>ex2.trans z
   cases bad with
   | clip h1 h2 h3 =>
    rw [hx] at h1
    cases h1
    obtain ⟨a,rfl,ha⟩:=td_clip tv2
    refine ⟨_,rfl,a,_,_,_,rfl,rfl,SqT.of ha,atI_nat (j:=0) rfl,rfl,_,rfl,iteY (seq _) ?_⟩
    exact ⟨_,rfl,_,rfl,a,lr,prs,_,_,_,rfl,ha,A2.rl,A2.uq,h2,fun f0 l0=>by
     rcases h3 with ⟨_,z⟩ | ⟨_,_,z⟩
     ·exact absurd f0 z
     ·exact absurd l0 z,fun g hg H3 dx s3 hdx=>q2 H3 dx (Ex.of s3) (by
     rw [hdx]
     rcases h3 with ⟨rfl,z⟩ | ⟨rfl,z,z'⟩
     ·rcases hg with ⟨rfl,_⟩ | ⟨_,y,_⟩
      ·rfl
      ·exact absurd y z
     ·rcases hg with ⟨_,y⟩ | ⟨rfl,_⟩
      ·exact absurd z y
      ·rfl)⟩
   | fade h1 h2 =>
    rw [hx] at h1
    cases h1
    obtain ⟨a,rfl,ha⟩:=td_fade tv2
    refine ⟨_,rfl,a,_,_,_,rfl,rfl,SqT.of ha,atI_nat (j:=0) rfl,rfl,_,rfl,iteN sne ?_⟩
    refine ⟨_,rfl,a,_,_,_,rfl,rfl,SqT.of ha,atI_nat (j:=0) rfl,rfl,_,rfl,iteY (seq _) ?_⟩
    exact ⟨_,rfl,_,rfl,p,xs,i,rfl,td2,hix,fun z=>absurd h2 z,fun _ H3 s3=>q2 H3 (Ex.of s3)⟩
   | none h1 h2 =>
    rw [hx] at h1
    cases h1
    obtain ⟨a,rfl,ha⟩:=td_part tv2
    rw [dpI] at hdx
    refine ⟨_,rfl,a,_,_,_,rfl,rfl,SqT.of ha,atI_nat (j:=0) rfl,rfl,_,rfl,iteN sne ?_⟩
    refine ⟨_,rfl,a,_,_,_,rfl,rfl,SqT.of ha,atI_nat (j:=0) rfl,rfl,_,rfl,iteN sne ?_⟩
    refine ⟨_,rfl,a,_,_,_,rfl,rfl,SqT.of ha,atI_nat (j:=0) rfl,rfl,_,rfl,iteY (seq _) ?_⟩
    exact ⟨_,rfl,a,_,_,_,rfl,rfl,SqT.of ha,atI_nat (j:=1) rfl,_,rfl,_,rfl,_,rfl,_,pd,lr,pw,_,G,G0,A,ns,prs,wk',rfl,by omega,A2.less hdx,.inr (.inl ⟨h2,q2⟩)⟩
   | part h1 h2 h3 h4 =>
    rw [hx] at h1
    cases h1
    obtain ⟨a,rfl,ha⟩:=td_part tv2
    rw [dpI] at hdx
    refine ⟨_,rfl,a,_,_,_,rfl,rfl,SqT.of ha,atI_nat (j:=0) rfl,rfl,_,rfl,iteN sne ?_⟩
    refine ⟨_,rfl,a,_,_,_,rfl,rfl,SqT.of ha,atI_nat (j:=0) rfl,rfl,_,rfl,iteN sne ?_⟩
    refine ⟨_,rfl,a,_,_,_,rfl,rfl,SqT.of ha,atI_nat (j:=0) rfl,rfl,_,rfl,iteY (seq _) ?_⟩
    exact ⟨_,rfl,a,_,_,_,rfl,rfl,SqT.of ha,atI_nat (j:=1) rfl,_,rfl,_,rfl,_,rfl,_,pd,lr,pw,_,G,G0,A,ns,prs,wk',rfl,by omega,A2.less hdx,.inr (.inr ⟨e,h2,h3,h4,q2⟩)⟩
 ·rintro σ H' ⟨o4,o5,wk',rfl,ex,hk',W',k',hil⟩
  rcases q with ⟨_,q⟩ | ⟨e,hl,_⟩
  ·exact q wk' H' ex hk' W' k'
  ·omega
theorem same_of {H H1 H2 : Hp} {d : Addr} (s : Same H H1) (hd : H d = none) (e : Ex d H1 H2) : Same H H2:=fun b o hb=>e b o (by rintro rfl; rw [hd] at hb; cases hb) (s _ _ hb)
structure Pts (H : Hp) (pd : Addr) (G G0 : Str->List IT.It->Prop) (A : Str->Prop) (ns : List Str) (prs : List (Addr × Reel)) : Prop where
 pr : PR H pd G0
 na : ∀ n,A n->NoK H pd n
 fn : ∀ n ys ys',G0 n ys->G0 n ys'->ys = ys'
 dom : ∀ n ys,G0 n ys->n ∈ ns
 sub : ∀ n ys,G n ys->G0 n ys
 pa : Pa (Ck prs) G ns
theorem Pts.same {H H' : Hp} {pd : Addr} {G G0 : Str->List IT.It->Prop} {A : Str->Prop} {ns : List Str} {prs : List (Addr × Reel)} (h : Pts H pd G G0 A ns prs) (s : Same H H') : Pts H' pd G G0 A ns prs:=⟨h.pr.same s,fun n a=>(h.na n a).same s,h.fn,h.dom,h.sub,h.pa⟩
theorem PR.sub {H : Hp} {pd : Addr} {G G0 : Str->List IT.It->Prop} (h : PR H pd G0) (k : ∀ n ys,G n ys->G0 n ys) : PR H pd G:=by
 obtain ⟨kvs,h1,h2⟩:=h
 exact ⟨kvs,h1,fun n ys g=>h2 n ys (k n ys g)⟩
def spSound (CN CF CD : Addr) (d : Nat) : Sp:=fun vs H Q E=>∃ (p pd lr : Addr) (xs : List IT.It) (G G0 : Str->List IT.It->Prop) (A : Str->Prop) (ns : List Str) (prs : List (Addr × Reel)),vs = [.ref p,.ref pd,.ref lr]/\Td H (.ref p) (.tuple (dL xs))/\Pts H pd G G0 A ns prs/\RL H lr prs/\Uq prs/\dpL xs <= d /\
 ((WL xs/\hL (Ck prs) G xs/\∀ H',Same H H'->Q (.ref p) H') \/ ∃ e,Bk prs G G0 A xs e/\DueX CN CF CD (Same H) E e)
theorem scSound : FnScope ["items", "parts", "reels"] ["items", "parts", "reels"] (defScope s_sound):=⟨rfl,rfl,rfl,by decide +kernel,rfl,by decide +kernel,by decide +kernel⟩
theorem ok_sound {d : Nat} {f CN CF CD : Addr} {fd : FuncData} (F : Fun K "sound" "sound" s_sound f fd) (dLook : Def P w K mg base (CX1 P w) "look_through" (2 * d + 7) ["items", "parts", "reels", "within"] (spLook CN CF CD d)) : FnOk P w K mg base (CX1 P w) (2 * d + 8) f fd ["items", "parts", "reels"] (spSound CN CF CD d):=by
 refine F.okX scSound (fun vs H Q E h=>?_) (fun cdv A outer s H vs Q E hr h=>?_)
 ·obtain ⟨p,pd,lr,xs,G,G0,A,ns,prs,rfl,_⟩:=h
  rfl
 obtain ⟨p,pd,lr,xs,G,G0,A,ns,prs,rfl,td,pt,rl,uq,hd,q⟩:=h
 refine useQ (ss_cons (s_expr (e_call dLook hr passX (a_cons (e_v 0) (a_cons (e_v 1) (a_cons (e_v 2) (a_cons e_dnew a_nil)))) (hj:=by omega)))
  (ss_one (s_ret (e_v 0)))) ?_
 refine ⟨_,rfl,_,rfl,_,rfl,fun pw hpw=>?_⟩
 have s1:=Same.new hpw (.dK [])
 have ne : pd ≠ pw:=by
  obtain ⟨k,r,_⟩:=pt.pr
  exact Ne.symm (rdn r hpw)
 have p1:=pt.same s1
 refine ⟨p,pd,lr,pw,xs,G,G0,A,ns,prs,[],rfl,td.tk (TK.of s1),⟨p1.pr,p1.na,p1.fn,p1.dom,p1.sub,p1.pa,rl.same s1,uq,upd_same,⟨List.nodup_nil,(fun k hk=>nomatch hk),(fun n v e=>by cases e),(fun n e=>by cases e),fun n e=>by cases e⟩,ne⟩,hd,?_⟩
 rcases q with ⟨wl,hl,q⟩ | ⟨e,bk,q⟩
 ·exact .inl ⟨wl,hl,fun wk' H2 x2 hw W k=>⟨_,rfl,q H2 (same_of s1 hpw x2)⟩⟩
 ·exact .inr ⟨e,bk,q.mono fun H2 x2=>same_of s1 hpw x2⟩
end
end K12
set_option maxHeartbeats 2000000
namespace K12
open PySem L2 G DT
open IT hiding It
theorem comp_listN {K : PySem.W.Frag} {a : Addr} {xs : List V} {H : Hp} {cap : St} {te : TE} {Q : VK} (J : Nat->List V->Hp->Prop) (hJ : ∀ i zs H' H'',J i zs H'->TK H' H''->J i zs H'') (hS : SqL K H a xs) (hn : xs.length <= sizeLine) (j0 : J 0 [] H)
  (el : ∀ (i : Nat) x zs H' (P : VK),Same H H'->xs[i]? = some x->J i zs H'->(∀ y H'',Same H' H''->J (i + 1) (zs ++ [y]) H''->P y H'')->te (some x :: cap) H' P)
  (fin : ∀ D zs H',Same H H'->H D = none->H' D = some (.lst zs)->zs.length = xs.length->J xs.length zs H'->Q (.ref D) H') : Comped (Itl K a) cap te Q H:=by
 intro D hD
 refine ⟨fun i m zs H2=>m = xs.length - i/\i <= xs.length/\zs.length = i/\H2 D = some (.lst zs)/\Same H H2/\J i zs H2,⟨xs.length,rfl,Nat.zero_le _,rfl,upd_same,Same.new hD _,hJ _ _ _ _ j0 (TK.new hD _)⟩,?_⟩
 rintro i m zs H2 ⟨rfl,hi,hz,hDz,hS2,hj⟩
 refine ⟨hDz,?_⟩
 by_cases h : i < xs.length
 ·refine .inr ⟨⟨xs,xs[i],hS2.seq hS,List.getElem?_eq_getElem h⟩,?_⟩
  rintro x H3 ⟨rfl,hx⟩
  refine el i x zs H3 _ hS2 (hx xs (hS2.seq hS)) hj fun y H4 hS4 hj4=>⟨hS4 _ _ hDz,by omega,xs.length - (i + 1),by omega,rfl,h,(by rw [List.length_append,hz]; rfl),upd_same,fun b u q=>?_,hJ _ _ _ _ hj4 (TK.lst (hS4 _ _ hDz))⟩
  rw [upd_ne (ne_of_none q hD)]
  exact hS4 _ _ (hS2 _ _ q)
 ·have e : i = xs.length:=by omega
  subst e
  exact .inl ⟨⟨xs,hS2.seq hS,Nat.le_refl _⟩,fin D zs H2 hS2 hD hDz hz hj⟩
theorem c_get {cs : List Cl} {i : Nat} {d : PyData} (h : (cs.map dC)[i]? = some d) : ∃ c,cs[i]? = some c/\d = dC c:=by
 rw [List.getElem?_map] at h
 cases e : cs[i]? with
 | none=>rw [e] at h; cases h
 | some c=>rw [e] at h; exact ⟨c,rfl,(Option.some.inj h).symm⟩
def frC (c : Cl) : Int:=(if c.l - c.f < 0 then -(c.l - c.f) else c.l - c.f) + 1
def frS (cs : List Cl) : Int:=(cs.map frC).sum
def aA : Int->List Cl->Int
 | a,[]=>a
 | _,c :: r=>aA c.d r
theorem revA_snoc : ∀ (a : Int) (p : List Cl) (c : Cl),revA a (p ++ [c]) = revA a p ++ [⟨c.r,c.l,c.f,aA a p⟩]
 | a,[],c=>rfl
 | a,x :: r,c=>by rw [List.cons_append,revA,revA,revA_snoc x.d r c,aA]; rfl
theorem aA_snoc : ∀ (a : Int) (p : List Cl) (c : Cl),aA a (p ++ [c]) = c.d
 | a,[],c=>rfl
 | a,x :: r,c=>by rw [List.cons_append,aA,aA_snoc]
def fdA (cs : List Cl) (k : Nat) : Int:=((cs.map Cl.d) ++ [0]).getD k 0
def bad (cs : List Cl) (k : Nat) : Prop:=∃ c,cs[k]? = some c/\frC c < fdA cs k + fdA cs (k + 1)
theorem take_snoc {α : Type} {l : List α} {i : Nat} {x : α} (h : l[i]? = some x) : l.take (i + 1) = l.take i ++ [x]:=by rw [List.take_add_one,h]; rfl
section
variable {P : Program} {w : World} {K : PySem.W.Frag} {mg : Str->Option Value} {base : Heap}
def spFrIn : Sp:=fun vs H Q _=>∃ (v : V) (c : Cl),vs = [v]/\Td H v (dC c)/\Q (.int (frC c)) H
theorem scFrIn : FnScope ["clip"] ["clip"] (defScope s_frames_in):=⟨rfl,rfl,rfl,by decide +kernel,rfl,by decide +kernel,by decide +kernel⟩
theorem ok_frIn {f : Addr} {fd : FuncData} (F : Fun K "frames_in" "frames_in" s_frames_in f fd) (n_abs : mg "abs" = none) : FnOk P w K mg base CX0 1 f fd ["clip"] spFrIn:=by
 refine F.ok scFrIn (fun vs H Q E h=>?_) (fun cdv A outer s H vs Q E hr h=>?_)
 ·obtain ⟨v,c,rfl,_⟩:=h
  rfl
 obtain ⟨v,c,rfl,ht,q⟩:=h
 refine useQ (ss_one (s_ret (e_op op_add (e_b call_abs n_abs (by decide +kernel) (a_cons (e_op op_sub (e_ix ix_tup (e_v 0) e_int) (e_ix ix_tup (e_v 0) e_int)) a_nil)) e_int))) ?_
 obtain ⟨a,rfl,ha⟩:=td_cl ht
 exact ⟨_,rfl,a,_,_,_,rfl,rfl,SqT.of ha,atI_nat (j:=2) rfl,_,rfl,a,_,_,_,rfl,rfl,SqT.of ha,atI_nat (j:=1) rfl,_,_,rfl,rfl,_,rfl,_,_,rfl,rfl,q⟩
def spBackw : Sp:=fun vs H Q _=>∃ (l : Addr) (cs : List Cl),vs = [.ref l]/\CL H l cs/\cs.length <= 10000/\∀ l' H',Same H H'->H l' = none->CL H' l' (rev cs)->Q (.ref l') H'
theorem scBackw : FnScope ["clips", "told", "ahead", "reel", "first", "last", "fade"] ["clips"] (defScope s_backwards):=⟨rfl,rfl,rfl,by decide +kernel,rfl,by decide +kernel,by decide +kernel⟩
theorem ok_backw {f : Addr} {fd : FuncData} (F : Fun K "backwards" "backwards" s_backwards f fd) (n_reversed : mg "reversed" = none) : FnOk P w K mg base CX0 1 f fd ["clips"] spBackw:=by
 refine F.ok scBackw (fun vs H Q E h=>?_) (fun cdv A outer s H vs Q E hr h=>?_)
 ·obtain ⟨l,cs,rfl,_⟩:=h
  rfl
 obtain ⟨ls,cs,rfl,⟨us,hus,tus⟩,hlen,q⟩:=h
 refine useQ (ss_cons (s_set (i:=1) scBackw.nd (e_lst a_nil))
  (ss_cons (s_set (i:=2) scBackw.nd e_int)
  (ss_cons (s_for PassesOwn.never rfl (i_revL n_reversed (e_v 0)) (g_tup rfl (gs_cons (g_name (i:=3) scBackw.nd) (gs_cons (g_name (i:=4) scBackw.nd) (gs_cons (g_name (i:=5) scBackw.nd) (gs_cons (g_name (i:=6) scBackw.nd) gs_nil)))))
   (ss_cons (s_expr (e_append (e_v 1) (e_tup (a_cons (e_v 3) (a_cons (e_v 5) (a_cons (e_v 4) (a_cons (e_v 2) a_nil)))))))
   (ss_one (s_set (i:=2) scBackw.nd (e_v 6)))))
  (ss_one (s_ret (e_v 1)))))) ?_
 have zl : sizeLine = 16777216:=sizeLine_eq
 have lu : us.length = cs.length:=by rw [tus.len,List.length_map]
 refine ⟨(by show 0 <= sizeLine; decide),fun pm hpm=>?_⟩
 have s0:=Same.new hpm (.lst [])
 refine ⟨_,rfl,ls,_,rfl,SqL.of (s0 _ _ hus),for_revL (K:=K) (a:=ls) (xs:=us) (fun i σ H'=>∃ (o3 o4 o5 o6 : Option V),σ = [some (.ref ls),some (.ref pm),some (.int (aA 0 (cs.reverse.take i))),o3,o4,o5,o6]/\CL H' pm (revA 0 (cs.reverse.take i))/\Same H H') ⟨none,none,none,none,rfl,⟨[],upd_same,by rw [List.take_zero]; exact .nil⟩,s0⟩ (fun i σ H' _ ⟨_,_,_,_,_,_,sm⟩=>SqL.of (sm _ _ hus)) ?_ ?_⟩
 ·rintro i v σ H' hv ⟨o3,o4,o5,o6,rfl,⟨ws,hws,tws⟩,sm⟩
  obtain ⟨dd,hd,tv⟩:=(tus.rev.tk (TK.of sm)).get hv
  rw [<- List.map_reverse] at hd
  obtain ⟨c,hc,rfl⟩:=c_get hd
  obtain ⟨t,rfl,ht⟩:=td_cl tv
  have lw : ws.length = (revA 0 (cs.reverse.take i)).length:=by rw [tws.len,List.length_map]
  have lr : (revA 0 (cs.reverse.take i)).length <= cs.length:=by
   have key : ∀ (a : Int) (p : List Cl),(revA a p).length = p.length:=by
    intro a p
    induction p generalizing a with
    | nil=>rfl
    | cons x r ih=>rw [revA,List.length_cons,List.length_cons,ih]
   rw [key,List.length_take,List.length_reverse]
   omega
  refine ⟨t,_,rfl,SqT.of ht,rfl,_,_,rfl,_,_,rfl,_,_,rfl,_,_,rfl,rfl,?_⟩
  refine ⟨_,rfl,.inl ⟨rfl,_,SqL.of hws⟩,_,rfl,_,rfl,_,rfl,_,rfl,(by show 4 <= sizeLine; decide),fun p1 hp1=>?_⟩
  have t1:=Same.new hp1 (.tup [.str c.r,.int c.l,.int c.f,.int (aA 0 (cs.reverse.take i))])
  refine ⟨pm,_,_,rfl,rfl,t1 _ _ hws,by omega,?_⟩
  refine ⟨_,rfl,_,_,_,_,(by rw [take_snoc hc,aA_snoc]; rfl),⟨ws ++ [.ref p1],upd_same,?_⟩,fun b ob hb=>?_⟩
  ·rw [take_snoc hc,revA_snoc,List.map_append]
   exact ((tws.tk (TK.of t1)).app (Tds.one (mk_cl (c:=⟨c.r,c.l,c.f,aA 0 (cs.reverse.take i)⟩) upd_same))).tk (TK.lst (t1 _ _ hws))
  ·rw [upd_ne (ne_of_none hb hpm)]
   exact t1 _ _ (sm _ _ hb)
 ·rintro σ H' ⟨o3,o4,o5,o6,rfl,cl,sm⟩
  rw [lu,show cs.length = cs.reverse.length by rw [List.length_reverse],List.take_length] at cl
  exact ⟨_,rfl,q pm H' sm hpm cl⟩
def spFadedIn : Sp:=fun vs H Q _=>∃ (l : Addr) (cs : List Cl) (m : Int),vs = [.ref l,.int m]/\CL H l cs/\cs.length <= 10000/\∀ l' H',Same H H'->H l' = none->CL H' l' (setF m cs)->Q (.ref l') H'
theorem scFadedIn : FnScope ["clips", "many"] ["clips", "many"] (defScope s_faded_in):=⟨rfl,rfl,rfl,by decide +kernel,rfl,by decide +kernel,by decide +kernel⟩
theorem ok_fadedIn {f : Addr} {fd : FuncData} (F : Fun K "faded_in" "faded_in" s_faded_in f fd) : FnOk P w K mg base CX0 1 f fd ["clips", "many"] spFadedIn:=by
 refine F.ok scFadedIn (fun vs H Q E h=>?_) (fun cdv A outer s H vs Q E hr h=>?_)
 ·obtain ⟨l,cs,m,rfl,_⟩:=h
  rfl
 obtain ⟨ls,cs,m,rfl,⟨us,hus,tus⟩,hlen,q⟩:=h
 refine useQ (ss_one (s_ret (e_op op_cat (e_comp ["many"] [1] [("many",s.heap.objs.size + 1)] rfl ⟨rfl,rfl,rfl,rfl,trivial⟩ ⟨rfl,trivial⟩ (i_list (e_sl sl_list (e_v 0) o_none (o_some e_int))) (fun _ _ _ _=>(e_op op_catG (e_sl sl_tupG (e_n 0) o_none (o_some e_int)) (e_tup (a_cons (e_n 1) a_nil))))) (e_sl sl_list (e_v 0) (o_some e_int) o_none)))) ?_
 have zl : sizeLine = 16777216:=sizeLine_eq
 have lu : us.length = cs.length:=by rw [tus.len,List.length_map]
 refine ⟨_,rfl,_,rfl,ls,_,rfl,SqL.of hus,fun p1 hp1=>?_⟩
 rw [cut_first]
 have t1:=Same.new hp1 (.lst (us.take 1))
 have hp11:=upd_same (H:=H) (a:=p1) (o:=.lst (us.take 1))
 generalize upd H p1 (.lst (us.take 1)) = H1 at t1 hp11 ⊢
 refine ⟨p1,rfl,⟨_,SqL.of hp11⟩,comp_listN (K:=K) (fun i zs H'=>Tds H' zs ((setF m (cs.take i)).map dC)) (fun i zs H' H'' h k=>h.tk k) (SqL.of hp11) (by rw [List.length_take]; omega) (by rw [List.take_zero]; exact .nil) ?_ ?_⟩
 ·intro i x zs H' R sH hx hz hR
  have hi : i = 0:=by
   have:=(List.getElem?_eq_some_iff.mp hx).1
   rw [List.length_take] at this
   omega
  subst hi
  rw [List.getElem?_take,if_pos (by decide)] at hx
  obtain ⟨dd,hd,tv⟩:=(tus.tk (TK.of (t1.trans sH))).get hx
  obtain ⟨c,hc,rfl⟩:=c_get hd
  obtain ⟨t,rfl,ht⟩:=td_cl tv
  rw [List.take_zero] at hz
  cases hz
  refine ⟨_,rfl,_,rfl,t,_,rfl,ht,fun pt H2 s2 hpt=>?_⟩
  have ecut : cutV [V.str c.r,.int c.f,.int c.l,.int c.d] none (some 3) = [.str c.r,.int c.f,.int c.l]:=rfl
  rw [ecut] at hpt
  refine ⟨_,rfl,(by show 1 <= sizeLine; decide),fun pu hpu=>⟨pt,pu,_,_,rfl,rfl,Same.new hpu _ _ _ hpt,upd_same,(by show 4 <= sizeLine; decide),fun pv H3 s3 hpv=>?_⟩⟩
  refine hR _ _ (s2.trans ((Same.new hpu _).trans s3)) ?_
  obtain ⟨c0,r,rfl⟩ : ∃ c0 r,cs = c0 :: r:=by
   cases cs with
   | nil=>cases hc
   | cons a b=>exact ⟨a,b,rfl⟩
  cases hc
  exact Tds.one (mk_cl (c:=⟨c.r,c.f,c.l,m⟩) hpv)
 ·intro D zs H2 s2 hD0 hD hzl hz
  refine ⟨_,rfl,_,rfl,ls,_,rfl,SqL.of ((t1.trans s2) _ _ hus),fun p2 hp2=>?_⟩
  have ec : cutV us (some 1) none = us.drop 1:=cut_from us 1
  rw [ec]
  have t3:=Same.new hp2 (.lst (us.drop 1))
  refine ⟨D,p2,_,_,rfl,rfl,t3 _ _ hD,upd_same,(by rw [hzl,List.length_take,List.length_drop]; omega),fun p3 hp3=>?_⟩
  have t4:=Same.new hp3 (.lst (zs ++ us.drop 1))
  have S2:=t1.trans s2
  refine q p3 _ (S2.trans (t3.trans t4)) ((S2.trans t3).free hp3) ⟨_,upd_same,?_⟩
  have e : (setF m cs).map dC = (setF m (cs.take (us.take 1).length)).map dC ++ (cs.map dC).drop 1:=by
   cases cs with
   | nil=>rw [List.take_nil]; rfl
   | cons c r =>
    have : (us.take 1).length = 1:=by rw [List.length_take,lu,List.length_cons]; omega
    rw [this]
    rfl
  rw [e]
  exact (hz.tk (TK.of (t3.trans t4))).app ((tus.drop 1).tk (TK.of (S2.trans (t3.trans t4))))
def spRMany (CT : Addr) : Sp:=fun vs H Q E=>∃ n m : Int,vs = [.int n,.int m]/\(n <= m->Q .non H)/\(m < n->E (.ref CT) none H)
theorem scRMany : FnScope ["number", "most"] ["number", "most"] (defScope s_refuse_many):=⟨rfl,rfl,rfl,by decide +kernel,rfl,by decide +kernel,by decide +kernel⟩
theorem ok_rmany {f CT : Addr} {fd : FuncData} (F : Fun K "refuse_many" "refuse_many" s_refuse_many f fd) (m_TooMany : mg "TooMany" = some (.ref CT)) (q_TooMany : PySem.W.excIn K CT bmVE "ValueError.__new__" = true) : FnOk P w K mg base (CX1 P w) 1 f fd ["number", "most"] (spRMany CT):=by
 refine F.okX scRMany (fun vs H Q E h=>?_) (fun cdv A outer s H vs Q E hr h=>?_)
 ·obtain ⟨n,m,rfl,_⟩:=h
  rfl
 obtain ⟨n,m,rfl,q,e⟩:=h
 refine useQ (ss_one (s_if (t_cmp op_gt (e_v 0) (e_v 1))
   (ss_one (s_raise m_TooMany q_TooMany (a_cons e_str a_nil)))
   ss_nil)) ?_
 refine ⟨_,rfl,_,rfl,_,_,rfl,rfl,_,rfl,ite2 (fun c=>⟨by decide,e ?_⟩) (fun c=>q ?_)⟩
 ·have:=of_decide_eq_true c
  omega
 ·have : ¬ n > m:=fun z=>c (decide_eq_true z)
  omega
end
end K12
set_option maxHeartbeats 2000000
namespace K12
open PySem L2 G DT
open IT hiding It
section
variable {P : Program} {w : World} {K : PySem.W.Frag} {mg : Str->Option Value} {base : Heap}
theorem scInitS : FnScope ["self", "number"] ["self", "number"] (defScope s_TooShort_init):=⟨rfl,rfl,rfl,by decide +kernel,rfl,by decide +kernel,by decide +kernel⟩
theorem ok_initS {f C : Addr} {fd : FuncData} (F : Fun K "__init__" "TooShort.__init__" s_TooShort_init f fd) (XC : XCls K C) (XN : XNo K C "number") : FnOk P w K mg base CX0 1 f fd ["self", "number"] (spInit C "number"):=by
 refine F.ok scInitS (fun vs H Q E h=>?_) (fun cdv A outer s0 H vs Q E hr h=>?_)
 ·obtain ⟨a,y,rfl,_⟩:=h
  rfl
 obtain ⟨a,y,rfl,hH,q⟩:=h
 refine useQ (ss_one (s_xset (e_v 0) (e_v 1))) ?_
 exact ⟨_,rfl,_,rfl,a,C,rfl,XC,XN,.inl ⟨hH,fun dx n1 n2=>q dx n1 n2⟩⟩
theorem fd_at {cs : List Cl} {k : Nat} (h : k <= cs.length) : atI ((cs.map fun c=>V.int c.d) ++ [V.int 0]) ((k : Nat) : Int) = some (.int (fdA cs k)):=by
 refine atI_nat ?_
 have e : ((cs.map fun c=>V.int c.d) ++ [V.int 0]) = ((cs.map Cl.d) ++ [0]).map V.int:=by rw [List.map_append,List.map_map]; rfl
 rw [e,List.getElem?_map]
 unfold fdA
 have hl : k < ((cs.map Cl.d) ++ [0]).length:=by rw [List.length_append,List.length_map,List.length_singleton]; omega
 rw [List.getD_eq_getElem?_getD,List.getElem?_eq_getElem hl]
 rfl
def spRShort (CS : Addr) : Sp:=fun vs H Q E=>∃ (l : Addr) (cs : List Cl),vs = [.ref l]/\CL H l cs/\cs.length <= 10000/\(∀ k,bad cs k->(∀ j < k,¬ bad cs j)->∀ H' dx,Same H H'->H' dx = some (xdO dx [("number",.int (k : Int))])->E (.ref CS) (some dx) H')/\((∀ k,¬ bad cs k)->∀ H',Same H H'->Q .non H')
theorem scRShort : FnScope ["clips", "fades", "number", "clip"] ["clips"] (defScope s_refuse_short):=⟨rfl,rfl,rfl,by decide +kernel,rfl,by decide +kernel,by decide +kernel⟩
theorem ok_rshort {f CS fI : Addr} {fd fdI : FuncData} (F : Fun K "refuse_short" "refuse_short" s_refuse_short f fd) (dFrIn : Def P w K mg base CX0 "frames_in" 1 ["clip"] spFrIn) (n_enumerate : mg "enumerate" = none)
  (m_TooShort : mg "TooShort" = some (.ref CS)) (R_TooShort : XRaise K CS fI) (G_TooShort : FnOk P w K mg base CX0 1 fI fdI ["self", "number"] (spInit CS "number")) (b_TooShort : Binds K fdI ["self", "number"] []) : FnOk P w K mg base (CX1 P w) 3 f fd ["clips"] (spRShort CS):=by
 refine F.okX scRShort (fun vs H Q E h=>?_) (fun cdv A outer s H vs Q E hr h=>?_)
 ·obtain ⟨l,cs,rfl,_⟩:=h
  rfl
 obtain ⟨ls,cs,rfl,⟨us,hus,tus⟩,hlen,e,q⟩:=h
 refine useQ (ss_cons (s_set (i:=1) scRShort.nd (e_op op_cat (e_comp [] [] [] rfl trivial trivial (i_list (e_v 0)) (fun _ _ _ _=>(e_ix (ix_tupK (K:=K) rfl) (e_n 0) e_int))) (e_lst (a_cons e_int a_nil))))
  (ss_one (s_for PassesOwn.leaving rfl (i_enum n_enumerate (e_v 0)) (g_tup rfl (gs_cons (g_name (i:=2) scRShort.nd) (gs_cons (g_name (i:=3) scRShort.nd) gs_nil)))
   (ss_one (s_if (t_cmp op_lt (e_call dFrIn hr pass0 (a_cons (e_v 3) a_nil)) (e_op op_add (e_ix ix_list (e_v 1) (e_v 2)) (e_ix ix_list (e_v 1) (e_op op_add (e_v 2) e_int))))
    (ss_one (s_raiseI m_TooShort R_TooShort G_TooShort hr b_TooShort (a_cons (e_v 2) a_nil)))
    ss_nil))))) ?_
 have zl : sizeLine = 16777216:=sizeLine_eq
 have lu : us.length = cs.length:=by rw [tus.len,List.length_map]
 refine ⟨_,rfl,ls,rfl,⟨_,SqL.of hus⟩,comp_list (K:=K) (cs.map fun c=>V.int c.d) (SqL.of hus) (by omega) (by rw [List.length_map,lu]) ?_ ?_⟩
 ·intro i x y H' R sH hx hy hR
  obtain ⟨dd,hd,tv⟩:=(tus.tk (TK.of sH)).get hx
  obtain ⟨c,hc,rfl⟩:=c_get hd
  obtain ⟨t,rfl,ht⟩:=td_cl tv
  rw [List.getElem?_map,hc] at hy
  cases hy
  exact ⟨_,rfl,t,_,_,_,rfl,rfl,SqT.of ht,atI_nat (j:=3) rfl,hR _ (Same.refl _)⟩
 intro p1 H1 s1 hp10 hp1
 refine ⟨(by show 1 <= sizeLine; decide),fun p2 hp2=>?_⟩
 have t2:=Same.new hp2 (.lst [.int 0])
 refine ⟨p1,p2,_,_,rfl,rfl,t2 _ _ hp1,upd_same,(by show ((cs.map fun c=>V.int c.d)).length + 1 <= sizeLine; rw [List.length_map]; omega),fun p3 hp3=>?_⟩
 have t3:=Same.new hp3 (.lst ((cs.map fun c=>V.int c.d) ++ [V.int 0]))
 have S3:=s1.trans (t2.trans t3)
 have hp33:=upd_same (H:=upd H1 p2 (.lst [.int 0])) (a:=p3) (o:=.lst ((cs.map fun c=>V.int c.d) ++ [V.int 0]))
 generalize upd (upd H1 p2 (.lst [.int 0])) p3 (.lst ((cs.map fun c=>V.int c.d) ++ [V.int 0])) = H3 at S3 hp33 ⊢
 refine ⟨_,rfl,ls,rfl,⟨_,SqL.of (S3 _ _ hus)⟩,for_enum (K:=K) (a:=ls) (xs:=us) (fun i σ H'=>∃ (o2 o3 : Option V),σ = [some (.ref ls),some (.ref p3),o2,o3]/\Same H3 H'/\∀ j < i,¬ bad cs j) ⟨none,none,rfl,Same.refl _,fun j hj=>absurd hj (Nat.not_lt_zero _)⟩ (fun i σ H' _ ⟨_,_,_,sm,_⟩=>SqL.of ((S3.trans sm) _ _ hus)) ?_ ?_⟩
 ·rintro i x σ H' pe hx ⟨o2,o3,rfl,sm,nb⟩ hpe
  have te:=Same.new hpe (.tup [.int (i : Int),x])
  have hi : i < us.length:=(List.getElem?_eq_some_iff.mp hx).1
  have S4:=sm.trans te
  obtain ⟨dd,hd,tv⟩:=(tus.tk (TK.of (S3.trans S4))).get hx
  obtain ⟨c,hc,rfl⟩:=c_get hd
  have hp34:=S4 _ _ hp33
  refine ⟨pe,_,rfl,SqT.of upd_same,rfl,_,_,rfl,_,_,rfl,rfl,?_⟩
  generalize upd H' pe (.tup [.int (i : Int),x]) = H4 at S4 tv hp34 ⊢
  refine ⟨_,rfl,x,c,rfl,tv,_,rfl,_,rfl,p3,_,_,_,rfl,rfl,SqL.of hp34,fd_at (by omega),_,rfl,_,rfl,_,_,rfl,rfl,p3,_,_,_,rfl,rfl,SqL.of hp34,(by show atI _ ((i : Int) + 1) = _; rw [show ((i : Int) + 1) = ((i + 1 : Nat) : Int) by omega]; exact fd_at (by omega)),_,_,rfl,rfl,_,_,rfl,rfl,_,rfl,ite2 (fun z=>?_) (fun z=>?_)⟩
  ·have hb : bad cs i:=⟨c,hc,of_decide_eq_true z⟩
   refine ⟨_,rfl,(by show 1 <= sizeLine; decide),fun a ha=>⟨a,_,rfl,upd_same,fun dx n1 n2=>⟨rfl,some dx,upd_same,?_⟩⟩⟩
   obtain ⟨r1,r2⟩:=raised1 (x:=xdO dx [("number",V.int (i : Int))]) (o':=newO a CS (some dx)) (S3.trans S4) ha n1 n2
   exact e i hb nb _ dx r1 r2
  ·refine ⟨_,_,rfl,S4,fun j hj=>?_⟩
   by_cases hji : j < i
   ·exact nb j hji
   ·have : j = i:=by omega
    subst this
    rintro ⟨c',hc',hb⟩
    rw [hc] at hc'
    cases hc'
    exact z (decide_eq_true hb)
 ·rintro σ H' ⟨o2,o3,rfl,sm,nb⟩
  refine q (fun k hk=>?_) H' (S3.trans sm)
  obtain ⟨c,hc,_⟩:=id hk
  exact nb k (by have:=(List.getElem?_eq_some_iff.mp hc).1; omega) hk
structure FilmQ (CT CS : Addr) (cs : List Cl) (H : Hp) (E : XK) (R : Hp->Prop) : Prop where
 many : 100 < cs.length \/ 2000 < frS cs->∀ H',Same H H'->E (.ref CT) none H'
 short : cs.length <= 100->frS cs <= 2000->∀ k,bad cs k->(∀ j < k,¬ bad cs j)->∀ H' dx,Same H H'->H' dx = some (xdO dx [("number",.int (k : Int))])->E (.ref CS) (some dx) H'
 good : cs.length <= 100->frS cs <= 2000->(∀ k,¬ bad cs k)->∀ H',Same H H'->R H'
def spRFilm (CT CS : Addr) : Sp:=fun vs H Q E=>∃ (l : Addr) (cs : List Cl),vs = [.ref l]/\CL H l cs/\cs.length <= 10000/\FilmQ CT CS cs H E (Q .non)
theorem scRFilm : FnScope ["clips"] ["clips"] (defScope s_refuse_film):=⟨rfl,rfl,rfl,by decide +kernel,rfl,by decide +kernel,by decide +kernel⟩
theorem ok_rfilm {f CT CS : Addr} {fd : FuncData} (F : Fun K "refuse_film" "refuse_film" s_refuse_film f fd) (dRMany : Def P w K mg base (CX1 P w) "refuse_many" 1 ["number", "most"] (spRMany CT)) (dRShort : Def P w K mg base (CX1 P w) "refuse_short" 3 ["clips"] (spRShort CS)) (dFrIn : Def P w K mg base CX0 "frames_in" 1 ["clip"] spFrIn) (n_len : mg "len" = none) (n_sum : mg "sum" = none)
  {tMC tMF : Tok} (mMC : mg "MOST_CLIPS" = some (.int 100 tMC)) (mMF : mg "MOST_FRAMES" = some (.int 2000 tMF)) : FnOk P w K mg base (CX1 P w) 4 f fd ["clips"] (spRFilm CT CS):=by
 refine F.okX scRFilm (fun vs H Q E h=>?_) (fun cdv A outer s H vs Q E hr h=>?_)
 ·obtain ⟨l,cs,rfl,_⟩:=h
  rfl
 obtain ⟨ls,cs,rfl,cl,hlen,fq⟩:=h
 refine useQ (ss_cons (s_expr (e_call dRMany hr passX (a_cons (e_b call_len_seq n_len PySem.boot_len (a_cons (e_v 0) a_nil)) (a_cons (e_gl (v:=.int 100) mMC ⟨_,rfl⟩) a_nil)) (hj:=by omega)))
  (ss_cons (s_expr (e_call dRMany hr passX (a_cons (e_b call_sum n_sum (by decide +kernel) (a_cons (e_comp [] [] [] rfl trivial trivial (i_list (e_v 0)) (fun _ _ _ _=>(e_call dFrIn hr pass0 (a_cons (e_n 0) a_nil) (hj:=by omega)))) a_nil)) (a_cons (e_gl (v:=.int 2000) mMF ⟨_,rfl⟩) a_nil)) (hj:=by omega)))
  (ss_one (s_expr (e_call dRShort hr passX (a_cons (e_v 0) a_nil) (hj:=by omega)))))) ?_
 obtain ⟨us,hus,tus⟩:=id cl
 have zl : sizeLine = 16777216:=sizeLine_eq
 have lu : us.length = cs.length:=by rw [tus.len,List.length_map]
 refine ⟨_,rfl,ls,_,rfl,.inl (SqL.of hus),_,_,rfl,fun h1=>?_,fun h1=>fq.many (.inl (by omega)) H (Same.refl _)⟩
 have c1 : cs.length <= 100:=by omega
 refine ⟨_,rfl,ls,rfl,⟨_,SqL.of hus⟩,comp_list (K:=K) ((cs.map frC).map V.int) (SqL.of hus) (by omega) (by rw [List.length_map,List.length_map,lu]) ?_ ?_⟩
 ·intro i x y H' R sH hx hy hR
  obtain ⟨dd,hd,tv⟩:=(tus.tk (TK.of sH)).get hx
  obtain ⟨c,hc,rfl⟩:=c_get hd
  rw [List.getElem?_map,List.getElem?_map,hc] at hy
  cases hy
  exact ⟨_,rfl,x,c,rfl,tv,hR _ (Same.refl _)⟩
 intro p1 H1 s1 hp10 hp1
 refine ⟨p1,cs.map frC,rfl,SqL.of hp1,rfl,_,_,rfl,fun h2=>?_,fun h2=>fq.many (.inr h2) H1 s1⟩
 have cl1 : CL H1 ls cs:=⟨us,s1 _ _ hus,tus.tk (TK.of s1)⟩
 exact ⟨_,rfl,ls,cs,rfl,cl1,hlen,fun k hb nb H' dx s' hdx=>fq.short c1 h2 k hb nb H' dx (s1.trans s') hdx,fun nb H' s'=>fq.good c1 h2 nb H' (s1.trans s')⟩
end
end K12
set_option maxHeartbeats 2000000
namespace K12
open PySem L2 G DT
open IT hiding It
theorem atI_last3 {u v w' : V} : atI [u,v,w'] (-1) = some w':=rfl
theorem atI_last2 {u v : V} : atI [u,v] (-1) = some v:=rfl
def fadeOf (x : IT.It) (m : Int) : Int:=match x with
 | .fade k=>k
 | _=>m
theorem step_fade (x : IT.It) (F : List Cl) (m : Int) (h : flI x = []) (hw : WI x \/ ∃ m,x = .fade m) : step x (flI x) (F,m) = (F,fadeOf x m):=by
 rcases hw with w | ⟨k,rfl⟩
 ·exact absurd h w.h0.1
 ·rfl
theorem step_some (x : IT.It) (F : List Cl) (m : Int) (h : flI x ≠ []) : step x (flI x) (F,m) = (F ++ setF (fadeOf x m) (flI x),0)/\fadeOf x m = m:=by
 have hf : isF x = false:=by
  cases e : isF x with
  | false=>rfl
  | true=>exact absurd (fl_fade e) h
 have z : fadeOf x m = m:=by cases x <;> first | rfl | cases hf
 rw [z,step_nf hf h]
 exact ⟨rfl,rfl⟩
section
variable {P : Program} {w : World} {K : PySem.W.Frag} {mg : Str->Option Value} {base : Heap}
def spClipsOf (CT : Addr) (d : Nat) : Sp:=fun vs H Q E=>∃ (a pd : Addr) (xs : List IT.It) (T : Str->Int->Int->Prop) (G : Str->List IT.It->Prop) (ns : List Str),vs = [.ref a,.ref pd]/\Td H (.ref a) (.tuple (dL xs))/\PR H pd G/\Pa T G ns/\hL T G xs/\WL xs/\dpL xs <= d /\
 (cnL xs <= 100->∀ l H',Same H H'->H l = none->CL H' l (flL xs)->Q (.ref l) H')/\(100 < cnL xs->∀ H',Same H H'->E (.ref CT) none H')
def spClipsOfP (CT : Addr) : Nat->Sp
 | 0=>fun _ _ _ _=>False
 | d + 1=>spClipsOf CT d
theorem spClipsOfP_of {CT : Addr} {d : Nat} {vs : List V} {H : Hp} {Q : VK} {E : XK} (h : 0 < d) (z : spClipsOf CT (d - 1) vs H Q E) : spClipsOfP CT d vs H Q E:=by
 cases d with
 | zero=>exact absurd h (Nat.lt_irrefl _)
 | succ d=>exact z
def spClipsI (CT : Addr) (d : Nat) : Sp:=fun vs H Q E=>∃ (v : V) (pd : Addr) (x : IT.It) (T : Str->Int->Int->Prop) (G : Str->List IT.It->Prop) (ns : List Str),vs = [v,.ref pd]/\Td H v (dI x)/\PR H pd G/\Pa T G ns/\hI T G x/\WI x/\dpI x <= d /\
 (cnI x <= 100->∀ l H',Same H H'->H l = none->CL H' l (flI x)->Q (.ref l) H')/\(100 < cnI x->∀ H',Same H H'->E (.ref CT) none H')
theorem scClipsI : FnScope ["item", "parts", "clips"] ["item", "parts"] (defScope s_clips_of_item):=⟨rfl,rfl,rfl,by decide +kernel,rfl,by decide +kernel,by decide +kernel⟩
theorem ok_clipsI {d : Nat} {f CT : Addr} {fd : FuncData} (F : Fun K "clips_of_item" "clips_of_item" s_clips_of_item f fd) (dClipsOf : Def P w K mg base (CX1 P w) "clips_of" (2 * d + 1) ["items", "parts"] (spClipsOfP CT d)) (dRMany : Def P w K mg base (CX1 P w) "refuse_many" 1 ["number", "most"] (spRMany CT)) (dBackw : Def P w K mg base CX0 "backwards" 1 ["clips"] spBackw) (n_len : mg "len" = none)
  {tMC : Tok} (mMC : mg "MOST_CLIPS" = some (.int 100 tMC)) : FnOk P w K mg base (CX1 P w) (2 * d + 2) f fd ["item", "parts"] (spClipsI CT d):=by
 refine F.okX scClipsI (fun vs H Q E h=>?_) (fun cdv A outer s H vs Q E hr h=>?_)
 ·obtain ⟨v,pd,x,T,G,ns,rfl,_⟩:=h
  rfl
 obtain ⟨v,pd,x,T,G,ns,rfl,tv,pr,pa,hx,wx,hd,q,e⟩:=h
 refine useQ (ss_cons (s_if (t_cmp op_eq (e_ix ix_tup (e_v 0) e_int) e_str)
   (ss_one (s_ret (e_lst (a_cons (e_tup (a_cons (e_ix ix_tup (e_v 0) e_int) (a_cons (e_ix ix_tup (e_v 0) e_int) (a_cons (e_ix ix_tup (e_v 0) e_int) (a_cons e_int a_nil))))) a_nil))))
   ss_nil)
  (ss_cons (s_if (t_cmp op_eq (e_ix ix_tup (e_v 0) e_int) e_str)
   (ss_one (s_ret (e_call dClipsOf hr passX (a_cons (e_dget (hu_of hr) (e_v 1) (e_ix ix_tup (e_v 0) e_int)) (a_cons (e_v 1) a_nil)) (hj:=by omega))))
   ss_nil)
  (ss_cons (s_set (i:=2) scClipsI.nd (e_call dClipsOf hr passX (a_cons (e_ix ix_tup (e_v 0) (e_un un_neg e_int)) (a_cons (e_v 1) a_nil)) (hj:=by omega)))
  (ss_cons (s_if (t_cmp op_eq (e_ix ix_tup (e_v 0) e_int) e_str)
   (ss_one (s_ret (e_call dBackw hr pass0 (a_cons (e_v 2) a_nil) (hj:=by omega))))
   ss_nil)
  (ss_cons (s_expr (e_call dRMany hr passX (a_cons (e_op op_mul (e_b call_len_seq n_len PySem.boot_len (a_cons (e_v 2) a_nil)) (e_ix ix_tup (e_v 0) e_int)) (a_cons (e_gl (v:=.int 100) mMC ⟨_,rfl⟩) a_nil)) (hj:=by omega)))
  (ss_one (s_ret (e_op op_rep (e_v 2) (e_ix ix_tup (e_v 0) e_int))))))))) ?_
 have zl : sizeLine = 16777216:=sizeLine_eq
 cases x with
 | fade m=>cases wx
 | clip r cf cl =>
  obtain ⟨a,rfl,ha⟩:=td_clip tv
  refine ⟨_,rfl,a,_,_,_,rfl,rfl,SqT.of ha,atI_nat (j:=0) rfl,rfl,_,rfl,iteY (seq _) ?_⟩
  refine ⟨_,rfl,a,_,_,_,rfl,rfl,SqT.of ha,atI_nat (j:=1) rfl,_,rfl,a,_,_,_,rfl,rfl,SqT.of ha,atI_nat (j:=2) rfl,_,rfl,a,_,_,_,rfl,rfl,SqT.of ha,atI_nat (j:=3) rfl,(by show 4 <= sizeLine; decide),fun pt hpt=>⟨(by show 1 <= sizeLine; decide),fun lm hlm=>?_⟩⟩
  have tt:=Same.new hpt (.tup [.str r,.int cf,.int cl,.int 0])
  have tl:=Same.new hlm (.lst [.ref pt])
  refine q (by rw [cnI]; decide) lm _ (tt.trans tl) (tt.free hlm) ⟨_,upd_same,?_⟩
  rw [flI]
  exact .one (mk_cl (c:=⟨r,cf,cl,0⟩) (tl _ _ upd_same))
 | part n ys =>
  obtain ⟨a,rfl,ha⟩:=td_part tv
  rw [hI] at hx
  rw [dpI] at hd
  obtain ⟨b,hg,tb⟩:=pr.get hx.2
  refine ⟨_,rfl,a,_,_,_,rfl,rfl,SqT.of ha,atI_nat (j:=0) rfl,rfl,_,rfl,iteN sne ?_⟩
  refine ⟨_,rfl,a,_,_,_,rfl,rfl,SqT.of ha,atI_nat (j:=0) rfl,rfl,_,rfl,iteY (seq _) ?_⟩
  refine ⟨_,rfl,_,rfl,a,_,_,_,rfl,rfl,SqT.of ha,atI_nat (j:=1) rfl,pd,_,rfl,hg,_,rfl,spClipsOfP_of (by omega) ⟨b,pd,ys,T,G,ns,rfl,tb,pr,pa,pa.ok n ys hx.2,pa.wl n ys hx.2,by omega,fun hc l H2 s2 hl cl=>?_,fun hc H2 s2=>?_⟩⟩
  ·rw [<- flI_part n ys] at cl
   exact q (by rw [cnI]; exact hc) l H2 s2 hl cl
  ·exact e (by rw [cnI]; exact hc) H2 s2
 | times k ys =>
  obtain ⟨a,b,rfl,ha,tb⟩:=td_times tv
  rw [hI] at hx
  rw [dpI] at hd
  obtain ⟨k1,k2,wy⟩ : 1 <= k/\k <= 20/\WL ys:=by cases wx with | times h1 h2 h3=>exact ⟨h1,h2,h3⟩
  have cp:=cn_posL wy
  have ck : 1 * cnL ys <= k * cnL ys:=Int.mul_le_mul_of_nonneg_right k1 (by omega)
  have lcn:=cn_lenL wy
  refine ⟨_,rfl,a,_,_,_,rfl,rfl,SqT.of ha,atI_nat (j:=0) rfl,rfl,_,rfl,iteN sne ?_⟩
  refine ⟨_,rfl,a,_,_,_,rfl,rfl,SqT.of ha,atI_nat (j:=0) rfl,rfl,_,rfl,iteN sne ?_⟩
  refine ⟨_,rfl,_,rfl,a,_,_,_,rfl,rfl,SqT.of ha,atI_last3,_,rfl,spClipsOfP_of (by omega) ⟨b,pd,ys,T,G,ns,rfl,tb,pr,pa,hx,wy,by omega,fun hc l H2 s2 hl cl=>?_,fun hc H2 s2=>e (by rw [cnI]; omega) H2 s2⟩⟩
  obtain ⟨us,hus,tus⟩:=id cl
  have lu : us.length = (flL ys).length:=by rw [tus.len,List.length_map]
  have ha2:=s2 _ _ ha
  refine ⟨_,rfl,a,_,_,_,rfl,rfl,SqT.of ha2,atI_nat (j:=0) rfl,rfl,_,rfl,iteN sne ?_⟩
  have emul : ((us.length : Nat) : Int) * k = k * cnL ys:=by rw [lu,lcn,Int.mul_comm]
  refine ⟨_,rfl,l,_,rfl,.inl (SqL.of hus),_,rfl,a,_,_,_,rfl,rfl,SqT.of ha2,atI_nat (j:=1) rfl,_,_,rfl,rfl,.inr ⟨by omega,by omega⟩,_,_,rfl,fun h1=>?_,fun h1=>e (by rw [cnI]; omega) H2 s2⟩
  have hc2 : k * cnL ys <= 100:=by omega
  refine ⟨_,rfl,_,rfl,a,_,_,_,rfl,rfl,SqT.of ha2,atI_nat (j:=1) rfl,l,k,us,rfl,rfl,hus,by omega,by omega,?_,fun p hp=>?_⟩
  ·have : ((us.length * k.toNat : Nat) : Int) = ((us.length : Nat) : Int) * k:=by rw [Int.natCast_mul,Int.toNat_of_nonneg (by omega)]
   omega
  ·have tp:=Same.new hp (.lst (List.replicate k.toNat us).flatten)
   refine q (by rw [cnI]; exact hc2) p _ (s2.trans tp) (s2.free hp) ⟨_,upd_same,?_⟩
   have e3 : (flI (.times k ys)).map dC = (List.replicate k.toNat ((flL ys).map dC)).flatten:=by rw [flI_times,rep,List.map_flatten,List.map_replicate]
   rw [e3]
   exact (tus.rep k.toNat).tk (TK.of tp)
 | back ys =>
  obtain ⟨a,b,rfl,ha,tb⟩:=td_back tv
  rw [hI] at hx
  rw [dpI] at hd
  have wy : WL ys:=by cases wx with | back h3=>exact h3
  have lcn:=cn_lenL wy
  refine ⟨_,rfl,a,_,_,_,rfl,rfl,SqT.of ha,atI_nat (j:=0) rfl,rfl,_,rfl,iteN sne ?_⟩
  refine ⟨_,rfl,a,_,_,_,rfl,rfl,SqT.of ha,atI_nat (j:=0) rfl,rfl,_,rfl,iteN sne ?_⟩
  refine ⟨_,rfl,_,rfl,a,_,_,_,rfl,rfl,SqT.of ha,atI_last2,_,rfl,spClipsOfP_of (by omega) ⟨b,pd,ys,T,G,ns,rfl,tb,pr,pa,hx,wy,by omega,fun hc l H2 s2 hl cl=>?_,fun hc H2 s2=>e (by rw [cnI]; exact hc) H2 s2⟩⟩
  refine ⟨_,rfl,a,_,_,_,rfl,rfl,SqT.of (s2 _ _ ha),atI_nat (j:=0) rfl,rfl,_,rfl,iteY (seq _) ?_⟩
  refine ⟨_,rfl,l,flL ys,rfl,cl,by omega,fun l3 H3 s3 hl3 cl3=>?_⟩
  rw [<- flI_back ys] at cl3
  exact q (by rw [cnI]; exact hc) l3 H3 (s2.trans s3) (s2.free hl3) cl3
theorem scClipsOf : FnScope ["items", "parts", "clips", "fade", "item"] ["items", "parts"] (defScope s_clips_of):=⟨rfl,rfl,rfl,by decide +kernel,rfl,by decide +kernel,by decide +kernel⟩
theorem ok_clipsOf {d : Nat} {f CT : Addr} {fd : FuncData} (F : Fun K "clips_of" "clips_of" s_clips_of f fd) (dClipsI : Def P w K mg base (CX1 P w) "clips_of_item" (2 * d + 2) ["item", "parts"] (spClipsI CT d)) (dRMany : Def P w K mg base (CX1 P w) "refuse_many" 1 ["number", "most"] (spRMany CT)) (dFadedIn : Def P w K mg base CX0 "faded_in" 1 ["clips", "many"] spFadedIn) (n_len : mg "len" = none)
  {tMC : Tok} (mMC : mg "MOST_CLIPS" = some (.int 100 tMC)) : FnOk P w K mg base (CX1 P w) (2 * d + 3) f fd ["items", "parts"] (spClipsOf CT d):=by
 refine F.okX scClipsOf (fun vs H Q E h=>?_) (fun cdv A outer s H vs Q E hr h=>?_)
 ·obtain ⟨a,pd,xs,T,G,ns,rfl,_⟩:=h
  rfl
 obtain ⟨a,pd,xs,T,G,ns,rfl,ht,pr,pa,hl,hwl,hdp,q,e⟩:=h
 refine useQ (ss_cons (s_set (i:=2) scClipsOf.nd (e_lst a_nil))
  (ss_cons (s_set (i:=3) scClipsOf.nd e_int)
  (ss_cons (s_for PassesOwn.leaving rfl (i_tup (e_v 0)) (g_name (i:=4) scClipsOf.nd)
   (ss_one (s_if (t_cmp op_eq (e_ix ix_tup (e_v 4) e_int) e_str)
    (ss_one (s_set (i:=3) scClipsOf.nd (e_ix ix_tup (e_v 4) e_int)))
    (ss_cons (s_expr (e_extend (e_v 2) (e_call dFadedIn hr pass0 (a_cons (e_call dClipsI hr passX (a_cons (e_v 4) (a_cons (e_v 1) a_nil)) (hj:=by omega)) (a_cons (e_v 3) a_nil)) (hj:=by omega))))
    (ss_cons (s_expr (e_call dRMany hr passX (a_cons (e_b call_len_seq n_len PySem.boot_len (a_cons (e_v 2) a_nil)) (a_cons (e_gl (v:=.int 100) mMC ⟨_,rfl⟩) a_nil)) (hj:=by omega)))
    (ss_one (s_set (i:=3) scClipsOf.nd e_int)))))))
  (ss_one (s_ret (e_v 2)))))) ?_
 have zl : sizeLine = 16777216:=sizeLine_eq
 obtain ⟨a',vs,z,ha,tds⟩:=ht.tinv
 cases z
 have lv : vs.length = xs.length:=by rw [tds.len,dL_map,List.length_map]
 have hall:=hwl.mem
 refine ⟨(by show 0 <= sizeLine; decide),fun pf hpf=>?_⟩
 have s0:=Same.new hpf (.lst [])
 refine ⟨_,rfl,a,rfl,⟨_,SqT.of (s0 _ _ ha)⟩,for_tup (K:=K) (a:=a) (xs:=vs) (fun i σ H'=>∃ (F : List Cl) (m : Int) (o4 : Option V),σ = [some (.ref a),some (.ref pd),some (.ref pf),some (.int m),o4]/\IT.run (xs.take i) ([],0) = (F,m)/\CL H' pf F/\Same H H'/\cnL (xs.take i) <= 100)
  ⟨[],0,none,rfl,(by rw [List.take_zero,IT.run]),⟨[],upd_same,.nil⟩,s0,(by rw [List.take_zero,cnL]; decide)⟩ (fun i σ H' _ ⟨_,_,_,_,_,_,sm,_⟩=>SqT.of (sm _ _ ha)) ?_ ?_⟩
 ·rintro i v σ H' hv ⟨F,m,o4,rfl,hrun,hF,sm,hcn⟩
  obtain ⟨dd,hd,tv⟩:=tds.get hv
  obtain ⟨x,hx,rfl⟩:=dL_get hd
  have hxm : x ∈ xs:=List.mem_of_getElem? hx
  have hxw:=hall x hxm
  have tv:=tv.tk (TK.of sm)
  have hxh:=hL_mem hl hxm
  have hxc:=cnI_le hall hxm
  have hxd:=dpL_le.mp hdp x hxm
  have lenF : (F.length : Int) = cnL (xs.take i):=by
   have:=run_len (xs.take i) ([],0) fun y hy=>hall y (List.mem_of_mem_take hy)
   rw [hrun] at this
   simpa using this
  have hFi:=cnL_take xs (i + 1) hall
  have hsum : cnL (xs.take (i + 1)) = cnL (xs.take i) + cnI x:=by rw [take_snoc hx,cnL_app,cnL,cnL,Int.add_zero]
  have hrun1 : IT.run (xs.take (i + 1)) ([],0) = step x (flI x) (F,m):=by rw [take_snoc hx,IT.run_app,hrun,IT.run,IT.run]
  obtain ⟨us,hus,tus⟩:=id hF
  have lu : us.length = F.length:=by rw [tus.len,List.length_map]
  rcases hxw with wx | ⟨k,rfl⟩
  ·have hflen : ((flI x).length : Int) = cnI x:=cn_len wx
   have nf:=wx.nf
   obtain ⟨av,ws,rfl,hav⟩:=td_kd tv
   have nk : decide (V.str (kd x) = V.str "fade") = false:=by rw [kd_fade]; exact nf
   refine ⟨_,rfl,av,_,_,_,rfl,rfl,SqT.of hav,atI_nat (j:=0) rfl,rfl,_,rfl,iteN nk ?_⟩
   refine ⟨_,rfl,.inl ⟨rfl,_,SqL.of hus⟩,_,rfl,_,rfl,_,pd,x,T,G,ns,rfl,tv,pr.same sm,pa,hxh,wx,hxd,fun hc l2 H2 s2 hl2 cl2=>?_,fun hc H2 s2=>e (by omega) H2 (sm.trans s2)⟩
   refine ⟨_,rfl,l2,flI x,m,rfl,cl2,by omega,fun l3 H3 s3 hl3 cl3=>?_⟩
   obtain ⟨ts,hts,tts⟩:=cl3
   have S3:=s2.trans s3
   have lt : ts.length = (flI x).length:=by rw [tts.len,List.length_map,setF_len]
   have hus3:=S3 _ _ hus
   refine ⟨pf,l3,_,_,rfl,rfl,hus3,hts,by omega,?_⟩
   have hcl : CL (upd H3 pf (.lst (us ++ ts))) pf (F ++ setF m (flI x)):=⟨us ++ ts,upd_same,by
    rw [List.map_append]
    exact ((tus.tk (TK.of S3)).app tts).tk (TK.lst hus3)⟩
   have sm3 : Same H (upd H3 pf (.lst (us ++ ts))):=fun b ob hb=>by
    rw [upd_ne (ne_of_none hb hpf)]
    exact S3 _ _ (sm _ _ hb)
   have hpf3:=upd_same (H:=H3) (a:=pf) (o:=.lst (us ++ ts))
   generalize upd H3 pf (.lst (us ++ ts)) = H4 at hcl sm3 hpf3 ⊢
   have ln : (((us ++ ts).length : Nat) : Int) = cnL (xs.take (i + 1)):=by rw [List.length_append]; omega
   refine ⟨_,rfl,pf,_,rfl,.inl (SqL.of hpf3),_,_,rfl,fun h1=>?_,fun h1=>e (by omega) H4 sm3⟩
   refine ⟨F ++ setF m (flI x),0,_,rfl,?_,hcl,sm3,by omega⟩
   rw [hrun1,step_nf nf wx.h0.1]
  ·obtain ⟨av,rfl,hav⟩:=td_fade tv
   refine ⟨_,rfl,av,_,_,_,rfl,rfl,SqT.of hav,atI_nat (j:=0) rfl,rfl,_,rfl,iteY (seq _) ?_⟩
   refine ⟨_,rfl,av,_,_,_,rfl,rfl,SqT.of hav,atI_nat (j:=1) rfl,F,k,_,rfl,?_,hF,sm,?_⟩
   ·rw [hrun1]; rfl
   ·rw [hsum,cnI]; omega
 ·rintro σ H' ⟨F,m,o4,rfl,hrun,hF,sm,hcn⟩
  rw [lv,List.take_length] at hrun hcn
  have eF : flL xs = F:=by rw [flL,hrun]
  rw [<- eF] at hF
  exact ⟨_,rfl,q hcn pf H' sm hpf hF⟩
def spPlayed (CN CF CD CT CS : Addr) (d : Nat) : Sp:=fun vs H Q E=>∃ (p pd lr : Addr) (xs : List IT.It) (G G0 : Str->List IT.It->Prop) (A : Str->Prop) (ns : List Str) (prs : List (Addr × Reel)),vs = [.ref p,.ref pd,.ref lr]/\Td H (.ref p) (.tuple (dL xs))/\Pts H pd G G0 A ns prs/\RL H lr prs/\Uq prs/\dpL xs <= d /\
 ((WL xs/\hL (Ck prs) G xs/\FilmQ CT CS (flL xs) H E (fun _=>True)/\((flL xs).length <= 100->frS (flL xs) <= 2000->(∀ k,¬ bad (flL xs) k)->∀ l H',Same H H'->H l = none->CL H' l (flL xs)->Q (.ref l) H')) \/ ∃ e,Bk prs G G0 A xs e/\DueX CN CF CD (Same H) E e)
theorem scPlayed : FnScope ["items", "parts", "reels", "clips"] ["items", "parts", "reels"] (defScope s_played):=⟨rfl,rfl,rfl,by decide +kernel,rfl,by decide +kernel,by decide +kernel⟩
theorem ok_played {d : Nat} {f CN CF CD CT CS : Addr} {fd : FuncData} (F : Fun K "played" "played" s_played f fd) (dSound : Def P w K mg base (CX1 P w) "sound" (2 * d + 8) ["items", "parts", "reels"] (spSound CN CF CD d)) (dClipsOf : Def P w K mg base (CX1 P w) "clips_of" (2 * d + 3) ["items", "parts"] (spClipsOf CT d)) (dRFilm : Def P w K mg base (CX1 P w) "refuse_film" 4 ["clips"] (spRFilm CT CS)) : FnOk P w K mg base (CX1 P w) (2 * d + 9) f fd ["items", "parts", "reels"] (spPlayed CN CF CD CT CS d):=by
 refine F.okX scPlayed (fun vs H Q E h=>?_) (fun cdv A outer s H vs Q E hr h=>?_)
 ·obtain ⟨p,pd,lr,xs,G,G0,A,ns,prs,rfl,_⟩:=h
  rfl
 obtain ⟨p,pd,lr,xs,G,G0,A,ns,prs,rfl,td,pt,rl,uq,hd,q⟩:=h
 refine useQ (ss_cons (s_expr (e_call dSound hr passX (a_cons (e_v 0) (a_cons (e_v 1) (a_cons (e_v 2) a_nil))) (hj:=by omega)))
  (ss_cons (s_set (i:=3) scPlayed.nd (e_call dClipsOf hr passX (a_cons (e_v 0) (a_cons (e_v 1) a_nil)) (hj:=by omega)))
  (ss_cons (s_expr (e_call dRFilm hr passX (a_cons (e_v 3) a_nil) (hj:=by omega)))
  (ss_one (s_ret (e_v 3)))))) ?_
 refine ⟨_,rfl,_,rfl,_,rfl,p,pd,lr,xs,G,G0,A,ns,prs,rfl,td,pt,rl,uq,hd,?_⟩
 rcases q with ⟨wl,hl,fq,q⟩ | bad
 rotate_left
 ·exact .inr bad
 have lcn:=cn_lenL wl
 refine .inl ⟨wl,hl,fun H1 s1=>?_⟩
 refine ⟨_,rfl,_,rfl,p,pd,xs,_,G,ns,rfl,td.tk (TK.of s1),(pt.pr.sub pt.sub).same s1,pt.pa,hl,wl,hd,fun hc l H2 s2 hl2 cl=>?_,fun hc H2 s2=>fq.many (.inl (by omega)) H2 (s1.trans s2)⟩
 have S2:=s1.trans s2
 refine ⟨_,rfl,l,flL xs,rfl,cl,by omega,⟨fun h H' s'=>fq.many h H' (S2.trans s'),fun h1 h2 k hb nb H' dx s' hdx=>fq.short h1 h2 k hb nb H' dx (S2.trans s') hdx,fun h1 h2 nb H' s'=>?_⟩⟩
 obtain ⟨us,hus,tus⟩:=cl
 exact ⟨_,rfl,q h1 h2 nb l H' (S2.trans s') (s1.free hl2) ⟨us,s' _ _ hus,tus.tk (TK.of s')⟩⟩
end
end K12
set_option maxHeartbeats 2000000
namespace K12
open PySem L2 G DT
open IT hiding It
abbrev SX:=Ex
theorem SX.refl (p : Addr) (H : Hp) : SX p H H:=fun _ _ _ h=>h
theorem SX.trans {p : Addr} {H H1 H2 : Hp} (a : SX p H H1) (b : SX p H1 H2) : SX p H H2:=fun c o n h=>b c o n (a c o n h)
theorem SX.of {p : Addr} {H H' : Hp} (s : Same H H') : SX p H H':=fun b o _ h=>s b o h
theorem SX.upd {p : Addr} {H : Hp} {o : HO} : SX p H (upd H p o):=fun b u n h=>by rw [upd_ne n]; exact h
theorem SX.same {p : Addr} {H H1 H2 : Hp} (n : H p = none) (s : Same H H1) (x : SX p H1 H2) : Same H H2:=fun b o h=>x b o (ne_of_none h n) (s b o h)
theorem SX.tkL {p : Addr} {H H' : Hp} {xs : List V} (x : SX p H H') (h : H p = some (.lst xs)) : TK H H':=fun a ys e=>x a _ (ne_of e h (by intro z; cases z)) e
theorem SX.tkD {p : Addr} {H H' : Hp} {kvs : List (Key × V)} (x : SX p H H') (h : H p = some (.dK kvs)) : TK H H':=fun a ys e=>x a _ (ne_of e h (by intro z; cases z)) e
theorem c_at {H : Hp} {vs : List V} {cs : List Cl} {i : Nat} {c : Cl} (t : Tds H vs (cs.map dC)) (h : cs[i]? = some c) : ∃ v,vs[i]? = some v/\Td H v (dC c):=t.at (by rw [List.getElem?_map,h]; rfl)
section
variable {P : Program} {w : World} {K : PySem.W.Frag} {mg : Str->Option Value} {base : Heap}
def spFlat (d : Nat) : Sp:=fun vs H Q _=>∃ (a pd : Addr) (xs : List IT.It) (T : Str->Int->Int->Prop) (G : Str->List IT.It->Prop) (ns : List Str),vs = [.ref a,.ref pd]/\Td H (.ref a) (.tuple (dL xs))/\PR H pd G/\Pa T G ns/\hL T G xs/\WL xs/\cnL xs <= 10000000/\dpL xs <= d/\∀ l H',Same H H'->H l = none->CL H' l (flL xs)->Q (.ref l) H'
def spFlatP : Nat->Sp
 | 0=>fun _ _ _ _=>False
 | d + 1=>spFlat d
theorem spFlatP_of {d : Nat} {vs : List V} {H : Hp} {Q : VK} {E : XK} (h : 0 < d) (z : spFlat (d - 1) vs H Q E) : spFlatP d vs H Q E:=by
 cases d with
 | zero=>exact absurd h (Nat.lt_irrefl _)
 | succ d=>exact z
theorem scFlat : FnScope ["_law_items_here", "_law_parts", "_law_found", "_law_fade", "_law_item", "_law_more", "_law_some", "_law_k", "_law_reel", "_law_first", "_law_last", "_law_ahead", "_law_later"] ["_law_items_here", "_law_parts"] (defScope s__law_flat):=⟨rfl,rfl,rfl,by decide +kernel,rfl,by decide +kernel,by decide +kernel⟩
theorem ok_flat {d : Nat} {f : Addr} {fd : FuncData} (F : Fun K "_law_flat" "_law_flat" s__law_flat f fd) (dFlat : Def P w K mg base CX0 "_law_flat" (d + 1) ["_law_items_here", "_law_parts"] (spFlatP d)) (n_range : mg "range" = none) (n_len : mg "len" = none) :
  FnOk P w K mg base CX0 (d + 2) f fd ["_law_items_here", "_law_parts"] (spFlat d):=by
 refine F.ok scFlat (fun vs H Q E h=>?_) (fun cdv A outer s H vs Q E hr h=>?_)
 ·obtain ⟨a,pd,xs,T,G,ns,rfl,_⟩:=h
  rfl
 obtain ⟨a,pd,xs,T,G,ns,rfl,ht,hpd,pa,hok,hwl,hcn,hdp,q⟩:=h
 refine useQ (ss_cons (s_set (i:=2) scFlat.nd (e_lst a_nil))
  (ss_cons (s_set (i:=3) scFlat.nd e_int)
  (ss_cons (s_for PassesOwn.never rfl (i_tup (e_v 0)) (g_name (i:=4) scFlat.nd)
   (ss_cons (s_set (i:=5) scFlat.nd (e_lst a_nil))
   (ss_cons (s_cut (s_if (t_cmp op_eq (e_ix ix_tup (e_v 4) e_int) e_str)
    (ss_one (s_set (i:=3) scFlat.nd (e_ix ix_tup (e_v 4) e_int)))
    (ss_one (s_if (t_cmp op_eq (e_ix ix_tup (e_v 4) e_int) e_str)
     (ss_one (s_set (i:=5) scFlat.nd (e_lst (a_cons (e_tup (a_cons (e_ix ix_tup (e_v 4) e_int) (a_cons (e_ix ix_tup (e_v 4) e_int) (a_cons (e_ix ix_tup (e_v 4) e_int) (a_cons e_int a_nil))))) a_nil))))
     (ss_one (s_if (t_cmp op_eq (e_ix ix_tup (e_v 4) e_int) e_str)
      (ss_one (s_set (i:=5) scFlat.nd (e_call dFlat hr pass0 (a_cons (e_dget (hu_of hr) (e_v 1) (e_ix ix_tup (e_v 4) e_int)) (a_cons (e_v 1) a_nil)) (hj:=by omega))))
      (ss_one (s_if (t_cmp op_eq (e_ix ix_tup (e_v 4) e_int) e_str)
       (ss_one (s_set (i:=5) scFlat.nd (e_op op_rep (e_call dFlat hr pass0 (a_cons (e_ix ix_tup (e_v 4) e_int) (a_cons (e_v 1) a_nil)) (hj:=by omega)) (e_ix ix_tup (e_v 4) e_int))))
       (ss_cons (s_set (i:=6) scFlat.nd (e_call dFlat hr pass0 (a_cons (e_ix ix_tup (e_v 4) e_int) (a_cons (e_v 1) a_nil)) (hj:=by omega)))
       (ss_one (s_for PassesOwn.never rfl (i_rng1 n_range (e_b call_len_seq n_len PySem.boot_len (a_cons (e_v 6) a_nil))) (g_name (i:=7) scFlat.nd)
        (ss_cons (s_asg (e_ix ix_list (e_v 6) (e_op op_sub (e_op op_sub (e_b call_len_seq n_len PySem.boot_len (a_cons (e_v 6) a_nil)) e_int) (e_v 7))) (g_tup rfl (gs_cons (g_name (i:=8) scFlat.nd) (gs_cons (g_name (i:=9) scFlat.nd) (gs_cons (g_name (i:=10) scFlat.nd) (gs_cons (g_name (i:=11) scFlat.nd) gs_nil))))))
        (ss_cons (s_set (i:=12) scFlat.nd e_int)
        (ss_cons (s_cut (s_if (t_cmp op_gt (e_v 7) e_int)
         (ss_one (s_set (i:=12) scFlat.nd (e_ix ix_tup (e_ix ix_list (e_v 6) (e_op op_sub (e_b call_len_seq n_len PySem.boot_len (a_cons (e_v 6) a_nil)) (e_v 7))) e_int)))
         ss_nil))
        (ss_one (s_expr (e_append (e_v 5) (e_tup (a_cons (e_v 8) (a_cons (e_v 10) (a_cons (e_v 9) (a_cons (e_v 12) a_nil))))))))))))))))))))))
   (ss_one (s_if (t_cmp (op_neD hr) (e_v 5) (e_lst a_nil))
    (ss_cons (s_expr (e_append (e_v 2) (e_op op_catG (e_sl sl_tupG (e_ix ix_list (e_v 5) e_int) o_none (o_some e_int)) (e_tup (a_cons (e_v 3) a_nil)))))
    (ss_cons (s_expr (e_extend (e_v 2) (e_sl sl_list (e_v 5) (o_some e_int) o_none)))
    (ss_one (s_set (i:=3) scFlat.nd e_int))))
    ss_nil)))))
  (ss_one (s_ret (e_v 2)))))) ?_
 have zl : sizeLine = 16777216:=sizeLine_eq
 obtain ⟨a',vs,z,ha,tds⟩:=ht.tinv
 cases z
 have lv : vs.length = xs.length:=by rw [tds.len,dL_map,List.length_map]
 have hall:=hwl.mem
 refine ⟨(by show 0 <= sizeLine; decide),fun pf hpf=>?_⟩
 have s0:=Same.new hpf (.lst [])
 refine ⟨_,rfl,a,rfl,⟨_,SqT.of (s0 _ _ ha)⟩,for_tup (K:=K) (a:=a) (xs:=vs) (fun i σ H'=>∃ (F : List Cl) (m : Int) (o4 o5 o6 o7 o8 o9 o10 o11 o12 : Option V),σ = [some (.ref a),some (.ref pd),some (.ref pf),some (.int m),o4,o5,o6,o7,o8,o9,o10,o11,o12]/\IT.run (xs.take i) ([],0) = (F,m)/\CL H' pf F/\Same H H')
  ⟨[],0,none,none,none,none,none,none,none,none,none,rfl,(by rw [List.take_zero,IT.run]),⟨[],upd_same,.nil⟩,s0⟩ (fun i σ H' _ ⟨_,_,_,_,_,_,_,_,_,_,_,_,_,_,sm⟩=>SqT.of (sm _ _ ha)) ?_ ?_⟩
 ·rintro i v σ H' hv ⟨F,m,o4,o5,o6,o7,o8,o9,o10,o11,o12,rfl,hrun,hF,sm⟩
  obtain ⟨dd,hd,tv⟩:=tds.get hv
  obtain ⟨x,hx,rfl⟩:=dL_get hd
  have hxm : x ∈ xs:=List.mem_of_getElem? hx
  have hxw:=hall x hxm
  have tv:=tv.tk (TK.of sm)
  have hxo:=hL_mem hok hxm
  have hxc:=cnI_le hall hxm
  have hxd:=dpL_le.mp hdp x hxm
  have hnm:=nmI (fun n ys g=>okL_of (pa.ok n ys g)) (okI_of hxo)
  have hflen : ((flI x).length : Int) = cnI x:=by
   rcases hxw with w | ⟨k,rfl⟩
   ·exact cn_len w
   ·rw [flI,cnI]; rfl
  have lenF : (F.length : Int) = cnL (xs.take i):=by
   have:=run_len (xs.take i) ([],0) fun y hy=>hall y (List.mem_of_mem_take hy)
   rw [hrun] at this
   simpa using this
  have hFi:=cnL_take xs (i + 1) hall
  have hsum : cnL (xs.take (i + 1)) = cnL (xs.take i) + cnI x:=by rw [take_snoc hx,cnL_app,cnL,cnL,Int.add_zero]
  refine ⟨(by show 0 <= sizeLine; decide),fun pm hpm=>?_⟩
  have s1:=Same.new hpm (.lst [])
  have tv1:=tv.tk (TK.of s1)
  have S1:=sm.trans s1
  have hpd1:=hpd.same S1
  refine ⟨fun σ' H2=>∃ (lm : Addr) (o6 o7 o8 o9 o10 o11 o12 : Option V),σ' = [some (.ref a),some (.ref pd),some (.ref pf),some (.int (fadeOf x m)),some v,some (.ref lm),o6,o7,o8,o9,o10,o11,o12]/\CL H2 lm (flI x)/\lm ≠ pf/\Same H' H2,?_,?_⟩
  ·have npf : ∀ l,H' l = none->l ≠ pf:=fun l hl e=>by
    obtain ⟨us,hus,_⟩:=hF
    rw [e,hus] at hl
    cases hl
   cases x with
   | fade k =>
    obtain ⟨av,rfl,hav⟩:=td_fade tv1
    refine ⟨_,rfl,av,_,_,_,rfl,rfl,SqT.of hav,atI_nat (j:=0) rfl,rfl,_,rfl,iteY (seq _) ?_⟩
    exact ⟨_,rfl,av,_,_,_,rfl,rfl,SqT.of hav,atI_nat (j:=1) rfl,pm,_,_,_,_,_,_,_,rfl,⟨[],upd_same,by rw [flI]; exact .nil⟩,npf pm hpm,s1⟩
   | clip r f l =>
    obtain ⟨av,rfl,hav⟩:=td_clip tv1
    refine ⟨_,rfl,av,_,_,_,rfl,rfl,SqT.of hav,atI_nat (j:=0) rfl,rfl,_,rfl,iteN sne ?_⟩
    refine ⟨_,rfl,av,_,_,_,rfl,rfl,SqT.of hav,atI_nat (j:=0) rfl,rfl,_,rfl,iteY (seq _) ?_⟩
    refine ⟨_,rfl,av,_,_,_,rfl,rfl,SqT.of hav,atI_nat (j:=1) rfl,_,rfl,av,_,_,_,rfl,rfl,SqT.of hav,atI_nat (j:=2) rfl,_,rfl,av,_,_,_,rfl,rfl,SqT.of hav,atI_nat (j:=3) rfl,(by show 4 <= sizeLine; decide),fun pt hpt=>⟨(by show 1 <= sizeLine; decide),fun lm hlm=>?_⟩⟩
    have tt:=Same.new hpt (.tup [.str r,.int f,.int l,.int 0])
    have tl:=Same.new hlm (.lst [.ref pt])
    refine ⟨lm,_,_,_,_,_,_,_,rfl,⟨_,upd_same,?_⟩,npf lm ((s1.trans tt).free hlm),(s1.trans tt).trans tl⟩
    rw [flI]
    exact .one (mk_cl (c:=⟨r,f,l,0⟩) (tl _ _ upd_same))
   | part n ys =>
    obtain ⟨av,rfl,hav⟩:=td_part tv1
    rw [hI] at hxo
    rw [cnI] at hxc
    rw [dpI] at hxd
    obtain ⟨b,hg,tb⟩:=hpd1.get hxo.2
    refine ⟨_,rfl,av,_,_,_,rfl,rfl,SqT.of hav,atI_nat (j:=0) rfl,rfl,_,rfl,iteN sne ?_⟩
    refine ⟨_,rfl,av,_,_,_,rfl,rfl,SqT.of hav,atI_nat (j:=0) rfl,rfl,_,rfl,iteN sne ?_⟩
    refine ⟨_,rfl,av,_,_,_,rfl,rfl,SqT.of hav,atI_nat (j:=0) rfl,rfl,_,rfl,iteY (seq _) ?_⟩
    refine ⟨_,rfl,_,rfl,av,_,_,_,rfl,rfl,SqT.of hav,atI_nat (j:=1) rfl,pd,_,rfl,hg,_,rfl,spFlatP_of (by omega) ⟨b,pd,ys,T,G,ns,rfl,tb,hpd1,pa,pa.ok n ys hxo.2,pa.wl n ys hxo.2,by omega,by omega,fun l H2 s2 hl cl=>?_⟩⟩
    rw [<- flI_part n ys] at cl
    exact ⟨l,_,_,_,_,_,_,_,rfl,cl,npf l (s1.free hl),s1.trans s2⟩
   | times k ys =>
    obtain ⟨av,b,rfl,hav,tb⟩:=td_times tv1
    rw [hI] at hxo
    rw [dpI] at hxd
    obtain ⟨k1,k2,wy⟩ : 1 <= k/\k <= 20/\WL ys:=by
     rcases hxw with w | ⟨k,e⟩
     ·cases w with | times h1 h2 h3=>exact ⟨h1,h2,h3⟩
     ·cases e
    have cp:=cn_posL wy
    have ck : 1 * cnL ys <= k * cnL ys:=Int.mul_le_mul_of_nonneg_right k1 (by omega)
    rw [cnI] at hxc hflen
    refine ⟨_,rfl,av,_,_,_,rfl,rfl,SqT.of hav,atI_nat (j:=0) rfl,rfl,_,rfl,iteN sne ?_⟩
    refine ⟨_,rfl,av,_,_,_,rfl,rfl,SqT.of hav,atI_nat (j:=0) rfl,rfl,_,rfl,iteN sne ?_⟩
    refine ⟨_,rfl,av,_,_,_,rfl,rfl,SqT.of hav,atI_nat (j:=0) rfl,rfl,_,rfl,iteN sne ?_⟩
    refine ⟨_,rfl,av,_,_,_,rfl,rfl,SqT.of hav,atI_nat (j:=0) rfl,rfl,_,rfl,iteY (seq _) ?_⟩
    refine ⟨_,rfl,av,_,_,_,rfl,rfl,SqT.of hav,atI_nat (j:=2) rfl,_,rfl,spFlatP_of (by omega) ⟨b,pd,ys,T,G,ns,rfl,tb,hpd1,pa,hxo,wy,by omega,by omega,fun l H2 s2 hl cl=>?_⟩⟩
    obtain ⟨us,hus,tus⟩:=cl
    have hav2:=s2 _ _ hav
    refine ⟨_,rfl,av,_,_,_,rfl,rfl,SqT.of hav2,atI_nat (j:=1) rfl,l,k,us,rfl,rfl,hus,by omega,by omega,?_,fun p hp=>?_⟩
    ·have e1 : us.length = (flL ys).length:=by rw [tus.len,List.length_map]
     have e2 : ((flI (.times k ys)).length : Int) = k * cnL ys:=hflen
     rw [flI_times,rep_len] at e2
     rw [e1,Nat.mul_comm]
     omega
    ·have tp:=Same.new hp (.lst (List.replicate k.toNat us).flatten)
     refine ⟨p,_,_,_,_,_,_,_,rfl,⟨_,upd_same,?_⟩,npf p ((s1.trans s2).free hp),(s1.trans s2).trans tp⟩
     have e3 : (flI (.times k ys)).map dC = (List.replicate k.toNat ((flL ys).map dC)).flatten:=by
      rw [flI_times,rep,List.map_flatten,List.map_replicate]
     rw [e3]
     exact (tus.rep k.toNat).tk (TK.of tp)
   | back ys =>
    obtain ⟨av,b,rfl,hav,tb⟩:=td_back tv1
    rw [hI] at hxo
    rw [dpI] at hxd
    have wy : WL ys:=by
     rcases hxw with w | ⟨k,e⟩
     ·cases w with | back h3=>exact h3
     ·cases e
    rw [cnI] at hxc
    refine ⟨_,rfl,av,_,_,_,rfl,rfl,SqT.of hav,atI_nat (j:=0) rfl,rfl,_,rfl,iteN sne ?_⟩
    refine ⟨_,rfl,av,_,_,_,rfl,rfl,SqT.of hav,atI_nat (j:=0) rfl,rfl,_,rfl,iteN sne ?_⟩
    refine ⟨_,rfl,av,_,_,_,rfl,rfl,SqT.of hav,atI_nat (j:=0) rfl,rfl,_,rfl,iteN sne ?_⟩
    refine ⟨_,rfl,av,_,_,_,rfl,rfl,SqT.of hav,atI_nat (j:=0) rfl,rfl,_,rfl,iteN sne ?_⟩
    refine ⟨_,rfl,av,_,_,_,rfl,rfl,SqT.of hav,atI_nat (j:=1) rfl,_,rfl,spFlatP_of (by omega) ⟨b,pd,ys,T,G,ns,rfl,tb,hpd1,pa,hxo,wy,by omega,by omega,fun ls H2 s2 hl cl=>?_⟩⟩
    obtain ⟨us,hus,tus⟩:=cl
    have hpm2:=s2 _ _ (upd_same (H:=H') (a:=pm) (o:=.lst []))
    have npm : ls ≠ pm:=fun e=>by rw [e,upd_same] at hl; cases hl
    have lu : us.length = (flL ys).length:=by rw [tus.len,List.length_map]
    have lcn:=cn_lenL wy
    generalize hcs : flL ys = cs at *
    refine ⟨_,rfl,ls,_,rfl,.inl (SqL.of hus),_,rfl,by omega,by omega,for_range (lo:=0) (n:=us.length) (fun j σ H3=>∃ (o7 o8 o9 o10 o11 o12 : Option V),σ = [some (.ref a),some (.ref pd),some (.ref pf),some (.int m),some (.ref av),some (.ref pm),some (.ref ls),o7,o8,o9,o10,o11,o12]/\CL H3 pm ((rev cs).take j)/\SX pm H2 H3) ⟨_,_,_,_,_,_,rfl,⟨[],hpm2,by rw [List.take_zero]; exact .nil⟩,SX.refl _ _⟩ ?_ ?_⟩
    ·rintro j σ H3 hj ⟨o7,o8,o9,o10,o11,o12,rfl,⟨ws,hws,tws⟩,sx⟩
     have hls:=sx _ _ npm hus
     have tk : TK H2 H3:=sx.tkL hpm2
     obtain ⟨c,hc⟩ : ∃ c,cs[cs.length - 1 - j]? = some c:=⟨_,List.getElem?_eq_getElem (by omega)⟩
     obtain ⟨v,hv,tv⟩:=c_at tus hc
     obtain ⟨t,rfl,ht⟩:=td_cl (tv.tk tk)
     have hat : atI us (((us.length : Nat) : Int) - 1 - (0 + (j : Int))) = some (.ref t):=by
      have e : ((us.length : Nat) : Int) - 1 - (0 + (j : Int)) = ((cs.length - 1 - j : Nat) : Int):=by omega
      rw [e]
      exact atI_nat hv
     refine ⟨_,rfl,_,rfl,ls,_,rfl,.inl (SqL.of hls),_,_,rfl,rfl,_,rfl,_,_,rfl,rfl,ls,_,_,_,rfl,rfl,SqL.of hls,hat,t,_,rfl,SqT.of ht,rfl,_,_,rfl,_,_,rfl,_,_,rfl,_,_,rfl,rfl,?_⟩
     refine ⟨fun σ' H4=>σ' = [some (.ref a),some (.ref pd),some (.ref pf),some (.int m),some (.ref av),some (.ref pm),some (.ref ls),some (.int (0 + (j : Int))),some (.str c.r),some (.int c.f),some (.int c.l),some (.int c.d),some (.int (if j = 0 then 0 else ((cs[cs.length - j]?).map (·.d)).getD 0))]/\H4 = H3,?_,?_⟩
     ·refine ⟨_,rfl,_,_,rfl,rfl,_,rfl,?_⟩
      refine ite2 (fun c1=>?_) (fun c1=>?_)
      ·have hi0 : j ≠ 0:=by
        have:=of_decide_eq_true c1
        omega
       obtain ⟨c2,hc2⟩ : ∃ c,cs[cs.length - j]? = some c:=⟨_,List.getElem?_eq_getElem (by omega)⟩
       obtain ⟨v2,hv2,tv2⟩:=c_at tus hc2
       obtain ⟨t2,rfl,ht2⟩:=td_cl (tv2.tk tk)
       have hat2 : atI us (((us.length : Nat) : Int) - (0 + (j : Int))) = some (.ref t2):=by
        have e : ((us.length : Nat) : Int) - (0 + (j : Int)) = ((cs.length - j : Nat) : Int):=by omega
        rw [e]
        exact atI_nat hv2
       refine ⟨_,rfl,_,rfl,ls,_,rfl,.inl (SqL.of hls),_,rfl,_,_,rfl,rfl,ls,_,_,_,rfl,rfl,SqL.of hls,hat2,t2,_,_,_,rfl,rfl,SqT.of ht2,atI_nat (j:=3) rfl,?_,rfl⟩
       rw [if_neg hi0,hc2]
       rfl
      ·have hi0 : j = 0:=by
        have:=of_decide_eq_false (Bool.eq_false_iff.mpr c1)
        omega
       subst hi0
       exact ⟨rfl,rfl⟩
     rintro σ H4 ⟨rfl,rfl⟩
     refine ⟨_,rfl,.inl ⟨rfl,_,SqL.of hws⟩,_,rfl,_,rfl,_,rfl,_,rfl,(by show 4 <= sizeLine; decide),fun pt hpt=>?_⟩
     have tt:=Same.new hpt (.tup [.str c.r,.int c.l,.int c.f,.int (if j = 0 then 0 else ((cs[cs.length - j]?).map (·.d)).getD 0)])
     have lw : ws.length = j:=by rw [tws.len,List.length_map,List.length_take,rev_len]; omega
     refine ⟨pm,_,_,rfl,rfl,tt _ _ hws,by omega,_,_,_,_,_,_,rfl,⟨_,upd_same,?_⟩,(sx.trans (SX.of tt)).trans SX.upd⟩
     rw [take_snoc (rev_get (by omega) hc),List.map_append]
     exact ((tws.tk (TK.of tt)).app (.one (mk_cl (c:=⟨c.r,c.l,c.f,if j = 0 then 0 else ((cs[cs.length - j]?).map (·.d)).getD 0⟩) upd_same))).tk (TK.lst (tt _ _ hws))
    ·rintro σ H3 ⟨o7,o8,o9,o10,o11,o12,rfl,cl,sx⟩
     rw [List.take_of_length_le (by rw [rev_len]; omega),<- hcs,<- flI_back] at cl
     exact ⟨pm,_,_,_,_,_,_,_,rfl,cl,npf pm hpm,SX.same hpm (s1.trans s2) sx⟩
  rintro σ H2 ⟨lm,o6,o7,o8,o9,o10,o11,o12,rfl,⟨us,hus,tus⟩,nlm,s2⟩
  have lus : us.length = (flI x).length:=by rw [tus.len,List.length_map]
  refine ⟨_,rfl,(by show 0 <= sizeLine; decide),fun p0 hp0=>?_⟩
  have t0:=Same.new hp0 (.lst [])
  refine ⟨.list ((flI x).map dC),.list [],.lst (SqL.of (t0 _ _ hus)) (tus.tk (TK.of t0)).den,.lst (SqL.of upd_same) .nil,(by rw [PyData.canLay0]; exact lay_cls hnm),rfl,Nat.le_trans (Nat.min_le_left _ _) (by rw [PyData.depth]; have:=dep_cls (flI x); omega),_,rfl,?_⟩
  have ST:=s2.trans t0
  cases hfl : flI x with
  | nil =>
   refine iteN (by rw [List.map_nil,PySem.SeqAt.eqv_refl _ rfl]; rfl) ?_
   refine ⟨F,fadeOf x m,_,_,_,_,_,_,_,_,_,rfl,?_,hF.same ST,sm.trans ST⟩
   rw [run_take hx,hrun,step_fade x F m hfl hxw]
  | cons c r =>
   refine iteY rfl ?_
   obtain ⟨fs,hfs,tfs⟩:=hF.same ST
   rw [hfl] at tus lus
   rw [List.length_cons] at lus
   have hus0:=t0 _ _ hus
   obtain ⟨v0,hv0,tv0⟩:=c_at (cs:=c :: r) (i:=0) tus rfl
   obtain ⟨q0,rfl,hq0⟩:=td_cl (tv0.tk (TK.of t0))
   have lenFs : fs.length = F.length:=by rw [tfs.len,List.length_map]
   have hlr : ((flI x).length : Int) = r.length + 1:=by rw [hfl]; rfl
   refine ⟨_,rfl,.inl ⟨rfl,_,SqL.of hfs⟩,_,rfl,lm,_,_,_,rfl,rfl,SqL.of hus0,atI_nat (j:=0) hv0,_,rfl,q0,_,rfl,hq0,fun p1 H3 s3 h3=>⟨_,rfl,(by show 1 <= sizeLine; decide),fun p2 hp2=>?_⟩⟩
   have t2:=Same.new hp2 (.tup [.int (fadeOf x m)])
   refine ⟨p1,p2,_,_,rfl,rfl,t2 _ _ h3,upd_same,(by show 4 <= sizeLine; decide),fun p3 H4 s4 h4=>?_⟩
   have U:=(s3.trans t2).trans s4
   refine ⟨pf,_,_,rfl,rfl,U _ _ hfs,by omega,?_⟩
   have hus4 : (upd H4 pf (.lst (fs ++ [.ref p3]))) lm = some (.lst us):=by rw [upd_ne nlm]; exact U _ _ hus0
   refine ⟨_,rfl,.inl ⟨rfl,_,SqL.of upd_same⟩,_,rfl,_,rfl,lm,_,rfl,SqL.of hus4,fun p4 hp4=>?_⟩
   have t4:=Same.new hp4 (.lst (cutV us (some 1) none))
   have ecut : cutV us (some 1) none = us.drop 1:=cut_from us 1
   refine ⟨pf,p4,_,_,rfl,rfl,t4 _ _ upd_same,upd_same,?_,?_⟩
   ·rw [ecut,List.length_append,List.length_drop]
    simp only [List.length_cons,List.length_nil]
    omega
   ·obtain ⟨e1,e2⟩:=step_some x F m (by rw [hfl]; exact List.cons_ne_nil _ _)
    refine ⟨F ++ setF (fadeOf x m) (flI x),0,_,_,_,_,_,_,_,_,_,rfl,by rw [run_take hx,hrun,e1],⟨_,upd_same,?_⟩,fun b o hb=>?_⟩
    ·rw [hfl,setF,List.map_append,List.map_cons,ecut]
     have ka : TK H2 (upd (upd H4 pf (.lst (fs ++ [.ref p3]))) p4 (.lst (us.drop 1))):=((TK.of (t0.trans U)).trans (TK.lst (U _ _ hfs))).trans (TK.new hp4 _)
     have kb : TK (upd H2 p0 (.lst [])) (upd (upd H4 pf (.lst (fs ++ [.ref p3]))) p4 (.lst (us.drop 1))):=((TK.of U).trans (TK.lst (U _ _ hfs))).trans (TK.new hp4 _)
     have kc : TK H4 (upd (upd H4 pf (.lst (fs ++ [.ref p3]))) p4 (.lst (us.drop 1))):=(TK.lst (U _ _ hfs)).trans (TK.new hp4 _)
     have kd : TK (upd (upd H4 pf (.lst (fs ++ [.ref p3]))) p4 (.lst (us.drop 1))) (upd (upd (upd H4 pf (.lst (fs ++ [.ref p3]))) p4 (.lst (us.drop 1))) pf (.lst (fs ++ [.ref p3] ++ us.drop 1))):=TK.lst (xs:=fs ++ [.ref p3]) (by rw [<- ecut]; exact t4 _ _ upd_same)
     have a1:=(tfs.tk kb).tk kd
     have a2 : Td _ (.ref p3) (dC ⟨c.r,c.f,c.l,fadeOf x m⟩):=(mk_cl (c:=⟨c.r,c.f,c.l,fadeOf x m⟩) (kc _ _ h4)).tk kd
     have a3:=((tus.drop 1).tk ka).tk kd
     have a4:=a1.app (.cons a2 a3)
     rw [show fs ++ V.ref p3 :: us.drop 1 = fs ++ [V.ref p3] ++ us.drop 1 by simp] at a4
     exact a4
    ·have hbn : b ≠ pf:=ne_of_none hb hpf
     rw [upd_ne hbn]
     refine t4 _ _ ?_
     rw [upd_ne hbn]
     exact U _ _ (ST _ _ (sm _ _ hb))
 ·rintro σ H' ⟨F,m,o4,o5,o6,o7,o8,o9,o10,o11,o12,rfl,hrun,hF,sm⟩
  rw [lv,List.take_length] at hrun
  have e : flL xs = F:=by rw [flL,hrun]
  rw [<- e] at hF
  exact ⟨_,rfl,q pf H' sm hpf hF⟩
end
end K12
set_option maxHeartbeats 2000000
namespace K12
open PySem L2 G DT
open IT hiding It
section
variable {P : Program} {w : World} {K : PySem.W.Frag} {mg : Str->Option Value} {base : Heap}
structure KN (G : Str->List IT.It->Prop) (ns : List Str) (H : Hp) (kvs : List (Key × V)) : Prop where
 nd : (kvs.map (·.1)).Nodup
 ks : ∀ k ∈ kvs.map (·.1),∃ n ∈ ns,k = Sum.inr n
 vs : ∀ n v,valV kvs (Sum.inr n) = some v->∃ t ys,v = .ref t/\G n ys/\H t = some (.tup [.int (cnL ys),.int (frL ys)])
theorem KN.tk {G : Str->List IT.It->Prop} {ns : List Str} {H H' : Hp} {kvs : List (Key × V)} (h : KN G ns H kvs) (t : TK H H') : KN G ns H' kvs:=⟨h.nd,h.ks,fun n v e=>by
 obtain ⟨a,ys,r,g,z⟩:=h.vs n v e
 exact ⟨a,ys,r,g,t _ _ z⟩⟩
theorem KN.len {G : Str->List IT.It->Prop} {ns : List Str} {H : Hp} {kvs : List (Key × V)} (h : KN G ns H kvs) : kvs.length <= ns.length:=by
 have:=nodup_len (m:=ns.map Sum.inr) h.nd fun k hk=>by
  obtain ⟨n,hn,rfl⟩:=h.ks k hk
  exact List.mem_map.mpr ⟨n,hn,rfl⟩
 rwa [List.length_map,List.length_map] at this
theorem keys_put {kvs : List (Key × V)} {k : Key} {v : V} : (putK kvs k v).map (·.1) = kvs.map (·.1) \/ (valV kvs k = none/\(putK kvs k v).map (·.1) = kvs.map (·.1) ++ [k]):=by
 cases e : valV kvs k with
 | none=>exact .inr ⟨rfl,by rw [putK_new v e,List.map_append]; rfl⟩
 | some u =>
  refine .inl ?_
  unfold putK
  rw [valV_any,e,Option.isSome_some,if_pos rfl,List.map_map]
  refine List.map_congr_left fun p _=>?_
  show (if p.1 = k then (p.1,v) else p).1 = p.1
  split <;> rfl
theorem KN.put {G : Str->List IT.It->Prop} {ns : List Str} {H : Hp} {kvs : List (Key × V)} {n : Str} {ys : List IT.It} {t : Addr} (h : KN G ns H kvs) (hn : n ∈ ns) (g : G n ys) (ht : H t = some (.tup [.int (cnL ys),.int (frL ys)])) : KN G ns H (putK kvs (Sum.inr n) (.ref t)) where
 nd:=by
  rcases keys_put (kvs:=kvs) (k:=Sum.inr n) (v:=.ref t) with e | ⟨e1,e2⟩
  ·rw [e]; exact h.nd
  ·rw [e2]; exact nd_snoc h.nd (valV_not e1)
 ks:=fun k hk=>by
  rcases keys_put (kvs:=kvs) (k:=Sum.inr n) (v:=.ref t) with e | ⟨e1,e2⟩
  ·rw [e] at hk; exact h.ks k hk
  ·rw [e2] at hk
   rcases List.mem_append.mp hk with z | z
   ·exact h.ks k z
   ·exact ⟨n,hn,List.mem_singleton.mp z⟩
 vs:=fun m v e=>by
  rw [valV_put] at e
  by_cases z : (Sum.inr m : Key) = Sum.inr n
  ·rw [if_pos z] at e
   cases e
   cases z
   exact ⟨t,ys,rfl,g,ht⟩
  ·rw [if_neg z] at e
   exact h.vs m v e
def spCount (d : Nat) : Sp:=fun vs H Q _=>∃ (a pd pk : Addr) (xs : List IT.It) (T : Str->Int->Int->Prop) (G : Str->List IT.It->Prop) (ns : List Str) (kvs : List (Key × V)),vs = [.ref a,.ref pd,.ref pk]/\Td H (.ref a) (.tuple (dL xs))/\PR H pd G/\Pa T G ns/\hL T G xs/\WL xs/\dpL xs <= d/\pk ≠ pd/\H pk = some (.dK kvs)/\KN G ns H kvs /\
 ∀ t H' kvs',SX pk H H'->H' pk = some (.dK kvs')->KN G ns H' kvs'->H' t = some (.tup [.int (cnL xs),.int (frL xs)])->Q (.ref t) H'
def spCountP : Nat->Sp
 | 0=>fun _ _ _ _=>False
 | d + 1=>spCount d
theorem spCountP_of {d : Nat} {vs : List V} {H : Hp} {Q : VK} {E : XK} (h : 0 < d) (z : spCount (d - 1) vs H Q E) : spCountP d vs H Q E:=by
 cases d with
 | zero=>exact absurd h (Nat.lt_irrefl _)
 | succ d=>exact z
theorem scCount : FnScope ["_law_items_here", "_law_parts", "_law_known", "_law_clips", "_law_frames", "_law_item", "_law_more", "_law_one"] ["_law_items_here", "_law_parts", "_law_known"] (defScope s__law_count):=⟨rfl,rfl,rfl,by decide +kernel,rfl,by decide +kernel,by decide +kernel⟩
theorem ok_count {d : Nat} {f : Addr} {fd : FuncData} (F : Fun K "_law_count" "_law_count" s__law_count f fd) (dCount : Def P w K mg base CX0 "_law_count" (d + 1) ["_law_items_here", "_law_parts", "_law_known"] (spCountP d)) (n_abs : mg "abs" = none) :
  FnOk P w K mg base CX0 (d + 2) f fd ["_law_items_here", "_law_parts", "_law_known"] (spCount d):=by
 refine F.ok scCount (fun vs H Q E h=>?_) (fun cdv A outer s H vs Q E hr h=>?_)
 ·obtain ⟨a,pd,pk,xs,T,G,ns,kvs,rfl,_⟩:=h
  rfl
 obtain ⟨a,pd,pk,xs,T,G,ns,kvs,rfl,ht,hpd,pa,hok,hwl,hdp,npk,hpk,kn,q⟩:=h
 refine useQ (ss_cons (s_set (i:=3) scCount.nd e_int)
  (ss_cons (s_set (i:=4) scCount.nd e_int)
  (ss_cons (s_for PassesOwn.never rfl (i_tup (e_v 0)) (g_name (i:=5) scCount.nd)
   (ss_cons (s_set (i:=6) scCount.nd (e_tup (a_cons e_int (a_cons e_int a_nil))))
   (ss_cons (s_cut (s_if (t_cmp op_eq (e_ix ix_tup (e_v 5) e_int) e_str)
    (ss_one (s_set (i:=6) scCount.nd (e_tup (a_cons e_int (a_cons (e_op op_add (e_b call_abs n_abs (by decide +kernel) (a_cons (e_op op_sub (e_ix ix_tup (e_v 5) e_int) (e_ix ix_tup (e_v 5) e_int)) a_nil)) e_int) a_nil)))))
    (ss_one (s_if (t_cmp op_eq (e_ix ix_tup (e_v 5) e_int) e_str)
     (ss_cons (s_cut (s_if (t_dnotin (hu_of hr) (e_ix ix_tup (e_v 5) e_int) (e_v 2))
      (ss_one (s_dput (hu_of hr) (e_v 2) (e_ix ix_tup (e_v 5) e_int) (e_call dCount hr pass0 (a_cons (e_dget (hu_of hr) (e_v 1) (e_ix ix_tup (e_v 5) e_int)) (a_cons (e_v 1) (a_cons (e_v 2) a_nil))) (hj:=by omega))))
      ss_nil))
     (ss_one (s_set (i:=6) scCount.nd (e_dget (hu_of hr) (e_v 2) (e_ix ix_tup (e_v 5) e_int)))))
     (ss_one (s_if (t_cmp op_eq (e_ix ix_tup (e_v 5) e_int) e_str)
      (ss_one (s_set (i:=6) scCount.nd (e_call dCount hr pass0 (a_cons (e_ix ix_tup (e_v 5) e_int) (a_cons (e_v 1) (a_cons (e_v 2) a_nil))) (hj:=by omega))))
      (ss_one (s_if (t_cmp op_eq (e_ix ix_tup (e_v 5) e_int) e_str)
       (ss_cons (s_set (i:=7) scCount.nd (e_call dCount hr pass0 (a_cons (e_ix ix_tup (e_v 5) e_int) (a_cons (e_v 1) (a_cons (e_v 2) a_nil))) (hj:=by omega)))
       (ss_one (s_set (i:=6) scCount.nd (e_tup (a_cons (e_op op_mul (e_ix ix_tup (e_v 5) e_int) (e_ix ix_tup (e_v 7) e_int)) (a_cons (e_op op_mul (e_ix ix_tup (e_v 5) e_int) (e_ix ix_tup (e_v 7) e_int)) a_nil))))))
       ss_nil))))))))
   (ss_cons (s_set (i:=3) scCount.nd (e_op op_add (e_v 3) (e_ix ix_tup (e_v 6) e_int)))
   (ss_one (s_set (i:=4) scCount.nd (e_op op_add (e_v 4) (e_ix ix_tup (e_v 6) e_int))))))))
  (ss_one (s_ret (e_tup (a_cons (e_v 3) (a_cons (e_v 4) a_nil)))))))) ?_
 have zl : sizeLine = 16777216:=sizeLine_eq
 obtain ⟨a',vs,z,ha,tds⟩:=ht.tinv
 cases z
 have lv : vs.length = xs.length:=by rw [tds.len,dL_map,List.length_map]
 have hall:=hwl.mem
 have nak : a ≠ pk:=ne_of ha hpk (by intro z; cases z)
 refine ⟨_,rfl,a,rfl,⟨_,SqT.of ha⟩,for_tup (K:=K) (a:=a) (xs:=vs) (fun i σ H'=>∃ (o5 o6 o7 : Option V) (kvs : List (Key × V)),σ = [some (.ref a),some (.ref pd),some (.ref pk),some (.int (cnL (xs.take i))),some (.int (frL (xs.take i))),o5,o6,o7]/\H' pk = some (.dK kvs)/\KN G ns H' kvs/\SX pk H H')
  ⟨none,none,none,kvs,(by rw [List.take_zero,cnL,frL]; rfl),hpk,kn,SX.refl _ _⟩ (fun i σ H' _ ⟨_,_,_,_,_,_,_,sx⟩=>SqT.of (sx _ _ nak ha)) ?_ ?_⟩
 ·rintro i v σ H' hv ⟨o5,o6,o7,kvs1,rfl,hpk1,kn1,sx⟩
  obtain ⟨dd,hd,tv⟩:=tds.get hv
  obtain ⟨x,hx,rfl⟩:=dL_get hd
  have hxm : x ∈ xs:=List.mem_of_getElem? hx
  have hxw:=hall x hxm
  have tv:=tv.tk (sx.tkD hpk)
  have hxo:=hL_mem hok hxm
  have hxd:=dpL_le.mp hdp x hxm
  have hpd1:=hpd.ex sx (.inl hpk) (Ne.symm npk)
  refine ⟨(by show 2 <= sizeLine; decide),fun pm hpm=>?_⟩
  have s1:=Same.new hpm (.tup [.int 0,.int 0])
  have tv1:=tv.tk (TK.of s1)
  have hpk2:=s1 _ _ hpk1
  have kn2:=kn1.tk (TK.of s1)
  have hpd2:=hpd1.same s1
  have sx1:=sx.trans (SX.of (p:=pk) s1)
  refine ⟨fun σ' H2=>∃ (t : Addr) (o7 : Option V) (kvs : List (Key × V)),σ' = [some (.ref a),some (.ref pd),some (.ref pk),some (.int (cnL (xs.take i))),some (.int (frL (xs.take i))),some v,some (.ref t),o7]/\H2 t = some (.tup [.int (cnI x),.int (frI x)])/\H2 pk = some (.dK kvs)/\KN G ns H2 kvs/\SX pk H H2,?_,?_⟩
  ·cases x with
   | clip r f l =>
    obtain ⟨av,rfl,hav⟩:=td_clip tv1
    refine ⟨_,rfl,av,_,_,_,rfl,rfl,SqT.of hav,atI_nat (j:=0) rfl,rfl,_,rfl,iteY (seq _) ?_⟩
    refine ⟨_,rfl,av,_,_,_,rfl,rfl,SqT.of hav,atI_nat (j:=3) rfl,_,rfl,av,_,_,_,rfl,rfl,SqT.of hav,atI_nat (j:=2) rfl,_,_,rfl,rfl,_,rfl,_,_,rfl,rfl,(by show 2 <= sizeLine; decide),fun pt hpt=>?_⟩
    have tt:=Same.new hpt (.tup [.int 1,.int ((if l - f < 0 then -(l - f) else l - f) + 1)])
    exact ⟨pt,_,kvs1,rfl,(by rw [cnI,frI]; exact upd_same),tt _ _ hpk2,kn2.tk (TK.of tt),sx1.trans (SX.of tt)⟩
   | fade k =>
    obtain ⟨av,rfl,hav⟩:=td_fade tv1
    refine ⟨_,rfl,av,_,_,_,rfl,rfl,SqT.of hav,atI_nat (j:=0) rfl,rfl,_,rfl,iteN sne ?_⟩
    refine ⟨_,rfl,av,_,_,_,rfl,rfl,SqT.of hav,atI_nat (j:=0) rfl,rfl,_,rfl,iteN sne ?_⟩
    refine ⟨_,rfl,av,_,_,_,rfl,rfl,SqT.of hav,atI_nat (j:=0) rfl,rfl,_,rfl,iteN sne ?_⟩
    refine ⟨_,rfl,av,_,_,_,rfl,rfl,SqT.of hav,atI_nat (j:=0) rfl,rfl,_,rfl,iteN sne ?_⟩
    exact ⟨pm,_,kvs1,rfl,(by rw [cnI,frI]; exact upd_same),hpk2,kn2,sx1⟩
   | back ys =>
    obtain ⟨av,b,rfl,hav,tb⟩:=td_back tv1
    rw [hI] at hxo
    rw [dpI] at hxd
    have wy : WL ys:=by
     rcases hxw with w | ⟨k,e⟩
     ·cases w with | back h3=>exact h3
     ·cases e
    refine ⟨_,rfl,av,_,_,_,rfl,rfl,SqT.of hav,atI_nat (j:=0) rfl,rfl,_,rfl,iteN sne ?_⟩
    refine ⟨_,rfl,av,_,_,_,rfl,rfl,SqT.of hav,atI_nat (j:=0) rfl,rfl,_,rfl,iteN sne ?_⟩
    refine ⟨_,rfl,av,_,_,_,rfl,rfl,SqT.of hav,atI_nat (j:=0) rfl,rfl,_,rfl,iteY (seq _) ?_⟩
    refine ⟨_,rfl,av,_,_,_,rfl,rfl,SqT.of hav,atI_nat (j:=1) rfl,_,rfl,_,rfl,spCountP_of (by omega) ⟨b,pd,pk,ys,T,G,ns,kvs1,rfl,tb,hpd2,pa,hxo,wy,by omega,npk,hpk2,kn2,fun t H2 kvs2 sx2 hk2 kn3 ht2=>?_⟩⟩
    exact ⟨t,_,kvs2,rfl,(by rw [cnI,frI]; exact ht2),hk2,kn3,sx1.trans sx2⟩
   | times k ys =>
    obtain ⟨av,b,rfl,hav,tb⟩:=td_times tv1
    rw [hI] at hxo
    rw [dpI] at hxd
    obtain ⟨k1,k2,wy⟩ : 1 <= k/\k <= 20/\WL ys:=by
     rcases hxw with w | ⟨k,e⟩
     ·cases w with | times h1 h2 h3=>exact ⟨h1,h2,h3⟩
     ·cases e
    refine ⟨_,rfl,av,_,_,_,rfl,rfl,SqT.of hav,atI_nat (j:=0) rfl,rfl,_,rfl,iteN sne ?_⟩
    refine ⟨_,rfl,av,_,_,_,rfl,rfl,SqT.of hav,atI_nat (j:=0) rfl,rfl,_,rfl,iteN sne ?_⟩
    refine ⟨_,rfl,av,_,_,_,rfl,rfl,SqT.of hav,atI_nat (j:=0) rfl,rfl,_,rfl,iteN sne ?_⟩
    refine ⟨_,rfl,av,_,_,_,rfl,rfl,SqT.of hav,atI_nat (j:=0) rfl,rfl,_,rfl,iteY (seq _) ?_⟩
    refine ⟨_,rfl,av,_,_,_,rfl,rfl,SqT.of hav,atI_nat (j:=2) rfl,_,rfl,_,rfl,spCountP_of (by omega) ⟨b,pd,pk,ys,T,G,ns,kvs1,rfl,tb,hpd2,pa,hxo,wy,by omega,npk,hpk2,kn2,fun t H2 kvs2 sx2 hk2 kn3 ht2=>?_⟩⟩
    have hav2:=(sx2.tkD hpk2) _ _ hav
    refine ⟨_,rfl,av,_,_,_,rfl,rfl,SqT.of hav2,atI_nat (j:=1) rfl,_,rfl,t,_,_,_,rfl,rfl,SqT.of ht2,atI_nat (j:=0) rfl,_,_,rfl,rfl,.inl ⟨by omega,by omega⟩,_,rfl,av,_,_,_,rfl,rfl,SqT.of hav2,atI_nat (j:=1) rfl,_,rfl,t,_,_,_,rfl,rfl,SqT.of ht2,atI_nat (j:=1) rfl,_,_,rfl,rfl,.inl ⟨by omega,by omega⟩,(by show 2 <= sizeLine; decide),fun pt hpt=>?_⟩
    have tt:=Same.new hpt (.tup [.int (k * cnL ys),.int (k * frL ys)])
    exact ⟨pt,_,kvs2,rfl,(by rw [cnI,frI]; exact upd_same),tt _ _ hk2,kn3.tk (TK.of tt),(sx1.trans sx2).trans (SX.of tt)⟩
   | part n ys =>
    obtain ⟨av,rfl,hav⟩:=td_part tv1
    rw [hI] at hxo
    rw [dpI] at hxd
    refine ⟨_,rfl,av,_,_,_,rfl,rfl,SqT.of hav,atI_nat (j:=0) rfl,rfl,_,rfl,iteN sne ?_⟩
    refine ⟨_,rfl,av,_,_,_,rfl,rfl,SqT.of hav,atI_nat (j:=0) rfl,rfl,_,rfl,iteY (seq _) ?_⟩
    refine ⟨fun σ' H2=>∃ (kvs2 : List (Key × V)) (t : Addr),σ' = [some (.ref a),some (.ref pd),some (.ref pk),some (.int (cnL (xs.take i))),some (.int (frL (xs.take i))),some (.ref av),some (.ref pm),o7]/\SX pk H H2/\H2 av = some (.tup [.str "part",.str n])/\H2 pk = some (.dK kvs2)/\KN G ns H2 kvs2/\valV kvs2 (Sum.inr n) = some (.ref t)/\H2 t = some (.tup [.int (cnL ys),.int (frL ys)]),?_,?_⟩
    ·refine ⟨_,rfl,av,_,_,_,rfl,rfl,SqT.of hav,atI_nat (j:=1) rfl,_,rfl,pk,_,rfl,DGet.k (k:=Sum.inr n) hpk2,_,rfl,?_⟩
     cases hval : valV kvs1 (Sum.inr n) with
     | some v1 =>
      obtain ⟨t,zs,rfl,g,htt⟩:=kn2.vs n v1 hval
      obtain rfl:=pa.fn n ys zs hxo.2 g
      exact iteF ⟨kvs1,t,rfl,sx1,hav,hpk2,kn2,hval,htt⟩
     | none =>
      refine iteT ?_
      obtain ⟨b,hg,tb⟩:=hpd2.get hxo.2
      refine ⟨_,rfl,_,rfl,av,_,_,_,rfl,rfl,SqT.of hav,atI_nat (j:=1) rfl,pd,_,rfl,hg,_,rfl,_,rfl,spCountP_of (by omega) ⟨b,pd,pk,ys,T,G,ns,kvs1,rfl,tb,hpd2,pa,pa.ok n ys hxo.2,pa.wl n ys hxo.2,by omega,npk,hpk2,kn2,fun t H2 kvs2 sx2 hk2 kn3 ht2=>?_⟩⟩
      have hav2:=(sx2.tkD hpk2) _ _ hav
      have hlen:=kn3.len
      have hns:=pa.len
      refine ⟨_,rfl,_,rfl,av,_,_,_,rfl,rfl,SqT.of hav2,atI_nat (j:=1) rfl,pk,_,rfl,DPut.k (k:=Sum.inr n) hk2 (by omega),?_⟩
      have kd2 : TK H2 (upd H2 pk (.dK (putK kvs2 (Sum.inr n) (.ref t)))):=TK.dk hk2
      exact ⟨putK kvs2 (Sum.inr n) (.ref t),t,rfl,(sx1.trans sx2).trans SX.upd,kd2 _ _ hav2,upd_same,(kn3.tk kd2).put (pa.dom n ys hxo.2) hxo.2 (kd2 _ _ ht2),(by rw [valV_put,if_pos rfl]),kd2 _ _ ht2⟩
    ·rintro σ H2 ⟨kvs2,t,rfl,sx2,hav2,hk2,kn3,hval,ht2⟩
     exact ⟨_,rfl,_,rfl,av,_,_,_,rfl,rfl,SqT.of hav2,atI_nat (j:=1) rfl,pk,_,rfl,(by have:=DGet.k (k:=Sum.inr n) hk2; rw [hval] at this; exact this),t,_,kvs2,rfl,(by rw [cnI,frI]; exact ht2),hk2,kn3,sx2⟩
  rintro σ H2 ⟨t,o7,kvs2,rfl,ht2,hk2,kn3,sx2⟩
  refine ⟨_,rfl,_,rfl,t,_,_,_,rfl,rfl,SqT.of ht2,atI_nat (j:=0) rfl,_,_,rfl,rfl,_,rfl,_,rfl,t,_,_,_,rfl,rfl,SqT.of ht2,atI_nat (j:=1) rfl,_,_,rfl,rfl,some v,some (.ref t),o7,kvs2,?_,hk2,kn3,sx2⟩
  rw [take_snoc hx,cnL_app,frL_app,cnL,cnL,frL,frL,Int.add_zero,Int.add_zero]
  rfl
 ·rintro σ H' ⟨o5,o6,o7,kvs1,rfl,hpk1,kn1,sx⟩
  refine ⟨_,rfl,_,rfl,(by show 2 <= sizeLine; decide),fun t ht=>?_⟩
  have tt:=Same.new ht (.tup [.int (cnL (xs.take vs.length)),.int (frL (xs.take vs.length))])
  refine q t _ kvs1 (sx.trans (SX.of tt)) (tt _ _ hpk1) (kn1.tk (TK.of tt)) ?_
  rw [lv,List.take_length]
  exact upd_same
end
end K12
set_option maxHeartbeats 2000000
namespace K12
open PySem L2 G DT
open IT hiding It
theorem frS_app (A B : List Cl) : frS (A ++ B) = frS A + frS B:=by unfold frS; rw [List.map_append,List.sum_append]
theorem frS_cons (c : Cl) (A : List Cl) : frS (c :: A) = frC c + frS A:=by unfold frS; rw [List.map_cons,List.sum_cons]
theorem frS_nil : frS [] = 0:=rfl
theorem frS_setF (m : Int) (A : List Cl) : frS (setF m A) = frS A:=by
 cases A with
 | nil=>rfl
 | cons c r=>rw [setF,frS_cons,frS_cons]; rfl
theorem frC_turn (r : Str) (f l d e : Int) : frC ⟨r,l,f,d⟩ = frC ⟨r,f,l,e⟩:=by
 unfold frC
 dsimp only
 split <;> split <;> omega
theorem frS_revA : ∀ (a : Int) (A : List Cl),frS (revA a A) = frS A
 | _,[]=>rfl
 | a,c :: r=>by rw [revA,frS_cons,frS_cons,frS_revA c.d r,frC_turn c.r c.f c.l a c.d]
theorem frS_reverse : ∀ A : List Cl,frS A.reverse = frS A
 | []=>rfl
 | c :: r=>by rw [List.reverse_cons,frS_app,frS_reverse r,frS_cons,frS_cons,frS_nil]; omega
theorem frS_rev (A : List Cl) : frS (rev A) = frS A:=by rw [rev,frS_revA,frS_reverse]
theorem frS_rep (A : List Cl) : ∀ n : Nat,frS (rep n A) = (n : Int) * frS A
 | 0=>by rw [rep,List.replicate_zero,List.flatten_nil,frS_nil,Int.natCast_zero,Int.zero_mul]
 | n + 1=>by
  have:=frS_rep A n
  rw [rep] at this ⊢
  rw [List.replicate_succ,List.flatten_cons,frS_app,this,Int.natCast_add,Int.add_mul,Int.natCast_one,Int.one_mul]
  omega
mutual
theorem frI_fl : ∀ {x : IT.It},WI x->frS (flI x) = frI x
 | _,.clip=>by rw [flI,frI,frS_cons,frS_nil,Int.add_zero]; rfl
 | _,.times h1 _ h=>by rw [flI_times,frS_rep,Int.toNat_of_nonneg (by omega),frL_fl h,frI]
 | _,.back h=>by rw [flI_back,frS_rev,frL_fl h,frI]
 | _,.part h=>by rw [flI_part,frL_fl h,frI]
theorem frL_fl : ∀ {xs : List IT.It},WL xs->frS (flL xs) = frL xs
 | _,.one h=>by rw [fl_one h,frI_fl h,frL,frL,Int.add_zero]
 | _,.cons (x:=x) (r:=r) h t=>by
  have e : flL (x :: r) = flL [x] ++ flL r:=fl_app (.one h) t
  rw [e,frS_app,fl_one h,frI_fl h,frL_fl t,frL]
 | _,.fade (x:=x) (m:=m) (r:=r) h t=>by
  have e : flL (x :: .fade m :: r) = flL [x] ++ setF m (flL r):=fl_appF (.one h) t
  rw [e,frS_app,frS_setF,fl_one h,frI_fl h,frL_fl t,frL,frL,frI,Int.zero_add]
end
inductive Oc where
 | good (cs : List Cl)
 | many
 | short (k : Nat)
 | du (e : Du)
inductive Res (prs : List (Addr × Reel)) (G G0 : Str->List IT.It->Prop) (A : Str->Prop) (xs : List IT.It) : Oc->Prop
 | good : WL xs->hL (Ck prs) G xs->(flL xs).length <= 100->frS (flL xs) <= 2000->(∀ k,¬ bad (flL xs) k)->Res prs G G0 A xs (.good (flL xs))
 | many : WL xs->hL (Ck prs) G xs->100 < (flL xs).length \/ 2000 < frS (flL xs)->Res prs G G0 A xs .many
 | short {k : Nat} : WL xs->hL (Ck prs) G xs->(flL xs).length <= 100->frS (flL xs) <= 2000->bad (flL xs) k->(∀ j < k,¬ bad (flL xs) j)->Res prs G G0 A xs (.short k)
 | du {e : Du} : Bk prs G G0 A xs e->Res prs G G0 A xs (.du e)
def DuT (H : Hp) (t : Addr) : Oc->Prop
 | .good cs=>∃ l,H t = some (.tup [.int (-1),.ref l])/\CL H l cs
 | .many=>H t = some (.tup [.int 6,.non])
 | .short k=>H t = some (.tup [.int 7,.int (k : Int)])
 | .du (.nm n)=>H t = some (.tup [.int 3,.str n])
 | .du (.fr n f)=>∃ u,H t = some (.tup [.int 2,.ref u])/\H u = some (.tup [.str n,.int f])
 | .du .fd=>H t = some (.tup [.int 5,.non])
theorem DuT.same {H H' : Hp} {t : Addr} {o : Oc} (h : DuT H t o) (s : Same H H') : DuT H' t o:=by
 match o,h with
 | .good cs,⟨l,h1,h2⟩=>exact ⟨l,s _ _ h1,h2.same s⟩
 | .many,h=>exact s _ _ h
 | .short k,h=>exact s _ _ h
 | .du (.nm n),h=>exact s _ _ h
 | .du (.fr n f),⟨u,h1,h2⟩=>exact ⟨u,s _ _ h1,s _ _ h2⟩
 | .du .fd,h=>exact s _ _ h
section
variable {P : Program} {w : World} {K : PySem.W.Frag} {mg : Str->Option Value} {base : Heap}
def spDue (d : Nat) : Sp:=fun vs H Q _=>∃ (a pd : Addr) (xs : List IT.It) (prs : List (Addr × Reel)) (G G0 : Str->List IT.It->Prop) (A : Str->Prop) (ns : List Str),vs = [.ref a,.ref pd]/\Td H (.ref a) (.tuple (dL xs))/\PR H pd G/\Pa (Ck prs) G ns/\hL (Ck prs) G xs/\WL xs/\dpL xs <= d/\∀ t o H',Same H H'->Res prs G G0 A xs o->DuT H' t o->Q (.ref t) H'
theorem scDue : FnScope ["_law_items_here", "_law_parts", "_law_clips", "_law_frames", "_law_found", "_law_k", "_law_later"] ["_law_items_here", "_law_parts"] (defScope s__law_due):=⟨rfl,rfl,rfl,by decide +kernel,rfl,by decide +kernel,by decide +kernel⟩
theorem ok_due {d : Nat} {f : Addr} {fd : FuncData} (F : Fun K "_law_due" "_law_due" s__law_due f fd) (dCount : Def P w K mg base CX0 "_law_count" (d + 2) ["_law_items_here", "_law_parts", "_law_known"] (spCount d)) (dFlat : Def P w K mg base CX0 "_law_flat" (d + 2) ["_law_items_here", "_law_parts"] (spFlat d)) (n_range : mg "range" = none) (n_len : mg "len" = none) (n_abs : mg "abs" = none) :
  FnOk P w K mg base CX0 (d + 3) f fd ["_law_items_here", "_law_parts"] (spDue d):=by
 refine F.ok scDue (fun vs H Q E h=>?_) (fun cdv A outer s H vs Q E hr h=>?_)
 ·obtain ⟨a,pd,xs,prs,G,G0,A,ns,rfl,_⟩:=h
  rfl
 obtain ⟨a,pd,xs,prs,G,G0,A,ns,rfl,td,pr,pa,hl,wl,hd,q⟩:=h
 refine useQ (ss_cons (s_asg (e_call dCount hr pass0 (a_cons (e_v 0) (a_cons (e_v 1) (a_cons e_dnew a_nil))) (hj:=by omega)) (g_tup rfl (gs_cons (g_name (i:=2) scDue.nd) (gs_cons (g_name (i:=3) scDue.nd) gs_nil))))
  (ss_cons (s_if (t_w (w_or (t_cmp op_gt (e_v 2) e_int) (w_or1 (t_cmp op_gt (e_v 3) e_int))))
   (ss_one (s_ret (e_tup (a_cons e_int (a_cons e_non a_nil)))))
   ss_nil)
  (ss_cons (s_set (i:=4) scDue.nd (e_call dFlat hr pass0 (a_cons (e_v 0) (a_cons (e_v 1) a_nil)) (hj:=by omega)))
  (ss_cons (s_for PassesOwn.never rfl (i_rng1 n_range (e_b call_len_seq n_len PySem.boot_len (a_cons (e_v 4) a_nil))) (g_name (i:=5) scDue.nd)
   (ss_cons (s_set (i:=6) scDue.nd e_int)
   (ss_cons (s_cut (s_if (t_cmp op_lt (e_op op_add (e_v 5) e_int) (e_b call_len_seq n_len PySem.boot_len (a_cons (e_v 4) a_nil)))
    (ss_one (s_set (i:=6) scDue.nd (e_ix ix_tup (e_ix ix_list (e_v 4) (e_op op_add (e_v 5) e_int)) e_int)))
    ss_nil))
   (ss_one (s_if (t_cmp op_lt (e_op op_add (e_b call_abs n_abs (by decide +kernel) (a_cons (e_op op_sub (e_ix ix_tup (e_ix ix_list (e_v 4) (e_v 5)) e_int) (e_ix ix_tup (e_ix ix_list (e_v 4) (e_v 5)) e_int)) a_nil)) e_int) (e_op op_add (e_ix ix_tup (e_ix ix_list (e_v 4) (e_v 5)) e_int) (e_v 6)))
    (ss_one (s_ret (e_tup (a_cons e_int (a_cons (e_v 5) a_nil)))))
    ss_nil)))))
  (ss_one (s_ret (e_tup (a_cons (e_un un_neg e_int) (a_cons (e_v 4) a_nil))))))))) ?_
 have zl : sizeLine = 16777216:=sizeLine_eq
 have lcn:=cn_lenL wl
 have lfr:=frL_fl wl
 refine ⟨_,rfl,_,rfl,fun pk hpk=>?_⟩
 have tk:=Same.new hpk (.dK [])
 have npk : pk ≠ pd:=by
  obtain ⟨kv,r,_⟩:=pr
  exact rdn r hpk
 refine ⟨a,pd,pk,xs,_,G,ns,[],rfl,td.tk (TK.of tk),pr.same tk,pa,hl,wl,hd,npk,upd_same,⟨List.nodup_nil,(fun k hk=>nomatch hk),fun n v e=>nomatch e⟩,fun t H1 kvs' sx1 hk1 kn1 ht1=>?_⟩
 have S1 : Same H H1:=SX.same hpk tk sx1
 refine ⟨t,_,rfl,SqT.of ht1,rfl,_,_,rfl,_,_,rfl,rfl,?_⟩
 have ret6 : 100 < cnL xs \/ 2000 < frL xs->∀ pt,H1 pt = none->Q (.ref pt) (upd H1 pt (.tup [.int 6,.non])):=fun h pt hpt=>q pt .many _ (S1.trans (Same.new hpt _)) (.many wl hl (by omega)) upd_same
 refine ⟨_,rfl,_,_,rfl,rfl,_,rfl,ite2 (fun c1=>iteT ⟨(by show 2 <= sizeLine; decide),ret6 (.inl (of_decide_eq_true c1))⟩) fun c1=>?_⟩
 have d1 : ¬ 100 < cnL xs:=fun z=>c1 (decide_eq_true z)
 refine ⟨_,rfl,_,_,rfl,rfl,_,rfl,ite2 (fun c2=>⟨(by show 2 <= sizeLine; decide),ret6 (.inr (of_decide_eq_true c2))⟩) fun c2=>?_⟩
 have d2 : ¬ 2000 < frL xs:=fun z=>c2 (decide_eq_true z)
 have l1 : (flL xs).length <= 100:=by omega
 have l2 : frS (flL xs) <= 2000:=by omega
 refine ⟨_,rfl,_,rfl,a,pd,xs,_,G,ns,rfl,td.tk (TK.of S1),pr.same S1,pa,hl,wl,by omega,hd,fun l H2 s2 hl0 cl=>?_⟩
 obtain ⟨us,hus,tus⟩:=id cl
 have lu : us.length = (flL xs).length:=by rw [tus.len,List.length_map]
 have S2:=S1.trans s2
 refine ⟨_,rfl,l,_,rfl,.inl (SqL.of hus),_,rfl,by omega,by omega,for_range (lo:=0) (n:=us.length) (fun i σ H'=>∃ (o5 o6 : Option V),σ = [some (.ref a),some (.ref pd),some (.int (cnL xs)),some (.int (frL xs)),some (.ref l),o5,o6]/\Same H2 H'/\∀ j < i,¬ bad (flL xs) j) ⟨_,_,rfl,Same.refl _,fun j hj=>absurd hj (Nat.not_lt_zero _)⟩ ?_ ?_⟩
 ·rintro i σ H' hi ⟨o5,o6,rfl,sm,nb⟩
  have hus':=sm _ _ hus
  have tus':=tus.tk (TK.of sm)
  obtain ⟨c,hc⟩ : ∃ c,(flL xs)[i]? = some c:=⟨_,List.getElem?_eq_getElem (by omega)⟩
  obtain ⟨v,hv,tv⟩:=c_at tus' hc
  obtain ⟨t1,rfl,ht⟩:=td_cl tv
  have hat : atI us (0 + (i : Int)) = some (.ref t1):=by rw [Int.zero_add]; exact atI_nat hv
  refine ⟨fun σ' H3=>σ' = [some (.ref a),some (.ref pd),some (.int (cnL xs)),some (.int (frL xs)),some (.ref l),some (.int (0 + (i : Int))),some (.int (fdA (flL xs) (i + 1)))]/\H3 = H',?_,?_⟩
  ·refine ⟨_,rfl,_,_,rfl,rfl,_,rfl,l,_,rfl,.inl (SqL.of hus'),_,_,rfl,rfl,_,rfl,ite2 (fun c3=>?_) fun c3=>?_⟩
   ·have d3 : 0 + (i : Int) + 1 < ((us.length : Nat) : Int):=of_decide_eq_true c3
    obtain ⟨c',hc'⟩ : ∃ c,(flL xs)[i + 1]? = some c:=⟨_,List.getElem?_eq_getElem (by omega)⟩
    obtain ⟨v',hv',tv'⟩:=c_at tus' hc'
    obtain ⟨t2,rfl,ht2⟩:=td_cl tv'
    have hat' : atI us (0 + (i : Int) + 1) = some (.ref t2):=by rw [show 0 + (i : Int) + 1 = ((i + 1 : Nat) : Int) by omega]; exact atI_nat hv'
    have e : fdA (flL xs) (i + 1) = c'.d:=by
     unfold fdA
     rw [List.getD_eq_getElem?_getD,List.getElem?_append_left (by rw [List.length_map]; omega),List.getElem?_map,hc']
     rfl
    rw [e]
    exact ⟨_,rfl,_,rfl,_,_,rfl,rfl,l,_,_,_,rfl,rfl,SqL.of hus',hat',t2,_,_,_,rfl,rfl,SqT.of ht2,atI_nat (j:=3) rfl,rfl,rfl⟩
   ·have d3 : ¬ 0 + (i : Int) + 1 < ((us.length : Nat) : Int):=fun z=>c3 (decide_eq_true z)
    have e : fdA (flL xs) (i + 1) = 0:=by
     unfold fdA
     rw [List.getD_eq_getElem?_getD,List.getElem?_append_right (by rw [List.length_map]; omega),List.length_map,show i + 1 - (flL xs).length = 0 by omega]
     rfl
    rw [e]
    exact ⟨rfl,rfl⟩
  rintro σ H3 ⟨rfl,rfl⟩
  have e : fdA (flL xs) i = c.d:=by
   unfold fdA
   rw [List.getD_eq_getElem?_getD,List.getElem?_append_left (by rw [List.length_map]; omega),List.getElem?_map,hc]
   rfl
  refine ⟨_,rfl,_,rfl,l,_,_,_,rfl,rfl,SqL.of hus',hat,t1,_,_,_,rfl,rfl,SqT.of ht,atI_nat (j:=2) rfl,_,rfl,_,rfl,l,_,_,_,rfl,rfl,SqL.of hus',hat,t1,_,_,_,rfl,rfl,SqT.of ht,atI_nat (j:=1) rfl,_,_,rfl,rfl,_,rfl,_,_,rfl,rfl,_,rfl,_,rfl,l,_,_,_,rfl,rfl,SqL.of hus',hat,t1,_,_,_,rfl,rfl,SqT.of ht,atI_nat (j:=3) rfl,_,rfl,_,_,rfl,rfl,_,_,rfl,rfl,_,rfl,ite2 (fun c4=>?_) fun c4=>?_⟩
  ·have d4 : frC c < c.d + fdA (flL xs) (i + 1):=of_decide_eq_true c4
   refine ⟨_,rfl,(by show 2 <= sizeLine; decide),fun pt hpt=>?_⟩
   have tt:=Same.new hpt (.tup [.int 7,.int (0 + (i : Int))])
   exact q pt (.short i) _ ((S2.trans sm).trans tt) (.short wl hl l1 l2 ⟨c,hc,by rw [e]; exact d4⟩ nb) (by rw [DuT,upd_same,Int.zero_add])
  ·have d4 : ¬ frC c < c.d + fdA (flL xs) (i + 1):=fun z=>c4 (decide_eq_true z)
   refine ⟨_,_,rfl,sm,fun j hj hb=>?_⟩
   by_cases z : j = i
   ·subst z
    obtain ⟨c',hc',hb⟩:=hb
    rw [hc] at hc'
    cases hc'
    rw [e] at hb
    exact d4 hb
   ·exact nb j (by omega) hb
 ·rintro σ H' ⟨o5,o6,rfl,sm,nb⟩
  refine ⟨_,rfl,_,rfl,(by show 2 <= sizeLine; decide),fun pt hpt=>?_⟩
  have tt:=Same.new hpt (.tup [.int (-1),.ref l])
  refine q pt (.good (flL xs)) _ ((S2.trans sm).trans tt) (.good wl hl l1 l2 fun k hb=>?_) ⟨l,upd_same,cl.same (sm.trans tt)⟩
  have : k < (flL xs).length:=by
   obtain ⟨c,hc,_⟩:=hb
   exact (List.getElem?_eq_some_iff.mp hc).1
  exact nb k (by omega) hb
end
end K12
set_option maxHeartbeats 2000000
namespace K12
open PySem L2 G DT
open IT hiding It
structure Cs where
 s : Addr
 c0 : Addr
 c1 : Addr
 c2 : Addr
 c3 : Addr
 c4 : Addr
 c5 : Addr
 c6 : Addr
 c7 : Addr
 c8 : Addr
 c9 : Addr
structure CsOk (K : PySem.W.Frag) (mg : Str->Option Value) (c : Cs) (n : Addr) (b : Nat->Bool) : Prop where
 ms : mg "SpliceError" = some (.ref c.s)
 m0 : mg "NoKey" = some (.ref c.c0)
 m1 : mg "NoReel" = some (.ref c.c1)
 m2 : mg "NoFrame" = some (.ref c.c2)
 m3 : mg "NoName" = some (.ref c.c3)
 m4 : mg "NoList" = some (.ref c.c4)
 m5 : mg "NoFade" = some (.ref c.c5)
 m6 : mg "TooMany" = some (.ref c.c6)
 m7 : mg "TooShort" = some (.ref c.c7)
 m8 : mg "NoPlace" = some (.ref c.c8)
 m9 : mg "NoRow" = some (.ref c.c9)
 ks : PySem.W.kitOne K (.ref n) (.ref c.s) = some true
 kv : PySem.W.kitOne K (.ref n) (.type "ValueError") = some true
 k0 : PySem.W.kitOne K (.ref n) (.ref c.c0) = some (b 0)
 k1 : PySem.W.kitOne K (.ref n) (.ref c.c1) = some (b 1)
 k2 : PySem.W.kitOne K (.ref n) (.ref c.c2) = some (b 2)
 k3 : PySem.W.kitOne K (.ref n) (.ref c.c3) = some (b 3)
 k4 : PySem.W.kitOne K (.ref n) (.ref c.c4) = some (b 4)
 k5 : PySem.W.kitOne K (.ref n) (.ref c.c5) = some (b 5)
 k6 : PySem.W.kitOne K (.ref n) (.ref c.c6) = some (b 6)
 k7 : PySem.W.kitOne K (.ref n) (.ref c.c7) = some (b 7)
 k8 : PySem.W.kitOne K (.ref n) (.ref c.c8) = some (b 8)
 k9 : PySem.W.kitOne K (.ref n) (.ref c.c9) = some (b 9)
 ex : ExcK K n
theorem denBools {K : PySem.W.Frag} {H : Hp} : ∀ bs : List Bool,DenAll K H (bs.map V.bl) (bs.map PyData.bool)
 | []=>.nil
 | b :: r=>.cons (.bl b) (denBools r)
theorem layBools : ∀ bs : List Bool,PyData.canLayAll0 (bs.map PyData.bool) = true
 | []=>rfl
 | b :: r=>by simp [PyData.canLayAll0,PyData.canLay0,layBools r]
theorem depBools : ∀ bs : List Bool,PyData.depthAll (bs.map PyData.bool) = 0
 | []=>by simp [PyData.depthAll]
 | b :: r=>by simp [PyData.depthAll,PyData.depth,depBools r]
section
variable {P : Program} {w : World} {K : PySem.W.Frag} {mg : Str->Option Value} {base : Heap}
theorem scLWh : FnScope ["_law_found"] ["_law_found"] (defScope s__law_whole):=⟨rfl,rfl,rfl,by decide +kernel,rfl,by decide +kernel,by decide +kernel⟩
theorem ok_lwhole {f : Addr} {fd : FuncData} (F : Fun K "_law_whole" "_law_whole" s__law_whole f fd) (n_isinstance : mg "isinstance" = none) (n_int : mg "int" = none) (n_bool : mg "bool" = none) : FnOk P w K mg base CX0 1 f fd ["_law_found"] spWhole:=by
 refine F.ok scLWh (fun vs H Q E h=>?_) (fun cdv A outer s H vs Q E hr h=>?_)
 ·obtain ⟨i,rfl,_⟩:=h
  rfl
 obtain ⟨i,rfl,q⟩:=h
 refine useQ (ss_one (s_ret (e_and (e_b call_isinst n_isinstance PyProof.Rows.boot_isinstance (a_cons (e_v 0) (a_cons (e_bt (v:=.ty "int") n_int PyProof.Rows.boot_int rfl) a_nil))) (e_one (e_not (e_b call_isinst n_isinstance PyProof.Rows.boot_isinstance (a_cons (e_v 0) (a_cons (e_bt (v:=.ty "bool") n_bool (by decide +kernel) rfl) a_nil)))))))) ?_
 refine ⟨_,rfl,_,_,_,true,rfl,TyOf.int i,.inr ⟨_,rfl⟩,kit_self,true,rfl,iteT ?_⟩
 exact ⟨_,rfl,_,_,_,false,rfl,TyOf.int i,.inr ⟨_,rfl⟩,int_bool,false,rfl,q⟩
def isK (k : Nat) (i : Nat) : Bool:=decide (i = k)
theorem isK_fin : ∀ k j : Fin 10,PyData.eqv (.list ([isK k.1 0,isK k.1 1,isK k.1 2,isK k.1 3,isK k.1 4,isK k.1 5,isK k.1 6,isK k.1 7,isK k.1 8,isK k.1 9].map PyData.bool)) (.list ([isK j.1 0,isK j.1 1,isK j.1 2,isK j.1 3,isK j.1 4,isK j.1 5,isK j.1 6,isK j.1 7,isK j.1 8,isK j.1 9].map PyData.bool)) = decide (k = j):=by decide +kernel
theorem isK_eq (k j : Nat) (hk : k < 10) (hj : j < 10) : PyData.eqv (.list ([isK k 0,isK k 1,isK k 2,isK k 3,isK k 4,isK k 5,isK k 6,isK k 7,isK k 8,isK k 9].map PyData.bool)) (.list ([isK j 0,isK j 1,isK j 2,isK j 3,isK j 4,isK j 5,isK j 6,isK j 7,isK j 8,isK j 9].map PyData.bool)) = decide (k = j):=by
 have:=isK_fin ⟨k,hk⟩ ⟨j,hj⟩
 rw [this]
 exact decide_eq_decide.mpr ⟨fun z=>congrArg Fin.val z,fun z=>Fin.ext z⟩
def spOnly (n : Addr) (k : Nat) : Sp:=fun vs H Q _=>∃ (a : Addr) (d : Option Addr) (j : Nat),vs = [.ref a,.int (j : Int)]/\H a = some (excO a (.ref n) d)/\(d = none \/ ∃ dx fs,d = some dx/\H dx = some (xdO dx fs))/\k < 10/\j < 10/\∀ H',Same H H'->Q (.bl (decide (k = j))) H'
theorem scOnly : FnScope ["_law_e", "_law_at", "_law_kinds"] ["_law_e", "_law_at"] (defScope s__law_only):=⟨rfl,rfl,rfl,by decide +kernel,rfl,by decide +kernel,by decide +kernel⟩
def spOnlyR (R : Addr->Nat->Prop) : Sp:=fun vs H Q E=>∃ n k,R n k/\spOnly n k vs H Q E
theorem ok_only {f : Addr} {fd : FuncData} {c : Cs} {n0 : Addr} {k0 : Nat} {R : Addr->Nat->Prop} (F : Fun K "_law_only" "_law_only" s__law_only f fd) (C : CsOk K mg c n0 (isK k0)) (CR : ∀ n k,R n k->CsOk K mg c n (isK k)) (n_isinstance : mg "isinstance" = none) (n_range : mg "range" = none) (n_ValueError : mg "ValueError" = none) :
  FnOk P w K mg base CX0 2 f fd ["_law_e", "_law_at"] (spOnlyR R):=by
 refine F.ok scOnly (fun vs H Q E h=>?_) (fun cdv A outer s H vs Q E hr h=>?_)
 ·obtain ⟨n,k,_,a,d,j,rfl,_⟩:=h
  rfl
 obtain ⟨n,k,hR,a,d,j,rfl,hH,hd,hk10,hj10,q⟩:=h
 refine useQ (ss_cons (s_set (i:=2) scOnly.nd (e_lst (a_cons (e_b call_isinst_x n_isinstance PyProof.Rows.boot_isinstance (a_cons (e_v 0) (a_cons (e_gl (v:=.ref c.c0) C.m0 rfl) a_nil))) (a_cons (e_b call_isinst_x n_isinstance PyProof.Rows.boot_isinstance (a_cons (e_v 0) (a_cons (e_gl (v:=.ref c.c1) C.m1 rfl) a_nil))) (a_cons (e_b call_isinst_x n_isinstance PyProof.Rows.boot_isinstance (a_cons (e_v 0) (a_cons (e_gl (v:=.ref c.c2) C.m2 rfl) a_nil))) (a_cons (e_b call_isinst_x n_isinstance PyProof.Rows.boot_isinstance (a_cons (e_v 0) (a_cons (e_gl (v:=.ref c.c3) C.m3 rfl) a_nil))) a_nil))))))
  (ss_cons (s_set (i:=2) scOnly.nd (e_op op_cat (e_v 2) (e_lst (a_cons (e_b call_isinst_x n_isinstance PyProof.Rows.boot_isinstance (a_cons (e_v 0) (a_cons (e_gl (v:=.ref c.c4) C.m4 rfl) a_nil))) (a_cons (e_b call_isinst_x n_isinstance PyProof.Rows.boot_isinstance (a_cons (e_v 0) (a_cons (e_gl (v:=.ref c.c5) C.m5 rfl) a_nil))) (a_cons (e_b call_isinst_x n_isinstance PyProof.Rows.boot_isinstance (a_cons (e_v 0) (a_cons (e_gl (v:=.ref c.c6) C.m6 rfl) a_nil))) (a_cons (e_b call_isinst_x n_isinstance PyProof.Rows.boot_isinstance (a_cons (e_v 0) (a_cons (e_gl (v:=.ref c.c7) C.m7 rfl) a_nil))) a_nil)))))))
  (ss_cons (s_set (i:=2) scOnly.nd (e_op op_cat (e_v 2) (e_lst (a_cons (e_b call_isinst_x n_isinstance PyProof.Rows.boot_isinstance (a_cons (e_v 0) (a_cons (e_gl (v:=.ref c.c8) C.m8 rfl) a_nil))) (a_cons (e_b call_isinst_x n_isinstance PyProof.Rows.boot_isinstance (a_cons (e_v 0) (a_cons (e_gl (v:=.ref c.c9) C.m9 rfl) a_nil))) a_nil)))))
  (ss_one (s_ret (e_and (e_b call_isinst_x n_isinstance PyProof.Rows.boot_isinstance (a_cons (e_v 0) (a_cons (e_gl (v:=.ref c.s) C.ms rfl) a_nil))) (e_and (e_b call_isinst_x n_isinstance PyProof.Rows.boot_isinstance (a_cons (e_v 0) (a_cons (e_bt (v:=.ty "ValueError") n_ValueError (by decide +kernel) rfl) a_nil))) (e_one (e_cmp (op_eqD hr) (e_v 2) (e_comp ["_law_at"] [1] [("_law_at",s.heap.objs.size + 1)] rfl ⟨rfl,rfl,rfl,rfl,trivial⟩ ⟨rfl,trivial⟩ (i_rng1 n_range e_int) (fun _ _ _ _=>(e_cmp op_eq (e_n 0) (e_n 1))))))))))))) ?_
 replace C:=CR n k hR
 have xs : ∀ {H' : Hp},Same H H'->XDict H' d:=fun s=>by
  rcases hd with z | ⟨dx,fs,z,y⟩
  ·exact .inl z
  ·exact .inr ⟨dx,fs,z,s _ _ y⟩
 have x0:=xs (Same.refl _)
 have z4 : 4 <= sizeLine:=by decide
 refine ⟨_,rfl,a,n,d,_,_,rfl,hH,x0,C.ex,.inl rfl,C.k0,_,rfl,a,n,d,_,_,rfl,hH,x0,C.ex,.inl rfl,C.k1,_,rfl,a,n,d,_,_,rfl,hH,x0,C.ex,.inl rfl,C.k2,_,rfl,a,n,d,_,_,rfl,hH,x0,C.ex,.inl rfl,C.k3,z4,fun p hp=>?_⟩
 have s1:=Same.new hp (.lst [.bl (isK k 0),.bl (isK k 1),.bl (isK k 2),.bl (isK k 3)])
 have h1:=s1 _ _ hH
 have x1:=xs s1
 refine ⟨_,rfl,_,rfl,a,n,d,_,_,rfl,h1,x1,C.ex,.inl rfl,C.k4,_,rfl,a,n,d,_,_,rfl,h1,x1,C.ex,.inl rfl,C.k5,_,rfl,a,n,d,_,_,rfl,h1,x1,C.ex,.inl rfl,C.k6,_,rfl,a,n,d,_,_,rfl,h1,x1,C.ex,.inl rfl,C.k7,z4,fun p2 hp2=>?_⟩
 have s2:=Same.new hp2 (.lst [.bl (isK k 4),.bl (isK k 5),.bl (isK k 6),.bl (isK k 7)])
 refine ⟨p,p2,_,_,rfl,rfl,s2 _ _ upd_same,upd_same,(by show 8 <= sizeLine; decide),fun p3 hp3=>?_⟩
 have s3:=Same.new hp3 (.lst ([.bl (isK k 0),.bl (isK k 1),.bl (isK k 2),.bl (isK k 3)] ++ [.bl (isK k 4),.bl (isK k 5),.bl (isK k 6),.bl (isK k 7)]))
 have S3:=(s1.trans s2).trans s3
 have h3:=S3 _ _ hH
 have x3:=xs S3
 refine ⟨_,rfl,_,rfl,a,n,d,_,_,rfl,h3,x3,C.ex,.inl rfl,C.k8,_,rfl,a,n,d,_,_,rfl,h3,x3,C.ex,.inl rfl,C.k9,(by show 2 <= sizeLine; decide),fun p4 hp4=>?_⟩
 have s4:=Same.new hp4 (.lst [.bl (isK k 8),.bl (isK k 9)])
 refine ⟨p3,p4,_,_,rfl,rfl,s4 _ _ upd_same,upd_same,(by show 10 <= sizeLine; decide),fun p5 hp5=>?_⟩
 have s5:=Same.new hp5 (.lst (([.bl (isK k 0),.bl (isK k 1),.bl (isK k 2),.bl (isK k 3)] ++ [.bl (isK k 4),.bl (isK k 5),.bl (isK k 6),.bl (isK k 7)]) ++ [.bl (isK k 8),.bl (isK k 9)]))
 have S5:=(S3.trans s4).trans s5
 have h5:=S5 _ _ hH
 have x5:=xs S5
 refine ⟨_,rfl,a,n,d,_,true,rfl,h5,x5,C.ex,.inl rfl,C.ks,true,rfl,iteT ?_⟩
 refine ⟨_,rfl,a,n,d,_,true,rfl,h5,x5,C.ex,.inr ⟨_,rfl⟩,C.kv,true,rfl,iteT ?_⟩
 refine ⟨_,rfl,10,rfl,by decide,by decide,comp_range (fun i=>V.bl (decide (V.int (0 + (i : Int)) = V.int (j : Int)))) (by decide) (fun i H' R hi hS hR=>?_) (fun D H' hS hD=>?_)⟩
 ·exact ⟨_,rfl,_,rfl,rfl,hR H' (Same.refl _)⟩
 ·have ed : ∀ i : Nat,decide (V.int (0 + (i : Int)) = V.int (j : Int)) = isK j i:=fun i=>by
   unfold isK
   rw [dec_int]
   by_cases z : i = j
   ·subst z; simp
   ·rw [decide_eq_false z]
    exact beq_eq_false_iff_ne.mpr (by omega)
  have hD' : H' D = some (.lst ([isK j 0,isK j 1,isK j 2,isK j 3,isK j 4,isK j 5,isK j 6,isK j 7,isK j 8,isK j 9].map V.bl)):=by
   rw [hD]
   simp only [ed]
   rfl
  have d1 : Den K H' (.ref p5) (.list ([isK k 0,isK k 1,isK k 2,isK k 3,isK k 4,isK k 5,isK k 6,isK k 7,isK k 8,isK k 9].map PyData.bool)):=.lst (SqL.of (hS _ _ upd_same)) (denBools [isK k 0,isK k 1,isK k 2,isK k 3,isK k 4,isK k 5,isK k 6,isK k 7,isK k 8,isK k 9])
  have d2 : Den K H' (.ref D) (.list ([isK j 0,isK j 1,isK j 2,isK j 3,isK j 4,isK j 5,isK j 6,isK j 7,isK j 8,isK j 9].map PyData.bool)):=.lst (SqL.of hD') (denBools _)
  have lay : ∀ k : Nat,(PyData.list ([isK k 0,isK k 1,isK k 2,isK k 3,isK k 4,isK k 5,isK k 6,isK k 7,isK k 8,isK k 9].map PyData.bool)).canLay0 = true:=fun k=>by
   rw [PyData.canLay0]
   exact layBools _
  refine ⟨_,_,d1,d2,lay k,lay j,Nat.le_trans (Nat.min_le_left _ _) (by rw [PyData.depth,depBools]; decide),?_⟩
  rw [show PyData.eqv (.list ([isK k 0,isK k 1,isK k 2,isK k 3,isK k 4,isK k 5,isK k 6,isK k 7,isK k 8,isK k 9].map PyData.bool)) (.list ([isK j 0,isK j 1,isK j 2,isK j 3,isK j 4,isK j 5,isK j 6,isK j 7,isK j 8,isK j 9].map PyData.bool)) = decide (k = j) from isK_eq k j hk10 hj10]
  exact q H' (S5.trans hS)
def OcT (CN CF CD CT CS : Addr) (H : Hp) (t : Addr) : Oc->Prop
 | .good cs=>∃ l,H t = some (.tup [.int (-1),.ref l])/\CL H l cs
 | .many=>∃ ea,H t = some (.tup [.int 6,.ref ea])/\H ea = some (excO ea (.ref CT) none)
 | .short k=>∃ ea dx,H t = some (.tup [.int 7,.ref ea])/\H ea = some (excO ea (.ref CS) (some dx))/\H dx = some (xdO dx [("number",.int (k : Int))])
 | .du (.nm n)=>∃ ea dx,H t = some (.tup [.int 3,.ref ea])/\H ea = some (excO ea (.ref CN) (some dx))/\H dx = some (xdO dx [("name",.str n)])
 | .du (.fr n f)=>∃ ea dx,H t = some (.tup [.int 2,.ref ea])/\H ea = some (excO ea (.ref CF) (some dx))/\H dx = some (xdO dx [("reel",.str n),("frame",.int f)])
 | .du .fd=>∃ ea,H t = some (.tup [.int 5,.ref ea])/\H ea = some (excO ea (.ref CD) none)
def RC (CN CF CD CT CS : Addr) : Addr->Nat->Prop:=fun n k=>(n = CN/\k = 3) \/ (n = CF/\k = 2) \/ (n = CD/\k = 5) \/ (n = CT/\k = 6) \/ (n = CS/\k = 7)
def OcX (CN CF CD CT CS : Addr) (H : Hp) (n : Addr) (k : Nat) (dx : Option Addr) : Oc->Prop
 | .good _=>False
 | .many=>n = CT/\k = 6/\dx = none
 | .short j=>n = CS/\k = 7/\∃ a,dx = some a/\H a = some (xdO a [("number",.int (j : Int))])
 | .du (.nm m)=>n = CN/\k = 3/\∃ a,dx = some a/\H a = some (xdO a [("name",.str m)])
 | .du (.fr m f)=>n = CF/\k = 2/\∃ a,dx = some a/\H a = some (xdO a [("reel",.str m),("frame",.int f)])
 | .du .fd=>n = CD/\k = 5/\dx = none
theorem OcX.rc {CN CF CD CT CS : Addr} {H : Hp} {n : Addr} {k : Nat} {dx : Option Addr} {o : Oc} (h : OcX CN CF CD CT CS H n k dx o) : RC CN CF CD CT CS n k/\(dx = none \/ ∃ a fs,dx = some a/\H a = some (xdO a fs)):=by
 match o,h with
 | .many,⟨h1,h2,h3⟩=>exact ⟨.inr (.inr (.inr (.inl ⟨h1,h2⟩))),.inl h3⟩
 | .short j,⟨h1,h2,a,h3,h4⟩=>exact ⟨.inr (.inr (.inr (.inr ⟨h1,h2⟩))),.inr ⟨a,_,h3,h4⟩⟩
 | .du (.nm m),⟨h1,h2,a,h3,h4⟩=>exact ⟨.inl ⟨h1,h2⟩,.inr ⟨a,_,h3,h4⟩⟩
 | .du (.fr m f),⟨h1,h2,a,h3,h4⟩=>exact ⟨.inr (.inl ⟨h1,h2⟩),.inr ⟨a,_,h3,h4⟩⟩
 | .du .fd,⟨h1,h2,h3⟩=>exact ⟨.inr (.inr (.inl ⟨h1,h2⟩)),.inl h3⟩
theorem OcX.told {CN CF CD CT CS : Addr} {H H' : Hp} {n t ea : Addr} {k : Nat} {dx : Option Addr} {o : Oc} (h : OcX CN CF CD CT CS H n k dx o) (s : Same H H') (ht : H' t = some (.tup [.int (k : Int),.ref ea])) (he : H' ea = some (excO ea (.ref n) dx)) : OcT CN CF CD CT CS H' t o:=by
 match o,h with
 | .many,⟨h1,h2,h3⟩=>subst h1 h2 h3; exact ⟨ea,ht,he⟩
 | .short j,⟨h1,h2,a,h3,h4⟩=>subst h1 h2 h3; exact ⟨ea,a,ht,he,s _ _ h4⟩
 | .du (.nm m),⟨h1,h2,a,h3,h4⟩=>subst h1 h2 h3; exact ⟨ea,a,ht,he,s _ _ h4⟩
 | .du (.fr m f),⟨h1,h2,a,h3,h4⟩=>subst h1 h2 h3; exact ⟨ea,a,ht,he,s _ _ h4⟩
 | .du .fd,⟨h1,h2,h3⟩=>subst h1 h2 h3; exact ⟨ea,ht,he⟩
theorem played_of {CN CF CD CT CS : Addr} {H : Hp} {R : Addr->Hp->Prop} {E : XK} {G G0 : Str->List IT.It->Prop} {A : Str->Prop} {prs : List (Addr × Reel)} {xs : List IT.It} {o : Oc} (res : Res prs G G0 A xs o)
  (fly : ∀ n k dx H',Same H H'->OcX CN CF CD CT CS H' n k dx o->E (.ref n) dx H') (good : ∀ cs l H',o = .good cs->Same H H'->H l = none->CL H' l cs->R l H') :
  (WL xs/\hL (Ck prs) G xs/\FilmQ CT CS (flL xs) H E (fun _=>True)/\((flL xs).length <= 100->frS (flL xs) <= 2000->(∀ k,¬ bad (flL xs) k)->∀ l H',Same H H'->H l = none->CL H' l (flL xs)->R l H')) \/ ∃ e,Bk prs G G0 A xs e/\DueX CN CF CD (Same H) E e:=by
 cases res with
 | good wl hl h1 h2 h3=>exact .inl ⟨wl,hl,⟨fun z=>by omega,fun _ _ k hb=>absurd hb (h3 k),fun _ _ _ _ _=>trivial⟩,fun _ _ _ l H' s' hl' cl=>good _ l H' rfl s' hl' cl⟩
 | many wl hl h=>exact .inl ⟨wl,hl,⟨fun _ H' s'=>fly CT 6 none H' s' ⟨rfl,rfl,rfl⟩,fun z1 z2=>by omega,fun z1 z2=>by omega⟩,fun z1 z2=>by omega⟩
 | short wl hl h1 h2 hb nb =>
  rename_i k
  refine .inl ⟨wl,hl,⟨fun z=>by omega,fun _ _ j hj nj H' dx s' hdx=>?_,fun _ _ z=>absurd hb (z k)⟩,fun _ _ z=>absurd hb (z k)⟩
  have : j = k:=by
   rcases Nat.lt_trichotomy j k with z | z | z
   ·exact absurd hj (nb j z)
   ·exact z
   ·exact absurd hb (nj k z)
  subst this
  exact fly CS 7 (some dx) H' s' ⟨rfl,rfl,dx,rfl,hdx⟩
 | du bk =>
  rename_i e
  refine .inr ⟨e,bk,?_⟩
  cases e with
  | nm n=>exact fun H' dx s' hdx=>fly CN 3 (some dx) H' s' ⟨rfl,rfl,dx,rfl,hdx⟩
  | fr n f=>exact fun H' dx s' hdx=>fly CF 2 (some dx) H' s' ⟨rfl,rfl,dx,rfl,hdx⟩
  | fd=>exact fun H' s'=>fly CD 5 none H' s' ⟨rfl,rfl,rfl⟩
def spTold (CN CF CD CT CS : Addr) (d : Nat) : Sp:=fun vs H Q E=>∃ (p pd lr : Addr) (xs : List IT.It) (G G0 : Str->List IT.It->Prop) (A : Str->Prop) (ns : List Str) (prs : List (Addr × Reel)) (o : Oc),vs = [.ref p,.ref pd,.ref lr]/\Td H (.ref p) (.tuple (dL xs))/\Pts H pd G G0 A ns prs/\RL H lr prs/\Uq prs/\dpL xs <= d/\Res prs G G0 A xs o /\
 ∀ t H',Same H H'->OcT CN CF CD CT CS H' t o->(∀ cs l,o = .good cs->H' t = some (.tup [.int (-1),.ref l])->H l = none)->Q (.ref t) H'
theorem scTold : FnScope ["_law_items_here", "_law_parts", "_law_reels_here", "_law_found", "_law_refused", "_law_e", "_law_at"] ["_law_items_here", "_law_parts", "_law_reels_here"] (defScope s__law_told):=⟨rfl,rfl,rfl,by decide +kernel,rfl,by decide +kernel,by decide +kernel⟩
theorem ok_told {d : Nat} {f S CN CF CD CT CS : Addr} {fd : FuncData} {bmS : List Value} {idS : String} (F : Fun K "_law_told" "_law_told" s__law_told f fd)
  (dPlayed : Def P w K mg base (CX1 P w) "played" (2 * d + 9) ["items", "parts", "reels"] (spPlayed CN CF CD CT CS d)) (dOnly : Def P w K mg base CX0 "_law_only" 2 ["_law_e", "_law_at"] (spOnlyR (RC CN CF CD CT CS)))
  (m_SpliceError : mg "SpliceError" = some (.ref S)) (c_SpliceError : ExcC K S bmS idS) (hb_SpliceError : bmS.contains (.type "BaseException") = true)
  (cE : ∀ n k,RC CN CF CD CT CS n k->∃ bm nid,ExcC K n bm nid/\(Value.ref n :: bm).contains (.ref S) = true) :
  FnOk P w K mg base CX0 (2 * d + 10) f fd ["_law_items_here", "_law_parts", "_law_reels_here"] (spTold CN CF CD CT CS d):=by
 refine F.ok scTold (fun vs H Q E h=>?_) (fun cdv A outer s H vs Q E hr h=>?_)
 ·obtain ⟨p,pd,lr,xs,G,G0,A,ns,prs,o,rfl,_⟩:=h
  rfl
 obtain ⟨p,pd,lr,xs,G,G0,A,ns,prs,o,rfl,td,pt,rl,uq,hd,res,q⟩:=h
 refine useQ (ss_cons (s_set (i:=3) scTold.nd e_non)
  (ss_cons (s_set (i:=4) scTold.nd e_non)
  (ss_cons (s_try (i:=3) (j:=5) scTold.nd m_SpliceError c_SpliceError hb_SpliceError (x_call dPlayed hr (a_cons (e_v 0) (a_cons (e_v 1) (a_cons (e_v 2) a_nil))) (hj:=by omega)) (fun a=>(ss_one (s_set (i:=4) scTold.nd (e_v 5)))))
  (ss_cons (s_if (t_isN (e_v 4))
   (ss_one (s_ret (e_tup (a_cons (e_un un_neg e_int) (a_cons (e_v 3) a_nil)))))
   ss_nil)
  (ss_cons (s_for PassesOwn.never rfl (i_list (e_lst (a_cons e_int (a_cons e_int (a_cons e_int (a_cons e_int (a_cons e_int a_nil))))))) (g_name (i:=6) scTold.nd)
   (ss_one (s_if (t_val (e_call dOnly hr pass0 (a_cons (e_v 4) (a_cons (e_v 6) a_nil)) (hj:=by omega)))
    (ss_one (s_ret (e_tup (a_cons (e_v 6) (a_cons (e_v 4) a_nil)))))
    ss_nil)))
  (ss_one (s_ret (e_tup (a_cons e_int (a_cons e_non a_nil)))))))))) ?_
 refine ⟨_,rfl,_,rfl,_,rfl,p,pd,lr,xs,G,G0,A,ns,prs,rfl,td,pt,rl,uq,hd,?_⟩
 refine played_of res (fun n k dx H7 s7 ox=>?_) (fun cs l H7 eo s7 hl0 cl=>?_)
 ·obtain ⟨rc,xd⟩:=ox.rc
  obtain ⟨bm,nid,c1,c2⟩:=cE n k rc
  refine ⟨n,bm,nid,rfl,c1,c2,fun ea hea=>⟨_,rfl,?_⟩⟩
  have te:=Same.new hea (excO ea (.ref n) dx)
  refine ⟨_,rfl,_,rfl,iteF ?_⟩
  refine ⟨(by show 5 <= sizeLine; decide),fun pl hpl=>?_⟩
  have tl:=Same.new hpl (.lst [.int 2,.int 3,.int 5,.int 6,.int 7])
  refine ⟨pl,rfl,⟨_,SqL.of upd_same⟩,for_list (K:=K) (a:=pl) (xs:=[.int 2,.int 3,.int 5,.int 6,.int 7]) (fun i σ H'=>∃ o6 : Option V,σ = [some (.ref p),some (.ref pd),some (.ref lr),some .non,some (.ref ea),none,o6]/\Same (upd (upd H7 ea (excO ea (.ref n) dx)) pl (.lst [.int 2,.int 3,.int 5,.int 6,.int 7])) H'/\∀ j m,j < i->[2,3,5,6,7][j]? = some m->m ≠ k) ⟨_,rfl,Same.refl _,fun j m hj=>absurd hj (Nat.not_lt_zero _)⟩ (fun i σ H' _ ⟨_,_,sm,_⟩=>SqL.of (sm _ _ upd_same)) ?_ ?_⟩
  ·rintro i v σ H' hv ⟨o6,rfl,sm,nk⟩
   obtain ⟨m,rfl,hm,hm10⟩ : ∃ m : Nat,v = .int (m : Int)/\[2,3,5,6,7][i]? = some m/\m < 10:=by
    match i,hv with
    | 0,hv=>cases hv; exact ⟨2,rfl,rfl,by decide⟩
    | 1,hv=>cases hv; exact ⟨3,rfl,rfl,by decide⟩
    | 2,hv=>cases hv; exact ⟨5,rfl,rfl,by decide⟩
    | 3,hv=>cases hv; exact ⟨6,rfl,rfl,by decide⟩
    | 4,hv=>cases hv; exact ⟨7,rfl,rfl,by decide⟩
    | n + 5,hv=>cases hv
   have S':=(te.trans tl).trans sm
   have hk10 : k < 10:=by rcases rc with ⟨_,z⟩ | ⟨_,z⟩ | ⟨_,z⟩ | ⟨_,z⟩ | ⟨_,z⟩ <;> omega
   have hea':=sm _ _ (tl _ _ (upd_same (H:=H7) (a:=ea) (o:=excO ea (.ref n) dx)))
   refine ⟨_,rfl,_,rfl,n,k,rc,ea,dx,m,rfl,hea',?_,hk10,hm10,fun H8 s8=>⟨_,rfl,ite2 (fun c=>?_) fun c=>?_⟩⟩
   ·rcases xd with z | ⟨a,fs,z,y⟩
    ·exact .inl z
    ·exact .inr ⟨a,fs,z,S' _ _ y⟩
   ·have ek : k = m:=of_decide_eq_true c
    subst ek
    refine ⟨_,rfl,_,rfl,(by show 2 <= sizeLine; decide),fun pt hpt=>?_⟩
    have tt:=Same.new hpt (.tup [.int (k : Int),.ref ea])
    have S9:=(S'.trans s8).trans tt
    exact q pt _ (s7.trans S9) (ox.told S9 upd_same (tt _ _ (s8 _ _ hea'))) fun cs l e=>by subst e; exact ox.elim
   ·refine ⟨_,rfl,sm.trans s8,fun j m' hj hm'=>?_⟩
    by_cases z : j = i
    ·subst z
     rw [hm] at hm'
     cases hm'
     exact fun y=>c (decide_eq_true y.symm)
    ·exact nk j m' (by omega) hm'
  ·rintro σ H' ⟨o6,rfl,sm,nk⟩
   exfalso
   rcases rc with ⟨_,z⟩ | ⟨_,z⟩ | ⟨_,z⟩ | ⟨_,z⟩ | ⟨_,z⟩
   ·exact nk 1 3 (by show 1 < 5; decide) rfl z.symm
   ·exact nk 0 2 (by show 0 < 5; decide) rfl z.symm
   ·exact nk 2 5 (by show 2 < 5; decide) rfl z.symm
   ·exact nk 3 6 (by show 3 < 5; decide) rfl z.symm
   ·exact nk 4 7 (by show 4 < 5; decide) rfl z.symm
 ·subst eo
  refine ⟨_,rfl,_,rfl,iteT ⟨_,rfl,_,rfl,(by show 2 <= sizeLine; decide),fun pt hpt=>?_⟩⟩
  have tt:=Same.new hpt (.tup [.int (-1),.ref l])
  exact q pt _ (s7.trans tt) ⟨l,upd_same,cl.same tt⟩ fun cs' l' _ h=>by
   rw [upd_same] at h
   cases h
   exact hl0
end
end K12
set_option maxHeartbeats 2000000
namespace K12
open PySem L2 G DT
open IT hiding It
theorem call_lenK {X : Cx} {K : PySem.W.Frag} (hK : X.K = K) : CallR X (.builtin "len") (fun xs H Q=>∃ p ys,xs = [V.ref p]/\(SqL K H p ys \/ SqT K H p ys)/\Q (V.int (ys.length : Int)) H):=by
 subst hK
 exact call_len_seq
theorem lay_list {cs : List Cl} (h : NM Fine cs) : (PyData.list (cs.map dC)).canLay0 = true:=by rw [PyData.canLay0]; exact lay_cls h
theorem cl_den {K : PySem.W.Frag} {H : Hp} {l : Addr} {cs : List Cl} (h : CL H l cs) : Den K H (.ref l) (.list (cs.map dC)):=by
 obtain ⟨vs,h1,h2⟩:=h
 exact .lst (SqL.of h1) h2.den
theorem dep_list (cs : List Cl) (y : Nat) : min (PyData.list (cs.map dC)).depth y <= 60:=Nat.le_trans (Nat.min_le_left _ _) (by rw [PyData.depth]; have:=dep_cls cs; omega)
theorem lay_s {x : Str} (h : Fine x) : (PyData.str x).canLay0 = true:=by simpa [PyData.canLay0] using h
theorem lay_i (i : Int) : (PyData.int i).canLay0 = true:=by simp [PyData.canLay0]
def OcF : Oc->Prop
 | .good cs=>NM Fine cs/\cs.length <= 100
 | .du (.nm n)=>Fine n
 | .du (.fr n _)=>Fine n
 | _=>True
structure XOk (K : PySem.W.Frag) (CN CF CS : Addr) : Prop where
 kn : ExcK K CN
 cn : XCls K CN
 nn : XNo K CN "name"
 kf : ExcK K CF
 cf : XCls K CF
 fr : XNo K CF "reel"
 ff : XNo K CF "frame"
 ks : ExcK K CS
 cs : XCls K CS
 sn : XNo K CS "number"
section
variable {P : Program} {w : World} {K : PySem.W.Frag} {mg : Str->Option Value} {base : Heap}
def spRight (CN CF CD CT CS : Addr) : Sp:=fun vs H Q _=>∃ (t u : Addr) (o : Oc),vs = [.ref t,.ref u]/\OcT CN CF CD CT CS H t o/\DuT H u o/\OcF o/\∀ H',Same H H'->Q (.bl true) H'
theorem scRight : FnScope ["_law_told_here", "_law_due_here"] ["_law_told_here", "_law_due_here"] (defScope s__law_right):=⟨rfl,rfl,rfl,by decide +kernel,rfl,by decide +kernel,by decide +kernel⟩
theorem ok_right {f CN CF CD CT CS : Addr} {fd : FuncData} (F : Fun K "_law_right" "_law_right" s__law_right f fd) (dLWh : Def P w K mg base CX0 "_law_whole" 1 ["_law_found"] spWhole) (X : XOk K CN CF CS)
  (n_isinstance : mg "isinstance" = none) (n_list : mg "list" = none) (n_tuple : mg "tuple" = none) (n_len : mg "len" = none) (n_all : mg "all" = none) : FnOk P w K mg base CX0 2 f fd ["_law_told_here", "_law_due_here"] (spRight CN CF CD CT CS):=by
 refine F.ok scRight (fun vs H Q E h=>?_) (fun cdv A outer s H vs Q E hr h=>?_)
 ·obtain ⟨t,u,o,rfl,_⟩:=h
  rfl
 obtain ⟨t,u,o,rfl,ot,du,of,q⟩:=h
 refine useQ (ss_cons (s_if (t_cmp op_ne (e_ix ix_tup (e_v 0) e_int) (e_ix ix_tup (e_v 1) e_int))
   (ss_one (s_ret e_bl))
   ss_nil)
  (ss_cons (s_if (t_cmp op_eq (e_ix ix_tup (e_v 1) e_int) e_int)
   (ss_one (s_ret (e_cmp (op_eqD hr) (e_xf (e_ix ix_tup (e_v 0) e_int)) (e_ix ix_tup (e_v 1) e_int))))
   ss_nil)
  (ss_cons (s_if (t_cmp op_eq (e_ix ix_tup (e_v 1) e_int) e_int)
   (ss_one (s_ret (e_cmp (op_eqD hr) (e_xf (e_ix ix_tup (e_v 0) e_int)) (e_ix ix_tup (e_v 1) e_int))))
   ss_nil)
  (ss_cons (s_if (t_cmp op_eq (e_ix ix_tup (e_v 1) e_int) e_int)
   (ss_one (s_ret (e_cmp (op_eqD hr) (e_tup (a_cons (e_xf (e_ix ix_tup (e_v 0) e_int)) (a_cons (e_xf (e_ix ix_tup (e_v 0) e_int)) a_nil))) (e_ix ix_tup (e_v 1) e_int))))
   ss_nil)
  (ss_cons (s_if (t_cmp op_in_seq (e_ix ix_tup (e_v 1) e_int) (e_lst (a_cons e_int (a_cons e_int a_nil))))
   (ss_one (s_ret e_bl))
   ss_nil)
  (ss_cons (s_if (t_w (w_or (t_not (t_val (e_b call_isinst n_isinstance PyProof.Rows.boot_isinstance (a_cons (e_ix ix_tup (e_v 0) e_int) (a_cons (e_bt (v:=.ty "list") n_list (by decide +kernel) rfl) a_nil))))) (w_or1 (t_not (t_val (e_b call_all n_all PyProof.Rows.boot_all (a_cons (e_comp [] [] [] rfl trivial trivial (i_list (e_ix ix_tup (e_v 0) e_int)) (fun _ _ _ _=>(e_and (e_b (call_isinstK (K:=K) rfl) n_isinstance PyProof.Rows.boot_isinstance (a_cons (e_n 0) (a_cons (e_bt (v:=.ty "tuple") n_tuple (by decide +kernel) rfl) a_nil))) (e_one (e_cmp op_eq (e_b (call_lenK (K:=K) rfl) n_len PySem.boot_len (a_cons (e_n 0) a_nil)) e_int))))) a_nil)))))))
   (ss_one (s_ret e_bl))
   ss_nil)
  (ss_one (s_ret (e_and (e_cmp (op_eqD hr) (e_ix ix_tup (e_v 0) e_int) (e_ix ix_tup (e_v 1) e_int)) (e_one (e_b call_all n_all PyProof.Rows.boot_all (a_cons (e_comp [] [] [] rfl trivial trivial (i_list (e_ix ix_tup (e_v 0) e_int)) (fun _ _ _ _=>(e_call dLWh hr pass0 (a_cons (e_ix (ix_tupK (K:=K) rfl) (e_n 0) e_int) a_nil)))) a_nil)))))))))))) ?_
 have zl : sizeLine = 16777216:=sizeLine_eq
 match o,ot,du,of with
 | .many,⟨ea,ht,he⟩,hu,_ =>
  refine ⟨_,rfl,t,_,_,_,rfl,rfl,SqT.of ht,atI_nat (j:=0) rfl,_,rfl,u,_,_,_,rfl,rfl,SqT.of hu,atI_nat (j:=0) rfl,rfl,_,rfl,iteN (by rw [decide_eq_true rfl]; rfl) ?_⟩
  refine ⟨_,rfl,u,_,_,_,rfl,rfl,SqT.of hu,atI_nat (j:=0) rfl,rfl,_,rfl,iteN (decide_eq_false fun z=>by cases z) ?_⟩
  refine ⟨_,rfl,u,_,_,_,rfl,rfl,SqT.of hu,atI_nat (j:=0) rfl,rfl,_,rfl,iteN (decide_eq_false fun z=>by cases z) ?_⟩
  refine ⟨_,rfl,u,_,_,_,rfl,rfl,SqT.of hu,atI_nat (j:=0) rfl,rfl,_,rfl,iteN (decide_eq_false fun z=>by cases z) ?_⟩
  refine ⟨_,rfl,u,_,_,_,rfl,rfl,SqT.of hu,atI_nat (j:=0) rfl,(by show 2 <= sizeLine; decide),fun pl hpl=>⟨pl,_,rfl,.inl (SqL.of upd_same),rfl,rfl,_,rfl,iteY rfl ?_⟩⟩
  exact q _ (Same.new hpl _)
 | .du .fd,⟨ea,ht,he⟩,hu,_ =>
  refine ⟨_,rfl,t,_,_,_,rfl,rfl,SqT.of ht,atI_nat (j:=0) rfl,_,rfl,u,_,_,_,rfl,rfl,SqT.of hu,atI_nat (j:=0) rfl,rfl,_,rfl,iteN (by rw [decide_eq_true rfl]; rfl) ?_⟩
  refine ⟨_,rfl,u,_,_,_,rfl,rfl,SqT.of hu,atI_nat (j:=0) rfl,rfl,_,rfl,iteN (decide_eq_false fun z=>by cases z) ?_⟩
  refine ⟨_,rfl,u,_,_,_,rfl,rfl,SqT.of hu,atI_nat (j:=0) rfl,rfl,_,rfl,iteN (decide_eq_false fun z=>by cases z) ?_⟩
  refine ⟨_,rfl,u,_,_,_,rfl,rfl,SqT.of hu,atI_nat (j:=0) rfl,rfl,_,rfl,iteN (decide_eq_false fun z=>by cases z) ?_⟩
  refine ⟨_,rfl,u,_,_,_,rfl,rfl,SqT.of hu,atI_nat (j:=0) rfl,(by show 2 <= sizeLine; decide),fun pl hpl=>⟨pl,_,rfl,.inl (SqL.of upd_same),rfl,rfl,_,rfl,iteY rfl ?_⟩⟩
  exact q _ (Same.new hpl _)
 | .short k,⟨ea,dx,ht,he,hd⟩,hu,_ =>
  refine ⟨_,rfl,t,_,_,_,rfl,rfl,SqT.of ht,atI_nat (j:=0) rfl,_,rfl,u,_,_,_,rfl,rfl,SqT.of hu,atI_nat (j:=0) rfl,rfl,_,rfl,iteN (by rw [decide_eq_true rfl]; rfl) ?_⟩
  refine ⟨_,rfl,u,_,_,_,rfl,rfl,SqT.of hu,atI_nat (j:=0) rfl,rfl,_,rfl,iteY (decide_eq_true rfl) ?_⟩
  refine ⟨_,rfl,t,_,_,_,rfl,rfl,SqT.of ht,atI_nat (j:=1) rfl,ea,CS,dx,_,_,rfl,he,hd,X.ks,X.cs,X.sn,rfl,_,rfl,u,_,_,_,rfl,rfl,SqT.of hu,atI_nat (j:=1) rfl,_,_,.int _,.int _,lay_i _,lay_i _,Nat.le_trans (Nat.min_le_left _ _) (by simp [PyData.depth]),?_⟩
  rw [PySem.SeqAt.eqv_refl _ (lay_i _)]
  exact q H (Same.refl _)
 | .du (.nm n),⟨ea,dx,ht,he,hd⟩,hu,of =>
  refine ⟨_,rfl,t,_,_,_,rfl,rfl,SqT.of ht,atI_nat (j:=0) rfl,_,rfl,u,_,_,_,rfl,rfl,SqT.of hu,atI_nat (j:=0) rfl,rfl,_,rfl,iteN (by rw [decide_eq_true rfl]; rfl) ?_⟩
  refine ⟨_,rfl,u,_,_,_,rfl,rfl,SqT.of hu,atI_nat (j:=0) rfl,rfl,_,rfl,iteN (decide_eq_false fun z=>by cases z) ?_⟩
  refine ⟨_,rfl,u,_,_,_,rfl,rfl,SqT.of hu,atI_nat (j:=0) rfl,rfl,_,rfl,iteY (decide_eq_true rfl) ?_⟩
  refine ⟨_,rfl,t,_,_,_,rfl,rfl,SqT.of ht,atI_nat (j:=1) rfl,ea,CN,dx,_,_,rfl,he,hd,X.kn,X.cn,X.nn,rfl,_,rfl,u,_,_,_,rfl,rfl,SqT.of hu,atI_nat (j:=1) rfl,_,_,.str _,.str _,lay_s of,lay_s of,Nat.le_trans (Nat.min_le_left _ _) (by simp [PyData.depth]),?_⟩
  rw [PySem.SeqAt.eqv_refl _ (lay_s of)]
  exact q H (Same.refl _)
 | .du (.fr n g),⟨ea,dx,ht,he,hd⟩,⟨v,hu,hv⟩,of =>
  refine ⟨_,rfl,t,_,_,_,rfl,rfl,SqT.of ht,atI_nat (j:=0) rfl,_,rfl,u,_,_,_,rfl,rfl,SqT.of hu,atI_nat (j:=0) rfl,rfl,_,rfl,iteN (by rw [decide_eq_true rfl]; rfl) ?_⟩
  refine ⟨_,rfl,u,_,_,_,rfl,rfl,SqT.of hu,atI_nat (j:=0) rfl,rfl,_,rfl,iteN (decide_eq_false fun z=>by cases z) ?_⟩
  refine ⟨_,rfl,u,_,_,_,rfl,rfl,SqT.of hu,atI_nat (j:=0) rfl,rfl,_,rfl,iteN (decide_eq_false fun z=>by cases z) ?_⟩
  refine ⟨_,rfl,u,_,_,_,rfl,rfl,SqT.of hu,atI_nat (j:=0) rfl,rfl,_,rfl,iteY (decide_eq_true rfl) ?_⟩
  refine ⟨_,rfl,t,_,_,_,rfl,rfl,SqT.of ht,atI_nat (j:=1) rfl,ea,CF,dx,_,_,rfl,he,hd,X.kf,X.cf,X.fr,rfl,_,rfl,t,_,_,_,rfl,rfl,SqT.of ht,atI_nat (j:=1) rfl,ea,CF,dx,_,_,rfl,he,hd,X.kf,X.cf,X.ff,rfl,(by show 2 <= sizeLine; decide),fun tt htt=>?_⟩
  have s1:=Same.new htt (.tup [.str n,.int g])
  have da : Td (upd H tt (.tup [.str n,.int g])) (.ref tt) (.tuple [.str n,.int g]):=.tup upd_same (.cons (.str _) (.cons (.int _) .nil))
  have db : Td (upd H tt (.tup [.str n,.int g])) (.ref v) (.tuple [.str n,.int g]):=.tup (s1 _ _ hv) (.cons (.str _) (.cons (.int _) .nil))
  have lay : (PyData.tuple [.str n,.int g]).canLay0 = true:=by
   rw [PyData.canLay0]
   simp only [PyData.canLayAll0,lay_s of,lay_i,Bool.and_self]
  refine ⟨_,rfl,u,_,_,_,rfl,rfl,SqT.of (s1 _ _ hu),atI_nat (j:=1) rfl,_,_,da.den,db.den,lay,lay,Nat.le_trans (Nat.min_le_left _ _) (by simp [PyData.depth,PyData.depthAll]),?_⟩
  rw [PySem.SeqAt.eqv_refl _ lay]
  exact q _ s1
 | .good cs,⟨l,ht,cl⟩,⟨l',hu,cl'⟩,⟨nm,hlen⟩ =>
  obtain ⟨us,hus,tus⟩:=id cl
  have lu : us.length = cs.length:=by rw [tus.len,List.length_map]
  refine ⟨_,rfl,t,_,_,_,rfl,rfl,SqT.of ht,atI_nat (j:=0) rfl,_,rfl,u,_,_,_,rfl,rfl,SqT.of hu,atI_nat (j:=0) rfl,rfl,_,rfl,iteN (by rw [decide_eq_true rfl]; rfl) ?_⟩
  refine ⟨_,rfl,u,_,_,_,rfl,rfl,SqT.of hu,atI_nat (j:=0) rfl,rfl,_,rfl,iteN (decide_eq_false fun z=>by cases z) ?_⟩
  refine ⟨_,rfl,u,_,_,_,rfl,rfl,SqT.of hu,atI_nat (j:=0) rfl,rfl,_,rfl,iteN (decide_eq_false fun z=>by cases z) ?_⟩
  refine ⟨_,rfl,u,_,_,_,rfl,rfl,SqT.of hu,atI_nat (j:=0) rfl,rfl,_,rfl,iteN (decide_eq_false fun z=>by cases z) ?_⟩
  refine ⟨_,rfl,u,_,_,_,rfl,rfl,SqT.of hu,atI_nat (j:=0) rfl,(by show 2 <= sizeLine; decide),fun pl hpl=>⟨pl,_,rfl,.inl (SqL.of upd_same),rfl,rfl,_,rfl,iteN rfl ?_⟩⟩
  have s1:=Same.new hpl (.lst [.int 5,.int 6])
  generalize upd H pl (.lst [.int 5,.int 6]) = H1 at s1
  have hus1:=s1 _ _ hus
  refine ⟨_,rfl,t,_,_,_,rfl,rfl,SqT.of (s1 _ _ ht),atI_nat (j:=1) rfl,_,_,_,true,rfl,TyOf.lst hus1,.inr ⟨_,rfl⟩,kit_self,true,rfl,iteF ?_⟩
  refine ⟨_,rfl,t,_,_,_,rfl,rfl,SqT.of (s1 _ _ ht),atI_nat (j:=1) rfl,l,rfl,⟨_,SqL.of hus1⟩,comp_list (K:=K) ((List.replicate us.length true).map V.bl) (SqL.of hus1) (by omega) (by rw [List.length_map,List.length_replicate]) ?_ ?_⟩
  ·intro i x y H' R sH hx hy hR
   obtain ⟨dd,hd,tv⟩:=(tus.tk (TK.of (s1.trans sH))).get hx
   obtain ⟨c,hc,rfl⟩:=c_get hd
   obtain ⟨a,rfl,ha⟩:=td_cl tv
   obtain rfl : y = .bl true:=by
    have:=List.mem_of_getElem? hy
    obtain ⟨b,hb,rfl⟩:=List.mem_map.mp this
    rw [(List.mem_replicate.mp hb).2]
   refine ⟨_,rfl,_,_,_,true,rfl,TyOf.tup ha,.inr ⟨_,rfl⟩,kit_self,true,rfl,iteT ?_⟩
   exact ⟨_,rfl,a,_,rfl,.inr (SqT.of ha),rfl,hR H' (Same.refl _)⟩
  intro D H2 s2 hD0 hD
  have allT : ∀ n : Nat,(List.replicate n true).all id = true:=fun n=>by simp
  refine ⟨D,_,rfl,SqL.of hD,rfl,_,rfl,iteN (by rw [allT]; rfl) ?_⟩
  have S2:=s1.trans s2
  refine ⟨_,rfl,t,_,_,_,rfl,rfl,SqT.of (S2 _ _ ht),atI_nat (j:=1) rfl,_,rfl,u,_,_,_,rfl,rfl,SqT.of (S2 _ _ hu),atI_nat (j:=1) rfl,_,_,cl_den (cl.same S2),cl_den (cl'.same S2),lay_list nm,lay_list nm,dep_list _ _,_,rfl,iteY (by rw [PySem.SeqAt.eqv_refl _ (lay_list nm)]) ?_⟩
  refine ⟨_,rfl,t,_,_,_,rfl,rfl,SqT.of (S2 _ _ ht),atI_nat (j:=1) rfl,l,rfl,⟨_,SqL.of (S2 _ _ hus)⟩,comp_list (K:=K) ((List.replicate us.length true).map V.bl) (SqL.of (S2 _ _ hus)) (by omega) (by rw [List.length_map,List.length_replicate]) ?_ ?_⟩
  ·intro i x y H' R sH hx hy hR
   obtain ⟨dd,hd,tv⟩:=(tus.tk (TK.of (S2.trans sH))).get hx
   obtain ⟨c,hc,rfl⟩:=c_get hd
   obtain ⟨a,rfl,ha⟩:=td_cl tv
   obtain rfl : y = .bl true:=by
    have:=List.mem_of_getElem? hy
    obtain ⟨b,hb,rfl⟩:=List.mem_map.mp this
    rw [(List.mem_replicate.mp hb).2]
   exact ⟨_,rfl,a,_,_,_,rfl,rfl,SqT.of ha,atI_nat (j:=3) rfl,_,rfl,hR H' (Same.refl _)⟩
  intro D3 H3 s3 hD3 hD3'
  refine ⟨D3,_,rfl,SqL.of hD3',rfl,?_⟩
  rw [allT]
  exact q _ (S2.trans s3)
end
end K12
set_option maxHeartbeats 2000000
namespace K12
open PySem L2 G DT
open IT hiding It
structure Ls (prs : List (Addr × Reel)) (G : Str->List IT.It->Prop) (D L : Nat) (H : Hp) (p : Addr) (xs : List IT.It) : Prop where
 td : Td H (.ref p) (.tuple (dL xs))
 wl : WL xs
 hl : hL (Ck prs) G xs
 dp : dpL xs <= D
 len : xs.length <= L
theorem Ls.same {prs : List (Addr × Reel)} {G : Str->List IT.It->Prop} {D L : Nat} {H H' : Hp} {p : Addr} {xs : List IT.It} (h : Ls prs G D L H p xs) (s : Same H H') : Ls prs G D L H' p xs:=⟨h.td.tk (TK.of s),h.wl,h.hl,h.dp,h.len⟩
theorem Ls.mono {prs : List (Addr × Reel)} {G : Str->List IT.It->Prop} {D L D' L' : Nat} {H : Hp} {p : Addr} {xs : List IT.It} (h : Ls prs G D L H p xs) (d : D <= D') (l : L <= L') : Ls prs G D' L' H p xs:=⟨h.td,h.wl,h.hl,Nat.le_trans h.dp d,Nat.le_trans h.len l⟩
theorem WL.reps {y : IT.It} (hy : WI y) : ∀ {xs : List IT.It} (k : Nat),WL xs->WL (xs ++ List.replicate k y)
 | xs,0,h=>by rw [List.replicate_zero,List.append_nil]; exact h
 | xs,k + 1,h=>by
  rw [List.replicate_succ,show xs ++ y :: List.replicate k y = (xs ++ [y]) ++ List.replicate k y by simp]
  exact WL.reps hy k (h.app (.one hy))
theorem hL_reps {T : Str->Int->Int->Prop} {G : Str->List IT.It->Prop} {y : IT.It} (h : hI T G y) (k : Nat) : hL T G (List.replicate k y):=hL_iff.mpr fun x hx=>by
 rw [(List.mem_replicate.mp hx).2]; exact h
theorem dp_reps {y : IT.It} {d : Nat} (h : dpI y <= d) (k : Nat) : dpL (List.replicate k y) <= d:=dpL_le.mpr fun x hx=>by
 rw [(List.mem_replicate.mp hx).2]; exact h
theorem tds_reps {H : Hp} {v : V} {y : IT.It} (h : Td H v (dI y)) : ∀ k : Nat,Tds H (List.replicate k v) (dL (List.replicate k y))
 | 0=>by rw [List.replicate_zero,List.replicate_zero,dL]; exact .nil
 | k + 1=>by rw [List.replicate_succ,List.replicate_succ,dL]; exact .cons h (tds_reps h k)
theorem tds_one {H : Hp} {v : V} {y : IT.It} (h : Td H v (dI y)) : Tds H [v] (dL [y]):=by
 rw [dL,dL]; exact .cons h .nil
section
variable {P : Program} {w : World} {K : PySem.W.Frag} {mg : Str->Option Value} {base : Heap}
def spSized (d : Nat) : Sp:=fun vs H Q _=>∃ (a pd lr : Addr) (c : Int) (xs : List IT.It) (prs : List (Addr × Reel)) (G : Str->List IT.It->Prop) (ns : List Str),vs = [.ref a,.ref pd,.int c,.ref lr]/\Ls prs G d 1000 H a xs/\2 <= d/\PR H pd G/\Pa (Ck prs) G ns/\RL H lr prs/\1 <= prs.length/\∀ p ys H',Same H H'->Ls prs G (d + 5) 2000 H' p ys->Q (.ref p) H'
theorem scSized : FnScope ["_law_items_here", "_law_parts", "_law_cell_here", "_law_reels_here", "_law_clips", "_law_frames", "_law_more", "_law_name", "_law_letters", "_law_start", "_law_many", "_law_one", "_law_extra", "_law_k"] ["_law_items_here", "_law_parts", "_law_cell_here", "_law_reels_here"] (defScope s__law_sized):=⟨rfl,rfl,rfl,by decide +kernel,rfl,by decide +kernel,by decide +kernel⟩
theorem ok_sized {d : Nat} {f : Addr} {fd : FuncData} (F : Fun K "_law_sized" "_law_sized" s__law_sized f fd) (dCount : Def P w K mg base CX0 "_law_count" (d + 2) ["_law_items_here", "_law_parts", "_law_known"] (spCount d)) (n_range : mg "range" = none) :
  FnOk P w K mg base CX0 (d + 3) f fd ["_law_items_here", "_law_parts", "_law_cell_here", "_law_reels_here"] (spSized d):=by
 refine F.ok scSized (fun vs H Q E h=>?_) (fun cdv A outer s H vs Q E hr h=>?_)
 ·obtain ⟨a,pd,lr,c,xs,prs,G,ns,rfl,_⟩:=h
  rfl
 obtain ⟨a,pd,lr,c,xs,prs,G,ns,rfl,ls,hd2,pr,pa,rl,hp1,q⟩:=h
 refine useQ (ss_cons (s_asg (e_call dCount hr pass0 (a_cons (e_v 0) (a_cons (e_v 1) (a_cons e_dnew a_nil))) (hj:=by omega)) (g_tup rfl (gs_cons (g_name (i:=4) scSized.nd) (gs_cons (g_name (i:=5) scSized.nd) gs_nil))))
  (ss_cons (s_set (i:=6) scSized.nd (e_ix ix_list (e_lst (a_cons e_int (a_cons e_int (a_cons (e_un un_neg e_int) a_nil)))) (e_op op_mod (e_op op_fdiv (e_v 2) e_int) e_int)))
  (ss_cons (s_asg (e_ix ix_list (e_v 3) e_int) (g_tup rfl (gs_cons (g_name (i:=7) scSized.nd) (gs_cons (g_name (i:=8) scSized.nd) (gs_cons (g_name (i:=9) scSized.nd) (gs_cons (g_name (i:=10) scSized.nd) gs_nil))))))
  (ss_cons (s_cut (s_if (t_w (w_and (t_cmp op_eq (e_op op_mod (e_v 2) e_int) e_int) (w_and1 (t_cmp op_lt (e_v 4) e_int))))
   (ss_cons (s_set (i:=11) scSized.nd (e_tup (a_cons (e_tup (a_cons e_str (a_cons (e_v 7) (a_cons e_int (a_cons e_int a_nil))))) a_nil)))
   (ss_cons (s_set (i:=12) scSized.nd (e_op op_add (e_op op_sub e_int (e_v 4)) (e_v 6)))
   (ss_cons (s_set (i:=0) scSized.nd (e_op op_catG (e_v 0) (e_op op_repT (e_tup (a_cons (e_tup (a_cons e_str (a_cons e_int (a_cons (e_v 11) a_nil)))) a_nil)) (e_op op_fdiv (e_v 12) e_int))))
   (ss_one (s_if (t_cmp op_gt (e_op op_mod (e_v 12) e_int) e_int)
    (ss_one (s_set (i:=0) scSized.nd (e_op op_catG (e_v 0) (e_tup (a_cons (e_tup (a_cons e_str (a_cons (e_op op_mod (e_v 12) e_int) (a_cons (e_v 11) a_nil)))) a_nil)))))
    ss_nil)))))
   ss_nil))
  (ss_cons (s_cut (s_if (t_w (w_and (t_cmp op_eq (e_op op_mod (e_v 2) e_int) e_int) (w_and1 (t_chain op_lt op_le e_int (e_op op_add (e_op op_sub e_int (e_v 5)) (e_v 6)) (e_v 10)))))
   (ss_one (s_set (i:=0) scSized.nd (e_op op_catG (e_v 0) (e_tup (a_cons (e_tup (a_cons e_str (a_cons (e_v 7) (a_cons (e_op op_add (e_op op_sub e_int (e_v 5)) (e_v 6)) (a_cons e_int a_nil))))) a_nil)))))
   ss_nil))
  (ss_cons (s_if (t_cmp op_eq (e_op op_mod (e_v 2) e_int) e_int)
   (ss_one (s_for PassesOwn.never rfl (i_rng1 n_range e_int) (g_name (i:=13) scSized.nd)
    (ss_one (s_set (i:=0) scSized.nd (e_tup (a_cons (e_tup (a_cons e_str (a_cons e_int (a_cons (e_v 0) a_nil)))) a_nil))))))
   ss_nil)
  (ss_one (s_ret (e_v 0))))))))) ?_
 have zl : sizeLine = 16777216:=sizeLine_eq
 refine ⟨_,rfl,_,rfl,fun pk hpk=>?_⟩
 have tk:=Same.new hpk (.dK [])
 have npk : pk ≠ pd:=by
  obtain ⟨kv,r,_⟩:=pr
  exact rdn r hpk
 have cp:=cn_posL ls.wl
 refine ⟨a,pd,pk,xs,_,G,ns,[],rfl,ls.td.tk (TK.of tk),pr.same tk,pa,ls.hl,ls.wl,ls.dp,npk,upd_same,⟨List.nodup_nil,(fun k hk=>nomatch hk),fun n v e=>nomatch e⟩,fun t H1 kvs' sx1 hk1 kn1 ht1=>?_⟩
 have S1 : Same H H1:=SX.same hpk tk sx1
 refine ⟨t,_,rfl,SqT.of ht1,rfl,_,_,rfl,_,_,rfl,rfl,?_⟩
 obtain ⟨m,hm,hm1,hm2⟩ : ∃ m : Int,atI [V.int 0,.int 1,.int (-1)] (c / 8 % 3) = some (.int m)/\-1 <= m/\m <= 1:=by
  have h0:=Int.emod_nonneg (c / 8) (b:=3) (by decide)
  have h3:=Int.emod_lt_of_pos (c / 8) (b:=3) (by decide)
  have : c / 8 % 3 = 0 \/ c / 8 % 3 = 1 \/ c / 8 % 3 = 2:=by omega
  rcases this with z | z | z <;> rw [z]
  ·exact ⟨0,rfl,by decide,by decide⟩
  ·exact ⟨1,rfl,by decide,by decide⟩
  ·exact ⟨-1,rfl,by decide,by decide⟩
 refine ⟨_,rfl,(by show 3 <= sizeLine; decide),fun pl hpl=>⟨_,rfl,_,_,rfl,rfl,⟨by decide,by decide⟩,_,_,rfl,rfl,(by show (0 : Int) < 3; decide),pl,_,_,.int m,rfl,rfl,SqL.of upd_same,hm,?_⟩⟩
 have s2:=Same.new hpl (.lst [.int 0,.int 1,.int (-1)])
 generalize upd H1 pl (.lst [.int 0,.int 1,.int (-1)]) = H2 at s2
 have S2:=S1.trans s2
 obtain ⟨y,hy⟩ : ∃ y,prs[0]? = some y:=⟨_,List.getElem?_eq_getElem (by omega)⟩
 have hym:=List.mem_of_getElem? hy
 have rl2:=rl.same S2
 obtain ⟨hyt,yok⟩:=rl2.2 y hym
 have m1:=yok.m1
 have hat : atI (prs.map fun x=>V.ref x.1) 0 = some (.ref y.1):=atI_nat (j:=0) (by rw [List.getElem?_map,hy]; rfl)
 refine ⟨_,rfl,lr,_,_,_,rfl,rfl,SqL.of rl2.1,hat,y.1,_,rfl,SqT.of hyt,rfl,_,_,rfl,_,_,rfl,_,_,rfl,_,_,rfl,rfl,?_⟩
 have ls2:=ls.same S2
 let B:=fun (σ : St) (H' : Hp) (D L : Nat)=>∃ (p : Addr) (ys : List IT.It) (o11 o12 : Option V),σ = [some (.ref p),some (.ref pd),some (.int c),some (.ref lr),some (.int (cnL xs)),some (.int (frL xs)),some (.int m),some (.str y.2.name),some (.str y.2.letters),some (.int y.2.start),some (.int y.2.many),o11,o12,none]/\Same H2 H'/\Ls prs G D L H' p ys
 have cat : ∀ {H3 H4 : Hp} {p : Addr} {ys zs : List IT.It} {D L L' : Nat} {vs ws : List V} {p' : Addr},Ls prs G D L H3 p ys->H3 p = some (.tup vs)->Same H3 H4->H4 p' = some (.tup (vs ++ ws))->Tds H3 ws (dL zs)->WL (ys ++ zs)->hL (Ck prs) G zs->dpL zs <= D->L + zs.length <= L'->Ls prs G D L' H4 p' (ys ++ zs):=by
  intro H3 H4 p ys zs D L L' vs ws p' l3 hp s4 hp' tw wl' hl' dp' ln
  obtain ⟨_,us,e,hp2,tu⟩:=l3.td.tinv
  cases e
  rw [hp] at hp2
  cases hp2
  exact ⟨.tup hp' (by rw [dL_app]; exact (tu.app tw).tk (TK.of s4)),wl',hL_app l3.hl hl',dpL_app l3.dp dp',by rw [List.length_append]; have:=l3.len; omega⟩
 have hone : hI (Ck prs) G (.clip y.2.name 0 0):=by rw [hI]; exact ⟨yok.nf,y,hym,rfl,by decide,by omega,by decide,by omega⟩
 refine ⟨fun σ H'=>B σ H' d 1006,?_,?_⟩
 ·refine ⟨_,rfl,_,_,rfl,rfl,(by show (0 : Int) < 8; decide),rfl,_,rfl,ite2 (fun c1=>?_) (fun _=>iteF ⟨a,xs,_,_,rfl,Same.refl _,ls2.mono (Nat.le_refl _) (by decide)⟩)⟩
  refine ⟨_,rfl,_,_,rfl,rfl,_,rfl,ite2 (fun c2=>?_) (fun _=>⟨a,xs,_,_,rfl,Same.refl _,ls2.mono (Nat.le_refl _) (by decide)⟩)⟩
  have d2 : cnL xs < 99:=of_decide_eq_true c2
  refine ⟨_,rfl,(by show 4 <= sizeLine; decide),fun p1 hp1=>⟨(by show 1 <= sizeLine; decide),fun p2 hp2=>?_⟩⟩
  have t1:=Same.new hp1 (.tup [.str "clip",.str y.2.name,.int 0,.int 0])
  have t2:=Same.new hp2 (.tup [.ref p1])
  have tone : Td (upd (upd H2 p1 (.tup [.str "clip",.str y.2.name,.int 0,.int 0])) p2 (.tup [.ref p1])) (.ref p2) (.tuple (dL [.clip y.2.name 0 0])):=.tup upd_same (tds_one ((mk_clip upd_same).tk (TK.of t2)))
  have T2:=t1.trans t2
  generalize upd (upd H2 p1 (.tup [.str "clip",.str y.2.name,.int 0,.int 0])) p2 (.tup [.ref p1]) = H3 at T2 tone
  refine ⟨_,rfl,_,_,rfl,rfl,_,rfl,_,_,rfl,rfl,?_⟩
  refine ⟨_,rfl,_,rfl,(by show 3 <= sizeLine; decide),fun p3 hp3=>⟨(by show 1 <= sizeLine; decide),fun p4 hp4=>?_⟩⟩
  have t3:=Same.new hp3 (.tup [.str "times",.int 20,.ref p2])
  have t4:=Same.new hp4 (.tup [.ref p3])
  have tt : Td (upd (upd H3 p3 (.tup [.str "times",.int 20,.ref p2])) p4 (.tup [.ref p3])) (.ref p3) (dI (.times 20 [.clip y.2.name 0 0])):=(mk_times upd_same (tone.tk (TK.of t3))).tk (TK.of t4)
  have T4:=t3.trans t4
  have h4:=upd_same (H:=upd H3 p3 (.tup [.str "times",.int 20,.ref p2])) (a:=p4) (o:=.tup [.ref p3])
  generalize upd (upd H3 p3 (.tup [.str "times",.int 20,.ref p2])) p4 (.tup [.ref p3]) = H4 at T4 tt h4
  have hext : 0 <= (100 - cnL xs + m) / 20/\(100 - cnL xs + m) / 20 <= 5:=by omega
  refine ⟨_,rfl,_,_,rfl,rfl,⟨by decide,by decide⟩,p4,_,.ref p3,rfl,rfl,h4,by omega,by omega,fun p5 H5 s5 h5=>?_⟩
  have U5:=(T2.trans T4).trans s5
  obtain ⟨_,us,e,ha5,tu⟩:=(ls2.same U5).td.tinv
  cases e
  have lu : us.length = xs.length:=len_item tu
  have lx:=ls.len
  refine ⟨a,p5,us,_,rfl,rfl,ha5,h5,by rw [List.length_replicate]; omega,fun p6 H6 s6 h6=>?_⟩
  have hti : hI (Ck prs) G (.times 20 [.clip y.2.name 0 0]):=by rw [hI]; exact h1 hone
  have wti : WI (.times 20 [.clip y.2.name 0 0]):=.times (by decide) (by decide) (.one .clip)
  have l6 : Ls prs G d 1005 H6 p6 (xs ++ List.replicate ((100 - cnL xs + m) / 20).toNat (.times 20 [.clip y.2.name 0 0])):=cat (ls2.same U5) ha5 s6 h6 (tds_reps (tt.tk (TK.of s5)) _) (WL.reps wti _ ls.wl) (hL_reps hti _) (dp_reps (by rw [dpI,dpL,dpL,dpI]; omega) _) (by rw [List.length_replicate]; omega)
  have U6:=U5.trans s6
  refine ⟨_,rfl,_,_,rfl,rfl,(by show (0 : Int) < 20; decide),_,_,rfl,rfl,_,rfl,ite2 (fun c3=>?_) (fun _=>⟨p6,_,_,_,rfl,U6,l6.mono (Nat.le_refl _) (by decide)⟩)⟩
  have d3 : 0 < (100 - cnL xs + m) % 20:=of_decide_eq_true c3
  refine ⟨_,rfl,_,rfl,_,_,rfl,rfl,(by show (0 : Int) < 20; decide),_,rfl,(by show 3 <= sizeLine; decide),fun p7 hp7=>⟨(by show 1 <= sizeLine; decide),fun p8 hp8=>?_⟩⟩
  have t7:=Same.new hp7 (.tup [.str "times",.int ((100 - cnL xs + m) % 20),.ref p2])
  have t8:=Same.new hp8 (.tup [.ref p7])
  have tt8 : Td (upd (upd H6 p7 (.tup [.str "times",.int ((100 - cnL xs + m) % 20),.ref p2])) p8 (.tup [.ref p7])) (.ref p7) (dI (.times ((100 - cnL xs + m) % 20) [.clip y.2.name 0 0])):=(mk_times upd_same (tone.tk (TK.of (((T4.trans s5).trans s6).trans t7)))).tk (TK.of t8)
  have T8:=t7.trans t8
  have h8:=upd_same (H:=upd H6 p7 (.tup [.str "times",.int ((100 - cnL xs + m) % 20),.ref p2])) (a:=p8) (o:=.tup [.ref p7])
  generalize upd (upd H6 p7 (.tup [.str "times",.int ((100 - cnL xs + m) % 20),.ref p2])) p8 (.tup [.ref p7]) = H8 at T8 tt8 h8
  have l8:=l6.same T8
  obtain ⟨_,us8,e,hp68,tu8⟩:=l8.td.tinv
  cases e
  have lu8:=len_item tu8
  have ll8:=l8.len
  refine ⟨p6,p8,us8,_,rfl,rfl,hp68,h8,by simp only [List.length_cons,List.length_nil]; omega,fun p9 H9 s9 h9=>?_⟩
  refine ⟨p9,_,_,_,rfl,(U6.trans T8).trans s9,cat l8 hp68 s9 h9 (tds_one tt8) (l8.wl.app (.one (.times (by omega) (by omega) (.one .clip)))) (h1 (by rw [hI]; exact h1 hone)) (dp1 (by rw [dpI,dpL,dpL,dpI]; omega)) (by show 1005 + 1 <= 1006; decide)⟩
 rintro σ H3 ⟨p,ys,o11,o12,rfl,s3,l3⟩
 refine ⟨fun σ H'=>B σ H' d 1007,?_,?_⟩
 ·refine ⟨_,rfl,_,_,rfl,rfl,(by show (0 : Int) < 8; decide),rfl,_,rfl,ite2 (fun c1=>?_) (fun _=>iteF ⟨p,ys,_,_,rfl,s3,l3.mono (Nat.le_refl _) (by decide)⟩)⟩
  refine ⟨_,rfl,_,_,rfl,rfl,_,rfl,_,_,rfl,rfl,_,_,rfl,rfl,_,rfl,ite2 (fun c2=>⟨_,rfl,_,_,rfl,rfl,_,rfl,ite2 (fun c3=>?_) (fun _=>⟨p,ys,_,_,rfl,s3,l3.mono (Nat.le_refl _) (by decide)⟩)⟩) (fun _=>⟨_,rfl,iteF ⟨p,ys,_,_,rfl,s3,l3.mono (Nat.le_refl _) (by decide)⟩⟩)⟩
  have d2 : 0 < 2000 - frL xs + m:=of_decide_eq_true c2
  have d3 : 2000 - frL xs + m <= y.2.many:=of_decide_eq_true c3
  refine ⟨_,rfl,_,rfl,_,rfl,_,_,rfl,rfl,_,rfl,_,_,rfl,rfl,(by show 4 <= sizeLine; decide),fun p7 hp7=>⟨(by show 1 <= sizeLine; decide),fun p8 hp8=>?_⟩⟩
  have t7:=Same.new hp7 (.tup [.str "clip",.str y.2.name,.int (1999 - frL xs + m),.int 0])
  have t8:=Same.new hp8 (.tup [.ref p7])
  have tt8 : Td (upd (upd H3 p7 (.tup [.str "clip",.str y.2.name,.int (1999 - frL xs + m),.int 0])) p8 (.tup [.ref p7])) (.ref p7) (dI (.clip y.2.name (1999 - frL xs + m) 0)):=(mk_clip upd_same).tk (TK.of t8)
  have T8:=t7.trans t8
  have h8:=upd_same (H:=upd H3 p7 (.tup [.str "clip",.str y.2.name,.int (1999 - frL xs + m),.int 0])) (a:=p8) (o:=.tup [.ref p7])
  generalize upd (upd H3 p7 (.tup [.str "clip",.str y.2.name,.int (1999 - frL xs + m),.int 0])) p8 (.tup [.ref p7]) = H8 at T8 tt8 h8
  have l8:=l3.same T8
  obtain ⟨_,us8,e,hp68,tu8⟩:=l8.td.tinv
  cases e
  have lu8:=len_item tu8
  have ll8:=l8.len
  refine ⟨p,p8,us8,_,rfl,rfl,hp68,h8,by simp only [List.length_cons,List.length_nil]; omega,fun p9 H9 s9 h9=>?_⟩
  exact ⟨p9,_,_,_,rfl,(s3.trans T8).trans s9,cat l8 hp68 s9 h9 (tds_one tt8) (l8.wl.app (.one .clip)) (h1 (by rw [hI]; exact ⟨yok.nf,y,hym,rfl,by omega,by omega,by omega,by omega⟩)) (dp1 (by rw [dpI]; omega)) (by show 1006 + 1 <= 1007; decide)⟩
 rintro σ H4 ⟨p,ys,o11,o12,rfl,s4,l4⟩
 refine ⟨_,rfl,_,_,rfl,rfl,(by show (0 : Int) < 8; decide),rfl,_,rfl,ite2 (fun c1=>?_) (fun _=>⟨_,rfl,q p ys H4 (S2.trans s4) (l4.mono (by omega) (by decide))⟩)⟩
 refine ⟨5,rfl,by decide,by decide,for_range (lo:=0) (n:=5) (fun i σ H'=>∃ (p : Addr) (ys : List IT.It) (o13 : Option V),σ = [some (.ref p),some (.ref pd),some (.int c),some (.ref lr),some (.int (cnL xs)),some (.int (frL xs)),some (.int m),some (.str y.2.name),some (.str y.2.letters),some (.int y.2.start),some (.int y.2.many),o11,o12,o13]/\Same H2 H'/\Ls prs G (d + i) 1007 H' p ys) ⟨p,ys,none,rfl,s4,l4⟩ ?_ ?_⟩
 ·rintro i σ H5 hi ⟨p,ys,o13,rfl,s5,l5⟩
  refine ⟨_,rfl,(by show 3 <= sizeLine; decide),fun p7 hp7=>⟨(by show 1 <= sizeLine; decide),fun p8 hp8=>?_⟩⟩
  have t7:=Same.new hp7 (.tup [.str "times",.int 20,.ref p])
  have t8:=Same.new hp8 (.tup [.ref p7])
  refine ⟨p8,[.times 20 ys],_,rfl,(s5.trans t7).trans t8,.tup upd_same (tds_one ((mk_times upd_same (l5.td.tk (TK.of t7))).tk (TK.of t8))),.one (.times (by decide) (by decide) l5.wl),h1 (by rw [hI]; exact l5.hl),dp1 (by rw [dpI]; have:=l5.dp; omega),by show 1 <= 1007; decide⟩
 ·rintro σ H5 ⟨p,ys,o13,rfl,s5,l5⟩
  exact ⟨_,rfl,q p ys H5 (S2.trans s5) (l5.mono (Nat.le_refl _) (by decide))⟩
end
end K12
set_option maxHeartbeats 2000000
namespace K12
open PySem L2 G DT
open IT hiding It
theorem e_disp1 {X : Cx} {k1 v1 : Expr} {a1 b1 : TE} {pos : Pos} (h1 : QE X k1 a1) (g1 : QE X v1 b1) : QE X (.Dict [some k1] [v1] pos) (tDisp [(a1,b1)]):=⟨pe_disp (pps_cons h1.h g1.h pps_nil) rfl rfl (by intro z; cases z) (by show 1 <= 15; decide)⟩
theorem Bk.fine {prs : List (Addr × Reel)} {G G0 : Str->List IT.It->Prop} {A : Str->Prop} {xs : List IT.It} {e : Du} (h : Bk prs G G0 A xs e) (hp : ∀ x ∈ prs,Fine x.2.name) (ha : ∀ n,A n->Fine n) : OcF (.du e):=by
 induction h with
 | clipF _ _ hx _=>exact hp _ hx
 | clipL _ _ hx _ _=>exact hp _ hx
 | fade _ _=>trivial
 | none _ _ h=>exact ha _ h
 | part _ _ _ _ _ ih=>exact ih
theorem Res.fine {prs : List (Addr × Reel)} {G G0 : Str->List IT.It->Prop} {A : Str->Prop} {xs : List IT.It} {o : Oc} {ns : List Str} (h : Res prs G G0 A xs o) (pa : Pa (Ck prs) G ns) (hp : ∀ x ∈ prs,Fine x.2.name) (ha : ∀ n,A n->Fine n) : OcF o:=by
 cases h with
 | good wl hl h1 h2 h3=>exact ⟨nmL (fun n ys g=>okL_of (pa.ok n ys g)) (okL_of hl),h1⟩
 | many _ _ _=>trivial
 | short _ _ _ _ _ _=>trivial
 | du bk=>exact bk.fine hp ha
def chT (r : Str) (f l : Int) (nm : Nat->Str) (mu : Nat->Nat) : Nat->List IT.It
 | 0=>[.clip r f l]
 | k + 1=>List.replicate (mu (k + 1)) (.part (nm k) (chT r f l nm mu k))
def chG (r : Str) (f l : Int) (nm : Nat->Str) (mu : Nat->Nat) (m : Nat) : Str->List IT.It->Prop:=fun n ys=>∃ k,k < m/\n = nm k/\ys = chT r f l nm mu k
section
variable {r : Str} {f l : Int} {nm : Nat->Str} {mu : Nat->Nat} {m : Nat}
theorem ch_dp : ∀ k,dpL (chT r f l nm mu k) <= k + 1
 | 0=>by rw [chT]; exact dp1 (by rw [dpI]; omega)
 | k + 1=>by rw [chT]; exact dp_reps (by rw [dpI]; have:=ch_dp k; omega) _
theorem wl_reps {y : IT.It} (hy : WI y) : ∀ k : Nat,1 <= k->WL (List.replicate k y)
 | 1,_=>.one hy
 | k + 2,_=>by rw [List.replicate_succ]; exact .cons hy (wl_reps hy (k + 1) (by omega))
theorem ch_wl (h : ∀ k,1 <= mu k) : ∀ k,WL (chT r f l nm mu k)
 | 0=>by rw [chT]; exact .one .clip
 | k + 1=>by rw [chT]; exact wl_reps (.part (ch_wl h k)) _ (h _)
theorem ch_hl {T : Str->Int->Int->Prop} (hr : Fine r) (hT : T r f l) (hn : ∀ k,k < m->Fine (nm k)) : ∀ k,k < m->hL T (chG r f l nm mu m) (chT r f l nm mu k)
 | 0,_=>by rw [chT]; exact h1 (by rw [hI]; exact ⟨hr,hT⟩)
 | k + 1,h=>by rw [chT]; exact hL_reps (by rw [hI]; exact ⟨hn k (by omega),k,by omega,rfl,rfl⟩) _
theorem ch_pa {T : Str->Int->Int->Prop} {ns : List Str} (h : ∀ k,1 <= mu k) (hr : Fine r) (hT : T r f l) (hn : ∀ k,k < m->Fine (nm k)) (inj : ∀ j k,j < m->k < m->nm j = nm k->j = k) (hm : ∀ k,k < m->nm k ∈ ns) (hl : ns.length <= 100) : Pa T (chG r f l nm mu m) ns where
 fn:=by
  rintro n ys ys' ⟨k,hk,rfl,rfl⟩ ⟨j,hj,e,rfl⟩
  rw [inj k j hk hj e]
 dom:=by
  rintro n ys ⟨k,hk,rfl,rfl⟩
  exact hm k hk
 len:=hl
 wl:=by
  rintro n ys ⟨k,hk,rfl,rfl⟩
  exact ch_wl h k
 ok:=by
  rintro n ys ⟨k,hk,rfl,rfl⟩
  exact ch_hl hr hT hn k hk
theorem ch_bk {prs : List (Addr × Reel)} {x : Addr × Reel} {A : Str->Prop} (h : ∀ k,1 <= mu k) (hx : x ∈ prs) (hr : r = x.2.name) (hf : ¬ has x.2 f) : ∀ k,k < m->Bk prs (fun _ _=>False) (chG r f l nm mu m) A (chT r f l nm mu k) (.fr r f)
 | 0,_=>by rw [chT,hr]; exact .clipF (p:=[]) (q:=[]) (.inl rfl) (by rw [hL]; trivial) hx hf
 | k + 1,hk=>by
  obtain ⟨n,hn⟩ : ∃ n,mu (k + 1) = n + 1:=⟨mu (k + 1) - 1,by have:=h (k + 1); omega⟩
  rw [chT,hn,List.replicate_succ]
  exact .part (p:=[]) (.inl rfl) (by rw [hL]; trivial) ⟨k,by omega,rfl,rfl⟩ (fun _ z=>z) (ch_bk h hx hr hf k (by omega))
end
theorem pa_none (T : Str->Int->Int->Prop) {ns : List Str} (h : ns.length <= 100) : Pa T (fun _ _=>False) ns:=⟨fun _ _ _ z=>z.elim,fun _ _ z=>z.elim,h,fun _ _ z=>z.elim,fun _ _ z=>z.elim⟩
theorem put_len {kvs : List (Key × V)} {k : Key} {v : V} : (putK kvs k v).length <= kvs.length + 1:=by
 unfold putK
 split
 ·rw [List.length_map]; omega
 ·rw [List.length_append]; exact Nat.le_refl _
structure CP (r : Str) (f l : Int) (nm : Nat->Str) (mu : Nat->Nat) (m : Nat) (H : Hp) (kvs : List (Key × V)) : Prop where
 val : ∀ k,k < m->∃ b,valV kvs (Sum.inr (nm k)) = some (.ref b)/\Td H (.ref b) (.tuple (dL (chT r f l nm mu k)))
 len : kvs.length <= m
theorem CP.pr {r : Str} {f l : Int} {nm : Nat->Str} {mu : Nat->Nat} {m : Nat} {H : Hp} {pd : Addr} {kvs : List (Key × V)} (h : CP r f l nm mu m H kvs) (hd : H pd = some (.dK kvs)) : PR H pd (chG r f l nm mu m):=⟨kvs,.inl hd,by
 rintro n ys ⟨k,hk,rfl,rfl⟩
 exact h.val k hk⟩
theorem CP.put {r : Str} {f l : Int} {nm : Nat->Str} {mu : Nat->Nat} {m : Nat} {H H2 : Hp} {b : Addr} {kvs : List (Key × V)} (h : CP r f l nm mu m H kvs) (t : TK H H2) (inj : ∀ j,j < m->nm j ≠ nm m) (hb : Td H2 (.ref b) (.tuple (dL (chT r f l nm mu m)))) : CP r f l nm mu (m + 1) H2 (putK kvs (Sum.inr (nm m)) (.ref b)):=by
 refine ⟨fun k hk=>?_,Nat.le_trans (put_len) (Nat.succ_le_succ h.len)⟩
 rw [valV_put]
 by_cases z : k = m
 ·subst z
  exact ⟨b,if_pos rfl,hb⟩
 ·obtain ⟨c,h1,h2⟩:=h.val k (by omega)
  exact ⟨c,by rw [if_neg (fun e=>inj k (by omega) (Sum.inr.inj e)),h1],h2.tk t⟩
section
variable {P : Program} {w : World} {K : PySem.W.Frag} {mg : Str->Option Value} {base : Heap}
def spChain (K : PySem.W.Frag) : Sp:=fun vs H Q _=>∃ (a : Addr) (ns : List Int),vs = [.ref a]/\SqL K H a (ns.map V.int)/\∀ H',Same H H'->Q (.bl true) H'
theorem scChain : FnScope ["_law_script", "_law_names_here", "_law_xs", "_law_many", "_law_last", "_law_parts", "_law_k", "_law_reels_here", "_law_items_here", "_law_due_here"] ["_law_script"] (defScope s__law_chain):=⟨rfl,rfl,rfl,by decide +kernel,rfl,by decide +kernel,by decide +kernel⟩
theorem ok_chain {f CN CF CD CT CS : Addr} {fd : FuncData} (F : Fun K "_law_chain" "_law_chain" s__law_chain f fd)
  (dCell : Def P w K mg base CX0 "_law_cell" 1 ["_law_script", "_law_k"] (spCell K)) (dNum : Def P w K mg base CX0 "_law_numbers" 1 ["_law_cell_here", "_law_many"] spNum) (dNames : Def P w K mg base CX0 "_law_names" 2 ["_law_cell_here", "_law_many"] spNames)
  (dDue : Def P w K mg base CX0 "_law_due" 23 ["_law_items_here", "_law_parts"] (spDue 20)) (dTold : Def P w K mg base CX0 "_law_told" 50 ["_law_items_here", "_law_parts", "_law_reels_here"] (spTold CN CF CD CT CS 20)) (dRight : Def P w K mg base CX0 "_law_right" 2 ["_law_told_here", "_law_due_here"] (spRight CN CF CD CT CS))
  (n_int : mg "int" = none) (n_range : mg "range" = none) :
  FnOk P w K mg base CX0 51 f fd ["_law_script"] (spChain K):=by
 refine F.ok scChain (fun vs H Q E h=>?_) (fun cdv A outer s H vs Q E hr h=>?_)
 ·obtain ⟨a,ns,rfl,_⟩:=h
  rfl
 obtain ⟨a,ns,rfl,hS,q⟩:=h
 refine useQ (ss_cons (s_set (i:=1) scChain.nd (e_call dNames hr pass0 (a_cons (e_op op_add (e_op op_mul e_int (e_call dCell hr pass0 (a_cons (e_v 0) (a_cons e_int a_nil)))) e_int) (a_cons e_int a_nil))))
  (ss_cons (s_set (i:=2) scChain.nd (e_call dNum hr pass0 (a_cons (e_call dCell hr pass0 (a_cons (e_v 0) (a_cons e_int a_nil))) (a_cons e_int a_nil))))
  (ss_cons (s_cut (s_set (i:=3) scChain.nd (e_op op_add e_int (e_op op_mod (e_ix ix_list (e_v 2) e_int) e_int))))
  (ss_cons (s_cut (s_set (i:=4) scChain.nd (e_op op_add e_int (e_t call_int1 n_int PyProof.Rows.boot_int (a_cons (e_cmp op_eq (e_op op_mod (e_ix ix_list (e_v 2) e_int) e_int) e_int) a_nil)))))
  (ss_cons (s_set (i:=5) scChain.nd (e_disp1 (e_ix ix_list (e_v 1) e_int) (e_tup (a_cons (e_tup (a_cons e_str (a_cons (e_ix ix_list (e_v 1) e_int) (a_cons (e_v 4) (a_cons (e_op op_mod (e_ix ix_list (e_v 2) e_int) e_int) a_nil))))) a_nil))))
  (ss_cons (s_for PassesOwn.never rfl (i_rng2 n_range e_int (e_v 3)) (g_name (i:=6) scChain.nd)
   (ss_one (s_dput (hu_of hr) (e_v 5) (e_ix ix_list (e_v 1) (e_v 6)) (e_op op_repT (e_tup (a_cons (e_tup (a_cons e_str (a_cons (e_ix ix_list (e_v 1) (e_op op_sub (e_v 6) e_int)) a_nil))) a_nil)) (e_op op_add e_int (e_op op_mod (e_ix ix_list (e_v 2) (e_op op_add e_int (e_v 6))) (e_ix ix_list (e_lst (a_cons e_int (a_cons e_int a_nil))) (e_op op_mod (e_op op_fdiv (e_ix ix_list (e_v 2) e_int) e_int) e_int))))))))
  (ss_cons (s_set (i:=7) scChain.nd (e_lst (a_cons (e_tup (a_cons (e_ix ix_list (e_v 1) e_int) (a_cons e_str (a_cons e_int (a_cons e_int a_nil))))) a_nil)))
  (ss_cons (s_set (i:=8) scChain.nd (e_tup (a_cons (e_tup (a_cons e_str (a_cons (e_ix ix_list (e_v 1) (e_op op_sub (e_v 3) e_int)) a_nil))) a_nil)))
  (ss_cons (s_set (i:=9) scChain.nd (e_call dDue hr pass0 (a_cons (e_v 8) (a_cons (e_v 5) a_nil))))
  (ss_cons (s_if (t_cmp op_eq (e_v 4) e_int)
   (ss_one (s_set (i:=9) scChain.nd (e_tup (a_cons e_int (a_cons (e_tup (a_cons (e_ix ix_list (e_v 1) e_int) (a_cons e_int a_nil))) a_nil)))))
   ss_nil)
  (ss_one (s_ret (e_call dRight hr pass0 (a_cons (e_call dTold hr pass0 (a_cons (e_v 8) (a_cons (e_v 5) (a_cons (e_v 7) a_nil)))) (a_cons (e_v 9) a_nil))))))))))))))) ?_
 have zl : sizeLine = 16777216:=sizeLine_eq
 refine ⟨_,rfl,a,ns,0,rfl,hS,fun H1 s1=>⟨_,_,rfl,rfl,.inl ⟨by decide,by decide⟩,_,_,rfl,rfl,_,13,rfl,by decide,fun ln ss H2 s2 hsl hss hnd hln0 hln=>?_⟩⟩
 have S2:=s1.trans s2
 refine ⟨_,rfl,a,ns,2,rfl,S2.seq hS,fun H3 s3=>⟨_,16,rfl,by decide,fun px xs H4 s4 hxl hpx0 hpx=>?_⟩⟩
 have S4:=(S2.trans s3).trans s4
 have hln4:=s4 _ _ (s3 _ _ hln)
 have gx : ∀ k (h : k < 16),atI (xs.map V.int) ((k : Nat) : Int) = some (.int (xs[k]'(by omega))):=fun k h=>atI_nat (get_int (by omega))
 have gs : ∀ k (h : k < 13),atI (ss.map V.str) ((k : Nat) : Int) = some (.str (ss[k]'(by omega))):=fun k h=>atI_nat (by rw [List.getElem?_map,List.getElem?_eq_getElem (by omega)]; rfl)
 obtain ⟨m,hm,hm1,hm2⟩ : ∃ m : Nat,2 + xs[0]'(by omega) % 11 = (m : Int)/\2 <= m/\m <= 12:=⟨(2 + xs[0]'(by omega) % 11).toNat,by omega,by omega,by omega⟩
 refine ⟨fun σ H'=>σ = [some (.ref a),some (.ref ln),some (.ref px),some (.int (m : Int)),none,none,none,none,none,none]/\H4 = H',?_,?_⟩
 ·refine ⟨_,rfl,px,_,_,_,rfl,rfl,SqL.of hpx,gx 0 (by decide),_,_,rfl,rfl,(by show (0 : Int) < 11; decide),_,_,rfl,rfl,?_,rfl⟩
  rw [<- hm]
  rfl
 rintro σ H' ⟨rfl,rfl⟩
 refine ⟨fun σ H'=>∃ L : Int,(L = 39 \/ L = 40)/\σ = [some (.ref a),some (.ref ln),some (.ref px),some (.int (m : Int)),some (.int L),none,none,none,none,none]/\H4 = H',?_,?_⟩
 ·refine ⟨_,rfl,px,_,_,_,rfl,rfl,SqL.of hpx,gx 1 (by decide),_,_,rfl,rfl,(by show (0 : Int) < 4; decide),rfl,.inr ⟨_,rfl,_,_,rfl,rfl,_,?_,rfl,rfl⟩⟩
  split
  ·exact .inr rfl
  ·exact .inl rfl
 rintro σ H' ⟨L,hLL,rfl,rfl⟩
 obtain ⟨dv,hdv,hdv1,hdv2⟩ : ∃ dv : Int,atI [V.int 16,.int 2] (xs[1]'(by omega) / 4 % 2) = some (.int dv)/\1 <= dv/\dv <= 16:=by
  have : xs[1]'(by omega) / 4 % 2 = 0 \/ xs[1]'(by omega) / 4 % 2 = 1:=by omega
  rcases this with z | z <;> rw [z]
  ·exact ⟨16,rfl,by decide,by decide⟩
  ·exact ⟨2,rfl,by decide,by decide⟩
 let nm : Nat->Str:=fun k=>ss.getD k ""
 let mu : Nat->Nat:=fun k=>(1 + xs.getD (2 + k) 0 % dv).toNat
 have mu1 : ∀ k,1 <= mu k:=fun k=>by
  have:=Int.emod_nonneg (xs.getD (2 + k) 0) (b:=dv) (by omega)
  show 1 <= (1 + xs.getD (2 + k) 0 % dv).toNat
  omega
 have enm : ∀ k (h : k < 13),nm k = ss[k]'(by omega):=fun k h=>by
  show ss.getD k "" = _
  rw [List.getD_eq_getElem?_getD,List.getElem?_eq_getElem (by omega)]
  rfl
 have mem : ∀ k,k < 13->nm k ∈ ss:=fun k h=>by rw [enm k h]; exact List.getElem_mem _
 have fine : ∀ k,k < 13->Fine (nm k):=fun k h=>(hss _ (mem k h)).2
 have inj : ∀ j k,j < 13->k < 13->nm j = nm k->j = k:=fun j k hj hk e=>by
  rw [enm j hj,enm k hk] at e
  rcases Nat.lt_trichotomy j k with z | z | z
  ·exact absurd e ((List.pairwise_iff_getElem.mp hnd) j k (by omega) (by omega) z)
  ·exact z
  ·exact absurd e.symm ((List.pairwise_iff_getElem.mp hnd) k j (by omega) (by omega) z)
 have gn : ∀ k (h : k < 13),atI (ss.map V.str) ((k : Nat) : Int) = some (.str (nm k)):=fun k h=>by rw [enm k h]; exact gs k h
 generalize hl2 : xs[2]'(by omega) % 40 = l2
 have l20 : 0 <= l2/\l2 < 40:=by omega
 refine fun pd hpd=>?_
 have td0:=Same.new hpd (.dK [])
 refine ⟨_,rfl,ln,_,_,_,rfl,rfl,SqL.of (td0 _ _ hln4),gn 0 (by decide),_,rfl,ln,_,_,_,rfl,rfl,SqL.of (td0 _ _ hln4),gn 12 (by decide),_,rfl,_,rfl,px,_,_,_,rfl,rfl,SqL.of (td0 _ _ hpx),gx 2 (by decide),_,_,rfl,rfl,(by show (0 : Int) < 40; decide),(by show 4 <= sizeLine; decide),fun p1 hp1=>⟨(by show 1 <= sizeLine; decide),fun p2 hp2=>?_⟩⟩
 have t1:=Same.new hp1 (.tup [.str "clip",.str (nm 12),.int L,.int (xs[2]'(by omega) % 40)])
 have t2:=Same.new hp2 (.tup [.ref p1])
 have T2:=(td0.trans t1).trans t2
 have hpd2:=t2 _ _ (t1 _ _ (upd_same (H:=H4) (a:=pd) (o:=.dK [])))
 refine ⟨hpd2,[(.inr (nm 0),.ref p2)],rfl,by show 1 <= 15; decide,?_⟩
 have tc : Td (upd (upd (upd H4 pd (.dK [])) p1 (.tup [.str "clip",.str (nm 12),.int L,.int (xs[2]'(by omega) % 40)])) p2 (.tup [.ref p1])) (.ref p2) (.tuple (dL (chT (nm 12) L l2 nm mu 0))):=by
  rw [chT,<- hl2]
  exact .tup upd_same (tds_one ((mk_clip upd_same).tk (TK.of t2)))
 generalize upd (upd (upd H4 pd (.dK [])) p1 (.tup [.str "clip",.str (nm 12),.int L,.int (xs[2]'(by omega) % 40)])) p2 (.tup [.ref p1]) = H5 at T2 hpd2 tc
 have nl : ln ≠ pd:=ne_of_none hln4 hpd
 have nx : px ≠ pd:=ne_of_none hpx hpd
 have hpdH : H pd = none:=S4.free hpd
 have x5 : SX pd H4 (upd H5 pd (.dK (mergeK [] [(.inr (nm 0),.ref p2)]))):=(SX.of T2).trans SX.upd
 have cp0 : CP (nm 12) L l2 nm mu 1 (upd H5 pd (.dK (mergeK [] [(.inr (nm 0),.ref p2)]))) (mergeK [] [(.inr (nm 0),.ref p2)]):=by
  refine ⟨fun k hk=>?_,Nat.le_refl _⟩
  obtain rfl : k = 0:=by omega
  exact ⟨p2,by simp [mergeK,valV_put],tc.tk (TK.dk hpd2)⟩
 have hd5:=upd_same (H:=H5) (a:=pd) (o:=.dK (mergeK [] [(.inr (nm 0),.ref p2)]))
 generalize upd H5 pd (.dK (mergeK [] [(.inr (nm 0),.ref p2)])) = H6 at x5 cp0 hd5
 refine ⟨_,rfl,1,(m : Int),rfl,⟨by decide,by decide,by omega,by omega⟩,for_range (lo:=1) (n:=((m : Int) - 1).toNat) (fun i σ H'=>∃ (o6 : Option V) (kvs : List (Key × V)),σ = [some (.ref a),some (.ref ln),some (.ref px),some (.int (m : Int)),some (.int L),some (.ref pd),o6,none,none,none]/\H' pd = some (.dK kvs)/\CP (nm 12) L l2 nm mu (i + 1) H' kvs/\SX pd H4 H') ⟨none,_,rfl,hd5,cp0,x5⟩ ?_ ?_⟩
 ·rintro i σ H' hi ⟨o6,kvs,rfl,hd,cp,sx⟩
  have hi12 : i + 1 < 12:=by omega
  have hlnI:=sx _ _ nl hln4
  have hpxI:=sx _ _ nx hpx
  have a1 : atI (ss.map V.str) (1 + (i : Int) - 1) = some (.str (nm i)):=by rw [show 1 + (i : Int) - 1 = ((i : Nat) : Int) by omega]; exact gn i (by omega)
  have a2 : atI (xs.map V.int) (2 + (1 + (i : Int))) = some (.int (xs.getD (2 + (i + 1)) 0)):=by
   rw [show 2 + (1 + (i : Int)) = ((2 + (i + 1) : Nat) : Int) by omega,gx _ (by omega),List.getD_eq_getElem?_getD,List.getElem?_eq_getElem (by omega)]
   rfl
  have a3 : atI (ss.map V.str) (1 + (i : Int)) = some (.str (nm (i + 1))):=by rw [show 1 + (i : Int) = ((i + 1 : Nat) : Int) by omega]; exact gn (i + 1) (by omega)
  refine ⟨_,rfl,_,rfl,_,_,rfl,rfl,ln,_,_,_,rfl,rfl,SqL.of hlnI,a1,(by show 2 <= sizeLine; decide),fun q1 hq1=>⟨(by show 1 <= sizeLine; decide),fun q2 hq2=>?_⟩⟩
  have u1:=Same.new hq1 (.tup [.str "part",.str (nm i)])
  have u2:=Same.new hq2 (.tup [.ref q1])
  have U2:=u1.trans u2
  have hq2':=upd_same (H:=upd H' q1 (.tup [.str "part",.str (nm i)])) (a:=q2) (o:=.tup [.ref q1])
  have tp : Td (upd (upd H' q1 (.tup [.str "part",.str (nm i)])) q2 (.tup [.ref q1])) (.ref q1) (dI (.part (nm i) (chT (nm 12) L l2 nm mu i))):=(mk_part upd_same).tk (TK.of u2)
  generalize upd (upd H' q1 (.tup [.str "part",.str (nm i)])) q2 (.tup [.ref q1]) = H7 at U2 hq2' tp
  refine ⟨_,rfl,_,rfl,_,_,rfl,rfl,px,_,_,_,rfl,rfl,SqL.of (U2 _ _ hpxI),a2,(by show 2 <= sizeLine; decide),fun q3 hq3=>?_⟩
  have u3:=Same.new hq3 (.lst [.int 16,.int 2])
  refine ⟨_,rfl,px,_,_,_,rfl,rfl,SqL.of (u3 _ _ (U2 _ _ hpxI)),gx 1 (by decide),_,_,rfl,rfl,⟨by decide,by decide⟩,_,_,rfl,rfl,(by show (0 : Int) < 2; decide),q3,_,_,.int dv,rfl,rfl,SqL.of upd_same,hdv,_,_,rfl,rfl,(by show (0 : Int) < dv; omega),_,_,rfl,rfl,?_⟩
  have e0:=Int.emod_nonneg (xs.getD (2 + (i + 1)) 0) (b:=dv) (by omega)
  have e1:=Int.emod_lt_of_pos (xs.getD (2 + (i + 1)) 0) (b:=dv) (by omega)
  refine ⟨q2,_,.ref q1,rfl,rfl,u3 _ _ hq2',(by show -(2 ^ 63) <= 1 + xs.getD (2 + (i + 1)) 0 % dv; omega),(by show 1 + xs.getD (2 + (i + 1)) 0 % dv <= 1000000; omega),fun q4 H8 u4 hq4=>?_⟩
  have U4:=(U2.trans u3).trans u4
  have hd8:=U4 _ _ hd
  have lk:=cp.len
  refine ⟨_,rfl,_,rfl,_,rfl,ln,_,_,_,rfl,rfl,SqL.of (U4 _ _ hlnI),a3,pd,_,rfl,DPut.k (k:=Sum.inr (nm (i + 1))) hd8 (by omega),_,_,rfl,upd_same,?_,(sx.trans (SX.of U4)).trans SX.upd⟩
  refine cp.put ((TK.of U4).trans (TK.dk hd8)) (fun j hj e=>by have:=inj j (i + 1) (by omega) (by omega) e; omega) ?_
  rw [chT]
  exact (Td.tup hq4 (tds_reps (tp.tk (TK.of (u3.trans u4))) _)).tk (TK.dk hd8)
 rintro σ H7 ⟨o6,kvs,rfl,hd,cp,sx⟩
 rw [show ((m : Int) - 1).toNat + 1 = m by omega] at cp
 have S7 : Same H H7:=SX.same hpdH S4 sx
 have hln7:=sx _ _ nl hln4
 have pr7:=cp.pr hd
 refine ⟨_,rfl,ln,_,_,_,rfl,rfl,SqL.of hln7,gn 12 (by decide),(by show 4 <= sizeLine; decide),fun r1 hr1=>⟨(by show 1 <= sizeLine; decide),fun lr hlr=>?_⟩⟩
 have u1:=Same.new hr1 (.tup [.str (nm 12),.str "AB",.int 7,.int 40])
 have u2:=Same.new hlr (.lst [.ref r1])
 have U2:=u1.trans u2
 have rok : ROk ⟨nm 12, "AB",7,40⟩:=⟨(hss _ (mem 12 (by decide))).1,fine 12 (by decide),(by show Fine "AB"; decide +kernel),(by show (1 : Int) <= 40; decide)⟩
 have rl : RL (upd (upd H7 r1 (.tup [.str (nm 12),.str "AB",.int 7,.int 40])) lr (.lst [.ref r1])) lr [(r1,⟨nm 12, "AB",7,40⟩)]:=⟨upd_same,fun x hx=>by
  rw [List.mem_singleton.mp hx]
  exact ⟨u2 _ _ upd_same,rok⟩⟩
 have uq : Uq [(r1,(⟨nm 12, "AB",7,40⟩ : Reel))]:=fun x hx y hy _=>by rw [List.mem_singleton.mp hx,List.mem_singleton.mp hy]
 generalize upd (upd H7 r1 (.tup [.str (nm 12),.str "AB",.int 7,.int 40])) lr (.lst [.ref r1]) = H8 at U2 rl
 have hln8:=U2 _ _ hln7
 have pr8:=pr7.same U2
 have am : atI (ss.map V.str) ((m : Int) - 1) = some (.str (nm (m - 1))):=by rw [show (m : Int) - 1 = ((m - 1 : Nat) : Int) by omega]; exact gn (m - 1) (by omega)
 refine ⟨_,rfl,_,rfl,_,_,rfl,rfl,ln,_,_,_,rfl,rfl,SqL.of hln8,am,(by show 2 <= sizeLine; decide),fun i1 hi1=>⟨(by show 1 <= sizeLine; decide),fun it hit=>?_⟩⟩
 have v1:=Same.new hi1 (.tup [.str "part",.str (nm (m - 1))])
 have v2:=Same.new hit (.tup [.ref i1])
 have V2:=v1.trans v2
 have td : Td (upd (upd H8 i1 (.tup [.str "part",.str (nm (m - 1))])) it (.tup [.ref i1])) (.ref it) (.tuple (dL [.part (nm (m - 1)) (chT (nm 12) L l2 nm mu (m - 1))])):=.tup upd_same (tds_one ((mk_part upd_same).tk (TK.of v2)))
 generalize upd (upd H8 i1 (.tup [.str "part",.str (nm (m - 1))])) it (.tup [.ref i1]) = H9 at V2 td
 have pr9:=pr8.same V2
 have rl9:=rl.same V2
 have wl : WL [.part (nm (m - 1)) (chT (nm 12) L l2 nm mu (m - 1))]:=.one (.part (ch_wl mu1 _))
 have g0 : chG (nm 12) L l2 nm mu m (nm (m - 1)) (chT (nm 12) L l2 nm mu (m - 1)):=⟨m - 1,by omega,rfl,rfl⟩
 have dp : dpL [IT.It.part (nm (m - 1)) (chT (nm 12) L l2 nm mu (m - 1))] <= 20:=dp1 (by rw [dpI]; have:=ch_dp (r:=nm 12) (f:=L) (l:=l2) (nm:=nm) (mu:=mu) (m - 1); omega)
 have hlT : ∀ {T : Str->Int->Int->Prop},hL T (chG (nm 12) L l2 nm mu m) [.part (nm (m - 1)) (chT (nm 12) L l2 nm mu (m - 1))]:=h1 (by rw [hI]; exact ⟨fine _ (by omega),g0⟩)
 have paT : ∀ {T : Str->Int->Int->Prop},T (nm 12) L l2->Pa T (chG (nm 12) L l2 nm mu m) ss:=fun hT=>ch_pa mu1 (fine 12 (by decide)) hT (fun k hk=>fine k (by omega)) (fun j k hj hk e=>inj j k (by omega) (by omega) e) (fun k hk=>mem k (by omega)) (by omega)
 have fp : ∀ x ∈ [(r1,(⟨nm 12, "AB",7,40⟩ : Reel))],Fine x.2.name:=fun x hx=>by rw [List.mem_singleton.mp hx]; exact fine 12 (by decide)
 rcases hLL with rfl | rfl
 ·have hT : Ck [(r1,(⟨nm 12, "AB",7,40⟩ : Reel))] (nm 12) 39 l2:=⟨_,List.mem_singleton.mpr rfl,rfl,by decide,(by show (39 : Int) < 40; decide),l20.1,l20.2⟩
  have pa:=paT hT
  refine ⟨_,rfl,_,rfl,it,pd,_,[(r1,⟨nm 12, "AB",7,40⟩)],_,chG (nm 12) 39 l2 nm mu m,(fun _=>False),ss,rfl,td,pr9,pa,hlT,wl,dp,fun t o H10 s10 res du=>?_⟩
  refine ⟨_,rfl,rfl,_,rfl,iteN (decide_eq_false fun z=>by cases z) ?_⟩
  refine ⟨_,rfl,_,rfl,_,rfl,it,pd,lr,_,_,_,(fun _=>False),ss,_,o,rfl,td.tk (TK.of s10),⟨pr9.same s10,fun n z=>z.elim,pa.fn,pa.dom,fun _ _ z=>z,pa⟩,rl9.same s10,uq,dp,res,fun t2 H11 s11 oc _=>?_⟩
  exact ⟨_,rfl,t2,t,o,rfl,oc,du.same s11,res.fine pa fp (fun n z=>z.elim),fun H12 s12=>q H12 (((((S7.trans U2).trans V2).trans s10).trans s11).trans s12)⟩
 ·have hT : Ck [(0,(⟨nm 12, "AB",7,41⟩ : Reel))] (nm 12) 40 l2:=⟨_,List.mem_singleton.mpr rfl,rfl,by decide,(by show (40 : Int) < 41; decide),l20.1,by show l2 < 41; omega⟩
  have pa:=paT hT
  refine ⟨_,rfl,_,rfl,it,pd,_,[(0,⟨nm 12, "AB",7,41⟩)],_,chG (nm 12) 40 l2 nm mu m,(fun _=>False),ss,rfl,td,pr9,pa,hlT,wl,dp,fun t o H10 s10 res du=>?_⟩
  refine ⟨_,rfl,rfl,_,rfl,iteY (decide_eq_true rfl) ?_⟩
  refine ⟨_,rfl,ln,_,_,_,rfl,rfl,SqL.of (s10 _ _ (V2 _ _ hln8)),gn 12 (by decide),(by show 2 <= sizeLine; decide),fun w1 hw1=>⟨(by show 2 <= sizeLine; decide),fun w2 hw2=>?_⟩⟩
  have z1:=Same.new hw1 (.tup [.str (nm 12),.int 40])
  have z2:=Same.new hw2 (.tup [.int 2,.ref w1])
  have Z2:=(s10.trans z1).trans z2
  have du : DuT (upd (upd H10 w1 (.tup [.str (nm 12),.int 40])) w2 (.tup [.int 2,.ref w1])) w2 (.du (.fr (nm 12) 40)):=⟨w1,upd_same,z2 _ _ upd_same⟩
  generalize upd (upd H10 w1 (.tup [.str (nm 12),.int 40])) w2 (.tup [.int 2,.ref w1]) = H11 at Z2 du
  have bk : Bk [(r1,(⟨nm 12, "AB",7,40⟩ : Reel))] (fun _ _=>False) (chG (nm 12) 40 l2 nm mu m) (fun _=>False) [.part (nm (m - 1)) (chT (nm 12) 40 l2 nm mu (m - 1))] (.fr (nm 12) 40):=.part (p:=[]) (q:=[]) (.inl rfl) (by rw [hL]; trivial) g0 (fun _ z=>z) (ch_bk mu1 (List.mem_singleton.mpr rfl) rfl (fun z=>by have : (40 : Int) < 40:=z.2; exact absurd this (by decide)) _ (by omega))
  refine ⟨_,rfl,_,rfl,_,rfl,it,pd,lr,_,_,_,(fun _=>False),ss,_,_,rfl,td.tk (TK.of Z2),⟨pr9.same Z2,fun n z=>z.elim,pa.fn,pa.dom,fun _ _ z=>z.elim,pa_none _ (by omega)⟩,rl9.same Z2,uq,dp,.du bk,fun t2 H12 s12 oc _=>?_⟩
  exact ⟨_,rfl,t2,w2,_,rfl,oc,du.same s12,bk.fine fp (fun n z=>z.elim),fun H13 s13=>q H13 (((((S7.trans U2).trans V2).trans Z2).trans s12).trans s13)⟩
end
end K12
set_option maxHeartbeats 2000000
namespace K12
open PySem L2 G DT
open IT hiding It
theorem fine_lit {x : Str} (h : PyData.strOk x = true:=by decide +kernel) : (PyData.str x).canLay0 = true:=by simpa [PyData.canLay0] using h
mutual
theorem lay_I {T : Str->Int->Int->Prop} {G : Str->List IT.It->Prop} : ∀ {x : IT.It},hI T G x->(dI x).canLay0 = true
 | .clip r f l,h=>by
  rw [hI] at h
  rw [dI,PyData.canLay0]
  simp only [PyData.canLayAll0,fine_lit (x:="clip"),lay_s h.1,lay_i,Bool.and_self]
 | .times m xs,h=>by
  rw [hI] at h
  rw [dI,PyData.canLay0]
  have e : (PyData.tuple (dL xs)).canLay0 = true:=by rw [PyData.canLay0]; exact lay_Ls h
  simp only [PyData.canLayAll0,fine_lit (x:="times"),lay_i,e,Bool.and_self]
 | .back xs,h=>by
  rw [hI] at h
  rw [dI,PyData.canLay0]
  have e : (PyData.tuple (dL xs)).canLay0 = true:=by rw [PyData.canLay0]; exact lay_Ls h
  simp only [PyData.canLayAll0,fine_lit (x:="back"),e,Bool.and_self]
 | .part n _,h=>by
  rw [hI] at h
  rw [dI,PyData.canLay0]
  simp only [PyData.canLayAll0,fine_lit (x:="part"),lay_s h.1,Bool.and_self]
 | .fade m,h=>by
  rw [dI,PyData.canLay0]
  simp only [PyData.canLayAll0,fine_lit (x:="fade"),lay_i,Bool.and_self]
theorem lay_Ls {T : Str->Int->Int->Prop} {G : Str->List IT.It->Prop} : ∀ {xs : List IT.It},hL T G xs->PyData.canLayAll0 (dL xs) = true
 | [],_=>by rw [dL,PyData.canLayAll0]
 | x :: r,h=>by
  rw [hL] at h
  rw [dL,PyData.canLayAll0,lay_I h.1,lay_Ls h.2]
  rfl
end
mutual
theorem dep_I : ∀ x : IT.It,(dI x).depth <= 2 * dpI x + 2
 | .clip _ _ _=>by rw [dI]; simp [PyData.depth,PyData.depthAll]
 | .times _ xs=>by have:=dep_Ls xs; rw [dI,dpI]; simp only [PyData.depth,PyData.depthAll]; omega
 | .back xs=>by have:=dep_Ls xs; rw [dI,dpI]; simp only [PyData.depth,PyData.depthAll]; omega
 | .part _ _=>by rw [dI]; simp [PyData.depth,PyData.depthAll]
 | .fade _=>by rw [dI]; simp [PyData.depth,PyData.depthAll]
theorem dep_Ls : ∀ xs : List IT.It,PyData.depthAll (dL xs) <= 2 * dpL xs + 2
 | []=>by rw [dL]; simp [PyData.depthAll]
 | x :: r=>by have:=dep_I x; have:=dep_Ls r; rw [dL,dpL,PyData.depthAll]; omega
end
abbrev Pt:=Str × Addr × List IT.It
def kvsOf (ps : List Pt) : List (Key × V):=ps.map fun x=>(.inr x.1,.ref x.2.1)
def GOf (ps : List Pt) : Str->List IT.It->Prop:=fun n ys=>∃ b,(n,b,ys) ∈ ps
def dsOf (ps : List Pt) : List (Str × PyData):=ps.map fun x=>(x.1,.tuple (dL x.2.2))
theorem dd_of {K : PySem.W.Frag} {H : Hp} {T : Str->Int->Int->Prop} {G : Str->List IT.It->Prop} : ∀ {ps : List Pt},(∀ x ∈ ps,Td H (.ref x.2.1) (.tuple (dL x.2.2))/\hL T G x.2.2/\dpL x.2.2 <= 6)->DD K H (kvsOf ps) (dsOf ps)
 | [],_=>.nil
 | x :: r,h=>by
  obtain ⟨h1,h2,h3⟩:=h x (List.mem_cons_self ..)
  exact .cons h1.den (by rw [PyData.canLay0]; exact lay_Ls h2) (by rw [PyData.depth]; have:=dep_Ls x.2.2; omega) (dd_of fun y hy=>h y (List.mem_cons_of_mem _ hy))
theorem look_ds : ∀ {ds : List (Str × PyData)} {k : Str} {d : PyData},(ds.map (·.1)).Nodup->(k,d) ∈ ds->ds.lookup k = some d
 | (k',d') :: r,k,d,nd,h=>by
  rw [List.map_cons,List.nodup_cons] at nd
  rcases List.mem_cons.mp h with e | e
  ·cases e
   rw [List.lookup_cons,beq_self_eq_true]
  ·have ne : k ≠ k':=by
    rintro rfl
    exact nd.1 (List.mem_map.mpr ⟨(k,d),e,rfl⟩)
   rw [List.lookup_cons,beq_eq_false_iff_ne.mpr ne]
   exact look_ds nd.2 e
theorem hits_refl {db : List (Str × PyData)} (nd : (db.map (·.1)).Nodup) (lay : ∀ x ∈ db,x.2.canLay0 = true) : ∀ {da : List (Str × PyData)},(∀ x ∈ da,x ∈ db)->dHits db da = true
 | [],_=>rfl
 | (k,d) :: r,h=>by
  have hm:=h (k,d) (List.mem_cons_self ..)
  rw [dHits,look_ds nd hm]
  dsimp only
  rw [PySem.SeqAt.eqv_refl _ (lay _ hm),Bool.true_and]
  exact hits_refl nd lay fun x hx=>h x (List.mem_cons_of_mem _ hx)
theorem dEq_refl {ds : List (Str × PyData)} (nd : (ds.map (·.1)).Nodup) (lay : ∀ x ∈ ds,x.2.canLay0 = true) : dEq ds ds = true:=by
 unfold dEq
 rw [beq_self_eq_true,Bool.true_and]
 exact hits_refl nd lay fun _ h=>h
theorem dsOf_nd {ps : List Pt} (h : (ps.map (·.1)).Nodup) : ((dsOf ps).map (·.1)).Nodup:=by
 unfold dsOf
 rw [List.map_map]
 exact h
theorem val_none {ps : List Pt} {n : Str} (h : ∀ x ∈ ps,x.1 ≠ n) : valV (kvsOf ps) (Sum.inr n) = none:=by
 induction ps with
 | nil=>rfl
 | cons x r ih =>
  show valV ((Sum.inr x.1,V.ref x.2.1) :: kvsOf r) (Sum.inr n) = none
  rw [valV_neg (fun z=>h x (List.mem_cons_self ..) (Sum.inr.inj z))]
  exact ih fun y hy=>h y (List.mem_cons_of_mem _ hy)
theorem val_some {ps : List Pt} (nd : (ps.map (·.1)).Nodup) {x : Pt} (hx : x ∈ ps) : valV (kvsOf ps) (Sum.inr x.1) = some (.ref x.2.1):=by
 induction ps with
 | nil=>cases hx
 | cons y r ih =>
  rw [List.map_cons,List.nodup_cons] at nd
  rcases List.mem_cons.mp hx with rfl | z
  ·show valV ((Sum.inr x.1,V.ref x.2.1) :: kvsOf r) (Sum.inr x.1) = _
   simp [valV]
  ·show valV ((Sum.inr y.1,V.ref y.2.1) :: kvsOf r) (Sum.inr x.1) = _
   rw [valV_neg (fun e=>nd.1 (by rw [Sum.inr.inj e]; exact List.mem_map.mpr ⟨x,z,rfl⟩))]
   exact ih nd.2 z
def Bf : Nat->Int
 | 0=>1
 | 1=>3
 | 2=>81
 | _=>2187
def Df : Nat->Nat
 | 0=>0
 | 1=>1
 | 2=>3
 | _=>5
theorem Bf_mono {i : Nat} (h : i < 3) : Bf i <= Bf (i + 1)/\Df i <= Df (i + 1)/\1 <= Bf i:=by
 match i,h with
 | 0,_=>decide
 | 1,_=>decide
 | 2,_=>decide
structure PM (prs : List (Addr × Reel)) (ss : List Str) (i : Nat) (H : Hp) (ps : List Pt) : Prop where
 nm : ps.map (·.1) = ss.take i
 td : ∀ x ∈ ps,Td H (.ref x.2.1) (.tuple (dL x.2.2))
 good : ∀ x ∈ ps,WL x.2.2/\hL (Ck prs) (GOf ps) x.2.2/\cnL x.2.2 <= Bf i/\dpL x.2.2 <= Df i
theorem PM.tk {prs : List (Addr × Reel)} {ss : List Str} {i : Nat} {H H' : Hp} {ps : List Pt} (h : PM prs ss i H ps) (t : TK H H') : PM prs ss i H' ps:=⟨h.nm,fun x hx=>(h.td x hx).tk t,h.good⟩
theorem PM.len {prs : List (Addr × Reel)} {ss : List Str} {i : Nat} {H : Hp} {ps : List Pt} (h : PM prs ss i H ps) : (kvsOf ps).length <= i:=by
 have:=congrArg List.length h.nm
 rw [List.length_map,List.length_take] at this
 unfold kvsOf
 rw [List.length_map]
 omega
theorem PM.nd {prs : List (Addr × Reel)} {ss : List Str} {i : Nat} {H : Hp} {ps : List Pt} (h : PM prs ss i H ps) (nd : ss.Nodup) : (ps.map (·.1)).Nodup:=by rw [h.nm]; exact List.Sublist.nodup (List.take_sublist ..) nd
theorem take_fresh {ss : List Str} (nd : ss.Nodup) {i j : Nat} {n : Str} (hn : ss[j]? = some n) (hij : i <= j) : n ∉ ss.take i:=fun h=>by
 obtain ⟨k,hk⟩:=List.mem_iff_getElem?.mp h
 have hki : k < i:=by
  have:=(List.getElem?_eq_some_iff.mp hk).1
  rw [List.length_take] at this
  omega
 rw [List.getElem?_take,if_pos hki] at hk
 obtain ⟨l1,e1⟩:=List.getElem?_eq_some_iff.mp hk
 obtain ⟨l2,e2⟩:=List.getElem?_eq_some_iff.mp hn
 exact (List.pairwise_iff_getElem.mp nd) k j l1 l2 (by omega) (e1.trans e2.symm)
theorem PM.fresh {prs : List (Addr × Reel)} {ss : List Str} {i j : Nat} {H : Hp} {ps : List Pt} {n : Str} (h : PM prs ss i H ps) (nd : ss.Nodup) (hn : ss[j]? = some n) (hij : i <= j) : ∀ x ∈ ps,x.1 ≠ n:=fun x hx e=>take_fresh nd hn hij (by rw [<- h.nm,<- e]; exact List.mem_map.mpr ⟨x,hx,rfl⟩)
theorem PM.push {prs : List (Addr × Reel)} {ss : List Str} {i : Nat} {H H2 : Hp} {ps : List Pt} {n : Str} {xs : List IT.It} {b : Addr} (h : PM prs ss i H ps) (hi : i < 3) (nd : ss.Nodup) (hn : ss[i]? = some n) (tk : TK H H2) (hb : Td H2 (.ref b) (.tuple (dL xs)))
  (g : GIt prs (GOf ps) (min i 1) (Bf i) (Df i) xs) : PM prs ss (i + 1) H2 (ps ++ [(n,b,xs)])/\putK (kvsOf ps) (Sum.inr n) (.ref b) = kvsOf (ps ++ [(n,b,xs)]):=by
 obtain ⟨m1,m2,m3⟩:=Bf_mono hi
 have mono : ∀ n' ys',GOf ps n' ys'->GOf (ps ++ [(n,b,xs)]) n' ys':=fun _ _ ⟨c,z⟩=>⟨c,List.mem_append.mpr (.inl z)⟩
 have gc:=g.cn
 have gd:=g.dp
 have q : cnL xs <= Bf (i + 1)/\dpL xs <= Df (i + 1):=by
  match i,hi with
  | 0,_=>exact ⟨gc,gd⟩
  | 1,_=>exact ⟨gc,gd⟩
  | 2,_=>exact ⟨gc,gd⟩
 refine ⟨⟨by rw [List.map_append,h.nm,take_snoc hn]; rfl,fun p hp=>?_,fun p hp=>?_⟩,?_⟩
 ·rcases List.mem_append.mp hp with z | z
  ·exact (h.td p z).tk tk
  ·rw [List.mem_singleton.mp z]; exact hb
 ·rcases List.mem_append.mp hp with z | z
  ·obtain ⟨a1,a2,a3,a4⟩:=h.good p z
   exact ⟨a1,hL_mono mono a2,by omega,by omega⟩
  ·rw [List.mem_singleton.mp z]
   exact ⟨g.wl,hL_mono mono g.ok,q.1,q.2⟩
 ·rw [putK_new _ (val_none (h.fresh nd hn (Nat.le_refl _)))]
  unfold kvsOf
  rw [List.map_append]
  rfl
theorem PM.pa {prs : List (Addr × Reel)} {ss : List Str} {i : Nat} {H : Hp} {ps : List Pt} (h : PM prs ss i H ps) (nd : ss.Nodup) (hl : ss.length <= 100) : Pa (Ck prs) (GOf ps) ss where
 fn:=by
  rintro n ys ys' ⟨a,ha⟩ ⟨b,hb⟩
  have:=inj_nodup (·.1) ps (h.nd nd) _ ha _ hb rfl
  cases this
  rfl
 dom:=by
  rintro n ys ⟨a,ha⟩
  exact List.mem_of_mem_take (i:=i) (by rw [<- h.nm]; exact List.mem_map.mpr ⟨_,ha,rfl⟩)
 len:=hl
 wl:=by
  rintro n ys ⟨a,ha⟩
  exact (h.good _ ha).1
 ok:=by
  rintro n ys ⟨a,ha⟩
  exact (h.good _ ha).2.1
theorem PM.pr {prs : List (Addr × Reel)} {ss : List Str} {i : Nat} {H : Hp} {ps : List Pt} {pd : Addr} (h : PM prs ss i H ps) (nd : ss.Nodup) (hd : H pd = some (.dK (kvsOf ps))) : PR H pd (GOf ps):=⟨_,.inl hd,by
 rintro n ys ⟨a,ha⟩
 exact ⟨a,val_some (h.nd nd) ha,h.td _ ha⟩⟩
theorem PM.pts {prs : List (Addr × Reel)} {ss : List Str} {H : Hp} {ps : List Pt} {pd : Addr} {n5 : Str} (h : PM prs ss 3 H ps) (nd : ss.Nodup) (hl : ss.length <= 100) (h5 : ss[5]? = some n5) (hd : H pd = some (.dK (kvsOf ps))) : Pts H pd (GOf ps) (GOf ps) (fun n=>n = n5) ss prs :=
 ⟨h.pr nd hd,fun n e=>⟨_,.inl hd,by rw [e]; exact val_none (h.fresh nd h5 (by decide))⟩,(h.pa nd hl).fn,(h.pa nd hl).dom,fun _ _ z=>z,h.pa nd hl⟩
def dR (r : Reel) : PyData:=.tuple [.str r.name,.str r.letters,.int r.start,.int r.many]
theorem td_reels {H : Hp} : ∀ {prs : List (Addr × Reel)},(∀ x ∈ prs,H x.1 = some (.tup x.2.vs))->Tds H (prs.map fun x=>V.ref x.1) (prs.map fun x=>dR x.2)
 | [],_=>.nil
 | x :: r,h=>.cons (.tup (h x (List.mem_cons_self ..)) (.cons (.str _) (.cons (.str _) (.cons (.int _) (.cons (.int _) .nil))))) (td_reels fun y hy=>h y (List.mem_cons_of_mem _ hy))
theorem lay_reels : ∀ {prs : List (Addr × Reel)},(∀ x ∈ prs,ROk x.2)->PyData.canLayAll0 (prs.map fun x=>dR x.2) = true
 | [],_=>rfl
 | x :: r,h=>by
  have hx:=h x (List.mem_cons_self ..)
  have e : (dR x.2).canLay0 = true:=by
   unfold dR
   rw [PyData.canLay0]
   simp only [PyData.canLayAll0,lay_s hx.nf,lay_s hx.lf,lay_i,Bool.and_self]
  rw [List.map_cons,PyData.canLayAll0,e,lay_reels fun y hy=>h y (List.mem_cons_of_mem _ hy)]
  rfl
theorem dep_reels : ∀ prs : List (Addr × Reel),PyData.depthAll (prs.map fun x=>dR x.2) <= 5
 | []=>by simp [PyData.depthAll]
 | x :: r=>by
  have:=dep_reels r
  rw [List.map_cons,PyData.depthAll]
  simp only [dR,PyData.depth,PyData.depthAll] at this ⊢
  omega
theorem cmp_reels {K : PySem.W.Frag} {H : Hp} {a b : Addr} {prs : List (Addr × Reel)} (ha : RL H a prs) (hb : RL H b prs) : Cmp K H (.ref a) (.ref b) true:=by
 have l : (PyData.list (prs.map fun x=>dR x.2)).canLay0 = true:=by rw [PyData.canLay0]; exact lay_reels fun x hx=>(ha.2 x hx).2
 have d : ∀ c,RL H c prs->Den K H (.ref c) (.list (prs.map fun x=>dR x.2)):=fun c hc=>.lst (SqL.of hc.1) (td_reels fun x hx=>(hc.2 x hx).1).den
 have z : Cmp K H (.ref a) (.ref b) (PyData.eqv (.list (prs.map fun x=>dR x.2)) (.list (prs.map fun x=>dR x.2))):=.den (d a ha) (d b hb) l l (Nat.le_trans (Nat.min_le_left _ _) (by rw [PyData.depth]; have:=dep_reels prs; omega))
 rw [PySem.SeqAt.eqv_refl _ l] at z
 exact z
theorem cmp_parts {K : PySem.W.Frag} {H : Hp} {prs : List (Addr × Reel)} {ss : List Str} {ps : List Pt} {a b : Addr} (h : PM prs ss 3 H ps) (nd : ss.Nodup) (ne : a ≠ b) (ha : H a = some (.dK (kvsOf ps))) (hb : H b = some (.dK (kvsOf ps))) : Cmp K H (.ref a) (.ref b) true:=by
 have q : DD K H (kvsOf ps) (dsOf ps):=dd_of (T:=Ck prs) (G:=GOf ps) fun x hx=>⟨h.td x hx,(h.good x hx).2.1,by have:=(h.good x hx).2.2.2; have e : Df 3 = 5:=rfl; omega⟩
 have z : Cmp K H (.ref a) (.ref b) (dEq (dsOf ps) (dsOf ps)):=.dic ne (.inl ha) (.inl hb) q q
 rw [dEq_refl (dsOf_nd (h.nd nd)) (fun y hy=>by
  unfold dsOf at hy
  obtain ⟨x,hx,rfl⟩:=List.mem_map.mp hy
  rw [PyData.canLay0]
  exact lay_Ls (h.good x hx).2.1)] at z
 exact z
theorem OcT.head {CN CF CD CT CS : Addr} {H : Hp} {t : Addr} {o : Oc} (h : OcT CN CF CD CT CS H t o) : ∃ (c : Int) (u : V),H t = some (.tup [.int c,u])/\((∃ cs l,o = .good cs/\c = -1/\u = .ref l/\CL H l cs) \/ c ≠ -1):=by
 match o,h with
 | .good cs,⟨l,h1,h2⟩=>exact ⟨_,_,h1,.inl ⟨cs,l,rfl,rfl,rfl,h2⟩⟩
 | .many,⟨ea,h1,_⟩=>exact ⟨_,_,h1,.inr (by decide)⟩
 | .short k,⟨ea,dx,h1,_⟩=>exact ⟨_,_,h1,.inr (by decide)⟩
 | .du (.nm m),⟨ea,dx,h1,_⟩=>exact ⟨_,_,h1,.inr (by decide)⟩
 | .du (.fr m f),⟨ea,dx,h1,_⟩=>exact ⟨_,_,h1,.inr (by decide)⟩
 | .du .fd,⟨ea,h1,_⟩=>exact ⟨_,_,h1,.inr (by decide)⟩
end K12
set_option maxHeartbeats 4000000
namespace K12
open PySem L2 G DT
open IT hiding It
theorem uq_of {prs : List (Addr × Reel)} {ss : List Str} (e : prs.map (fun x=>x.2.name) = ss) (nd : ss.Nodup) : Uq prs:=fun x hx y hy z=>inj_nodup (fun x : Addr × Reel=>x.2.name) prs (by rw [e]; exact nd) x hx y hy z
inductive Odd (n5 : Str) (y : Addr × Reel) : Int->IT.It->Du->Prop
 | part : Odd n5 y 0 (.part n5 []) (.nm n5)
 | clip : Odd n5 y 1 (.clip y.2.name 0 y.2.many) (.fr y.2.name y.2.many)
 | fade : Odd n5 y 2 (.fade 1) .fd
theorem Odd.ex (n5 : Str) (y : Addr × Reel) (c : Int) : ∃ x e,Odd n5 y (c % 3) x e:=by
 have : c % 3 = 0 \/ c % 3 = 1 \/ c % 3 = 2:=by omega
 rcases this with z | z | z <;> rw [z]
 ·exact ⟨_,_,.part⟩
 ·exact ⟨_,_,.clip⟩
 ·exact ⟨_,_,.fade⟩
theorem Odd.at {n5 : Str} {y : Addr × Reel} {j : Int} {x : IT.It} {e : Du} {H : Hp} {q1 q2 q3 : Addr} (h : Odd n5 y j x e) (h1 : H q1 = some (.tup [.str "part",.str n5])) (h2 : H q2 = some (.tup [.str "clip",.str y.2.name,.int 0,.int y.2.many])) (h3 : H q3 = some (.tup [.str "fade",.int 1])) : ∃ q,atI [V.ref q1,.ref q2,.ref q3] j = some (.ref q)/\Td H (.ref q) (dI x):=by
 cases h with
 | part=>exact ⟨q1,rfl,mk_part h1⟩
 | clip=>exact ⟨q2,rfl,mk_clip h2⟩
 | fade=>exact ⟨q3,rfl,mk_fade h3⟩
theorem Odd.due {n5 : Str} {y : Addr × Reel} {j : Int} {x : IT.It} {e : Du} {H : Hp} {e1 e2 e3 e4 : Addr} (h : Odd n5 y j x e) (h1 : H e1 = some (.tup [.int 3,.str n5])) (h2 : H e2 = some (.tup [.str y.2.name,.int y.2.many])) (h3 : H e3 = some (.tup [.int 2,.ref e2])) (h4 : H e4 = some (.tup [.int 5,.non])) : ∃ t,atI [V.ref e1,.ref e3,.ref e4] j = some (.ref t)/\DuT H t (.du e):=by
 cases h with
 | part=>exact ⟨e1,rfl,h1⟩
 | clip=>exact ⟨e3,rfl,e2,h3,h2⟩
 | fade=>exact ⟨e4,rfl,h4⟩
theorem Odd.bk {n5 : Str} {y : Addr × Reel} {j : Int} {x : IT.It} {e : Du} {prs : List (Addr × Reel)} {G G0 : Str->List IT.It->Prop} {p : List IT.It} (h : Odd n5 y j x e) (hp : WL p) (hl : hL (Ck prs) G p) (hy : y ∈ prs) (m1 : 1 <= y.2.many) : Bk prs G G0 (fun n=>n = n5) (p ++ [x]) e/\dpI x <= 1:=by
 cases h with
 | part=>exact ⟨.none (.inr hp) hl rfl,by rw [dpI,dpL]; omega⟩
 | clip=>exact ⟨.clipL (.inr hp) hl hy ⟨by decide,by omega⟩ (fun z=>by have:=z.2; omega),by rw [dpI]; omega⟩
 | fade=>exact ⟨.fade (.inr hp) hl,by rw [dpI]; omega⟩
section
variable {P : Program} {w : World} {K : PySem.W.Frag} {mg : Str->Option Value} {base : Heap}
def spLaw (K : PySem.W.Frag) : Sp:=fun vs H Q _=>∃ (a : Addr) (ns : List Int),vs = [.ref a]/\SqL K H a (ns.map V.int)/\ns.length <= 63/\∀ H',Q (.bl true) H'
theorem scLaw : FnScope ["_law_script", "_law_names_here", "_law_most", "_law_reels_here", "_law_parts", "_law_k", "_law_items_here", "_law_cell_here", "_law_handed", "_law_name", "_law_letters", "_law_start", "_law_many", "_law_odd", "_law_due_here", "_law_told_here"] ["_law_script"] (defScope s_law):=⟨rfl,rfl,rfl,by decide +kernel,rfl,by decide +kernel,by decide +kernel⟩
theorem ok_law {f CN CF CD CT CS : Addr} {fd : FuncData} (F : Fun K "law" "law" s_law f fd)
  (dCell : Def P w K mg base CX0 "_law_cell" 1 ["_law_script", "_law_k"] (spCell K)) (dNames : Def P w K mg base CX0 "_law_names" 2 ["_law_cell_here", "_law_many"] spNames) (dReels : Def P w K mg base CX0 "_law_reels" 2 ["_law_cell_here", "_law_names_here", "_law_most"] spReels)
  (dItems : Def P w K mg base CX0 "_law_items" 4 ["_law_cell_here", "_law_deep", "_law_reels_here", "_law_parts"] (spItems 2)) (dSized : Def P w K mg base CX0 "_law_sized" 12 ["_law_items_here", "_law_parts", "_law_cell_here", "_law_reels_here"] (spSized 9))
  (dDue : Def P w K mg base CX0 "_law_due" 23 ["_law_items_here", "_law_parts"] (spDue 20)) (dTold : Def P w K mg base CX0 "_law_told" 50 ["_law_items_here", "_law_parts", "_law_reels_here"] (spTold CN CF CD CT CS 20)) (dRight : Def P w K mg base CX0 "_law_right" 2 ["_law_told_here", "_law_due_here"] (spRight CN CF CD CT CS))
  (dChain : Def P w K mg base CX0 "_law_chain" 51 ["_law_script"] (spChain K)) (n_range : mg "range" = none) (n_min : mg "min" = none) (n_dict : mg "dict" = none) (n_list : mg "list" = none) :
  FnOk P w K mg base CX0 52 f fd ["_law_script"] (spLaw K):=by
 refine F.ok scLaw (fun vs H Q E h=>?_) (fun cdv A outer s H vs Q E hr h=>?_)
 ·obtain ⟨a,ns,rfl,_⟩:=h
  rfl
 obtain ⟨a,ns,rfl,hS,hlen,q⟩:=h
 refine useQ (ss_cons (s_if (t_cmp op_eq (e_op op_mod (e_call dCell hr pass0 (a_cons (e_v 0) (a_cons e_int a_nil))) e_int) e_int)
   (ss_one (s_ret (e_call dChain hr pass0 (a_cons (e_v 0) a_nil))))
   ss_nil)
  (ss_cons (s_set (i:=1) scLaw.nd (e_call dNames hr pass0 (a_cons (e_call dCell hr pass0 (a_cons (e_v 0) (a_cons e_int a_nil))) (a_cons e_int a_nil))))
  (ss_cons (s_set (i:=2) scLaw.nd (e_ix ix_list (e_lst (a_cons e_int (a_cons e_int (a_cons e_int (a_cons e_int a_nil))))) (e_op op_mod (e_op op_fdiv (e_call dCell hr pass0 (a_cons (e_v 0) (a_cons e_int a_nil))) e_int) e_int)))
  (ss_cons (s_set (i:=3) scLaw.nd (e_call dReels hr pass0 (a_cons (e_call dCell hr pass0 (a_cons (e_v 0) (a_cons e_int a_nil))) (a_cons (e_sl sl_list (e_v 1) o_none (o_some (e_op op_add e_int (e_op op_mod (e_call dCell hr pass0 (a_cons (e_v 0) (a_cons e_int a_nil))) e_int)))) (a_cons (e_v 2) a_nil)))))
  (ss_cons (s_cut (s_if (t_cmp op_eq (e_op op_mod (e_call dCell hr pass0 (a_cons (e_v 0) (a_cons e_int a_nil))) e_int) e_int)
   (ss_one (s_asg (e_tup (a_cons (e_ix ix_list (e_v 1) e_int) (a_cons e_str (a_cons e_int (a_cons e_int a_nil))))) (g_sub (e_v 3) e_int)))
   ss_nil))
  (ss_cons (s_set (i:=4) scLaw.nd e_dnew)
  (ss_cons (s_for PassesOwn.never rfl (i_rng1 n_range e_int) (g_name (i:=5) scLaw.nd)
   (ss_one (s_dput (hu_of hr) (e_v 4) (e_ix ix_list (e_v 1) (e_v 5)) (e_call dItems hr pass0 (a_cons (e_call dCell hr pass0 (a_cons (e_v 0) (a_cons (e_op op_add e_int (e_v 5)) a_nil))) (a_cons (e_b (call_min2 rfl) n_min (by decide +kernel) (a_cons (e_v 5) (a_cons e_int a_nil))) (a_cons (e_v 3) (a_cons (e_sl sl_list (e_v 1) o_none (o_some (e_v 5))) a_nil))))))))
  (ss_cons (s_set (i:=6) scLaw.nd (e_tup a_nil))
  (ss_cons (s_for PassesOwn.never rfl (i_list (e_op op_cat (e_lst (a_cons (e_call dCell hr pass0 (a_cons (e_v 0) (a_cons e_int a_nil))) a_nil)) (e_sl sl_list (e_v 0) (o_some e_int) (o_some e_int)))) (g_name (i:=7) scLaw.nd)
   (ss_one (s_set (i:=6) scLaw.nd (e_op op_catG (e_v 6) (e_call dItems hr pass0 (a_cons (e_v 7) (a_cons e_int (a_cons (e_v 3) (a_cons (e_sl sl_list (e_v 1) o_none (o_some e_int)) a_nil)))))))))
  (ss_cons (s_cut (s_if (t_cmp op_eq (e_op op_mod (e_op op_fdiv (e_call dCell hr pass0 (a_cons (e_v 0) (a_cons e_int a_nil))) e_int) e_int) e_int)
   (ss_one (s_set (i:=6) scLaw.nd (e_tup (a_cons (e_tup (a_cons e_str (a_cons (e_op op_add e_int (e_op op_mod (e_op op_fdiv (e_call dCell hr pass0 (a_cons (e_v 0) (a_cons e_int a_nil))) e_int) e_int)) (a_cons (e_v 6) a_nil)))) a_nil))))
   ss_nil))
  (ss_cons (s_set (i:=6) scLaw.nd (e_call dSized hr pass0 (a_cons (e_v 6) (a_cons (e_v 4) (a_cons (e_call dCell hr pass0 (a_cons (e_v 0) (a_cons e_int a_nil))) (a_cons (e_v 3) a_nil))))))
  (ss_cons (s_set (i:=8) scLaw.nd (e_tup (a_cons (e_t call_dictD n_dict (by decide +kernel) (a_cons (e_v 4) a_nil)) (a_cons (e_t call_list_of n_list (by decide +kernel) (a_cons (e_v 3) a_nil)) a_nil))))
  (ss_cons (s_cut (s_if (t_cmp op_eq (e_op op_mod (e_call dCell hr pass0 (a_cons (e_v 0) (a_cons e_int a_nil))) e_int) e_int)
   (ss_cons (s_asg (e_ix ix_list (e_v 3) e_int) (g_tup rfl (gs_cons (g_name (i:=9) scLaw.nd) (gs_cons (g_name (i:=10) scLaw.nd) (gs_cons (g_name (i:=11) scLaw.nd) (gs_cons (g_name (i:=12) scLaw.nd) gs_nil))))))
   (ss_cons (s_set (i:=13) scLaw.nd (e_ix ix_list (e_lst (a_cons (e_tup (a_cons e_str (a_cons (e_ix ix_list (e_v 1) e_int) a_nil))) (a_cons (e_tup (a_cons e_str (a_cons (e_v 9) (a_cons e_int (a_cons (e_v 12) a_nil))))) (a_cons (e_tup (a_cons e_str (a_cons e_int a_nil))) a_nil)))) (e_op op_mod (e_op op_fdiv (e_call dCell hr pass0 (a_cons (e_v 0) (a_cons e_int a_nil))) e_int) e_int)))
   (ss_cons (s_set (i:=14) scLaw.nd (e_ix ix_list (e_lst (a_cons (e_tup (a_cons e_int (a_cons (e_ix ix_list (e_v 1) e_int) a_nil))) (a_cons (e_tup (a_cons e_int (a_cons (e_tup (a_cons (e_v 9) (a_cons (e_v 12) a_nil))) a_nil))) (a_cons (e_tup (a_cons e_int (a_cons e_non a_nil))) a_nil)))) (e_op op_mod (e_op op_fdiv (e_call dCell hr pass0 (a_cons (e_v 0) (a_cons e_int a_nil))) e_int) e_int)))
   (ss_one (s_set (i:=6) scLaw.nd (e_op op_catG (e_v 6) (e_tup (a_cons (e_v 13) a_nil))))))))
   (ss_one (s_set (i:=14) scLaw.nd (e_call dDue hr pass0 (a_cons (e_v 6) (a_cons (e_v 4) a_nil)))))))
  (ss_cons (s_set (i:=15) scLaw.nd (e_call dTold hr pass0 (a_cons (e_v 6) (a_cons (e_ix ix_tup (e_v 8) e_int) (a_cons (e_ix ix_tup (e_v 8) e_int) a_nil)))))
  (ss_cons (s_if (t_w (w_or (t_not (t_val (e_call dRight hr pass0 (a_cons (e_v 15) (a_cons (e_v 14) a_nil))))) (w_or1 (t_cmp (op_neT2 hr) (e_v 8) (e_tup (a_cons (e_v 4) (a_cons (e_v 3) a_nil)))))))
   (ss_one (s_ret e_bl))
   ss_nil)
  (ss_cons (s_cut (s_if (t_cmp op_eq (e_ix ix_tup (e_v 15) e_int) (e_un un_neg e_int))
   (ss_one (s_expr (e_append (e_ix ix_tup (e_v 15) e_int) (e_tup (a_cons e_str (a_cons e_int (a_cons e_int (a_cons e_int a_nil))))))))
   ss_nil))
  (ss_one (s_ret (e_call dRight hr pass0 (a_cons (e_call dTold hr pass0 (a_cons (e_v 6) (a_cons (e_v 4) (a_cons (e_v 3) a_nil)))) (a_cons (e_v 14) a_nil))))))))))))))))))))) ?_
 have zl : sizeLine = 16777216:=sizeLine_eq
 refine ⟨_,rfl,a,ns,9,rfl,hS,fun H0 s0=>⟨_,_,rfl,rfl,(by show (0 : Int) < 8; decide),rfl,_,rfl,ite2 (fun _=>⟨_,rfl,a,ns,rfl,s0.seq hS,fun H' _=>q H'⟩) fun _=>?_⟩⟩
 refine ⟨_,rfl,a,ns,0,rfl,s0.seq hS,fun H1 s1=>⟨cellOf ns 0,6,rfl,by decide,fun ln ss H2 s2 hsl hss hnd hln0 hln=>?_⟩⟩
 have S2:=(s0.trans s1).trans s2
 obtain ⟨mo,hmo,hmo1,hmo2⟩ : ∃ mo : Int,atI [V.int 40,.int 40,.int 3000,.int 40] (cellOf ns 1 / 4 % 4) = some (.int mo)/\1 <= mo/\mo <= 160000:=by
  have : cellOf ns 1 / 4 % 4 = 0 \/ cellOf ns 1 / 4 % 4 = 1 \/ cellOf ns 1 / 4 % 4 = 2 \/ cellOf ns 1 / 4 % 4 = 3:=by omega
  rcases this with z | z | z | z <;> rw [z]
  ·exact ⟨40,rfl,by decide,by decide⟩
  ·exact ⟨40,rfl,by decide,by decide⟩
  ·exact ⟨3000,rfl,by decide,by decide⟩
  ·exact ⟨40,rfl,by decide,by decide⟩
 refine ⟨(by show 4 <= sizeLine; decide),fun pm hpm=>?_⟩
 have tm:=Same.new hpm (.lst [.int 40,.int 40,.int 3000,.int 40])
 refine ⟨_,rfl,a,ns,1,rfl,(S2.trans tm).seq hS,fun H3 s3=>⟨_,_,rfl,rfl,⟨by decide,by decide⟩,_,_,rfl,rfl,(by show (0 : Int) < 4; decide),pm,_,_,.int mo,rfl,rfl,SqL.of (s3 _ _ upd_same),hmo,?_⟩⟩
 have S3:=(S2.trans tm).trans s3
 have hln3:=s3 _ _ (tm _ _ hln)
 obtain ⟨kk,hkk,hk1,hk2⟩ : ∃ m : Nat,1 + cellOf ns 1 % 4 = (m : Int)/\1 <= m/\m <= 4:=⟨(1 + cellOf ns 1 % 4).toNat,by omega,by omega,by omega⟩
 refine ⟨_,rfl,a,ns,1,rfl,S3.seq hS,fun H4 s4=>⟨_,rfl,_,rfl,a,ns,1,rfl,(S3.trans s4).seq hS,fun H5 s5=>⟨_,_,rfl,rfl,(by show (0 : Int) < 4; decide),_,_,rfl,rfl,_,rfl,ln,_,rfl,SqL.of (s5 _ _ (s4 _ _ hln3)),fun pn hpn=>?_⟩⟩⟩
 have S5:=(S3.trans s4).trans s5
 have hln5:=s5 _ _ (s4 _ _ hln3)
 have tn:=Same.new hpn (.lst (cutV (ss.map V.str) none (some (1 + cellOf ns 1 % 4))))
 refine ⟨_,rfl,cellOf ns 1,mo,pn,ss.take kk,rfl,hmo1,hmo2,(by rw [<- cut_take,<- hkk]; exact upd_same),fun s hs=>hss s (List.mem_of_mem_take hs),by rw [List.length_take]; omega,fun lr prs0 H6 s6 hnames0 hlr0 rl0=>?_⟩
 have S6:=(S5.trans tn).trans s6
 have hln6:=s6 _ _ (tn _ _ hln5)
 have hlrH : H lr = none:=(S5.trans tn).free hlr0
 have hlr5 : H5 lr = none:=tn.free hlr0
 have nlr : ln ≠ lr:=ne_of_none hln5 hlr5
 have gn : ∀ k (h : k < 6),atI (ss.map V.str) ((k : Nat) : Int) = some (.str (ss[k]'(by omega))):=fun k h=>atI_nat (by rw [List.getElem?_map,List.getElem?_eq_getElem (by omega)]; rfl)
 have hpl0 : prs0.length = kk:=by
  have:=congrArg List.length hnames0
  rw [List.length_map,List.length_take] at this
  omega
 refine ⟨fun σ H'=>σ = [some (.ref a),some (.ref ln),some (.int mo),some (.ref lr),none,none,none,none,none,none,none,none,none,none,none,none]/\Same H H'/\H' ln = some (.lst (ss.map V.str))/\∃ prs : List (Addr × Reel),RL H' lr prs/\prs.map (fun x=>x.2.name) = ss.take kk,?_,?_⟩
 ·refine ⟨_,rfl,a,ns,8,rfl,S6.seq hS,fun H7 s7=>⟨_,_,rfl,rfl,(by show (0 : Int) < 8; decide),rfl,_,rfl,ite2 (fun _=>?_) fun _=>⟨rfl,S6.trans s7,s7 _ _ hln6,prs0,rl0.same s7,hnames0⟩⟩⟩
  have hln7:=s7 _ _ hln6
  have rl7:=rl0.same s7
  refine ⟨_,rfl,ln,_,_,_,rfl,rfl,SqL.of hln7,gn 0 (by decide),(by show 4 <= sizeLine; decide),fun pt hpt=>?_⟩
  have tt:=Same.new hpt (.tup [.str (ss[0]'(by omega)),.str "AB",.int 5,.int 2500])
  have rl8:=rl7.same tt
  obtain ⟨y,r,rfl⟩ : ∃ y r,prs0 = y :: r:=by
   cases prs0 with
   | nil=>rw [List.length_nil] at hpl0; omega
   | cons y r=>exact ⟨y,r,rfl⟩
  refine ⟨_,rfl,lr,_,0,0,rfl,rfl,rl8.1,(by rw [List.length_map,List.length_cons]; unfold ixN; rw [if_pos (by decide),if_pos (by omega)]; rfl),rfl,?_,?_,(pt,⟨ss[0]'(by omega), "AB",5,2500⟩) :: r,⟨upd_same,fun x hx=>?_⟩,?_⟩
  ·exact fun b o hb=>by
    rw [upd_ne (ne_of_none hb hlrH)]
    exact ((S6.trans s7).trans tt) _ _ hb
  ·rw [upd_ne nlr]
   exact tt _ _ hln7
  ·rcases List.mem_cons.mp hx with rfl | z
   ·refine ⟨?_,⟨(hss _ (List.getElem_mem _)).1,(hss _ (List.getElem_mem _)).2,(by show Fine "AB"; decide +kernel),(by show (1 : Int) <= 2500; decide)⟩⟩
    rw [upd_ne (ne_of (upd_same (H:=H7) (a:=pt) (o:=.tup [.str (ss[0]'(by omega)),.str "AB",.int 5,.int 2500])) rl8.1 (by intro z; cases z))]
    exact upd_same
   ·obtain ⟨h1,h2⟩:=rl8.2 x (List.mem_cons_of_mem _ z)
    exact ⟨by rw [upd_ne (ne_of h1 rl8.1 (by intro z; cases z))]; exact h1,h2⟩
  ·have e:=hnames0
   rw [List.map_cons] at e ⊢
   rw [<- e]
   have e0 : y.2.name = ss[0]'(by omega):=by
    have:=congrArg (fun l : List Str=>l[0]?) e
    rw [List.getElem?_cons_zero,List.getElem?_take,if_pos (by omega),List.getElem?_eq_getElem (by omega)] at this
    exact Option.some.inj this
   rw [e0]
 rintro σ H7 ⟨rfl,S7,hln7,prs,rl,hnames⟩
 have hpl : prs.length = kk:=by
  have:=congrArg List.length hnames
  rw [List.length_map,List.length_take] at this
  omega
 have uq : Uq prs:=uq_of hnames (List.Sublist.nodup (List.take_sublist ..) hnd)
 refine fun pd hpd=>?_
 have td0:=Same.new hpd (.dK [])
 have hpdH : H pd = none:=S7.free hpd
 have nld : ln ≠ pd:=ne_of_none hln7 hpd
 have nrd : lr ≠ pd:=ne_of_none rl.1 hpd
 have rlx : ∀ {H' : Hp},SX pd H7 H'->RL H' lr prs:=fun sx=>⟨sx _ _ nrd rl.1,fun x hx=>⟨sx _ _ (ne_of_none (rl.2 x hx).1 hpd) (rl.2 x hx).1,(rl.2 x hx).2⟩⟩
 refine ⟨3,rfl,by decide,by decide,for_range (lo:=0) (n:=3) (fun i σ H'=>∃ (o5 : Option V) (ps : List Pt),σ = [some (.ref a),some (.ref ln),some (.int mo),some (.ref lr),some (.ref pd),o5,none,none,none,none,none,none,none,none,none,none]/\H' pd = some (.dK (kvsOf ps))/\PM prs ss i H' ps/\SX pd H7 H') ⟨none,[],rfl,upd_same,⟨by rw [List.take_zero]; rfl,(fun p hp=>nomatch hp),(fun p hp=>nomatch hp)⟩,SX.of td0⟩ ?_ ?_⟩
 ·rintro i σ H' hi ⟨o5,ps,rfl,hd,hpm,sx⟩
  have SH : Same H H':=SX.same hpdH S7 sx
  have hn : ss[i]? = some (ss[i]'(by omega)):=List.getElem?_eq_getElem (by omega)
  have hlnI:=sx _ _ nld hln7
  have rlI:=rlx sx
  obtain ⟨m1,m2,m3⟩:=Bf_mono hi
  refine ⟨_,rfl,_,rfl,_,_,rfl,rfl,a,ns,3 + i,(by rw [show ((3 + i : Nat) : Int) = 3 + (0 + (i : Int)) by omega]; rfl),SH.seq hS,fun H8 s8=>⟨_,rfl,_,_,rfl,_,rfl,_,rfl,_,rfl,_,rfl,ln,_,rfl,SqL.of (s8 _ _ hlnI),fun pk hpk=>?_⟩⟩
  have tk:=Same.new hpk (.lst (cutV (ss.map V.str) none (some (0 + (i : Int)))))
  have T:=s8.trans tk
  refine ⟨min i 1,cellOf ns (3 + i),lr,pk,prs,ss.take i,GOf ps,Bf i,Df i,by omega,?_,rlI.same T,by omega,?_,m3,fun s hs=>⟨(hss s (List.mem_of_mem_take hs)).2,?_⟩,fun p xs H9 s9 tp gi=>?_⟩
  ·have e : (if (1 : Int) < 0 + (i : Int) then 1 else 0 + (i : Int)) = ((min i 1 : Nat) : Int):=by split <;> omega
   rw [<- e]
   rfl
  ·rw [<- cut_take,Int.zero_add]
   exact upd_same
  ·rw [<- hpm.nm] at hs
   obtain ⟨p,hp,rfl⟩:=List.mem_map.mp hs
   obtain ⟨g1,g2,g3,g4⟩:=hpm.good p hp
   exact ⟨p.2.2,⟨p.2.1,hp⟩,g1,g3,g4⟩
  ·have U:=T.trans s9
   have hd9:=U _ _ hd
   have hat : atI (ss.map V.str) (0 + (i : Int)) = some (.str (ss[i]'(by omega))):=by
    rw [Int.zero_add]
    exact gn i (by omega)
   have hl:=hpm.len
   obtain ⟨pm2,ek⟩:=hpm.push (b:=p) hi hnd hn ((TK.of U).trans (TK.dk (o:=.dK (putK (kvsOf ps) (Sum.inr (ss[i]'(by omega))) (.ref p))) hd9)) (tp.tk (TK.dk hd9)) gi
   refine ⟨_,rfl,_,rfl,_,rfl,ln,_,_,_,rfl,rfl,SqL.of (U _ _ hlnI),hat,pd,_,rfl,DPut.k (k:=Sum.inr (ss[i]'(by omega))) hd9 (by omega),_,ps ++ [(ss[i]'(by omega),p,xs)],rfl,by rw [upd_same,ek],pm2,(sx.trans (SX.of U)).trans SX.upd⟩
 rintro σ H8 ⟨o5,ps,rfl,hd,hpm,sx⟩
 have S8 : Same H H8:=SX.same hpdH S7 sx
 have hln8:=sx _ _ nld hln7
 have rl8:=rlx sx
 have pa:=hpm.pa hnd (by omega)
 have pr8:=hpm.pr hnd hd
 refine ⟨(by show 0 <= sizeLine; decide),fun p0 hp0=>?_⟩
 have t0:=Same.new hp0 (.tup [])
 refine ⟨_,rfl,a,ns,2,rfl,(S8.trans t0).seq hS,fun H9 s9=>⟨(by show 1 <= sizeLine; decide),fun pl hpl'=>?_⟩⟩
 have tl:=Same.new hpl' (.lst [.int (cellOf ns 2)])
 refine ⟨_,rfl,_,rfl,_,rfl,a,_,rfl,(((S8.trans t0).trans s9).trans tl).seq hS,fun pq hpq=>?_⟩
 have tq:=Same.new hpq (.lst (cutV (ns.map V.int) (some 6) (some 7)))
 have ecut : cutV (ns.map V.int) (some 6) (some 7) = ((ns.drop 6).take 1).map V.int:=cut_one ns 6
 have lcut : (cutV (ns.map V.int) (some 6) (some 7)).length <= 1:=by rw [ecut,List.length_map,List.length_take]; omega
 refine ⟨pl,pq,_,_,rfl,rfl,tq _ _ upd_same,upd_same,(by simp only [List.length_cons,List.length_nil]; omega),fun pc hpc=>?_⟩
 have tc:=Same.new hpc (.lst ([.int (cellOf ns 2)] ++ cutV (ns.map V.int) (some 6) (some 7)))
 have T:=(((t0.trans s9).trans tl).trans tq).trans tc
 generalize hHc : (upd (upd (upd H9 pl (.lst [.int (cellOf ns 2)])) pq (.lst (cutV (ns.map V.int) (some 6) (some 7)))) pc (.lst ([.int (cellOf ns 2)] ++ cutV (ns.map V.int) (some 6) (some 7)))) = Hc at T
 have hpcC : Hc pc = some (.lst ([.int (cellOf ns 2)] ++ cutV (ns.map V.int) (some 6) (some 7))):=by rw [<- hHc]; exact upd_same
 have hp0C : Hc p0 = some (.tup []):=by rw [<- hHc]; exact tc _ _ (tq _ _ (tl _ _ (s9 _ _ upd_same)))
 have SC:=S8.trans T
 refine ⟨pc,rfl,⟨_,SqL.of hpcC⟩,for_list (K:=K) (a:=pc) (xs:=[.int (cellOf ns 2)] ++ cutV (ns.map V.int) (some 6) (some 7)) (fun i σ H'=>∃ (p : Addr) (o7 : Option V) (xs : List IT.It),σ = [some (.ref a),some (.ref ln),some (.int mo),some (.ref lr),some (.ref pd),o5,some (.ref p),o7,none,none,none,none,none,none,none,none]/\Td H' (.ref p) (.tuple (dL xs))/\(i = 0->xs = [])/\(i ≠ 0->WL xs)/\hL (Ck prs) (GOf ps) xs/\dpL xs <= 8/\wL xs <= i * 216/\Same Hc H')
  ⟨p0,none,[],rfl,.tup hp0C (by rw [dL]; exact .nil),fun _=>rfl,fun z=>absurd rfl z,(by rw [hL]; trivial),(by rw [dpL]; omega),(by rw [wL]; omega),Same.refl _⟩ (fun i σ H' _ ⟨_,_,_,_,_,_,_,_,_,_,sm⟩=>SqL.of (sm _ _ hpcC)) ?_ ?_⟩
 ·rintro i v σ H' hv ⟨p,o7,xs,rfl,tp,hx0,hx1,hxo,hxd,hxw,sm⟩
  have hi2 : i < 2:=by
   have:=(List.getElem?_eq_some_iff.mp hv).1
   rw [List.length_append] at this
   simp only [List.length_cons,List.length_nil] at this
   omega
  obtain ⟨ci,rfl⟩ : ∃ ci,v = .int ci:=by
   rcases List.mem_append.mp (List.mem_of_getElem? hv) with h | h
   ·exact ⟨_,List.mem_singleton.mp h⟩
   ·rw [ecut] at h
    obtain ⟨z,_,rfl⟩:=List.mem_map.mp h
    exact ⟨z,rfl⟩
  have hlnI:=sm _ _ (T _ _ hln8)
  refine ⟨_,rfl,_,rfl,_,rfl,_,rfl,_,rfl,ln,_,rfl,SqL.of hlnI,fun p3 hp3=>?_⟩
  have t3:=Same.new hp3 (.lst (cutV (ss.map V.str) none (some 3)))
  refine ⟨2,ci,lr,p3,prs,ss.take 3,GOf ps,2187,5,by decide,rfl,rl8.same ((T.trans sm).trans t3),by omega,(by rw [<- cut_take]; exact upd_same),by decide,fun s hs=>⟨(hss s (List.mem_of_mem_take hs)).2,?_⟩,fun p' ys H10 s10 tp' gi=>?_⟩
  ·rw [<- hpm.nm] at hs
   obtain ⟨p,hp,rfl⟩:=List.mem_map.mp hs
   obtain ⟨g1,g2,g3,g4⟩:=hpm.good p hp
   exact ⟨p.2.2,⟨p.2.1,hp⟩,g1,g3,g4⟩
  ·have tp8:=tp.tk (TK.of (t3.trans s10))
   obtain ⟨_,vs1,e1,h1,d1⟩:=tp8.tinv
   cases e1
   obtain ⟨_,vs2,e2,h2,d2⟩:=tp'.tinv
   cases e2
   have g2:=gi.dp
   have g3:=gi.w
   have l1 : vs1.length <= wL xs:=by have:=wL_len xs; rw [d1.len,dL_map,List.length_map]; exact this
   have l2 : vs2.length <= wL ys:=by have:=wL_len ys; rw [d2.len,dL_map,List.length_map]; exact this
   have n2 : (6 ^ (2 + 1) : Nat) = 216:=rfl
   rw [n2] at g3
   refine ⟨p,p',_,_,rfl,rfl,h1,h2,by omega,fun p'' H11 s11 h11=>?_⟩
   refine ⟨p'',_,xs ++ ys,rfl,.tup h11 (by rw [dL_app]; exact (d1.app d2).tk (TK.of s11)),fun z=>absurd z (Nat.succ_ne_zero i),fun _=>?_,hL_app hxo gi.ok,dpL_app hxd (by omega),?_,((sm.trans t3).trans s10).trans s11⟩
   ·by_cases z : i = 0
    ·rw [hx0 z]
     exact gi.wl
    ·exact (hx1 z).app gi.wl
   ·rw [wL_app,Nat.add_mul,Nat.one_mul]
    omega
 rintro σ H10 ⟨p,o7,xs,rfl,tp,hx0,hx1,hxo,hxd,hxw,s10⟩
 have lenc : ([V.int (cellOf ns 2)] ++ cutV (ns.map V.int) (some 6) (some 7)).length <= 2/\1 <= ([V.int (cellOf ns 2)] ++ cutV (ns.map V.int) (some 6) (some 7)).length:=by
  rw [List.length_append]
  simp only [List.length_cons,List.length_nil]
  omega
 have hxw' : wL xs <= 432:=by
  have : ([V.int (cellOf ns 2)] ++ cutV (ns.map V.int) (some 6) (some 7)).length * 216 <= 2 * 216:=Nat.mul_le_mul_right _ lenc.1
  omega
 have ls10 : Ls prs (GOf ps) 9 1000 H10 p xs:=⟨tp,hx1 (by omega),hxo,by omega,by have:=wL_len xs; omega⟩
 have S10:=SC.trans s10
 have U10:=T.trans s10
 refine ⟨fun σ H'=>∃ (p : Addr) (xs : List IT.It),σ = [some (.ref a),some (.ref ln),some (.int mo),some (.ref lr),some (.ref pd),o5,some (.ref p),o7,none,none,none,none,none,none,none,none]/\Same H10 H'/\Ls prs (GOf ps) 9 1000 H' p xs,?_,?_⟩
 ·refine ⟨_,rfl,a,ns,2,rfl,S10.seq hS,fun H11 s11=>⟨_,_,rfl,rfl,⟨by decide,by decide⟩,_,_,rfl,rfl,(by show (0 : Int) < 4; decide),rfl,_,rfl,ite2 (fun _=>?_) fun _=>⟨p,xs,rfl,s11,ls10.same s11⟩⟩⟩
  refine ⟨_,rfl,a,ns,2,rfl,(S10.trans s11).seq hS,fun H12 s12=>⟨_,_,rfl,rfl,⟨by decide,by decide⟩,_,_,rfl,rfl,(by show (0 : Int) < 19; decide),_,_,rfl,rfl,_,rfl,(by show 3 <= sizeLine; decide),fun p7 hp7=>⟨(by show 1 <= sizeLine; decide),fun p8 hp8=>?_⟩⟩⟩
  have t7:=Same.new hp7 (.tup [.str "times",.int (2 + cellOf ns 2 / 16 % 19),.ref p])
  have t8:=Same.new hp8 (.tup [.ref p7])
  have l12:=(ls10.same s11).same s12
  refine ⟨p8,[.times (2 + cellOf ns 2 / 16 % 19) xs],rfl,((s11.trans s12).trans t7).trans t8,.tup upd_same (tds_one ((mk_times upd_same (l12.td.tk (TK.of t7))).tk (TK.of t8))),.one (.times (by omega) (by omega) l12.wl),h1 (by rw [hI]; exact l12.hl),dp1 (by rw [dpI]; omega),by show 1 <= 1000; decide⟩
 rintro σ H11 ⟨p,xs,rfl,s11,ls11⟩
 have S11:=S10.trans s11
 have U11:=U10.trans s11
 refine ⟨_,rfl,_,rfl,_,rfl,a,ns,8,rfl,S11.seq hS,fun H12 s12=>⟨_,rfl,p,pd,lr,cellOf ns 8,xs,prs,GOf ps,ss,rfl,ls11.same s12,by decide,pr8.same (U11.trans s12),pa,rl8.same (U11.trans s12),by omega,fun p ys H13 s13 ls13=>?_⟩⟩
 have S13:=(S11.trans s12).trans s13
 have U13:=(U11.trans s12).trans s13
 have hd13:=U13 _ _ hd
 have rl13:=rl8.same U13
 have hpm13:=hpm.tk (TK.of U13)
 have hln13:=U13 _ _ hln8
 refine ⟨_,rfl,pd,_,rfl,hd13,fun pd2 hpd2=>?_⟩
 have ta:=Same.new hpd2 (.dK (kvsOf ps))
 refine ⟨_,rfl,lr,_,rfl,.inl (SqL.of (ta _ _ rl13.1)),fun lr2 hlr2=>⟨(by show 2 <= sizeLine; decide),fun th hth=>?_⟩⟩
 have tb:=Same.new hlr2 (.lst (prs.map fun x=>V.ref x.1))
 have tc2:=Same.new hth (.tup [.ref pd2,.ref lr2])
 have Ta:=(ta.trans tb).trans tc2
 have hth':=upd_same (H:=upd (upd H13 pd2 (.dK (kvsOf ps))) lr2 (.lst (prs.map fun x=>V.ref x.1))) (a:=th) (o:=.tup [.ref pd2,.ref lr2])
 have hd2:=tc2 _ _ (tb _ _ (upd_same (H:=H13) (a:=pd2) (o:=.dK (kvsOf ps))))
 have hl2:=tc2 _ _ (upd_same (H:=upd H13 pd2 (.dK (kvsOf ps))) (a:=lr2) (o:=.lst (prs.map fun x=>V.ref x.1)))
 generalize upd (upd (upd H13 pd2 (.dK (kvsOf ps))) lr2 (.lst (prs.map fun x=>V.ref x.1))) th (.tup [.ref pd2,.ref lr2]) = H14 at Ta hth' hd2 hl2
 have npd : pd2 ≠ pd:=fun z=>by rw [z,hd13] at hpd2; cases hpd2
 have rl14:=rl13.same Ta
 have rl2 : RL H14 lr2 prs:=⟨hl2,rl14.2⟩
 have hpm14:=hpm13.tk (TK.of Ta)
 have hd14:=Ta _ _ hd13
 have hln14:=Ta _ _ hln13
 have ls14:=ls13.same Ta
 have S14:=S13.trans Ta
 have h5 : ss[5]? = some (ss[5]'(by omega)):=List.getElem?_eq_getElem (by omega)
 refine ⟨fun σ H'=>∃ (p td : Addr) (ys : List IT.It) (o : Oc) (o9 o10 o11 o12 o13 : Option V),σ = [some (.ref a),some (.ref ln),some (.int mo),some (.ref lr),some (.ref pd),o5,some (.ref p),o7,some (.ref th),o9,o10,o11,o12,o13,some (.ref td),none]/\Same H14 H'/\Td H' (.ref p) (.tuple (dL ys))/\dpL ys <= 20/\Res prs (GOf ps) (GOf ps) (fun n=>n = ss[5]'(by omega)) ys o/\DuT H' td o,?_,?_⟩
 ·refine ⟨_,rfl,a,ns,9,rfl,S14.seq hS,fun H15 s15=>⟨_,_,rfl,rfl,(by show (0 : Int) < 4; decide),rfl,_,rfl,ite2 (fun _=>?_) fun _=>?_⟩⟩
  ·obtain ⟨y,hy⟩ : ∃ y,prs[0]? = some y:=⟨_,List.getElem?_eq_getElem (by omega)⟩
   have hym:=List.mem_of_getElem? hy
   have rl15:=rl14.same s15
   obtain ⟨hyt,yok⟩:=rl15.2 y hym
   have hat : atI (prs.map fun x=>V.ref x.1) 0 = some (.ref y.1):=atI_nat (j:=0) (by rw [List.getElem?_map,hy]; rfl)
   refine ⟨_,rfl,lr,_,_,_,rfl,rfl,SqL.of rl15.1,hat,y.1,_,rfl,SqT.of hyt,rfl,_,_,rfl,_,_,rfl,_,_,rfl,_,_,rfl,rfl,?_⟩
   have hln15:=s15 _ _ hln14
   obtain ⟨x,e,odd⟩:=Odd.ex (ss[5]'(by omega)) y (cellOf ns 9 / 4)
   refine ⟨_,rfl,ln,_,_,_,rfl,rfl,SqL.of hln15,gn 5 (by decide),(by show 2 <= sizeLine; decide),fun q1 hq1=>⟨_,rfl,_,rfl,(by show 4 <= sizeLine; decide),fun q2 hq2=>⟨(by show 2 <= sizeLine; decide),fun q3 hq3=>⟨(by show 3 <= sizeLine; decide),fun q4 hq4=>?_⟩⟩⟩⟩
   have v1:=Same.new hq1 (.tup [.str "part",.str (ss[5]'(by omega))])
   have v2:=Same.new hq2 (.tup [.str "clip",.str y.2.name,.int 0,.int y.2.many])
   have v3:=Same.new hq3 (.tup [.str "fade",.int 1])
   have v4:=Same.new hq4 (.lst [.ref q1,.ref q2,.ref q3])
   have k1:=v4 _ _ (v3 _ _ (v2 _ _ (upd_same (H:=H15) (a:=q1) (o:=.tup [.str "part",.str (ss[5]'(by omega))]))))
   have k2:=v4 _ _ (v3 _ _ (upd_same (H:=upd H15 q1 (.tup [.str "part",.str (ss[5]'(by omega))])) (a:=q2) (o:=.tup [.str "clip",.str y.2.name,.int 0,.int y.2.many])))
   have k3:=v4 _ _ (upd_same (H:=upd (upd H15 q1 (.tup [.str "part",.str (ss[5]'(by omega))])) q2 (.tup [.str "clip",.str y.2.name,.int 0,.int y.2.many])) (a:=q3) (o:=.tup [.str "fade",.int 1]))
   have k4:=upd_same (H:=upd (upd (upd H15 q1 (.tup [.str "part",.str (ss[5]'(by omega))])) q2 (.tup [.str "clip",.str y.2.name,.int 0,.int y.2.many])) q3 (.tup [.str "fade",.int 1])) (a:=q4) (o:=.lst [.ref q1,.ref q2,.ref q3])
   have V4:=((v1.trans v2).trans v3).trans v4
   generalize upd (upd (upd (upd H15 q1 (.tup [.str "part",.str (ss[5]'(by omega))])) q2 (.tup [.str "clip",.str y.2.name,.int 0,.int y.2.many])) q3 (.tup [.str "fade",.int 1])) q4 (.lst [.ref q1,.ref q2,.ref q3]) = H16 at V4 k1 k2 k3 k4
   refine ⟨_,rfl,a,ns,9,rfl,((S14.trans s15).trans V4).seq hS,fun H17 s17=>?_⟩
   obtain ⟨qo,hqo,tqo⟩:=odd.at (s17 _ _ k1) (s17 _ _ k2) (s17 _ _ k3)
   refine ⟨_,_,rfl,rfl,⟨by decide,by decide⟩,_,_,rfl,rfl,(by show (0 : Int) < 3; decide),q4,_,_,.ref qo,rfl,rfl,SqL.of (s17 _ _ k4),hqo,?_⟩
   have V17:=(s15.trans V4).trans s17
   have hln17:=V17 _ _ hln14
   refine ⟨_,rfl,ln,_,_,_,rfl,rfl,SqL.of hln17,gn 5 (by decide),(by show 2 <= sizeLine; decide),fun e1 he1=>⟨_,rfl,_,rfl,(by show 2 <= sizeLine; decide),fun e2 he2=>⟨(by show 2 <= sizeLine; decide),fun e3 he3=>⟨(by show 2 <= sizeLine; decide),fun e4 he4=>⟨(by show 3 <= sizeLine; decide),fun e5 he5=>?_⟩⟩⟩⟩⟩
   have w1:=Same.new he1 (.tup [.int 3,.str (ss[5]'(by omega))])
   have w2:=Same.new he2 (.tup [.str y.2.name,.int y.2.many])
   have w3:=Same.new he3 (.tup [.int 2,.ref e2])
   have w4:=Same.new he4 (.tup [.int 5,.non])
   have w5:=Same.new he5 (.lst [.ref e1,.ref e3,.ref e4])
   have j1:=w5 _ _ (w4 _ _ (w3 _ _ (w2 _ _ (upd_same (H:=H17) (a:=e1) (o:=.tup [.int 3,.str (ss[5]'(by omega))])))))
   have j2:=w5 _ _ (w4 _ _ (w3 _ _ (upd_same (H:=upd H17 e1 (.tup [.int 3,.str (ss[5]'(by omega))])) (a:=e2) (o:=.tup [.str y.2.name,.int y.2.many]))))
   have j3:=w5 _ _ (w4 _ _ (upd_same (H:=upd (upd H17 e1 (.tup [.int 3,.str (ss[5]'(by omega))])) e2 (.tup [.str y.2.name,.int y.2.many])) (a:=e3) (o:=.tup [.int 2,.ref e2])))
   have j4:=w5 _ _ (upd_same (H:=upd (upd (upd H17 e1 (.tup [.int 3,.str (ss[5]'(by omega))])) e2 (.tup [.str y.2.name,.int y.2.many])) e3 (.tup [.int 2,.ref e2])) (a:=e4) (o:=.tup [.int 5,.non]))
   have j5:=upd_same (H:=upd (upd (upd (upd H17 e1 (.tup [.int 3,.str (ss[5]'(by omega))])) e2 (.tup [.str y.2.name,.int y.2.many])) e3 (.tup [.int 2,.ref e2])) e4 (.tup [.int 5,.non])) (a:=e5) (o:=.lst [.ref e1,.ref e3,.ref e4])
   have W5:=(((w1.trans w2).trans w3).trans w4).trans w5
   generalize upd (upd (upd (upd (upd H17 e1 (.tup [.int 3,.str (ss[5]'(by omega))])) e2 (.tup [.str y.2.name,.int y.2.many])) e3 (.tup [.int 2,.ref e2])) e4 (.tup [.int 5,.non])) e5 (.lst [.ref e1,.ref e3,.ref e4]) = H18 at W5 j1 j2 j3 j4 j5
   have V18:=V17.trans W5
   refine ⟨_,rfl,a,ns,9,rfl,(S14.trans V18).seq hS,fun H19 s19=>?_⟩
   obtain ⟨td,htd,dut⟩:=odd.due (s19 _ _ j1) (s19 _ _ j2) (s19 _ _ j3) (s19 _ _ j4)
   refine ⟨_,_,rfl,rfl,⟨by decide,by decide⟩,_,_,rfl,rfl,(by show (0 : Int) < 3; decide),e5,_,_,.ref td,rfl,rfl,SqL.of (s19 _ _ j5),htd,?_⟩
   refine ⟨_,rfl,_,rfl,(by show 1 <= sizeLine; decide),fun p7 hp7=>?_⟩
   have t7:=Same.new hp7 (.tup [.ref qo])
   have V20:=(V18.trans s19).trans t7
   have l20:=ls14.same V20
   obtain ⟨_,us,eu,hp20,tu⟩:=l20.td.tinv
   cases eu
   have lu:=len_item tu
   have ll:=l20.len
   obtain ⟨bk,dx⟩:=odd.bk (G0:=GOf ps) l20.wl l20.hl hym yok.m1
   refine ⟨p,p7,us,_,rfl,rfl,hp20,upd_same,by simp only [List.length_cons,List.length_nil]; omega,fun p8 H21 s21 h21=>?_⟩
   have tq : Td H21 (.ref qo) (dI x):=tqo.tk (TK.of (((W5.trans s19).trans t7).trans s21))
   exact ⟨p8,td,ys ++ [x],.du e,_,_,_,_,_,rfl,V20.trans s21,.tup h21 (by rw [dL_app]; exact (tu.tk (TK.of s21)).app (tds_one tq)),dpL_app (Nat.le_trans l20.dp (by decide)) (dp1 (by omega)),.du bk,dut.same (t7.trans s21)⟩
  ·refine ⟨_,rfl,_,rfl,p,pd,ys,prs,GOf ps,GOf ps,(fun n=>n = ss[5]'(by omega)),ss,rfl,(ls14.same s15).td,(hpm14.tk (TK.of s15)).pr hnd (s15 _ _ hd14),pa,ls14.hl,ls14.wl,Nat.le_trans ls14.dp (by decide),fun t o H16 s16 res du=>?_⟩
   exact ⟨p,t,ys,o,_,_,_,_,_,rfl,s15.trans s16,(ls14.same (s15.trans s16)).td,Nat.le_trans ls14.dp (by decide),res,du⟩
 rintro σ Hx ⟨p,td,ys,o,o9,o10,o11,o12,o13,rfl,sx14,tdx,dpx,res,du⟩
 have ptx : ∀ {H' : Hp} {d : Addr},Same Hx H'->H14 d = some (.dK (kvsOf ps))->Pts H' d (GOf ps) (GOf ps) (fun n=>n = ss[5]'(by omega)) ss prs:=fun s' hd'=>(hpm14.tk (TK.of (sx14.trans s'))).pts hnd (by omega) h5 ((sx14.trans s') _ _ hd')
 have fine : OcF o:=res.fine pa (fun x hx=>(rl14.2 x hx).2.nf) fun n e=>by rw [e]; exact (hss _ (List.getElem_mem _)).2
 have hthx:=sx14 _ _ hth'
 refine ⟨_,rfl,_,rfl,th,_,_,_,rfl,rfl,SqT.of hthx,atI_nat (j:=0) rfl,_,rfl,th,_,_,_,rfl,rfl,SqT.of hthx,atI_nat (j:=1) rfl,p,pd2,lr2,ys,_,_,_,ss,prs,o,rfl,tdx,ptx (Same.refl _) hd2,rl2.same sx14,uq,dpx,res,fun t1 H1' s1' oc fr=>?_⟩
 refine ⟨_,rfl,_,rfl,t1,td,o,rfl,oc,du.same s1',fine,fun H2' s2'=>⟨true,rfl,iteF ?_⟩⟩
 have R2:=s1'.trans s2'
 refine ⟨_,rfl,_,rfl,_,rfl,(by show 2 <= sizeLine; decide),fun tt htt=>?_⟩
 have t3:=Same.new htt (.tup [.ref pd,.ref lr])
 have R3:=R2.trans t3
 have X3:=sx14.trans R3
 refine ⟨th,tt,_,_,_,_,true,true,rfl,rfl,SqT.of (X3 _ _ hth'),SqT.of upd_same,cmp_parts (hpm14.tk (TK.of X3)) hnd npd (X3 _ _ hd2) (X3 _ _ hd14),cmp_reels (rl2.same X3) (rl14.same X3),_,rfl,iteN rfl ?_⟩
 generalize upd H2' tt (.tup [.ref pd,.ref lr]) = H3' at t3 R3 X3
 obtain ⟨c,u,ht1,hc⟩:=oc.head
 have ht3:=(s2'.trans t3) _ _ ht1
 refine ⟨fun σ H'=>σ = [some (.ref a),some (.ref ln),some (.int mo),some (.ref lr),some (.ref pd),o5,some (.ref p),o7,some (.ref th),o9,o10,o11,o12,o13,some (.ref td),some (.ref t1)]/\Same Hx H',?_,?_⟩
 ·refine ⟨_,rfl,t1,_,_,_,rfl,rfl,SqT.of ht3,atI_nat (j:=0) rfl,_,rfl,rfl,_,rfl,ite2 (fun c1=>?_) fun _=>⟨rfl,R3⟩⟩
  have ec : c = -1:=V.int.inj (of_decide_eq_true c1)
  rcases hc with ⟨cs,l,eo,_,rfl,cl⟩ | z
  ·have hlx : Hx l = none:=fr cs l eo (by rw [ht1,ec])
   obtain ⟨us,hus,tus⟩:=cl
   have lus : us.length = cs.length:=by rw [tus.len,List.length_map]
   have lcs : cs.length <= 100:=by subst eo; exact fine.2
   have hus3:=(s2'.trans t3) _ _ hus
   refine ⟨_,rfl,t1,_,_,_,rfl,rfl,SqT.of ht3,atI_nat (j:=1) rfl,.inl ⟨rfl,_,SqL.of hus3⟩,(by show 4 <= sizeLine; decide),fun p9 hp9=>?_⟩
   have t9:=Same.new hp9 (.tup [.str "a",.int 0,.int 0,.int 0])
   refine ⟨l,_,_,rfl,rfl,t9 _ _ hus3,by omega,rfl,fun b ob hb=>?_⟩
   rw [upd_ne (ne_of_none hb hlx)]
   exact t9 _ _ (R3 _ _ hb)
  ·exact absurd ec z
 rintro σ H4' ⟨rfl,R4⟩
 have X4:=sx14.trans R4
 refine ⟨_,rfl,_,rfl,_,rfl,p,pd,lr,ys,_,_,_,ss,prs,o,rfl,tdx.tk (TK.of R4),ptx R4 hd14,rl14.same X4,uq,dpx,res,fun t2 H5' s5' oc2 _=>?_⟩
 exact ⟨_,rfl,t2,td,o,rfl,oc2,(du.same R4).same s5',fine,fun H6' _=>q H6'⟩
end
end K12
set_option maxHeartbeats 4000000
namespace K12
open PySem L2 G
structure CsIn (K : PySem.W.Frag) (c : Cs) (n : Addr) (b : Nat->Bool) : Prop where
 ms : PySem.W.nsIn K mainGlobals "SpliceError" = some (some (.ref c.s))
 m0 : PySem.W.nsIn K mainGlobals "NoKey" = some (some (.ref c.c0))
 m1 : PySem.W.nsIn K mainGlobals "NoReel" = some (some (.ref c.c1))
 m2 : PySem.W.nsIn K mainGlobals "NoFrame" = some (some (.ref c.c2))
 m3 : PySem.W.nsIn K mainGlobals "NoName" = some (some (.ref c.c3))
 m4 : PySem.W.nsIn K mainGlobals "NoList" = some (some (.ref c.c4))
 m5 : PySem.W.nsIn K mainGlobals "NoFade" = some (some (.ref c.c5))
 m6 : PySem.W.nsIn K mainGlobals "TooMany" = some (some (.ref c.c6))
 m7 : PySem.W.nsIn K mainGlobals "TooShort" = some (some (.ref c.c7))
 m8 : PySem.W.nsIn K mainGlobals "NoPlace" = some (some (.ref c.c8))
 m9 : PySem.W.nsIn K mainGlobals "NoRow" = some (some (.ref c.c9))
 ks : PySem.W.kitOne K (.ref n) (.ref c.s) = some true
 kv : PySem.W.kitOne K (.ref n) (.type "ValueError") = some true
 k0 : PySem.W.kitOne K (.ref n) (.ref c.c0) = some (b 0)
 k1 : PySem.W.kitOne K (.ref n) (.ref c.c1) = some (b 1)
 k2 : PySem.W.kitOne K (.ref n) (.ref c.c2) = some (b 2)
 k3 : PySem.W.kitOne K (.ref n) (.ref c.c3) = some (b 3)
 k4 : PySem.W.kitOne K (.ref n) (.ref c.c4) = some (b 4)
 k5 : PySem.W.kitOne K (.ref n) (.ref c.c5) = some (b 5)
 k6 : PySem.W.kitOne K (.ref n) (.ref c.c6) = some (b 6)
 k7 : PySem.W.kitOne K (.ref n) (.ref c.c7) = some (b 7)
 k8 : PySem.W.kitOne K (.ref n) (.ref c.c8) = some (b 8)
 k9 : PySem.W.kitOne K (.ref n) (.ref c.c9) = some (b 9)
theorem CsIn.ok {K : PySem.W.Frag} {c : Cs} {n : Addr} {b : Nat->Bool} {h : Heap} {mg : Str->Option Value} (X : K.In h) (G : h.Ns mainGlobals mg) (C : CsIn K c n b) (ex : ExcK K n) : CsOk K mg c n b :=
 ⟨PySem.W.mg_of X G C.ms,PySem.W.mg_of X G C.m0,PySem.W.mg_of X G C.m1,PySem.W.mg_of X G C.m2,PySem.W.mg_of X G C.m3,PySem.W.mg_of X G C.m4,PySem.W.mg_of X G C.m5,PySem.W.mg_of X G C.m6,PySem.W.mg_of X G C.m7,PySem.W.mg_of X G C.m8,PySem.W.mg_of X G C.m9,C.ks,C.kv,C.k0,C.k1,C.k2,C.k3,C.k4,C.k5,C.k6,C.k7,C.k8,C.k9,ex⟩
structure CAll (K : PySem.W.Frag) (c : Cs) : Prop where
 C2 : CsIn K c c.c2 (isK 2)
 C3 : CsIn K c c.c3 (isK 3)
 C5 : CsIn K c c.c5 (isK 5)
 C6 : CsIn K c c.c6 (isK 6)
 C7 : CsIn K c c.c7 (isK 7)
 eS : ∃ bmS idS,ExcC K c.s bmS idS/\bmS.contains (.type "BaseException") = true
 e2 : ∃ bm id,ExcC K c.c2 bm id/\(Value.ref c.c2 :: bm).contains (.ref c.s) = true
 e3 : ∃ bm id,ExcC K c.c3 bm id/\(Value.ref c.c3 :: bm).contains (.ref c.s) = true
 e5 : ∃ bm id,ExcC K c.c5 bm id/\(Value.ref c.c5 :: bm).contains (.ref c.s) = true
 e6 : ∃ bm id,ExcC K c.c6 bm id/\(Value.ref c.c6 :: bm).contains (.ref c.s) = true
 e7 : ∃ bm id,ExcC K c.c7 bm id/\(Value.ref c.c7 :: bm).contains (.ref c.s) = true
 i2 : InitIn K c.c2 "NoFrame.__init__" s_NoFrame_init
 i3 : InitIn K c.c3 "NoName.__init__" s_NoName_init
 i7 : InitIn K c.c7 "TooShort.__init__" s_TooShort_init
 x2_reel : XNo K c.c2 "reel"
 x2_frame : XNo K c.c2 "frame"
 x3_name : XNo K c.c3 "name"
 x7_number : XNo K c.c7 "number"
 kx5 : ExcK K c.c5
 kq5 : PySem.W.excIn K c.c5 bmVE "ValueError.__new__" = true
 kx6 : ExcK K c.c6
 kq6 : PySem.W.excIn K c.c6 bmVE "ValueError.__new__" = true
theorem cs_mk {K : PySem.W.Frag} {s c0 c1 c2 c3 c4 c5 c6 c7 c8 c9 : Addr} (ms : PySem.W.nsIn K mainGlobals "SpliceError" = some (some (.ref s))) (m0 : PySem.W.nsIn K mainGlobals "NoKey" = some (some (.ref c0))) (m1 : PySem.W.nsIn K mainGlobals "NoReel" = some (some (.ref c1))) (m2 : PySem.W.nsIn K mainGlobals "NoFrame" = some (some (.ref c2))) (m3 : PySem.W.nsIn K mainGlobals "NoName" = some (some (.ref c3))) (m4 : PySem.W.nsIn K mainGlobals "NoList" = some (some (.ref c4))) (m5 : PySem.W.nsIn K mainGlobals "NoFade" = some (some (.ref c5))) (m6 : PySem.W.nsIn K mainGlobals "TooMany" = some (some (.ref c6))) (m7 : PySem.W.nsIn K mainGlobals "TooShort" = some (some (.ref c7))) (m8 : PySem.W.nsIn K mainGlobals "NoPlace" = some (some (.ref c8))) (m9 : PySem.W.nsIn K mainGlobals "NoRow" = some (some (.ref c9)))
  (k2s : PySem.W.kitOne K (.ref c2) (.ref s) = some true) (k2v : PySem.W.kitOne K (.ref c2) (.type "ValueError") = some true) (k20 : PySem.W.kitOne K (.ref c2) (.ref c0) = some false) (k21 : PySem.W.kitOne K (.ref c2) (.ref c1) = some false) (k22 : PySem.W.kitOne K (.ref c2) (.ref c2) = some true) (k23 : PySem.W.kitOne K (.ref c2) (.ref c3) = some false) (k24 : PySem.W.kitOne K (.ref c2) (.ref c4) = some false) (k25 : PySem.W.kitOne K (.ref c2) (.ref c5) = some false) (k26 : PySem.W.kitOne K (.ref c2) (.ref c6) = some false) (k27 : PySem.W.kitOne K (.ref c2) (.ref c7) = some false) (k28 : PySem.W.kitOne K (.ref c2) (.ref c8) = some false) (k29 : PySem.W.kitOne K (.ref c2) (.ref c9) = some false)
  (k3s : PySem.W.kitOne K (.ref c3) (.ref s) = some true) (k3v : PySem.W.kitOne K (.ref c3) (.type "ValueError") = some true) (k30 : PySem.W.kitOne K (.ref c3) (.ref c0) = some false) (k31 : PySem.W.kitOne K (.ref c3) (.ref c1) = some false) (k32 : PySem.W.kitOne K (.ref c3) (.ref c2) = some false) (k33 : PySem.W.kitOne K (.ref c3) (.ref c3) = some true) (k34 : PySem.W.kitOne K (.ref c3) (.ref c4) = some false) (k35 : PySem.W.kitOne K (.ref c3) (.ref c5) = some false) (k36 : PySem.W.kitOne K (.ref c3) (.ref c6) = some false) (k37 : PySem.W.kitOne K (.ref c3) (.ref c7) = some false) (k38 : PySem.W.kitOne K (.ref c3) (.ref c8) = some false) (k39 : PySem.W.kitOne K (.ref c3) (.ref c9) = some false)
  (k5s : PySem.W.kitOne K (.ref c5) (.ref s) = some true) (k5v : PySem.W.kitOne K (.ref c5) (.type "ValueError") = some true) (k50 : PySem.W.kitOne K (.ref c5) (.ref c0) = some false) (k51 : PySem.W.kitOne K (.ref c5) (.ref c1) = some false) (k52 : PySem.W.kitOne K (.ref c5) (.ref c2) = some false) (k53 : PySem.W.kitOne K (.ref c5) (.ref c3) = some false) (k54 : PySem.W.kitOne K (.ref c5) (.ref c4) = some false) (k55 : PySem.W.kitOne K (.ref c5) (.ref c5) = some true) (k56 : PySem.W.kitOne K (.ref c5) (.ref c6) = some false) (k57 : PySem.W.kitOne K (.ref c5) (.ref c7) = some false) (k58 : PySem.W.kitOne K (.ref c5) (.ref c8) = some false) (k59 : PySem.W.kitOne K (.ref c5) (.ref c9) = some false)
  (k6s : PySem.W.kitOne K (.ref c6) (.ref s) = some true) (k6v : PySem.W.kitOne K (.ref c6) (.type "ValueError") = some true) (k60 : PySem.W.kitOne K (.ref c6) (.ref c0) = some false) (k61 : PySem.W.kitOne K (.ref c6) (.ref c1) = some false) (k62 : PySem.W.kitOne K (.ref c6) (.ref c2) = some false) (k63 : PySem.W.kitOne K (.ref c6) (.ref c3) = some false) (k64 : PySem.W.kitOne K (.ref c6) (.ref c4) = some false) (k65 : PySem.W.kitOne K (.ref c6) (.ref c5) = some false) (k66 : PySem.W.kitOne K (.ref c6) (.ref c6) = some true) (k67 : PySem.W.kitOne K (.ref c6) (.ref c7) = some false) (k68 : PySem.W.kitOne K (.ref c6) (.ref c8) = some false) (k69 : PySem.W.kitOne K (.ref c6) (.ref c9) = some false)
  (k7s : PySem.W.kitOne K (.ref c7) (.ref s) = some true) (k7v : PySem.W.kitOne K (.ref c7) (.type "ValueError") = some true) (k70 : PySem.W.kitOne K (.ref c7) (.ref c0) = some false) (k71 : PySem.W.kitOne K (.ref c7) (.ref c1) = some false) (k72 : PySem.W.kitOne K (.ref c7) (.ref c2) = some false) (k73 : PySem.W.kitOne K (.ref c7) (.ref c3) = some false) (k74 : PySem.W.kitOne K (.ref c7) (.ref c4) = some false) (k75 : PySem.W.kitOne K (.ref c7) (.ref c5) = some false) (k76 : PySem.W.kitOne K (.ref c7) (.ref c6) = some false) (k77 : PySem.W.kitOne K (.ref c7) (.ref c7) = some true) (k78 : PySem.W.kitOne K (.ref c7) (.ref c8) = some false) (k79 : PySem.W.kitOne K (.ref c7) (.ref c9) = some false)
  {bmS bsS subS : List Value} {idS : String} {NS : Addr} {nmS qnS : Str} {hdS abS : Bool} {snS : List Str} {colS : Option Bool} {ddS : Option Addr} {aS0 aS1 aS2 aS3 aS5 : Option Value}
  {bmQ2 bsQ2 subQ2 : List Value} {idQ2 : String} {NQ2 : Addr} {nmQ2 qnQ2 : Str} {hdQ2 abQ2 : Bool} {snQ2 : List Str} {colQ2 : Option Bool} {ddQ2 : Option Addr} {aQ20 aQ21 aQ22 aQ23 aQ25 : Option Value}
  {bmQ3 bsQ3 subQ3 : List Value} {idQ3 : String} {NQ3 : Addr} {nmQ3 qnQ3 : Str} {hdQ3 abQ3 : Bool} {snQ3 : List Str} {colQ3 : Option Bool} {ddQ3 : Option Addr} {aQ30 aQ31 aQ32 aQ33 aQ35 : Option Value}
  {bmQ5 bsQ5 subQ5 : List Value} {idQ5 : String} {NQ5 : Addr} {nmQ5 qnQ5 : Str} {hdQ5 abQ5 : Bool} {snQ5 : List Str} {colQ5 : Option Bool} {ddQ5 : Option Addr} {aQ50 aQ51 aQ52 aQ53 aQ55 : Option Value}
  {bmQ6 bsQ6 subQ6 : List Value} {idQ6 : String} {NQ6 : Addr} {nmQ6 qnQ6 : Str} {hdQ6 abQ6 : Bool} {snQ6 : List Str} {colQ6 : Option Bool} {ddQ6 : Option Addr} {aQ60 aQ61 aQ62 aQ63 aQ65 : Option Value}
  {bmQ7 bsQ7 subQ7 : List Value} {idQ7 : String} {NQ7 : Addr} {nmQ7 qnQ7 : Str} {hdQ7 abQ7 : Bool} {snQ7 : List Str} {colQ7 : Option Bool} {ddQ7 : Option Addr} {aQ70 aQ71 aQ72 aQ73 aQ75 : Option Value}
  (lS : K.lookup s = some (excClassObj nmS qnS s NS bsS bmS hdS snS subS abS colS ddS aS0 aS1 aS2 aS3 aS5 idS))
  (lQ2 : K.lookup c2 = some (excClassObj nmQ2 qnQ2 c2 NQ2 bsQ2 bmQ2 hdQ2 snQ2 subQ2 abQ2 colQ2 ddQ2 aQ20 aQ21 aQ22 aQ23 aQ25 idQ2))
  (lQ3 : K.lookup c3 = some (excClassObj nmQ3 qnQ3 c3 NQ3 bsQ3 bmQ3 hdQ3 snQ3 subQ3 abQ3 colQ3 ddQ3 aQ30 aQ31 aQ32 aQ33 aQ35 idQ3))
  (lQ5 : K.lookup c5 = some (excClassObj nmQ5 qnQ5 c5 NQ5 bsQ5 bmQ5 hdQ5 snQ5 subQ5 abQ5 colQ5 ddQ5 aQ50 aQ51 aQ52 aQ53 aQ55 idQ5))
  (lQ6 : K.lookup c6 = some (excClassObj nmQ6 qnQ6 c6 NQ6 bsQ6 bmQ6 hdQ6 snQ6 subQ6 abQ6 colQ6 ddQ6 aQ60 aQ61 aQ62 aQ63 aQ65 idQ6))
  (lQ7 : K.lookup c7 = some (excClassObj nmQ7 qnQ7 c7 NQ7 bsQ7 bmQ7 hdQ7 snQ7 subQ7 abQ7 colQ7 ddQ7 aQ70 aQ71 aQ72 aQ73 aQ75 idQ7))
  (hbS : bmS.contains (.type "BaseException") = true) (hup2 : (Value.ref c2 :: bmQ2).contains (.ref s) = true) (hup3 : (Value.ref c3 :: bmQ3).contains (.ref s) = true) (hup5 : (Value.ref c5 :: bmQ5).contains (.ref s) = true) (hup6 : (Value.ref c6 :: bmQ6).contains (.ref s) = true) (hup7 : (Value.ref c7 :: bmQ7).contains (.ref s) = true) (I2 : InitIn K c2 "NoFrame.__init__" s_NoFrame_init) (I3 : InitIn K c3 "NoName.__init__" s_NoName_init) (I7 : InitIn K c7 "TooShort.__init__" s_TooShort_init) (x2_reel : PySem.W.findIn K (.ref c2) "reel" = some none) (x2_frame : PySem.W.findIn K (.ref c2) "frame" = some none) (x3_name : PySem.W.findIn K (.ref c3) "name" = some none) (x7_number : PySem.W.findIn K (.ref c7) "number" = some none) (kx5 : ExcK K c5) (kq5 : PySem.W.excIn K c5 bmVE "ValueError.__new__" = true) (kx6 : ExcK K c6) (kq6 : PySem.W.excIn K c6 bmVE "ValueError.__new__" = true) : ∃ c : Cs,CAll K c :=
 ⟨⟨s,c0,c1,c2,c3,c4,c5,c6,c7,c8,c9⟩,⟨ms,m0,m1,m2,m3,m4,m5,m6,m7,m8,m9,k2s,k2v,k20,k21,k22,k23,k24,k25,k26,k27,k28,k29⟩,⟨ms,m0,m1,m2,m3,m4,m5,m6,m7,m8,m9,k3s,k3v,k30,k31,k32,k33,k34,k35,k36,k37,k38,k39⟩,⟨ms,m0,m1,m2,m3,m4,m5,m6,m7,m8,m9,k5s,k5v,k50,k51,k52,k53,k54,k55,k56,k57,k58,k59⟩,⟨ms,m0,m1,m2,m3,m4,m5,m6,m7,m8,m9,k6s,k6v,k60,k61,k62,k63,k64,k65,k66,k67,k68,k69⟩,⟨ms,m0,m1,m2,m3,m4,m5,m6,m7,m8,m9,k7s,k7v,k70,k71,k72,k73,k74,k75,k76,k77,k78,k79⟩,⟨bmS,idS,.mk lS,hbS⟩,⟨bmQ2,idQ2,.mk lQ2,hup2⟩,⟨bmQ3,idQ3,.mk lQ3,hup3⟩,⟨bmQ5,idQ5,.mk lQ5,hup5⟩,⟨bmQ6,idQ6,.mk lQ6,hup6⟩,⟨bmQ7,idQ7,.mk lQ7,hup7⟩,I2,I3,I7,x2_reel,x2_frame,x3_name,x7_number,kx5,kq5,kx6,kq6⟩
structure DsIn (K : PySem.W.Frag) : Prop where
 whole : FunIn K "is_whole" s_is_whole
 named : FunIn K "reel_named" s_reel_named
 hasF : FunIn K "has_frame" s_has_frame
 sound : FunIn K "sound" s_sound
 look : FunIn K "look_through" s_look_through
 lclip : FunIn K "look_at_clip" s_look_at_clip
 lfade : FunIn K "look_at_fade" s_look_at_fade
 isF : FunIn K "is_fade" s_is_fade
 lpart : FunIn K "look_at_part" s_look_at_part
 played : FunIn K "played" s_played
 clipsOf : FunIn K "clips_of" s_clips_of
 clipsI : FunIn K "clips_of_item" s_clips_of_item
 fadedIn : FunIn K "faded_in" s_faded_in
 backw : FunIn K "backwards" s_backwards
 frIn : FunIn K "frames_in" s_frames_in
 rfilm : FunIn K "refuse_film" s_refuse_film
 rmany : FunIn K "refuse_many" s_refuse_many
 rshort : FunIn K "refuse_short" s_refuse_short
 cell : FunIn K "_law_cell" s__law_cell
 num : FunIn K "_law_numbers" s__law_numbers
 lwhole : FunIn K "_law_whole" s__law_whole
 only : FunIn K "_law_only" s__law_only
 names : FunIn K "_law_names" s__law_names
 reels : FunIn K "_law_reels" s__law_reels
 items : FunIn K "_law_items" s__law_items
 count : FunIn K "_law_count" s__law_count
 flat : FunIn K "_law_flat" s__law_flat
 due : FunIn K "_law_due" s__law_due
 told : FunIn K "_law_told" s__law_told
 right : FunIn K "_law_right" s__law_right
 sized : FunIn K "_law_sized" s__law_sized
 chain : FunIn K "_law_chain" s__law_chain
 law : FunIn K "law" s_law
structure NsIn (K : PySem.W.Frag) (t : Nat->Tok) : Prop where
 na : PySem.W.nsIn K mainGlobals "NAME" = some (some (.int 0 (t 0)))
 ma : PySem.W.nsIn K mainGlobals "MANY" = some (some (.int 3 (t 1)))
 mc : PySem.W.nsIn K mainGlobals "MOST_CLIPS" = some (some (.int 100 (t 2)))
 mf : PySem.W.nsIn K mainGlobals "MOST_FRAMES" = some (some (.int 2000 (t 3)))
 zisi : PySem.W.nsIn K mainGlobals "isinstance" = some none
 zlen : PySem.W.nsIn K mainGlobals "len" = some none
 zint : PySem.W.nsIn K mainGlobals "int" = some none
 zbool : PySem.W.nsIn K mainGlobals "bool" = some none
 ztup : PySem.W.nsIn K mainGlobals "tuple" = some none
 zrng : PySem.W.nsIn K mainGlobals "range" = some none
 zabs : PySem.W.nsIn K mainGlobals "abs" = some none
 zmin : PySem.W.nsIn K mainGlobals "min" = some none
 zmax : PySem.W.nsIn K mainGlobals "max" = some none
 zlst : PySem.W.nsIn K mainGlobals "list" = some none
 zdic : PySem.W.nsIn K mainGlobals "dict" = some none
 zenu : PySem.W.nsIn K mainGlobals "enumerate" = some none
 zrev : PySem.W.nsIn K mainGlobals "reversed" = some none
 zsum : PySem.W.nsIn K mainGlobals "sum" = some none
 zall : PySem.W.nsIn K mainGlobals "all" = some none
 zval : PySem.W.nsIn K mainGlobals "ValueError" = some none
theorem ns_mk {K : PySem.W.Frag} {t0 : Tok} {i0 : Int} {t1 : Tok} {i1 : Int} {t2 : Tok} {i2 : Int} {t3 : Tok} {i3 : Int} (a0 : PySem.W.nsIn K mainGlobals "NAME" = some (some (.int i0 t0))) (a1 : PySem.W.nsIn K mainGlobals "MANY" = some (some (.int i1 t1))) (a2 : PySem.W.nsIn K mainGlobals "MOST_CLIPS" = some (some (.int i2 t2))) (a3 : PySem.W.nsIn K mainGlobals "MOST_FRAMES" = some (some (.int i3 t3))) (e0 : i0 = 0) (e1 : i1 = 3) (e2 : i2 = 100) (e3 : i3 = 2000)
  (b0 : PySem.W.nsIn K mainGlobals "isinstance" = some none) (b1 : PySem.W.nsIn K mainGlobals "len" = some none) (b2 : PySem.W.nsIn K mainGlobals "int" = some none) (b3 : PySem.W.nsIn K mainGlobals "bool" = some none) (b4 : PySem.W.nsIn K mainGlobals "tuple" = some none) (b5 : PySem.W.nsIn K mainGlobals "range" = some none) (b6 : PySem.W.nsIn K mainGlobals "abs" = some none) (b7 : PySem.W.nsIn K mainGlobals "min" = some none) (b8 : PySem.W.nsIn K mainGlobals "max" = some none) (b9 : PySem.W.nsIn K mainGlobals "list" = some none) (b10 : PySem.W.nsIn K mainGlobals "dict" = some none) (b11 : PySem.W.nsIn K mainGlobals "enumerate" = some none) (b12 : PySem.W.nsIn K mainGlobals "reversed" = some none) (b13 : PySem.W.nsIn K mainGlobals "sum" = some none) (b14 : PySem.W.nsIn K mainGlobals "all" = some none) (b15 : PySem.W.nsIn K mainGlobals "ValueError" = some none) : ∃ t,NsIn K t:=by
 subst e0 e1 e2 e3
 exact ⟨fun i=>[t0,t1,t2,t3].getD i 0,a0,a1,a2,a3,b0,b1,b2,b3,b4,b5,b6,b7,b8,b9,b10,b11,b12,b13,b14,b15⟩
theorem all_mk {l : PySem.W.OpenLaw} {w : World} {K : PySem.W.Frag} {h : Heap} {mg : Str->Option Value} {fa : Addr} (X : K.In h) (G : h.Ns mainGlobals mg) (hfa : mg "law" = some (.ref fa)) {t : Nat->Tok} (D : DsIn K) (Z : NsIn K t) (CC : ∃ c : Cs,CAll K c) :
  ∃ fd : FuncData,(∀ (s : Shared) (v : Value),BindsTo s fd ⟨[v],[]⟩ [("_law_script",v)])/\∀ base : Heap,K.In base->base.Ns mainGlobals mg->FnOk l.prog w K mg base CX0 52 fa fd ["_law_script"] (spLaw K):=by
 obtain ⟨c,C2,C3,C5,C6,C7,⟨bmS,idS,cS,hbS⟩,⟨bm2,id2,c2,up2⟩,⟨bm3,id3,c3,up3⟩,⟨bm5,id5,c5,up5⟩,⟨bm6,id6,c6,up6⟩,⟨bm7,id7,c7,up7⟩,I2,I3,I7,x2_reel,x2_frame,x3_name,x7_number,kx5,kq5,kx6,kq6⟩:=CC
 have O2:=C2.ok X G I2.ek
 have O3:=C3.ok X G I3.ek
 have O5:=C5.ok X G kx5
 have O6:=C6.ok X G kx6
 have O7:=C7.ok X G I7.ek
 have mna:=PySem.W.mg_of X G Z.na
 have mma:=PySem.W.mg_of X G Z.ma
 have mmc:=PySem.W.mg_of X G Z.mc
 have mmf:=PySem.W.mg_of X G Z.mf
 have nisi:=PySem.W.mg_none_of X G Z.zisi
 have nlen:=PySem.W.mg_none_of X G Z.zlen
 have nint:=PySem.W.mg_none_of X G Z.zint
 have nbool:=PySem.W.mg_none_of X G Z.zbool
 have ntup:=PySem.W.mg_none_of X G Z.ztup
 have nrng:=PySem.W.mg_none_of X G Z.zrng
 have nabs:=PySem.W.mg_none_of X G Z.zabs
 have nmin:=PySem.W.mg_none_of X G Z.zmin
 have nmax:=PySem.W.mg_none_of X G Z.zmax
 have nlst:=PySem.W.mg_none_of X G Z.zlst
 have ndic:=PySem.W.mg_none_of X G Z.zdic
 have nenu:=PySem.W.mg_none_of X G Z.zenu
 have nrev:=PySem.W.mg_none_of X G Z.zrev
 have nsum:=PySem.W.mg_none_of X G Z.zsum
 have nall:=PySem.W.mg_none_of X G Z.zall
 have nval:=PySem.W.mg_none_of X G Z.zval
 obtain ⟨fl,fdl,al,FL⟩:=D.law
 have e:=hfa.symm.trans (PySem.W.mg_of X G al)
 cases e
 refine ⟨fdl,fun s v=>?_,fun base _ _=>?_⟩
 ·obtain ⟨oc,od,kV,doc,pm,an,cdv,ct,osl,rfl,lk,hcd⟩:=FL.ex
  exact .of_eq rfl
 obtain ⟨f2,fd2,R2,F2⟩:=I2.ex
 have b2:=F2.binds (ps:=["self", "reel", "frame"]) fun _ _ _ _ _ _ us hl=>match us,hl with | [_,_,_],_=>rfl
 obtain ⟨f3,fd3,R3,F3⟩:=I3.ex
 have b3:=F3.binds (ps:=["self", "name"]) fun _ _ _ _ _ _ us hl=>match us,hl with | [_,_],_=>rfl
 obtain ⟨f7,fd7,R7,F7⟩:=I7.ex
 have b7:=F7.binds (ps:=["self", "number"]) fun _ _ _ _ _ _ us hl=>match us,hl with | [_,_],_=>rfl
 have dCell : Def l.prog w K mg base CX0 "_law_cell" 1 ["_law_script", "_law_k"] (spCell K):=Def.of X G D.cell (fun f fd F=>ok_cell F) fun _ _ _ _ _ _ us hl=>match us,hl with | [_,_],_=>rfl
 have dNum : Def l.prog w K mg base CX0 "_law_numbers" 1 ["_law_cell_here", "_law_many"] spNum:=Def.of X G D.num (fun f fd F=>ok_num F nabs nrng nint) fun _ _ _ _ _ _ us hl=>match us,hl with | [_,_],_=>rfl
 have dNames : Def l.prog w K mg base CX0 "_law_names" 2 ["_law_cell_here", "_law_many"] spNames:=Def.of X G D.names (fun f fd F=>ok_names F dNum nrng) fun _ _ _ _ _ _ us hl=>match us,hl with | [_,_],_=>rfl
 have dReels : Def l.prog w K mg base CX0 "_law_reels" 2 ["_law_cell_here", "_law_names_here", "_law_most"] spReels:=Def.of X G D.reels (fun f fd F=>ok_reels F dNum nrng nlen) fun _ _ _ _ _ _ us hl=>match us,hl with | [_,_,_],_=>rfl
 have rItems : ∀ d : Nat,d <= 5->Def l.prog w K mg base CX0 "_law_items" (d + 2) ["_law_cell_here", "_law_deep", "_law_reels_here", "_law_parts"] (spItems d):=by
  intro d
  induction d with
  | zero=>exact fun h=>Def.of X G D.items (fun f fd F=>ok_items (d:=0) h F dNum (Def.never X G D.items (fun _ _ _ _ _ _ us hl=>match us,hl with | [_,_,_,_],_=>rfl)) nrng nlen nmin nmax ntup) (fun _ _ _ _ _ _ us hl=>match us,hl with | [_,_,_,_],_=>rfl)
  | succ d ih=>exact fun h=>Def.of X G D.items (fun f fd F=>ok_items (d:=(d + 1)) h F dNum (ih (by omega)) nrng nlen nmin nmax ntup) (fun _ _ _ _ _ _ us hl=>match us,hl with | [_,_,_,_],_=>rfl)
 have dItems:=rItems 2 (by decide)
 have dWh : Def l.prog w K mg base CX0 "is_whole" 1 ["value"] spWhole:=Def.of X G D.whole (fun f fd F=>ok_whole F nisi nint nbool) fun _ _ _ _ _ _ us hl=>match us,hl with | [_],_=>rfl
 have dLWh : Def l.prog w K mg base CX0 "_law_whole" 1 ["_law_found"] spWhole:=Def.of X G D.lwhole (fun f fd F=>ok_lwhole F nisi nint nbool) fun _ _ _ _ _ _ us hl=>match us,hl with | [_],_=>rfl
 have dHasF : Def l.prog w K mg base CX0 "has_frame" 2 ["reel", "frame"] spHasF:=Def.of X G D.hasF (fun f fd F=>ok_hasF F dWh mma) fun _ _ _ _ _ _ us hl=>match us,hl with | [_,_],_=>rfl
 have dNamed : Def l.prog w K mg base (CX1 l.prog w) "reel_named" 3 ["reels", "name"] (spNamed c.c3):=Def.of X G D.named (fun f fd F=>ok_named F mna O3.m3 R3 (ok_init F3 I3.xc x3_name) b3) fun _ _ _ _ _ _ us hl=>match us,hl with | [_,_],_=>rfl
 have dLClip : Def l.prog w K mg base (CX1 l.prog w) "look_at_clip" 4 ["clip", "reels"] (spLClip c.c2):=Def.of X G D.lclip (fun f fd F=>ok_lclip F dNamed dHasF O3.m2 R2 (ok_init2 F2 I2.xc x2_reel x2_frame) b2) fun _ _ _ _ _ _ us hl=>match us,hl with | [_,_],_=>rfl
 have dIsF : Def l.prog w K mg base CX0 "is_fade" 1 ["item"] spIsF:=Def.of X G D.isF (fun f fd F=>ok_isF F) fun _ _ _ _ _ _ us hl=>match us,hl with | [_],_=>rfl
 have dLFade : Def l.prog w K mg base (CX1 l.prog w) "look_at_fade" 3 ["items", "place"] (spLFade c.c5):=Def.of X G D.lfade (fun f fd F=>ok_lfade F dIsF nlen O3.m5 kq5) fun _ _ _ _ _ _ us hl=>match us,hl with | [_,_],_=>rfl
 have rLook : ∀ d : Nat,Def l.prog w K mg base (CX1 l.prog w) "look_through" (2 * d + 7) ["items", "parts", "reels", "within"] (spLook c.c3 c.c2 c.c5 d):=by
  intro d
  induction d with
  | zero=>exact Def.of X G D.look (fun f fd F=>ok_look (d:=0) F (Def.never X G D.look (fun _ _ _ _ _ _ us hl=>match us,hl with | [_,_,_,_],_=>rfl)) (Def.of X G D.lpart (fun f fd F=>ok_lpart (d:=0) F (Def.never X G D.look (fun _ _ _ _ _ _ us hl=>match us,hl with | [_,_,_,_],_=>rfl)) O3.m3 R3 (ok_init F3 I3.xc x3_name) b3) (fun _ _ _ _ _ _ us hl=>match us,hl with | [_,_,_,_],_=>rfl)) dLClip dLFade nenu) (fun _ _ _ _ _ _ us hl=>match us,hl with | [_,_,_,_],_=>rfl)
  | succ d ih=>exact Def.of X G D.look (fun f fd F=>ok_look (d:=(d + 1)) F ih (Def.of X G D.lpart (fun f fd F=>ok_lpart (d:=(d + 1)) F ih O3.m3 R3 (ok_init F3 I3.xc x3_name) b3) (fun _ _ _ _ _ _ us hl=>match us,hl with | [_,_,_,_],_=>rfl)) dLClip dLFade nenu) (fun _ _ _ _ _ _ us hl=>match us,hl with | [_,_,_,_],_=>rfl)
 have dSound : Def l.prog w K mg base (CX1 l.prog w) "sound" 48 ["items", "parts", "reels"] (spSound c.c3 c.c2 c.c5 20):=Def.of X G D.sound (fun f fd F=>ok_sound (d:=20) F (rLook 20)) fun _ _ _ _ _ _ us hl=>match us,hl with | [_,_,_],_=>rfl
 have dFrIn : Def l.prog w K mg base CX0 "frames_in" 1 ["clip"] spFrIn:=Def.of X G D.frIn (fun f fd F=>ok_frIn F nabs) fun _ _ _ _ _ _ us hl=>match us,hl with | [_],_=>rfl
 have dBackw : Def l.prog w K mg base CX0 "backwards" 1 ["clips"] spBackw:=Def.of X G D.backw (fun f fd F=>ok_backw F nrev) fun _ _ _ _ _ _ us hl=>match us,hl with | [_],_=>rfl
 have dFadedIn : Def l.prog w K mg base CX0 "faded_in" 1 ["clips", "many"] spFadedIn:=Def.of X G D.fadedIn (fun f fd F=>ok_fadedIn F) fun _ _ _ _ _ _ us hl=>match us,hl with | [_,_],_=>rfl
 have dRMany : Def l.prog w K mg base (CX1 l.prog w) "refuse_many" 1 ["number", "most"] (spRMany c.c6):=Def.of X G D.rmany (fun f fd F=>ok_rmany F O3.m6 kq6) fun _ _ _ _ _ _ us hl=>match us,hl with | [_,_],_=>rfl
 have dRShort : Def l.prog w K mg base (CX1 l.prog w) "refuse_short" 3 ["clips"] (spRShort c.c7):=Def.of X G D.rshort (fun f fd F=>ok_rshort F dFrIn nenu O3.m7 R7 (ok_initS F7 I7.xc x7_number) b7) fun _ _ _ _ _ _ us hl=>match us,hl with | [_],_=>rfl
 have dRFilm : Def l.prog w K mg base (CX1 l.prog w) "refuse_film" 4 ["clips"] (spRFilm c.c6 c.c7):=Def.of X G D.rfilm (fun f fd F=>ok_rfilm F dRMany dRShort dFrIn nlen nsum mmc mmf) fun _ _ _ _ _ _ us hl=>match us,hl with | [_],_=>rfl
 have rClips : ∀ d : Nat,Def l.prog w K mg base (CX1 l.prog w) "clips_of" (2 * d + 3) ["items", "parts"] (spClipsOf c.c6 d):=by
  intro d
  induction d with
  | zero=>exact Def.of X G D.clipsOf (fun f fd F=>ok_clipsOf (d:=0) F (Def.of X G D.clipsI (fun f fd F=>ok_clipsI (d:=0) F (Def.never X G D.clipsOf (fun _ _ _ _ _ _ us hl=>match us,hl with | [_,_],_=>rfl)) dRMany dBackw nlen mmc) (fun _ _ _ _ _ _ us hl=>match us,hl with | [_,_],_=>rfl)) dRMany dFadedIn nlen mmc) (fun _ _ _ _ _ _ us hl=>match us,hl with | [_,_],_=>rfl)
  | succ d ih=>exact Def.of X G D.clipsOf (fun f fd F=>ok_clipsOf (d:=(d + 1)) F (Def.of X G D.clipsI (fun f fd F=>ok_clipsI (d:=(d + 1)) F ih dRMany dBackw nlen mmc) (fun _ _ _ _ _ _ us hl=>match us,hl with | [_,_],_=>rfl)) dRMany dFadedIn nlen mmc) (fun _ _ _ _ _ _ us hl=>match us,hl with | [_,_],_=>rfl)
 have dPlayed : Def l.prog w K mg base (CX1 l.prog w) "played" 49 ["items", "parts", "reels"] (spPlayed c.c3 c.c2 c.c5 c.c6 c.c7 20):=Def.of X G D.played (fun f fd F=>ok_played (d:=20) F dSound (rClips 20) dRFilm) fun _ _ _ _ _ _ us hl=>match us,hl with | [_,_,_],_=>rfl
 have rFlat : ∀ d : Nat,Def l.prog w K mg base CX0 "_law_flat" (d + 2) ["_law_items_here", "_law_parts"] (spFlat d):=by
  intro d
  induction d with
  | zero=>exact Def.of X G D.flat (fun f fd F=>ok_flat (d:=0) F (Def.never X G D.flat (fun _ _ _ _ _ _ us hl=>match us,hl with | [_,_],_=>rfl)) nrng nlen) (fun _ _ _ _ _ _ us hl=>match us,hl with | [_,_],_=>rfl)
  | succ d ih=>exact Def.of X G D.flat (fun f fd F=>ok_flat (d:=(d + 1)) F (ih) nrng nlen) (fun _ _ _ _ _ _ us hl=>match us,hl with | [_,_],_=>rfl)
 have rCount : ∀ d : Nat,Def l.prog w K mg base CX0 "_law_count" (d + 2) ["_law_items_here", "_law_parts", "_law_known"] (spCount d):=by
  intro d
  induction d with
  | zero=>exact Def.of X G D.count (fun f fd F=>ok_count (d:=0) F (Def.never X G D.count (fun _ _ _ _ _ _ us hl=>match us,hl with | [_,_,_],_=>rfl)) nabs) (fun _ _ _ _ _ _ us hl=>match us,hl with | [_,_,_],_=>rfl)
  | succ d ih=>exact Def.of X G D.count (fun f fd F=>ok_count (d:=(d + 1)) F (ih) nabs) (fun _ _ _ _ _ _ us hl=>match us,hl with | [_,_,_],_=>rfl)
 have dDue : Def l.prog w K mg base CX0 "_law_due" 23 ["_law_items_here", "_law_parts"] (spDue 20):=Def.of X G D.due (fun f fd F=>ok_due (d:=20) F (rCount 20) (rFlat 20) nrng nlen nabs) fun _ _ _ _ _ _ us hl=>match us,hl with | [_,_],_=>rfl
 have dSized : Def l.prog w K mg base CX0 "_law_sized" 12 ["_law_items_here", "_law_parts", "_law_cell_here", "_law_reels_here"] (spSized 9):=Def.of X G D.sized (fun f fd F=>ok_sized (d:=9) F (rCount 9) nrng) fun _ _ _ _ _ _ us hl=>match us,hl with | [_,_,_,_],_=>rfl
 have dOnly : Def l.prog w K mg base CX0 "_law_only" 2 ["_law_e", "_law_at"] (spOnlyR (RC c.c3 c.c2 c.c5 c.c6 c.c7)):=Def.of X G D.only (fun f fd F=>ok_only F O3 (fun n k h=>by rcases h with ⟨rfl,rfl⟩ | ⟨rfl,rfl⟩ | ⟨rfl,rfl⟩ | ⟨rfl,rfl⟩ | ⟨rfl,rfl⟩; exact O3; exact O2; exact O5; exact O6; exact O7) nisi nrng nval) fun _ _ _ _ _ _ us hl=>match us,hl with | [_,_],_=>rfl
 have dTold : Def l.prog w K mg base CX0 "_law_told" 50 ["_law_items_here", "_law_parts", "_law_reels_here"] (spTold c.c3 c.c2 c.c5 c.c6 c.c7 20):=Def.of X G D.told (fun f fd F=>ok_told (d:=20) F dPlayed dOnly O3.ms cS hbS (fun n k h=>by rcases h with ⟨rfl,rfl⟩ | ⟨rfl,rfl⟩ | ⟨rfl,rfl⟩ | ⟨rfl,rfl⟩ | ⟨rfl,rfl⟩; exact ⟨_,_,c3,up3⟩; exact ⟨_,_,c2,up2⟩; exact ⟨_,_,c5,up5⟩; exact ⟨_,_,c6,up6⟩; exact ⟨_,_,c7,up7⟩)) fun _ _ _ _ _ _ us hl=>match us,hl with | [_,_,_],_=>rfl
 have dRight : Def l.prog w K mg base CX0 "_law_right" 2 ["_law_told_here", "_law_due_here"] (spRight c.c3 c.c2 c.c5 c.c6 c.c7):=Def.of X G D.right (fun f fd F=>ok_right F dLWh ⟨I3.ek,I3.xc,x3_name,I2.ek,I2.xc,x2_reel,x2_frame,I7.ek,I7.xc,x7_number⟩ nisi nlst ntup nlen nall) fun _ _ _ _ _ _ us hl=>match us,hl with | [_,_],_=>rfl
 have dChain : Def l.prog w K mg base CX0 "_law_chain" 51 ["_law_script"] (spChain K):=Def.of X G D.chain (fun f fd F=>ok_chain F dCell dNum dNames dDue dTold dRight nint nrng) fun _ _ _ _ _ _ us hl=>match us,hl with | [_],_=>rfl
 exact ok_law FL dCell dNames dReels dItems dSized dDue dTold dRight dChain nrng nmin ndic nlst
end K12
namespace Hd
open PySem PySem.W PyProof.Rows
noncomputable def q : Program:=view PySem.Challenge.pw_leadersplice_k12_played [1,2,3,4,5,6,7,8,9,10,11,13,15,16,17,18,20,21,22,23,24,25,27,28,29,30,31,32,33,34,35,36,37,39,40,41,42,43,44,45,46,47,48,49,50,51,52,53]
noncomputable def lk:=look PySem.Challenge.pw_leadersplice_k12_played q [] (fun s=>xlAt q [] s && recOk [] s) 7408
noncomputable def gd:=openGood q []
set_option maxHeartbeats 0 in
theorem made : yes lk gd = true:=by k_qdec
end Hd
open PySem PySem.W PyProof.Rows
local macro_rules | `(tactic| o_head $H)=>`(tactic| (
 refine holds_open (q:=Hd.q) (loose:=[]) (Xt:=fun s=>xlAt Hd.q [] s && recOk [] s) (XP:=XL Hd.q [])
  (Yf:=Hook.obs $H) (Ya:=Hook.val $H) (YP:=Hook.says $H) (N:=7408)
  (Hd.left_tw PySem.W.Fast.te11159589718668676419 PySem.W.Fast.te15256597767800516470 rfl rfl (fun _=>rfl) (fun w=>by kernel_rfl))
  (Hook.of $H) (Hook.keeps $H) (fun s e=>xl_of s (Bool.and_eq_true_iff.mp e).1) XL.keeps (by rfl) (by rfl) (by rfl)
  (fun s e=>recFacts_of (Bool.and_eq_true_iff.mp e).2) rfl (by assumption) ?h4 ⟨rfl,rfl,rfl,rfl,rfl,?h5⟩ ?hw ?hc
 (case h4=>decide +kernel)
 (case h5=>decide +kernel)
 (case hw=>w_witness2)
 (rename_i z; clear z)))
local macro_rules | `(tactic| walk_at "own def")=>`(tactic| (dsimp only [L2.KOf]; refine' L2.funIn_mk ?a ?l ?c ?k; (case a=>k_is); (case l=>k_is); (case c=>k_is); (case k=>k_is)))
set_option maxRecDepth 100000 in
set_option maxHeartbeats 0 in
theorem PySem.Challenge.cw_leadersplice_k12_played_holds : PySem.Challenge.rw_leadersplice_k12_played.Holds := by
 w_on; o_law; k_head
 k_fill
 refine L2.walk_ofK (l:=PySem.Challenge.rw_leadersplice_k12_played) (n:=63) (k:=52) (x:="_law_script") (CX:=L2.CX0) (sp:=K12.spLaw) rfl (by decide) rfl ⟨rfl,by decide,by decide⟩ (fun w h Y=>PySem.W.kIn_of Y) ?F (fun K H a ns hl _ hS=>⟨a,ns,rfl,hS,hl,fun _=>rfl⟩) (fun _ _ _ _ z=>z)
 case F =>
  intro w mg fa h KX G hmg
  have D : K12.DsIn (L2.KOf KX):=by
   refine ⟨?_,?_,?_,?_,?_,?_,?_,?_,?_,?_,?_,?_,?_,?_,?_,?_,?_,?_,?_,?_,?_,?_,?_,?_,?_,?_,?_,?_,?_,?_,?_,?_,?_⟩ <;> walk_at "own def"
  have Z : ∃ t,K12.NsIn (L2.KOf KX) t:=by
   dsimp only [L2.KOf]
   refine' K12.ns_mk ?a0 ?a1 ?a2 ?a3 ?e0 ?e1 ?e2 ?e3 ?b0 ?b1 ?b2 ?b3 ?b4 ?b5 ?b6 ?b7 ?b8 ?b9 ?b10 ?b11 ?b12 ?b13 ?b14 ?b15
   (case a0=>k_is); (case a1=>k_is); (case a2=>k_is); (case a3=>k_is); (case e0=>kernel_rfl); (case e1=>kernel_rfl); (case e2=>kernel_rfl); (case e3=>kernel_rfl); (case b0=>k_is); (case b1=>k_is); (case b2=>k_is); (case b3=>k_is); (case b4=>k_is); (case b5=>k_is); (case b6=>k_is); (case b7=>k_is); (case b8=>k_is); (case b9=>k_is); (case b10=>k_is); (case b11=>k_is); (case b12=>k_is); (case b13=>k_is); (case b14=>k_is); (case b15=>k_is)
  have CC : ∃ c : K12.Cs,K12.CAll (L2.KOf KX) c:=by
   dsimp only [L2.KOf]
   refine' K12.cs_mk ?xms ?xm0 ?xm1 ?xm2 ?xm3 ?xm4 ?xm5 ?xm6 ?xm7 ?xm8 ?xm9 ?xk2s ?xk2v ?xk20 ?xk21 ?xk22 ?xk23 ?xk24 ?xk25 ?xk26 ?xk27 ?xk28 ?xk29 ?xk3s ?xk3v ?xk30 ?xk31 ?xk32 ?xk33 ?xk34 ?xk35 ?xk36 ?xk37 ?xk38 ?xk39 ?xk5s ?xk5v ?xk50 ?xk51 ?xk52 ?xk53 ?xk54 ?xk55 ?xk56 ?xk57 ?xk58 ?xk59 ?xk6s ?xk6v ?xk60 ?xk61 ?xk62 ?xk63 ?xk64 ?xk65 ?xk66 ?xk67 ?xk68 ?xk69 ?xk7s ?xk7v ?xk70 ?xk71 ?xk72 ?xk73 ?xk74 ?xk75 ?xk76 ?xk77 ?xk78 ?xk79 ?xlS ?xlQ2 ?xlQ3 ?xlQ5 ?xlQ6 ?xlQ7 ?xhbS ?xhup2 ?xhup3 ?xhup5 ?xhup6 ?xhup7 ?xI2 ?xI3 ?xI7 ?xx2_reel ?xx2_frame ?xx3_name ?xx7_number ?xkx5 ?xkq5 ?xkx6 ?xkq6
   (case xms=>k_is); (case xm0=>k_is); (case xm1=>k_is); (case xm2=>k_is); (case xm3=>k_is); (case xm4=>k_is); (case xm5=>k_is); (case xm6=>k_is); (case xm7=>k_is); (case xm8=>k_is); (case xm9=>k_is); (case xk2s=>kernel_rfl); (case xk2v=>kernel_rfl); (case xk20=>kernel_rfl); (case xk21=>kernel_rfl); (case xk22=>kernel_rfl); (case xk23=>kernel_rfl); (case xk24=>kernel_rfl); (case xk25=>kernel_rfl); (case xk26=>kernel_rfl); (case xk27=>kernel_rfl); (case xk28=>kernel_rfl); (case xk29=>kernel_rfl); (case xk3s=>kernel_rfl); (case xk3v=>kernel_rfl); (case xk30=>kernel_rfl); (case xk31=>kernel_rfl); (case xk32=>kernel_rfl); (case xk33=>kernel_rfl); (case xk34=>kernel_rfl); (case xk35=>kernel_rfl); (case xk36=>kernel_rfl); (case xk37=>kernel_rfl); (case xk38=>kernel_rfl); (case xk39=>kernel_rfl); (case xk5s=>kernel_rfl); (case xk5v=>kernel_rfl); (case xk50=>kernel_rfl); (case xk51=>kernel_rfl); (case xk52=>kernel_rfl); (case xk53=>kernel_rfl); (case xk54=>kernel_rfl); (case xk55=>kernel_rfl); (case xk56=>kernel_rfl); (case xk57=>kernel_rfl); (case xk58=>kernel_rfl); (case xk59=>kernel_rfl); (case xk6s=>kernel_rfl); (case xk6v=>kernel_rfl); (case xk60=>kernel_rfl); (case xk61=>kernel_rfl); (case xk62=>kernel_rfl); (case xk63=>kernel_rfl); (case xk64=>kernel_rfl); (case xk65=>kernel_rfl); (case xk66=>kernel_rfl); (case xk67=>kernel_rfl); (case xk68=>kernel_rfl); (case xk69=>kernel_rfl); (case xk7s=>kernel_rfl); (case xk7v=>kernel_rfl); (case xk70=>kernel_rfl); (case xk71=>kernel_rfl); (case xk72=>kernel_rfl); (case xk73=>kernel_rfl); (case xk74=>kernel_rfl); (case xk75=>kernel_rfl); (case xk76=>kernel_rfl); (case xk77=>kernel_rfl); (case xk78=>kernel_rfl); (case xk79=>kernel_rfl); (case xlS=>k_is); (case xlQ2=>k_is); (case xlQ3=>k_is); (case xlQ5=>k_is); (case xlQ6=>k_is); (case xlQ7=>k_is); (case xhbS=>kernel_rfl); (case xhup2=>kernel_rfl); (case xhup3=>kernel_rfl); (case xhup5=>kernel_rfl); (case xhup6=>kernel_rfl); (case xhup7=>kernel_rfl); (case xx2_reel=>k_is); (case xx2_frame=>k_is); (case xx3_name=>k_is); (case xx7_number=>k_is); (case xkx5=>refine' ⟨?ea,?eb,?ec,?ed,?ee,?ef,?eg,?eh⟩; (case ea=>k_is); (case eb=>k_is); (case ec=>k_is); (case ed=>k_is); (case ee=>kernel_rfl); (case ef=>k_is); (case eg=>k_is); (case eh=>k_is)); (case xkq5=>k_exc); (case xkx6=>refine' ⟨?ea,?eb,?ec,?ed,?ee,?ef,?eg,?eh⟩; (case ea=>k_is); (case eb=>k_is); (case ec=>k_is); (case ed=>k_is); (case ee=>kernel_rfl); (case ef=>k_is); (case eg=>k_is); (case eh=>k_is)); (case xkq6=>k_exc)
   case xI2 =>
    refine' L2.initIn_mk ?yhi ?yht ?yl ?ycc ?ykk ?ylC ?ytl ?yhcd ?yho ?yhdd ?ysa ?yhm ?yhmo ?yhga ?yhgn ?yhc ?yha ?yhn ?yhtk
    (case yhi=>k_is); (case yht=>k_is); (case yl=>k_is); (case ycc=>k_is); (case ykk=>k_is); (case ylC=>k_is); (case ytl=>kernel_rfl); (case yhcd=>k_is); (case yho=>kernel_rfl); (case yhdd=>kernel_rfl); (case ysa=>k_is); (case yhm=>k_is); (case yhmo=>k_is); (case yhga=>k_is); (case yhgn=>k_is); (case yhc=>kernel_rfl); (case yha=>k_is); (case yhn=>k_is); (case yhtk=>k_is)
   case xI3 =>
    refine' L2.initIn_mk ?zhi ?zht ?zl ?zcc ?zkk ?zlC ?ztl ?zhcd ?zho ?zhdd ?zsa ?zhm ?zhmo ?zhga ?zhgn ?zhc ?zha ?zhn ?zhtk
    (case zhi=>k_is); (case zht=>k_is); (case zl=>k_is); (case zcc=>k_is); (case zkk=>k_is); (case zlC=>k_is); (case ztl=>kernel_rfl); (case zhcd=>k_is); (case zho=>kernel_rfl); (case zhdd=>kernel_rfl); (case zsa=>k_is); (case zhm=>k_is); (case zhmo=>k_is); (case zhga=>k_is); (case zhgn=>k_is); (case zhc=>kernel_rfl); (case zha=>k_is); (case zhn=>k_is); (case zhtk=>k_is)
   case xI7 =>
    refine' L2.initIn_mk ?uhi ?uht ?ul ?ucc ?ukk ?ulC ?utl ?uhcd ?uho ?uhdd ?usa ?uhm ?uhmo ?uhga ?uhgn ?uhc ?uha ?uhn ?uhtk
    (case uhi=>k_is); (case uht=>k_is); (case ul=>k_is); (case ucc=>k_is); (case ukk=>k_is); (case ulC=>k_is); (case utl=>kernel_rfl); (case uhcd=>k_is); (case uho=>kernel_rfl); (case uhdd=>kernel_rfl); (case usa=>k_is); (case uhm=>k_is); (case uhmo=>k_is); (case uhga=>k_is); (case uhgn=>k_is); (case uhc=>kernel_rfl); (case uha=>k_is); (case uhn=>k_is); (case uhtk=>k_is)
  obtain ⟨t,Z⟩:=Z
  exact K12.all_mk KX G hmg D Z CC
