import PyProof.Rows.All
import Wide.All
import OpenK.AllK
import Wide.FinOn
import Lean
import PyProof.EqAt
import PyProof.EqKinds
import PyProof.TupleCall
import PyProof.StationsW
import OpenK.KCls
import OpenK.KDescr
import OpenK.KWalk
import PyProof.ExcAttrAll.ValueError
import OpenK.KMake
import PyProof.InstStoreFacts
import PyProof.ExcClass3
import PyProof.ListRange
import PyProof.Rows.Range3
import KE.KStateDown
import PyProof.MaxThree
import PyProof.ZipIter
import PyProof.CompFree
import PyProof.CompUse
import PyProof.StrBlockI
import PyProof.StrBlock2
import PyProof.StrLawsIn
import PyProof.StrLawsIdx
import PyProof.Rows.ReprOcc
import KE.IntTextLaws
import PyProof.ListNew
import PyProof.WalksMore
import PyProof.ReprLoop
import KE.KRevIter
import PySem.PyData
import PyProof.TupleIter
import PyProof.Draws
import PyProof.EnumMake
import KE.KxText
import PyProof.AttrMiss
import PyProof.IsiH_list
import KE.KDictOf
import PyProof.DictItems
import KE.KPairComp
import PyProof.SumAny
import PyProof.Rows.SumGenD
import PyProof.Claim2
import KE.KSortKey
import KE.KLam
import KE.KNestM
import KE.KDictLaws
import KE.KItemsList
import KE.KEqDict
import KE.KDictList
import PySem.Challenge.RW_leadersplice_k57_whole_over_and_back
set_option maxHeartbeats 4000000
set_option Elab.async false
set_option linter.all false
set_option maxRecDepth 100000
namespace Hd
open PySem PySem.W PyProof.Rows
def run (tb:String->Option Builtin) (p:Program) (w:World) (m:Nat) (ann:Option Value):Nat->SharedT->Thread->Option SharedT
 | 0,_,_=>none
 | n+1,s,t=>match through t with
  | true=>some s
  | false=>match stepOk m ann t with
   | false=>none
   | true=>match stepT (denote tb) p w s t with
    | none=>none
    | some x=>run tb p w m ann n x.1 x.2
theorem xP {tb:String->Option Builtin}{p:Program}{w:World}{m:Nat}{ann:Option Value}{r:SharedT} :
  ∀(n:Nat) (s:SharedT) (t:Thread),run tb p w m ann n s t=some r->topRun tb p w m ann n s.abs t=some r.abs:=by
 intro n
 induction n with
 | zero=>intro s t h; cases h
 | succ n ih =>
  intro s t h
  simp only [run] at h
  simp only [topRun]
  cases a:through t
  ·simp only [a] at h ⊢
   cases b:stepOk m ann t
   ·simp only [b] at h; cases h
   ·simp only [b] at h ⊢
    cases c:stepT (denote tb) p w s t with
    | none=>simp only [c] at h; cases h
    | some x =>
     simp only [c] at h
     rw [stepT_spec (s':=x.1) (t':=x.2) c]
     exact ih _ _ h
  ·simp only [a] at h ⊢
   cases h; rfl
noncomputable def bt (P:Params):BT :=
 .node (boot_o_0 P)
  (.node (boot_o_1 P) (.node (boot_o_3 P) (.node (boot_o_7 P) .nil .nil) .nil) (.node (boot_o_5 P) (.node (boot_o_9 P) .nil .nil) .nil))
  (.node (boot_o_2 P) (.node (boot_o_4 P) (.node (boot_o_8 P) .nil .nil) .nil) (.node (boot_o_6 P) (.node (boot_o_10 P) .nil .nil) .nil))
theorem qF (w:World):((boot_heap w.params).isNs mainGlobals&&(#[]:Array GenState).size == 0,(boot_heap w.params).objs.size,(boot_heap w.params).nsMap mainGlobals "__annotations__")=(true,11,some (.ref 6)):=by kernel_rfl
noncomputable def wQ (p:Program) (w:World) (s:Shared):Bool :=
 staticsOk (importedModules p.main.body) (boot_heap w.params) s.heap&&namesBound p s.heap&&gensDone s&&laidKept (boot_heap w.params) s.heap
noncomputable def look (p q:Program) (loose:List Str) (Xt:Shared->Bool) (N:Nat) (w:World) (os:OsState) :=
 (run treeTable p w 11 (some (.ref 6)) N ⟨bt w.params,11,(boot_heap w.params).life,#[],boot_drawn,boot_toks,os⟩ (topStub p)).map fun s =>
  (wQ p w s.abs,openSeen q loose (importedModules p.main.body) Xt true s.abs,s.abs)
theorem v9 {p q:Program}{loose:List Str}{Xt:Shared->Bool}{α:Type}{Yf:Shared->α}{Ya:World->α}{N:Nat}
  (e:opening p=plainProg p.main.scope.names) (hN:Nat.ble 600 N=true) (f:∀s,fenceModules? p s=some s)
  (h:∀w,(fun os=>(look p q loose Xt N w os).map fun x=>(x.1,x.2.1,Yf x.2.2))=fun _=>some (true,openGood q loose,Ya w)):LeftO p q loose Xt Yf Ya N true:=by
 intro w
 have o:=boot_open e hN f w
 obtain ⟨⟨hp,gs,d,k,os⟩,e1,e2⟩:=Option.map_eq_some_iff.mp o
 simp only [Prod.mk.injEq] at e2
 obtain ⟨rfl,rfl,rfl,rfl⟩:=e2
 have z:=qF w
 simp only [Prod.mk.injEq] at z
 obtain ⟨z1,z2,z3⟩:=z
 obtain ⟨x,l1,l2⟩:=Option.map_eq_some_iff.mp (congrFun (h w) os)
 unfold look at l1
 obtain ⟨s,r,rfl⟩:=Option.map_eq_some_iff.mp l1
 simp only [Prod.mk.injEq] at l2
 obtain ⟨t1,t2,t3⟩:=l2
 have R:=xP _ _ _ r
 have E:SharedT.abs ⟨bt w.params,11,(boot_heap w.params).life,#[],boot_drawn,boot_toks,os⟩=⟨boot_heap w.params,#[],boot_drawn,boot_toks,os⟩:=rfl
 rw [E] at R
 have T:topFrom treeTable p w N ⟨boot_heap w.params,#[],boot_drawn,boot_toks,os⟩=some s.abs:=by
  unfold topFrom
  simp only [z1,z2,z3,R,Option.bind_some]
  unfold wQ at t1
  simp only [t1]
 show (openEnds treeTable p w N).map _=_
 unfold openEnds
 rw [e1]
 simp only [Option.bind_some,T,Option.map_some,t2,t3]
def yes {α β:Type}(_:α) (_:β):Bool:=true
theorem left_tw {p q:Program}{loose:List Str}{Xt:Shared->Bool}{α:Type}{Yf:Shared->α}{Ya:World->α}{N:Nat}{L:World->OsState->Option _}{g:_}
  (hl:look p q loose Xt N=L) (hg:openGood q loose=g) (e:opening p=plainProg p.main.scope.names) (hN:Nat.ble 600 N=true) (f:∀s,fenceModules? p s=some s)
  (h:∀w,(fun os=>(L w os).map fun x=>(x.1,x.2.1,Yf x.2.2))=fun _=>some (true,g,Ya w)):LeftO p q loose Xt Yf Ya N true:=by
 subst hl hg
 exact v9 e hN f h
noncomputable def q:Program:=view PySem.Challenge.pw_leadersplice_k57_whole_over_and_back [1,2,3,4,5,6,7,8,9,10,11,13,15,16,17,18,19,20,21,22,23,25,26,27,29,30,31,32,33,34,36,37,38,39,40,41,42,43,44,45,46,48,49,50,51,52,53,55,56,57,59,60,61,62,64,65,66,67,68,69,70,71,72,73]
noncomputable def lk:=look PySem.Challenge.pw_leadersplice_k57_whole_over_and_back q [] (fun s=>xlAt q [] s&&recOk [] s) 8264
noncomputable def gd:=openGood q []
set_option maxHeartbeats 0 in
theorem BR:yes lk gd=true:=by k_qdec
set_option maxHeartbeats 0 in
theorem lookA:∀w,(fun os=>(PySem.W.Fast.tw11159589718668676419 w os).map fun x=>x.1)=fun _=>some true:=fun w=>by kernel_rfl
set_option maxHeartbeats 0 in
theorem lookB:∀w,(fun os=>(PySem.W.Fast.tw11159589718668676419 w os).map fun x=>x.2.1.1)=fun _=>some (Prod.fst PySem.W.Fast.tw15256597767800516470):=fun w=>by kernel_rfl
set_option maxHeartbeats 0 in
theorem lookC:∀w,(fun os=>(PySem.W.Fast.tw11159589718668676419 w os).map fun x=>x.2.1.2)=fun _=>some (Prod.snd PySem.W.Fast.tw15256597767800516470):=fun w=>by kernel_rfl
theorem look3 {α β δ γ:Type}{L:World->OsState->Option (Bool×(β×δ)×γ)}{g:β×δ}{Yf:γ->α}{Ya:World->α}(a:∀w,(fun os=>(L w os).map fun x=>x.1)=fun _=>some true) (b:∀w,(fun os=>(L w os).map fun x=>x.2.1.1)=fun _=>some g.1) (b':∀w,(fun os=>(L w os).map fun x=>x.2.1.2)=fun _=>some g.2) (c:∀w,(fun os=>(L w os).map fun x=>Yf x.2.2)=fun _=>some (Ya w)) :
  ∀w,(fun os=>(L w os).map fun x=>(x.1,x.2.1,Yf x.2.2))=fun _=>some (true,g,Ya w):=fun w=>funext fun os=>by
 have a:=congrFun (a w) os
 have b:=congrFun (b w) os
 have b':=congrFun (b' w) os
 have c:=congrFun (c w) os
 revert a b b' c
 cases L w os with
 | none=>intro a; cases a
 | some x =>
  intro a b b' c
  have a:x.1=true:=Option.some.inj a
  have b:x.2.1.1=g.1:=Option.some.inj b
  have b':x.2.1.2=g.2:=Option.some.inj b'
  have c:Yf x.2.2=Ya w:=Option.some.inj c
  show some (x.1,x.2.1,Yf x.2.2)=some (true,g,Ya w)
  rw [a,c,show x.2.1=g from Prod.ext b b']
end Hd
section
open PySem PySem.W PyProof.Rows
local macro_rules | `(tactic| o_head $H)=>`(tactic| (
 refine holds_open (q:=Hd.q) (loose:=[]) (Xt:=fun s=>xlAt Hd.q [] s&&recOk [] s) (XP:=XL Hd.q [])
  (Yf:=Hook.obs $H) (Ya:=Hook.val $H) (YP:=Hook.says $H) (N:=8264)
  (Hd.left_tw PySem.W.Fast.te11159589718668676419 PySem.W.Fast.te15256597767800516470 rfl rfl (fun _=>rfl) (Hd.look3 Hd.lookA Hd.lookB Hd.lookC (fun w=>by kernel_rfl)))
  (Hook.of $H) (Hook.keeps $H) (fun s e=>xl_of s (Bool.and_eq_true_iff.mp e).1) XL.keeps (by rfl) (by rfl) (by rfl)
  (fun s e=>recFacts_of (Bool.and_eq_true_iff.mp e).2) rfl (by assumption) ?h4 ⟨rfl,rfl,rfl,rfl,rfl,?h5⟩ ?hw ?hc
 (case h4=>decide +kernel)
 (case h5=>decide +kernel)
 (case hw=>w_witness2)
 (rename_i z; clear z)))
set_option maxHeartbeats 0 in
noncomputable def Hd.all:{ W:Prop // W->PySem.Challenge.rw_leadersplice_k57_whole_over_and_back.Holds }:=by
 refine' ⟨_,fun hwalk=>_⟩
 rotate_left
 w_on; o_law; k_head
 exact hwalk
end
namespace L2
open PySem PySem.Spec PyProof.Rows
abbrev Key:=Sum Int Str
def ji:Key->Value->Bool
 | .inl k,v=>Value.isInt k v
 | .inr x,v=>Value.isStrOf x v
def AY (w:World):Key->Int
 | .inl k=>hashInt k
 | .inr x=>hashStr w x
theorem aV:∀{k:Key}{v:Value},ji k v=true->(∃i t,k=Sum.inl i/\v=Value.int i t)\/(∃x t,k=Sum.inr x/\v=Value.str x t)
 | .inl i,v,h=>by
  obtain ⟨t,e⟩:=Value.isInt_shape (k:=i) (v:=v) h
  exact .inl ⟨i,t,rfl,e⟩
 | .inr x,v,h=>by
  obtain ⟨t,e⟩:=Value.isStrOf_shape (x:=x) (v:=v) h
  exact .inr ⟨x,t,rfl,e⟩
theorem qe (i:Int) (t:Tok):ji (.inl i) (.int i t)=true:=by simp [ji,Value.isInt]
theorem qd (x:Str) (t:Tok):ji (.inr x) (.str x t)=true:=by simp [ji,Value.isStrOf]
theorem yN (a b:Int):decide ((Sum.inl a:Key)=Sum.inl b)=(a == b):=by
 by_cases e:a=b
 ·subst e; simp
 ·have h:¬ (Sum.inl a:Key)=Sum.inl b:=fun q=>e (Sum.inl.inj q)
  rw [decide_eq_false h]
  exact (beq_eq_false_iff_ne.mpr e).symm
theorem yK (a b:Str):decide ((Sum.inr a:Key)=Sum.inr b)=decide (a=b):=by
 by_cases e:a=b
 ·subst e; simp
 ·have h:¬ (Sum.inr a:Key)=Sum.inr b:=fun q=>e (Sum.inr.inj q)
  rw [decide_eq_false h,decide_eq_false e]
theorem yM (a:Int) (b:Str):decide ((Sum.inl a:Key)=Sum.inr b)=false:=decide_eq_false (fun q=>nomatch q)
theorem yL (a:Str) (b:Int):decide ((Sum.inr a:Key)=Sum.inl b)=false:=decide_eq_false (fun q=>nomatch q)
def aI (prog:Program) (w:World):PySem.KeyKind prog w Key where
 is:=ji
 hash:=AY w
 inj:=fun v a b ha hb=>by
  rcases aV ha with ⟨i,t,rfl,rfl⟩ | ⟨x,t,rfl,rfl⟩
  ·rcases aV hb with ⟨j,u,rfl,e⟩ | ⟨y,u,rfl,e⟩
   ·injection e with e1 _; rw [e1]
   ·exact nomatch e
  ·rcases aV hb with ⟨j,u,rfl,e⟩ | ⟨y,u,rfl,e⟩
   ·exact nomatch e
   ·injection e with e1 _; rw [e1]
 byValue:=fun k v h=>by
  rcases aV h with ⟨i,t,rfl,rfl⟩ | ⟨x,t,rfl,rfl⟩ <;> rfl
 pyHash:=fun hv h=>by
  rcases aV hv with ⟨i,t,rfl,rfl⟩ | ⟨x,t,rfl,rfl⟩
  ·exact wpAny_pyHash_int h
  ·exact wpAny_pyHash_str h
 eqBool:=fun hu hv h=>by
  rcases aV hu with ⟨i,t,rfl,rfl⟩ | ⟨x,t,rfl,rfl⟩
  ·rcases aV hv with ⟨j,u,rfl,rfl⟩ | ⟨y,u,rfl,rfl⟩
   ·rw [yN] at h; exact wpAny_eqBool_int h
   ·rw [yM] at h; exact SeqAt.EqAt.int_str i t y u _ _ _ _ h
  ·rcases aV hv with ⟨j,u,rfl,rfl⟩ | ⟨y,u,rfl,rfl⟩
   ·rw [yL] at h; exact SeqAt.EqAt.str_int x t j u _ _ _ _ h
   ·rw [yK] at h; exact wpAny_eqBool_str h
 «strs»:=fun k x t v h=>by
  rcases aV h with ⟨i,u,rfl,e⟩ | ⟨y,u,rfl,e⟩
  ·exact nomatch e
  ·injection e with e1 _
   subst e1
   cases v <;> rfl
theorem k_ (prog:Program) (w:World) (i:Int) (t:Tok):(aI prog w).is (.inl i) (.int i t)=true:=qe i t
theorem kZ (prog:Program) (w:World) (x:Str) (t:Tok):(aI prog w).is (.inr x) (.str x t)=true:=qd x t
inductive V where
 | non | bl (b:Bool) | int (i:Int) | str (x:Str) | byt (b:Array UInt8) | flt (b:UInt64) | ref (a:Addr) | ty (n:String)
 deriving DecidableEq
def RelV:V->Value->Prop
 | .non,u=>u=Value.none
 | .bl b,u=>u=Value.bool b
 | .int i,u=>∃t,u=Value.int i t
 | .str x,u=>∃t,u=Value.str x t
 | .byt b,u=>∃t,u=Value.bytes b t
 | .flt b,u=>∃t,u=Value.float b t
 | .ref a,u=>u=Value.ref a
 | .ty n,u=>u=Value.type n
abbrev Vals:List V->List Value->Prop:=Paired RelV
theorem Vals.length {xs:List V}{us:List Value}(r:Vals xs us):xs.length=us.length:=Paired.length r
theorem Vals.get:∀{xs:List V}{us:List Value}{i:Nat}{x:V},Vals xs us->xs[i]?=some x->∃u,us[i]?=some u/\RelV x u
 | _,_,_,_,.nil,e=>by simp at e
 | _,_,0,_,.cons r _,e=>by simp at e; subst e; exact ⟨_,rfl,r⟩
 | _,_,i+1,x,.cons _ t,e=>by
  obtain ⟨u,h1,h2⟩:=Vals.get (i:=i) (x:=x) t (by simpa using e)
  exact ⟨u,by simpa using h1,h2⟩
theorem Vals.set {x:V}{u:Value}(r:RelV x u):∀{xs:List V}{us:List Value}(i:Nat),Vals xs us->Vals (xs.set i x) (us.set i u)
 | _,_,_,.nil=>.nil
 | _,_,0,.cons _ t=>.cons r t
 | _,_,i+1,.cons q t=>.cons q (Vals.set r i t)
theorem Vals.append:∀{xs ys:List V}{us ws:List Value},Vals xs us->Vals ys ws->Vals (xs++ys) (us++ws)
 | _,_,_,_,.nil,s=>s
 | _,_,_,_,.cons r t,s=>.cons r (Vals.append t s)
theorem Vals.take:∀{xs:List V}{us:List Value}(n:Nat),Vals xs us->Vals (xs.take n) (us.take n)
 | _,_,0,_=>.nil
 | _,_,_+1,.nil=>.nil
 | _,_,n+1,.cons r t=>.cons r (Vals.take n t)
theorem Vals.drop:∀{xs:List V}{us:List Value}(n:Nat),Vals xs us->Vals (xs.drop n) (us.drop n)
 | _,_,0,r=>r
 | _,_,_+1,.nil=>.nil
 | _,_,n+1,.cons _ t=>Vals.drop n t
def RelO:Option V->Option Value->Prop
 | some v,some u=>RelV v u
 | none,none=>True
 | _,_=>False
def KV {κ:Type}:List (κ×V)->List (κ×Value)->Prop:=Paired fun (p:κ×V) (q:κ×Value)=>p.1=q.1/\RelV p.2 q.2
def kV:Key->V
 | .inl i=>.int i
 | .inr x=>.str x
inductive HO where
  | lst (xs:List V)
  | tup (xs:List V)
  | dK (kvs:List (Key×V)) | dT (kvs:List (List Key×V))
  | set (S:Int->Bool) (n:Nat)
  | ins (C dx:Addr) (fs:List (Str×V))
  | own (x:Addr)
  | xd (fs:List (Str×V))
  | met (f x:Addr)
  | rng (lo hi:Int)
  | frz (o:Obj) (u:HO)
  | tbl (ps:Array Value)
  | ext (φ:Heap->Prop)
abbrev Hp:=Addr->Option HO
def upd (H:Hp) (a:Addr) (o:HO):Hp:=fun b=>if b=a then some o else H b
theorem ac {H:Hp}{a:Addr}{o:HO}:upd H a o a=some o:=by unfold upd; rw [if_pos rfl]
theorem ah {H:Hp}{a b:Addr}{o:HO}(h:b≠a):upd H a o b=H b:=by unfold upd; rw [if_neg h]
theorem bn {H:Hp}{a b:Addr}{o u:HO}(h:H a=some o) (h':H b=some u) (d:o≠u):a≠b:=by
 intro e; subst e; rw [h] at h'; exact d (Option.some.inj h')
theorem ap {H:Hp}{a b:Addr}{o:HO}(h:H a=some o) (h':H b=none):a≠b:=by
 intro e; subst e; rw [h] at h'; cases h'
section
variable (P:Program) (w:World)
def ObjOk (H:Hp) (h:Heap) (a:Addr):HO->Prop
 | .lst xs=>xs.length<=sizeLine/\∃(its:List Value) (n:Nat),Vals xs its/\h.get? a=some { cls:=.type "list",data:=.seq its.toArray n }
 | .tup xs=>xs.length<=sizeLine/\∃its:List Value,Vals xs its/\IsTup h a its.toArray
 | .dK kvs=>kvs.length<=sizeLine/\(a == sysModules)=false/\∃vs,KV kvs vs/\h.DictOf (aI P w) a vs
 | .dT kvs=>kvs.length<=sizeLine/\(a == sysModules)=false/\∃xs:List (List Key×Addr×Value),
   Paired (fun (p:List Key×V) (q:List Key×Addr×Value)=>p.1=q.1/\H q.2.1=some (.tup (p.1.map kV))/\RelV p.2 q.2.2) kvs xs /\
   ∃o es ep,h.get? a=some o/\o.ExactDict/\o.data=.dict es ep/\es.toList=xs.map (entryOfKey (tupleKind (aI P w)))/\(xs.map (·.1)).Nodup
 | .set S n=>h.SetOf (intKind P w) a S n
 | .ins C dx fs=>H dx=some (.own a)/\fs.length<=1000/\dx≠a/\h.get? a=some (PySem.W.instObj C dx) /\
   ∃mA,h.Ns1 dx mA/\(∀f,RelO (fs.lookup f) (mA f))/\PySem.Within mA (fs.map (·.1))
 | .own _=>∃o,h.get? a=some o
 | .xd fs=>∃mA,h.Ns1 a mA/\∀f,RelO (fs.lookup f) (mA f)
 | .rng lo hi=>∃t u v,h.get? a=some { cls:=.type "range",data:=.fields #[.int lo t,.int hi u,.int 1 v] }
 | .frz o u=>h.get? a=some o/\ObjOk H h a u
 | .tbl ps=>h.get? a=some { cls:=.none,data:=.fields ps }
 | .met f x=>h.get? a=some (PySem.W.methodObj (.ref f) (.ref x))
 | .ext φ=>φ h/\(∃o,h.get? a=some o)/\∀h1 h2:Heap,φ h1->(∀o,h1.get? a=some o->h2.get? a=some o)->φ h2
def HOk (H:Hp) (h:Heap):Prop:=∀a o,H a=some o->ObjOk P w H h a o
end
section
variable {P:Program}{w:World}{H H':Hp}{h h':Heap}{a:Addr}{o:HO}
theorem ObjOk.lt (x:ObjOk P w H h a o):a<h.objs.size:=by
 cases o with
 | lst xs=>obtain ⟨_,_,_,_,e⟩:=x; exact Heap.lt_size e
 | tup xs=>obtain ⟨_,_,_,p⟩:=x; exact p.lt
 | dK kvs=>obtain ⟨_,_,_,_,o,_,_,e,_⟩:=x; exact Heap.lt_size e
 | dT kvs=>obtain ⟨_,_,_,_,o,_,_,e,_⟩:=x; exact Heap.lt_size e
 | set S n=>obtain ⟨o,_,_,_,e,_⟩:=x; exact Heap.lt_size e
 | ins C dx fs=>obtain ⟨_,_,_,e,_⟩:=x; exact Heap.lt_size e
 | own y=>obtain ⟨_,e⟩:=x; exact Heap.lt_size e
 | xd fs=>obtain ⟨_,⟨_,_,_,e,_⟩,_⟩:=x; exact Heap.lt_size e
 | rng lo hi=>obtain ⟨_,_,_,e⟩:=x; exact Heap.lt_size e
 | frz ob u=>obtain ⟨e,_⟩:=x; exact Heap.lt_size e
 | tbl ps=>exact Heap.lt_size (show h.get? a=some _ from x)
 | met f y=>exact Heap.lt_size (show h.get? a=some _ from x)
 | ext φ=>obtain ⟨_,⟨_,e⟩,_⟩:=x; exact Heap.lt_size e
theorem Paired.mapP {α β:Type}{F G:α->β->Prop}:∀{l₁:List α}{l₂:List β},Paired F l₁ l₂->(∀a b,F a b->G a b)->Paired G l₁ l₂
 | _,_,.nil,_=>.nil
 | _,_,.cons r t,f=>.cons (f _ _ r) (Paired.mapP t f)
theorem ObjOk.stay (x:ObjOk P w H h a o) (k:∀b u,(b=a\/H b=some (.own a))->h.get? b=some u->h'.get? b=some u)
  (ho:∀b,H b=some (.own a)->H' b=some (.own a)) (ht:∀b xs,H b=some (.tup xs)->H' b=some (.tup xs)):ObjOk P w H' h' a o:=by
 induction o with
 | lst xs=>obtain ⟨z,its,n,r,e⟩:=x; exact ⟨z,its,n,r,k _ _ (.inl rfl) e⟩
 | tup xs=>obtain ⟨z,its,r,ob,e,c⟩:=x; exact ⟨z,its,r,ob,k _ _ (.inl rfl) e,c⟩
 | dK kvs=>obtain ⟨z,y,vs,r,ob,es,ep,e,c⟩:=x; exact ⟨z,y,vs,r,ob,es,ep,k _ _ (.inl rfl) e,c⟩
 | dT kvs =>
  obtain ⟨z,y,xs,r,ob,es,ep,e,c⟩:=x
  exact ⟨z,y,xs,Paired.mapP r fun p q z=>⟨z.1,ht _ _ z.2.1,z.2.2⟩,ob,es,ep,k _ _ (.inl rfl) e,c⟩
 | set S n=>obtain ⟨ob,es,ep,t,e,c⟩:=x; exact ⟨ob,es,ep,t,k _ _ (.inl rfl) e,c⟩
 | ins C dx fs =>
  obtain ⟨d,z,ne,e,mA,⟨od,es,ep,e2,c⟩,r⟩:=x
  exact ⟨ho _ d,z,ne,k _ _ (.inl rfl) e,mA,⟨od,es,ep,k _ _ (.inr d) e2,c⟩,r⟩
 | own y=>obtain ⟨ob,e⟩:=x; exact ⟨ob,k _ _ (.inl rfl) e⟩
 | xd fs=>obtain ⟨mA,⟨od,es,ep,e,c⟩,r⟩:=x; exact ⟨mA,⟨od,es,ep,k _ _ (.inl rfl) e,c⟩,r⟩
 | rng lo hi=>obtain ⟨t,u,v,e⟩:=x; exact ⟨t,u,v,k _ _ (.inl rfl) e⟩
 | frz ob u ih=>obtain ⟨e,q⟩:=x; exact ⟨k _ _ (.inl rfl) e,ih q⟩
 | tbl ps =>
  have e:h.get? a=some { cls:=.none,data:=.fields ps }:=x
  show h'.get? a=some { cls:=.none,data:=.fields ps }
  exact k a _ (.inl rfl) e
 | met f y =>
  have e:h.get? a=some (PySem.W.methodObj (.ref f) (.ref y)):=x
  show h'.get? a=some (PySem.W.methodObj (.ref f) (.ref y))
  exact k a _ (.inl rfl) e
 | ext φ=>obtain ⟨p,⟨o,e⟩,st⟩:=x; exact ⟨st _ _ p fun o q=>k _ _ (.inl rfl) q,⟨o,k _ _ (.inl rfl) e⟩,st⟩
theorem HOk.lt (x:HOk P w H h) (e:H a=some o):a<h.objs.size:=(x a o e).lt
theorem HOk.fresh (x:HOk P w H h) (e:h.objs.size<=a):H a=none:=by
 cases q:H a with
 | none=>rfl
 | some u=>exact absurd (Nat.lt_of_lt_of_le (x.lt q) e) (Nat.lt_irrefl _)
theorem HOk.kept (x:HOk P w H h) (k:∀b u,h.get? b=some u->h'.get? b=some u):HOk P w H h':=fun a o e =>
 (x a o e).stay (fun b u _ q=>k b u q) (fun _ q=>q) fun _ _ q=>q
theorem HOk.laid (x:HOk P w H h) (k:∀b u,h.get? b=some u->h'.get? b=some u) (hp:h.objs.size<=a) (new:ObjOk P w (upd H a o) h' a o):HOk P w (upd H a o) h':=fun b u e=>by
 have hn:=x.fresh hp
 by_cases hb:b=a
 ·subst hb; rw [ac] at e; cases e; exact new
 ·rw [ah hb] at e
  exact (x b u e).stay (fun c v _ q=>k c v q) (fun c q=>by rw [ah (ap q hn)]; exact q) fun c xs q=>by rw [ah (ap q hn)]; exact q
end
def Rd (H:Hp) (a:Addr) (u:HO):Prop:=H a=some u\/∃o,H a=some (.frz o u)
theorem Rd.of {H:Hp}{a:Addr}{u:HO}(h:H a=some u):Rd H a u:=.inl h
theorem Rd.ok {P:Program}{w:World}{H:Hp}{h:Heap}{a:Addr}{u:HO}(r:Rd H a u) (x:HOk P w H h):ObjOk P w H h a u:=by
 rcases r with r | ⟨o,r⟩
 ·exact x a u r
 ·obtain ⟨_,q⟩:=x a _ r
  exact q
def Mut:Option HO->Prop
 | some (.lst _)=>True
 | some (.dK _)=>True
 | some (.dT _)=>True
 | some (.set _ _)=>True
 | some (.ins _ _ _)=>True
 | some (.ext _)=>True
 | _=>False
section
variable {P:Program}{w:World}{H:Hp}{h h':Heap}{x e:Addr}{o':HO}
theorem HOk.write (ok:HOk P w H h) (mu:Mut (H x)) (he:e=x\/H e=some (.own x)) (k:∀b u,b≠e->h.get? b=some u->h'.get? b=some u) (heo:∃u,h'.get? e=some u)
  (new:ObjOk P w (upd H x o') h' x o'):HOk P w (upd H x o') h':=fun b u q=>by
 have nown:∀c y,H c=some (.own y)->c≠x:=fun c y r z=>by subst z; rw [r] at mu; exact mu
 have ntup:∀c xs,H c=some (.tup xs)->c≠x:=fun c xs r z=>by subst z; rw [r] at mu; exact mu
 by_cases hb:b=x
 ·subst hb; rw [ac] at q; cases q; exact new
 ·rw [ah hb] at q
  by_cases hbe:b=e
  ·have q':H b=some (.own x):=by
    rcases he with z | z
    ·exact absurd (hbe.trans z) hb
    ·rw [hbe]; exact z
   rw [q] at q'; cases q'
   obtain ⟨v,hv⟩:=heo
   exact ⟨v,by rw [hbe]; exact hv⟩
  ·refine (ok b u q).stay (fun c v hc r=>k c v ?_ r) (fun c r=>by rw [ah (nown c b r)]; exact r) fun c xs r=>by rw [ah (ntup c xs r)]; exact r
   rcases hc with rfl | hc
   ·exact hbe
   ·rintro rfl
    rcases he with z | z
    ·exact nown c b hc z
    ·rw [hc] at z; cases z; exact hb rfl
end
structure Un (fs ex:List Addr) (H H':Hp) (h h':Heap):Prop where
 keep:∀b o,h.get? b=some o->H b=none->b ∉ fs->b ∉ ex->h'.get? b=some o
 slot:∀b o,h.get? b=some o->H b=none->b∈fs->b ∉ ex->∃sl,h'.get? b=some { o with slots:=sl }
 free:∀b o,h.get? b=some o->H b=none->b ∉ ex->H' b=none
 there:∀b o,h.get? b=some o->b ∉ ex->∃o',h'.get? b=some o'
 tups:∀b xs,H b=some (.tup xs)->H' b=some (.tup xs)
 frzs:∀b o u,H b=some (.frz o u)->H' b=some (.frz o u)
 tbls:∀b ps,H b=some (.tbl ps)->∃more,H' b=some (.tbl (ps++more))
section
variable {fs fs' ex ex':List Addr}{H H1 H2:Hp}{h h1 h2 h':Heap}{a x e:Addr}{o:HO}
theorem Un.any (u:Un fs ex H H1 h h1) {b:Addr}{ob:Obj}(q:h.get? b=some ob) (n:H b=none) (hx:b ∉ ex):∃sl,h1.get? b=some { ob with slots:=sl }:=by
 by_cases hb:b∈fs
 ·exact u.slot b ob q n hb hx
 ·exact ⟨ob.slots,u.keep b ob q n hb hx⟩
theorem Un.kept (k:∀b u,h.get? b=some u->h'.get? b=some u):Un fs ex H H h h' :=
 ⟨fun b ob q _ _ _=>k b ob q,fun b ob q _ _ _=>⟨ob.slots,k b ob q⟩,fun _ _ _ n _=>n,fun b ob q _=>⟨ob,k b ob q⟩,fun _ _ q=>q,fun _ _ _ q=>q,fun _ ps q=>⟨#[],by rw [q]; simp⟩⟩
theorem Un.refl:Un fs ex H H h h:=Un.kept fun _ _ q=>q
theorem Un.laid (k:∀b u,h.get? b=some u->h'.get? b=some u) (hp:h.objs.size<=a) (hn:H a=none):Un fs ex H (upd H a o) h h' where
 keep:=fun b u q _ _ _=>k b u q
 slot:=fun b u q _ _ _=>⟨u.slots,k b u q⟩
 free:=fun b u q n _=>by rw [ah (Nat.ne_of_lt (Nat.lt_of_lt_of_le (Heap.lt_size q) hp))]; exact n
 there:=fun b u q _=>⟨u,k b u q⟩
 tups:=fun b xs q=>by rw [ah (ap q hn)]; exact q
 frzs:=fun b u xs q=>by rw [ah (ap q hn)]; exact q
 tbls:=fun b ps q=>⟨#[],by rw [ah (ap q hn),q]; simp⟩
theorem Un.write (mu:Mut (H x)) (he:e=x\/H e=some (.own x)) (k:∀b u,b≠e->h.get? b=some u->h'.get? b=some u) (heo:∃u,h'.get? e=some u):Un fs ex H (upd H x o) h h':=by
 have hx:∀b,H b=none->b≠x:=fun b n z=>by subst z; rw [n] at mu; exact mu
 have hb:∀b,H b=none->b≠e:=fun b n z=>by
  subst z
  rcases he with r | r
  ·exact hx b n r
  ·rw [n] at r; cases r
 have hm:∀b u,H b=some u->¬ Mut (some u)->b≠x:=fun b u q nm z=>by subst z; rw [q] at mu; exact nm mu
 refine ⟨fun b u q n _ _=>k b u (hb b n) q,fun b u q n _ _=>⟨u.slots,k b u (hb b n) q⟩,fun b u q n _=>by rw [ah (hx b n)]; exact n,fun b u q _=>?_,
  fun b xs q=>by rw [ah (hm b _ q fun z=>z)]; exact q,fun b u xs q=>by rw [ah (hm b _ q fun z=>z)]; exact q,fun b ps q=>⟨#[],by rw [ah (hm b _ q fun z=>z),q]; simp⟩⟩
 by_cases hbe:b=e
 ·subst hbe; exact heo
 ·exact ⟨u,k b u hbe q⟩
end
def trk (h:Heap) (H:Hp):List Addr:=(List.range h.objs.size).filter fun a=>(H a).isSome
def i6 (h:Heap) (H:Hp):Heap:=PySem.W.hideAll h (trk h H)
theorem qh (h:Heap) (H:Hp):(i6 h H).objs.size=h.objs.size:=PySem.W.hideAll_size _ _
theorem tX {h:Heap}{H:Hp}{b:Addr}{o:Obj}(e:h.get? b=some o) (n:H b=none):(i6 h H).get? b=some o :=
 PySem.W.hideAll_get _ e fun hm=>by
  have q:(H b).isSome=true:=(List.mem_filter.mp hm).2
  rw [n] at q; simp at q
theorem vX {h:Heap}{H:Hp}{b:Addr}{o:Obj}(e:(i6 h H).get? b=some o):h.get? b=some o/\H b=none:=by
 have e':h.get? b=some o:=PySem.W.of_hideAll (trk h H) e
 refine ⟨e',?_⟩
 cases q:H b with
 | none=>rfl
 | some x =>
  have hm:b∈trk h H:=List.mem_filter.mpr ⟨List.mem_range.mpr (Heap.lt_size e'),by simp [q]⟩
  have z:(i6 h H).get? b=none:=PySem.W.hideAll_none (trk h H) hm
  rw [z] at e; cases e
def wM (g h:Heap) (L:Addr):List (Addr×Obj):=(List.range h.objs.size).filterMap fun a=>if a=L\/(g.get? a).isSome=true then none else (h.get? a).map fun o=>(a,o)
def rest (g h:Heap) (L d:Addr):List (Addr×Obj):=(wM g h L).filter fun p=>decide (p.1≠d)
structure Mod (K:PySem.W.Frag) (mg:Str->Option Value) (base:Heap):Prop where
 kin:K.In base
 glob:base.Ns mainGlobals mg
 blt:∃mb,base.Ns builtinsNs mb/\∀x:Str,x≠"__name__"->mb x=bootBuiltins x
 nolimit:base.NoLimit
structure Cx where
 prog:Program
 w:World
 K:PySem.W.Frag
 mg:Str->Option Value
 base:Heap
 A:Around
 N:List Str
 s₀:Shared
 H₀:Hp
 env:Env
 outer:List Env
 stack:List Env
 ex:List Addr
 fn:Str->Bool
 calm:Bool
 pn:List (Addr×Obj)
 xe:Value->Shared->Prop
def frs (l:List Env):List Addr:=l.filterMap (·.frame)
abbrev Cx.fs (X:Cx):List Addr:=frs X.outer
def Vis (sc:Scope) (x:Str):Prop:=sc.names.lookup x=some .local\/sc.names.lookup x=some .cell\/sc.names.lookup x=some .free
def Loc (sc:Scope) (x:Str):Prop:=sc.names.lookup x=some .local\/sc.names.lookup x=some .cell
def A6 (env:Env) (h:Heap) (m:Str->Option Value) (x:Str) (u:Value):Prop :=
 (env.kindOf x=some .local/\m x=some u)\/((env.kindOf x=some .cell\/env.kindOf x=some .free)/\∃c,env.cells.lookup x=some c/\h.IsCell c (some u))
structure Cx.Ok (X:Cx):Prop where
 mod:Mod X.K X.mg X.base
 kind:X.env.scope.kind=.function
 glob:X.env.globals=mainGlobals
 blt:X.env.builtins=builtinsNs
 above:X.s₀.heap.objs.size<=X.env.locals
 inj:∀x y c,X.env.cells.lookup x=some c->X.env.cells.lookup y=some c->x=y
 has:∀x,(X.env.kindOf x=some .cell\/X.env.kindOf x=some .free)->∃c,X.env.cells.lookup x=some c
 cab:∀x c,X.fn x=true->X.env.cells.lookup x=some c->X.s₀.heap.objs.size<=c
 hd:X.calm=true->X.A.handled=none
 frames:X.A.frames=some X.stack
 stk:X.stack=X.outer\/(X.stack=X.env :: X.outer/\X.env.frame=some X.env.locals)
 exf:∀b∈X.ex,b≠X.env.locals/\∀x c,X.env.cells.lookup x=some c->c≠b
 bs:∀b o,X.base.get? b=some o->X.s₀.heap.get? b=some o/\X.H₀ b=none
 bsz:X.base.objs.size<=X.s₀.heap.objs.size
 noex:∀b o,X.base.get? b=some o->b ∉ X.ex
 exfs:∀b∈X.ex,b ∉ X.fs
 funs:X.s₀.heap.FunFrames X.base X.outer
 frf:∀b∈X.fs,X.H₀ b=none
structure Inv (X:Cx) (pins:List (Addr×Obj)) (σ:List (Option V)) (H:Hp) (s:Shared):Prop where
 ok:X.Ok
 os:s.os=X.s₀.os
 bare:AllBare s.gens
 base:Un X.fs X.ex X.H₀ H X.s₀.heap s.heap
 loc:∃m,s.heap.Ns X.env.locals m/\∀(i:Nat) (x:Str) (v:V),X.N[i]?=some x->σ[i]?=some (some v)->Vis X.env.scope x->∃u,RelV v u/\A6 X.env s.heap m x u
 cell:∀x c,X.env.cells.lookup x=some c->∃v,s.heap.IsCell c v
 free:H X.env.locals=none
 freeC:∀x c,X.env.cells.lookup x=some c->H c=none
 pin:∀p∈X.pn++pins,s.heap.get? p.1=some p.2/\H p.1=none/\p.1≠X.env.locals/\p.1 ∉ X.fs/\∀v,p.2.data≠.cell v
 hok:HOk X.prog X.w H s.heap
 len:σ.length=X.N.length
section
variable {X:Cx}{pins:List (Addr×Obj)}{σ:List (Option V)}{H H':Hp}{s:Shared}{h':Heap}
theorem Cx.Ok.nofr (ok:X.Ok) {b:Addr}{o:Obj}(e:X.base.get? b=some o):b ∉ X.fs:=fun hb=>by
 have:=(ok.funs.mem hb).1
 rw [e] at this; cases this
theorem Inv.bs (I:Inv X pins σ H s):∀b o,X.base.get? b=some o->s.heap.get? b=some o/\H b=none:=fun b o e =>
 ⟨I.base.keep b o (I.ok.bs b o e).1 (I.ok.bs b o e).2 (I.ok.nofr e) (I.ok.noex b o e),I.base.free b o (I.ok.bs b o e).1 (I.ok.bs b o e).2 (I.ok.noex b o e)⟩
theorem Inv.bk (I:Inv X pins σ H s):∀b o,X.base.get? b=some o->s.heap.get? b=some o:=fun b o e=>(I.bs b o e).1
theorem Inv.mod (I:Inv X pins σ H s):Mod X.K X.mg X.base:=I.ok.mod
theorem Inv.kIn (I:Inv X pins σ H s):X.K.In s.heap:=I.ok.mod.kin.keeps I.bk
theorem Inv.nolimit (I:Inv X pins σ H s):s.heap.NoLimit:=I.ok.mod.nolimit.keeps I.bk
theorem Inv.lt (I:Inv X pins σ H s):X.env.locals<s.heap.objs.size:=let ⟨_,hn,_⟩:=I.loc; hn.lt
theorem Inv.sz (I:Inv X pins σ H s):X.s₀.heap.objs.size<=s.heap.objs.size:=Nat.le_trans I.ok.above (Nat.le_of_lt I.lt)
theorem Inv.nofs (I:Inv X pins σ H s) {a:Addr}(h:s.heap.objs.size<=a):a ∉ X.fs:=fun hb=>by
 obtain ⟨_,o,ho,_⟩:=I.ok.funs.mem hb
 exact absurd (Nat.lt_of_lt_of_le (Heap.lt_size ho) (Nat.le_trans I.sz h)) (Nat.lt_irrefl _)
theorem Inv.cne (I:Inv X pins σ H s):∀x c,X.env.cells.lookup x=some c->c≠X.env.locals:=fun x c e z=>by
 obtain ⟨v,o,ho,hd⟩:=I.cell x c e
 obtain ⟨m,⟨o',es,ep,ho',hd',_⟩,_⟩:=I.loc
 rw [z,ho'] at ho; cases ho; rw [hd'] at hd; cases hd
theorem Inv.funs (I:Inv X pins σ H s):s.heap.FunFrames X.base X.outer:=by
 have all:∀(l:List Env),(∀b∈frs l,b∈X.fs)->X.s₀.heap.FunFrames X.base l->s.heap.FunFrames X.base l:=by
  intro l
  induction l with
  | nil=>intro _ _; trivial
  | cons env r ih =>
   intro hs hl
   obtain ⟨hk,⟨L,o,hf,hn,ho,hd⟩,hr⟩:=hl
   have hL:L∈X.fs:=hs L (by unfold frs; rw [List.filterMap_cons,hf]; exact List.mem_cons_self)
   obtain ⟨sl,e⟩:=I.base.slot L o ho (I.ok.frf L hL) hL fun z=>I.ok.exfs L z hL
   exact ⟨hk,⟨L,_,hf,hn,e,hd⟩,ih (fun b hb=>hs b (by unfold frs; rw [List.filterMap_cons,hf]; exact List.mem_cons_of_mem _ hb)) hr⟩
 exact all X.outer (fun _ hb=>hb) I.ok.funs
theorem Inv.stack (I:Inv X pins σ H s):s.heap.FunFrames X.base X.stack:=by
 rcases I.ok.stk with e | ⟨e,hf⟩
 ·rw [e]; exact I.funs
 ·rw [e]
  obtain ⟨m,hn,_⟩:=I.loc
  refine .cons (by rw [I.ok.kind]; decide) hf hn ?_ I.funs
  exact Heap.get?_none_of_le (Nat.le_trans I.ok.bsz I.ok.above)
theorem Inv.stkSub (I:Inv X pins σ H s):∀b∈frs X.stack,b∈X.env.locals :: X.fs:=fun b hb=>by
 rcases I.ok.stk with e | ⟨e,hf⟩
 ·rw [e] at hb; exact List.mem_cons_of_mem _ hb
 ·rw [e] at hb
  unfold frs at hb
  rw [List.filterMap_cons,hf] at hb
  exact hb
theorem Inv.stkFree (I:Inv X pins σ H s):∀b∈frs X.stack,H b=none:=fun b hb=>by
 rcases List.mem_cons.mp (I.stkSub b hb) with e | hb
 ·rw [e]; exact I.free
 ·obtain ⟨_,o,ho,_⟩:=I.ok.funs.mem hb
  exact I.base.free b o ho (I.ok.frf b hb) fun z=>I.ok.exfs b z hb
/-- THE STEP: the untracked objects but the frame and the records at ch are kept (the callers' frames up to slots),the frame's map is kept,the new abstract heap is held -/
theorem Inv.step {g':Array GenState}{t':Nat}{d':Drawn}{ch:List Addr}(I:Inv X pins σ H s)
  (hch:∀b∈ch,(b∈X.ex\/X.s₀.heap.objs.size<=b)/\b≠X.env.locals/\(∀x c,X.env.cells.lookup x=some c->c≠b)/\∀p∈X.pn++pins,p.1≠b)
  (keep:∀b o,b≠X.env.locals->b ∉ X.fs->b ∉ ch->s.heap.get? b=some o->H b=none->h'.get? b=some o)
  (slot:∀b o,b≠X.env.locals->b∈X.fs->b ∉ ch->s.heap.get? b=some o->H b=none->∃sl,h'.get? b=some { o with slots:=sl }) (free:∀b o,b ∉ ch->s.heap.get? b=some o->H b=none->H' b=none)
  (there:∀b o,b ∉ ch->s.heap.get? b=some o->∃o',h'.get? b=some o')
  (tups:∀b xs,H b=some (.tup xs)->H' b=some (.tup xs)) (frzs:∀b o u,H b=some (.frz o u)->H' b=some (.frz o u)) (tbls:∀b ps,H b=some (.tbl ps)->∃more,H' b=some (.tbl (ps++more)))
  (ns:∀m,s.heap.Ns X.env.locals m->h'.Ns X.env.locals m) (hok:HOk X.prog X.w H' h') (hg:AllBare g') :
  Inv X pins σ H' { s with heap:=h',gens:=g',drawn:=d',toks:=t' }:=by
 have neL:∀b o,X.s₀.heap.get? b=some o->b≠X.env.locals:=fun b o e=>Nat.ne_of_lt (Nat.lt_of_lt_of_le (Heap.lt_size e) I.ok.above)
 have neC:∀b o,X.s₀.heap.get? b=some o->b ∉ X.ex->b ∉ ch:=fun b o e hx hb=>by
  rcases (hch b hb).1 with z | z
  ·exact hx z
  ·exact absurd (Nat.lt_of_lt_of_le (Heap.lt_size e) z) (Nat.lt_irrefl _)
 have cellK:∀x c,X.env.cells.lookup x=some c->∀v,s.heap.IsCell c v->h'.IsCell c v:=fun x c e v ⟨o,ho,hd⟩=>by
  have nch:c ∉ ch:=fun z=>(hch c z).2.2.1 x c e rfl
  by_cases hc:c∈X.fs
  ·obtain ⟨sl,q⟩:=slot c o (I.cne x c e) hc nch ho (I.freeC x c e)
   exact ⟨_,q,hd⟩
  ·exact ⟨o,keep c o (I.cne x c e) hc nch ho (I.freeC x c e),hd⟩
 refine ⟨I.ok,I.os,hg,⟨fun b o e n hb hx=>?_,fun b o e n hb hx=>?_,fun b o e n hx=>?_,fun b o e hx=>?_,fun b xs e=>tups b xs (I.base.tups b xs e),fun b o xs e=>frzs b o xs (I.base.frzs b o xs e),fun b ps e=>?_⟩,?_,fun x c e=>?_,?_,fun x c e=>?_,fun p hp=>?_,hok,I.len⟩
 ·exact keep b o (neL b o e) hb (neC b o e hx) (I.base.keep b o e n hb hx) (I.base.free b o e n hx)
 ·obtain ⟨sl,e1⟩:=I.base.slot b o e n hb hx
  obtain ⟨sl',e2⟩:=slot b _ (neL b o e) hb (neC b o e hx) e1 (I.base.free b o e n hx)
  exact ⟨sl',e2⟩
 ·obtain ⟨o',e1⟩:=I.base.there b o e hx
  exact free b o' (neC b o e hx) e1 (I.base.free b o e n hx)
 ·obtain ⟨o',e1⟩:=I.base.there b o e hx
  exact there b o' (neC b o e hx) e1
 ·obtain ⟨m1,e1⟩:=I.base.tbls b ps e
  obtain ⟨m2,e2⟩:=tbls b _ e1
  exact ⟨m1++m2,by rw [e2,Array.append_assoc]⟩
 ·obtain ⟨m,hn,hl⟩:=I.loc
  refine ⟨m,ns m hn,fun i x v e1 e2 e3=>?_⟩
  obtain ⟨u,r,l⟩:=hl i x v e1 e2 e3
  refine ⟨u,r,?_⟩
  rcases l with l | ⟨k,c,e,z⟩
  ·exact .inl l
  ·exact .inr ⟨k,c,e,cellK x c e _ z⟩
 ·obtain ⟨v,z⟩:=I.cell x c e
  exact ⟨v,cellK x c e v z⟩
 ·obtain ⟨m,⟨o,_,_,ho,_⟩,_⟩:=I.loc
  exact free _ o (fun z=>(hch _ z).2.1 rfl) ho I.free
 ·obtain ⟨v,o,ho,hd⟩:=I.cell x c e
  exact free c o (fun z=>(hch c z).2.2.1 x c e rfl) ho (I.freeC x c e)
 ·obtain ⟨e,n,ne,nf,d⟩:=I.pin p hp
  have nch:p.1 ∉ ch:=fun z=>(hch p.1 z).2.2.2 p hp rfl
  exact ⟨keep p.1 p.2 ne nf nch e n,free p.1 p.2 nch e n,ne,nf,d⟩
theorem Inv.un {t':Nat}(I:Inv X pins σ H s) (u:Un X.fs [] H H' s.heap h') (hok:HOk X.prog X.w H' h'):Inv X pins σ H' { s with heap:=h',toks:=t' }:=by
 obtain ⟨m,⟨o,es,ep,ho,r⟩,_⟩:=id I.loc
 obtain ⟨sl,hL⟩:=u.any ho I.free (by simp)
 exact I.step (g':=s.gens) (d':=s.drawn) (ch:=[]) (fun _ z=>nomatch z) (fun b o _ hb _ e n=>u.keep b o e n hb (by simp)) (fun b o _ hb _ e n=>u.slot b o e n hb (by simp)) (fun b o _ e n=>u.free b o e n (by simp)) (fun b o _ e=>u.there b o e (by simp)) u.tups u.frzs u.tbls (fun m' hm=>by
  obtain ⟨o',es',ep',ho',r'⟩:=hm
  rw [ho] at ho'; cases ho'
  exact ⟨_,es',ep',hL,r'⟩) hok I.bare
theorem Inv.call {g':Array GenState}{t':Nat}{d':Drawn}{ch:List Addr}(I:Inv X pins σ H s) (u:Un (frs X.stack) ch H H' s.heap h') (hok:HOk X.prog X.w H' h') (hg:AllBare g')
  (hch:∀b∈ch,(b∈X.ex\/X.s₀.heap.objs.size<=b)/\b≠X.env.locals/\(∀x c,X.env.cells.lookup x=some c->c≠b)/\∀p∈X.pn++pins,p.1≠b) :
  Inv X pins σ H' { s with heap:=h',gens:=g',drawn:=d',toks:=t' }:=by
 obtain ⟨m,⟨o,es,ep,ho,r⟩,_⟩:=id I.loc
 obtain ⟨sl,hL⟩:=u.any ho I.free fun z=>(hch _ z).2.1 rfl
 exact I.step (ch:=ch) hch (fun b o hL hb hc e n=>u.keep b o e n (fun z=>(List.mem_cons.mp (I.stkSub b z)).elim hL hb) hc) (fun b o _ _ hc e n=>u.any e n hc) (fun b o hc e n=>u.free b o e n hc) (fun b o hc e=>u.there b o e hc) u.tups u.frzs u.tbls (fun m' hm=>by
  obtain ⟨o',es',ep',ho',r'⟩:=hm
  rw [ho] at ho'; cases ho'
  exact ⟨_,es',ep',hL,r'⟩) hok hg
theorem Inv.turned {t':Nat}{it:Addr}(I:Inv X pins σ H s) (k:∀b o,b≠it->s.heap.get? b=some o->h'.get? b=some o) (hn:H it=none) (hL:it≠X.env.locals)
  (h1:it∈X.ex\/X.s₀.heap.objs.size<=it) (h2:∀x c,X.env.cells.lookup x=some c->c≠it) (h3:∀p∈X.pn++pins,p.1≠it):Inv X pins σ H { s with heap:=h',toks:=t' }:=by
 have nit:∀b u,H b=some u->b≠it:=fun b u e z=>by rw [z,hn] at e; cases e
 refine I.step (g':=s.gens) (d':=s.drawn) (ch:=[it]) (fun b hb=>?_) (fun b o _ _ hc e _=>k b o (fun z=>hc (by simp [z])) e) (fun b o _ _ hc e _=>⟨o.slots,k b o (fun z=>hc (by simp [z])) e⟩) (fun _ _ _ _ n=>n)
  (fun b o hc e=>⟨o,k b o (fun z=>hc (by simp [z])) e⟩) (fun _ _ e=>e) (fun _ _ _ e=>e) (fun b ps e=>⟨#[],by rw [e]; simp⟩) (fun m hm=>?_) (fun b u e=>?_) I.bare
 ·have e:b=it:=by simpa using hb
  subst e
  exact ⟨h1,hL,h2,h3⟩
 ·obtain ⟨o,es,ep,ho,r⟩:=hm
  exact ⟨o,es,ep,k _ o (Ne.symm hL) ho,r⟩
 ·refine (I.hok b u e).stay (fun c v hc q=>k c v ?_ q) (fun _ q=>q) fun _ _ q=>q
  rcases hc with z | z
  ·rw [z]; exact nit b u e
  ·exact nit c _ z
theorem Inv.tok (I:Inv X pins σ H s) (t:Nat):Inv X pins σ H { s with toks:=t }:=I.un (h':=s.heap) (t':=t) Un.refl I.hok
theorem Inv.kept {t':Nat}(I:Inv X pins σ H s) (k:∀b u,s.heap.get? b=some u->h'.get? b=some u):Inv X pins σ H { s with heap:=h',toks:=t' }:=I.un (Un.kept k) (I.hok.kept k)
theorem Inv.laid {a:Addr}{o:HO}{t':Nat}(I:Inv X pins σ H s) (k:∀b u,s.heap.get? b=some u->h'.get? b=some u) (hp:s.heap.objs.size<=a) (new:ObjOk X.prog X.w (upd H a o) h' a o) :
  Inv X pins σ (upd H a o) { s with heap:=h',toks:=t' }:=I.un (Un.laid k hp (I.hok.fresh hp)) (I.hok.laid k hp new)
theorem Inv.write {x e:Addr}{o:HO}{t':Nat}(I:Inv X pins σ H s) (mu:Mut (H x)) (he:e=x\/H e=some (.own x)) (k:∀b u,b≠e->s.heap.get? b=some u->h'.get? b=some u) (heo:∃u,h'.get? e=some u)
  (new:ObjOk X.prog X.w (upd H x o) h' x o):Inv X pins σ (upd H x o) { s with heap:=h',toks:=t' }:=I.un (Un.write mu he k heo) (I.hok.write mu he k heo new)
theorem Inv.pins_of {pins':List (Addr×Obj)}(I:Inv X pins σ H s) (h:∀p∈pins',s.heap.get? p.1=some p.2/\H p.1=none/\p.1≠X.env.locals/\p.1 ∉ X.fs/\∀v,p.2.data≠.cell v):Inv X pins' σ H s :=
 ⟨I.ok,I.os,I.bare,I.base,I.loc,I.cell,I.free,I.freeC,fun p hp=>(List.mem_append.mp hp).elim (fun z=>I.pin p (List.mem_append_left _ z)) (h p),I.hok,I.len⟩
theorem iu {N:List Str}(hN:N.Nodup) {i j:Nat}{x:Str}(a:N[i]?=some x) (b:N[j]?=some x):i=j:=by
 obtain ⟨h1,e1⟩:=List.getElem?_eq_some_iff.mp a
 obtain ⟨h2,e2⟩:=List.getElem?_eq_some_iff.mp b
 exact (List.getElem_inj hN).mp (e1.trans e2.symm)
theorem gl {M:Model}{A:Around}{E:Value->Shared->Prop}{i:Nat}{x:Str}{v:V}{u:Value}{Q:Unit->Shared->Prop}(I:Inv X pins σ H s) (hN:X.N.Nodup) (hi:X.N[i]?=some x) (hx:Loc X.env.scope x) (r:RelV v u)
  (h:∀s',Inv X pins (σ.set i (some v)) H s'->(∃a,Heap.SameBut a s.heap s'.heap/\(a=X.env.locals\/X.env.cells.lookup x=some a))->Q () s') (hf:X.fn x=true\/X.env.scope.names.lookup x=some .local:=by first | exact .inl rfl | exact .inr rfl | assumption):wpAny M A (storeName X.env x u) Q E s:=by
 obtain ⟨m,hn,hl⟩:=id I.loc
 have hcls:(X.env.scope.kind == .class||(X.env.scope.kind == .module&&X.env.locals != X.env.globals))=false:=by rw [I.ok.kind]; rfl
 have hiσ:i<σ.length:=by rw [I.len]; exact (List.getElem?_eq_some_iff.mp hi).1
 have cne:=I.cne
 have tracked:∀{a:Addr}{h':Heap},(∃o,s.heap.get? a=some o/\H a=none)->Heap.SameBut a s.heap h'->HOk X.prog X.w H h':=fun {a h'} ha hs b ob e=>by
  obtain ⟨_,_,hfree⟩:=ha
  refine (I.hok b ob e).stay (fun c w' hc q=>(hs.2 c ?_).trans q) (fun _ q=>q) fun _ _ q=>q
  rintro rfl
  rcases hc with rfl | hc
  ·rw [hfree] at e; cases e
  ·rw [hfree] at hc; cases hc
 rcases hx with hk | hk
 ·refine wpAny_storeName_local hk hn (fun h' hn' hs=>?_) hcls
  obtain ⟨oL,_,_,hoL,_⟩:=id hn
  refine h _ ⟨I.ok,I.os,I.bare,⟨fun b o e n hb hx=>?_,fun b o e n hb hx=>?_,I.base.free,fun b o e hx=>?_,I.base.tups,I.base.frzs,I.base.tbls⟩,⟨_,hn',fun j y v' e1 e2 e3=>?_⟩,fun y c e=>?_,I.free,I.freeC,fun p hp=>?_,tracked ⟨oL,hoL,I.free⟩ hs,by simpa using I.len⟩ ⟨_,hs,.inl rfl⟩
  ·exact (hs.2 b (Nat.ne_of_lt (Nat.lt_of_lt_of_le (Heap.lt_size e) I.ok.above))).trans (I.base.keep b o e n hb hx)
  ·obtain ⟨sl,e1⟩:=I.base.slot b o e n hb hx
   exact ⟨sl,(hs.2 b (Nat.ne_of_lt (Nat.lt_of_lt_of_le (Heap.lt_size e) I.ok.above))).trans e1⟩
  ·obtain ⟨o',e1⟩:=I.base.there b o e hx
   exact ⟨o',(hs.2 b (Nat.ne_of_lt (Nat.lt_of_lt_of_le (Heap.lt_size e) I.ok.above))).trans e1⟩
  ·by_cases hj:j=i
   ·subst hj
    rw [hi] at e1; cases e1
    rw [List.getElem?_set_self hiσ] at e2
    cases e2
    exact ⟨u,r,.inl ⟨hk,by simp⟩⟩
   ·rw [List.getElem?_set_ne (Ne.symm hj)] at e2
    obtain ⟨u',r',q⟩:=hl j y v' e1 e2 e3
    refine ⟨u',r',?_⟩
    rcases q with ⟨k,e⟩ | ⟨k,c,e,z⟩
    ·refine .inl ⟨k,?_⟩
     have:y≠x:=fun e=>hj (iu hN e1 (e ▸ hi))
     simp [this,e]
    ·exact .inr ⟨k,c,e,z.sameBut hs (cne y c e)⟩
  ·obtain ⟨w',z⟩:=I.cell y c e
   exact ⟨w',z.sameBut hs (cne y c e)⟩
  ·obtain ⟨e,n,ne,nf,d⟩:=I.pin p hp
   exact ⟨(hs.2 p.1 ne).trans e,n,ne,nf,d⟩
 ·have hfn:X.fn x=true:=by
   rcases hf with z | z
   ·exact z
   ·rw [z] at hk; cases hk
  obtain ⟨c,hc⟩:=I.ok.has x (.inl hk)
  obtain ⟨w',z⟩:=I.cell x c hc
  refine wpAny_storeName_cell I.ok.kind hk hc z (fun h' hc' hs=>?_)
  obtain ⟨oc,hoc,hocd⟩:=id z
  refine h { s with heap:=h' } ⟨I.ok,I.os,I.bare,⟨fun b o e n hb hx=>?_,fun b o e n hb hx=>?_,I.base.free,fun b o e hx=>?_,I.base.tups,I.base.frzs,I.base.tbls⟩,⟨m,hn.sameBut hs (Ne.symm (cne x c hc)),fun j y v' e1 e2 e3=>?_⟩,fun y c' e=>?_,I.free,I.freeC,fun p hp=>?_,tracked ⟨oc,hoc,I.freeC x c hc⟩ hs,by simpa using I.len⟩ ⟨c,hs,.inr hc⟩
  ·exact (hs.2 b (Nat.ne_of_lt (Nat.lt_of_lt_of_le (Heap.lt_size e) (I.ok.cab x c hfn hc)))).trans (I.base.keep b o e n hb hx)
  ·obtain ⟨sl,e1⟩:=I.base.slot b o e n hb hx
   exact ⟨sl,(hs.2 b (Nat.ne_of_lt (Nat.lt_of_lt_of_le (Heap.lt_size e) (I.ok.cab x c hfn hc)))).trans e1⟩
  ·obtain ⟨o',e1⟩:=I.base.there b o e hx
   exact ⟨o',(hs.2 b (Nat.ne_of_lt (Nat.lt_of_lt_of_le (Heap.lt_size e) (I.ok.cab x c hfn hc)))).trans e1⟩
  ·by_cases hj:j=i
   ·subst hj
    rw [hi] at e1; cases e1
    rw [List.getElem?_set_self hiσ] at e2
    cases e2
    exact ⟨u,r,.inr ⟨.inl hk,c,hc,hc'⟩⟩
   ·rw [List.getElem?_set_ne (Ne.symm hj)] at e2
    obtain ⟨u',r',q⟩:=hl j y v' e1 e2 e3
    refine ⟨u',r',?_⟩
    rcases q with q | ⟨k,c',e,z'⟩
    ·exact .inl q
    ·refine .inr ⟨k,c',e,z'.sameBut hs ?_⟩
     rintro rfl
     exact hj (iu hN e1 (I.ok.inj _ _ _ e hc ▸ hi))
  ·by_cases hcc:c'=c
   ·subst hcc; exact ⟨_,hc'⟩
   ·obtain ⟨w2,z2⟩:=I.cell y c' e
    exact ⟨w2,z2.sameBut hs hcc⟩
  ·obtain ⟨e,n,ne,nf,d⟩:=I.pin p hp
   refine ⟨(hs.2 p.1 ?_).trans e,n,ne,nf,d⟩
   intro q
   rw [q,hoc] at e
   have q':oc=p.2:=Option.some.inj e
   exact d w' (by rw [<- q']; exact hocd)
theorem de {M:Model}{A:Around}{E:Value->Shared->Prop}{i:Nat}{x:Str}{v:V}{u:Value}{Q:Unit->Shared->Prop}(I:Inv X pins σ H s) (hN:X.N.Nodup) (hi:X.N[i]?=some x) (hx:Loc X.env.scope x) (r:RelV v u)
  (h:∀s',Inv X pins (σ.set i (some v)) H s'->Q () s') (hf:X.fn x=true\/X.env.scope.names.lookup x=some .local:=by first | exact .inl rfl | exact .inr rfl | assumption):wpAny M A (storeName X.env x u) Q E s :=
 gl I hN hi hx r (fun s' I' _=>h s' I') hf
theorem Inv.call' {s':Shared}{ch:List Addr}(I:Inv X pins σ H s) (ho:s'.os=s.os) (u:Un (frs X.stack) ch H H' s.heap s'.heap) (hok:HOk X.prog X.w H' s'.heap) (hg:AllBare s'.gens)
  (hch:∀b∈ch,(b∈X.ex\/X.s₀.heap.objs.size<=b)/\b≠X.env.locals/\(∀x c,X.env.cells.lookup x=some c->c≠b)/\∀p∈X.pn++pins,p.1≠b):Inv X pins σ H' s':=by
 obtain ⟨h',g',d',t',o'⟩:=s'
 have e:o'=s.os:=ho
 subst e
 exact I.call (g':=g') (t':=t') (d':=d') u hok hg hch
end
abbrev XK:=Value->Option Addr->Hp->Prop
abbrev St:=List (Option V)
abbrev VK:=V->Hp->Prop
abbrev TE:=St->Hp->VK->Prop
abbrev TT:=St->Hp->(Bool->Hp->Prop)->Prop
abbrev TA:=St->Hp->(List V->Hp->Prop)->Prop
structure Ends where
 nx:St->Hp->Prop
 rt:VK
 bk:St->Hp->Prop:=fun _ _=>False
 ct:St->Hp->Prop:=fun _ _=>False
abbrev TS:=Ends->St->Hp->Prop
def EP (X:Cx) (pins:List (Addr×Obj)) (σ:St) (Q:VK) (u:Value) (s':Shared):Prop:=∃v H',Inv X pins σ H' s'/\RelV v u/\Q v H'
def TP (X:Cx) (pins:List (Addr×Obj)) (σ:St) (Q:Bool->Hp->Prop) (b:Bool) (s':Shared):Prop:=∃H',Inv X pins σ H' s'/\Q b H'
def AP (X:Cx) (pins:List (Addr×Obj)) (σ:St) (Q:List V->Hp->Prop) (us:List Value) (s':Shared):Prop:=∃vs H',Inv X pins σ H' s'/\Vals vs us/\Q vs H'
def SP (X:Cx) (pins:List (Addr×Obj)) (D:Ends) (f:Flow) (s':Shared):Prop :=
 match f with
 | .next=>∃ σ' H',Inv X pins σ' H' s'/\D.nx σ' H'
 | .brk=>∃ σ' H',Inv X pins σ' H' s'/\D.bk σ' H'
 | .cont=>∃ σ' H',Inv X pins σ' H' s'/\D.ct σ' H'
 | .ret u=>∃v σ' H',Inv X pins σ' H' s'/\RelV v u/\D.rt v H'
def PE (X:Cx) (e:Expr) (t:TE):Prop :=
 ∀(pins:List (Addr×Obj)) (s:Shared) (σ:St) (H:Hp) (Q:VK),Inv X pins σ H s->t σ H Q->wpAny (model X.prog X.w) X.A (eval e X.env) (EP X pins σ Q) X.xe s
def PT (X:Cx) (e:Expr) (t:TT):Prop :=
 ∀(pins:List (Addr×Obj)) (s:Shared) (σ:St) (H:Hp) (Q:Bool->Hp->Prop),Inv X pins σ H s->t σ H Q->wpAny (model X.prog X.w) X.A (isTrue e X.env (eval e X.env)) (TP X pins σ Q) X.xe s
def PW (X:Cx) (e:Expr) (t:TT):Prop :=
 ∀(whole:Sem Value) (pins:List (Addr×Obj)) (s:Shared) (σ:St) (H:Hp) (Q:Bool->Hp->Prop),Inv X pins σ H s->t σ H Q->wpAny (model X.prog X.w) X.A (isTrue e X.env whole) (TP X pins σ Q) X.xe s
theorem PW.pt {X:Cx}{e:Expr}{t:TT}(h:PW X e t):PT X e t:=h _
def PA (X:Cx) (es:List Expr) (t:TA):Prop :=
 ∀(pos:Pos) (pins:List (Addr×Obj)) (s:Shared) (σ:St) (H:Hp) (Q:List V->Hp->Prop),Inv X pins σ H s->t σ H Q->wpAny (model X.prog X.w) X.A (spliced (backTo pos (starEach es X.env))) (AP X pins σ Q) X.xe s
def PS (X:Cx) (st:Stmt) (t:TS):Prop :=
 ∀(pins:List (Addr×Obj)) (s:Shared) (σ:St) (H:Hp) (D:Ends),Inv X pins σ H s->t D σ H->wpAny (model X.prog X.w) X.A (exec st X.env) (SP X pins D) X.xe s
def PSs (X:Cx) (st:List Stmt) (t:TS):Prop :=
 ∀(pins:List (Addr×Obj)) (s:Shared) (σ:St) (H:Hp) (D:Ends),Inv X pins σ H s->t D σ H->wpAny (model X.prog X.w) X.A (execs st X.env) (SP X pins D) X.xe s
theorem thn {α:Type}{t:Sem α}{Q Q':α->Shared->Prop}{M:Model}{A:Around}{E:Value->Shared->Prop}{s:Shared}(h:wpAny M A t Q E s) (hQ:∀a s,Q a s->Q' a s):wpAny M A t Q' E s:=wpAny_mono h hQ fun _ _ x=>x
section
variable {X:Cx}
def lX (i:Nat):TE:=fun σ H Q=>∃v,σ[i]?=some (some v)/\Q v H
def tC (v:V):TE:=fun _ H Q=>Q v H
theorem j1 {i:Nat}{x:Str}{pos:Pos}(hN:X.N[i]?=some x) (hv:Vis X.env.scope x) (hd:(x == ("__debug__":Str))=false:=by decide) (hcd:(x == ("__classdict__":Str))=false:=by decide):PE X (.Name x pos) (lX i):=by
 intro pins s σ H Q I h
 obtain ⟨v,e,h⟩:=h
 obtain ⟨m,hn,hl⟩:=I.loc
 obtain ⟨u,r,l⟩:=hl i x v hN e hv
 have fin:EP X pins σ Q u s:=⟨v,H,I,r,h⟩
 rcases l with ⟨hk,hm⟩ | ⟨hk,c,hc,hcell⟩
 ·exact wpAny_Name (wpAny_loadName_local I.ok.kind hk hn hm fin) hd
 ·rcases hk with hk | hk
  ·exact wpAny_Name (wpAny_loadName_cell I.ok.kind hk hc hcell fin) hd
  ·exact wpAny_Name (wpAny_loadName_free I.ok.kind hk hc hcell fin hcd) hd
theorem yq {i j pos}:PE X (.Constant (.int i) j pos) (tC (.int i)):=fun _ _ _ H _ I h=>wpAny_Constant_int ⟨.int i,H,I.tok _,⟨_,rfl⟩,h⟩
theorem zV {b j pos}:PE X (.Constant (.bool b) j pos) (tC (.bl b)):=fun _ _ _ H _ I h=>Constant_bool ⟨.bl b,H,I,rfl,h⟩
theorem yo {j pos}:PE X (.Constant .none j pos) (tC .non):=fun _ _ _ H _ I h=>Constant_none ⟨.non,H,I,rfl,h⟩
theorem yk {x j pos}:PE X (.Constant (.str x) j pos) (tC (.str x)):=fun _ _ _ H _ I h=>Calls.Constant_str ⟨.str x,H,I.tok _,⟨_,rfl⟩,h⟩
def Gl (X:Cx) (x:Str):Prop:=X.env.kindOf x=some .globalImplicit
theorem fZ {E:Value->Shared->Prop}{pins:List (Addr×Obj)}{s:Shared}{σ:St}{H:Hp}{x:Str}{u:Value}{pos:Pos}{Q:Value->Shared->Prop}(I:Inv X pins σ H s) (hg:Gl X x) (hm:X.mg x=some u) (h:Q u s)
  (hd:(x == ("__debug__":Str))=false:=by decide):wpAny (model X.prog X.w) X.A (eval (.Name x pos) X.env) Q E s :=
 Calls.Name_function_global I.ok.kind hg (Calls.loadGlobal_global (by rw [I.ok.glob]; exact I.mod.glob.keeps I.bk) hm h) hd
theorem bP {E:Value->Shared->Prop}{pins:List (Addr×Obj)}{s:Shared}{σ:St}{H:Hp}{x:Str}{u:Value}{pos:Pos}{Q:Value->Shared->Prop}(I:Inv X pins σ H s) (hg:Gl X x) (hm:X.mg x=none) (hv:bootBuiltins x=some u) (h:Q u s)
  (hn:x≠"__name__":=by decide) (hd:(x == ("__debug__":Str))=false:=by decide):wpAny (model X.prog X.w) X.A (eval (.Name x pos) X.env) Q E s:=by
 obtain ⟨mb,h1,h2⟩:=I.mod.blt
 exact Calls.Name_function_global I.ok.kind hg (Calls.loadGlobal_builtin (by rw [I.ok.glob]; exact I.mod.glob.keeps I.bk) hm (by rw [I.ok.blt]; exact h1.keeps I.bk) ((h2 x hn).trans hv) h) hd
theorem vF {x:Str}{v:V}{u:Value}{pos:Pos}(hg:Gl X x) (hm:X.mg x=some u) (r:RelV v u) (hd:(x == ("__debug__":Str))=false:=by decide):PE X (.Name x pos) (tC v) :=
 fun _ _ _ H _ I h=>fZ I hg hm ⟨v,H,I,r,h⟩ hd
theorem vL {x:Str}{v:V}{u:Value}{pos:Pos}(hg:Gl X x) (hm:X.mg x=none) (hv:bootBuiltins x=some u) (r:RelV v u) (hn:x≠"__name__":=by decide) (hd:(x == ("__debug__":Str))=false:=by decide):PE X (.Name x pos) (tC v) :=
 fun _ _ _ H _ I h=>bP I hg hm hv ⟨v,H,I,r,h⟩ hn hd
def t2I (ta tb:TE) (k:Int->Int->Hp->Prop):St->Hp->Prop:=fun σ H=>ta σ H fun x H1=>tb σ H1 fun y H2=>∃i j,x=.int i/\y=.int j/\k i j H2
def BI (ta tb:TE):TE:=fun σ H Q=>t2I ta tb (fun i j H2=>Q (.int (i+j)) H2) σ H
def Bx (ta tb:TE):TE:=fun σ H Q=>t2I ta tb (fun i j H2=>Q (.int (i-j)) H2) σ H
def BB (ta tb:TE):TE:=fun σ H Q=>t2I ta tb (fun i j H2=>(-(2 ^ 64)<i/\i<2 ^ 64)/\Q (.int (i*j)) H2) σ H
variable {a b:Expr}{ta tb:TE}{pos:Pos}
def PC (X:Cx) (op:CmpOp) (a b:Expr) (t:TE):Prop :=
 ∀(pins:List (Addr×Obj)) (s:Shared) (σ:St) (H:Hp) (Q:VK),Inv X pins σ H s->t σ H Q ->
  wpAny (model X.prog X.w) X.A (eval a X.env) (fun v s₁=>wpAny (model X.prog X.w) X.A (eval b X.env) (fun u s₂=>wpAny (model X.prog X.w) X.A (compareOp op v u) (EP X pins σ Q) X.xe s₂) X.xe s₁) X.xe s
theorem kR (b:Expr) {op:CmpOp}(h:op≠.In) (h2:op≠.NotIn):behindInMarks op b=false:=by
 have e1:(op == CmpOp.In)=false:=by cases op <;> first | rfl | exact absurd rfl h
 have e2:(op == CmpOp.NotIn)=false:=by cases op <;> first | rfl | exact absurd rfl h2
 cases b <;> simp [behindInMarks,e1,e2]
def pA (p:Int->Int->Bool) (ta tb:TE):TE:=fun σ H Q=>t2I ta tb (fun i j H2=>Q (.bl (p i j)) H2) σ H
abbrev tLt:TE->TE->TE:=pA fun i j=>decide (i<j)
abbrev tLe:TE->TE->TE:=pA fun i j=>decide (i<=j)
abbrev tGt:TE->TE->TE:=pA fun i j=>decide (j<i)
abbrev tGe:TE->TE->TE:=pA fun i j=>decide (j<=i)
abbrev BD:TE->TE->TE:=pA fun i j=>decide (i=j)
abbrev BA:TE->TE->TE:=pA fun i j=>!decide (i=j)
def zA (ta:TE):TE:=fun σ H Q=>ta σ H fun x H1=>Q (.bl (decide (x=.non))) H1
def wV (ta:TE):TE:=fun σ H Q=>ta σ H fun x H1=>Q (.bl (!decide (x=.non))) H1
theorem RelV.none_iff {x:V}{v:Value}(r:RelV x v):(v == Value.none)=decide (x=.non):=by
 cases x with
 | non=>cases r; rfl
 | bl _=>cases r; rfl
 | int _=>obtain ⟨t,rfl⟩:=r; rfl
 | str _=>obtain ⟨t,rfl⟩:=r; rfl
 | byt _=>obtain ⟨t,rfl⟩:=r; rfl
 | flt _=>obtain ⟨t,rfl⟩:=r; rfl
 | ref _=>cases r; rfl
 | ty _=>cases r; rfl
theorem yt {j pos'} (ha:PE X a ta):PC X .Is a (.Constant .none j pos') (zA ta):=by
 intro pins s σ H Q I h
 refine thn (ha pins s σ H _ I h) fun v s1 ⟨x,H1,I1,r1,q1⟩=>?_
 exact Constant_none (is_none_gen ⟨.bl _,H1,I1,by rw [r1.none_iff]; rfl,q1⟩)
theorem vM {j pos'} (ha:PE X a ta):PC X .IsNot a (.Constant .none j pos') (wV ta):=by
 intro pins s σ H Q I h
 refine thn (ha pins s σ H _ I h) fun v s1 ⟨x,H1,I1,r1,q1⟩=>?_
 exact Constant_none (isnot_none_gen ⟨.bl _,H1,I1,by rw [r1.none_iff]; rfl,q1⟩)
def tB (t:TE):TT:=fun σ H Q=>t σ H fun x H1=>∃c,x=.bl c/\Q c H1
theorem sd {op:CmpOp}{t:TE}(h:PC X op a b t) (h1:behindInMarks op b=false:=by first | exact kR _ (by decide) (by decide) | rfl):PE X (.Compare a [op] [b] pos) t:=fun pins s σ H Q I hw=>wpAny_Compare1 (h pins s σ H Q I hw) h1
theorem ya {op:CmpOp}{t:TE}(h:PC X op a b t) (h1:behindInMarks op b=false:=by first | exact kR _ (by decide) (by decide) | rfl):PT X (.Compare a [op] [b] pos) (tB t):=by
 intro pins s σ H Q I hw
 refine wpAny_isTrue_Compare1 (thn (h pins s σ H _ I hw) fun v s1 h1=>thn h1 fun u s2 h2=>thn h2 fun c s3 ⟨x,H1,I1,r1,q1⟩=>?_) h1
 obtain ⟨d,rfl,q⟩:=q1
 cases r1
 exact wpAny_truthy_bool ⟨H1,I1,q⟩
theorem x9 {e:Expr}{t:TE}(h:PE X e t) (he:∀whole,isTrue e X.env whole=(do let v <- whole; standAt e.pos; holding [v] (truthy v)):=by intro _; rfl):PT X e (tB t):=by
 intro pins s σ H Q I hw
 refine isTrue_plain (thn (h pins s σ H _ I hw) fun v s1 ⟨x,H1,I1,r1,q1⟩=>?_) (he _)
 obtain ⟨d,rfl,q⟩:=q1
 cases r1
 exact wpAny_truthy_bool ⟨H1,I1,q⟩
variable {tA tB':TT}{rest:List Expr}
def zE (t u:TT):TT:=fun σ H Q=>t σ H fun c H1=>if c=true then u σ H1 Q else Q false H1
def tOr (t u:TT):TT:=fun σ H Q=>t σ H fun c H1=>if c=true then Q true H1 else u σ H1 Q
def zx (t:TT):TT:=fun σ H Q=>t σ H fun c H1=>Q (!c) H1
theorem vf (ha:PT X a tA):PW X (.BoolOp .And [a] pos) tA:=by
 intro wh pins s σ H Q I h
 refine isTrue_and (thn (ha pins s σ H Q I h) fun c s1 e=>?_)
 cases c with
 | true=>exact isTrue_and_nil e
 | false=>exact e
theorem xZ (ha:PT X a tA):PW X (.BoolOp .Or [a] pos) tA:=by
 intro wh pins s σ H Q I h
 refine isTrue_or (thn (ha pins s σ H Q I h) fun c s1 e=>?_)
 cases c with
 | false=>exact isTrue_or_nil e
 | true=>exact e
theorem x8 (ha:PT X a tA) (hb:PW X (.BoolOp .And (b :: rest) pos) tB'):PW X (.BoolOp .And (a :: b :: rest) pos) (zE tA tB'):=by
 intro wh pins s σ H Q I h
 refine isTrue_and (thn (ha pins s σ H _ I h) fun c s1 ⟨H1,I1,q1⟩=>?_)
 cases c with
 | true=>exact hb wh pins s1 σ H1 Q I1 q1
 | false=>exact ⟨H1,I1,q1⟩
theorem zP (ha:PT X a tA) (hb:PW X (.BoolOp .Or (b :: rest) pos) tB'):PW X (.BoolOp .Or (a :: b :: rest) pos) (tOr tA tB'):=by
 intro wh pins s σ H Q I h
 refine isTrue_or (thn (ha pins s σ H _ I h) fun c s1 ⟨H1,I1,q1⟩=>?_)
 cases c with
 | true=>exact ⟨H1,I1,q1⟩
 | false=>exact hb wh pins s1 σ H1 Q I1 q1
theorem x_ (ha:PT X a tA):PT X (.UnaryOp .Not a pos) (zx tA):=by
 intro pins s σ H Q I h
 exact isTrue_not (ha pins s σ H (fun c H1=>Q (!c) H1) I h)
def w4 (ta tb:TE):TE:=fun σ H Q=>ta σ H fun x H1=>∃c,x=.bl c/\if c=true then tb σ H1 Q else Q (.bl false) H1
def Bz (ta tb:TE):TE:=fun σ H Q=>ta σ H fun x H1=>∃c,x=.bl c/\if c=true then Q (.bl true) H1 else tb σ H1 Q
def wU (ta:TE):TE:=fun σ H Q=>ta σ H fun x H1=>∃c,x=.bl c/\Q (.bl (!c)) H1
theorem ym {op} {t:TE}(h:PE X a t):PE X (.BoolOp op [a] pos) t:=fun pins s σ H Q I hw=>BoolOp_one (h pins s σ H Q I hw)
theorem yr (ha:PE X a ta) (hb:PE X (.BoolOp .And (b :: rest) pos) tb):PE X (.BoolOp .And (a :: b :: rest) pos) (w4 ta tb):=by
 intro pins s σ H Q I h
 refine BoolOp_and (thn (ha pins s σ H _ I h) fun v s1 ⟨x,H1,I1,r1,q1⟩=>?_)
 obtain ⟨c,rfl,q1⟩:=q1
 cases r1
 refine wpAny_truthy_bool ?_
 cases c with
 | true=>exact hb pins s1 σ H1 Q I1 q1
 | false=>exact ⟨.bl false,H1,I1,rfl,q1⟩
theorem yn (ha:PE X a ta):PE X (.UnaryOp .Not a pos) (wU ta):=by
 intro pins s σ H Q I h
 refine UnaryOp_ (thn (ha pins s σ H _ I h) fun v s1 ⟨x,H1,I1,r1,q1⟩=>?_)
 obtain ⟨c,rfl,q1⟩:=q1
 cases r1
 exact not_of (wpAny_truthy_bool ⟨.bl (!c),H1,I1,rfl,q1⟩)
def tIf (t:TT) (ta tb:TE):TE:=fun σ H Q=>t σ H fun c H1=>if c=true then ta σ H1 Q else tb σ H1 Q
theorem rZ {c:Expr}(hc:PT X c tA) (ha:PE X a ta) (hb:PE X b tb):PE X (.IfExp c a b pos) (tIf tA ta tb):=by
 intro pins s σ H Q I h
 refine wpAny_IfExp (thn (hc pins s σ H _ I h) fun d s1 ⟨H1,I1,q1⟩=>?_)
 cases d with
 | true=>exact ha pins s1 σ H1 Q I1 q1
 | false=>exact hb pins s1 σ H1 Q I1 q1
end
def SqL (K:PySem.W.Frag) (H:Hp) (a:Addr) (xs:List V):Prop :=
 Rd H a (.lst xs) \/
  ∃(o:Obj) (its:Array Value) (n:Nat),K.lookup a=some o/\o.cls=.type "list"/\o.dict=none/\o.data=.seq its n/\its.size<=sizeLine/\Vals xs its.toList
def SqT (K:PySem.W.Frag) (H:Hp) (a:Addr) (xs:List V):Prop :=
 Rd H a (.tup xs) \/
  ∃(o:Obj) (its:Array Value) (n:Nat),K.lookup a=some o/\o.cls=.type "tuple"/\o.data=.seq its n/\its.size<=sizeLine/\Vals xs its.toList
def A4:Value->Option V
 | .none=>some .non
 | .bool b=>some (.bl b)
 | .int i _=>some (.int i)
 | .str x _=>some (.str x)
 | .bytes b _=>some (.byt b)
 | .float b _=>some (.flt b)
 | .ref a=>some (.ref a)
 | .type n=>some (.ty n)
 | _=>none
theorem RelV.abs {x:V}{u:Value}(r:RelV x u):A4 u=some x:=by
 cases x with
 | non=>cases r; rfl
 | bl _=>cases r; rfl
 | int _=>obtain ⟨t,rfl⟩:=r; rfl
 | str _=>obtain ⟨t,rfl⟩:=r; rfl
 | byt _=>obtain ⟨t,rfl⟩:=r; rfl
 | flt _=>obtain ⟨t,rfl⟩:=r; rfl
 | ref _=>cases r; rfl
 | ty _=>cases r; rfl
theorem RelV.inj {x y:V}{u:Value}(r:RelV x u) (q:RelV y u):x=y:=Option.some.inj (r.abs.symm.trans q.abs)
theorem Vals.inj:∀{xs ys:List V}{us:List Value},Vals xs us->Vals ys us->xs=ys
 | _,_,_,.nil,.nil=>rfl
 | _,_,_,.cons r t,.cons r' t'=>by rw [r.inj r',Vals.inj t t']
section
variable {X:Cx}{pins:List (Addr×Obj)}{σ:St}{H:Hp}{s:Shared}{a:Addr}{xs ys:List V}
theorem SqL.of {K:PySem.W.Frag}(h:H a=some (.lst xs)):SqL K H a xs:=.inl (.inl h)
theorem SqT.of {K:PySem.W.Frag}(h:H a=some (.tup xs)):SqT K H a xs:=.inl (.inl h)
theorem Inv.list (I:Inv X pins σ H s) (h:SqL X.K H a xs):∃its:List Value,Vals xs its/\PlainL s.heap a its.toArray/\xs.length<=sizeLine:=by
 rcases h with h | ⟨o,its,n,hk,hc,hd,hs,hz,r⟩
 ·obtain ⟨z,its,n,r,e⟩:=h.ok I.hok
  exact ⟨its,r,⟨_,n,e,rfl,rfl,rfl⟩,z⟩
 ·refine ⟨its.toList,r,⟨o,n,I.kIn a o hk,hc,hd,by simpa using hs⟩,?_⟩
  have e:=r.length
  simp only [Array.length_toList] at e
  omega
theorem Inv.tuple (I:Inv X pins σ H s) (h:SqT X.K H a xs):∃its:List Value,Vals xs its/\IsTup s.heap a its.toArray/\xs.length<=sizeLine:=by
 rcases h with h | ⟨o,its,n,hk,hc,hs,hz,r⟩
 ·obtain ⟨z,its,r,p⟩:=h.ok I.hok
  exact ⟨its,r,p,z⟩
 ·refine ⟨its.toList,r,⟨o,I.kIn a o hk,hc,n,by simpa using hs⟩,?_⟩
  have e:=r.length
  simp only [Array.length_toList] at e
  omega
theorem Inv.list_inj (I:Inv X pins σ H s) (h:SqL X.K H a xs) (h':SqL X.K H a ys):xs=ys:=by
 obtain ⟨its,r,⟨o,n,e,_,_,d⟩,_⟩:=I.list h
 obtain ⟨its',r',⟨o',n',e',_,_,d'⟩,_⟩:=I.list h'
 rw [e] at e'; cases e'
 rw [d] at d'
 injection d' with d1 _
 have:its=its':=by simpa using congrArg Array.toList d1
 subst this
 exact r.inj r'
theorem Inv.tuple_inj (I:Inv X pins σ H s) (h:SqT X.K H a xs) (h':SqT X.K H a ys):xs=ys:=by
 obtain ⟨its,r,⟨o,e,_,n,d⟩,_⟩:=I.tuple h
 obtain ⟨its',r',⟨o',e',_,n',d'⟩,_⟩:=I.tuple h'
 rw [e] at e'; cases e'
 rw [d] at d'
 injection d' with d1 _
 have:its=its':=by simpa using congrArg Array.toList d1
 subst this
 exact r.inj r'
end
abbrev Cx.wish (X:Cx) (E:Value->Shared->Prop):Cx:={ X with xe:=E }
abbrev Cx.nox (X:Cx):Cx:=X.wish fun _ _=>False
theorem Cx.Ok.wish {X:Cx}(ok:X.Ok) (E:Value->Shared->Prop):(X.wish E).Ok :=
 ⟨ok.mod,ok.kind,ok.glob,ok.blt,ok.above,ok.inj,ok.has,ok.cab,ok.hd,ok.frames,ok.stk,ok.exf,ok.bs,ok.bsz,ok.noex,ok.exfs,ok.funs,ok.frf⟩
theorem Cx.Ok.unwish {X:Cx}{E:Value->Shared->Prop}(ok:(X.wish E).Ok):X.Ok :=
 ⟨ok.mod,ok.kind,ok.glob,ok.blt,ok.above,ok.inj,ok.has,ok.cab,ok.hd,ok.frames,ok.stk,ok.exf,ok.bs,ok.bsz,ok.noex,ok.exfs,ok.funs,ok.frf⟩
section
variable {X:Cx}{pins:List (Addr×Obj)}{σ:St}{H:Hp}{s:Shared}{E:Value->Shared->Prop}
theorem Inv.wish (I:Inv X pins σ H s) (E:Value->Shared->Prop):Inv (X.wish E) pins σ H s:=⟨I.ok.wish E,I.os,I.bare,I.base,I.loc,I.cell,I.free,I.freeC,I.pin,I.hok,I.len⟩
theorem Inv.unwish (I:Inv (X.wish E) pins σ H s):Inv X pins σ H s:=⟨I.ok.unwish,I.os,I.bare,I.base,I.loc,I.cell,I.free,I.freeC,I.pin,I.hok,I.len⟩
theorem SP.unwish {D:Ends}{f:Flow}{s':Shared}(h:SP (X.wish E) pins D f s'):SP X pins D f s':=by
 cases f with
 | next=>obtain ⟨σ',H',I,q⟩:=h; exact ⟨σ',H',I.unwish,q⟩
 | brk=>obtain ⟨σ',H',I,q⟩:=h; exact ⟨σ',H',I.unwish,q⟩
 | cont=>obtain ⟨σ',H',I,q⟩:=h; exact ⟨σ',H',I.unwish,q⟩
 | ret u=>obtain ⟨v,σ',H',I,r,q⟩:=h; exact ⟨v,σ',H',I.unwish,r,q⟩
theorem PSs.nox {st:List Stmt}{t:TS}(h:PSs X.nox st t):PSs X st t:=fun pins s σ H D I hw =>
 wpAny_mono (h pins s σ H D (I.wish _) hw) (fun _ _ q=>q.unwish) fun _ _ z=>False.elim z
end
section
variable {X:Cx}{st:Stmt}{rest:List Stmt}{t u:TS}{e:Expr}{te:TE}{pos:Pos}
def wW:TS:=fun D σ H=>D.nx σ H
def zv (t u:TS):TS:=fun D σ H=>t { D with nx:=u D } σ H
theorem vj:PSs X [] wW:=fun _ _ σ H _ I h=>wpAny_execs_nil ⟨σ,H,I,h⟩
theorem rJ (h1:PS X st t) (h2:PSs X rest u):PSs X (st :: rest) (zv t u):=by
 intro pins s σ H D I h
 refine wpAny_execs_cons (thn (h1 pins s σ H { D with nx:=u D } I h) fun f s1 q=>?_)
 cases f with
 | next =>
  obtain ⟨σ',H',I',q⟩:=q
  exact h2 pins s1 σ' H' D I' q
 | ret v=>exact q
 | brk=>exact q
 | cont=>exact q
theorem vi (h1:PS X st t):PSs X [st] t:=by
 intro pins s σ H D I h
 refine wpAny_execs_cons (thn (h1 pins s σ H D I h) fun f s1 q=>?_)
 cases f with
 | next=>exact wpAny_execs_nil q
 | ret v=>exact q
 | brk=>exact q
 | cont=>exact q
def AE:TS:=fun D σ H=>D.bk σ H
def Be:TS:=fun D σ H=>D.ct σ H
theorem Inv.quiet {pins:List (Addr×Obj)}{σ:St}{H:Hp}{s:Shared}(I:Inv X pins σ H s):interactive X.env=false:=by simp [interactive,I.ok.kind]
def wX (te:TE):TS:=fun D σ H=>te σ H fun _ H1=>D.nx σ H1
theorem vp (he:PE X e te) (hs:swapsWith e none pos.line X.env=pure false:=by rfl):PS X (.Expr e pos) (wX te):=by
 intro pins s σ H D I h
 exact wpAny_Expr_any (thn (he pins s σ H _ I h) fun v s1 ⟨x,H1,I1,r1,q1⟩=>⟨σ,H1,I1,q1⟩) I.quiet hs
def zw (te:TE):TS:=fun D σ H=>te σ H D.rt
theorem yb (he:PE X e te):PS X (.Return (some e) pos) (zw te):=by
 intro pins s σ H D I h
 exact wpAny_Return_some (thn (he pins s σ H _ I h) fun v s1 ⟨x,H1,I1,r1,q1⟩=>⟨x,σ,H1,I1,r1,q1⟩)
def Ba:TS:=fun D _ H=>D.rt .non H
def zB (c:TT) (t u:TS):TS:=fun D σ H=>c σ H fun b H1=>if b=true then t D σ H1 else u D σ H1
theorem zQ {c:Expr}{a b:List Stmt}{tc:TT}(hc:PT X c tc) (ha:PSs X a t) (hb:PSs X b u):PS X (.If c a b pos) (zB tc t u):=by
 intro pins s σ H D I h
 refine wpAny_If (thn (hc pins s σ H _ I h) fun d s1 ⟨H1,I1,q1⟩=>?_)
 cases d with
 | true=>exact ha pins s1 σ H1 D I1 q1
 | false=>exact hb pins s1 σ H1 D I1 q1
def Au:TS:=fun _ _ _=>False
end
abbrev TG:=V->St->Hp->(St->Hp->Prop)->Prop
abbrev TGs:=List V->St->Hp->(St->Hp->Prop)->Prop
def PG (X:Cx) (target:Expr) (t:TG):Prop :=
 ∀(pins:List (Addr×Obj)) (s:Shared) (σ:St) (H:Hp) (v:V) (u:Value) (Q:St->Hp->Prop),Inv X pins σ H s->RelV v u->t v σ H Q ->
  wpAny (model X.prog X.w) X.A (assign target X.env u) (fun _ s'=>∃ σ' H',Inv X pins σ' H' s'/\Q σ' H') X.xe s
def PGs (X:Cx) (ts:List Expr) (t:TGs):Prop :=
 ∀(pins:List (Addr×Obj)) (s:Shared) (σ:St) (H:Hp) (vs:List V) (us:List Value) (Q:St->Hp->Prop),Inv X pins σ H s->Vals vs us->t vs σ H Q ->
  wpAny (model X.prog X.w) X.A (assignInOrder ((assignEach ts X.env).map (·.2)) us) (fun _ s'=>∃ σ' H',Inv X pins σ' H' s'/\Q σ' H') X.xe s
abbrev wN:=V->V->V->Hp->(Hp->Prop)->Prop
def An (X:Cx) (t:wN):Prop :=
 ∀(pins:List (Addr×Obj)) (s:Shared) (σ:St) (H:Hp) (o i v:V) (ov iv u:Value) (Q:Hp->Prop),Inv X pins σ H s->RelV o ov->RelV i iv->RelV v u->t o i v H Q ->
  wpAny (model X.prog X.w) X.A (setItem ov iv u) (fun _ s'=>∃H',Inv X pins σ H' s'/\Q H') X.xe s
abbrev TIp:=V->V->Hp->VK->Prop
def PIp (X:Cx) (op:Operator) (t:TIp):Prop :=
 ∀(pins:List (Addr×Obj)) (s:Shared) (σ:St) (H:Hp) (x y:V) (v u:Value) (Q:VK),Inv X pins σ H s->RelV x v->RelV y u->t x y H Q ->
  wpAny (model X.prog X.w) X.A (inplaceOp op v u) (EP X pins σ Q) X.xe s
section
variable {X:Cx}{pos:Pos}
def bZ (i:Nat):TG:=fun v σ H Q=>Q (σ.set i (some v)) H
theorem nQ {i:Nat}{x:Str}(hN:X.N.Nodup) (hi:X.N[i]?=some x) (hx:Loc X.env.scope x) (hf:X.fn x=true\/X.env.scope.names.lookup x=some .local:=by first | exact .inl rfl | exact .inr rfl | assumption):PG X (.Name x pos) (bZ i):=by
 intro pins s σ H v u Q I r h
 exact wpAny_assign_Name (de I hN hi hx r (fun s' I'=>⟨_,H,I',h⟩) hf)
def Af:TGs:=fun vs σ H Q=>vs=[]/\Q σ H
def xm (t:TG) (u:TGs):TGs:=fun vs σ H Q=>∃v r,vs=v :: r/\t v σ H fun σ' H'=>u r σ' H' Q
theorem vD:PGs X [] Af:=by
 intro pins s σ H vs us Q I r h
 obtain ⟨e,h⟩:=h
 subst e
 cases r
 exact assignInOrder_nil ⟨σ,H,I,h⟩
theorem rS {e:Expr}{es:List Expr}{t:TG}{u:TGs}(h1:PG X e t) (h2:PGs X es u)
  (hs:(assignEach (e :: es) X.env).map (·.2)=assign e X.env :: (assignEach es X.env).map (·.2):=by rfl):PGs X (e :: es) (xm t u):=by
 intro pins s σ H vs us Q I r h
 obtain ⟨v,vr,e1,h⟩:=h
 subst e1
 cases r with
 | cons r rr =>
  rw [hs]
  refine assignInOrder_cons (thn (h1 pins s σ H _ _ _ I r h) fun _ s1 ⟨σ1,H1,I1,q1⟩=>?_)
  exact h2 pins s1 σ1 H1 _ _ Q I1 rr q1
def Ad (K:PySem.W.Frag) (n:Nat) (t:TGs):TG:=fun v σ H Q=>∃a xs,v=.ref a/\SqT K H a xs/\xs.length=n/\t xs σ H Q
theorem yh {es:List Expr}{k:Nat}{t:TGs}{n:Nat}(hc:X.calm=true) (h:PGs X es t)
  (hn:(assignEach es X.env).length=n:=by rfl) (hst:(assignEach es X.env).findIdx? (·.1)=none:=by rfl):PG X (.Tuple es k pos) (Ad X.K n t):=by
 intro pins s σ H v u Q I r hw
 obtain ⟨a,xs,e1,hq,hl,hw⟩:=hw
 subst e1
 cases r
 obtain ⟨its,rv,ht,hz⟩:=I.tuple hq
 refine assign_Tuple_tuple (I.ok.hd hc) ht (by simp [hn,<- hl,rv.length]) hst fun h' hx=>?_
 have I1:Inv X pins σ H { s with heap:=h' }:=I.kept (t':=s.toks) fun b o e=>hx b o (Nat.ne_of_lt (Heap.lt_size e)) e
 exact h pins _ σ H xs _ Q I1 (by simpa using rv) hw
def Ae (to ti:TE) (t:wN):TG:=fun v σ H Q=>to σ H fun o H1=>ti σ H1 fun i H2=>t o i v H2 fun H3=>Q σ H3
theorem yi {o i:Expr}{to ti:TE}{t:wN}(ho:PE X o to) (hi:PE X i ti) (hs:An X t)
  (ha:∀v,assign (.Subscript o i pos) X.env v=(do
   let ov <- holding [v] (eval o X.env)
   let iv <- holding [v,ov] (eval i X.env)
   standAt pos
   holding [v,ov,iv] (setItem ov iv v)
   release [v,ov,iv] []):=by intro _; rfl):PG X (.Subscript o i pos) (Ae to ti t):=by
 intro pins s σ H v u Q I r h
 rw [ha]
 refine wpAny_bind (wpAny_holding (thn (ho pins s σ H _ I h) fun ov s1 ⟨x,H1,I1,r1,q1⟩=>?_))
 refine wpAny_bind (wpAny_holding (thn (hi pins s1 σ H1 _ I1 q1) fun iv s2 ⟨y,H2,I2,r2,q2⟩=>?_))
 refine wpAny_bind (wpAny_standAt (wpAny_bind (wpAny_holding (thn (hs pins s2 σ H2 x y v ov iv u _ I2 r1 r2 r q2) fun _ s3 ⟨H3,I3,q3⟩=>?_))))
 exact wpAny_release ⟨σ,H3,I3,q3⟩
def gk (te:TE) (g:TG):TS:=fun D σ H=>te σ H fun x H1=>g x σ H1 D.nx
theorem ye {tg e:Expr}{te:TE}{g:TG}(he:PE X e te) (hg:PG X tg g) (hs:swapsWithSole [tg] e pos.line X.env=pure false:=by rfl) (hw:swappedStores [tg] e X.env=pure none:=by rfl)
  (h1:(assignEach [tg] X.env).map (·.2)=[assign tg X.env]:=by rfl):PS X (.Assign [tg] e pos) (gk te g):=by
 intro pins s σ H D I h
 refine wpAny_Assign_stores (thn (he pins s σ H _ I h) fun v s1 ⟨x,H1,I1,r1,q1⟩=>?_) hs hw
 rw [h1]
 exact thn (hg pins s1 σ H1 x v _ I1 r1 q1) fun _ s2 q=>q
theorem rK {i:Nat}{x:Str}{e:Expr}{te:TE}{pos':Pos}(hN:X.N.Nodup) (hi:X.N[i]?=some x) (hx:Loc X.env.scope x) (he:PE X e te) (hs:swapsWith e (some (.Name x pos')) pos.line X.env=pure false:=by rfl) (hf:X.fn x=true\/X.env.scope.names.lookup x=some .local:=by first | exact .inl rfl | exact .inr rfl | assumption) :
  PS X (.Assign [.Name x pos'] e pos) (gk te (bZ i)):=by
 intro pins s σ H D I h
 refine wpAny_Assign_Name (thn (he pins s σ H _ I h) fun v s1 ⟨y,H1,I1,r1,q1⟩=>?_) hs
 exact de I1 hN hi hx r1 (fun s2 I2=>⟨_,H1,I2,q1⟩) hf
def By (i j:Nat) (ta:TA):TS:=fun D σ H=>ta σ H fun vs H1=>∃v w,vs=[v,w]/\D.nx ((σ.set i (some v)).set j (some w)) H1
def BH (i:Nat) (te:TE) (ti:TIp):TS:=fun D σ H=>∃x,σ[i]?=some (some x)/\te σ H fun y H1=>ti x y H1 fun z H2=>D.nx (σ.set i (some z)) H2
def Bf (to ti te:TE) (tget:V->V->Hp->VK->Prop) (tip:TIp) (tset:wN):TS:=fun D σ H=>to σ H fun o H1=>ti σ H1 fun i H2=>tget o i H2 fun x H3=>te σ H3 fun y H4=>tip x y H4 fun z H5=>tset o i z H5 fun H6=>D.nx σ H6
def BV (X:Cx) (t:V->V->Hp->VK->Prop):Prop :=
 ∀(pins:List (Addr×Obj)) (s:Shared) (σ:St) (H:Hp) (o i:V) (ov iv:Value) (Q:VK),Inv X pins σ H s->RelV o ov->RelV i iv->t o i H Q ->
  wpAny (model X.prog X.w) X.A (getItem ov iv) (EP X pins σ Q) X.xe s
def ipI (f:Int->Int->Int):TIp:=fun x y H Q=>∃i j,x=.int i/\y=.int j/\Q (.int (f i j)) H
end
section
variable {X:Cx}{pos:Pos}
def As (c:TT) (tb:TS):TS:=fun D σ H=>∃W:Nat->St->Hp->Prop,(∃m,W m σ H)/\∀m σ H,W m σ H ->
 c σ H fun b H1=>if b=true then ∃N:St->Hp->Prop,(∀ σ' H',N σ' H'->∃m',m'<m/\W m' σ' H')/\tb { D with nx:=N,ct:=N,bk:=D.nx } σ H1 else D.nx σ H1
end
structure It where
 go:Nat->Hp->Prop
 yld:Nat->Hp->V->Hp->Prop
 stop:Nat->Hp->Prop
def bJ (X:Cx) (pins:List (Addr×Obj)) (H:Hp) (b:Addr):Prop :=
 H b=none/\b≠X.env.locals/\b ∉ X.fs/\(b∈X.ex\/X.s₀.heap.objs.size<=b)/\(∀x c,X.env.cells.lookup x=some c->c≠b)/\∀p∈X.pn++pins,p.1≠b
theorem Inv.fpOk {X:Cx}{pins:List (Addr×Obj)}{σ:St}{H H':Hp}{s:Shared}{b:Addr}(I:Inv X pins σ H s) (hb:s.heap.objs.size<=b) (hn:H' b=none):bJ X pins H' b:=by
 refine ⟨hn,Nat.ne_of_gt (Nat.lt_of_lt_of_le I.lt hb),I.nofs hb,.inr (Nat.le_trans I.sz hb),fun x c e z=>?_,fun p hp z=>?_⟩
 ·obtain ⟨v,q⟩:=I.cell x c e
  exact absurd (Nat.lt_of_lt_of_le q.lt (by rw [z]; exact hb)) (Nat.lt_irrefl _)
 ·exact absurd (Nat.lt_of_lt_of_le (Heap.lt_size (I.pin p hp).1) (by rw [z]; exact hb)) (Nat.lt_irrefl _)
structure kt (P:Program) (w:World) (K:PySem.W.Frag) (tg:Expr) (J:It) (fp:List Addr) (it:Addr) (tn:Nat->Heap->Prop):Prop where
 mem:it∈fp
 obj:∀i h,tn i h->∀b∈fp,∃o,h.get? b=some o/\∀v,o.data≠.cell v
 keep:∀i h h',tn i h->(∀b∈fp,∀o,h.get? b=some o->h'.get? b=some o)->tn i h'
 item:∀(X:Cx),X.prog=P->X.w=w->X.K=K->X.calm=true->∀(i:Nat) (pins:List (Addr×Obj)) (s:Shared) (σ:St) (H:Hp) (E:Value->Shared->Prop),Inv X pins σ H s->(∀b∈fp,bJ X pins H b)->tn i s.heap->J.go i H ->
  wpAny (model P w) X.A (pyNext (.ref it)) (fun r s1=>∃u,r=some u /\
   wpAny (model P w) X.A (letOwnedTupleGo tg (.ref it) u) (fun _ s2=>∃x H',Inv X pins σ H' s2/\RelV x u/\J.yld i H x H'/\tn (i+1) s2.heap/\∀b∈fp,H' b=none) E s1) E s
 done:∀(X:Cx),X.prog=P->X.w=w->X.K=K->X.calm=true->∀(i:Nat) (pins:List (Addr×Obj)) (s:Shared) (σ:St) (H:Hp) (E:Value->Shared->Prop),Inv X pins σ H s->(∀b∈fp,bJ X pins H b)->tn i s.heap->J.stop i H ->
  wpAny (model P w) X.A (pyNext (.ref it)) (fun r s1=>r=none/\Inv X pins σ H s1) E s
 self:∀(A:Around) (i:Nat) (s:Shared) (Q:Value->Shared->Prop) (E:Value->Shared->Prop),tn i s.heap->Q (.ref it) s->wpAny (model P w) A (pyIter (.ref it)) Q E s
abbrev TI:=St->Hp->(It->Hp->Prop)->Prop
def PIE (X:Cx) (pins:List (Addr×Obj)) (σ:St) (tg:Expr) (R:It->Hp->Prop) (itv:Value) (s2:Shared):Prop :=
 ∃(it:Addr) (fp:List Addr) (tn:Nat->Heap->Prop) (J:It) (H':Hp),itv=.ref it/\Inv X pins σ H' s2/\kt X.prog X.w X.K tg J fp it tn/\tn 0 s2.heap/\(∀b∈fp,bJ X pins H' b)/\R J H'
def PI (X:Cx) (tg iter:Expr) (wi:TI):Prop :=
 ∀(pins:List (Addr×Obj)) (s:Shared) (σ:St) (H:Hp) (R:It->Hp->Prop),Inv X pins σ H s->wi σ H R ->
  wpAny (model X.prog X.w) X.A (eval iter X.env) (fun v s1=>wpAny (model X.prog X.w) X.A (pyIter v) (PIE X pins σ tg R) X.xe s1) X.xe s
theorem oE {M:Model}{A:Around}{E:Value->Shared->Prop}{s:Shared}{tg:Expr}{it:Addr}{u:Value}{o:Obj}{n:String}{vs:Array Value}{Q:Unit->Shared->Prop}(ho:s.heap.get? it=some o) (hc:o.cls=.type n) (hd:o.data=.fields vs)
    (hn:["enumerate", "zip", "dict_itemiterator", "dict_reverseitemiterator", "odict_iterator", "itertools.zip_longest", "itertools.pairwise"].contains n=false) (hQ:Q () s):wpAny M A (letOwnedTupleGo tg (.ref it) u) Q E s:=by
  unfold letOwnedTupleGo
  cases tg <;> first
    | exact wpAny_pure hQ
    | (cases u <;> first
        | exact wpAny_pure hQ
        | (refine wpAny_bind (wpAny_load ho ?_)
           rw [hc,hd]
           show wpAny M A (if (["enumerate", "zip", "dict_itemiterator", "dict_reverseitemiterator", "odict_iterator", "itertools.zip_longest", "itertools.pairwise"].contains n&&vs[0]? == some (rawInt _))=true then _ else _) Q E s
           rw [if_neg (by intro h; rw [hn,Bool.false_and] at h; cases h)]
           exact wpAny_pure hQ))
def Itl (K:PySem.W.Frag) (a:Addr):It :=
 ⟨fun i H=>∃xs x,SqL K H a xs/\xs[i]?=some x,fun i H x H'=>H'=H/\∀xs,SqL K H a xs->xs[i]?=some x,fun i H=>∃xs,SqL K H a xs/\xs.length<=i⟩
def Itt (K:PySem.W.Frag) (a:Addr):It :=
 ⟨fun i H=>∃xs x,SqT K H a xs/\xs[i]?=some x,fun i H x H'=>H'=H/\∀xs,SqT K H a xs->xs[i]?=some x,fun i H=>∃xs,SqT K H a xs/\xs.length<=i⟩
def Itr (lo:Int) (n:Nat):It:=⟨fun i _=>i<n,fun i H x H'=>H'=H/\x=.int (lo+i),fun i _=>n<=i⟩
theorem ph {P:Program}{w:World}{K:PySem.W.Frag}{tg:Expr}(a it:Addr):kt P w K tg (Itl K a) [it] it (fun i h=>h.IsListIter it a i) where
 mem:=by simp
 obj:=fun i h st b hb=>by
  have e:b=it:=by simpa using hb
  subst e
  obtain ⟨o,e,c,d⟩:=st
  exact ⟨o,e,fun v z=>by rw [d] at z; cases z⟩
 keep:=fun i h h' st k=>st.at fun o e=>k it (by simp) o e
 item:=by
  intro X hP hw hK hc i pins s σ H E I hf st hg
  subst hP hw hK
  obtain ⟨xs,x,hq,hx⟩:=hg
  obtain ⟨its,rv,p,hz⟩:=I.list hq
  obtain ⟨u,hu,ru⟩:=rv.get hx
  obtain ⟨f0,f1,f2,f3,f4,f5⟩:=hf it (by simp)
  refine wpAny_pyNext_list_item st p.isList (x:=u) (by simpa using hu) fun h' st' sb=>?_
  have I1:Inv X pins σ H { s with heap:=h' }:=I.turned (t':=s.toks) (fun b o hb e=>(sb.2 b hb).trans e) f0 f1 f3 f4 f5
  obtain ⟨o,e,c,d⟩:=id st'
  exact ⟨u,rfl,oE (s:={ s with heap:=h' }) e c d (by decide) ⟨x,H,I1,ru,⟨rfl,fun ys hy=>by rw [I.list_inj hy hq]; exact hx⟩,st',fun b hb=>(hf b hb).1⟩⟩
 done:=by
  intro X hP hw hK hc i pins s σ H E I hf st hg
  subst hP hw hK
  obtain ⟨xs,hq,hx⟩:=hg
  obtain ⟨its,rv,p,hz⟩:=I.list hq
  obtain ⟨f0,f1,f2,f3,f4,f5⟩:=hf it (by simp)
  have hl:=rv.length
  exact wpAny_pyNext_list_end (I.ok.hd hc) st p.isList (by simp; omega) fun h' eb=>⟨rfl,I.turned (t':=s.toks) (fun b o hb e=>eb b o hb e) f0 f1 f3 f4 f5⟩
 self:=fun _ _ _ _ _ st h=>wpAny_pyIter_listiter st h
theorem lR {P:Program}{w:World}{K:PySem.W.Frag}{tg:Expr}(a it:Addr):kt P w K tg (Itt K a) [it] it (fun i h=>h.IsTupleIter it a i) where
 mem:=by simp
 obj:=fun i h st b hb=>by
  have e:b=it:=by simpa using hb
  subst e
  obtain ⟨o,e,c,d⟩:=st
  exact ⟨o,e,fun v z=>by rw [d] at z; cases z⟩
 keep:=fun i h h' st k=>st.at fun o e=>k it (by simp) o e
 item:=by
  intro X hP hw hK hc i pins s σ H E I hf st hg
  subst hP hw hK
  obtain ⟨xs,x,hq,hx⟩:=hg
  obtain ⟨its,rv,p,hz⟩:=I.tuple hq
  obtain ⟨u,hu,ru⟩:=rv.get hx
  obtain ⟨f0,f1,f2,f3,f4,f5⟩:=hf it (by simp)
  refine wpAny_pyNext_tuple_item st (show s.heap.IsTuple a its.toArray from p) (x:=u) (by simpa using hu) fun h' st' sb=>?_
  have I1:Inv X pins σ H { s with heap:=h' }:=I.turned (t':=s.toks) (fun b o hb e=>(sb.2 b hb).trans e) f0 f1 f3 f4 f5
  obtain ⟨o,e,c,d⟩:=id st'
  exact ⟨u,rfl,oE (s:={ s with heap:=h' }) e c d (by decide) ⟨x,H,I1,ru,⟨rfl,fun ys hy=>by rw [I.tuple_inj hy hq]; exact hx⟩,st',fun b hb=>(hf b hb).1⟩⟩
 done:=by
  intro X hP hw hK hc i pins s σ H E I hf st hg
  subst hP hw hK
  obtain ⟨xs,hq,hx⟩:=hg
  obtain ⟨its,rv,p,hz⟩:=I.tuple hq
  obtain ⟨f0,f1,f2,f3,f4,f5⟩:=hf it (by simp)
  have hl:=rv.length
  exact wpAny_pyNext_tuple_end (I.ok.hd hc) st (show s.heap.IsTuple a its.toArray from p) (by simp; omega) fun h' eb=>⟨rfl,I.turned (t':=s.toks) (fun b o hb e=>eb b o hb e) f0 f1 f3 f4 f5⟩
 self:=fun _ _ _ _ _ st h=>wpAny_pyIter_tupleiter st h
theorem lT {P:Program}{w:World}{K:PySem.W.Frag}{tg:Expr}(it:Addr) (lo:Int) (n:Nat):kt P w K tg (Itr lo n) [it] it (fun i h=>IsRangeIter h it (lo+(i:Nat)*1) ((n:Int)-(i:Nat)) 1) where
 mem:=by simp
 obj:=fun i h st b hb=>by
  have e:b=it:=by simpa using hb
  subst e
  exact ⟨_,st,fun v z=>by
   have z':Data.fields _=Data.cell v:=z
   cases z'⟩
 keep:=fun i h h' st k=>k it (by simp) _ st
 item:=by
  intro X hP hw hK hc i pins s σ H E I hf st hg
  subst hP hw hK
  obtain ⟨f0,f1,f2,f3,f4,f5⟩:=hf it (by simp)
  have W:=Walks.range (prog:=X.prog) (w:=X.w) (I.ok.hd hc) it lo 1 n
  refine W.item i s _ _ hg st fun v h' tk hv st' kk=>?_
  obtain ⟨t,rfl⟩:=hv
  have I1:Inv X pins σ H { s with heap:=h',toks:=tk }:=I.turned (fun b o hb e=>kk b o (by simpa using hb) e) f0 f1 f3 f4 f5
  refine ⟨_,rfl,oE (s:={ s with heap:=h',toks:=tk }) (n:="range_iterator") st' rfl rfl (by decide) ⟨.int (lo+i),H,I1,⟨t,?_⟩,⟨rfl,rfl⟩,st',fun b hb=>(hf b hb).1⟩⟩
  rw [Int.mul_one]
 done:=by
  intro X hP hw hK hc i pins s σ H E I hf st hg
  subst hP hw hK
  obtain ⟨f0,f1,f2,f3,f4,f5⟩:=hf it (by simp)
  exact wpAny_pyNext_range_end (I.ok.hd hc) st (by have:n<=i:=hg; omega) fun h' eb=>⟨rfl,I.turned (t':=s.toks) (fun b o hb e=>eb b o hb e) f0 f1 f3 f4 f5⟩
 self:=fun _ _ _ _ _ st h=>wpAny_pyIter_rangeiter st h
section
variable {X:Cx}{tg:Expr}
def xi (K:PySem.W.Frag) (tl:TE):TI:=fun σ H R=>tl σ H fun x H1=>∃a,x=.ref a/\(∃xs,SqL K H1 a xs)/\R (Itl K a) H1
def Aa (K:PySem.W.Frag) (tl:TE):TI:=fun σ H R=>tl σ H fun x H1=>∃a,x=.ref a/\(∃xs,SqT K H1 a xs)/\R (Itt K a) H1
theorem vB {l:Expr}{tl:TE}(hl:PE X l tl):PI X tg l (xi X.K tl):=by
 intro pins s σ H R I h
 refine thn (hl pins s σ H _ I h) fun v s1 ⟨x,H1,I1,r1,q1⟩=>?_
 obtain ⟨a,e,⟨xs,hq⟩,q⟩:=q1
 subst e
 cases r1
 obtain ⟨its,rv,p,hz⟩:=I1.list hq
 refine wpAny_pyIter_list p.isList ?_
 refine ⟨s1.heap.objs.size,[s1.heap.objs.size],_,_,H1,rfl,I1.kept (t':=s1.toks) fun b o e=>Heap.get?_push_of_some _ e,ph a _,⟨_,Heap.get?_push_size _ rfl,rfl,rfl⟩,fun b hb=>?_,q⟩
 have e:b=s1.heap.objs.size:=by simpa using hb
 subst e
 exact I1.fpOk (Nat.le_refl _) (I1.hok.fresh (Nat.le_refl _))
theorem yg {l:Expr}{tl:TE}(hl:PE X l tl):PI X tg l (Aa X.K tl):=by
 intro pins s σ H R I h
 refine thn (hl pins s σ H _ I h) fun v s1 ⟨x,H1,I1,r1,q1⟩=>?_
 obtain ⟨a,e,⟨xs,hq⟩,q⟩:=q1
 subst e
 cases r1
 obtain ⟨its,rv,p,hz⟩:=I1.tuple hq
 refine wpAny_pyIter_tuple (show s1.heap.IsTuple a its.toArray from p) ?_
 refine ⟨s1.heap.objs.size,[s1.heap.objs.size],_,_,H1,rfl,I1.kept (t':=s1.toks) fun b o e=>Heap.get?_push_of_some _ e,lR a _,⟨_,Heap.get?_push_size _ rfl,rfl,rfl⟩,fun b hb=>?_,q⟩
 have e:b=s1.heap.objs.size:=by simpa using hb
 subst e
 exact I1.fpOk (Nat.le_refl _) (I1.hok.fresh (Nat.le_refl _))
theorem rE {pins:List (Addr×Obj)}{σ:St}{H:Hp}{s:Shared}{R:It->Hp->Prop}{E:Value->Shared->Prop}{lo hi:Int}{t u v:Tok}{tk:Nat}(I:Inv X pins σ H s) (h1:-(2 ^ 62)<=lo) (h2:lo<2 ^ 62) (h3:-(2 ^ 62)<=hi) (h4:hi<2 ^ 62)
  (q:R (Itr lo (hi-lo).toNat) H):wpAny (model X.prog X.w) X.A (pyIter (.ref s.heap.objs.size)) (PIE X pins σ tg R) E { s with heap:=s.heap.push { cls:=.type "range",data:=.fields #[.int lo t,.int hi u,.int 1 v] },toks:=tk }:=by
 refine wpAny_pyIter_range (IsRange.new ..) (small_one h1 h2 h3 h4) ?_
 have I1:Inv X pins σ H { s with heap:=s.heap.push { cls:=.type "range",data:=.fields #[.int lo t,.int hi u,.int 1 v] },toks:=tk }:=I.kept fun b o e=>Heap.get?_push_of_some _ e
 refine ⟨(s.heap.push { cls:=.type "range",data:=.fields #[.int lo t,.int hi u,.int 1 v] }).objs.size,[(s.heap.push { cls:=.type "range",data:=.fields #[.int lo t,.int hi u,.int 1 v] }).objs.size],_,_,H,rfl,
  I1.kept (t':=tk) fun b o e=>Heap.get?_push_of_some _ e,lT _ lo (hi-lo).toNat,?_,fun b hb=>?_,q⟩
 ·have e1:lo+((0:Nat):Int)*1=lo:=by simp
  have e2:(((hi-lo).toNat:Nat):Int)-((0:Nat):Int)=Builtin.Range.rangeSize lo hi 1:=by rw [rangeSize_one]; split <;> omega
  show IsRangeIter _ _ (lo+((0:Nat):Int)*1) ((((hi-lo).toNat:Nat):Int)-((0:Nat):Int)) 1
  rw [e1,e2]
  exact Heap.get?_push_size _ rfl
 ·have e:b=(s.heap.push { cls:=.type "range",data:=.fields #[.int lo t,.int hi u,.int 1 v] }).objs.size:=by simpa using hb
  subst e
  exact I1.fpOk (Nat.le_refl _) (I1.hok.fresh (Nat.le_refl _))
def xg (ta:TA):TI:=fun σ H R=>ta σ H fun vs H1=>∃j:Int,vs=[.int j]/\-(2 ^ 62)<=j/\j<2 ^ 62/\R (Itr 0 j.toNat) H1
def Br (ta:TA):TI:=fun σ H R=>ta σ H fun vs H1=>∃i j:Int,vs=[.int i,.int j]/\(-(2 ^ 62)<=i/\i<2 ^ 62/\-(2 ^ 62)<=j/\j<2 ^ 62)/\R (Itr i (j-i).toNat) H1
theorem pM {a:Expr}{ta:TA}{p pos:Pos}(hg:Gl X "range") (hm:X.mg "range"=none) (ha:PA X [a] ta) (hs:starEach [a] X.env=[(false,eval a X.env)]:=by rfl):PI X tg (.Call (.Name "range" p) [a] [] pos) (xg ta):=by
 intro pins s σ H R I h
 refine Call_ (bP I hg hm boot_range (PyProof.Rows.callWith_type1 (thn (ha pos pins s σ H _ I h) fun us s1 ⟨vs,H1,I1,r1,q1⟩=>?_) hs rfl))
 obtain ⟨j,e,q1,q2,q⟩:=q1
 subst e
 cases r1 with
 | cons r rr =>
  cases rr
  obtain ⟨t,rfl⟩:=r
  exact call_range_1 (rE I1 (by omega) (by omega) q1 q2 (by simpa using q))
def zC (wi:TI) (g:TG) (tb:TS):TS:=fun D σ H=>wi σ H fun J H1=>∃W:Nat->Nat->St->Hp->Prop,(∃m,W 0 m σ H1)/\∀i m σ H,W i m σ H ->
 (J.stop i H/\D.nx σ H)\/(J.go i H/\∃N:St->Hp->Prop,(∀ σ' H',N σ' H'->∃m',m'<m/\W (i+1) m' σ' H')/\∀x H',J.yld i H x H'->g x σ H' fun σ2 H2=>tb { D with nx:=N,ct:=N,bk:=D.nx } σ2 H2)
def jZ (fp:List Addr) (h:Heap):List (Addr×Obj):=fp.filterMap fun b=>(h.get? b).map fun o=>(b,o)
theorem cH {fp:List Addr}{h:Heap}{b:Addr}{o:Obj}(hb:b∈fp) (e:h.get? b=some o):(b,o)∈jZ fp h:=List.mem_filterMap.mpr ⟨b,hb,by rw [e]; rfl⟩
theorem pW {fp:List Addr}{h:Heap}{p:Addr×Obj}(hp:p∈jZ fp h):p.1∈fp/\h.get? p.1=some p.2:=by
 obtain ⟨b,hb,e⟩:=List.mem_filterMap.mp hp
 cases q:h.get? b with
 | none=>rw [q] at e; cases e
 | some o =>
  rw [q] at e
  have e':(b,o)=p:=Option.some.inj e
  subst e'
  exact ⟨hb,q⟩
theorem Inv.pinned {pins:List (Addr×Obj)}{σ:St}{H:Hp}{s:Shared}{fp:List Addr}(I:Inv X pins σ H s) (hf:∀b∈fp,bJ X pins H b) (ho:∀b∈fp,∃o,s.heap.get? b=some o/\∀v,o.data≠.cell v):Inv X (pins++jZ fp s.heap) σ H s :=
 I.pins_of fun p hp=>(List.mem_append.mp hp).elim (fun z=>I.pin p (List.mem_append_right _ z)) fun z=>by
  obtain ⟨hb,e⟩:=pW z
  obtain ⟨f0,f1,f2,_⟩:=hf p.1 hb
  obtain ⟨o,e',d⟩:=ho p.1 hb
  rw [e] at e'; cases e'
  exact ⟨e,f0,f1,f2,d⟩
theorem Inv.unpinned {pins pl:List (Addr×Obj)}{σ:St}{H:Hp}{s:Shared}(I:Inv X (pins++pl) σ H s):Inv X pins σ H s:=I.pins_of fun p hp=>I.pin p (List.mem_append_right _ (List.mem_append_left _ hp))
theorem yc {iter:Expr}{body:List Stmt}{wi:TI}{g:TG}{tb:TS}{pos:Pos}(hp:PassesOwn (model X.prog X.w) X.A X.env X.xe) (hc:X.calm=true) (hi:PI X tg iter wi) (hg:PG X tg g) (hb:PSs X body tb)
  (hs:∀x,foldedSetIterable iter X.env x=pure x:=by intro _; rfl):PS X (.For tg iter body [] pos) (zC wi g tb):=by
 intro pins s σ H D I h
 refine wpAny_For (thn (hi pins s σ H _ I h) fun v s1 h1=>thn h1 fun itv s2 h2=>?_) hs
 obtain ⟨it,fp,tn,J,H2,e,I2,T,st2,f2,W,⟨m0,w0⟩,turn⟩:=h2
 subst e
 have stat:∀{H':Hp},(∀b∈fp,H' b=none)->∀b∈fp,bJ X pins H' b:=fun hn b hb=>⟨hn b hb,(f2 b hb).2⟩
 refine codeAny_forLoop_any (fun n s'=>∃i σ' H',Inv X pins σ' H' s'/\tn i s'.heap/\(∀b∈fp,H' b=none)/\W i n σ' H') ?_ m0 ⟨0,σ,H2,I2,st2,fun b hb=>(f2 b hb).1,w0⟩
 rintro n s3 ⟨i,σ3,H3,I3,st3,fr3,w3⟩
 rcases turn i n σ3 H3 w3 with ⟨stop,qn⟩ | ⟨go,N,hN,step⟩
 ·refine wpAny_passesOwn hp (thn (T.done X rfl rfl rfl hc i pins s3 σ3 H3 X.xe I3 (stat fr3) st3 stop) fun r s4 ⟨hr,I4⟩=>?_)
  subst hr
  exact wpAny_execs_nil ⟨σ3,H3,I4,qn⟩
 ·refine wpAny_passesOwn hp (thn (T.item X rfl rfl rfl hc i pins s3 σ3 H3 X.xe I3 (stat fr3) st3 go) fun r s4 ⟨u,hr,h4⟩=>?_)
  subst hr
  refine wpAny_passesOwn hp (thn h4 fun _ s5 ⟨x,H5,I5,r5,y5,st5,fr5⟩=>?_)
  have I5':=I5.pinned (stat fr5) (T.obj _ _ st5)
  refine wpAny_passesOwn hp (thn (hg _ s5 σ3 H5 x u _ I5' r5 (step x H5 y5)) fun _ s6 ⟨σ6,H6,I6,q6⟩=>?_)
  refine wpAny_passesOwn hp (thn (hb _ s6 σ6 H6 _ I6 q6) fun f s7 q7=>?_)
  have again:∀{σ7:St}{H7:Hp},Inv X (pins++jZ fp s5.heap) σ7 H7 s7->N σ7 H7->∃m,m<n/\∃i σ' H',Inv X pins σ' H' s7/\tn i s7.heap/\(∀b∈fp,H' b=none)/\W i m σ' H':=fun {σ7 H7} I7 n7=>by
   obtain ⟨m',hm,w7⟩:=hN σ7 H7 n7
   refine ⟨m',hm,i+1,σ7,H7,I7.unpinned,T.keep _ _ _ st5 fun b hb o e=>(I7.pin (b,o) (List.mem_append_right _ (List.mem_append_right _ (cH hb e)))).1,fun b hb=>?_,w7⟩
   obtain ⟨o,e,d⟩:=T.obj _ _ st5 b hb
   exact (I7.pin (b,o) (List.mem_append_right _ (List.mem_append_right _ (cH hb e)))).2.1
  cases f with
  | next=>obtain ⟨σ7,H7,I7,n7⟩:=q7; exact again I7 n7
  | cont=>obtain ⟨σ7,H7,I7,n7⟩:=q7; exact again I7 n7
  | brk=>obtain ⟨σ7,H7,I7,q7⟩:=q7; exact ⟨σ7,H7,I7.unpinned,q7⟩
  | ret v=>obtain ⟨x7,σ7,H7,I7,r7,q7⟩:=q7; exact ⟨x7,σ7,H7,I7.unpinned,r7,q7⟩
end
theorem cK {K:PySem.W.Frag}{a:Addr}{xs:List V}{g:TG}{tb:TS}{D:Ends}{σ:St}{H:Hp}(Pv:Nat->St->Hp->Prop) (h0:Pv 0 σ H) (hl:∀i σ H,i<=xs.length->Pv i σ H->SqL K H a xs)
  (hs:∀i x σ H,xs[i]?=some x->Pv i σ H->g x σ H fun σ2 H2=>tb { D with nx:=Pv (i+1),ct:=Pv (i+1),bk:=D.nx } σ2 H2) (hd:∀ σ H,Pv xs.length σ H->D.nx σ H) :
  ∃W:Nat->Nat->St->Hp->Prop,(∃m,W 0 m σ H)/\∀i m σ H,W i m σ H ->
   ((Itl K a).stop i H/\D.nx σ H)\/((Itl K a).go i H/\∃N:St->Hp->Prop,(∀ σ' H',N σ' H'->∃m',m'<m/\W (i+1) m' σ' H')/\∀x H',(Itl K a).yld i H x H'->g x σ H' fun σ2 H2=>tb { D with nx:=N,ct:=N,bk:=D.nx } σ2 H2):=by
 refine ⟨fun i m σ H=>m=xs.length-i/\i<=xs.length/\Pv i σ H,⟨xs.length,by simp,Nat.zero_le _,h0⟩,?_⟩
 rintro i m σ H ⟨rfl,hi,p⟩
 have q:=hl i σ H hi p
 by_cases hlt:i<xs.length
 ·refine .inr ⟨⟨xs,xs[i],q,by simp [hlt]⟩,Pv (i+1),fun σ' H' p'=>⟨xs.length-(i+1),by omega,rfl,hlt,p'⟩,fun x H' y=>?_⟩
  obtain ⟨e,y⟩:=y
  subst e
  exact hs i x σ _ (y xs q) p
 ·have e:i=xs.length:=by omega
  subst e
  exact .inl ⟨⟨xs,q,Nat.le_refl _⟩,hd σ H p⟩
theorem gX {K:PySem.W.Frag}{a:Addr}{xs:List V}{g:TG}{tb:TS}{D:Ends}{σ:St}{H:Hp}(Pv:Nat->St->Hp->Prop) (h0:Pv 0 σ H) (hl:∀i σ H,i<=xs.length->Pv i σ H->SqT K H a xs)
  (hs:∀i x σ H,xs[i]?=some x->Pv i σ H->g x σ H fun σ2 H2=>tb { D with nx:=Pv (i+1),ct:=Pv (i+1),bk:=D.nx } σ2 H2) (hd:∀ σ H,Pv xs.length σ H->D.nx σ H) :
  ∃W:Nat->Nat->St->Hp->Prop,(∃m,W 0 m σ H)/\∀i m σ H,W i m σ H ->
   ((Itt K a).stop i H/\D.nx σ H)\/((Itt K a).go i H/\∃N:St->Hp->Prop,(∀ σ' H',N σ' H'->∃m',m'<m/\W (i+1) m' σ' H')/\∀x H',(Itt K a).yld i H x H'->g x σ H' fun σ2 H2=>tb { D with nx:=N,ct:=N,bk:=D.nx } σ2 H2):=by
 refine ⟨fun i m σ H=>m=xs.length-i/\i<=xs.length/\Pv i σ H,⟨xs.length,by simp,Nat.zero_le _,h0⟩,?_⟩
 rintro i m σ H ⟨rfl,hi,p⟩
 have q:=hl i σ H hi p
 by_cases hlt:i<xs.length
 ·refine .inr ⟨⟨xs,xs[i],q,by simp [hlt]⟩,Pv (i+1),fun σ' H' p'=>⟨xs.length-(i+1),by omega,rfl,hlt,p'⟩,fun x H' y=>?_⟩
  obtain ⟨e,y⟩:=y
  subst e
  exact hs i x σ _ (y xs q) p
 ·have e:i=xs.length:=by omega
  subst e
  exact .inl ⟨⟨xs,q,Nat.le_refl _⟩,hd σ H p⟩
theorem ql {lo:Int}{n:Nat}{g:TG}{tb:TS}{D:Ends}{σ:St}{H:Hp}(Pv:Nat->St->Hp->Prop) (h0:Pv 0 σ H)
  (hs:∀i σ H,i<n->Pv i σ H->g (.int (lo+i)) σ H fun σ2 H2=>tb { D with nx:=Pv (i+1),ct:=Pv (i+1),bk:=D.nx } σ2 H2) (hd:∀ σ H,Pv n σ H->D.nx σ H) :
  ∃W:Nat->Nat->St->Hp->Prop,(∃m,W 0 m σ H)/\∀i m σ H,W i m σ H ->
   ((Itr lo n).stop i H/\D.nx σ H)\/((Itr lo n).go i H/\∃N:St->Hp->Prop,(∀ σ' H',N σ' H'->∃m',m'<m/\W (i+1) m' σ' H')/\∀x H',(Itr lo n).yld i H x H'->g x σ H' fun σ2 H2=>tb { D with nx:=N,ct:=N,bk:=D.nx } σ2 H2):=by
 refine ⟨fun i m σ H=>m=n-i/\i<=n/\Pv i σ H,⟨n,by simp,Nat.zero_le _,h0⟩,?_⟩
 rintro i m σ H ⟨rfl,hi,p⟩
 by_cases hlt:i<n
 ·refine .inr ⟨hlt,Pv (i+1),fun σ' H' p'=>⟨n-(i+1),by omega,rfl,hlt,p'⟩,fun x H' y=>?_⟩
  obtain ⟨e,y⟩:=y
  subst e y
  exact hs i σ _ hlt p
 ·have e:i=n:=by omega
  subst e
  exact .inl ⟨Nat.le_refl _,hd σ H p⟩
abbrev R2:=V->V->Hp->VK->Prop
def OpR (X:Cx) (f:Value->Value->Sem Value) (r:R2):Prop :=
 ∀(pins:List (Addr×Obj)) (s:Shared) (σ:St) (H:Hp) (x y:V) (v u:Value) (Q:VK),Inv X pins σ H s->RelV x v->RelV y u->r x y H Q ->
  wpAny (model X.prog X.w) X.A (f v u) (EP X pins σ Q) X.xe s
def UnR (X:Cx) (f:Value->Sem Value) (r:V->Hp->VK->Prop):Prop :=
 ∀(pins:List (Addr×Obj)) (s:Shared) (σ:St) (H:Hp) (x:V) (v:Value) (Q:VK),Inv X pins σ H s->RelV x v->r x H Q ->
  wpAny (model X.prog X.w) X.A (f v) (EP X pins σ Q) X.xe s
def bN (X:Cx) (f:Value) (r:List V->Hp->VK->Prop):Prop :=
 ∀(pins:List (Addr×Obj)) (s:Shared) (σ:St) (H:Hp) (xs:List V) (us:List Value) (Q:VK),Inv X pins σ H s->Vals xs us->r xs H Q ->
  wpAny (model X.prog X.w) X.A (call f us) (EP X pins σ Q) X.xe s
def A5 (X:Cx) (r:V->Hp->(Bool->Hp->Prop)->Prop):Prop :=
 ∀(pins:List (Addr×Obj)) (s:Shared) (σ:St) (H:Hp) (x:V) (v:Value) (Q:Bool->Hp->Prop),Inv X pins σ H s->RelV x v->r x H Q ->
  wpAny (model X.prog X.w) X.A (truthy v) (TP X pins σ Q) X.xe s
def tOp (r:R2) (ta tb:TE):TE:=fun σ H Q=>ta σ H fun x H1=>tb σ H1 fun y H2=>r x y H2 Q
def tUn (r:V->Hp->VK->Prop) (ta:TE):TE:=fun σ H Q=>ta σ H fun x H1=>r x H1 Q
def rI (C:Int->Int->Prop) (g:Int->Int->V):R2:=fun x y H Q=>∃i j,x=.int i/\y=.int j/\C i j/\Q (g i j) H
def rI0 (g:Int->Int->V):R2:=fun x y H Q=>∃i j,x=.int i/\y=.int j/\Q (g i j) H
def rU (g:Int->V):V->Hp->VK->Prop:=fun x H Q=>∃i,x=.int i/\Q (g i) H
section
variable {X:Cx}{a b c:Expr}{ta tb tc:TE}{pos:Pos}
theorem zh (ha:PE X a ta) (hb:PE X b tb) {pins:List (Addr×Obj)}{s:Shared}{σ:St}{H:Hp}{R:V->V->Hp->Prop}(I:Inv X pins σ H s)
  (h:ta σ H fun x H1=>tb σ H1 fun y H2=>R x y H2) {Q:Value->Shared->Prop}{f:Value->Value->Sem Value}
  (hf:∀v u s2 x y H2,Inv X pins σ H2 s2->RelV x v->RelV y u->R x y H2->wpAny (model X.prog X.w) X.A (f v u) Q X.xe s2) :
  wpAny (model X.prog X.w) X.A (eval a X.env) (fun v s₁=>wpAny (model X.prog X.w) X.A (eval b X.env) (fun u s₂=>wpAny (model X.prog X.w) X.A (f v u) Q X.xe s₂) X.xe s₁) X.xe s:=by
 refine thn (ha pins s σ H _ I h) fun v s1 ⟨x,H1,I1,r1,q1⟩=>?_
 refine thn (hb pins s1 σ H1 _ I1 q1) fun u s2 ⟨y,H2,I2,r2,q2⟩=>?_
 exact hf v u s2 x y H2 I2 r1 r2 q2
theorem zT {op:Operator}{r:R2}(ho:OpR X (binaryOp op) r) (ha:PE X a ta) (hb:PE X b tb):PE X (.BinOp a op b pos) (tOp r ta tb):=by
 intro pins s σ H Q I h
 exact wpAny_BinOp (zh ha hb I h fun v u s2 x y H2 I2 rx ry q=>ho pins s2 σ H2 x y v u Q I2 rx ry q)
theorem zS {op:UnaryOp}{r:V->Hp->VK->Prop}(ho:UnR X (unaryOp op) r) (ha:PE X a ta):PE X (.UnaryOp op a pos) (tUn r ta):=by
 intro pins s σ H Q I h
 exact UnaryOp_ (thn (ha pins s σ H _ I h) fun v s1 ⟨x,H1,I1,r1,q1⟩=>ho pins s1 σ H1 x v Q I1 r1 q1)
theorem opI {f:Value->Value->Sem Value}{C:Int->Int->Prop}{g:Int->Int->Int}
  (rule:∀(i j:Int) (t u:Tok) (s:Shared) (Q:Value->Shared->Prop) (E:Value->Shared->Prop),C i j->Q (.int (g i j) s.toks) { s with toks:=s.toks+1 }->wpAny (model X.prog X.w) X.A (f (.int i t) (.int j u)) Q E s) :
  OpR X f (rI C fun i j=>.int (g i j)):=by
 intro pins s σ H x y v u Q I rx ry h
 obtain ⟨i,j,rfl,rfl,hc,q⟩:=h
 obtain ⟨t,rfl⟩:=rx
 obtain ⟨t',rfl⟩:=ry
 exact rule i j t t' s _ _ hc ⟨.int (g i j),H,I.tok _,⟨_,rfl⟩,q⟩
theorem zY {f:Value->Value->Sem Value}{g:Int->Int->Int}
  (rule:∀(i j:Int) (t u:Tok) (s:Shared) (Q:Value->Shared->Prop) (E:Value->Shared->Prop),Q (.int (g i j) s.toks) { s with toks:=s.toks+1 }->wpAny (model X.prog X.w) X.A (f (.int i t) (.int j u)) Q E s) :
  OpR X f (rI0 fun i j=>.int (g i j)):=by
 intro pins s σ H x y v u Q I rx ry h
 obtain ⟨i,j,rfl,rfl,q⟩:=h
 obtain ⟨t,rfl⟩:=rx
 obtain ⟨t',rfl⟩:=ry
 exact rule i j t t' s _ _ ⟨.int (g i j),H,I.tok _,⟨_,rfl⟩,q⟩
theorem vP {f:Value->Value->Sem Value}{g:Int->Int->Bool}
  (rule:∀(i j:Int) (t u:Tok) (s:Shared) (Q:Value->Shared->Prop) (E:Value->Shared->Prop),Q (.bool (g i j)) s->wpAny (model X.prog X.w) X.A (f (.int i t) (.int j u)) Q E s) :
  OpR X f (rI0 fun i j=>.bl (g i j)):=by
 intro pins s σ H x y v u Q I rx ry h
 obtain ⟨i,j,rfl,rfl,q⟩:=h
 obtain ⟨t,rfl⟩:=rx
 obtain ⟨t',rfl⟩:=ry
 exact rule i j t t' s _ _ ⟨.bl (g i j),H,I,rfl,q⟩
def A9 (i j:Int):Prop:=0<j/\j<1073741824
def Bw (i j:Int):Prop:=j≠0/\j.natAbs<1073741824
def A8 (i j:Int):Prop:=0<=j/\j<=1000000/\i.natAbs<2 ^ 64
def CMul (i j:Int):Prop:=(-(2 ^ 64)<i/\i<2 ^ 64)\/(-(2 ^ 64)<j/\j<2 ^ 64)
theorem CMul.ok {i j:Int}(h:CMul i j):IntMulOk i j:=by
 rcases h with ⟨h1,h2⟩ | ⟨h1,h2⟩
 ·exact .of_left (intBits_le_64 h1 h2)
 ·exact .of_right (intBits_le_64 h1 h2)
theorem aR:OpR X (binaryOp .Add) (rI0 fun i j=>.int (i+j)):=zY fun _ _ _ _ _ _ _ q=>add_int q
theorem bw:OpR X (binaryOp .Sub) (rI0 fun i j=>.int (i-j)):=zY fun _ _ _ _ _ _ _ q=>sub_int q
theorem gu:OpR X (binaryOp .Mult) (rI CMul fun i j=>.int (i*j)):=opI fun _ _ _ _ _ _ _ hc q=>mul_int q hc.ok
theorem fV:OpR X (binaryOp .FloorDiv) (rI A9 fun i j=>.int (i / j)):=opI fun i j _ _ _ _ _ hc q=>by
 have h1:(0:Int)<j:=hc.1
 have h2:j<1073741824:=hc.2
 exact floordiv_int (by omega) (by rw [Int.fdiv_eq_ediv_of_nonneg i (by omega)]; exact q) (.inl (PyProof.noPylong_small (by omega)))
theorem bj:OpR X (binaryOp .Mod) (rI (fun _ j=>0<j) fun i j=>.int (i % j)):=opI fun i j _ _ _ _ _ hc q=>by
 have h1:(0:Int)<j:=hc
 exact mod_int' (by omega) (by rw [Int.fmod_eq_emod_of_nonneg i (by omega)]; exact q)
theorem yw:OpR X (binaryOp .Pow) (rI A8 fun i j=>.int (i ^ j.toNat)):=opI fun _ _ _ _ _ _ _ hc q=>pow_int_small hc.1 hc.2.1 hc.2.2 q
theorem unI {f:Value->Sem Value}{g:Int->Int}
  (rule:∀(i:Int) (t:Tok) (s:Shared) (Q:Value->Shared->Prop) (E:Value->Shared->Prop),Q (.int (g i) s.toks) { s with toks:=s.toks+1 }->wpAny (model X.prog X.w) X.A (f (.int i t)) Q E s) :
  UnR X f (rU fun i=>.int (g i)):=by
 intro pins s σ H x v Q I rx h
 obtain ⟨i,rfl,q⟩:=h
 obtain ⟨t,rfl⟩:=rx
 exact rule i t s _ _ ⟨.int (g i),H,I.tok _,⟨_,rfl⟩,q⟩
theorem bv:UnR X (unaryOp .USub) (rU fun i=>.int (-i)):=unI fun _ _ _ _ _ q=>neg_int q
end
def zG:V->V->Bool
 | .non,.non=>true | .non,.int _=>true | .int _,.non=>true | .non,.bl _=>true | .bl _,.non=>true | .non,.str _=>true | .str _,.non=>true
 | .int _,.int _=>true | .bl _,.bl _=>true | .str _,.str _=>true | .byt _,.byt _=>true
 | .int _,.str _=>true | .str _,.int _=>true | .bl _,.str _=>true | .str _,.bl _=>true
 | _,_=>false
def rEq:R2:=fun x y H Q=>zG x y=true/\Q (.bl (decide (x=y))) H
def rNe:R2:=fun x y H Q=>zG x y=true/\Q (.bl (!decide (x=y))) H
theorem km {i j:Int}:decide (V.int i=V.int j)=(i == j):=by
 rw [Bool.eq_iff_iff]
 simp
theorem uv {i j:Bool}:decide (V.bl i=V.bl j)=(i == j):=by
 rw [Bool.eq_iff_iff]
 simp
theorem oP {i j:Str}:decide (V.str i=V.str j)=(i == j):=by
 rw [Bool.eq_iff_iff]
 simp
theorem oQ {i j:Array UInt8}:decide (V.byt i=V.byt j)=(i.toList == j.toList):=by
 rw [Bool.eq_iff_iff]
 cases i
 cases j
 simp
section
variable {X:Cx}{a b c:Expr}{ta tb tc:TE}{pos:Pos}
theorem aQ {pins:List (Addr×Obj)}{σ:St}{H:Hp}{s:Shared}{Q:VK}{k k':Bool}(I:Inv X pins σ H s) (q:Q (.bl k) H) (e:k=k'):EP X pins σ Q (.bool k') s:=by
 subst e
 exact ⟨.bl k,H,I,rfl,q⟩
theorem be:OpR X (compareOp .Eq) rEq:=by
 intro pins s σ H x y v u Q I rx ry h
 obtain ⟨hs,q⟩:=h
 cases x with
 | non =>
  cases rx
  cases y with
  | non=>cases ry; exact PySem.EqNone.eq_none_none (aQ I q (by simp))
  | bl j=>cases ry; exact PySem.EqNone.eq_none_bool (aQ I q (by simp))
  | int j=>obtain ⟨t',rfl⟩:=ry; exact PySem.EqNone.eq_none_int (aQ I q (by simp))
  | str j=>obtain ⟨t',rfl⟩:=ry; exact PySem.EqNone.eq_none_str (aQ I q (by simp))
  | _=>exact absurd (show false=true from hs) Bool.false_ne_true
 | bl i =>
  cases rx
  cases y with
  | non=>cases ry; exact PySem.EqNone.eq_bool_none (aQ I q (by simp))
  | bl j=>cases ry; exact eq_bool (aQ I q uv)
  | str j=>obtain ⟨t',rfl⟩:=ry; exact PySem.EqMixed.eq_bool_str (aQ I q (by simp))
  | _=>exact absurd (show false=true from hs) Bool.false_ne_true
 | int i =>
  obtain ⟨t,rfl⟩:=rx
  cases y with
  | non=>cases ry; exact PySem.EqNone.eq_int_none (aQ I q (by simp))
  | int j=>obtain ⟨t',rfl⟩:=ry; exact eq_int (aQ I q km)
  | str j=>obtain ⟨t',rfl⟩:=ry; exact PySem.EqMixed.eq_int_str (aQ I q (by simp))
  | _=>exact absurd (show false=true from hs) Bool.false_ne_true
 | str i =>
  obtain ⟨t,rfl⟩:=rx
  cases y with
  | non=>cases ry; exact PySem.EqNone.eq_str_none (aQ I q (by simp))
  | bl j=>cases ry; exact PySem.EqMixed.eq_str_bool (aQ I q (by simp))
  | int j=>obtain ⟨t',rfl⟩:=ry; exact PySem.EqMixed.eq_str_int (aQ I q (by simp))
  | str j=>obtain ⟨t',rfl⟩:=ry; exact eq_str (aQ I q oP)
  | _=>exact absurd (show false=true from hs) Bool.false_ne_true
 | byt i =>
  obtain ⟨t,rfl⟩:=rx
  cases y with
  | byt j=>obtain ⟨t',rfl⟩:=ry; exact PySem.W.eq_bytes (aQ I q oQ)
  | _=>exact absurd (show false=true from hs) Bool.false_ne_true
 | _=>cases y <;> exact absurd (show false=true from hs) Bool.false_ne_true
theorem w_:OpR X (compareOp .NotEq) rNe:=by
 intro pins s σ H x y v u Q I rx ry h
 obtain ⟨hs,q⟩:=h
 cases x with
 | non =>
  cases rx
  cases y with
  | non=>cases ry; exact PySem.EqNone.ne_none_none (aQ I q (by simp))
  | bl j=>cases ry; exact PySem.EqNone.ne_none_bool (aQ I q (by simp))
  | int j=>obtain ⟨t',rfl⟩:=ry; exact PySem.EqNone.ne_none_int (aQ I q (by simp))
  | str j=>obtain ⟨t',rfl⟩:=ry; exact PySem.EqNone.ne_none_str (aQ I q (by simp))
  | _=>exact absurd (show false=true from hs) Bool.false_ne_true
 | bl i =>
  cases rx
  cases y with
  | non=>cases ry; exact PySem.EqNone.ne_bool_none (aQ I q (by simp))
  | bl j=>cases ry; exact ne_bool (aQ I q (congrArg not uv))
  | str j=>obtain ⟨t',rfl⟩:=ry; exact PySem.EqMixed.ne_bool_str (aQ I q (by simp))
  | _=>exact absurd (show false=true from hs) Bool.false_ne_true
 | int i =>
  obtain ⟨t,rfl⟩:=rx
  cases y with
  | non=>cases ry; exact PySem.EqNone.ne_int_none (aQ I q (by simp))
  | int j=>obtain ⟨t',rfl⟩:=ry; exact ne_int (aQ I q (congrArg not km))
  | str j=>obtain ⟨t',rfl⟩:=ry; exact PySem.EqMixed.ne_int_str (aQ I q (by simp))
  | _=>exact absurd (show false=true from hs) Bool.false_ne_true
 | str i =>
  obtain ⟨t,rfl⟩:=rx
  cases y with
  | non=>cases ry; exact PySem.EqNone.ne_str_none (aQ I q (by simp))
  | bl j=>cases ry; exact PySem.EqMixed.ne_str_bool (aQ I q (by simp))
  | int j=>obtain ⟨t',rfl⟩:=ry; exact PySem.EqMixed.ne_str_int (aQ I q (by simp))
  | str j=>obtain ⟨t',rfl⟩:=ry; exact ne_str (aQ I q (congrArg not oP))
  | _=>exact absurd (show false=true from hs) Bool.false_ne_true
 | byt i =>
  obtain ⟨t,rfl⟩:=rx
  cases y with
  | byt j=>obtain ⟨t',rfl⟩:=ry; exact PySem.W.ne_bytes (aQ I q (congrArg not oQ))
  | _=>exact absurd (show false=true from hs) Bool.false_ne_true
 | _=>cases y <;> exact absurd (show false=true from hs) Bool.false_ne_true
theorem fU:OpR X (compareOp .Lt) (rI0 fun i j=>.bl (decide (i<j))):=vP fun _ _ _ _ _ _ _ q=>lt_int q
theorem sy:OpR X (compareOp .LtE) (rI0 fun i j=>.bl (decide (i<=j))):=vP fun _ _ _ _ _ _ _ q=>le_int q
theorem kN:OpR X (compareOp .Gt) (rI0 fun i j=>.bl (decide (j<i))):=vP fun _ _ _ _ _ _ _ q=>gt_int q
theorem zX:OpR X (compareOp .GtE) (rI0 fun i j=>.bl (decide (j<=i))):=vP fun _ _ _ _ _ _ _ q=>ge_int q
def Bq:HO->Bool
 | .lst _=>true
 | .ins _ _ _=>true
 | _=>false
theorem tj (b:Expr) {op:CmpOp}(h:op≠.In:=by decide) (h2:op≠.NotIn:=by decide):behindInMarks op b=false:=by
 have e1:(op == CmpOp.In)=false:=by cases op <;> first | rfl | exact absurd rfl h
 have e2:(op == CmpOp.NotIn)=false:=by cases op <;> first | rfl | exact absurd rfl h2
 cases b <;> simp [behindInMarks,e1,e2]
theorem vJ {op:CmpOp}{r:R2}(ho:OpR X (compareOp op) r) (ha:PE X a ta) (hb:PE X b tb) (hm:behindInMarks op b=false):PE X (.Compare a [op] [b] pos) (tOp r ta tb):=by
 intro pins s σ H Q I h
 exact wpAny_Compare1 (zh ha hb I h fun v u s2 x y H2 I2 rx ry q=>ho pins s2 σ H2 x y v u Q I2 rx ry q) hm
def nh (t:TE):TT:=fun σ H Q=>t σ H fun x H'=>∃k,x=.bl k/\Q k H'
theorem vh {op:CmpOp}{r:R2}(ho:OpR X (compareOp op) r) (ha:PE X a ta) (hb:PE X b tb) (hm:behindInMarks op b=false):PT X (.Compare a [op] [b] pos) (nh (tOp r ta tb)):=by
 intro pins s σ H Q I h
 refine wpAny_isTrue_Compare1 (thn (ha pins s σ H _ I h) fun v s1 ⟨x,H1,I1,r1,q1⟩=>thn (hb pins s1 σ H1 _ I1 q1) fun u s2 ⟨y,H2,I2,r2,q2⟩ =>
  thn (ho pins s2 σ H2 x y v u _ I2 r1 r2 q2) fun c s3 ⟨z,H3,I3,r3,k,e,q3⟩=>?_) hm
 subst e
 cases r3
 exact wpAny_truthy_bool ⟨H3,I3,q3⟩
def jy (r r':R2) (ta tb tc:TE):TE:=fun σ H Q=>ta σ H fun x H1=>tb σ H1 fun y H2=>r x y H2 fun z H3=>∃k,z=.bl k /\
 (if k=true then tc σ H3 fun w' H4=>r' y w' H4 Q else Q (.bl false) H3)
theorem sf {op op':CmpOp}{r r':R2}(ho:OpR X (compareOp op) r) (ho':OpR X (compareOp op') r') (ha:PE X a ta) (hb:PE X b tb) (hc:PE X c tc)
  (hm:lastMarks [op,op'] [b,c]=false:=by with_unfolding_all rfl):PE X (.Compare a [op,op'] [b,c] pos) (jy r r' ta tb tc):=by
 intro pins s σ H Q I h
 refine Compare_chain (thn (ha pins s σ H _ I h) fun v s1 ⟨x,H1,I1,r1,q1⟩=>chain_link (thn (hb pins s1 σ H1 _ I1 q1) fun u s2 ⟨y,H2,I2,r2,q2⟩ =>
  thn (ho pins s2 σ H2 x y v u _ I2 r1 r2 q2) fun d s3 ⟨z,H3,I3,r3,k,e,q3⟩=>?_)) hm
 subst e
 cases r3
 refine wpAny_truthy_bool ?_
 cases k with
 | false=>exact ite_ff ⟨.bl false,H3,I3,rfl,q3⟩
 | true=>exact ite_tt (chain_last (thn (hc pins s3 σ H3 _ I3 q3) fun w' s4 ⟨z',H4,I4,r4,q4⟩=>ho' pins s4 σ H4 y z' u w' Q I4 r2 r4 q4))
theorem rH {op op':CmpOp}{r r':R2}(ho:OpR X (compareOp op) r) (ho':OpR X (compareOp op') r') (ha:PE X a ta) (hb:PE X b tb) (hc:PE X c tc)
  (hm:lastMarks [op,op'] [b,c]=false:=by with_unfolding_all rfl):PT X (.Compare a [op,op'] [b,c] pos) (nh (jy r r' ta tb tc)):=by
 intro pins s σ H Q I h
 refine isTrue_chain (thn (ha pins s σ H _ I h) fun v s1 ⟨x,H1,I1,r1,q1⟩=>test_link (thn (hb pins s1 σ H1 _ I1 q1) fun u s2 ⟨y,H2,I2,r2,q2⟩ =>
  thn (ho pins s2 σ H2 x y v u _ I2 r1 r2 q2) fun d s3 ⟨z,H3,I3,r3,k,e,q3⟩=>?_)) hm
 subst e
 cases r3
 refine wpAny_truthy_bool ?_
 cases k with
 | false =>
  obtain ⟨k',e',q'⟩:=q3
  cases e'
  exact ite_ff ⟨H3,I3,q'⟩
 | true =>
  refine ite_tt (test_last (thn (hc pins s3 σ H3 _ I3 q3) fun w' s4 ⟨z',H4,I4,r4,q4⟩=>thn (ho' pins s4 σ H4 y z' u w' _ I4 r2 r4 q4) fun d' s5 ⟨z2,H5,I5,r5,k2,e2,q5⟩=>?_))
  subst e2
  cases r5
  exact wpAny_truthy_bool ⟨H5,I5,q5⟩
def zi (K:PySem.W.Frag) (x:V) (H:Hp) (k:Bool):Prop :=
 match x with
 | .non=>k=false
 | .bl b=>k=b
 | .int i=>k=(i != 0)
 | .str y=>y.length<=sizeLine/\k=((y.length:Int) != 0)
 | .byt y=>y.size<=sizeLine/\k=((y.size:Int) != 0)
 | .ref p=>(∃xs,SqL K H p xs/\k=!xs.isEmpty)\/(∃xs,SqT K H p xs/\k=!xs.isEmpty)\/∃kvs,H p=some (.dK kvs)/\k=!kvs.isEmpty
 | _=>False
theorem mE {κ:Type}{kvs:List (κ×V)}{vs:List (κ×Value)}(r:KV kvs vs):(!vs.isEmpty)=!kvs.isEmpty:=by
 cases r <;> rfl
theorem iF {xs:List V}{its:List Value}(r:Vals xs its):(!its.toArray.isEmpty)=!xs.isEmpty:=by
 cases r <;> simp
theorem iz:(sizeLine:Nat)<2 ^ 63:=by rw [sizeLine_eq]; decide
theorem xA:A5 X (fun x H Q=>∃k,zi X.K x H k/\Q k H):=by
 intro pins s σ H x v Q I rx h
 obtain ⟨k,e,q⟩:=h
 have hl:=iz
 have hs:sizeLine=16777216:=sizeLine_eq
 cases x with
 | non =>
  cases rx
  have e':k=false:=e
  subst e'
  exact truthy_none ⟨H,I,q⟩
 | bl b =>
  cases rx
  have e':k=b:=e
  subst e'
  exact wpAny_truthy_bool ⟨H,I,q⟩
 | int i =>
  obtain ⟨t,rfl⟩:=rx
  have e':k=(i != 0):=e
  subst e'
  exact PySem.P.truthy_int ⟨H,I,q⟩
 | str y =>
  obtain ⟨t,rfl⟩:=rx
  obtain ⟨hy,e'⟩:y.length<=sizeLine/\k=((y.length:Int) != 0):=e
  subst e'
  exact PySem.P.truthy_str (by omega) ⟨H,I.tok _,q⟩
 | byt y =>
  obtain ⟨t,rfl⟩:=rx
  obtain ⟨hy,e'⟩:y.size<=sizeLine/\k=((y.size:Int) != 0):=e
  subst e'
  exact PySem.W.truthy_bytes (by omega) ⟨H,I.tok _,q⟩
 | ref p =>
  cases rx
  have e':(∃xs,SqL X.K H p xs/\k=!xs.isEmpty)\/(∃xs,SqT X.K H p xs/\k=!xs.isEmpty)\/∃kvs,H p=some (.dK kvs)/\k=!kvs.isEmpty:=e
  rcases e' with ⟨xs,hx,e'⟩ | ⟨xs,hx,e'⟩ | ⟨kvs,hx,e'⟩
  ·subst e'
   obtain ⟨its,r,pl,hz⟩:=I.list hx
   have hlen:=r.length
   exact wpAny_truthy_list pl.isList (by simp only [List.size_toArray]; omega) ⟨H,I.tok _,by rw [iF r]; exact q⟩
  ·subst e'
   obtain ⟨its,r,pl,hz⟩:=I.tuple hx
   have hlen:=r.length
   exact truthy_tuple pl (by simp only [List.size_toArray]; omega) ⟨H,I.tok _,by rw [iF r]; exact q⟩
  ·subst e'
   obtain ⟨hz,hS,vs,r,m⟩:kvs.length<=sizeLine/\(p == sysModules)=false/\∃vs,KV kvs vs/\s.heap.DictOf (aI X.prog X.w) p vs:=I.hok p _ hx
   have hlen:kvs.length=vs.length:=Paired.length r
   exact wpAny_truthy_dict hS m (by omega) ⟨H,I.tok _,by rw [mE r]; exact q⟩
 | _=>exact (show False from e).elim
theorem rG (ha:PE X a ta) (he:∀whole,isTrue a X.env whole=(do let v <- whole; standAt a.pos; holding [v] (truthy v))) :
  PT X a (fun σ H Q=>ta σ H fun x H'=>∃k,zi X.K x H' k/\Q k H'):=by
 intro pins s σ H Q I h
 exact isTrue_plain (thn (ha pins s σ H _ I h) fun v s1 ⟨x,H1,I1,r1,q1⟩=>xA pins s1 σ H1 x v Q I1 r1 q1) (he _)
def Am (b:Expr):Prop:=∀o i,subscripted b false o i=operate [o,i] (getItem o i)
theorem dY {x:V}{us:List Value}(r:Vals [x] us):∃u,us=[u]/\RelV x u:=by
 cases r with
 | cons r1 r2=>cases r2; exact ⟨_,rfl,r1⟩
theorem i9 {x y:V}{us:List Value}(r:Vals [x,y] us):∃u w',us=[u,w']/\RelV x u/\RelV y w':=by
 cases r with
 | cons r1 r2 =>
  cases r2 with
  | cons r3 r4=>cases r4; exact ⟨_,_,rfl,r1,r3⟩
theorem cL:bN X (.builtin "abs") (fun xs H Q=>∃i,xs=[.int i]/\Q (.int (if i<0 then -i else i)) H):=by
 intro pins s σ H xs us Q I r h
 obtain ⟨i,rfl,q⟩:=h
 obtain ⟨u,rfl,t,rfl⟩:=dY r
 exact call_abs_int fun u tk=>⟨.int (if i<0 then -i else i),H,I.tok _,⟨_,rfl⟩,q⟩
theorem eU (hc:X.calm=true):bN X (.builtin "max") (fun xs H Q=>∃i j,xs=[.int i,.int j]/\Q (.int (if j > i then j else i)) H):=by
 intro pins s σ H xs us Q I r h
 obtain ⟨i,j,rfl,q⟩:=h
 obtain ⟨u,w',rfl,⟨t,rfl⟩,⟨t',rfl⟩⟩:=i9 r
 refine max_two_ints (I.ok.hd hc) fun h' tk k=>⟨_,H,I.kept k,?_,q⟩
 by_cases hj:j > i
 ·rw [if_pos hj,if_pos hj]; exact ⟨_,rfl⟩
 ·rw [if_neg hj,if_neg hj]; exact ⟨_,rfl⟩
theorem jr (hc:X.calm=true):bN X (.builtin "min") (fun xs H Q=>∃i j,xs=[.int i,.int j]/\Q (.int (if j<i then j else i)) H):=by
 intro pins s σ H xs us Q I r h
 obtain ⟨i,j,rfl,q⟩:=h
 obtain ⟨u,w',rfl,⟨t,rfl⟩,⟨t',rfl⟩⟩:=i9 r
 refine min_two_ints (I.ok.hd hc) fun h' tk k=>⟨_,H,I.kept k,?_,q⟩
 by_cases hj:j<i
 ·rw [if_pos hj,if_pos hj]; exact ⟨_,rfl⟩
 ·rw [if_neg hj,if_neg hj]; exact ⟨_,rfl⟩
theorem qD:bN X (.type "int") (fun xs H Q=>(∃i,xs=[.int i]/\Q (.int i) H)\/∃k,xs=[.bl k]/\Q (.int (if k then 1 else 0)) H):=by
 intro pins s σ H xs us Q I r h
 rcases h with ⟨i,rfl,q⟩ | ⟨k,rfl,q⟩
 ·obtain ⟨u,rfl,t,rfl⟩:=dY r
  exact call_int_int ⟨.int i,H,I,⟨_,rfl⟩,q⟩
 ·obtain ⟨u,rfl,r1⟩:=dY r
  cases r1
  exact call_int_bool ⟨.int (if k then 1 else 0),H,I.tok _,⟨_,rfl⟩,q⟩
def BY (K:PySem.W.Frag) (x:V) (H:Hp) (n:Nat):Prop :=
 match x with
 | .str y=>y.length<=sizeLine/\n=y.length
 | .byt y=>y.size<=sizeLine/\n=y.size
 | .ref p=>(∃xs,SqL K H p xs/\n=xs.length)\/∃xs,SqT K H p xs/\n=xs.length
 | _=>False
end
structure ObjM (h:Heap) (x dx C:Addr) (mA:Str->Option Value):Prop where
 obj:h.get? x=some (PySem.W.instObj C dx)
 ns:h.Ns1 dx mA
 ne:dx≠x
theorem jg {h:Heap}{dx:Addr}{mA:Str->Option Value}(n:h.Ns1 dx mA):∃od,h.get? dx=some od/\∀name,PySem.W.lookIn name od=some (mA name):=by
 obtain ⟨o,es,ep,ho,hd,hk,_,hm⟩:=n
 refine ⟨o,ho,fun name=>?_⟩
 have e:=hm name
 unfold nsFind findBy at e
 rw [<- Array.find?_toList] at e
 unfold PySem.W.lookIn
 rw [hd]
 dsimp only
 split
 ·rename_i y q
  rw [q] at e
  exact congrArg some e
 ·rename_i q
  rw [q] at e
  have a:es.toList.any (·.refKey)=false:=by
   rw [List.any_eq_false]
   intro y hy
   obtain ⟨z,t,hkey⟩:=hk y (Array.mem_toList_iff.mp hy)
   simp [DictEntry.refKey,hkey]
  have a':¬ es.toList.any (·.refKey)=true:=by rw [a]; exact Bool.false_ne_true
  rw [if_neg a']
  exact congrArg some e
theorem ObjM.look {h:Heap}{x dx C:Addr}{mA:Str->Option Value}(I:ObjM h x dx C mA):∃od,PySem.W.InstAt h x (PySem.W.instObj C dx) C (some od)/\∀name,PySem.W.lookIn name od=some (mA name) :=
 let ⟨od,ho,hl⟩:=jg I.ns
 ⟨od,⟨I.obj,rfl,rfl,ho⟩,hl⟩
section
variable {prog:Program}{w:World}{A:Around}{E:Value->Shared->Prop}{s:Shared}{K:PySem.W.Frag}{x dx C f:Addr}{mA:Str->Option Value}{name:Str}{v:Value}
end
def kL (f:Str) (v:V):List (Str×V)->List (Str×V)
 | []=>[(f,v)]
 | (g,x) :: r=>if g=f then (g,v) :: r else (g,x) :: kL f v r
theorem gF (f g:Str) (v:V):∀fs:List (Str×V),(kL f v fs).lookup g=if g=f then some v else fs.lookup g
 | []=>by
  show List.lookup g [(f,v)]=_
  by_cases h:g=f
  ·have hb:(g == f)=true:=beq_iff_eq.mpr h
   simp only [List.lookup,hb,if_pos h]
  ·have hb:(g == f)=false:=beq_eq_false_iff_ne.mpr h
   simp only [List.lookup,hb,if_neg h]
 | (k,x) :: r=>by
  have ih:=gF f g v r
  rw [show kL f v ((k,x) :: r)=(if k=f then (k,v) :: r else (k,x) :: kL f v r) from rfl]
  by_cases hk:k=f
  ·rw [if_pos hk]
   by_cases h:g=k
   ·have hb:(g == k)=true:=beq_iff_eq.mpr h
    simp only [List.lookup,hb,if_pos (h.trans hk)]
   ·have hb:(g == k)=false:=beq_eq_false_iff_ne.mpr h
    simp only [List.lookup,hb,if_neg (fun e:g=f=>h (e.trans hk.symm))]
  ·rw [if_neg hk]
   by_cases h:g=k
   ·have hb:(g == k)=true:=beq_iff_eq.mpr h
    simp only [List.lookup,hb,if_neg (fun e:g=f=>hk (h.symm.trans e))]
   ·have hb:(g == k)=false:=beq_eq_false_iff_ne.mpr h
    simp only [List.lookup,hb]
    exact ih
theorem RelO.some_of {v:V}{o:Option Value}(r:RelO (some v) o):∃u,o=some u/\RelV v u:=by
 cases o with
 | none=>exact (show False from r).elim
 | some u=>exact ⟨u,rfl,r⟩
theorem RelO.none_of {o:Option Value}(r:RelO none o):o=none:=by
 cases o with
 | none=>rfl
 | some u=>exact (show False from r).elim
theorem qj {v:V}{u:Value}(r:RelV v u):PySem.W.handedIn u=true:=by
 cases v with
 | non=>cases (show u=Value.none from r); rfl
 | bl b=>cases (show u=Value.bool b from r); rfl
 | int i=>obtain ⟨t,e⟩:=(show ∃t,u=Value.int i t from r); cases e; rfl
 | str x=>obtain ⟨t,e⟩:=(show ∃t,u=Value.str x t from r); cases e; rfl
 | byt b=>obtain ⟨t,e⟩:=(show ∃t,u=Value.bytes b t from r); cases e; rfl
 | flt b=>obtain ⟨t,e⟩:=(show ∃t,u=Value.float b t from r); cases e; rfl
 | ref a=>cases (show u=Value.ref a from r); rfl
 | ty n=>cases (show u=Value.type n from r); rfl
section
variable {P:Program}{w:World}{H H':Hp}{h h':Heap}{a C dx:Addr}{fs fs':List (Str×V)}
theorem we (hok:HOk P w H h) (e:H a=some (.ins C dx fs)):∃mA,ObjM h a dx C mA/\(∀f,RelO (fs.lookup f) (mA f))/\PySem.Within mA (fs.map (·.1))/\fs.length<=1000/\H dx=some (.own a):=by
 obtain ⟨d,z,ne,ob,mA,n,r,q⟩:=(show ObjOk P w H h a (.ins C dx fs) from hok a _ e)
 exact ⟨mA,⟨ob,n,ne⟩,r,q,z,d⟩
end
structure Cls (K:PySem.W.Frag) (C:Addr):Prop where
 pg:PySem.W.plainGet K C Str.empty=true
 hd:PySem.W.hasDictIn K C=true
 po:PySem.W.plainOver K C=true
 sa:PySem.W.findIn K (.ref C) "__setattr__"=some (some (.builtin "object.__setattr__"))
theorem Cls.get {K:PySem.W.Frag}{C:Addr}(c:Cls K C) (f:Str):PySem.W.plainGet K C f=true:=c.pg
def mX (K:PySem.W.Frag) (C:Addr) (f:Str):Prop:=PySem.W.findIn K (.ref C) f=some none
structure Con (K:PySem.W.Frag) (C:Addr) (f:Str) (v:V) (u:Value):Prop where
 at_:PySem.W.findIn K (.ref C) f=some (some u)
 rel:RelV v u
 get:PySem.W.specialIn K u "__get__"=some none
 cp:PySem.W.copiedNames.contains f=false
structure BX (K:PySem.W.Frag) (C:Addr) (m:Str) (f:Addr):Prop where
 at_:PySem.W.findIn K (.ref C) m=some (some (.ref f))
 fn:PySem.W.isFn K (.ref f)=true
 kp:PySem.W.keepIn K (.ref f)=true
section
variable {X:Cx}{pins:List (Addr×Obj)}{σ:St}{H:Hp}{s:Shared}{a C dx:Addr}{fs:List (Str×V)}{f:Str}{v:V}{A:Around}{E:Value->Shared->Prop}
theorem wJ {prog:Program}{w:World}{env:Env}{e:Expr}{f:Str}{pos:Pos}{s:Shared}{Q:Value->Shared->Prop}(hb:attributeBase e f env (eval e env)=eval e env)
  (h:wpAny (model prog w) A (eval e env) (fun o s₁=>wpAny (model prog w) A (getAttr o f true) Q E s₁) E s):wpAny (model prog w) A (eval (.Attribute e f pos) env) Q E s :=
 Attribute_any_ h (by rw [arm_eval_Attribute,hb])
end
def BC (K:PySem.W.Frag) (ta:TE) (f:Str):TE:=fun σ H Q=>ta σ H fun x H1=>∃a C dx fs v,x=.ref a/\H1 a=some (.ins C dx fs)/\Cls K C/\mX K C f/\fs.lookup f=some v/\Q v H1
def BF (K:PySem.W.Frag) (ta:TE) (f:Str):TE:=fun σ H Q=>ta σ H fun x H1=>∃a C dx fs v u,x=.ref a/\H1 a=some (.ins C dx fs)/\Cls K C/\Con K C f v u/\fs.lookup f=none/\Q v H1
def BK (K:PySem.W.Frag) (ta tv:TE) (f:Str):TS:=fun D σ H=>tv σ H fun y H1=>ta σ H1 fun x H2=>∃a C dx fs,x=.ref a/\H2 a=some (.ins C dx fs)/\Cls K C/\mX K C f/\fs.length<1000 /\
 D.nx σ (upd H2 a (.ins C dx (kL f y fs)))
def BZ (X:Cx) (op:Operator) (rd:V->V->Hp->VK->Prop):Prop :=
 ∀(pins:List (Addr×Obj)) (s:Shared) (σ:St) (H:Hp) (x y:V) (u v:Value) (Q:VK),Inv X pins σ H s->RelV x u->RelV y v->rd x y H Q->wpAny (model X.prog X.w) X.A (inplaceOp op u v) (EP X pins σ Q) X.xe s
def Ap (K:PySem.W.Frag) (ta tv:TE) (rd:V->V->Hp->VK->Prop) (f:Str):TS:=fun D σ H=>ta σ H fun x H1=>∃a C dx fs v,x=.ref a/\H1 a=some (.ins C dx fs)/\Cls K C/\mX K C f/\fs.lookup f=some v /\
 tv σ H1 fun y H2=>rd v y H2 fun z H3=>∃dx' fs',H3 a=some (.ins C dx' fs')/\fs'.length<1000/\D.nx σ (upd H3 a (.ins C dx' (kL f z fs')))
section
variable {X:Cx}{o e value:Expr}{f:Str}{pos pos' tpos:Pos}{ta tv:TE}
def BQ:V->V->Hp->VK->Prop:=fun x y H Q=>∃i j,x=.int i/\y=.int j/\Q (.int (i+j)) H
def BL:V->V->Hp->VK->Prop:=fun x y H Q=>∃i j,x=.int i/\y=.int j/\Q (.int (i-j)) H
end
section
variable {X:Cx}{pins:List (Addr×Obj)}{σ:St}{H:Hp}{s:Shared}{A:Around}{E:Value->Shared->Prop}{Q:Value->Shared->Prop}{c:Value}{b:Bool}
inductive TyOf (K:PySem.W.Frag) (H:Hp):V->Value->Prop where
 | non:TyOf K H .non (.type "NoneType")
 | bl (x:Bool):TyOf K H (.bl x) (.type "bool")
 | int (i:Int):TyOf K H (.int i) (.type "int")
 | str (x:Str):TyOf K H (.str x) (.type "str")
 | flt (x:UInt64):TyOf K H (.flt x) (.type "float")
 | lst {a:Addr}{xs:List V}(e:H a=some (.lst xs)):TyOf K H (.ref a) (.type "list")
 | frz {a:Addr}{o:Obj}{xs:List V}(e:H a=some (.frz o (.lst xs))):TyOf K H (.ref a) (.type "list")
 | tup {a:Addr}{xs:List V}(e:H a=some (.tup xs)):TyOf K H (.ref a) (.type "tuple")
 | dK {a:Addr}{kvs:List (Key×V)}(e:H a=some (.dK kvs)):TyOf K H (.ref a) (.type "dict")
 | dT {a:Addr}{kvs:List (List Key×V)}(e:H a=some (.dT kvs)):TyOf K H (.ref a) (.type "dict")
 | ins {a C dx:Addr}{fs:List (Str×V)}(e:H a=some (.ins C dx fs)) (cl:Cls K C) (ha:PySem.W.findIn K (.ref C) "__class__"=some (some (.builtin "object.__class__")))
   (hn:PySem.W.specialIn K (.builtin "object.__class__") "__get__"=some (some (.builtin "getset_descriptor.__get__"))) (htk:PySem.W.takesIn K (.builtin "object.__class__")=some true)
   (hm:PySem.W.mroIn K C (.type "object")=some true):TyOf K H (.ref a) (.ref C)
theorem qf {x:V}{u t:Value}(I:Inv X pins σ H s) (rx:RelV x u) (ty:TyOf X.K H x t) (e:PySem.W.kitOne X.K t c=some b) (h:∀tk,Q (.bool b) { s with toks:=tk }) :
  wpAny (model X.prog X.w) A (call (.builtin "isinstance") [u,c]) Q E s:=by
 cases ty with
 | non=>cases (show u=Value.none from rx); exact PySem.W.kia_one PySem.W.kitx_none I.kIn True.intro e (fun z=>nomatch z) h
 | bl y=>cases (show u=Value.bool y from rx); exact PySem.W.kia_one PySem.W.kitx_bool I.kIn True.intro e (fun z=>nomatch z) h
 | int i=>obtain ⟨t,q⟩:=(show ∃t,u=Value.int i t from rx); cases q; exact PySem.W.kia_one PySem.W.kitx_int I.kIn True.intro e (fun z=>nomatch z) h
 | str y=>obtain ⟨t,q⟩:=(show ∃t,u=Value.str y t from rx); cases q; exact PySem.W.kia_one PySem.W.kitx_str I.kIn True.intro e (fun z=>nomatch z) h
 | flt y=>obtain ⟨t,q⟩:=(show ∃t,u=Value.float y t from rx); cases q; exact PySem.W.kia_one PySem.W.kitx_float I.kIn True.intro e (fun z=>nomatch z) h
 | @lst a xs ea =>
  cases (show u=Value.ref a from rx)
  obtain ⟨_,_,n,_,h1⟩:=(show ObjOk X.prog X.w H s.heap a (.lst xs) from I.hok a _ ea)
  exact PySem.W.kia_one PySem.W.kitx_list I.kIn ⟨_,h1,rfl⟩ e (fun z=>nomatch z) h
 | @frz a ob xs ea =>
  cases (show u=Value.ref a from rx)
  obtain ⟨_,_,_,n,_,h1⟩:=(show ObjOk X.prog X.w H s.heap a (.frz ob (.lst xs)) from I.hok a _ ea)
  exact PySem.W.kia_one PySem.W.kitx_list I.kIn ⟨_,h1,rfl⟩ e (fun z=>nomatch z) h
 | @tup a xs ea =>
  cases (show u=Value.ref a from rx)
  obtain ⟨_,_,_,p⟩:=(show ObjOk X.prog X.w H s.heap a (.tup xs) from I.hok a _ ea)
  obtain ⟨o,h1,h2,_⟩:=p
  exact PySem.W.kia_one PySem.W.kitx_tuple I.kIn ⟨o,h1,h2⟩ e (fun z=>nomatch z) h
 | @dK a kvs ea =>
  cases (show u=Value.ref a from rx)
  obtain ⟨_,_,vs,_,p⟩:=(show ObjOk X.prog X.w H s.heap a (.dK kvs) from I.hok a _ ea)
  obtain ⟨o,es,ep,h1,h2,_⟩:=p
  exact PySem.W.kia_one PySem.W.kitx_dict I.kIn ⟨o,h1,h2.1⟩ e (fun z=>nomatch z) h
 | @dT a kvs ea =>
  cases (show u=Value.ref a from rx)
  obtain ⟨_,_,xs,_,o,es,ep,h1,h2,_⟩:=(show ObjOk X.prog X.w H s.heap a (.dT kvs) from I.hok a _ ea)
  exact PySem.W.kia_one PySem.W.kitx_dict I.kIn ⟨o,h1,h2.1⟩ e (fun z=>nomatch z) h
 | @ins a C dx fs ea cl ha hn htk hm =>
  cases (show u=Value.ref a from rx)
  obtain ⟨mA,O,_⟩:=we I.hok ea
  obtain ⟨od,J,_⟩:=O.look
  exact PySem.W.kia_one (PySem.W.kitx_own (cl.get _) cl.hd ha hn htk hm) I.kIn J e (fun z=>nomatch z) h
end
structure Room (k:Nat) (A:Around):Prop where
 hd:A.handled=none
 dp:A.depth+3*k+5<recursionLimit
 un:A.units+16*k+200<cLine
theorem Room.mono {j k:Nat}{A:Around}(r:Room k A) (h:j<=k):Room j A:=⟨r.hd,by have:=r.dp; omega,by have:=r.un; omega⟩
theorem Room.deeper {k:Nat}{A:Around}(r:Room (k+1) A) (env:Env):Room k (A.deeper env) :=
 ⟨r.hd,by have:=r.dp; show A.depth+1+3*k+5<_; omega,by have:=r.un; show A.units+3+16*k+200<_; omega⟩
theorem Room.in1 {k:Nat}{A:Around}(r:Room (k+1) A):Room k A.in1 :=
 ⟨r.hd,by have:=r.dp; show A.depth+3*k+5<_; omega,by have:=r.un; show A.units+1+16*k+200<_; omega⟩
theorem my {A:Around}{C:Addr}{us:List Value}{kw:List (Str×Value)}:(A.under (.builtin "type.__call__" ⟨.ref C :: us,kw⟩)).depth=A.depth+1:=by
 first | rfl | simp [Around.under,Code.weight,Code.isCreation,Code.isGuard,Code.isCaller,Code.frames,Code.isFrame,guardIds]
theorem mw {A:Around}{C:Addr}{us:List Value}{kw:List (Str×Value)}:(A.under (.builtin "type.__call__" ⟨.ref C :: us,kw⟩)).units=A.units+1:=by
 first | rfl | simp [Around.under,Code.cUnits,Code.frames,Code.isFrame]
theorem Room.make {k:Nat}{A:Around}(r:Room (k+1) A) (C:Addr) (us:List Value) (kw:List (Str×Value)):Room k (A.under (.builtin "type.__call__" ⟨.ref C :: us,kw⟩)) :=
 ⟨r.hd,by have:=r.dp; rw [my]; omega,by have:=r.un; rw [mw]; omega⟩
theorem Room.depth {k:Nat}{A:Around}(r:Room k A):A.depth<recursionLimit:=by have:=r.dp; omega
theorem Room.units {k:Nat}{A:Around}(r:Room k A):A.units+64<cLine:=by have:=r.un; omega
def g9:TA:=fun _ H Q=>Q [] H
def cu (ta:TE) (tr:TA):TA:=fun σ H Q=>ta σ H fun x H1=>tr σ H1 fun xs H2=>Q (x :: xs) H2
section
variable {X:Cx}{e:Expr}{es:List Expr}{te:TE}{t:TA}{pos:Pos}
theorem cV:PA X [] g9:=fun _ _ _ _ H Q I h=>Calls.spliced_nil ⟨[],H,I,.nil,h⟩
theorem vO (ha:PE X e te) (hr:PA X es t) (hs:starEach (e :: es) X.env=(false,eval e X.env) :: starEach es X.env:=by rfl):PA X (e :: es) (cu te t):=by
 intro pos pins s σ H Q I h
 rw [hs]
 show wpAny _ _ (spliced ((false,eval e X.env) :: backTo pos (starEach es X.env))) _ _ s
 refine Calls.spliced_cons (thn (ha pins s σ H _ I h) fun u s1 ⟨x,H1,I1,r1,q1⟩=>?_)
 exact thn (hr pos pins s1 σ H1 _ I1 q1) fun us s2 ⟨xs,H2,I2,r2,q2⟩=>⟨x :: xs,H2,I2,.cons r1 r2,q2⟩
def zu (t:TA):TE:=fun σ H Q=>t σ H fun xs H1=>xs.length<=sizeLine/\∀p,H1 p=none->Q (.ref p) (upd H1 p (.tup xs))
def zy (t:TA):TE:=fun σ H Q=>t σ H fun xs H1=>xs.length<=sizeLine/\∀p,H1 p=none->Q (.ref p) (upd H1 p (.lst xs))
theorem yj {x1} (h:PA X es t):PE X (.Tuple es x1 pos) (zu t):=by
 intro pins s σ H Q I hq
 refine wpAny_Tuple_spliced (thn (h pos pins s σ H _ I hq) fun us s1 ⟨xs,H1,I1,r,z,q⟩=>⟨by rw [<- r.length]; exact z,?_⟩)
 have hf:H1 s1.heap.objs.size=none:=I1.hok.fresh (Nat.le_refl _)
 refine ⟨.ref s1.heap.objs.size,upd H1 s1.heap.objs.size (.tup xs),I1.laid (t':=s1.toks) (fun b u e=>Heap.get?_push_of_some _ e) (Nat.le_refl _) ?_,rfl,q _ hf⟩
 exact ⟨z,us,r,⟨_,Heap.get?_push_size _ rfl,rfl,_,rfl⟩⟩
theorem yp (h:PA X es t):PE X (.List es pos) (zy t):=by
 intro pins s σ H Q I hq
 refine wpAny_List_spliced (thn (h pos pins s σ H _ I hq) fun us s1 ⟨xs,H1,I1,r,z,q⟩=>⟨by rw [<- r.length]; exact z,?_⟩)
 have hf:H1 s1.heap.objs.size=none:=I1.hok.fresh (Nat.le_refl _)
 refine ⟨.ref s1.heap.objs.size,upd H1 s1.heap.objs.size (.lst xs),I1.laid (t':=s1.toks) (fun b u e=>Heap.get?_push_of_some _ e) (Nat.le_refl _) ?_,rfl,q _ hf⟩
 exact ⟨z,us,0,r,Heap.get?_push_size _ rfl⟩
end
abbrev Sp:=List V->Hp->VK->XK->Prop
abbrev CXT:=List Env->Hp->Shared->XK->Value->Shared->Prop
structure Env0 (P:Program) (w:World) (K:PySem.W.Frag) (mg:Str->Option Value) (base:Heap) (A:Around) (outer:List Env) (s:Shared) (H:Hp):Prop where
 frames:A.frames=some outer
 mod:Mod K mg base
 bs:∀b o,base.get? b=some o->s.heap.get? b=some o/\H b=none
 bsz:base.objs.size<=s.heap.objs.size
 funs:s.heap.FunFrames base outer
 frf:∀b∈frs outer,H b=none
 hok:HOk P w H s.heap
 bare:AllBare s.gens
def CE (outer:List Env) (P:Program) (w:World) (H:Hp) (s:Shared) (Q:VK) (u:Value) (s':Shared):Prop :=
 ∃v H',s'.os=s.os/\AllBare s'.gens/\Un (frs outer) [] H H' s.heap s'.heap/\HOk P w H' s'.heap/\RelV v u/\Q v H'
def CR (CX:CXT) (outer:List Env) (P:Program) (w:World) (H:Hp) (s:Shared) (Q:VK) (E:XK) (r:Result) (s':Shared):Prop :=
 match r with
 | .ok (.ret u)=>CE outer P w H s Q u s'
 | .ok _=>False
 | .error e=>CX outer H s E e s'
structure aG (P:Program) (w:World) (K:PySem.W.Frag) (mg:Str->Option Value) (base:Heap) (CX:CXT) (k:Nat) (f:Addr) (fd:FuncData) (ps:List Str) (sp:Sp):Prop where
 len:∀vs H Q E,sp vs H Q E->vs.length=ps.length
 run:∀(A:Around) (outer:List Env) (s:Shared) (H:Hp) (args:Args) (us:List Value) (vs:List V) (Q:VK) (E:XK),Room k A->Env0 P w K mg base A outer s H->BindsTo s fd args (ps.zip us)->Vals vs us->sp vs H Q E ->
  codeAny (model P w) A (.call (.ref f) args) (CR CX outer P w H s Q E) s
theorem Env0.make {P:Program}{w:World}{K:PySem.W.Frag}{mg:Str->Option Value}{base:Heap}{A:Around}{outer:List Env}{s:Shared}{H:Hp}(e:Env0 P w K mg base A outer s H) (C:Addr) (us:List Value) (kw:List (Str×Value)) :
  Env0 P w K mg base (A.under (.builtin "type.__call__" ⟨.ref C :: us,kw⟩)) outer s H:=⟨by first | exact e.frames | (simpa [Around.under,Code.envs,Code.isFrame,pushEnvs] using e.frames),e.mod,e.bs,e.bsz,e.funs,e.frf,e.hok,e.bare⟩
section
variable {X:Cx}{pins:List (Addr×Obj)}{σ:St}{H:Hp}{s s':Shared}
theorem Inv.env0 (I:Inv X pins σ H s):Env0 X.prog X.w X.K X.mg X.base X.A X.stack s H :=
 ⟨I.ok.frames,I.ok.mod,I.bs,Nat.le_trans I.ok.bsz I.sz,I.stack,I.stkFree,I.hok,I.bare⟩
theorem Inv.after {Q:VK}{u:Value}(I:Inv X pins σ H s) (h:CE X.stack X.prog X.w H s Q u s'):EP X pins σ Q u s':=by
 obtain ⟨v,H',os,bare,un,hok,r,q⟩:=h
 obtain ⟨hh,g,d,t,os'⟩:=s'
 obtain rfl:os'=s.os:=os
 exact ⟨v,H',I.call (h':=hh) (g':=g) (d':=d) (t':=t) (ch:=[]) un hok bare (fun b z=>absurd z (by simp)),r,q⟩
end
def nr (sp:Sp) (dvs:List V) (E:XK) (t:TA):TE:=fun σ H Q=>t σ H fun vs H1=>sp (vs++dvs) H1 Q E
def Bb (C:Addr) (m:Str) (sp:Sp) (dvs:List V) (E:XK) (ta:TE) (t:TA):TE:=fun σ H Q=>ta σ H fun x H1=>∃a dx fs,x=.ref a/\H1 a=some (.ins C dx fs)/\fs.lookup m=none /\
 t σ H1 fun vs H2=>sp (x :: (vs++dvs)) H2 Q E
def Bc (C:Addr) (sp:Sp) (dvs:List V) (E:XK) (t:TA):TE:=fun σ H Q=>t σ H fun vs H1=>∀x dx,H1 x=none->H1 dx=none->dx≠x ->
 sp (.ref x :: (vs++dvs)) (upd (upd H1 dx (.own x)) x (.ins C dx [])) (fun v H2=>v=.non/\Q (.ref x) H2) E
def Binds (K:PySem.W.Frag) (fd:FuncData) (ps:List Str) (ds:List Value):Prop :=
 ∀(s:Shared) (us:List Value),K.In s.heap->(us++ds).length=ps.length->BindsTo s fd ⟨us,[]⟩ (ps.zip (us++ds))
theorem Binds.all {K:PySem.W.Frag}{fd:FuncData}{ps:List Str}(h:∀us:List Value,us.length=ps.length->bindArgs fd ⟨us,[]⟩=pure (ps.zip us)):Binds K fd ps []:=fun s us _ hl=>by
 rw [List.append_nil] at hl ⊢
 exact .of_eq (h us hl)
def bC (CX:CXT) (X:Cx) (E:XK):Prop:=∀(pins:List (Addr×Obj)) (σ:St) (H:Hp) (s:Shared) (e:Value) (s':Shared),Inv X pins σ H s->CX X.stack H s E e s'->X.xe e s'
section
variable {X:Cx}{CX:CXT}{k:Nat}{f C:Addr}{fd:FuncData}{ps:List Str}{sp:Sp}{dvs:List V}{ds:List Value}{E:XK}{x m:Str}{p pos apos:Pos}{e o:Expr}{es:List Expr}{ta:TE}{t:TA}
theorem xQ {pins:List (Addr×Obj)}{σ:St}{H:Hp}{s:Shared}{Q:VK}{us:List Value}{vs:List V}(F:aG X.prog X.w X.K X.mg X.base CX k f fd ps sp) (hr:Room k X.A) (hb:Binds X.K fd ps ds) (hd:Vals dvs ds) (hx:bC CX X E)
  (I:Inv X pins σ H s) (r:Vals vs us) (h:sp (vs++dvs) H Q E):wpAny (model X.prog X.w) X.A (call (.ref f) us) (EP X pins σ Q) X.xe s:=by
 have r2:Vals (vs++dvs) (us++ds):=r.append hd
 have hl:(us++ds).length=ps.length:=by rw [<- r2.length]; exact F.len _ _ _ _ h
 refine wpAny_call (codeAny_mono (F.run X.A X.stack s H ⟨us,[]⟩ (us++ds) (vs++dvs) Q E hr I.env0 (hb s us I.kIn hl) r2 h) fun r s' hq=>?_)
 cases r with
 | error e=>exact hx pins σ H s e s' I hq
 | ok fl =>
  cases fl with
  | ret u=>exact I.after hq
  | next=>exact False.elim hq
  | brk=>exact False.elim hq
  | cont=>exact False.elim hq
theorem vK (F:aG X.prog X.w X.K X.mg X.base CX k f fd ps sp) (hr:Room k X.A) (hg:Gl X x) (hm:X.mg x=some (.ref f)) (hk:PySem.W.keepIn X.K (.ref f)=true) (hb:Binds X.K fd ps ds) (hd:Vals dvs ds) (hx:bC CX X E)
  (ha:PA X (e :: es) t) (hdb:(x == ("__debug__":Str))=false:=by decide) (he:starEach (e :: es) X.env=(false,eval e X.env) :: starEach es X.env:=by rfl) (hpl:(backTo pos (starEach es X.env)).any (·.1)=false:=by rfl) :
  PE X (.Call (.Name x p) (e :: es) [] pos) (nr sp dvs E t):=by
 intro pins s σ H Q I h
 refine wpAny_Call_Name_kw (fZ I hg hm ?_ hdb)
 refine PySem.W.callWith_K (h₀:=X.base) I.ok.mod.kin hk (thn (ha pos pins s σ H _ I h) fun us s1 ⟨vs,H1,I1,r,q⟩=>⟨I1.kIn,?_⟩) he hpl
 exact xQ F hr hb hd hx I1 r q
structure Mk (K:PySem.W.Frag) (C f:Addr):Prop where
 makes:PySem.W.makesIn K C=true
 init:PySem.W.findIn K (.ref C) "__init__"=some (some (.ref f))
 fn:PySem.W.isFn K (.ref f)=true
 kp:PySem.W.keepIn K (.ref C)=true
end
def PK (X:Cx) (kws:List Keyword) (t:TA):Prop :=
 ∀(pos:Pos) (pins:List (Addr×Obj)) (s:Shared) (σ:St) (H:Hp) (Q:List V->Hp->Prop),Inv X pins σ H s->t σ H Q->wpAny (model X.prog X.w) X.A (evalAll ((backToKw pos (keywordEach kws X.env)).map (·.2))) (AP X pins σ Q) X.xe s
section
variable {X:Cx}{CX:CXT}{k:Nat}{f C:Addr}{fd:FuncData}{ps ks:List Str}{sp:Sp}{E:XK}{x m:Str}{p pos apos kpos:Pos}{e o:Expr}{es:List Expr}{kws:List Keyword}{te ta:TE}{t tk:TA}{nm:Option Str}
structure A7 (K:PySem.W.Frag) (fd:FuncData) (ps ks:List Str) (g:List Value->List Value->List Value) (gV:List V->List V->List V):Prop where
 to:∀(s:Shared) (us ws:List Value),K.In s.heap->(g us ws).length=ps.length->BindsTo s fd ⟨us,ks.zip ws⟩ (ps.zip (g us ws))
 rel:∀{vs:List V}{us:List Value}{zs:List V}{ws:List Value},Vals vs us->Vals zs ws->Vals (gV vs zs) (g us ws)
def AD (sp:Sp) (gV:List V->List V->List V) (E:XK) (t tk:TA):TE:=fun σ H Q=>t σ H fun vs H1=>tk σ H1 fun zs H2=>sp (gV vs zs) H2 Q E
variable {g:List Value->List Value->List Value}{gV:List V->List V->List V}
end
structure aq (N P:List Str) (sc:Scope):Prop where
 kind:sc.kind=.function
 co:sc.isCoroutine=false
 gen:sc.isGenerator=false
 nd:N.Nodup
 pre:N.take P.length=P
 par:∀x∈P,sc.names.lookup x=some .local\/sc.names.lookup x=some .cell
 nofree:∀y∈sc.names,y.2≠.free
theorem jt {kindOf:Str->Option NameKind}{x:Str}:∀{binds:List (Str×Value)}{m:Str->Option Value},(∀v,(x,v) ∉ binds)->bindL kindOf binds m x=m x
 | [],_,_=>rfl
 | (n,v) :: r,m,h=>by
  unfold bindL
  rw [jt fun w hw=>h w (List.mem_cons_of_mem _ hw)]
  split
  ·have:x≠n:=by rintro rfl; exact h v List.mem_cons_self
   simp [this]
  ·rfl
theorem jv {kindOf:Str->Option NameKind}{x:Str}:∀{binds:List (Str×Value)}{m:Str->Option Value},(∀v,(x,v) ∉ binds)->bindC kindOf binds m x=m x
 | [],_,_=>rfl
 | (n,v) :: r,m,h=>by
  unfold bindC
  rw [jv fun w hw=>h w (List.mem_cons_of_mem _ hw)]
  split
  ·rfl
  ·have:x≠n:=by rintro rfl; exact h v List.mem_cons_self
   simp [this]
theorem ju {kindOf:Str->Option NameKind}{x:Str}{v:Value}:∀{P:List Str}{vs:List Value}{i:Nat}{m:Str->Option Value},P.Nodup->P[i]?=some x->vs[i]?=some v->kindOf x=some .local ->
  bindL kindOf (P.zip vs) m x=some v
 | [],_,_,_,_,h,_,_=>by simp at h
 | _ :: _,[],_,_,_,_,h,_=>by simp at h
 | p :: P,w :: vs,0,m,nd,h1,h2,hk=>by
  simp at h1 h2; subst h1; subst h2
  show bindL kindOf ((p,w) :: P.zip vs) m p=_
  unfold bindL
  rw [jt fun v hv=>(List.nodup_cons.mp nd).1 (List.of_mem_zip hv).1,if_pos hk]
  simp
 | p :: P,w :: vs,i+1,m,nd,h1,h2,hk=>by
  show bindL kindOf ((p,w) :: P.zip vs) m x=_
  unfold bindL
  exact ju (i:=i) (List.nodup_cons.mp nd).2 (by simpa using h1) (by simpa using h2) hk
theorem jw {kindOf:Str->Option NameKind}{x:Str}{v:Value}:∀{P:List Str}{vs:List Value}{i:Nat}{m:Str->Option Value},P.Nodup->P[i]?=some x->vs[i]?=some v->kindOf x≠some .local ->
  bindC kindOf (P.zip vs) m x=some v
 | [],_,_,_,_,h,_,_=>by simp at h
 | _ :: _,[],_,_,_,_,h,_=>by simp at h
 | p :: P,w :: vs,0,m,nd,h1,h2,hk=>by
  simp at h1 h2; subst h1; subst h2
  show bindC kindOf ((p,w) :: P.zip vs) m p=_
  unfold bindC
  rw [jv fun v hv=>(List.nodup_cons.mp nd).1 (List.of_mem_zip hv).1,if_neg hk]
  simp
 | p :: P,w :: vs,i+1,m,nd,h1,h2,hk=>by
  show bindC kindOf ((p,w) :: P.zip vs) m x=_
  unfold bindC
  exact jw (i:=i) (List.nodup_cons.mp nd).2 (by simpa using h1) (by simpa using h2) hk
def start (N:List Str) (vs:List V):St:=vs.map some++List.replicate (N.length-vs.length) none
def bb (CX:CXT) (P:Program) (w:World) (K:PySem.W.Frag) (mg:Str->Option Value) (base:Heap) (N:List Str) (qual:Str) (scope:Scope) (f:Addr) (cd:Value) (A:Around) (outer:List Env) (s:Shared) (H:Hp) (E:XK):Cx where
 prog:=P
 w:=w
 K:=K
 mg:=mg
 base:=base
 A:=A.deeper (envOfC qual scope s.heap.objs.size f cd)
 N:=N
 s₀:=s
 H₀:=H
 env:=envOfC qual scope s.heap.objs.size f cd
 outer:=outer
 stack:=envOfC qual scope s.heap.objs.size f cd :: outer
 ex:=[]
 calm:=true
 fn:=fun _=>true
 pn:=[]
 xe:=fun e s'=>wpAny (model P w) (A.deeper (envOfC qual scope s.heap.objs.size f cd)) (leaving (envOfC qual scope s.heap.objs.size f cd) e) (fun _ s''=>CX outer H s E e s'') (fun e' s''=>CX outer H s E e' s'') s'
theorem lO {sc:Scope}{n:Nat}{x:Str}(h:sc.names.lookup x=some .cell):∃c,(cellsFrom n sc.names []).lookup x=some c:=by
 have q:=PySem.W.cellsFrom_some sc.names n [] (.inl h)
 exact Option.isSome_iff_exists.mp q
theorem qg {CX:CXT}{P:Program}{w:World}{K:PySem.W.Frag}{mg:Str->Option Value}{base:Heap}{N ps:List Str}{qual:Str}{scope:Scope}{f:Addr}{cd:Value}{A:Around}{outer:List Env}{s s1:Shared}{H:Hp}{E:XK}{us:List Value}{vs:List V}
  (S:aq N ps scope) (hd:A.handled=none) (e0:Env0 P w K mg base A outer s H) (hl:vs.length=ps.length) (r:Vals vs us)
  (x:InCallC s s.heap.objs.size (bindL (envOfC qual scope s.heap.objs.size f cd).kindOf (ps.zip us) fun _=>none) (cellsFrom (s.heap.objs.size+1) scope.names []) (bindC (envOfC qual scope s.heap.objs.size f cd).kindOf (ps.zip us) fun _=>none) s1) :
  Inv (bb CX P w K mg base N qual scope f cd A outer s H E) [] (start N vs) H s1:=by
 have hpl:ps.length<=N.length:=by have:=congrArg List.length S.pre; rw [List.length_take] at this; omega
 obtain ⟨h1,tk,rfl,hk⟩:=x.done
 have noA:∀b:Addr,b ∉ (bb CX P w K mg base N qual scope f cd A outer s H E).ex:=fun b z=>absurd (show b∈([]:List Addr) from z) (by simp)
 refine ⟨⟨e0.mod,S.kind,rfl,rfl,Nat.le_refl _,fun y z c h1 h2=>?_,fun y hy=>?_,fun y c _ h=>?_,fun _=>hd,Around.frames_deeper e0.frames,.inr ⟨rfl,rfl⟩,fun b z=>absurd z (noA b),e0.bs,e0.bsz,fun b _ _=>noA b,fun b z=>absurd z (noA b),e0.funs,e0.frf⟩,
  rfl,e0.bare,Un.kept hk,⟨_,x.toInCall.ns,fun i y v h1 h2 h3=>?_⟩,fun y c h=>⟨_,x.cell y c h⟩,e0.hok.fresh (Nat.le_refl _),fun y c h=>?_,fun p hp=>absurd (show p∈([]:List (Addr×Obj)) from hp) (by simp),e0.hok.kept hk,?_⟩
 ·exact name_of_addr x.apart (PySem.mem_of_lookup h1) (PySem.mem_of_lookup h2)
 ·have hy:scope.names.lookup y=some .cell\/scope.names.lookup y=some .free:=hy
  rcases hy with hy | hy
  ·exact lO hy
  ·exact absurd rfl (S.nofree _ (PySem.mem_of_lookup hy))
 ·exact Nat.le_of_lt (x.above y c (PySem.mem_of_lookup h))
 ·have hi:i<vs.length:=by
   unfold start at h2
   by_cases hi:i<vs.length
   ·exact hi
   ·rw [List.getElem?_append_right (by simpa using hi)] at h2
    rw [List.getElem?_replicate] at h2
    split at h2 <;> cases h2
  have ha:vs[i]?=some v:=by
   unfold start at h2
   rw [List.getElem?_append_left (by simpa using hi),List.getElem?_map] at h2
   cases e:vs[i]? with
   | none=>rw [e] at h2; cases h2
   | some a=>rw [e] at h2; cases h2; rfl
  obtain ⟨u,hu,rv⟩:=r.get ha
  have hp:ps[i]?=some y:=by
   rw [<- S.pre,List.getElem?_take_of_lt (by omega)]; exact h1
  have ndP:ps.Nodup:=by rw [<- S.pre]; exact S.nd.sublist (List.take_sublist _ _)
  refine ⟨u,rv,?_⟩
  rcases S.par y (List.mem_of_getElem? hp) with k | k
  ·exact .inl ⟨k,ju ndP hp hu k⟩
  ·obtain ⟨c,e⟩:=lO (n:=s.heap.objs.size+1) k
   refine .inr ⟨.inl k,c,e,?_⟩
   have q:=x.cell y c e
   rw [jw ndP hp hu (by show scope.names.lookup y≠_; rw [k]; decide)] at q
   exact q
 ·exact e0.hok.fresh (Nat.le_of_lt (x.above y c (PySem.mem_of_lookup h)))
 ·unfold start
  show _=N.length
  rw [List.length_append,List.length_map,List.length_replicate]
  omega
/-- THE RULE: a def (or a method) of the text,by its body. The body's reading t is chosen for each entry; it is run at the parameters' values -/
theorem ug {CX:CXT}{P:Program}{w:World}{K:PySem.W.Frag}{mg:Str->Option Value}{base:Heap}{k:Nat}{f:Addr}{name qual:Str}{params:Arguments}{body:List Stmt}{scope:Scope}{dV kV doc pm cdv ct oc:Value}{an od:Option Addr}
  {osl:Array (Option Value)}{N ps:List Str}{sp:Sp}(lk:K.lookup f=some ⟨oc,od,.func (PySem.W.fnOf name qual params body scope dV kV doc pm an cdv ct),osl⟩) (hcd:PySem.W.codeIn K cdv qual=true) (S:aq N ps scope)
  (len:∀vs H Q E,sp vs H Q E->vs.length=ps.length)
  (hbody:∀(A:Around) (outer:List Env) (s:Shared) (H:Hp) (vs:List V) (Q:VK) (E:XK),Room k (A.deeper (envOfC qual scope s.heap.objs.size f cdv))->sp vs H Q E ->
   ∃t,PSs (bb CX P w K mg base N qual scope f cdv A outer s H E) body t/\t { nx:=fun _ H'=>Q .non H',rt:=Q } (start N vs) H) :
  aG P w K mg base CX (k+1) f (PySem.W.fnOf name qual params body scope dV kV doc pm an cdv ct) ps sp:=by
 refine ⟨len,fun A outer s H args us vs Q E hr e0 hb r hsp=>?_⟩
 have hl:=len _ _ _ _ hsp
 have KX:K.In s.heap:=e0.mod.kin.keeps fun b o e=>(e0.bs b o e).1
 have lim:s.heap.NoLimit:=e0.mod.nolimit.keeps fun b o e=>(e0.bs b o e).1
 have hkind:∀y∈ps.zip us,scope.names.lookup y.1=some .local\/(scope.names.lookup y.1=some .cell/\((cellsFrom (s.heap.objs.size+1) scope.names []).lookup y.1).isSome=true):=fun ⟨n,v⟩ hy=>by
  rcases S.par n (List.of_mem_zip hy).1 with q | q
  ·exact .inl q
  ·exact .inr ⟨q,PySem.W.cellsFrom_some _ _ _ (.inl q)⟩
 refine codeAny_call_function hr.depth (KX _ _ lk) rfl S.co S.gen rfl (PySem.W.codeRec_of KX hcd) (hb _ _ _ _ ?_)
 refine wpAny_newFunctionEnv_cells S.kind hkind fun env he s1 x=>?_
 subst he
 refine ⟨lim.keeps x.toInCall.keep,codeAny_func ?_⟩
 obtain ⟨t,ht,hq⟩:=hbody A outer s H vs Q E (hr.deeper _) hsp
 have I:Inv (bb CX P w K mg base N qual scope f cdv A outer s H E) [] (start N vs) H s1:=qg S hr.hd e0 hl r x
 refine wpAny_mono (ht [] s1 (start N vs) H _ I hq) (fun fl s' hs=>?_) fun e s' hs=>hs
 have fin:∀{σ':St}{H':Hp}{v:V}{u:Value},Inv (bb CX P w K mg base N qual scope f cdv A outer s H E) [] σ' H' s'->RelV v u->Q v H'->CE outer P w H s Q u s' :=
  fun {σ' H' v u} J rv q=>⟨v,H',J.os,J.bare,J.base,J.hok,rv,q⟩
 cases fl with
 | ret u =>
  obtain ⟨v,σ',H',J,rv,q⟩:=hs
  exact fin J rv q
 | next =>
  obtain ⟨σ',H',J,q⟩:=hs
  exact fin (v:=V.non) (u:=Value.none) J rfl q
 | brk =>
  obtain ⟨_,_,_,q⟩:=hs
  exact False.elim q
 | cont =>
  obtain ⟨_,_,_,q⟩:=hs
  exact False.elim q
section
variable {X:Cx}{x:Str}{p pos:Pos}{e:Expr}{es:List Expr}{t:TA}{id T:String}{r:List V->Hp->VK->Prop}
def tCB (r:List V->Hp->VK->Prop) (t:TA):TE:=fun σ H Q=>t σ H fun vs H1=>r vs H1 Q
theorem sq (hc:bN X (.builtin id) r) (hg:Gl X x) (hm:X.mg x=none) (hv:bootBuiltins x=some (.builtin id)) (ha:PA X (e :: es) t) (hn:x≠"__name__":=by decide) (hdb:(x == ("__debug__":Str))=false:=by decide)
  (he:starEach (e :: es) X.env=(false,eval e X.env) :: starEach es X.env:=by rfl) (hpl:(backTo pos (starEach es X.env)).any (·.1)=false:=by rfl):PE X (.Call (.Name x p) (e :: es) [] pos) (tCB r t):=by
 intro pins s σ H Q I h
 refine wpAny_Call_Name_kw (bP I hg hm hv ?_ hn hdb)
 exact PyProof.Rows.callWith_builtin1 (thn (ha pos pins s σ H _ I h) fun us s1 ⟨vs,H1,I1,r1,q1⟩=>hc pins s1 σ H1 vs us Q I1 r1 q1) he hpl
theorem pP (hc:bN X (.type T) r) (hg:Gl X x) (hm:X.mg x=none) (hv:bootBuiltins x=some (.type T)) (ha:PA X (e :: es) t) (hn:x≠"__name__":=by decide) (hdb:(x == ("__debug__":Str))=false:=by decide)
  (he:starEach (e :: es) X.env=(false,eval e X.env) :: starEach es X.env:=by rfl) (hpl:(backTo pos (starEach es X.env)).any (·.1)=false:=by rfl):PE X (.Call (.Name x p) (e :: es) [] pos) (tCB r t):=by
 intro pins s σ H Q I h
 refine wpAny_Call_Name_kw (bP I hg hm hv ?_ hn hdb)
 exact PyProof.Rows.callWith_type1 (thn (ha pos pins s σ H _ I h) fun us s1 ⟨vs,H1,I1,r1,q1⟩=>hc pins s1 σ H1 vs us Q I1 r1 q1) he hpl
end
end L2
namespace HT
open PySem PyProof.Rows
def lexLt:List Int->List Int->Bool
 | [],[]=>false
 | [],_ :: _=>true
 | _ :: _,[]=>false
 | x :: xs,y :: ys=>if x=y then lexLt xs ys else decide (x<y)
section
open PySem.SeqAt
open PySem.AutoSeq1 (wpAny_loadPart')
open PySem.MeetsSeq PySem.MeetsSeq2 PySem.MeetsSeq3
end
section
variable {prog:Program}{w:World}{A:Around}{E:Value->Shared->Prop}{s:Shared}
theorem cat_tup {t b:Addr}{vs ws:List Value}{Q:Value->Shared->Prop}(ht:IsTup s.heap t vs.toArray) (hb:IsTup s.heap b ws.toArray) (hv:vs≠[])
  (h1:ws=[]->Q (.ref t) s) (h2:ws≠[]->Q (.ref s.heap.objs.size) { s with heap:=s.heap.push { cls:=.type "tuple",data:=.seq (vs++ws).toArray } })
  (hsz:vs.length+ws.length<=sizeLine):wpAny (model prog w) A (binaryOp .Add (.ref t) (.ref b)) Q E s:=by
 obtain ⟨⟨cls,dd,data,sl⟩,ho,hc,n,hd⟩:=id ht
 obtain ⟨⟨cls2,dd2,data2,sl2⟩,ho2,hc2,n2,hd2⟩:=id hb
 simp only at hc hd hc2 hd2
 subst hc hd hc2 hd2
 have e:vs.toArray++ws.toArray=(vs++ws).toArray:=by simp
 by_cases hw:ws=[]
 ·exact concat_meets ⟨_,ho,rfl⟩ ⟨_,ho2,rfl⟩ noFill_tuple_add seq_tuple_add PySem.F.slot_tuple_add PySem.F.entry_tuple_add (PySem.F.args_tuple_add_2 _ _)
   (tuple_addW1 t b vs.toArray ws.toArray n n2 dd dd2 sl sl2 (by simpa using hv) (by simp [hw])) ⟨ho,ho2,h1 hw⟩
 ·refine concat_meets ⟨_,ho,rfl⟩ ⟨_,ho2,rfl⟩ noFill_tuple_add seq_tuple_add PySem.F.slot_tuple_add PySem.F.entry_tuple_add (PySem.F.args_tuple_add_2 _ _)
   (tuple_addW2 t b vs.toArray ws.toArray n n2 dd dd2 sl sl2 (by simpa using hv) (by simpa using hw) (by rw [List.size_toArray,List.size_toArray]; exact hsz)) ⟨ho,ho2,?_⟩
  rw [e]
  exact h2 hw
def sIx (n d:Nat):Option Int->Nat
 | none=>d
 | some v=>if v<0 then (v+(n:Int)).toNat else min v.toNat n
theorem sIx_none (n d:Nat):sIx n d none=d:=rfl
theorem sIx_nat (n d k:Nat):sIx n d (some (k:Int))=min k n:=by
 show (if (k:Int)<0 then ((k:Int)+(n:Int)).toNat else min (k:Int).toNat n)=min k n
 rw [if_neg (by omega),Int.toNat_natCast]
theorem xO (n d:Nat) (hd:d<=n) (o:Option Int):sIx n d o<=n:=by
 cases o with
 | none=>exact hd
 | some v =>
  show (if v<0 then (v+(n:Int)).toNat else min v.toNat n)<=n
  by_cases hv:v<0
  ·rw [if_pos hv]; omega
  ·rw [if_neg hv]; exact Nat.min_le_right _ _
theorem oU (v:Int) (n d:Nat):(if v<0 then max (v+(n:Int)) 0 else min v (n:Int))=((sIx n d (some v):Nat):Int):=by
 show (if v<0 then max (v+(n:Int)) 0 else min v (n:Int))=(((if v<0 then (v+(n:Int)).toNat else min v.toNat n):Nat):Int)
 by_cases hv:v<0
 ·simp only [if_pos hv]; omega
 ·simp only [if_neg hv]; omega
theorem mU (lo hi:Option Int) (n:Nat):Builtin.Slice.sliceAdjust lo hi 1 (n:Int)=(((sIx n 0 lo:Nat):Int),((sIx n n hi:Nat):Int)):=by
 have h1:¬ ((1:Int)<0):=by omega
 unfold Builtin.Slice.sliceAdjust
 simp only [h1,if_false]
 refine Prod.ext ?_ ?_
 ·cases lo with
  | none=>rfl
  | some v=>exact oU v n 0
 ·cases hi with
  | none=>rfl
  | some v=>exact oU v n n
theorem mh (i j:Nat):Builtin.Slice.slicePlaces (i:Int) (j:Int) 1=j-i:=by
 unfold Builtin.Slice.slicePlaces
 have h1:(1:Int) > 0:=by omega
 simp only [h1,if_true,Int.ediv_one]
 split <;> omega
theorem ib {v:Value}{o:Option Int}{Q:Option Int->Shared->Prop}(p:IsPart v o) (h:Q o s):wpAny (model prog w) A (Builtin.Slice.slicePartIndex v) Q E s:=by
 cases p with
 | none=>exact slicePart_none h
 | int i t=>exact slicePart_int h
theorem sliceApplied_gen {sl:Addr}{vl vu:Value}{lo hi:Option Int}{n:Nat}{Q:Int×Int×Nat->Shared->Prop}(hs:s.heap.IsSliceOf sl vl vu .none) (pl:IsPart vl lo) (pu:IsPart vu hi)
  (h:Q (((sIx n 0 lo:Nat):Int),1,sIx n n hi-sIx n 0 lo) s):wpAny (model prog w) A (Builtin.Slice.sliceApplied (.ref sl) (pure (n:Int))) Q E s:=by
 obtain ⟨os,hos,hcs,hds⟩:=id hs
 unfold Builtin.Slice.sliceApplied Builtin.Slice.sliceFields
 refine wpAny_bind (wpAny_bind (wpAny_field hos hds (x:=vl) rfl (wpAny_bind (wpAny_field hos hds (x:=vu) rfl (wpAny_bind (wpAny_field hos hds (x:=.none) rfl (wpAny_pure ?_)))))))
 refine wpAny_bind (slicePart_none ?_)
 show wpAny _ _ (if ((1:Int) == 0)=true then _ else _) _ _ s
 rw [if_neg (by decide)]
 refine wpAny_bind (ib pl (wpAny_bind (ib pu (wpAny_bind (wpAny_pure ?_)))))
 show wpAny _ _ (match Builtin.Slice.sliceAdjust lo hi 1 (n:Int) with | (lo,hi)=>pure (lo,(1:Int),Builtin.Slice.slicePlaces lo hi 1)) _ _ s
 rw [mU lo hi n]
 show wpAny _ _ (pure (((sIx n 0 lo:Nat):Int),(1:Int),Builtin.Slice.slicePlaces ((sIx n 0 lo:Nat):Int) ((sIx n n hi:Nat):Int) 1)) _ _ s
 rw [mh]
 exact wpAny_pure h
theorem rP (xs:Array Value) (i k:Nat):((List.range k).filterMap fun (m:Nat)=>xs[((i:Int)+(m:Int)*1).toNat]?).toArray=((xs.toList.drop i).take k).toArray:=by
 have e:(fun (m:Nat)=>xs[((i:Int)+(m:Int)*1).toNat]?)=fun m=>xs[i+m]?:=by
  funext m
  have:((i:Int)+(m:Int)*1).toNat=i+m:=by omega
  rw [this]
 rw [e]
 have:=pick_run xs i k
 rw [List.filterMap_map] at this
 have e2:((fun x=>xs[x]?) ∘ fun x=>i+x)=fun m=>xs[i+m]?:=rfl
 rw [e2] at this
 rw [this]
theorem getItem_tuple_cut {t sl:Addr}{items:Array Value}{vl vu:Value}{lo hi:Option Int}{Q:Value->Shared->Prop}(ht:IsTup s.heap t items) (hs:s.heap.IsSliceOf sl vl vu .none) (pl:IsPart vl lo) (pu:IsPart vu hi)
  (hw:¬ (sIx items.size 0 lo=0/\sIx items.size items.size hi=items.size))
  (h:Q (.ref s.heap.objs.size) { s with heap:=s.heap.push { cls:=.type "tuple",data:=.seq ((items.toList.drop (sIx items.size 0 lo)).take (sIx items.size items.size hi-sIx items.size 0 lo)).toArray } })
  (hsz:items.size<=sizeLine):wpAny (model prog w) A (getItem (.ref t) (.ref sl)) Q E s:=by
 have htake:sizeOk (.seq ((items.toList.drop (sIx items.size 0 lo)).take (sIx items.size items.size hi-sIx items.size 0 lo)).toArray):=by
  show ((items.toList.drop (sIx items.size 0 lo)).take (sIx items.size items.size hi-sIx items.size 0 lo)).toArray.size<=sizeLine
  rw [List.size_toArray,List.length_take,List.length_drop,Array.length_toList]
  omega
 have hj:sIx items.size items.size hi<=items.size:=xO _ _ (Nat.le_refl _) hi
 obtain ⟨os,hos,hcs,hds⟩:=id hs
 have hTs:s.TypeIs (.ref sl) "slice":=⟨os,hos,hcs⟩
 unfold getItem
 try with_reducible refine wpAny_holding ?_
 first | refine wpAny_bind (wpAny_pure ?_) | skip
 refine wpAny_bind (wpAny_sequenceKey ht.typeIs (by decide) ?_)
 refine wpAny_bind (wpAny_callSpecial?_slot (name:=Str.ofString "__getitem__") ht.typeIs PyProof.Rows.slot_tuple_getitem
  (wpAny_call_entry PyProof.Rows.slot_tuple_getitem ht.typeIs entry_tuple_getitem ?_ (args_tuple_getitem _ _)))
 show wpAny _ _ (Builtin.Tuple.tupleItemsOf (.ref t) >>= _) _ _ s
 refine wpAny_bind (tupleItemsOf_ ht ?_)
 refine wpAny_bind (wpAny_typeOf hTs ?_)
 rw [if_pos (by decide)]
 refine wpAny_bind (sliceApplied_gen hs pl pu ?_)
 have hno:¬ ((((sIx items.size 0 lo:Nat):Int) == 0&&(1:Int) == 1&&(sIx items.size items.size hi-sIx items.size 0 lo) == items.size)=true):=by
  intro q
  rw [Bool.and_eq_true,Bool.and_eq_true] at q
  have q1:((sIx items.size 0 lo:Nat):Int)=0:=eq_of_beq q.1.1
  have q2:sIx items.size items.size hi-sIx items.size 0 lo=items.size:=eq_of_beq q.2
  exact hw ⟨by omega,by omega⟩
 show wpAny _ _ (if (((sIx items.size 0 lo:Nat):Int) == 0&&(1:Int) == 1&&(sIx items.size items.size hi-sIx items.size 0 lo) == items.size)=true then _ else _) _ _ s
 rw [if_neg hno,rP]
 first
  | exact wpAny_bind (m:=Builtin.Tuple.tupleExact _) (wpAny_newObj_type (wpAny_pure ⟨_,rfl,wpAny_pure h⟩) htake)
  | exact wpAny_bind (m:=Builtin.Tuple.tupleExact _) (wpAny_newObj_type (wpAny_bind (wpAny_pure (wpAny_pure ⟨_,rfl,wpAny_pure h⟩))) htake)
  | exact wpAny_bind (wpAny_bind (m:=Builtin.Tuple.tupleExact _) (wpAny_newObj_type (wpAny_pure (wpAny_pure ⟨_,rfl,wpAny_pure h⟩)) htake))
  | exact wpAny_bind (wpAny_bind (m:=Builtin.Tuple.tupleExact _) (wpAny_newObj_type (wpAny_pure ⟨_,rfl,wpAny_pure h⟩) htake))
end
end HT
namespace L2
open PySem PySem.Spec PyProof.Rows
abbrev TO:=St->Hp->(Option Int->Hp->Prop)->Prop
def PO (X:Cx) (e:Option Expr) (t:TO):Prop :=
 ∀(pins:List (Addr×Obj)) (s:Shared) (σ:St) (H:Hp) (Q:Option Int->Hp->Prop),Inv X pins σ H s->t σ H Q ->
  wpAny (model X.prog X.w) X.A (evalPart e X.env) (fun u s'=>∃o H',Inv X pins σ H' s'/\IsPart u o/\Q o H') X.xe s
def nn:TO:=fun _ H Q=>Q none H
def wT (t:TE):TO:=fun σ H Q=>t σ H fun x H1=>∃i,x=.int i/\Q (some i) H1
section
variable {X:Cx}{e:Expr}{te:TE}{lo hi:Option Expr}{tl th:TO}{pos p2:Pos}
theorem vz:PO X none nn:=by
 intro pins s σ H Q I h
 rw [evalPart_none]
 exact wpAny_pure ⟨none,H,I,.none,h⟩
theorem vy (h:PE X e te):PO X (some e) (wT te):=by
 intro pins s σ H Q I hw
 rw [evalPart_some]
 refine thn (h pins s σ H _ I hw) fun u s1 ⟨x,H1,I1,r1,q1⟩=>?_
 obtain ⟨i,rfl,q⟩:=q1
 obtain ⟨t,rfl⟩:=r1
 exact ⟨some i,H1,I1,.int i t,q⟩
def SlR (X:Cx) (r:V->Option Int->Option Int->Hp->VK->Prop):Prop :=
 ∀(pins:List (Addr×Obj)) (s:Shared) (σ:St) (H:Hp) (x:V) (v vl vu:Value) (lo hi:Option Int) (sl:Addr) (Q:VK),Inv X pins σ H s->RelV x v->s.heap.IsSliceOf sl vl vu .none->IsPart vl lo->IsPart vu hi->r x lo hi H Q ->
  ∃T id,typeLookup (.type T) "__getitem__"=pure (some (.builtin id))/\s.TypeIs v T/\wpAny (model X.prog X.w) X.A (getItem v (.ref sl)) (EP X pins σ Q) X.xe s
def tSl (r:V->Option Int->Option Int->Hp->VK->Prop) (te:TE) (tl th:TO):TE:=fun σ H Q=>te σ H fun x H1=>tl σ H1 fun l H2=>th σ H2 fun u H3=>r x l u H3 Q
theorem rX {r:V->Option Int->Option Int->Hp->VK->Prop}(hr:SlR X r) (he:PE X e te) (hl:PO X lo tl) (hu:PO X hi th):PE X (.Subscript e (.Slice lo hi none p2) pos) (tSl r te tl th):=by
 intro pins s σ H Q I h
 refine Subscript_ (thn (he pins s σ H _ I h) fun v s1 ⟨x,H1,I1,r1,q1⟩=>?_)
 refine wpAny_Slice (thn (hl pins s1 σ H1 _ I1 q1) fun vl s2 ⟨l,H2,I2,pl,q2⟩=>thn (hu pins s2 σ H2 _ I2 q2) fun vu s3 ⟨u,H3,I3,pu,q3⟩=>?_)
 rw [evalPart_none]
 refine wpAny_pure ?_
 have I4:Inv X pins σ H3 { s3 with heap:=s3.heap.push { cls:=.type "slice",data:=.fields #[vl,vu,.none] } }:=I3.kept (t':=s3.toks) fun b ob q=>Heap.get?_push_of_some _ q
 obtain ⟨T,id,hT,ht,hg⟩:=hr pins { s3 with heap:=s3.heap.push { cls:=.type "slice",data:=.fields #[vl,vu,.none] } } σ H3 x v vl vu l u s3.heap.objs.size Q I4 r1 (Heap.IsSliceOf.new ..) pl pu q3
 show wpAny (model X.prog X.w) X.A (subscriptTail e (.Slice lo hi none p2) v (.ref s3.heap.objs.size)) (EP X pins σ Q) X.xe { s3 with heap:=s3.heap.push { cls:=.type "slice",data:=.fields #[vl,vu,.none] } }
 exact tail_any (ops:=[.ref s3.heap.objs.size,v]) ht hT hg (by with_unfolding_all rfl)
def bD (xs:List V) (lo hi:Option Int):List V:=(xs.drop (HT.sIx xs.length 0 lo)).take (HT.sIx xs.length xs.length hi-HT.sIx xs.length 0 lo)
theorem gI (xs:List V) (lo hi:Option Int):(bD xs lo hi).length<=xs.length:=by
 unfold bD
 rw [List.length_take,List.length_drop]
 omega
def BM (K:PySem.W.Frag):V->Option Int->Option Int->Hp->VK->Prop:=fun x lo hi H Q=>∃a xs,x=.ref a/\SqT K H a xs /\
 ¬ (HT.sIx xs.length 0 lo=0/\HT.sIx xs.length xs.length hi=xs.length)/\∀p,H p=none->Q (.ref p) (upd H p (.tup (bD xs lo hi)))
def BP (K:PySem.W.Frag):R2:=fun x y H Q=>∃a b ns ms,x=.ref a/\y=.ref b/\SqT K H a (ns.map V.int)/\SqT K H b (ms.map V.int)/\Q (.bl (HT.lexLt ns ms)) H
def Bm (K:PySem.W.Frag):R2:=fun x y H Q=>∃a b xs ys,x=.ref a/\y=.ref b/\SqT K H a xs/\SqT K H b ys/\xs≠[]/\xs.length+ys.length<=sizeLine /\
 (ys=[]->Q (.ref a) H)/\(ys≠[]->∀p,H p=none->Q (.ref p) (upd H p (.tup (xs++ys))))
theorem Vals.nil_iff {xs:List V}{us:List Value}(r:Vals xs us):us=[]↔xs=[]:=by
 cases r with
 | nil=>simp
 | cons _ _=>simp
end
def ixN (n:Nat) (i:Int):Option Nat:=if 0<=i then (if i<n then some i.toNat else none) else if -(n:Int)<=i then some (i+n).toNat else none
def atI {α:Type}(xs:List α) (i:Int):Option α:=(ixN xs.length i).bind fun j=>xs[j]?
theorem ou {n:Nat}{i:Int}{j:Nat}(h:ixN n i=some j):seqIndex? i n=some j/\j<n/\-(n:Int)<=i/\i<n:=by
 unfold ixN at h
 by_cases h0:0<=i
 ·rw [if_pos h0] at h
  by_cases h1:i<n
  ·rw [if_pos h1] at h
   have e:i.toNat=j:=Option.some.inj h
   exact ⟨by rw [seqIndex_of h0 h1,e],by omega,by omega,h1⟩
  ·rw [if_neg h1] at h; cases h
 ·rw [if_neg h0] at h
  by_cases h1:-(n:Int)<=i
  ·rw [if_pos h1] at h
   have e:(i+n).toNat=j:=Option.some.inj h
   exact ⟨by rw [seqIndex_neg (by omega) h1,e],by omega,h1,by omega⟩
  ·rw [if_neg h1] at h; cases h
theorem oY {α:Type}{xs:List α}{i:Int}{v:α}(h:atI xs i=some v):∃j,seqIndex? i xs.length=some j/\xs[j]?=some v/\j<xs.length/\-(xs.length:Int)<=i/\i<xs.length:=by
 unfold atI at h
 cases e:ixN xs.length i with
 | none=>rw [e] at h; cases h
 | some j =>
  rw [e] at h
  obtain ⟨h1,h2,h3,h4⟩:=ou e
  exact ⟨j,h1,h,h2,h3,h4⟩
theorem ad {α:Type}{xs:List α}{j:Nat}{v:α}(h:xs[j]?=some v):atI xs (j:Int)=some v:=by
 have hj:j<xs.length:=(List.getElem?_eq_some_iff.mp h).1
 have e:ixN xs.length (j:Int)=some j:=by
  unfold ixN
  rw [if_pos (by omega),if_pos (by omega)]; simp
 unfold atI; rw [e]; exact h
theorem iV {α:Type}(xs:List α) (v:α):atI (xs++[v]) (-1)=some v:=by
 have hl:(xs++[v]).length=xs.length+1:=by simp
 have e:ixN (xs++[v]).length (-1)=some xs.length:=by
  unfold ixN
  rw [hl,if_neg (by decide),if_pos (by omega)]
  congr 1
  omega
 unfold atI
 rw [e]
 show (xs++[v])[xs.length]?=some v
 simp
def o0 (b:Expr):Prop:=∀o i,subscripted b false o i=operate [o,i] (getItem o i)
def IxR (X:Cx) (r:R2):Prop :=
 ∀(value slice:Expr) (pins:List (Addr×Obj)) (s:Shared) (σ:St) (H:Hp) (x y:V) (v u:Value) (Q:VK),Inv X pins σ H s->RelV x v->RelV y u->r x y H Q ->
  subscripted slice false v u=operate [v,u] (getItem v u)->wpAny (model X.prog X.w) X.A (subscriptTail value slice v u) (EP X pins σ Q) X.xe s
def MtR (X:Cx) (id:String) (r:V->List V->Hp->VK->Prop):Prop :=
 ∀(pins:List (Addr×Obj)) (s:Shared) (σ:St) (H:Hp) (x:V) (xs:List V) (v:Value) (us:List Value) (Q:VK),Inv X pins σ H s->RelV x v->Vals xs us->r x xs H Q ->
  wpAny (model X.prog X.w) X.A (call (.builtin id) (v :: us)) (EP X pins σ Q) X.xe s
section
variable {X:Cx}{a b:Expr}{ta tb:TE}{pos:Pos}
theorem zU {r:R2}(hr:IxR X r) (ha:PE X a ta) (hb:PE X b tb) (hs:o0 b):PE X (.Subscript a b pos) (tOp r ta tb):=by
 intro pins s σ H Q I h
 exact Subscript_ (zh ha hb I h fun v u s2 x y H2 I2 rx ry q=>hr a b pins s2 σ H2 x y v u Q I2 rx ry q (hs _ _))
def xY (K:PySem.W.Frag):R2:=fun x y H Q=>∃p xs i v,x=.ref p/\y=.int i/\SqL K H p xs/\atI xs i=some v/\Q v H
def xX (K:PySem.W.Frag):R2:=fun x y H Q=>∃p xs i v,x=.ref p/\y=.int i/\SqT K H p xs/\atI xs i=some v/\Q v H
def AN:R2:=fun x y H Q=>∃z i c,x=.str z/\y=.int i/\z.length<=sizeLine/\atI z.cps.toList i=some c/\Q (.str ⟨#[c]⟩) H
theorem aJ:IxR X (xY X.K):=by
 intro value slice pins s σ H x y v u Q I rx ry h hs
 obtain ⟨p,xs,i,z,rfl,rfl,hq,he,q⟩:=h
 cases rx
 obtain ⟨t,rfl⟩:=ry
 obtain ⟨its,r,pl,hz⟩:=I.list hq
 obtain ⟨j,h1,h2,h3,h4,h5⟩:=oY he
 obtain ⟨w,ew,rw'⟩:=r.get h2
 have hl:=r.length
 have hn:=iz
 have fin:EP X pins σ Q w s:=⟨z,H,I,rw',q⟩
 by_cases h0:0<=i
 ·have hj:i.toNat=j:=by
   rw [seqIndex_of h0 h5] at h1
   exact Option.some.inj h1
  exact item_listR pl.isList h0 (by omega) (by rw [hj]; simpa using ew) fin hs
 ·have hj:(i+(its.toArray.size:Int)).toNat=j:=by
   rw [seqIndex_neg (by omega) h4] at h1
   rw [List.size_toArray,<- hl]
   exact Option.some.inj h1
  exact subscriptTail_builtinR (x:=w) pl.isList.typeIs slot_list_getitem.lookup
   (wpAny_getItem_list_neg (Q:=fun r s'=>r=w/\EP X pins σ Q r s') pl.isList (by omega) (by rw [List.size_toArray] <;> omega) (by omega) (by rw [hj]; simpa using ew) ⟨rfl,fin⟩) hs
theorem am:IxR X (xX X.K):=by
 intro value slice pins s σ H x y v u Q I rx ry h hs
 obtain ⟨p,xs,i,z,rfl,rfl,hq,he,q⟩:=h
 cases rx
 obtain ⟨t,rfl⟩:=ry
 obtain ⟨its,r,pl,hz⟩:=I.tuple hq
 obtain ⟨j,h1,h2,h3,h4,h5⟩:=oY he
 obtain ⟨w,ew,rw'⟩:=r.get h2
 have hl:=r.length
 have hn:=iz
 have fin:EP X pins σ Q w s:=⟨z,H,I,rw',q⟩
 exact subscriptTail_builtinR (x:=w) pl.typeIs slot_tuple_getitem.lookup
  (getItem_tuple (j:=j) (Q:=fun r s'=>r=w/\EP X pins σ Q r s') pl (by omega) (by omega) (by rw [List.size_toArray,<- hl]; exact h1) (by simpa using ew) ⟨rfl,fin⟩) hs
def rIx (K:PySem.W.Frag):R2:=fun x y H Q=>xY K x y H Q\/xX K x y H Q\/AN x y H Q
theorem mv (its:List Value) (n j:Nat) (u:Value):Obj.mapSeq (·.setIfInBounds j u) { cls:=.type "list",data:=.seq its.toArray n }={ cls:=.type "list",data:=.seq (its.set j u).toArray n }:=by
 simp [Obj.mapSeq]
theorem Inv.lst {pins:List (Addr×Obj)}{σ:St}{H:Hp}{s:Shared}{p:Addr}{xs:List V}(I:Inv X pins σ H s) (h:H p=some (.lst xs)) :
  ∃(its:List Value) (n:Nat),Vals xs its/\s.heap.get? p=some { cls:=.type "list",data:=.seq its.toArray n }/\xs.length<=sizeLine:=by
 obtain ⟨z,its,n,r,e⟩:=I.hok p _ h
 exact ⟨its,n,r,e,z⟩
theorem Inv.lstUpd {pins:List (Addr×Obj)}{σ:St}{H:Hp}{s:Shared}{p:Addr}{xs ys:List V}{its its':List Value}{n n':Nat}{f:Obj->Obj}(I:Inv X pins σ H s) (h:H p=some (.lst xs))
  (ho:s.heap.get? p=some { cls:=.type "list",data:=.seq its.toArray n }) (hf:f { cls:=.type "list",data:=.seq its.toArray n }={ cls:=.type "list",data:=.seq its'.toArray n' }) (r:Vals ys its') (hz:ys.length<=sizeLine) (t:Nat) :
  Inv X pins σ (upd H p (.lst ys)) { s with heap:=s.heap.update p f,toks:=t }:=by
 have e:(s.heap.update p f).get? p=some { cls:=.type "list",data:=.seq its'.toArray n' }:=by
  rw [Heap.get?_update_self f ho (by rw [hf] <;> rfl),hf]
 refine I.write (x:=p) (e:=p) (by rw [h]; trivial) (.inl rfl) (fun b u hb q=>(Heap.get?_update_other _ _ (Ne.symm hb)).trans q) ⟨_,e⟩ ?_
 exact ⟨hz,its',n',r,e⟩
def w8:V->V->V->Hp->(Hp->Prop)->Prop:=fun o i v H Q=>∃p xs k j,o=.ref p/\i=.int k/\H p=some (.lst xs)/\ixN xs.length k=some j/\Q (upd H p (.lst (xs.set j v)))
theorem rh:An X w8:=by
 intro pins s σ H o i v ov iv u Q I ro ri rv h
 obtain ⟨p,xs,k,j,rfl,rfl,hp,hj,q⟩:=h
 cases ro
 obtain ⟨t,rfl⟩:=ri
 obtain ⟨its,n,r,ho,hz⟩:=I.lst hp
 obtain ⟨h1,h2,h3,h4⟩:=ou hj
 have hl:=r.length
 have hn:=iz
 have I':Inv X pins σ (upd H p (.lst (xs.set j v))) { s with heap:=s.heap.update p (Obj.mapSeq (·.setIfInBounds j u)) } :=
  I.lstUpd hp ho (mv its n j u) (r.set rv j) (by rw [List.length_set]; exact hz) s.toks
 by_cases h0:0<=k
 ·have hk:k.toNat=j:=by
   rw [seqIndex_of h0 h4] at h1
   exact Option.some.inj h1
  exact PySem.W.ki_setAt ho h0 (by omega) (by rw [List.size_toArray,<- hl]; exact h4) (by rw [hk]; exact ⟨_,I',q⟩)
 ·have hk:(k+(its.toArray.size:Int)).toNat=j:=by
   rw [seqIndex_neg (by omega) h3] at h1
   rw [List.size_toArray,<- hl]
   exact Option.some.inj h1
  exact PySem.W.ki_setBack ho (by omega) (by rw [List.size_toArray,<- hl]; exact h3) (by omega) (by rw [hk]; exact ⟨_,I',q⟩)
theorem jO (lo hi:Option Int) (n:Nat):(sliceBounds lo hi none n).1=((HT.sIx n 0 lo:Nat):Int)/\(sliceBounds lo hi none n).2.1=((HT.sIx n n hi:Nat):Int)/\(sliceBounds lo hi none n).2.2=1:=by
 refine ⟨?_,?_,rfl⟩
 ·cases lo with
  | none=>simp [sliceBounds,HT.sIx]
  | some i =>
   simp only [sliceBounds,HT.sIx,Option.getD_none,show (1:Int) > 0 by decide,if_true]
   by_cases h:i<0
   ·simp only [h,if_true] <;> omega
   ·simp only [h,if_false] <;> omega
 ·cases hi with
  | none=>simp [sliceBounds,HT.sIx]
  | some i =>
   simp only [sliceBounds,HT.sIx,Option.getD_none,show (1:Int) > 0 by decide,if_true]
   by_cases h:i<0
   ·simp only [h,if_true] <;> omega
   ·simp only [h,if_false] <;> omega
theorem iY (its:List Value) (lo hi:Option Int):slicePick its.toArray lo hi none=((its.drop (HT.sIx its.length 0 lo)).take (HT.sIx its.length its.length hi-HT.sIx its.length 0 lo)).toArray:=by
 obtain ⟨h1,h2,h3⟩:=jO lo hi its.toArray.size
 unfold slicePick
 rw [h1,h2,h3]
 simp only [sliceRange_one,pick_run,List.size_toArray] <;> rfl
def AI (K:PySem.W.Frag):V->Option Int->Option Int->Hp->VK->Prop:=fun x lo hi H Q=>∃a xs,x=.ref a/\SqL K H a xs/\∀p,H p=none->Q (.ref p) (upd H p (.lst (bD xs lo hi)))
theorem dr:SlR X (AI X.K):=by
 intro pins s σ H x v vl vu lo hi sl Q I rx hs pl pu h
 obtain ⟨a,xs,rfl,hx,q⟩:=h
 cases rx
 obtain ⟨its,r,ht,hz⟩:=I.list hx
 have hlen:=r.length
 refine ⟨"list",_,slot_list_getitem.lookup,ht.isList.typeIs,?_⟩
 refine wpAny_getItem_list_slice ht.isList hs pl pu .none (by simp) ?_ (by rw [List.size_toArray] <;> omega)
 rw [iY,<- hlen]
 refine ⟨.ref s.heap.objs.size,_,I.laid (t':=s.toks) (o:=.lst (bD xs lo hi)) (fun b ob q=>Heap.get?_push_of_some _ q) (Nat.le_refl _) ?_,rfl,q _ (I.hok.fresh (Nat.le_refl _))⟩
 exact ⟨Nat.le_trans (gI xs lo hi) hz,_,0,(r.drop (HT.sIx xs.length 0 lo)).take (HT.sIx xs.length xs.length hi-HT.sIx xs.length 0 lo),Heap.get?_push_size _ rfl⟩
def gH:V->Bool
 | .non=>true
 | .bl _=>true
 | .int _=>true
 | .str _=>true
 | _=>false
def eqV:V->V->Bool
 | .non,.non=>true
 | .bl a,.bl b=>a == b
 | .bl a,.int b=>(if a then 1 else 0) == b
 | .int a,.bl b=>a == (if b then 1 else 0)
 | .int a,.int b=>a == b
 | .str a,.str b=>a == b
 | _,_=>false
theorem yY {A:Around}{s:Shared}{y x:V}{u v:Value}(ry:RelV y u) (rx:RelV x v) (fy:gH y=true) (fx:gH x=true):SeqAt.EqAt A s u v (eqV y x):=by
 cases y with
 | non =>
  cases ry
  cases x with
  | non=>cases rx; exact SeqAt.EqAt.same _
  | bl b=>cases rx; exact SeqAt.EqAt.none_bool b
  | int b=>obtain ⟨t,rfl⟩:=rx; exact SeqAt.EqAt.none_int b t
  | str b=>obtain ⟨t,rfl⟩:=rx; exact SeqAt.EqAt.none_str b t
  | _=>exact absurd (show false=true from fx) Bool.false_ne_true
 | bl a =>
  cases ry
  cases x with
  | non=>cases rx; exact SeqAt.EqAt.bool_none a
  | bl b=>cases rx; exact SeqAt.EqAt.bool_bool a b
  | int b=>obtain ⟨t,rfl⟩:=rx; exact SeqAt.EqAt.bool_int a b t
  | str b=>obtain ⟨t,rfl⟩:=rx; exact SeqAt.EqAt.bool_str a b t
  | _=>exact absurd (show false=true from fx) Bool.false_ne_true
 | int a =>
  obtain ⟨t',rfl⟩:=ry
  cases x with
  | non=>cases rx; exact SeqAt.EqAt.int_none a t'
  | bl b=>cases rx; exact SeqAt.EqAt.int_bool a t' b
  | int b=>obtain ⟨t,rfl⟩:=rx; exact SeqAt.EqAt.int_int a t' b t
  | str b=>obtain ⟨t,rfl⟩:=rx; exact SeqAt.EqAt.int_str a t' b t
  | _=>exact absurd (show false=true from fx) Bool.false_ne_true
 | str a =>
  obtain ⟨t',rfl⟩:=ry
  cases x with
  | non=>cases rx; exact SeqAt.EqAt.str_none a t'
  | bl b=>cases rx; exact SeqAt.EqAt.str_bool a t' b
  | int b=>obtain ⟨t,rfl⟩:=rx; exact SeqAt.EqAt.str_int a t' b t
  | str b=>obtain ⟨t,rfl⟩:=rx; exact SeqAt.EqAt.str_str a t' b t
  | _=>exact absurd (show false=true from fx) Bool.false_ne_true
 | _=>exact absurd (show false=true from fy) Bool.false_ne_true
def eqU (x:V) (u:Value):Bool:=match u with
 | .none=>eqV .non x
 | .bool b=>eqV (.bl b) x
 | .int i _=>eqV (.int i) x
 | .str z _=>eqV (.str z) x
 | _=>false
theorem uo {x y:V}{u:Value}(r:RelV y u) (f:gH y=true):eqU x u=eqV y x:=by
 cases y with
 | non=>cases r; rfl
 | bl b=>cases r; rfl
 | int i=>obtain ⟨t,rfl⟩:=r; rfl
 | str z=>obtain ⟨t,rfl⟩:=r; rfl
 | _=>exact absurd (show false=true from f) Bool.false_ne_true
theorem kr {x:V}:∀{xs:List V}{us:List Value},Vals xs us->xs.all gH=true->us.any (eqU x)=xs.any fun y=>eqV y x
 | _,_,.nil,_=>rfl
 | y :: xs,u :: us,.cons r t,f=>by
  rw [List.all_cons,Bool.and_eq_true] at f
  rw [List.any_cons,List.any_cons,uo r f.1,kr t f.2]
theorem iy {A:Around}{s:Shared}{x:V}{v:Value}(rx:RelV x v) (fx:gH x=true):∀{xs:List V}{us:List Value},Vals xs us->xs.all gH=true->∀u∈us,SeqAt.EqAt A s u v (eqU x u)
 | _,_,.nil,_=>fun u hu=>by cases hu
 | y :: xs,u :: us,.cons r t,f=>fun u' hu=>by
  rw [List.all_cons,Bool.and_eq_true] at f
  rcases List.mem_cons.mp hu with rfl | hu
  ·rw [uo r f.1]; exact yY r rx f.1 fx
  ·exact iy rx fx t f.2 u' hu
def inV (x:V) (xs:List V):Bool:=xs.any fun y=>eqV y x
def rIn (K:PySem.W.Frag) (neg:Bool):R2:=fun x y H Q=>∃p xs,y=.ref p/\(SqL K H p xs\/SqT K H p xs)/\gH x=true/\xs.all gH=true/\Q (.bl (if neg then !inV x xs else inV x xs)) H
theorem je:OpR X (compareOp .In) (rIn X.K false):=by
 intro pins s σ H x y v u Q I rx ry h
 obtain ⟨p,xs,rfl,hq,fx,fs,q⟩:=h
 cases ry
 rcases hq with hq | hq
 ·obtain ⟨its,r,pl,hz⟩:=I.list hq
  refine SeqAt.in_listAt (eqU x) pl.isList (fun w hw=>iy rx fx r fs w (by simpa using hw)) ⟨.bl _,H,I,rfl,?_⟩
  rw [show its.toArray.any (eqU x)=its.any (eqU x) by simp,kr r fs]
  exact q
 ·obtain ⟨its,r,pl,hz⟩:=I.tuple hq
  refine SeqAt.in_tupleAt (eqU x) pl (fun w hw=>iy rx fx r fs w (by simpa using hw)) ⟨.bl _,H,I,rfl,?_⟩
  rw [show its.toArray.any (eqU x)=its.any (eqU x) by simp,kr r fs]
  exact q
theorem aT:bN X (.builtin "len") (fun xs H Q=>∃p ys,xs=[.ref p]/\(SqL X.K H p ys\/SqT X.K H p ys)/\Q (.int ys.length) H):=by
 intro pins s σ H xs us Q I r h
 obtain ⟨p,ys,rfl,hq,q⟩:=h
 obtain ⟨u,rfl,rx⟩:=dY r
 cases rx
 have hn:=iz
 rcases hq with hq | hq
 ·obtain ⟨its,r',pl,hz⟩:=I.list hq
  have hlen:=r'.length
  exact Calls.call_len_list pl.isList (by simp only [List.size_toArray] <;> omega) ⟨.int ys.length,H,I.tok _,⟨s.toks+1,by rw [List.size_toArray,hlen]⟩,q⟩
 ·obtain ⟨its,r',pl,hz⟩:=I.tuple hq
  have hlen:=r'.length
  exact len_tuple pl (by simp only [List.size_toArray] <;> omega) ⟨.int ys.length,H,I.tok _,⟨s.toks+1,by rw [List.size_toArray,hlen]⟩,q⟩
theorem cj:bN X (.type "list") (fun xs H Q=>∃p ys,xs=[.ref p]/\(SqL X.K H p ys\/SqT X.K H p ys)/\∀l,H l=none->Q (.ref l) (upd H l (.lst ys))):=by
 intro pins s σ H xs us Q I r h
 obtain ⟨p,ys,rfl,hq,q⟩:=h
 obtain ⟨u,rfl,rx⟩:=dY r
 cases rx
 have fin:∀(its:List Value),Vals ys its->ys.length<=sizeLine->∀(h':Heap) (c':Nat),(∀b o',s.heap.get? b=some o'->h'.get? b=some o') ->
   h'.get? s.heap.objs.size=some { cls:=.type "list",dict:=none,data:=.seq its.toArray c',slots:=#[] }->EP X pins σ Q (.ref s.heap.objs.size) { s with heap:=h' }:=fun its r' hz h' c' kp e =>
  ⟨.ref s.heap.objs.size,_,I.laid (t':=s.toks) kp (Nat.le_refl _) (show ObjOk X.prog X.w _ h' _ (.lst ys) from ⟨hz,its,c',r',e⟩),rfl,q _ (I.hok.fresh (Nat.le_refl _))⟩
 rcases hq with hq | hq
 ·obtain ⟨its,r',pl,hz⟩:=I.list hq
  have hlen:=r'.length
  obtain ⟨o,ho,hc,n,hd⟩:=pl.isList
  exact call_list_seq p (.inl rfl) ho hc hd (fun h' c' kp e=>fin its r' hz h' c' kp e) (by simp only [List.size_toArray] <;> omega)
 ·obtain ⟨its,r',pl,hz⟩:=I.tuple hq
  have hlen:=r'.length
  obtain ⟨o,ho,hc,n,hd⟩:=pl
  exact call_list_seq p (.inr rfl) ho hc hd (fun h' c' kp e=>fin its r' hz h' c' kp e) (by simp only [List.size_toArray] <;> omega)
theorem bU:bN X (.type "tuple") (fun xs H Q=>∃p ys,xs=[.ref p]/\((SqL X.K H p ys/\∀l,H l=none->Q (.ref l) (upd H l (.tup ys)))\/(SqT X.K H p ys/\Q (.ref p) H))):=by
 intro pins s σ H xs us Q I r h
 obtain ⟨p,ys,rfl,h⟩:=h
 obtain ⟨u,rfl,rx⟩:=dY r
 cases rx
 rcases h with ⟨hq,q⟩ | ⟨hq,q⟩
 ·obtain ⟨its,r',pl,hz⟩:=I.list hq
  have hlen:=r'.length
  refine call_tuple_list pl.isList (fun h' kp=>?_) (by simp only [List.size_toArray] <;> omega)
  have I1:Inv X pins σ H { s with heap:=h' }:=I.kept (t':=s.toks) kp
  have I2:Inv X pins σ (upd H h'.objs.size (.tup ys)) { s with heap:=h'.push { cls:=.type "tuple",data:=.seq its.toArray } } :=
   I1.laid (t':=s.toks) (fun b o e=>Heap.get?_push_of_some _ e) (Nat.le_refl _) (show ObjOk X.prog X.w _ _ _ (.tup ys) from ⟨hz,its,r',IsTup.new _ _⟩)
  exact ⟨.ref h'.objs.size,_,I2,rfl,q _ (I1.hok.fresh (Nat.le_refl _))⟩
 ·obtain ⟨its,r',pl,hz⟩:=I.tuple hq
  exact call_tuple_same pl ⟨.ref p,H,I,rfl,q⟩
def tyV (K:PySem.W.Frag) (T:String) (x:V) (H:Hp):Prop:=match x with
 | .str _=>T="str"
 | .int _=>T="int"
 | .ref p=>(T="list"/\∃xs,SqL K H p xs)\/(T="tuple"/\∃o,K.lookup p=some o/\o.cls=.type "tuple"/\o.dict=none) \/
   (T="dict"/\((∃kvs,H p=some (.dK kvs))\/∃kvs,H p=some (.dT kvs)))\/(T="set"/\∃S n,H p=some (.set S n))
 | _=>False
theorem xz {pins:List (Addr×Obj)}{σ:St}{H:Hp}{s:Shared}{T:String}{x:V}{v:Value}(I:Inv X pins σ H s) (r:RelV x v) (ty:tyV X.K T x H) :
  s.TypeIs v T/\∀a,v=.ref a->∃ob,s.heap.get? a=some ob/\ob.dict=none:=by
 cases x with
 | str z =>
  obtain ⟨t,rfl⟩:=r
  cases (show T="str" from ty)
  exact ⟨typeIs_str s z t,fun _ e=>nomatch e⟩
 | int i =>
  obtain ⟨t,rfl⟩:=r
  cases (show T="int" from ty)
  exact ⟨typeIs_int s i t,fun _ e=>nomatch e⟩
 | ref p =>
  cases r
  rcases ty with ⟨rfl,xs,hq⟩ | ⟨rfl,o,hk,hc,hd⟩ | ⟨rfl,hk⟩ | ⟨rfl,S,n,hk⟩
  ·obtain ⟨its,_,pl,_⟩:=I.list hq
   refine ⟨pl.isList.typeIs,fun a e=>?_⟩
   cases e
   obtain ⟨o,n,e,c,hd,_⟩:=pl
   exact ⟨o,e,hd⟩
  ·refine ⟨⟨o,I.kIn p o hk,hc⟩,fun a e=>?_⟩
   cases e
   exact ⟨o,I.kIn _ o hk,hd⟩
  ·have z:∃o,s.heap.get? p=some o/\o.ExactDict:=by
    rcases hk with ⟨kvs,hk⟩ | ⟨kvs,hk⟩
    ·obtain ⟨_,_,_,_,o,_,_,e,ex,_⟩:=I.hok p _ hk
     exact ⟨o,e,ex⟩
    ·obtain ⟨_,_,_,_,o,_,_,e,ex,_⟩:=I.hok p _ hk
     exact ⟨o,e,ex⟩
   obtain ⟨o,e,ex⟩:=z
   refine ⟨⟨o,e,ex.1⟩,fun a e2=>?_⟩
   cases e2
   exact ⟨o,e,ex.2.1⟩
  ·obtain ⟨o,_,_,_,e,ex,_⟩:=I.hok p _ hk
   refine ⟨⟨o,e,ex.1⟩,fun a e2=>?_⟩
   cases e2
   exact ⟨o,e,ex.2.1⟩
 | _=>exact False.elim ty
def BG (K:PySem.W.Frag) (T:String) (r:V->List V->Hp->VK->Prop) (to:TE):TE:=fun σ H Q=>to σ H fun x H1=>tyV K T x H1/\r x [] H1 Q
def tBM (K:PySem.W.Frag) (T:String) (r:V->List V->Hp->VK->Prop) (to:TE) (t:TA):TE:=fun σ H Q=>to σ H fun x H1=>tyV K T x H1/\t σ H1 fun xs H2=>r x xs H2 Q
variable {o e:Expr}{es:List Expr}{to:TE}{t:TA}{name:Str}{apos cpos:Pos}{T id:String}{r:V->List V->Hp->VK->Prop}
theorem w9 (pa:PlainAttrs T) (slot:Slot T name id) (hty:typeOf (.builtin id)=pure (.type "method_descriptor")) (hm:MtR X id r) (ho:PE X o to) (ha:PA X (e :: es) t)
  (hbase:attributeBase o name X.env (eval o X.env)=eval o X.env:=by rfl)
  (hfew:((backTo cpos (starEach (e :: es) X.env)).all (fun x=>!x.1)&&(backToKw cpos (keywordEach [] X.env)).all (fun x=>x.1.isSome)
  &&decide ((e :: es).length+([]:List Keyword).length+(if ([]:List Keyword).isEmpty then 0 else 1)<30))=true:=by rfl)
  (hline:(apos.endLine == cpos.line)=true:=by rfl) (hs:starEach (e :: es) X.env=(false,eval e X.env) :: starEach es X.env:=by rfl) (hplain:(backTo cpos (starEach es X.env)).any (·.1)=false:=by rfl) :
  PE X (.Call (.Attribute o name apos) (e :: es) [] cpos) (tBM X.K T r to t):=by
 intro pins s σ H Q I h
 refine wpAny_Call_method_late hbase hfew hline rfl (thn (ho pins s σ H _ I h) fun v s1 ⟨x,H1,I1,r1,ty,q1⟩=>?_)
 obtain ⟨h1,h2⟩:=xz I1 r1 ty
 refine ⟨T,id,pa,slot,hty,h1,h2,?_⟩
 have hA:=ha cpos pins s1 σ H1 _ I1 q1
 rw [hs] at hA ⊢
 refine Calls.callWith_builtin (by show (false||(backTo cpos (starEach es X.env)).any (·.1))=false; rw [hplain] <;> rfl) (Calls.evalArgs_plain ?_)
 exact thn hA fun us s2 ⟨vs,H2,I2,r2,q2⟩=>hm pins s2 σ H2 x vs v us Q I2 r1 r2 q2
end
def MtM (X:Cx) (id:String) (r:V->List V->Hp->VK->Prop):Prop :=
 ∀(pins:List (Addr×Obj)) (s:Shared) (σ:St) (H:Hp) (x:V) (xs:List V) (v:Value) (us:List Value) (Q:VK),Inv X pins σ H s->RelV x v->Vals xs us->r x xs H Q ->
  wpAny (model X.prog X.w) X.A (call (.builtin id) (v :: us)) (EP X pins σ Q) X.xe s
theorem Vals.one:∀{x:V}{us:List Value},Vals [x] us->∃u,us=[u]/\RelV x u
 | _,_,.cons r .nil=>⟨_,rfl,r⟩
theorem Vals.rep {xs:List V}{us:List Value}(h:Vals xs us):∀k:Nat,Vals (List.replicate k xs).flatten (List.replicate k us).flatten
 | 0=>.nil
 | k+1=>by
  rw [List.replicate_succ,List.replicate_succ,List.flatten_cons,List.flatten_cons]
  exact Vals.append h (Vals.rep h k)
theorem jm (its:List Value):∀(k:Nat) (acc:List Value),
  List.foldl (fun x1 x2=>x1++x2) acc.toArray (List.replicate k its.toArray)=(acc++(List.replicate k its).flatten).toArray
 | 0,acc=>by simp
 | k+1,acc=>by
  have e:acc.toArray++its.toArray=(acc++its).toArray:=by simp
  have e2:(acc++its)++(List.replicate k its).flatten=acc++(List.replicate (k+1) its).flatten:=by
   rw [List.replicate_succ,List.flatten_cons,List.append_assoc]
  rw [<- e2,<- jm its k (acc++its),<- e,List.replicate_succ,List.foldl_cons]
section
variable {X:Cx}{pins:List (Addr×Obj)}{σ:St}{H:Hp}{s:Shared}{l b:Addr}{xs ys zs:List V}
theorem Inv.lset {its its':List Value}{n:Nat}{f:Array Value->Array Value}{t':Nat}(I:Inv X pins σ H s) (hH:H l=some (.lst xs))
  (e:s.heap.get? l=some { cls:=.type "list",data:=.seq its.toArray n }) (hf:f its.toArray=its'.toArray) (hv:Vals ys its') (hz:ys.length<=sizeLine) :
  Inv X pins σ (upd H l (.lst ys)) { s with heap:=s.heap.update l (Obj.mapSeq f),toks:=t' }:=by
 have q:=PySem.IsL.update e f
 rw [hf] at q
 refine I.write (x:=l) (e:=l) (by rw [hH]; exact trivial) (.inl rfl) (fun b' u hb hu=>(Heap.get?_update_other s.heap (Obj.mapSeq f) (Ne.symm hb)).trans hu) ⟨_,q⟩ ?_
 exact ⟨hz,its',_,hv,q⟩
theorem Inv.lnew {its:List Value}{t':Nat}(I:Inv X pins σ H s) (hv:Vals ys its) (hz:ys.length<=sizeLine) :
  Inv X pins σ (upd H s.heap.objs.size (.lst ys)) { s with heap:=s.heap.push { cls:=.type "list",data:=.seq its.toArray },toks:=t' } :=
 I.laid (fun _ _ q=>Heap.get?_push_of_some _ q) (Nat.le_refl _) ⟨hz,its,0,hv,Heap.get?_push_size _ rfl⟩
theorem Inv.fresh (I:Inv X pins σ H s):H s.heap.objs.size=none:=I.hok.fresh (Nat.le_refl _)
theorem Inv.lstM (I:Inv X pins σ H s) (hH:H l=some (.lst xs)):xs.length<=sizeLine/\∃(its:List Value) (n:Nat),Vals xs its/\xs.length=its.length/\s.heap.get? l=some { cls:=.type "list",data:=.seq its.toArray n }:=by
 obtain ⟨z,its,n,r,e⟩:=I.hok l _ hH
 exact ⟨z,its,n,r,r.length,e⟩
theorem kQ {n:Nat}(h:n<=sizeLine):Builtin.List.listTooLong n=false:=by
 unfold Builtin.List.listTooLong
 exact decide_eq_false (by omega)
end
section
variable {X:Cx}
def nN:V->List V->Hp->VK->Prop:=fun x vs H Q=>∃l xs y,x=.ref l/\vs=[y]/\H l=some (.lst xs)/\xs.length<sizeLine/\Q .non (upd H l (.lst (xs++[y])))
theorem eQ:MtM X "list.append" nN:=by
 intro pins s σ H x vs v us Q I rx rv h
 obtain ⟨l,xs,y,rfl,rfl,hH,hz,q⟩:=h
 cases rx
 obtain ⟨u,rfl,ru⟩:=rv.one
 obtain ⟨z,its,n,r,hl,e⟩:=I.lstM hH
 refine call_meets F.slot_list_append ⟨_,e,rfl⟩ F.entry_list_append (F.args_list_append_2 _ _) (PySem.list_append l its.toArray n u (by rw [List.size_toArray]; omega)) ⟨e,?_⟩
 refine ⟨.non,_,I.lset (its':=its++[u]) hH e (by simp) (r.append (.cons ru .nil)) ?_,rfl,q⟩
 rw [List.length_append,List.length_singleton]
 omega
def nM:V->List V->Hp->VK->Prop:=fun x vs H Q=>∃l b xs zs,x=.ref l/\vs=[.ref b]/\H l=some (.lst xs)/\H b=some (.lst zs)/\xs.length+zs.length<=sizeLine/\Q .non (upd H l (.lst (xs++zs)))
theorem pZ:MtM X "list.extend" nM:=by
 intro pins s σ H x vs v us Q I rx rv h
 obtain ⟨l,b,xs,zs,rfl,rfl,hH,hB,hz,q⟩:=h
 cases rx
 obtain ⟨u,rfl,ru⟩:=rv.one
 cases ru
 obtain ⟨z,its,n,r,hl,e⟩:=I.lstM hH
 obtain ⟨z2,its2,n2,r2,hl2,e2⟩:=I.lstM hB
 have hsz:its.toArray.size+its2.toArray.size<=sizeLine:=by rw [List.size_toArray,List.size_toArray]; omega
 have hlong:¬ (!its.toArray.isEmpty&&Builtin.List.listTooLong (its.toArray.size+its2.toArray.size))=true:=by
  rw [kQ hsz,Bool.and_false]
  exact Bool.false_ne_true
 refine call_meets F.slot_list_extend ⟨_,e,rfl⟩ F.entry_list_extend (F.args_list_extend_2 _ _)
  (AutoSeq1.list_extend_list_list_0 l its.toArray n b its2.toArray n2 hlong (by rw [List.size_toArray]; omega) (by omega)) ⟨e,e2,?_⟩
 refine ⟨.non,_,I.lset (its':=its++its2) hH e (by simp) (r.append r2) ?_,rfl,q⟩
 rw [List.length_append]
 omega
def BO:V->List V->Hp->VK->Prop:=fun x vs H Q=>∃l xs y,x=.ref l/\vs=[]/\H l=some (.lst xs)/\xs[xs.length-1]?=some y/\Q y (upd H l (.lst xs.dropLast))
def AL:V->List V->Hp->VK->Prop:=fun x vs H Q=>∃l xs i k y,x=.ref l/\vs=[.int i]/\H l=some (.lst xs)/\-(2 ^ 63)<=i/\i<2 ^ 63/\seqIndex? i xs.length=some k/\xs[k]?=some y/\Q y (upd H l (.lst (xs.eraseIdx k)))
def zN:V->List V->Hp->VK->Prop:=fun x vs H Q=>∃l xs,x=.ref l/\vs=[]/\H l=some (.lst xs)/\Q .non (upd H l (.lst xs.reverse))
def AR:V->List V->Hp->VK->Prop:=fun x vs H Q=>∃l xs,x=.ref l/\vs=[]/\H l=some (.lst xs)/\Q .non (upd H l (.lst []))
def AS:R2:=fun x y H Q=>∃l b xs zs,x=.ref l/\y=.ref b/\H l=some (.lst xs)/\H b=some (.lst zs)/\xs.length+zs.length<=sizeLine/\∀p,H p=none->Q (.ref p) (upd H p (.lst (xs++zs)))
theorem ip:OpR X (binaryOp .Add) AS:=by
 intro pins s σ H x y v u Q I rx ry h
 obtain ⟨l,b,xs,zs,rfl,rfl,hH,hB,hz,q⟩:=h
 cases rx
 cases ry
 obtain ⟨z,its,n,r,hl,e⟩:=I.lstM hH
 obtain ⟨z2,its2,n2,r2,hl2,e2⟩:=I.lstM hB
 refine PySem.P.add_list e e2 ?_ (by rw [List.size_toArray,List.size_toArray]; omega)
 have ea:its.toArray++its2.toArray=(its++its2).toArray:=by simp
 rw [ea]
 exact ⟨.ref _,_,I.lnew (t':=s.toks) (r.append r2) (by rw [List.length_append]; omega),rfl,q _ I.fresh⟩
def AK:R2:=fun x y H Q=>∃l k xs,x=.ref l/\y=.int k/\H l=some (.lst xs)/\-(2 ^ 63)<=k/\k<2 ^ 63/\xs.length*k.toNat<=sizeLine /\
 ∀p,H p=none->Q (.ref p) (upd H p (.lst (List.replicate k.toNat xs).flatten))
theorem v8 {α:Type}(xs:List α) (k:Nat):(List.replicate k xs).flatten.length=k*xs.length:=by
 induction k with
 | zero=>simp
 | succ k ih=>rw [List.replicate_succ,List.flatten_cons,List.length_append,ih,Nat.succ_mul,Nat.add_comm]
theorem sx:OpR X (binaryOp .Mult) AK:=by
 intro pins s σ H x y v u Q I rx ry h
 obtain ⟨l,k,xs,rfl,rfl,hH,h1,h2,hz,q⟩:=h
 cases rx
 obtain ⟨t,rfl⟩:=ry
 obtain ⟨z,its,n,r,hl,e⟩:=I.lstM hH
 have hlen:its.toArray.size*k.toNat<=sizeLine:=by rw [List.size_toArray,<- hl]; exact hz
 have hcap:¬ its.toArray.size*k.toNat > (2 ^ 63-1) / 8:=by
  have:(sizeLine:Nat)<=(2 ^ 63-1) / 8:=by decide
  omega
 have hfit:¬ (!Builtin.List.listFitsIndex k)=true:=by
  rw [fitsIndex_both h1 h2]
  exact Bool.false_ne_true
 have hlong:¬ Builtin.List.listTooLong (its.toArray.size*k.toNat)=true:=by
  rw [kQ hlen]
  exact Bool.false_ne_true
 have hnew:List.foldl (fun x1 x2=>x1++x2) #[] (List.replicate (if its.toArray.isEmpty=true then 0 else k.toNat) its.toArray)=(List.replicate k.toNat its).flatten.toArray:=by
  have f0:∀m:Nat,List.foldl (fun x1 x2=>x1++x2) #[] (List.replicate m its.toArray)=(List.replicate m its).flatten.toArray:=fun m=>by
   have:=jm its m []
   rw [List.nil_append] at this
   exact this
  rw [f0]
  cases its with
  | nil=>simp
  | cons a r'=>rw [if_neg (by simp)]
 refine wpAny_binaryOp_repeat_ref (T:="list") (U:="int") (by decide) ⟨_,e,rfl⟩ (fun s'=>typeIs_int s' k t) noFill_list_mul F.fills_int_mul F.slot_int_rmul repeat_list F.slot_int_index.lookup
  (call_meets F.slot_int_rmul (typeIs_int s k t) F.entry_int_rmul (F.args_int_rmul_2 _ _) (int___rmul___int_list k t l its.toArray n)
   ⟨e,rfl,⟨_,e,rfl⟩,call_meets F.slot_list_mul ⟨_,e,rfl⟩ F.entry_list_mul (F.args_list_mul_2 _ _) (AutoListH.list___mul___list_int_3 l its.toArray n k t hfit hcap hlong) ⟨e,?_⟩⟩)
 rw [hnew]
 exact ⟨.ref _,_,I.lnew (t':=s.toks) (r.rep k.toNat) (by rw [v8,Nat.mul_comm]; exact hz),rfl,q _ I.fresh⟩
end
section
variable {prog:Program}{w:World}{A:Around}{E:Value->Shared->Prop}{s:Shared}
set_option maxRecDepth 100000 in
end
section
variable {X:Cx}
end
end L2
namespace Att
open PySem PySem.W PySem.Calls PyProof.Rows
theorem gL {P:Params}{h:Heap}:∀(ns:List Int) (vs:List Value),WellAll P h vs (ns.map WData.int)->IntsAre vs ns:=by
 intro ns
 induction ns with
 | nil =>
  intro vs w
  rw [List.map_nil] at w
  cases w
  exact .nil
 | cons n ns ih =>
  intro vs w
  rw [List.map_cons] at w
  cases w with
  | cons a b =>
   cases a
   exact .cons _ _ (ih _ b)
theorem pG {l:OpenLaw}{n:Nat}(hn:l.most=some n) {P:Params}{h:Heap}{args:List WData}{vals:List Value}
  (hpre:l.row.toRowW.claim.pre args=true) (hwl:WellAll P h vals args) :
  ∃a vs ns,vals=[Value.ref a]/\args=[WData.list (ns.map WData.int)]/\h.get? a=some { cls:=.type "list",data:=.seq vs.toArray }/\IntsAre vs ns/\ns.length<=n:=by
 have hsh:WShape.hasAll [] args [.list .int]=true:=(pre_splitW hpre).1
 have hc:l.pre.holds [] { args:=args }=true:=(pre_splitW hpre).2
 obtain ⟨d,r,rfl,h1,h2⟩:=hasAllW_cons hsh
 obtain rfl:=hasAllW_nil h2
 obtain ⟨xs,rfl,h3⟩:=hasW_list h1
 obtain ⟨ns,rfl⟩:=items_int h3
 have hlen:ns.length<=n:=by
  unfold OpenLaw.pre at hc
  have h4:(WTm.not (.lt (.lit (.int (n:Int))) (.len (.arg 0)))).holds [] { args:=[.list (ns.map .int)] }=true:=by
   have h4:=(holds_andW hc).1
   rw [hn] at h4
   exact h4
  have h5:=condW_of h4 (w_not (w_lt w_lit (w_len_list (w_arg rfl))))
  rw [List.length_map] at h5
  refine Nat.le_of_not_lt fun q=>?_
  have q':(n:Int)<((ns.length:Nat):Int):=by omega
  first
   | (rw [decide_eq_true q'] at h5; exact absurd h5 (by decide))
   | (simp at h5; omega)
 cases hwl with
 | cons w1 w2 =>
  cases w2
  cases w1 with
  | list ho hall=>exact ⟨_,_,ns,rfl,rfl,ho,gL ns _ hall,hlen⟩
theorem pL (l:OpenLaw) (args:List WData):l.row.toRowW.claim.post args (.bool true) args=true :=
 postW_of (r:=l.row.toRowW) (X:=(true == true))
  (show WShape.has [] (.bool true) .bool=true by first | rfl | decide | simp [WShape.has,WShape.arms,WShape.armsAll])
  (show (WTm.eq .res (.lit (.bool true))).value [] { args:=args,res:=some (.bool true),after:=args }=some (.bool (true == true)) from w_eq_bool (w_res rfl) w_lit) rfl
theorem attach_call {l:OpenLaw}{n:Nat}{q:Program}{loose:List Str}{XP:(Str->Option Value)->Heap->Prop}{YP:World->Heap->Prop}{d:DefRec}
  (hn:l.most=some n) (hdf:d.params.defaults=[])
  (call:∀(w:World) (s₀ s₁:Shared) (mg mb:Str->Option Value) (fa:Addr) (o:Obj) (pm cd doc:Value) (a:Addr) (vs:List Value) (ns:List Int),
   Ground q loose [] XP w s₀ mg mb s₁.heap->YP w s₁.heap ->
   s₁.heap.get? fa=some o->o.data=.func (docDef d.name d.params d.body d.scope pm cd doc)->s₁.heap.CodeRec cd d.name->mg d.name=some (.ref fa) ->
   s₁.heap.get? a=some { cls:=.type "list",data:=.seq vs.toArray }->IntsAre vs ns->ns.length<=n->s₁.gens=#[] ->
   codeAny (model l.prog w) callerA (.call (.ref fa) ⟨[.ref a],[]⟩) (fun r s'=>r=.ok (.ret (.bool true))/\OldK s₁.heap s'.heap/\s'.os=s₁.os/\AllBare s'.gens) s₁) :
  WalkO q loose XP YP l.row.toRowW d [] (fun f vs=>PySem.call f vs):=by
 intro w s₀ s₁ mg mb G Y fa o pm cd doc dV kV ho hd hcd hD hmg hg args vals as hpre hlay hrd hwl hlo
 obtain rfl:dV=.none:=Dflts.none hD hdf
 obtain rfl:kV=.none:=Dflts.noKw hD
 obtain ⟨a,vs,ns,rfl,rfl,hobj,hints,hlen⟩:=pG hn hpre hwl
 refine enter_call (codeAny_mono (call w s₀ s₁ mg mb fa o pm cd doc a vs ns G Y ho (fd_plain hd) hcd hmg hobj hints hlen hg) fun r s' hq=>?_)
 obtain ⟨rfl,h2,h3,h4⟩:=hq
 exact ⟨.inl ⟨.bool true,.bool true,[],rfl,fun _=>rfl,.bool true,pL l _,fun _=>⟨List.Pairwise.nil,fun _ hm=>(nomatch hm)⟩⟩,h2,h3,h4⟩
section
variable {prog:Program}{w:World}{A:Around}{E:Value->Shared->Prop}{s:Shared}{K:Frag}
def AU (h:Heap):Heap:={ h with objs:=#[] }
def AW (h:Heap) (L d:Addr):List (Addr×Obj):=(List.range h.objs.size).filterMap fun a=>if a=L\/a=d then none else (h.get? a).map fun o=>(a,o)
end
end Att
namespace L2
open PySem PySem.Spec PyProof.Rows
theorem gj:∀{vs:List Value}{ns:List Int},IntsAre vs ns->Vals (ns.map V.int) vs
 | _,_,.nil=>.nil
 | _,_,.cons n t h=>.cons ⟨t,rfl⟩ (gj h)
def BW (H:Hp):Prop:=∀b,H b=none\/∃o xs,H b=some (.frz o (.lst xs))
abbrev KOf {K:PySem.W.Frag}{h:Heap}(_:K.In h):PySem.W.Frag:=K
def f6 (s:Stmt) (j:Nat):Stmt:=match s with
 | .ClassDef _ _ _ body _ _ _ _ _ _ _=>body.getD j (.Pass ⟨0,0,0,0⟩)
 | _=>.Pass ⟨0,0,0,0⟩
def bS (s:Stmt):Arguments:=match s with
 | .FunctionDef _ a _ _ _ _ _ _ _ _=>a
 | _=>{ posonlyargs:=[],args:=[],vararg:=none,kwonlyargs:=[],kw_defaults:=[],kwarg:=none,defaults:=[] }
def bq (s:Stmt):List Stmt:=match s with
 | .FunctionDef _ _ b _ _ _ _ _ _ _=>b
 | _=>[]
def ak (s:Stmt):Scope:=match s with
 | .FunctionDef _ _ _ _ _ _ sc _ _ _=>sc
 | _=>{ kind:=.function,names:=[],isGenerator:=false,isCoroutine:=false }
abbrev CX0:CXT:=fun _ _ _ _ _ _=>False
abbrev E0:XK:=fun _ _ _=>False
theorem aE {X:Cx}:bC CX0 X E0:=fun _ _ _ _ _ _ _ h=>h.elim
structure Fun (K:PySem.W.Frag) (x qual:Str) (st:Stmt) (f:Addr) (fd:FuncData):Prop where
 ex:∃(oc:Value) (od:Option Addr) (kV doc pm:Value) (an:Option Addr) (cdv ct:Value) (osl:Array (Option Value)),
  fd=PySem.W.fnOf x qual (bS st) (bq st) (ak st) .none kV doc pm an cdv ct/\K.lookup f=some ⟨oc,od,.func fd,osl⟩/\PySem.W.codeIn K cdv qual=true
 kp:PySem.W.keepIn K (.ref f)=true
section
variable {P:Program}{w:World}{K:PySem.W.Frag}{mg:Str->Option Value}{base:Heap}
/-- THE RULE for a def: its body as a term of rules,and the reading of that term -/
theorem Fun.ok {x qual:Str}{st:Stmt}{f:Addr}{fd:FuncData}{N ps:List Str}{k:Nat}{sp:Sp}(F:Fun K x qual st f fd) (S:aq N ps (ak st)) (len:∀vs H Q E,sp vs H Q E->vs.length=ps.length)
  (hbody:∀(cdv:Value) (A:Around) (outer:List Env) (s:Shared) (H:Hp) (vs:List V) (Q:VK) (E:XK),Room k (A.deeper (envOfC qual (ak st) s.heap.objs.size f cdv))->sp vs H Q E ->
   ∃t,PSs (bb CX0 P w K mg base N qual (ak st) f cdv A outer s H E).nox (bq st) t/\t { nx:=fun _ H'=>Q .non H',rt:=Q } (start N vs) H):aG P w K mg base CX0 (k+1) f fd ps sp:=by
 obtain ⟨oc,od,kV,doc,pm,an,cdv,ct,osl,rfl,lk,hcd⟩:=F.ex
 refine ug lk hcd S len fun A outer s H vs Q E hr hsp=>?_
 obtain ⟨t,h,q⟩:=hbody cdv A outer s H vs Q E hr hsp
 exact ⟨t,h.nox,q⟩
theorem Fun.binds {x qual:Str}{st:Stmt}{f:Addr}{fd:FuncData}{ps:List Str}(F:Fun K x qual st f fd)
  (h:∀(kV doc pm:Value) (an:Option Addr) (cdv ct:Value) (us:List Value),us.length=ps.length->bindArgs (PySem.W.fnOf x qual (bS st) (bq st) (ak st) .none kV doc pm an cdv ct) ⟨us,[]⟩=pure (ps.zip us)):Binds K fd ps []:=by
 obtain ⟨oc,od,kV,doc,pm,an,cdv,ct,osl,rfl,lk,hcd⟩:=F.ex
 exact .all (h kV doc pm an cdv ct)
theorem mH {x qual:Str}{st:Stmt}{f:Addr}{oc:Value}{od an:Option Addr}{osl:Array (Option Value)}{kV doc pm cdv ct:Value}(l:K.lookup f=some ⟨oc,od,.func (PySem.W.fnOf x qual (bS st) (bq st) (ak st) .none kV doc pm an cdv ct),osl⟩)
  (c:PySem.W.codeIn K cdv qual=true) (k:PySem.W.keepIn K (.ref f)=true):Fun K x qual st f (PySem.W.fnOf x qual (bS st) (bq st) (ak st) .none kV doc pm an cdv ct):=⟨⟨oc,od,kV,doc,pm,an,cdv,ct,osl,rfl,l,c⟩,k⟩
end
theorem eJ {A:Around}{k:Nat}(hr:Room k A):A.units+1<cLine:=Nat.lt_of_le_of_lt (Nat.add_le_add_left (by decide:1<=64) _) hr.units
section
variable {X:Cx}
end
theorem bQ {A B:Prop}(h:B):if false=true then A else B:=by
 rw [if_neg Bool.false_ne_true]
 exact h
theorem cX {A B:Prop}(h:A):if true=true then A else B:=by
 rw [if_pos rfl]
 exact h
theorem cY {c A B:Prop} [Decidable c] (h1:c->A) (h2:¬ c->B):if c then A else B:=by
 by_cases h:c
 ·rw [if_pos h]
  exact h1 h
 ·rw [if_neg h]
  exact h2 h
def Same (H H':Hp):Prop:=∀b o,H b=some o->H' b=some o
theorem Same.refl (H:Hp):Same H H:=fun _ _ h=>h
theorem Same.trans {H H1 H2:Hp}(a:Same H H1) (b:Same H1 H2):Same H H2:=fun c o h=>b c o (a c o h)
theorem Same.free {H H':Hp}(e:Same H H') {l:Addr}(h:H' l=Option.none):H l=Option.none:=by
 cases q:H l with
 | none=>rfl
 | some o =>
  rw [e l o q] at h
  cases h
theorem Same.seq {K:PySem.W.Frag}{H H':Hp}{a:Addr}{xs:List V}(e:Same H H') (h:SqL K H a xs):SqL K H' a xs:=by
 rcases h with (h | ⟨o,h⟩) | h
 ·exact .inl (.inl (e _ _ h))
 ·exact .inl (.inr ⟨o,e _ _ h⟩)
 ·exact .inr h
end L2
namespace L2
open PySem
structure Flt (B:Heap) (l:List Env) (e:Addr) (cls:Value) (d:Option Addr) (fl:Value) (h:Heap):Prop where
 stays:B.StaysIn h
 new:B.get? e=none
 frames:h.FunFrames B l
 tr:∃ox ws T oT ts,h.get? e=some ox/\ox.cls=cls/\ox.dict=d/\ox.data=.fields ws/\ws[1]?=some (.ref T) /\
  B.get? T=none/\T≠e/\h.get? T=some oT/\oT.data=.fields ts/\ts[3]?=some fl
theorem qw (o:Obj) (f:Array Value->Array Value):(o.mapFields f).dict=o.dict:=by
 unfold Obj.mapFields
 split <;> rfl
section
variable {M:Model}{A:Around}{E:Value->Shared->Prop}{s:Shared}{B:Heap}{env:Env}{outer l:List Env}{L e:Addr}{cls fl:Value}{d:Option Addr}{Q:Unit->Shared->Prop}
theorem Flt.obj {h:Heap}(x:Flt B l e cls d fl h):∃ox ws,h.get? e=some ox/\ox.cls=cls/\ox.dict=d/\ox.data=.fields ws:=by
 obtain ⟨ox,ws,_,_,_,a1,a2,a3,a4,_⟩:=x.tr
 exact ⟨ox,ws,a1,a2,a3,a4⟩
theorem gv {ox:Obj}{ws:Array Value}{head:Value}{more:Bool}(hA:A.frames=some (env :: outer)) (hF:s.heap.FunFrames B (env :: outer)) (hL:env.frame=some L)
  (h1:s.heap.get? e=some ox) (hB:B.StaysIn s.heap) (hn:B.get? e=none) (hw:ox.data=.fields ws) (hz:1<ws.size)
  (k:∀h',Flt B (env :: outer) e ox.cls ox.dict (rawInt L) h'->s.heap.UpToSlots h'->Q () { s with heap:=h' }) :
  wpAny M A (do let a <- frameOf env; let pl <- entryPlaceOf L more; let b <- EntryCells.newEntry head a .none (rawInt L) .none pl; setField (.ref e) 1 b) Q E s:=by
 have nf:e ∉ (env :: outer).filterMap (·.frame):=by
  intro z
  obtain ⟨_,o,q,r⟩:=hF.mem z
  rw [h1] at q
  cases q
  exact r ws hw
 refine wpAny_bind (wpAny_frameOf_fun hA hF hL ?_)
 intro g1 k1
 refine wpAny_bind (wpAny_entryPlaceOf ?_)
 intro pl hp
 unfold EntryCells.newEntry newFields
 refine wpAny_bind (wpAny_newObj_type ?_ (hp.sizeOk5 _ _ _ _ _))
 have e1:g1.get? e=some ox:=(k1.2.1 e nf).trans h1
 have B1:B.StaysIn g1:=by
  intro b o q
  refine (k1.2.1 b ?_).trans (hB b o q)
  intro z
  rw [(hF.mem z).1] at q
  cases q
 generalize hR:({ cls:=.type "traceback",dict:=none,data:=.fields ([head,.ref L,.none,rawInt L,.none]++(if pl.isEmpty then List.replicate 6 Value.none else pl)).toArray }:Obj)=R
 have R3:∃ts,R.data=.fields ts/\ts[3]?=some (rawInt L):=by
  subst hR
  exact ⟨_,rfl,by simp⟩
 have Rf:R.isFreed=false:=by subst hR; rfl
 have e2:=Heap.get?_push_of_some (h:=g1) R e1
 refine wpAny_setField e2 hw hz (k _ ?_ ?_)
 ·have hT:g1.objs.size≠e:=Nat.ne_of_gt (Heap.lt_size e1)
  have w3:=Obj.data_mapFields hw (·.setIfInBounds 1 (Value.ref g1.objs.size))
  have e3:=Heap.get?_update_self (Obj.mapFields (·.setIfInBounds 1 (Value.ref g1.objs.size))) e2 (Obj.isFreed_of_fields w3)
  have T3:=(Heap.get?_update_other (g1.push R) (Obj.mapFields (·.setIfInBounds 1 (Value.ref g1.objs.size))) (Ne.symm hT)).trans (Heap.get?_push_size g1 Rf)
  refine ⟨?_,hn,?_,?_⟩
  ·intro b o q
   have ne:e≠b:=by intro z; subst z; rw [hn] at q; cases q
   rw [Heap.get?_update_other _ _ ne]
   exact Heap.get?_push_of_some _ (B1 b o q)
  ·refine hF.of_keeps ?_
   intro b o q r
   obtain ⟨sl,z⟩:=k1.2.2 b o q
   have ne:e≠b:=by intro y; subst y; rw [h1] at q; cases q; exact r ws hw
   refine ⟨{ o with slots:=sl },?_,rfl⟩
   rw [Heap.get?_update_other _ _ ne]
   exact Heap.get?_push_of_some _ z
  ·obtain ⟨ts,r1,r2⟩:=R3
   exact ⟨_,_,g1.objs.size,R,ts,e3,Obj.cls_mapFields _ _,qw _ _,w3,by simp [hz],B1.fresh,hT,T3,r1,r2⟩
 ·intro b o q r
  obtain ⟨sl,z⟩:=k1.2.2 b o q
  have ne:e≠b:=by intro y; subst y; rw [h1] at q; cases q; exact r ws hw
  refine ⟨sl,?_⟩
  rw [Heap.get?_update_other _ _ ne]
  exact Heap.get?_push_of_some _ z
theorem mo {ox:Obj}{ws:Array Value}(hA:A.frames=some (env :: outer)) (hF:s.heap.FunFrames B (env :: outer)) (hL:env.frame=some L)
  (h1:s.heap.get? e=some ox) (hB:B.StaysIn s.heap) (hn:B.get? e=none) (hw:ox.data=.fields ws) (hz:ws[1]?=some .none)
  (k:∀h',Flt B (env :: outer) e ox.cls ox.dict (rawInt L) h'->s.heap.UpToSlots h'->Q () { s with heap:=h' }):wpAny M A (noteFrame (.ref e) env) Q E s:=by
 unfold noteFrame
 simp only [hL]
 refine wpAny_bind (wpAny_field h1 hw hz ?_)
 rw [if_neg (by decide)]
 exact gv hA hF hL h1 hB hn hw (Array.getElem?_eq_some_iff.mp hz).1 k
theorem gw (hA:A.frames=some (env :: outer)) (hL:env.frame=some L) (x:Flt B (env :: outer) e cls d .none s.heap)
  (k:∀h',Flt B (env :: outer) e cls d (rawInt L) h'->s.heap.UpToSlots h'->Q () { s with heap:=h' }):wpAny M A (noteFrame (.ref e) env) Q E s:=by
 obtain ⟨ox,ws,T,oT,ts,a1,a2,a3,a4,a5,a6,a7,a8,a9,a10⟩:=x.tr
 subst a2 a3
 unfold noteFrame
 simp only [hL]
 refine wpAny_bind (wpAny_field a1 a4 a5 ?_)
 rw [if_pos (show (Value.ref T != Value.none)=true by simp)]
 refine wpAny_bind (wpAny_field a8 a9 a10 ?_)
 rw [if_neg (show ¬ ((Value.none == rawInt L)=true) by simp [rawInt])]
 refine wpAny_bind (wpAny_setField a8 a9 (Array.getElem?_eq_some_iff.mp a10).1 ?_)
 have oth:∀b,b≠T->(s.heap.update T (Obj.mapFields (·.setIfInBounds 3 Value.none))).get? b=s.heap.get? b:=by
  intro b z
  exact Heap.get?_update_other _ _ (Ne.symm z)
 have nT:∀b o,s.heap.get? b=some o->(∀us,o.data≠.fields us)->b≠T:=by
  intro b o q r z
  rw [z,a8] at q
  cases q
  exact r ts a9
 refine gv hA ?_ hL ((oth e (Ne.symm a7)).trans a1) ?_ x.new a4 (Array.getElem?_eq_some_iff.mp a5).1 ?_
 ·refine x.frames.of_keeps ?_
  intro b o q r
  exact ⟨o,(oth b (nT b o q r)).trans q,rfl⟩
 ·intro b o q
  refine (oth b ?_).trans (x.stays b o q)
  intro z
  rw [z,a6] at q
  cases q
 ·intro h' y1 y2
  refine k h' y1 ?_
  intro b o q r
  exact y2 b o ((oth b (nT b o q r)).trans q) r
theorem iI (x:Flt B l e cls d fl s.heap) (k:∀h',Flt B l e cls d .none h'->s.heap.UpToSlots h'->Q () { s with heap:=h' }):wpAny M A (setFlight (.ref e) none) Q E s:=by
 obtain ⟨ox,ws,T,oT,ts,a1,a2,a3,a4,a5,a6,a7,a8,a9,a10⟩:=x.tr
 have z3:3<ts.size:=(Array.getElem?_eq_some_iff.mp a10).1
 have oth:∀b,b≠T->(s.heap.update T (Obj.mapFields (·.setIfInBounds 3 ((none:Option Addr).elim Value.none fun f=>rawInt f)))).get? b=s.heap.get? b:=by
  intro b z
  exact Heap.get?_update_other _ _ (Ne.symm z)
 have nT:∀b o,s.heap.get? b=some o->(∀us,o.data≠.fields us)->b≠T:=by
  intro b o q r z
  rw [z,a8] at q
  cases q
  exact r ts a9
 unfold setFlight
 refine wpAny_bind (wpAny_field a1 a4 a5 ?_)
 rw [if_pos (show (Value.ref T != Value.none)=true by simp)]
 refine wpAny_setField a8 a9 z3 (k _ ⟨?_,x.new,?_,?_⟩ ?_)
 ·intro b o q
  refine (oth b ?_).trans (x.stays b o q)
  intro z
  rw [z,a6] at q
  cases q
 ·refine x.frames.of_keeps ?_
  intro b o q r
  exact ⟨o,(oth b (nT b o q r)).trans q,rfl⟩
 ·have w3:=Obj.data_mapFields a9 (·.setIfInBounds 3 ((none:Option Addr).elim Value.none fun f=>rawInt f))
  exact ⟨ox,ws,T,_,_,(oth e (Ne.symm a7)).trans a1,a2,a3,a4,a5,a6,a7,Heap.get?_update_self _ a8 (Obj.isFreed_of_fields w3),w3,by simp [z3]⟩
 ·intro b o q r
  exact ⟨o.slots,(oth b (nT b o q r)).trans q⟩
theorem Flt.out {h:Heap}(x:Flt B (env :: outer) e cls d fl h):Flt B outer e cls d fl h:=by
 obtain ⟨a1,a2,⟨_,_,a3⟩,a4⟩:=x
 exact ⟨a1,a2,a3,a4⟩
theorem gG {ox:Obj}{ws:Array Value}(hA:A.frames=some (env :: outer)) (hF:s.heap.FunFrames B (env :: outer)) (hL:env.frame=some L)
  (h1:s.heap.get? e=some ox) (hB:B.StaysIn s.heap) (hn:B.get? e=none) (hw:ox.data=.fields ws) (hz:ws[1]?=some .none)
  (k:∀h',Flt B outer e ox.cls ox.dict .none h'->s.heap.UpToSlots h'->Q () { s with heap:=h' }):wpAny M A (leaving env (.ref e)) Q E s:=by
 unfold leaving
 refine wpAny_bind (mo hA hF hL h1 hB hn hw hz ?_)
 intro h' x y
 refine iI x ?_
 intro h'' x' y'
 exact k h'' x'.out (y.trans y')
theorem mC (hA:A.frames=some (env :: outer)) (hL:env.frame=some L) (x:Flt B (env :: outer) e cls d .none s.heap)
  (k:∀h',Flt B outer e cls d .none h'->s.heap.UpToSlots h'->Q () { s with heap:=h' }):wpAny M A (leaving env (.ref e)) Q E s:=by
 unfold leaving
 refine wpAny_bind (gw hA hL x ?_)
 intro h' x y
 refine iI x ?_
 intro h'' x' y'
 exact k h'' x'.out (y.trans y')
end
end L2
namespace L2
open PySem PySem.Spec PyProof.Rows
def CX1 (P:Program) (w:World):CXT:=fun outer H s E e s' =>
 ∃(a:Addr) (cls:Value) (d:Option Addr) (B:Heap) (H':Hp),e=.ref a/\s'.os=s.os/\AllBare s'.gens/\Un (frs outer) [] H H' s.heap s'.heap/\HOk P w H' s'.heap /\
  Flt B outer a cls d .none s'.heap/\H' a=none /\
  (∀b o,s.heap.get? b=some o->b ∉ frs outer->H b=none->B.get? b=some o) /\
  (∀b u,H' b=some u->∃o,B.get? b=some o) /\
  (∀b o,s.heap.get? b=some o->b∈frs outer\/∃o',B.get? b=some o')/\E cls d H'
theorem f9 {env:Env}{outer:List Env}{L:Addr}(h:env.frame=some L):frs (env :: outer)=L :: frs outer:=by
 unfold frs
 rw [List.filterMap_cons,h]
theorem ObjOk.ex {P:Program}{w:World}{H:Hp}{h:Heap}{a:Addr}{o:HO}(x:ObjOk P w H h a o):∃ob,h.get? a=some ob:=by
 cases o with
 | lst xs=>obtain ⟨_,_,_,_,e⟩:=x; exact ⟨_,e⟩
 | tup xs=>obtain ⟨_,_,_,ob,e,_⟩:=x; exact ⟨_,e⟩
 | dK kvs=>obtain ⟨_,_,_,_,o,_,_,e,_⟩:=x; exact ⟨_,e⟩
 | dT kvs=>obtain ⟨_,_,_,_,o,_,_,e,_⟩:=x; exact ⟨_,e⟩
 | set S n=>obtain ⟨o,_,_,_,e,_⟩:=x; exact ⟨_,e⟩
 | ins C dx fs=>obtain ⟨_,_,_,e,_⟩:=x; exact ⟨_,e⟩
 | own y=>exact x
 | xd fs=>obtain ⟨_,⟨_,_,_,e,_⟩,_⟩:=x; exact ⟨_,e⟩
 | rng lo hi=>obtain ⟨_,_,_,e⟩:=x; exact ⟨_,e⟩
 | frz ob u=>obtain ⟨e,_⟩:=x; exact ⟨_,e⟩
 | tbl ps=>exact ⟨_,(show h.get? a=some _ from x)⟩
 | met f y=>exact ⟨_,(show h.get? a=some _ from x)⟩
 | ext φ=>obtain ⟨_,e,_⟩:=x; exact e
section
variable {X:Cx}{pins:List (Addr×Obj)}{σ:St}{H H':Hp}{s s1:Shared}{B h':Heap}
theorem Inv.flown (I:Inv X pins σ H s) (os:s1.os=s.os) (bare:AllBare s1.gens) (un:Un (frs X.stack) [] H H' s.heap s1.heap) (hok:HOk X.prog X.w H' s1.heap) (bs:B.StaysIn s1.heap)
  (b1:∀b o,s.heap.get? b=some o->b ∉ frs X.stack->H b=none->B.get? b=some o) (b2:∀b u,H' b=some u->∃o,B.get? b=some o)
  (b3:∀b o,s.heap.get? b=some o->b∈frs X.stack\/∃o',B.get? b=some o') (st:B.StaysIn h') (up:s1.heap.UpToSlots h'):Inv X pins σ H' { s1 with heap:=h' }:=by
 have nf:∀b∈frs X.stack,∀o,s.heap.get? b=some o->∀vs,o.data≠.fields vs:=fun b hb o e=>by
  obtain ⟨_,o',e',r⟩:=I.stack.mem hb
  rw [e] at e'
  cases e'
  exact r
 have sl:∀b o,s.heap.get? b=some o->b∈frs X.stack->∃sl,h'.get? b=some { o with slots:=sl }:=fun b o e hb=>by
  obtain ⟨s2,e2⟩:=un.slot b o e (I.stkFree b hb) hb (by simp)
  obtain ⟨s3,e3⟩:=up b _ e2 (nf b hb o e)
  exact ⟨s3,e3⟩
 refine I.call' (s':={ s1 with heap:=h' }) os ⟨fun b o e n hb _=>st b o (b1 b o e hb n),fun b o e n hb _=>sl b o e hb,un.free,fun b o e hx=>?_,un.tups,un.frzs,un.tbls⟩ (fun b u e=>?_) bare fun b z=>nomatch z
 ·rcases b3 b o e with z | ⟨o',z⟩
  ·obtain ⟨_,q⟩:=sl b o e z
   exact ⟨_,q⟩
  ·exact ⟨o',st b o' z⟩
 ·refine (hok b u e).stay (fun c v hc q=>?_) (fun _ q=>q) fun _ _ q=>q
  have ht:∃u',H' c=some u':=by
   rcases hc with rfl | hc
   ·exact ⟨u,e⟩
   ·exact ⟨_,hc⟩
  obtain ⟨u',hu⟩:=ht
  obtain ⟨o,ho⟩:=b2 c u' hu
  have q':=bs c o ho
  rw [q] at q'
  cases q'
  exact st c v ho
end
section
variable {P:Program}{w:World}{K:PySem.W.Frag}{mg:Str->Option Value}{base:Heap}{N:List Str}{qual:Str}{scope:Scope}{f:Addr}{cd:Value}{A:Around}{outer:List Env}{s₀:Shared}{H₀:Hp}{E:XK}
theorem bd:bC (CX1 P w) (bb (CX1 P w) P w K mg base N qual scope f cd A outer s₀ H₀ E) E:=by
 intro pins σ H s e s1 I h
 obtain ⟨a,cls,d,B,H',rfl,os,bare,un,hok,fl,ha,b1,b2,b3,q⟩:=h
 have hfr:(envOfC qual scope s₀.heap.objs.size f cd).frame=some s₀.heap.objs.size:=rfl
 refine mC (B:=B) (outer:=outer) I.ok.frames hfr fl fun h' x y=>?_
 have J:=I.flown (s1:=s1) os bare un hok fl.stays b1 b2 b3 x.stays y
 have nL:∀b o,s₀.heap.get? b=some o->b ∉ frs outer->b ∉ frs (envOfC qual scope s₀.heap.objs.size f cd :: outer):=fun b o e hb z=>by
  rw [f9 hfr] at z
  rcases List.mem_cons.mp z with z | z
  ·exact absurd (Heap.lt_size e) (by rw [z]; exact Nat.lt_irrefl _)
  ·exact hb z
 refine ⟨a,cls,d,B,H',rfl,J.os,J.bare,J.base,J.hok,x,ha,fun b o e hb n=>?_,b2,fun b o e=>?_,q⟩
 ·exact b1 b o (I.base.keep b o e n hb (by intro z; cases z)) (nL b o e hb) (I.base.free b o e n (by intro z; cases z))
 ·obtain ⟨o',e'⟩:=I.base.there b o e (by intro z; cases z)
  by_cases hb:b∈frs outer
  ·exact .inl hb
  ·rcases b3 b o' e' with z | z
   ·exact absurd z (nL b o e hb)
   ·exact .inr z
theorem mz {pins:List (Addr×Obj)}{σ:St}{H:Hp}{s:Shared}{h1:Heap}{a:Addr}{cls:Value}{args:List Value}(I:Inv (bb (CX1 P w) P w K mg base N qual scope f cd A outer s₀ H₀ E) pins σ H s)
  (mk:Heap.MadeExcOf s.heap h1 a cls args) (q:E cls none H):(bb (CX1 P w) P w K mg base N qual scope f cd A outer s₀ H₀ E).xe (.ref a) { s with heap:=h1 }:=by
 have hfr:(envOfC qual scope s₀.heap.objs.size f cd).frame=some s₀.heap.objs.size:=rfl
 have hstk:s.heap.FunFrames base (envOfC qual scope s₀.heap.objs.size f cd :: outer):=I.stack
 have hin:∀env∈(envOfC qual scope s₀.heap.objs.size f cd :: outer),∀b,env.frame=some b->b∈frs (envOfC qual scope s₀.heap.objs.size f cd :: outer):=fun env he b hb=>List.mem_filterMap.mpr ⟨env,he,hb⟩
 have hB:=PySem.W.funFrames_hide hstk hin
 generalize hBB:PySem.W.hideAll s.heap (frs (envOfC qual scope s₀.heap.objs.size f cd :: outer))=B at hB
 have inB:∀b o,s.heap.get? b=some o->b ∉ frs (envOfC qual scope s₀.heap.objs.size f cd :: outer)->B.get? b=some o:=fun b o e n=>by rw [<- hBB]; exact PySem.W.hideAll_get _ e n
 have ofB:∀b o,B.get? b=some o->s.heap.get? b=some o:=fun b o e=>by rw [<- hBB] at e; exact PySem.W.of_hideAll _ e
 have fresh:∀b,s.heap.get? b=none->B.get? b=none:=fun b e=>by
  cases z:B.get? b with
  | none=>rfl
  | some o=>rw [ofB b o z] at e; cases e
 obtain ⟨t,e1,e2,e3⟩:=mk.there
 have htr:H a=none:=by
  cases z:H a with
  | none=>rfl
  | some u =>
   obtain ⟨ob,e⟩:=(I.hok a u z).ex
   rw [mk.new] at e
   cases e
 show wpAny _ _ (leaving _ (.ref a)) _ _ _
 refine gG (B:=B) (outer:=outer) (s:={ s with heap:=h1 }) I.ok.frames (hB.of_keeps fun b o e _=>⟨o,mk.keeps b o e,rfl⟩) hfr e1 (fun b o e=>mk.keeps b o (ofB b o e)) (fresh a mk.new) rfl rfl fun h' x y=>?_
 have hok1:HOk P w H h1:=I.hok.kept mk.keeps
 have b3:∀b o,s.heap.get? b=some o->b∈frs (envOfC qual scope s₀.heap.objs.size f cd :: outer)\/∃o',B.get? b=some o':=fun b o e=>by
  by_cases hb:b∈frs (envOfC qual scope s₀.heap.objs.size f cd :: outer)
  ·exact .inl hb
  ·exact .inr ⟨o,inB b o e hb⟩
 have b2:∀b u,H b=some u->∃o,B.get? b=some o:=fun b u e=>by
  obtain ⟨o,eo⟩:=(I.hok b u e).ex
  refine ⟨o,inB b o eo fun z=>?_⟩
  rw [I.stkFree b z] at e
  cases e
 have J:=I.flown (s1:={ s with heap:=h1 }) (H':=H) rfl I.bare (Un.kept mk.keeps) hok1 (fun b o e=>mk.keeps b o (ofB b o e)) (fun b o e hb _=>inB b o e hb) b2 b3 x.stays y
 have nL:∀b o,s₀.heap.get? b=some o->b ∉ frs outer->b ∉ frs (envOfC qual scope s₀.heap.objs.size f cd :: outer):=fun b o e hb z=>by
  rw [f9 hfr] at z
  rcases List.mem_cons.mp z with z | z
  ·exact absurd (Heap.lt_size e) (by rw [z]; exact Nat.lt_irrefl _)
  ·exact hb z
 refine ⟨a,cls,none,B,H,rfl,J.os,J.bare,J.base,J.hok,x,htr,fun b o e hb n=>?_,b2,fun b o e=>?_,q⟩
 ·exact inB b o (I.base.keep b o e n hb (by intro z; cases z)) (nL b o e hb)
 ·obtain ⟨o',e'⟩:=I.base.there b o e (by intro z; cases z)
  by_cases hb:b∈frs outer
  ·exact .inl hb
  ·exact .inr ⟨o',inB b o' e' (nL b o e hb)⟩
end
theorem Fun.okX {P:Program}{w:World}{K:PySem.W.Frag}{mg:Str->Option Value}{base:Heap}{x qual:Str}{st:Stmt}{f:Addr}{fd:FuncData}{N ps:List Str}{k:Nat}{sp:Sp}(F:Fun K x qual st f fd) (S:aq N ps (ak st))
  (len:∀vs H Q E,sp vs H Q E->vs.length=ps.length)
  (hbody:∀(cdv:Value) (A:Around) (outer:List Env) (s:Shared) (H:Hp) (vs:List V) (Q:VK) (E:XK),Room k (A.deeper (envOfC qual (ak st) s.heap.objs.size f cdv))->sp vs H Q E ->
   ∃t,PSs (bb (CX1 P w) P w K mg base N qual (ak st) f cdv A outer s H E) (bq st) t/\t { nx:=fun _ H'=>Q .non H',rt:=Q } (start N vs) H):aG P w K mg base (CX1 P w) (k+1) f fd ps sp:=by
 obtain ⟨oc,od,kV,doc,pm,an,cdv,ct,osl,rfl,lk,hcd⟩:=F.ex
 exact ug lk hcd S len fun A outer s H vs Q E hr hsp=>hbody cdv A outer s H vs Q E hr hsp
abbrev bmVE:List Value:=[.type "ValueError",.type "Exception",.type "BaseException",.type "object"]
theorem qq {K:PySem.W.Frag}{h:Heap}{C:Addr}{bmB:List Value}{nid:String}(X:K.In h) (q:PySem.W.excIn K C bmB nid=true) :
  ∃bm N nm qn bs hd sn sub ab col dd k0 k1 k2 k3 k5 mN,h.get? C=some (excClassObj nm qn C N bs bm hd sn sub ab col dd k0 k1 k2 k3 k5 nid)/\h.Ns N mN/\mN "__init__"=none/\OwnTail h bmB bm:=by
 unfold PySem.W.excIn at q
 split at q
 ·rename_i dd cd sl ho
  split at q
  ·rename_i C2 bm k0 k1 k2 k3 n k5 hm hs
   rw [Bool.and_eq_true,Bool.and_eq_true,Bool.and_eq_true,Bool.and_eq_true,Bool.and_eq_true] at q
   obtain ⟨⟨⟨⟨⟨q1,q2⟩,q3⟩,q4⟩,q5⟩,q6⟩:=q
   have e1:=beq_iff_eq.mp q1
   have e2:=beq_iff_eq.mp q2
   have e6:=beq_iff_eq.mp q6
   subst e1 e2
   obtain ⟨nm,bs,mro,ns,qn,hd,sn,sub,ab,col,del⟩:=cd
   have e3:del=false:=by simpa using q3
   have hm':mro=.ref C2 :: bm:=hm
   subst e3 hm'
   have hsl:sl=#[k0,k1,k2,k3,some (.builtin n),k5]:=by
    cases sl with
    | mk l=>exact congrArg Array.mk hs
   subst hsl
   exact ⟨bm,ns,nm,qn,bs,hd,sn,sub,ab,col,dd,k0,k1,k2,k3,k5,_,X _ _ ho,.of_isNs (PySem.W.isNs_of_in X q5),PySem.W.nsMap_none_of_in X q5 e6,PySem.W.tail_of_in X q4⟩
  ·cases q
 ·cases q
def qS (C:Addr) (E:XK) (t:TA):TS:=fun _ σ H=>t σ H fun vs H1=>vs.length<=sizeLine/\E (.ref C) none H1
section
variable {P:Program}{w:World}{K:PySem.W.Frag}{mg:Str->Option Value}{base:Heap}{N:List Str}{qual:Str}{scope:Scope}{f:Addr}{cd:Value}{A:Around}{outer:List Env}{s₀:Shared}{H₀:Hp}{E:XK}
theorem rL {x:Str}{C:Addr}{e:Expr}{es:List Expr}{t:TA}{np cpos pos:Pos}(hg:Gl (bb (CX1 P w) P w K mg base N qual scope f cd A outer s₀ H₀ E) x) (hm:mg x=some (.ref C)) (hq:PySem.W.excIn K C bmVE "ValueError.__new__"=true)
  (ha:PA (bb (CX1 P w) P w K mg base N qual scope f cd A outer s₀ H₀ E) (e :: es) t) (hd:(x == ("__debug__":Str))=false:=by decide)
  (he:starEach (e :: es) (bb (CX1 P w) P w K mg base N qual scope f cd A outer s₀ H₀ E).env=(false,eval e (bb (CX1 P w) P w K mg base N qual scope f cd A outer s₀ H₀ E).env) :: starEach es (bb (CX1 P w) P w K mg base N qual scope f cd A outer s₀ H₀ E).env:=by rfl)
  (hpl:(backTo cpos (starEach es (bb (CX1 P w) P w K mg base N qual scope f cd A outer s₀ H₀ E).env)).any (·.1)=false:=by rfl) :
  PS (bb (CX1 P w) P w K mg base N qual scope f cd A outer s₀ H₀ E) (.Raise (some (.Call (.Name x np) (e :: es) [] cpos)) none pos) (qS C E t):=by
 intro pins s σ H D I h
 obtain ⟨bm,NN,nm,qn,bs,hdd,sn,sub,ab,col,dd,k0,k1,k2,k3,k5,mN,hC,hN,hni,T⟩:=qq I.mod.kin hq
 have hbase:bm.contains (.type "BaseException")=true:=T.hasType (by decide)
 refine wpAny_Raise_call_subU (C:=C) (nm:=nm) (q:=qn) (N:=NN) (bs:=bs) (bm:=bm) (hdct:=hdd) (sn:=sn) (sub:=sub) (ab:=ab) (col:=col) (dd:=dd) (k0:=k0) (k1:=k1) (k2:=k2) (k3:=k3) (k5:=k5) (mN:=mN)
  PySem.F.excBase_ValueError (by decide:bmVE.contains (.type "ValueError")=true) PySem.F.excBase_ValueError hbase (I.ok.hd rfl) ?_ hni (fZ I hg hm ⟨rfl,?_⟩ hd)
 ·rw [he]
  show (false||(backTo cpos (starEach es _)).any (·.1))=false
  rw [hpl]
  rfl
 ·have hp:=ha cpos pins s σ H _ I h
  rw [he] at hp ⊢
  refine Calls.evalArgs_plain (thn hp ?_)
  rintro us s2 ⟨vs,H1,I2,r,hz,q⟩
  exact ⟨rfl,by rw [<- r.length]; exact hz,I2.bk _ _ hC,hN.keeps I2.bk,T.keeps I2.bk,fun h' a mk=>mz I2 mk q⟩
end
def iK (a:Addr) (cls:Value) (d:Option Addr):HO:=.ext fun h=>∃ox ws,h.get? a=some ox/\ox.cls=cls/\ox.dict=d/\ox.data=.fields ws
theorem ww {P:Program}{w:World}{H:Hp}{h:Heap}{a:Addr}{cls:Value}{d:Option Addr}(x:∃ox ws,h.get? a=some ox/\ox.cls=cls/\ox.dict=d/\ox.data=.fields ws):ObjOk P w H h a (iK a cls d):=by
 obtain ⟨ox,ws,e1,e2,e3,e4⟩:=x
 refine ⟨⟨ox,ws,e1,e2,e3,e4⟩,⟨ox,e1⟩,?_⟩
 rintro h1 h2 ⟨o,us,f1,f2,f3,f4⟩ k
 exact ⟨o,us,k o f1,f2,f3,f4⟩
section
variable {X:Cx}{pins:List (Addr×Obj)}{σ:St}{H:Hp}{s:Shared}
theorem Inv.track {a:Addr}{o:HO}(I:Inv X pins σ H s) (n:H a=none) (nL:a≠X.env.locals) (nC:∀x c,X.env.cells.lookup x=some c->c≠a) (nP:∀p∈X.pn++pins,p.1≠a) (n0:X.s₀.heap.get? a=none)
  (new:ObjOk X.prog X.w (upd H a o) s.heap a o):Inv X pins σ (upd H a o) s:=by
 have ne:∀b u,H b=some u->b≠a:=fun b u e z=>by rw [z,n] at e; cases e
 refine ⟨I.ok,I.os,I.bare,⟨I.base.keep,I.base.slot,fun b ob e m hx=>?_,I.base.there,fun b xs e=>?_,fun b ob u e=>?_,fun b ps e=>?_⟩,I.loc,I.cell,?_,fun x c e=>?_,fun p hp=>?_,fun b u e=>?_,I.len⟩
 ·rw [ah (by intro z; rw [z,n0] at e; cases e)]
  exact I.base.free b ob e m hx
 ·have e1:=I.base.tups b xs e
  rw [ah (ne _ _ e1)]
  exact e1
 ·have e1:=I.base.frzs b ob u e
  rw [ah (ne _ _ e1)]
  exact e1
 ·obtain ⟨m,e1⟩:=I.base.tbls b ps e
  exact ⟨m,by rw [ah (ne _ _ e1)]; exact e1⟩
 ·rw [ah (Ne.symm nL)]
  exact I.free
 ·rw [ah (nC x c e)]
  exact I.freeC x c e
 ·obtain ⟨e1,e2,e3⟩:=I.pin p hp
  exact ⟨e1,by rw [ah (nP p hp)]; exact e2,e3⟩
 ·by_cases hb:b=a
  ·subst hb
   rw [ac] at e
   cases e
   exact new
  ·rw [ah hb] at e
   refine (I.hok b u e).stay (fun _ _ _ q=>q) (fun c q=>?_) fun c xs q=>?_
   ·rw [ah (ne _ _ q)]
    exact q
   ·rw [ah (ne _ _ q)]
    exact q
theorem Inv.unname {M:Model}{A:Around}{E:Value->Shared->Prop}{i:Nat}{n:Str}{pos:Pos}{Q:Unit->Shared->Prop}(I:Inv X pins σ H s) (hN:X.N.Nodup) (hi:X.N[i]?=some n) (hk:X.env.scope.names.lookup n=some .local)
  (k:∀s',Inv X pins (σ.set i none) H s'->Q () s'):wpAny M A (do bindName X.env n .none; unbindBehindTheSuite X.env n pos) Q E s:=by
 obtain ⟨m,hn,hl⟩:=id I.loc
 obtain ⟨oL,_,_,hoL,_⟩:=id hn
 refine wpAny_nameGoes_keeps hk hn (by rw [I.ok.kind]; rfl) fun h' v hn' sb=>k _ ?_
 have ne0:∀b o,X.s₀.heap.get? b=some o->b≠X.env.locals:=fun b o e=>Nat.ne_of_lt (Nat.lt_of_lt_of_le (Heap.lt_size e) I.ok.above)
 refine ⟨I.ok,I.os,I.bare,⟨fun b o e m hb hx=>(sb.2 b (ne0 b o e)).trans (I.base.keep b o e m hb hx),fun b o e m hb hx=>?_,I.base.free,fun b o e hx=>?_,I.base.tups,I.base.frzs,I.base.tbls⟩,⟨_,hn',fun j y w e1 e2 e3=>?_⟩,fun y c e=>?_,I.free,I.freeC,fun p hp=>?_,fun b u e=>?_,?_⟩
 ·obtain ⟨sl,e1⟩:=I.base.slot b o e m hb hx
  exact ⟨sl,(sb.2 b (ne0 b o e)).trans e1⟩
 ·obtain ⟨o',e1⟩:=I.base.there b o e hx
  exact ⟨o',(sb.2 b (ne0 b o e)).trans e1⟩
 ·have hj:j≠i:=by
   intro z
   subst z
   have hz:j<σ.length:=by rw [I.len]; exact (List.getElem?_eq_some_iff.mp hi).1
   rw [List.getElem?_set_self hz] at e2
   cases e2
  rw [List.getElem?_set_ne (Ne.symm hj)] at e2
  obtain ⟨u,r,l⟩:=hl j y w e1 e2 e3
  have hy:y≠n:=by
   intro z
   subst z
   exact hj (iu hN e1 hi)
  refine ⟨u,r,?_⟩
  rcases l with ⟨l1,l2⟩ | ⟨l1,c,l2,l3⟩
  ·exact .inl ⟨l1,(if_neg hy).trans l2⟩
  ·exact .inr ⟨l1,c,l2,l3.sameBut sb (I.cne y c l2)⟩
 ·obtain ⟨w,z⟩:=I.cell y c e
  exact ⟨w,z.sameBut sb (I.cne y c e)⟩
 ·obtain ⟨e1,e2,e3,e4⟩:=I.pin p hp
  exact ⟨(sb.2 p.1 e3).trans e1,e2,e3,e4⟩
 ·refine (I.hok b u e).stay (fun c w hc q=>(sb.2 c ?_).trans q) (fun _ q=>q) fun _ _ q=>q
  intro z
  subst z
  rcases hc with hc | hc
  ·rw [<- hc,I.free] at e
   cases e
  ·rw [I.free] at hc
   cases hc
 ·rw [List.length_set]
  exact I.len
end
def XP (X:Cx) (pins:List (Addr×Obj)) (σ:St) (Ex:XK) (e:Value) (s':Shared):Prop:=∃H s,Inv X pins σ H s/\CX1 X.prog X.w X.stack H s Ex e s'
abbrev TX:=St->Hp->VK->XK->Prop
def PEX (X:Cx) (e:Expr) (t:TX):Prop :=
 ∀(pins:List (Addr×Obj)) (s:Shared) (σ:St) (H:Hp) (Q:VK) (Ex:XK),Inv X pins σ H s->t σ H Q Ex->wpAny (model X.prog X.w) X.A (eval e X.env) (EP X pins σ Q) (XP X pins σ Ex) s
def jz (sp:Sp) (dvs:List V) (t:TA):TX:=fun σ H Q Ex=>t σ H fun vs H1=>sp (vs++dvs) H1 Q Ex
section
variable {X:Cx}{k:Nat}{f:Addr}{fd:FuncData}{ps:List Str}{sp:Sp}{dvs:List V}{ds:List Value}{x:Str}{p pos:Pos}{e:Expr}{es:List Expr}{t:TA}
theorem PA.nox' {es:List Expr}{t:TA}(h:PA X.nox es t) {pos:Pos}{pins:List (Addr×Obj)}{s:Shared}{σ:St}{H:Hp}{Q:List V->Hp->Prop}{E:Value->Shared->Prop}(I:Inv X pins σ H s) (q:t σ H Q) :
  wpAny (model X.prog X.w) X.A (spliced (backTo pos (starEach es X.env))) (AP X pins σ Q) E s :=
 wpAny_mono (h pos pins s σ H Q (I.wish _) q) (fun _ _ ⟨vs,H',I',r,z⟩=>⟨vs,H',I'.unwish,r,z⟩) fun _ _ z=>False.elim z
theorem rV (F:aG X.prog X.w X.K X.mg X.base (CX1 X.prog X.w) k f fd ps sp) (hr:Room k X.A) (hg:Gl X x) (hm:X.mg x=some (.ref f)) (hk:PySem.W.keepIn X.K (.ref f)=true) (hb:Binds X.K fd ps ds) (hd:Vals dvs ds)
  (ha:PA X.nox (e :: es) t) (hdb:(x == ("__debug__":Str))=false:=by decide) (he:starEach (e :: es) X.env=(false,eval e X.env) :: starEach es X.env:=by rfl) (hpl:(backTo pos (starEach es X.env)).any (·.1)=false:=by rfl) :
  PEX X (.Call (.Name x p) (e :: es) [] pos) (jz sp dvs t):=by
 intro pins s σ H Q Ex I h
 refine wpAny_Call_Name_kw (fZ I hg hm ?_ hdb)
 refine PySem.W.callWith_K (h₀:=X.base) I.ok.mod.kin hk (thn (ha.nox' I h) ?_) he hpl
 rintro us s1 ⟨vs,H1,I1,r,q⟩
 refine ⟨I1.kIn,?_⟩
 have r2:Vals (vs++dvs) (us++ds):=r.append hd
 have hl:(us++ds).length=ps.length:=by rw [<- r2.length]; exact F.len _ _ _ _ q
 refine wpAny_call (codeAny_mono (F.run X.A X.stack s1 H1 ⟨us,[]⟩ (us++ds) (vs++dvs) Q Ex hr I1.env0 (hb s1 us I1.kIn hl) r2 q) ?_)
 intro r s' z
 cases r with
 | error e=>exact ⟨H1,s1,I1,z⟩
 | ok fl =>
  cases fl with
  | ret u=>exact I1.after z
  | next=>exact False.elim z
  | brk=>exact False.elim z
  | cont=>exact False.elim z
end
abbrev Cx.caught (X:Cx) (a:Addr):Cx:={ X with A:=X.A.mark (some (.ref a)),calm:=false }
theorem Inv.caught {X:Cx}{pins:List (Addr×Obj)}{σ:St}{H:Hp}{s:Shared}(I:Inv X pins σ H s) (a:Addr):Inv (X.caught a) pins σ H s :=
 ⟨⟨I.ok.mod,I.ok.kind,I.ok.glob,I.ok.blt,I.ok.above,I.ok.inj,I.ok.has,I.ok.cab,(fun z=>nomatch z),I.ok.frames,I.ok.stk,I.ok.exf,I.ok.bs,I.ok.bsz,I.ok.noex,I.ok.exfs,I.ok.funs,I.ok.frf⟩,I.os,I.bare,I.base,I.loc,I.cell,I.free,I.freeC,I.pin,I.hok,I.len⟩
theorem Inv.uncaught {X:Cx}{pins:List (Addr×Obj)}{σ:St}{H:Hp}{s:Shared}{a:Addr}(ok:X.Ok) (I:Inv (X.caught a) pins σ H s):Inv X pins σ H s :=
 ⟨ok,I.os,I.bare,I.base,I.loc,I.cell,I.free,I.freeC,I.pin,I.hok,I.len⟩
theorem mt {M:Model}{A:Around}{E:Value->Shared->Prop}{nm q nm' q':Str}{C N S N':Addr}{bs bm bs' bm':List Value}{hd hd':Bool}{sn sn':List Str}{sub sub':List Value}{ab ab':Bool}{col col':Option Bool}{dd dd':Option Addr}
  {k0 k1 k2 k3 k5 l0 l1 l2 l3 l5:Option Value}{id id':String}{s:Shared}{e:Addr}{oe:Obj}{Q:Bool->Shared->Prop}
  (hC:s.heap.get? C=some (excClassObj nm q C N bs bm hd sn sub ab col dd k0 k1 k2 k3 k5 id)) (hS:s.heap.get? S=some (excClassObj nm' q' S N' bs' bm' hd' sn' sub' ab' col' dd' l0 l1 l2 l3 l5 id'))
  (he:s.heap.get? e=some oe) (hc:oe.cls=.ref C) (hb:bm'.contains (.type "BaseException")=true) (hup:(Value.ref C :: bm).contains (.ref S)=true) (k:Q true s):wpAny M A (excMatches (.ref e) (.ref S)) Q E s:=by
 obtain ⟨h,g,d,t,os⟩:=s
 have hcB:(Value.ref S :: bm').contains (.type "BaseException")=true:=by rw [List.contains_cons,hb,Bool.or_true]
 have nt:=tc_notTuple
 unfold excMatches
 repeat (first | (with_reducible refine wpAny_loadPart_at he ?_; rw [hc]) | with_reducible refine wpAny_loadPart_at hS ?_ | (with_reducible refine wpAny_isSubtype_exc hS ?_; rw [hcB]) | (with_reducible refine wpAny_isSubtype_exc hC ?_; rw [hup]) | wp_step)
 exact k
def ExcC (K:PySem.W.Frag) (C:Addr) (bm:List Value) (nid:String):Prop :=
 ∃nm qn N bs hd sn sub ab col dd k0 k1 k2 k3 k5,K.lookup C=some (excClassObj nm qn C N bs bm hd sn sub ab col dd k0 k1 k2 k3 k5 nid)
theorem ExcC.mk {K:PySem.W.Frag}{C N:Addr}{bm bs sub:List Value}{nid:String}{nm qn:Str}{hd ab:Bool}{sn:List Str}{col:Option Bool}{dd:Option Addr}{k0 k1 k2 k3 k5:Option Value}
  (h:K.lookup C=some (excClassObj nm qn C N bs bm hd sn sub ab col dd k0 k1 k2 k3 k5 nid)):ExcC K C bm nid:=⟨nm,qn,N,bs,hd,sn,sub,ab,col,dd,k0,k1,k2,k3,k5,h⟩
def At (K:PySem.W.Frag) (i j:Nat) (S:Addr) (tx:TX) (ts:Addr->TS):TS:=fun D σ H =>
 tx σ H (fun v H1=>D.nx (σ.set i (some v)) H1) fun cls d H1=>∃C bm nid,cls=.ref C/\ExcC K C bm nid/\(Value.ref C :: bm).contains (.ref S)=true /\
  ∀a,H1 a=none->ts a { nx:=fun σ' H'=>D.nx (σ'.set j none) H',rt:=D.rt,bk:=fun σ' H'=>D.bk (σ'.set j none) H',ct:=fun σ' H'=>D.ct (σ'.set j none) H' } (σ.set j (some (.ref a))) (upd H1 a (iK a cls d))
section
variable {X:Cx}
theorem qk {pins:List (Addr×Obj)}{σ:St}{H H':Hp}{s s1:Shared}{B:Heap}{a:Addr}{cls fl:Value}{d:Option Addr}{l:List Env}(I:Inv X pins σ H s) (un:Un (frs X.stack) [] H H' s.heap s1.heap) (x:Flt B l a cls d fl s1.heap)
  (b3:∀b o,s.heap.get? b=some o->b∈frs X.stack\/∃o',B.get? b=some o'):s.heap.get? a=none:=by
 cases e:s.heap.get? a with
 | none=>rfl
 | some o =>
  rcases b3 a o e with z | ⟨o',z⟩
  ·obtain ⟨_,o2,e2,r⟩:=I.stack.mem z
   rw [e] at e2
   cases e2
   obtain ⟨sl,e3⟩:=un.slot a o e (I.stkFree a z) z (by simp)
   obtain ⟨ox,ws,e4,_,_,e5⟩:=x.obj
   rw [e3] at e4
   cases e4
   exact absurd e5 (r ws)
  ·rw [x.new] at z
   cases z
end
theorem jq {prog:Program}{w:World}{A:Around}{R:Result->Shared->Prop}{s:Shared}{elt target iter:Expr}{sc:Scope}{pos:Pos}{it acc:Value}{env:Env}(J:Nat->Shared->Prop)
  (turn:∀n s,J n s->wpAny (model prog w) A (pyNext it) (fun r s1=>match r with
   | none=>R (.ok .next) s1
   | some v=>wpAny (model prog w) A (letOwnedTupleGo target it v) (fun _ s2=>wpAny (model prog w) A (assign target env v) (fun _ s3=>wpAny (model prog w) A (eval elt env) (fun x s4 =>
     wpAny (model prog w) A (call (.builtin "list.append") [acc,x]) (fun _ s5=>∃m,m<n/\J m s5) (fun _ _=>False) s4) (fun _ _=>False) s3) (fun _ _=>False) s2) (fun _ _=>False) s1) (fun _ _=>False) s)
  (n:Nat) (h:J n s):codeAny (model prog w) A (.compLoop (.ListComp elt [⟨target,iter,[],0⟩] sc pos) 0 it acc env) R s:=by
 refine codeAny_loop rfl J ?_ n h
 intro n s hJ
 show wpAny _ _ ((compTurn (.ListComp elt [⟨target,iter,[],0⟩] sc pos) 0 it acc env).onRaise (fun x=>do noteFrame x env; theTreesLotGoes x)) _ _ s
 refine wpAny_noted ?_
 rw [compTurn_list1]
 refine wpAny_bind (wpAny_standAt (wpAny_bind (wpAny_mono (turn n s hJ) ?_ fun _ _ z=>False.elim z)))
 intro r s1 h1
 cases r with
 | none=>exact wpAny_pure h1
 | some v =>
  refine wpAny_bind (wpAny_mono h1 ?_ fun _ _ z=>False.elim z)
  intro _ s2 h2
  refine wpAny_bind (wpAny_mono h2 ?_ fun _ _ z=>False.elim z)
  intro _ s3 h3
  refine wpAny_bind (wpAny_bind (wpAny_mono h3 ?_ fun _ _ z=>False.elim z))
  intro x s4 h4
  refine wpAny_bind (wpAny_mono h4 ?_ fun _ _ z=>False.elim z)
  intro _ s5 h5
  exact wpAny_pure (wpAny_pure ⟨rfl,h5⟩)
def aD (X:Cx) (sc:Scope) (N':List Str) (cl:List (Str×Addr)) (s2:Shared) (H2:Hp) (C:Addr) (ex:List Addr):Cx :=
 { X with N:=N',s₀:=s2,H₀:=H2,env:=compEnvC sc cl C X.env,outer:=X.stack,ex:=ex,fn:=fun _=>false,pn:=[],xe:=fun _ _=>False }
def Caps (X:Cx) (sc:Scope) (cl:List (Str×Addr)):List Str->List Nat->Prop
 | [],[]=>True
 | y :: ys,j :: js=>X.N[j]?=some y/\X.env.kindOf y=some .cell/\cl.lookup y=X.env.cells.lookup y/\(relabel sc X.env).names.lookup y=some .cell/\Caps X sc cl ys js
 | _,_=>False
theorem Caps.get {X:Cx}{sc:Scope}{cl:List (Str×Addr)}:∀{ys:List Str}{js:List Nat}{i:Nat}{y:Str},Caps X sc cl ys js->ys[i]?=some y ->
  ∃j,js[i]?=some j/\X.N[j]?=some y/\X.env.kindOf y=some .cell/\cl.lookup y=X.env.cells.lookup y/\(relabel sc X.env).names.lookup y=some .cell
 | [],[],i,y,_,e=>by simp at e
 | _ :: _,j :: _,0,y,h,e=>by
  simp at e
  subst e
  exact ⟨j,rfl,h.1,h.2.1,h.2.2.1,h.2.2.2.1⟩
 | _ :: _,_ :: _,i+1,y,h,e=>by
  have q:=Caps.get (i:=i) (y:=y) h.2.2.2.2 (by simpa using e)
  simpa using q
 | [],_ :: _,_,_,h,_=>False.elim h
 | _ :: _,[],_,_,h,_=>False.elim h
theorem Caps.len {X:Cx}{sc:Scope}{cl:List (Str×Addr)}:∀{ys:List Str}{js:List Nat},Caps X sc cl ys js->ys.length=js.length
 | [],[],_=>rfl
 | _ :: _,_ :: _,h=>by simp [Caps.len h.2.2.2.2]
 | [],_ :: _,h=>False.elim h
 | _ :: _,[],h=>False.elim h
def c_ (σ:St) (js:List Nat):St:=js.map fun j=>(σ[j]?).join
def dX (J:It) (cap:St) (te:TE) (Q:VK) (H1:Hp):Prop:=∀D,H1 D=none->∃W:Nat->Nat->List V->Hp->Prop,(∃m,W 0 m [] (upd H1 D (.lst [])))/\∀i m ys H2,W i m ys H2->H2 D=some (.lst ys) /\
 ((J.stop i H2/\Q (.ref D) H2)\/(J.go i H2/\∀x H3,J.yld i H2 x H3->te (some x :: cap) H3 fun y H4=>H4 D=some (.lst ys)/\ys.length<sizeLine/\∃m',m'<m/\W (i+1) m' (ys++[y]) (upd H4 D (.lst (ys++[y])))))
def fN (wi:TI) (js:List Nat) (te:TE):TE:=fun σ H Q=>wi σ H fun J H1=>dX J (c_ σ js) te Q H1
section
variable {X:Cx}{x:Str}{px pos:Pos}{elt iter:Expr}{sc:Scope}{ys:List Str}{js:List Nat}{cl:List (Str×Addr)}
theorem iG {pins:List (Addr×Obj)}{σ:St}{H:Hp}{s s4:Shared}{fp:List Addr}{C:Addr}{H4:Hp}{m:Str->Option Value}(I:Inv X pins σ H s) (hf:∀b∈fp,bJ X pins H b)
  (hkind:sc.kind=.function) (hcap:Caps X sc cl ys js) (hin:∀y c,cl.lookup y=some c->X.env.cells.lookup y=some c) (hhas:∀y,((relabel sc X.env).names.lookup y=some .cell\/(relabel sc X.env).names.lookup y=some .free)->∃c,cl.lookup y=some c)
  (hfl:∀b∈fp,b<s.heap.objs.size) (hC:s.heap.objs.size<=C) (hos:s4.os=s.os) (hb:AllBare s4.gens) (un:Un (frs X.stack) fp H H4 s.heap s4.heap) (kp:∀b o,s.heap.get? b=some o->s4.heap.get? b=some o) (hn:s4.heap.Ns C m) (hC4:H4 C=none)
  (hok:HOk X.prog X.w H4 s4.heap):Inv (aD X sc (x :: ys) cl s H C fp) [] (none :: c_ σ js) H4 s4:=by
 have frb:∀b∈fp,b ∉ frs X.stack:=fun b hb z=>by
  rcases List.mem_cons.mp (I.stkSub b z) with q | q
  ·exact (hf b hb).2.1 q
  ·exact (hf b hb).2.2.1 q
 refine ⟨⟨I.ok.mod,hkind,I.ok.glob,I.ok.blt,hC,fun y z c h1 h2=>I.ok.inj y z c (hin y c h1) (hin z c h2),hhas,(fun _ _ z=>nomatch z),I.ok.hd,I.ok.frames,.inl rfl,fun b z=>⟨?_,fun y c e=>?_⟩,I.bs,Nat.le_trans I.ok.bsz I.sz,fun b o e z=>?_,frb,I.stack,I.stkFree⟩,
  hos,hb,un,⟨m,hn,fun i y v e1 e2 e3=>?_⟩,fun y c e=>?_,hC4,fun y c e=>?_,fun p hp=>?_,hok,?_⟩
 ·exact Nat.ne_of_lt (Nat.lt_of_lt_of_le (hfl b z) hC)
 ·exact (hf b z).2.2.2.2.1 y c (hin y c e)
 ·rcases (hf b z).2.2.2.1 with q | q
  ·exact I.ok.noex b o e q
  ·exact absurd (Nat.lt_of_lt_of_le (Heap.lt_size e) (Nat.le_trans I.ok.bsz q)) (Nat.lt_irrefl _)
 ·cases i with
  | zero =>
   have z:(none:Option V)=some v:=by simpa using e2
   cases z
  | succ i =>
   have e1':ys[i]?=some y:=by simpa [aD] using e1
   have e2':(c_ σ js)[i]?=some (some v):=by simpa using e2
   obtain ⟨j,q1,q2,q3,q4,q5⟩:=hcap.get e1'
   unfold c_ at e2'
   rw [List.getElem?_map,q1] at e2'
   have e2'':(σ[j]?).join=some v:=by simpa using e2'
   have e3':σ[j]?=some (some v):=by
    cases z:σ[j]? with
    | none=>rw [z] at e2''; cases e2''
    | some o =>
     cases o with
     | none=>rw [z] at e2''; cases e2''
     | some w'=>rw [z] at e2''; cases e2''; rfl
   obtain ⟨m0,_,hl⟩:=I.loc
   obtain ⟨u,r,l⟩:=hl j y v q2 e3' (.inr (.inl q3))
   refine ⟨u,r,.inr ⟨.inl q5,?_⟩⟩
   rcases l with ⟨l1,_⟩ | ⟨_,c,l2,l3⟩
   ·rw [q3] at l1; cases l1
   ·obtain ⟨o,ho,hd⟩:=l3
    exact ⟨c,q4.trans l2,o,kp c o ho,hd⟩
 ·obtain ⟨v,o,ho,hd⟩:=I.cell y c (hin y c e)
  exact ⟨v,o,kp c o ho,hd⟩
 ·obtain ⟨v,o,ho,hd⟩:=I.cell y c (hin y c e)
  exact un.free c o ho (I.freeC y c (hin y c e)) fun z=>(hf c z).2.2.2.2.1 y c (hin y c e) rfl
 ·exact absurd (show p∈([]:List (Addr×Obj)) from hp) (by simp)
 ·show (none :: c_ σ js).length=(x :: ys).length
  unfold c_
  rw [List.length_cons,List.length_cons,List.length_map,hcap.len]
theorem vI {wi:TI}{te:TE}(hclos:closureFor sc X.env=pure cl) (hcell:∀y∈sc.names,y.2≠.cell) (hkind:sc.kind=.function) (hnames:∀y∈sc.names,y.2=.local->sc.names.lookup y.1=some .local)
  (hx:(relabel sc X.env).names.lookup x=some .local) (hcap:Caps X sc cl ys js) (hin:∀y c,cl.lookup y=some c->X.env.cells.lookup y=some c)
  (hhas:∀y,((relabel sc X.env).names.lookup y=some .cell\/(relabel sc X.env).names.lookup y=some .free)->∃c,cl.lookup y=some c) (hnd:(x :: ys).Nodup) (hc:X.calm=true)
  (hi:PI X.nox (.Name x px) iter wi) (he:∀s2 H2 C ex,PE (aD X sc (x :: ys) cl s2 H2 C ex) elt te) (hs:∀v,foldedSetIterable iter X.env v=pure v:=by intro _; rfl) :
  PE X (.ListComp elt [⟨.Name x px,iter,[],0⟩] sc pos) (fN wi js te):=by
 intro pins s σ H Q I h
 rw [eval_ListComp]
 refine wpAny_mono (E:=fun _ _=>False) (wpAny_comprehension_free (use:=none) rfl hs hclos hkind hnames (wpAny_mono (hi pins s σ H _ (I.wish _) h) ?_ fun _ _ z=>False.elim z)) (fun _ _ z=>z) fun _ _ z=>False.elim z
 intro v s1 h1
 refine wpAny_mono h1 ?_ fun _ _ z=>False.elim z
 rintro itv s2 ⟨it,fp,tn,J,H2,rfl,I2w,T,st2,f2w,q⟩
 have I2:=I2w.unwish
 have f2:∀b∈fp,bJ X pins H2 b:=f2w
 refine wpAny_newObj_type (wpAny_newFunctionEnv hcell (by intro y hy; simp at hy) (fun h4 hns hsb=>?_) hkind)
 dsimp only at hns hsb ⊢
 generalize hE:s2.heap.push { cls:=.type "list",dict:=none,data:=.seq ([]:List Value).toArray }=g3 at hns hsb ⊢
 have hsz:g3.objs.size=s2.heap.objs.size+1:=by rw [<- hE,Heap.size_push]
 have hDC:s2.heap.objs.size≠g3.objs.size:=by omega
 have old:∀b o,s2.heap.get? b=some o->h4.get? b=some o:=fun b o e=>by
  have lt:b<s2.heap.objs.size:=Heap.lt_size e
  rw [hsb.2 b (Nat.ne_of_lt (by rw [hsz]; exact Nat.lt_succ_of_lt lt))]
  exact Heap.get?_push_of_some _ (hE ▸ Heap.get?_push_of_some _ e)
 have hD0:H2 s2.heap.objs.size=none:=I2.hok.fresh (Nat.le_refl _)
 have hC0:H2 g3.objs.size=none:=I2.hok.fresh (by omega)
 have hDat:h4.get? s2.heap.objs.size=some { cls:=.type "list",data:=.seq ([]:List Value).toArray }:=by
  rw [hsb.2 _ hDC]
  exact Heap.get?_push_of_some _ (hE ▸ Heap.get?_push_size _ rfl)
 obtain ⟨W,⟨m0,w0⟩,turn⟩:=q s2.heap.objs.size hD0
 have hfl:∀b∈fp,b<s2.heap.objs.size:=fun b hb=>by
  obtain ⟨o,e,_⟩:=T.obj _ _ st2 b hb
  exact Heap.lt_size e
 have J0:Inv (aD X sc (x :: ys) cl s2 H2 g3.objs.size fp) [] (none :: c_ σ js) (upd H2 s2.heap.objs.size (.lst [])) { s2 with heap:=h4,toks:=s2.toks+([]:List (Str×Value)).length }:=by
  refine iG (m:=fun y=>([]:List (Str×Value)).reverse.lookup y) I2 f2 hkind hcap hin hhas hfl (by omega) rfl I2.bare (Un.laid old (Nat.le_refl _) hD0) old hns ?_ ?_
  ·rw [ah (Ne.symm hDC)]; exact hC0
  ·exact I2.hok.laid old (Nat.le_refl _) ⟨Nat.zero_le _,[],0,.nil,hDat⟩
 have st4:tn 0 h4:=T.keep _ _ _ st2 fun b hb o e=>old b o e
 have xcell:∀y c,(aD X sc (x :: ys) cl s2 H2 g3.objs.size fp).env.cells.lookup y=some c->X.env.cells.lookup y=some c:=hin
 have stat:∀{H':Hp},(∀b∈fp,H' b=none)->∀b∈fp,bJ (aD X sc (x :: ys) cl s2 H2 g3.objs.size fp) [] H' b:=fun hn b hb=>by
  refine ⟨hn b hb,?_,?_,.inl hb,fun y c e=>(f2 b hb).2.2.2.2.1 y c (hin y c e),fun p hp=>absurd (show p∈([]:List (Addr×Obj)) from hp) (by simp)⟩
  ·have lt:b<s2.heap.objs.size:=hfl b hb
   exact Nat.ne_of_lt (by show b<g3.objs.size; rw [hsz]; exact Nat.lt_succ_of_lt lt)
  ·intro z
   rcases List.mem_cons.mp (I2.stkSub b z) with q | q
   ·exact (f2 b hb).2.1 q
   ·exact (f2 b hb).2.2.1 q
 have fin:∀{σ':St}{H':Hp}{s':Shared},Inv (aD X sc (x :: ys) cl s2 H2 g3.objs.size fp) [] σ' H' s'->Q (.ref s2.heap.objs.size) H' ->
   compPost (model X.prog X.w) X.A (fun _ _=>False) none (EP X pins σ Q) (.ref s2.heap.objs.size) g3.objs.size (.ok .next) s':=fun {σ' H' s'} J' q'=>by
  obtain ⟨m,hm,_⟩:=J'.loc
  refine ⟨m,hm,fun h' sb=>?_⟩
  have neC:∀b o,s2.heap.get? b=some o->b≠g3.objs.size:=fun b o e=>by
   have lt:b<s2.heap.objs.size:=Heap.lt_size e
   exact Nat.ne_of_lt (by rw [hsz]; exact Nat.lt_succ_of_lt lt)
  have ub:=J'.base
  refine ⟨.ref s2.heap.objs.size,H',?_,rfl,q'⟩
  refine I2.call' (s':={ s' with heap:=h' }) (ch:=fp) J'.os ⟨fun b o e n hb hx=>(sb.2 b (neC b o e)).trans (ub.keep b o e n hb hx),fun b o e n hb hx=>?_,ub.free,fun b o e hx=>?_,ub.tups,ub.frzs,ub.tbls⟩ (fun b u e=>?_) J'.bare fun b hb=>⟨(f2 b hb).2.2.2.1,(f2 b hb).2.1,(f2 b hb).2.2.2.2.1,(f2 b hb).2.2.2.2.2⟩
  ·obtain ⟨sl,e1⟩:=ub.slot b o e n hb hx
   exact ⟨sl,(sb.2 b (neC b o e)).trans e1⟩
  ·obtain ⟨o',e1⟩:=ub.there b o e hx
   exact ⟨o',(sb.2 b (neC b o e)).trans e1⟩
  ·have hCn:H' g3.objs.size=none:=J'.free
   refine (J'.hok b u e).stay (fun c v hc z=>(sb.2 c ?_).trans z) (fun _ z=>z) fun _ _ z=>z
   rintro rfl
   rcases hc with hc | hc
   ·rw [<- hc,hCn] at e; cases e
   ·rw [hCn] at hc; cases hc
 have loop:∀s4:Shared,s4={ s2 with heap:=h4,toks:=s2.toks+([]:List (Str×Value)).length } ->
   codeAny (model X.prog X.w) X.A (.compLoop (.ListComp elt [⟨.Name x px,iter,[],0⟩] sc pos) 0 (.ref it) (.ref s2.heap.objs.size) (compEnvC sc cl g3.objs.size X.env))
    (compPost (model X.prog X.w) X.A (fun _ _=>False) none (EP X pins σ Q) (.ref s2.heap.objs.size) g3.objs.size) s4:=by
  rintro s4 rfl
  refine jq (fun n s'=>∃i xo ys' H',Inv (aD X sc (x :: ys) cl s2 H2 g3.objs.size fp) [] (xo :: c_ σ js) H' s'/\tn i s'.heap/\(∀b∈fp,H' b=none)/\W i n ys' H') ?_ m0 ⟨0,none,[],_,J0,st4,fun b hb=>?_,w0⟩
  ·rintro n s' ⟨i,xo,ys',H',J',st',fr',w'⟩
   obtain ⟨hD,alt⟩:=turn i n ys' H' w'
   rcases alt with ⟨stop,qn⟩ | ⟨go,step⟩
   ·refine wpAny_mono (T.done (aD X sc (x :: ys) cl s2 H2 g3.objs.size fp) rfl rfl rfl hc i [] s' _ H' (fun _ _=>False) J' (stat fr') st' stop) ?_ fun _ _ z=>z
    rintro r s'' ⟨rfl,J''⟩
    exact fin J'' qn
   ·refine wpAny_mono (T.item (aD X sc (x :: ys) cl s2 H2 g3.objs.size fp) rfl rfl rfl hc i [] s' _ H' (fun _ _=>False) J' (stat fr') st' go) ?_ fun _ _ z=>z
    rintro r s'' ⟨u,rfl,hu⟩
    refine wpAny_mono hu ?_ fun _ _ z=>z
    rintro _ s5 ⟨xv,H5,J5,r5,y5,st5,fr5⟩
    have J5':=J5.pinned (stat fr5) (T.obj _ _ st5)
    refine wpAny_assign_Name (de (X:=aD X sc (x :: ys) cl s2 H2 g3.objs.size fp) (i:=0) J5' hnd rfl (.inl hx) r5 (fun s6 J6=>?_) (.inr hx))
    refine wpAny_mono (he s2 H2 g3.objs.size fp _ s6 _ H5 _ J6 (step xv H5 y5)) ?_ fun _ _ z=>z
    rintro yv s7 ⟨yy,H7,J7,r7,hD7,hlen,m',hm',w7⟩
    refine wpAny_mono (eQ (X:=aD X sc (x :: ys) cl s2 H2 g3.objs.size fp) _ s7 _ H7 (.ref s2.heap.objs.size) [yy] (.ref s2.heap.objs.size) [yv] (fun _ H8=>H8=upd H7 s2.heap.objs.size (.lst (ys'++[yy]))) J7 rfl (.cons r7 .nil) ⟨_,ys',yy,rfl,rfl,hD7,hlen,rfl⟩) ?_ fun _ _ z=>z
    rintro _ s8 ⟨_,H8,J8,_,rfl⟩
    have pinned:∀b∈fp,∀o,s5.heap.get? b=some o->s8.heap.get? b=some o/\(upd H7 s2.heap.objs.size (.lst (ys'++[yy]))) b=none:=fun b hb o e=>by
     obtain ⟨q1,q2,_⟩:=J8.pin (b,o) (List.mem_append_right _ (List.mem_append_right _ (cH hb e)))
     exact ⟨q1,q2⟩
    refine ⟨m',hm',i+1,some xv,ys'++[yy],_,J8.unpinned,T.keep _ _ _ st5 fun b hb o e=>(pinned b hb o e).1,fun b hb=>?_,w7⟩
    obtain ⟨o,e,_⟩:=T.obj _ _ st5 b hb
    exact (pinned b hb o e).2
  ·rw [ah (Nat.ne_of_lt (hfl b hb))]
   exact (f2 b hb).1
 exact codeAny_compStart_list (loop _ rfl) (T.self _ _ _ _ _ st4 (loop _ rfl))
end
section
variable {X:Cx}
def BN:V->Option Int->Option Int->Hp->VK->Prop:=fun x lo hi H Q=>∃z,x=.str z/\z.length<=sizeLine/\Q (.str (Txt.slice z lo hi)) H
def AG:V->List V->Hp->VK->Prop:=fun x vs H Q=>∃z k,x=.str z/\vs=[.int k]/\PadOk k=true/\Q (.str (Txt.zfill z k)) H
def Its (x:Str):It:=⟨fun i _=>i<x.cps.size,fun i H v H'=>H'=H/\∃c,x.cps[i]?=some c/\v=.str ⟨#[c]⟩,fun i _=>x.cps.size<=i⟩
def BS (tl:TE):TI:=fun σ H R=>tl σ H fun v H1=>∃x,v=.str x/\R (Its x) H1
end
mutual
inductive Den (K:PySem.W.Frag) (H:Hp):V->PyData->Prop
 | non:Den K H .non .none
 | bl (b:Bool):Den K H (.bl b) (.bool b)
 | int (i:Int):Den K H (.int i) (.int i)
 | str (x:Str):Den K H (.str x) (.str x)
 | lst {a:Addr}{xs:List V}{ds:List PyData}:SqL K H a xs->DenAll K H xs ds->Den K H (.ref a) (.list ds)
 | tup {a:Addr}{xs:List V}{ds:List PyData}:SqT K H a xs->DenAll K H xs ds->Den K H (.ref a) (.tuple ds)
inductive DenAll (K:PySem.W.Frag) (H:Hp):List V->List PyData->Prop
 | nil:DenAll K H [] []
 | cons {x:V}{xs:List V}{d:PyData}{ds:List PyData}:Den K H x d->DenAll K H xs ds->DenAll K H (x :: xs) (d :: ds)
end
section
variable {X:Cx}{pins:List (Addr×Obj)}{σ:St}{H:Hp}{s:Shared}
mutual
theorem Den.reads (I:Inv X pins σ H s):∀{v:V}{d:PyData}{u:Value},Den X.K H v d->RelV v u->∃as,Reads s.heap u d as
 | _,_,_,.non,r=>by cases r; exact ⟨_,.none⟩
 | _,_,_,.bl b,r=>by cases r; exact ⟨_,.bool b⟩
 | _,_,_,.int i,r=>by obtain ⟨t,rfl⟩:=r; exact ⟨_,.int i t⟩
 | _,_,_,.str x,r=>by obtain ⟨t,rfl⟩:=r; exact ⟨_,.str x t⟩
 | _,_,_,.lst hS ha,r=>by
  cases r
  obtain ⟨its,rv,⟨o,n,e,c,_,d⟩,_⟩:=I.list hS
  obtain ⟨as,ra⟩:=DenAll.reads I ha rv
  exact ⟨_,.list e c d (by simpa using ra)⟩
 | _,_,_,.tup hS ha,r=>by
  cases r
  obtain ⟨its,rv,⟨o,e,c,n,d⟩,_⟩:=I.tuple hS
  obtain ⟨as,ra⟩:=DenAll.reads I ha rv
  exact ⟨_,.tuple e c d (by simpa using ra)⟩
theorem DenAll.reads (I:Inv X pins σ H s):∀{vs:List V}{ds:List PyData}{us:List Value},DenAll X.K H vs ds->Vals vs us->∃as,ReadsAll s.heap us ds as
 | _,_,_,.nil,r=>by cases r; exact ⟨_,.nil⟩
 | _,_,_,.cons h t,r=>by
  cases r with
  | cons r1 r2 =>
   obtain ⟨as,ra⟩:=Den.reads I h r1
   obtain ⟨bs,rb⟩:=DenAll.reads I t r2
   exact ⟨_,.cons ra rb⟩
end
end
section
variable {X:Cx}
def AO (K:PySem.W.Frag):R2:=fun x y H Q=>∃da db,Den K H x da/\Den K H y db/\da.canLay0=true/\db.canLay0=true/\min da.depth db.depth<=60/\Q (.bl (PyData.eqv da db)) H
def AM (K:PySem.W.Frag):R2:=fun x y H Q=>∃da db,Den K H x da/\Den K H y db/\da.canLay0=true/\db.canLay0=true/\min da.depth db.depth<=60/\Q (.bl (!PyData.eqv da db)) H
theorem io {k:Nat}(hr:Room k X.A):OpR X (compareOp .Eq) (AO X.K):=by
 intro pins s σ H x y v u Q I rx ry h
 obtain ⟨da,db,ha,hb,ca,cb,hd,q⟩:=h
 obtain ⟨as,ra⟩:=ha.reads I rx
 obtain ⟨bs,rb⟩:=hb.reads I ry
 have hu:=hr.units
 exact PySem.SeqAt.compareEq_reads ra rb ca cb (by omega) ⟨.bl _,H,I,rfl,q⟩
theorem j6 {k:Nat}(hr:Room k X.A):OpR X (compareOp .NotEq) (AM X.K):=by
 intro pins s σ H x y v u Q I rx ry h
 obtain ⟨da,db,ha,hb,ca,cb,hd,q⟩:=h
 obtain ⟨as,ra⟩:=ha.reads I rx
 obtain ⟨bs,rb⟩:=hb.reads I ry
 have hu:=hr.units
 exact PySem.SeqAt.compareNe_reads ra rb ca cb (by omega) ⟨.bl _,H,I,rfl,q⟩
def gC:V->Value
 | .ref a=>.ref a
 | .ty n=>.type n
 | _=>.none
theorem gK:bN X (.builtin "isinstance") (fun xs H Q=>∃x c t b,xs=[x,c]/\TyOf X.K H x t/\(c=.ref (match c with | .ref a=>a | _=>0)\/∃n,c=.ty n)/\PySem.W.kitOne X.K t (gC c)=some b/\Q (.bl b) H):=by
 intro pins s σ H xs us Q I r h
 obtain ⟨x,c,t,b,rfl,ty,hc,hk,q⟩:=h
 obtain ⟨u,w',rfl,rx,rc⟩:=i9 r
 have e:w'=gC c:=by
  cases c with
  | ref a=>exact rc
  | ty n=>exact rc
  | _=>rcases hc with z | ⟨n,z⟩ <;> cases z
 subst e
 exact qf I rx ty hk fun tk=>⟨.bl b,H,I.tok _,rfl,q⟩
end
end L2
namespace L2
open PySem PySem.W
section
variable {prog:Program}{w:World}{A:Around}{E:Value->Shared->Prop}{K:Frag}{x C:Addr}{ox:Obj}{od:Option Obj}{name:Str}
def dl (prog:Program) (w:World) (A:Around) (x C:Addr) (Q:Value->Shared->Prop) (s:Shared):Builtin.ObjectAttr.Found->Prop
 | .value v=>handedIn v=true/\Q v s
 | .bind g a=>wpAny (model prog w) A (call g [a,.ref x,.ref C]) (fun v s'=>handedIn v=true/\Q v s') (fun _ _=>False) s
 | .missing=>False
theorem qr {s:Shared}{tk:Tok}{r:Builtin.ObjectAttr.Found}{Q:Value->Shared->Prop}(X:K.In s.heap) (I:InstAt s.heap x ox C od) (hf:findObj K C od name=some r) (h:dl prog w A x C Q s r) :
  wpAny (model prog w) A (Builtin.«object.__getattribute__» ⟨[.ref x,.str name tk],[]⟩) (fun fin s'=>match fin with | .done (.ret v)=>handedIn v=true/\Q v s' | _=>False) (fun _ _=>False) s:=by
 obtain ⟨hh,g,d,t,os⟩:=s
 have L0:=I.type (M:=model prog w)
 have L1:=looks_find (M:=model prog w) X I hf
 unfold Builtin.«object.__getattribute__»
 refine wpAny_bind (wpAny_pure ?_)
 dsimp only
 refine wpAny_bind (wpAny_pure ?_)
 refine wpAny_bind (L0.at ?_)
 refine wpAny_bind (L1.at ?_)
 cases r with
 | value v=>exact wpAny_pure h
 | bind g a =>
  dsimp only
  unfold Builtin.ObjectAttr.bindTo
  exact wpAny_bind (wpAny_holding (wpAny_mono h (fun v s' q=>wpAny_pure q) fun _ _ z=>z))
 | missing=>exact False.elim h
theorem uj {s:Shared}{tk:Tok}{r:Builtin.ObjectAttr.Found}{Q:Value->Shared->Prop}(X:K.In s.heap) (I:InstAt s.heap x ox C od) (hm:mroIn K C (.type "BaseException")=some true) (hf:findObj K C od name=some r)
  (h:dl prog w A.in1 x C Q s r) :
  wpAny (model prog w) A (call (.builtin "BaseException.__getattribute__") [.ref x,.str name tk]) (fun v s'=>handedIn v=true/\Q v s') (fun _ _=>False) s:=by
 have hk:builtinKind "BaseException.__getattribute__"=some .slot:=by decide +kernel
 have hsplit:splitId "BaseException.__getattribute__"=some ("BaseException", "__getattribute__"):=by decide +kernel
 have ha:=PySem.F.args_bexc_ga (.ref x) (.str name tk)
 have L0:=I.type (M:=model prog w)
 have L1:=looks_mroIn (M:=model prog w) X hm
 refine wpAny_call (codeAny_call_builtin PySem.F.attr_ValueError.ga.plain PySem.F.entry_bexc_ga ?_)
 simp only [checkBuiltinCall,hk,hsplit]
 refine wpAny_bind ?_
 unfold isInstance
 refine wpAny_bind (L0.here (L1.here ?_))
 rw [if_neg (by decide)]
 unfold argsOk at ha
 have go:=wpAny_mono (qr (tk:=tk) X I hf h) (Q':=fun fin s'=>match fin with
  | .done f=>(match (Except.ok f:Result) with | .ok (.ret v)=>handedIn v=true/\Q v s' | .ok _=>False | .error _=>False)
  | .again c'=>c'.quiet=true/\codeAny (model prog w) A c' (fun r s'=>match r with | .ok (.ret v)=>handedIn v=true/\Q v s' | .ok _=>False | .error _=>False) s') (fun fin s' z=>by
   rcases fin with (_ | _ | _ | _) | _ <;> first | exact z | exact False.elim z) fun _ _ z=>z
 cases hs:Manifest.signature? "BaseException.__getattribute__" with
 | none=>exact wpAny_pure go
 | some sg =>
  rw [hs] at ha
  dsimp only at ha ⊢
  rw [ha]
  exact wpAny_pure go
theorem uk {s:Shared}{tk:Tok}{fill expr:Bool}{r:Builtin.ObjectAttr.Found}{Q:Value->Shared->Prop}(X:K.In s.heap) (I:InstAt s.heap x ox C od) (hm:mroIn K C (.type "BaseException")=some true) (hf:findObj K C od name=some r)
  (hga:findIn K (.ref C) "__getattribute__"=some (some (.builtin "BaseException.__getattribute__"))) (hgn:findIn K (.ref C) "__getattr__"=some none) (h:dl prog w A.in1 x C Q s r) :
  wpAny (model prog w) A (getAttrBy (.ref x) (.str name tk) fill expr) Q E s:=by
 have L0:=I.type (M:=model prog w)
 have L1:=looks_findIn (M:=model prog w) X hga
 have L2:=looks_findIn (M:=model prog w) X hgn
 have hx2:(Value.builtin "BaseException.__getattribute__" == Value.builtin "object.__getattribute__")=false:=by decide +kernel
 unfold getAttrBy
 refine wpAny_holding (wpAny_bind (L0.here (wpAny_bind (L1.here ?_))))
 dsimp only
 rw [hx2,Bool.and_false,if_neg (by decide)]
 unfold getAttrByItsOwn hookBefore
 rw [if_pos (show onTheHeap (Value.ref C)=true from rfl)]
 refine wpAny_bind (L2.here (wpAny_bind (wpAny_attempt (wpAny_holding ?_))))
 unfold callGetattribute
 rw [show (expr&&onTheHeap (Value.builtin "BaseException.__getattribute__"))=false by cases expr <;> rfl,if_neg (by decide)]
 unfold boundAndCalled
 rw [PySem.F.attr_ValueError.ga.bind (.ref x)]
 refine wpAny_bind (wpAny_pure (wpAny_mono (uj X I hm hf h) ?_ fun _ _ z=>False.elim z))
 rintro v s' ⟨hv,q⟩
 exact handed_on hv q
theorem um {s:Shared}{expr:Bool}{r:Builtin.ObjectAttr.Found}{Q:Value->Shared->Prop}(X:K.In s.heap) (I:InstAt s.heap x ox C od) (hm:mroIn K C (.type "BaseException")=some true) (hf:findObj K C od name=some r)
  (hga:findIn K (.ref C) "__getattribute__"=some (some (.builtin "BaseException.__getattribute__"))) (hgn:findIn K (.ref C) "__getattr__"=some none) (h:dl prog w A.in1 x C Q { s with toks:=s.toks+1 } r) :
  wpAny (model prog w) A (getAttr (.ref x) name expr) Q E s:=by
 unfold getAttr
 exact wpAny_bind (wpAny_mkText (uk (s:={ s with toks:=s.toks+1 }) X I hm hf hga hgn h))
theorem qu {s:Shared}{r:Builtin.ObjectAttr.Found}{Q:Option Value->Shared->Prop}(X:K.In s.heap) (I:InstAt s.heap x ox C od) (hm:mroIn K C (.type "BaseException")=some true) (hf:findObj K C od name=some r)
  (hga:findIn K (.ref C) "__getattribute__"=some (some (.builtin "BaseException.__getattribute__"))) (hgn:findIn K (.ref C) "__getattr__"=some none) (h:dl prog w A.in1 x C (fun v s'=>Q (some v) s') { s with toks:=s.toks+1 } r) :
  wpAny (model prog w) A (getAttr? (.ref x) name) Q E s:=by
 unfold getAttr? getAttrBy?
 refine wpAny_bind (wpAny_mkText (wpAny_bind (wpAny_attempt (wpAny_mono (uk (E:=fun _ _=>False) (s:={ s with toks:=s.toks+1 }) X I hm hf hga hgn h) ?_ fun _ _ z=>False.elim z))))
 intro v s' q
 exact wpAny_pure q
theorem qt {s:Shared}{Q:Option Value->Shared->Prop}(X:K.In s.heap) (I:InstAt s.heap x ox C od) (hm:mroIn K C (.type "BaseException")=some true) (hmo:mroIn K C (.type "object")=some true)
  (hga:findIn K (.ref C) "__getattribute__"=some (some (.builtin "BaseException.__getattribute__"))) (hgn:findIn K (.ref C) "__getattr__"=some none) (hdct:(clsIn K C).isSome=true)
  (ha:findIn K (.ref C) "__class__"=some (some (.builtin "object.__class__"))) (hn:specialIn K (.builtin "object.__class__") "__get__"=some (some (.builtin "getset_descriptor.__get__"))) (htk:takesIn K (.builtin "object.__class__")=some true)
  (q:Q (some (.ref C)) { s with toks:=s.toks+1 }):wpAny (model prog w) A (getAttr? (.ref x) "__class__") Q E s:=by
 have hf:findObj K C od "__class__"=some (.bind (.builtin "getset_descriptor.__get__") (.builtin "object.__class__")):=by
  obtain ⟨cd,hcd⟩:=Option.isSome_iff_exists.mp hdct
  unfold findObj
  rw [hcd,Option.bind_some,ha,Option.bind_some]
  simp [hn,htk]
 exact qu X I hm hf hga hgn (wpAny_call (class_get (s:={ s with toks:=s.toks+1 }) X I hmo ⟨rfl,q⟩))
end
end L2
namespace L2
open PySem PySem.Spec PyProof.Rows
structure iW (K:PySem.W.Frag) (C:Addr):Prop where
 hm:PySem.W.mroIn K C (.type "BaseException")=some true
 hmo:PySem.W.mroIn K C (.type "object")=some true
 hga:PySem.W.findIn K (.ref C) "__getattribute__"=some (some (.builtin "BaseException.__getattribute__"))
 hgn:PySem.W.findIn K (.ref C) "__getattr__"=some none
 hc:(PySem.W.clsIn K C).isSome=true
 ha:PySem.W.findIn K (.ref C) "__class__"=some (some (.builtin "object.__class__"))
 hn:PySem.W.specialIn K (.builtin "object.__class__") "__get__"=some (some (.builtin "getset_descriptor.__get__"))
 ht:PySem.W.takesIn K (.builtin "object.__class__")=some true
theorem tP {K:PySem.W.Frag}{x C:Addr}(k:iW K C):PySem.W.KitX K (.ref x) (.ref C) (fun h=>∃ox od,PySem.W.InstAt h x ox C od) where
 ty:=fun _ _ _ ⟨_,_,I⟩=>I.type
 it:=fun _ _ X _=>by
  obtain ⟨cd,hcd⟩:=Option.isSome_iff_exists.mp k.hc
  unfold PySem.W.clsIn at hcd
  split at hcd
  ·rename_i c2 d2 cd2 sl2 ho
   intro A Q E s kp q
   unfold isType loadHead
   exact wpAny_bind (wpAny_loadPart (kp _ _ (X _ _ ho)) (wpAny_pure q))
  ·cases hcd
 ne:=fun h tp dd its n sl X htp=>by
  obtain ⟨cd,hcd⟩:=Option.isSome_iff_exists.mp k.hc
  refine Bool.eq_false_iff.mpr fun q=>?_
  have e:C=tp:=Value.ref.inj (beq_iff_eq.mp q)
  subst e
  unfold PySem.W.clsIn at hcd
  split at hcd
  ·rename_i c2 d2 cd2 sl2 ho
   have z:=(X _ _ ho).symm.trans htp
   cases z
  ·cases hcd
 ca:=fun X ⟨_,_,I⟩ q=>qt X I k.hm k.hmo k.hga k.hgn k.hc k.ha k.hn k.ht q
section
variable {X:Cx}
end
theorem Same.new {H:Hp}{p:Addr}(h:H p=none) (o:HO):Same H (upd H p o):=fun b u q=>by rw [ah (ap q h)]; exact q
theorem Same.seqT {K:PySem.W.Frag}{H H':Hp}{a:Addr}{xs:List V}(e:Same H H') (h:SqT K H a xs):SqT K H' a xs:=by
 rcases h with (h | ⟨o,h⟩) | h
 ·exact .inl (.inl (e _ _ h))
 ·exact .inl (.inr ⟨o,e _ _ h⟩)
 ·exact .inr h
theorem qB {J:It}{xs ys:List V}{H:Hp}{cap:St}{te:TE}{Q:VK}(hn:xs.length<=sizeLine) (hl:ys.length=xs.length)
  (go:∀i H',Same H H'->i<xs.length->J.go i H') (yld:∀i H' x H'',Same H H'->i<xs.length->J.yld i H' x H''->H''=H'/\xs[i]?=some x) (stop:∀H',Same H H'->J.stop xs.length H')
  (el:∀(i:Nat) x y H' (P:VK),Same H H'->xs[i]?=some x->ys[i]?=some y->(∀H'',Same H' H''->P y H'')->te (some x :: cap) H' P) (fin:∀D H',Same H H'->H' D=some (.lst ys)->Q (.ref D) H') :
  dX J cap te Q H:=by
 intro D hD
 refine ⟨fun i m zs H2=>m=xs.length-i/\i<=xs.length/\zs=ys.take i/\H2 D=some (.lst zs)/\Same H H2,⟨xs.length,rfl,Nat.zero_le _,by simp,ac,Same.new hD _⟩,?_⟩
 rintro i m zs H2 ⟨rfl,hi,hz,hDz,hS⟩
 refine ⟨hDz,?_⟩
 by_cases h:i<xs.length
 ·refine .inr ⟨go i H2 hS h,?_⟩
  intro x H3 hy
  obtain ⟨rfl,hx⟩:=yld i H2 x H3 hS h hy
  obtain ⟨yv,hyi⟩:∃yv,ys[i]?=some yv:=⟨ys[i]'(by omega),List.getElem?_eq_getElem (by omega)⟩
  have hzl:zs.length=i:=by rw [hz,List.length_take]; omega
  refine el i x yv H3 _ hS hx hyi fun H4 hS4=>⟨hS4 _ _ hDz,by omega,xs.length-(i+1),by omega,rfl,h,?_,ac,fun b u q=>?_⟩
  ·rw [hz,List.take_add_one,hyi]
   rfl
  ·rw [ah (ap q hD)]
   exact hS4 _ _ (hS _ _ q)
 ·have e:i=xs.length:=by omega
  subst e
  refine .inl ⟨stop H2 hS,fin D H2 hS ?_⟩
  rw [hDz,hz,List.take_of_length_le (by omega)]
theorem mP {lo:Int}{n:Nat}{H:Hp}{cap:St}{te:TE}{Q:VK}(f:Nat->V) (hn:n<=sizeLine)
  (el:∀(i:Nat) H' (P:VK),i<n->Same H H'->(∀H'',Same H' H''->P (f i) H'')->te (some (.int (lo+i)) :: cap) H' P) (fin:∀D H',Same H H'->H' D=some (.lst ((List.range n).map f))->Q (.ref D) H') :
  dX (Itr lo n) cap te Q H:=by
 have hlen:((List.range n).map fun (i:Nat)=>V.int (lo+i)).length=n:=by rw [List.length_map,List.length_range]
 refine qB (xs:=(List.range n).map fun (i:Nat)=>V.int (lo+i)) (ys:=(List.range n).map f) (by rw [hlen]; exact hn) (by rw [List.length_map,List.length_map]) ?_ ?_ ?_ ?_ fin
 ·intro i H' _ h
  rw [hlen] at h
  exact h
 ·rintro i H' y H'' _ h ⟨rfl,rfl⟩
  refine ⟨rfl,?_⟩
  rw [hlen] at h
  rw [List.getElem?_map,List.getElem?_range h]
  rfl
 ·intro H' _
  rw [hlen]
  exact Nat.le_refl _
 ·intro i y z H' P hS h1 h2 hP
  rw [List.getElem?_map] at h1 h2
  cases hc:(List.range n)[i]? with
  | none=>rw [hc] at h1; cases h1
  | some c =>
   obtain ⟨h3,h4⟩:=List.getElem?_eq_some_iff.mp hc
   rw [hc] at h1 h2
   rw [List.getElem_range] at h4
   subst h4
   cases h1
   cases h2
   rw [List.length_range] at h3
   exact el i H' P h3 hS hP
def ClIn (env:Env):List (Str×Addr)->Prop
 | []=>True
 | p :: r=>env.cells.lookup p.1=some p.2/\ClIn env r
theorem ClIn.mem {env:Env}:∀{cl:List (Str×Addr)}{p:Str×Addr},ClIn env cl->p∈cl->env.cells.lookup p.1=some p.2
 | [],_,_,h=>by cases h
 | q :: r,p,k,h=>by
  rcases List.mem_cons.mp h with z | z
  ·subst z; exact k.1
  ·exact ClIn.mem k.2 z
theorem r_ {X:Cx}{x:Str}{px pos:Pos}{elt iter:Expr}{sc:Scope}{wi:TI}{te:TE}(ys:List Str) (js:List Nat) (cl:List (Str×Addr)) (hclos:closureFor sc X.env=pure cl) (hcap:Caps X sc cl ys js) (hin:ClIn X.env cl)
  (hi:PI X.nox (.Name x px) iter wi) (he:∀s2 H2 C ex,PE (aD X sc (x :: ys) cl s2 H2 C ex) elt te) (hc:X.calm=true:=by rfl)
  (hcell:(sc.names.all fun p=>p.2 != NameKind.cell)=true:=by rfl) (hkind:sc.kind=.function:=by rfl) (hnames:(sc.names.all fun p=>p.2 != NameKind.local||sc.names.lookup p.1 == some NameKind.local)=true:=by rfl)
  (hx:(relabel sc X.env).names.lookup x=some .local:=by rfl) (hhas:((relabel sc X.env).names.all fun p=>p.2 == NameKind.local||p.2 == NameKind.globalImplicit||(cl.lookup p.1).isSome)=true:=by rfl)
  (hnd:(x :: ys).Nodup:=by decide +kernel) (hs:∀v,foldedSetIterable iter X.env v=pure v:=by intro _; rfl):PE X (.ListComp elt [⟨.Name x px,iter,[],0⟩] sc pos) (fN wi js te):=by
 refine vI hclos (fun y hy z=>?_) hkind (fun y hy z=>?_) hx hcap (fun y c e=>hin.mem (PySem.mem_of_lookup e)) (fun y h=>?_) hnd hc hi he hs
 ·have:=List.all_eq_true.mp hcell y hy
  rw [z] at this
  exact absurd this (by decide)
 ·have:=List.all_eq_true.mp hnames y hy
  rw [z] at this
  simpa using this
 ·have hm:∃k,(y,k)∈(relabel sc X.env).names/\(k=.cell\/k=.free):=by
   rcases h with h | h
   ·exact ⟨_,PySem.mem_of_lookup h,.inl rfl⟩
   ·exact ⟨_,PySem.mem_of_lookup h,.inr rfl⟩
  obtain ⟨k,hk,hz⟩:=hm
  have:=List.all_eq_true.mp hhas _ hk
  rcases hz with rfl | rfl
  ·exact Option.isSome_iff_exists.mp (by simpa using this)
  ·exact Option.isSome_iff_exists.mp (by simpa using this)
def Def (P:Program) (w:World) (K:PySem.W.Frag) (mg:Str->Option Value) (base:Heap) (CX:CXT) (x:Str) (k:Nat) (ps:List Str) (sp:Sp):Prop :=
 ∃f fd,aG P w K mg base CX k f fd ps sp/\Binds K fd ps []/\PySem.W.keepIn K (.ref f)=true/\mg x=some (.ref f)
section
variable {X:Cx}{CX:CXT}{j k:Nat}{ps:List Str}{sp:Sp}{E:XK}{x:Str}{p pos:Pos}{e:Expr}{es:List Expr}{t:TA}
theorem so (D:Def X.prog X.w X.K X.mg X.base CX x j ps sp) (hr:Room k X.A) (hx:bC CX X E) (ha:PA X (e :: es) t) (hj:j<=k:=by decide) (hg:Gl X x:=by rfl)
  (hdb:(x == ("__debug__":Str))=false:=by decide) (he:starEach (e :: es) X.env=(false,eval e X.env) :: starEach es X.env:=by rfl) (hpl:(backTo pos (starEach es X.env)).any (·.1)=false:=by rfl) :
  PE X (.Call (.Name x p) (e :: es) [] pos) (nr sp [] E t):=by
 obtain ⟨f,fd,F,b,kk,m⟩:=D
 exact vK F (hr.mono hj) hg m kk b .nil hx ha hdb he hpl
theorem pO (D:Def X.prog X.w X.K X.mg X.base (CX1 X.prog X.w) x j ps sp) (hr:Room k X.A) (ha:PA X.nox (e :: es) t) (hj:j<=k:=by decide) (hg:Gl X x:=by rfl)
  (hdb:(x == ("__debug__":Str))=false:=by decide) (he:starEach (e :: es) X.env=(false,eval e X.env) :: starEach es X.env:=by rfl) (hpl:(backTo pos (starEach es X.env)).any (·.1)=false:=by rfl) :
  PEX X (.Call (.Name x p) (e :: es) [] pos) (jz sp [] t):=by
 obtain ⟨f,fd,F,b,kk,m⟩:=D
 exact rV F (hr.mono hj) hg m kk b .nil ha hdb he hpl
theorem kM:bC (CX1 X.prog X.w) X E0:=fun _ _ _ _ _ _ _ h=>by
 obtain ⟨a,cls,d,B,H',_,_,_,_,_,_,_,_,_,_,q⟩:=h
 exact q.elim
def zD (t:TS):TS:=fun D σ H=>∃P:St->Hp->Prop,t { D with nx:=P } σ H/\∀ σ' H',P σ' H'->D.nx σ' H'
theorem yd {st:Stmt}{t:TS}(h:PS X st t):PS X st (zD t):=by
 rintro pins s σ H D I ⟨P,hp,hq⟩
 refine thn (h pins s σ H _ I hp) fun f s' q=>?_
 cases f with
 | next =>
  obtain ⟨σ',H',I',q⟩:=q
  exact ⟨σ',H',I',hq _ _ q⟩
 | brk=>exact q
 | cont=>exact q
 | ret v=>exact q
def Bd (t:TE):TE:=fun σ H Q=>∃P:VK,t σ H P/\∀v H',P v H'->Q v H'
end
def aC (K:PySem.W.Frag) (x:Str) (st:Stmt):Prop:=∃f fd,PySem.W.nsIn K mainGlobals x=some (some (.ref f))/\Fun K x x st f fd
theorem funIn_mk {K:PySem.W.Frag}{x:Str}{st:Stmt}{f:Addr}{oc:Value}{od an:Option Addr}{osl:Array (Option Value)}{kV doc pm cdv ct:Value}(a:PySem.W.nsIn K mainGlobals x=some (some (.ref f)))
  (l:K.lookup f=some ⟨oc,od,.func (PySem.W.fnOf x x (bS st) (bq st) (ak st) .none kV doc pm an cdv ct),osl⟩) (c:PySem.W.codeIn K cdv x=true) (k:PySem.W.keepIn K (.ref f)=true):aC K x st :=
 ⟨f,_,a,mH l c k⟩
theorem Def.of {P:Program}{w:World}{K:PySem.W.Frag}{mg:Str->Option Value}{base h:Heap}{CX:CXT}{x:Str}{k:Nat}{ps:List Str}{sp:Sp}{st:Stmt}(X:K.In h) (G:h.Ns mainGlobals mg) (FI:aC K x st)
  (ok:∀f fd,Fun K x x st f fd->aG P w K mg base CX k f fd ps sp)
  (hb:∀(kV doc pm:Value) (an:Option Addr) (cdv ct:Value) (us:List Value),us.length=ps.length->bindArgs (PySem.W.fnOf x x (bS st) (bq st) (ak st) .none kV doc pm an cdv ct) ⟨us,[]⟩=pure (ps.zip us)) :
  Def P w K mg base CX x k ps sp:=by
 obtain ⟨f,fd,a,F⟩:=FI
 exact ⟨f,fd,ok f fd F,F.binds hb,F.kp,PySem.W.mg_of X G a⟩
end L2
namespace L2
open PySem PySem.W Builtin Builtin.ObjectAttr
def cG:List Value->Bool
 | .ref _ :: r=>cG r
 | l=>l == [.type "ValueError",.type "Exception",.type "BaseException",.type "object"]
theorem fF:cG []=false:=by decide
theorem fW {v:Value}{r:List Value}(h:∀c,v≠.ref c) (e:cG (v :: r)=true):v :: r=[.type "ValueError",.type "Exception",.type "BaseException",.type "object"]:=by
 have z:cG (v :: r)=(v :: r == [.type "ValueError",.type "Exception",.type "BaseException",.type "object"]):=by
  cases v <;> first | rfl | exact absurd rfl (h _)
 rw [z] at e
 exact beq_iff_eq.mp e
theorem jd (self:Value):∀{l:List Value},cG l=true->refuseLoop self "__setattr__" l=pure ()
 | [],e=>by rw [fF] at e; cases e
 | v :: r,e=>by
  by_cases h:∃c,v=.ref c
  ·obtain ⟨c,rfl⟩:=h
   rw [refuseLoop_ref]
   exact jd self (l:=r) e
  ·rw [fW (fun c z=>h ⟨c,z⟩) e]
   exact PySem.F.store_ValueError.passes self
theorem tY:∀{l:List Value},cG l=true->l.contains (.type "object")=true
 | [],e=>by rw [fF] at e; cases e
 | v :: r,e=>by
  by_cases h:∃c,v=.ref c
  ·obtain ⟨c,rfl⟩:=h
   rw [List.contains_cons,tY (l:=r) e,Bool.or_true]
  ·rw [fW (fun c z=>h ⟨c,z⟩) e]
   decide
section
variable {prog:Program}{w:World}{A:Around}{E:Value->Shared->Prop}{K:Frag}{x C:Addr}{ox:Obj}{od:Option Obj}{name:Str}{s:Shared}{cd:ClassData}{v:Value}{R:Result->Shared->Prop}
theorem nV {tk:Tok}(X:K.In s.heap) (I:InstAt s.heap x ox C od) (hc:clsIn K C=some cd) (ho:cG cd.mro=true) (ht:takerIn K C name=some none)
  (h:∀b,wpAny (model prog w) A.in1 (storeInOwnDict (.ref x) (.ref C) (.str name tk) name v b)
   (fun fin s'=>match fin with | .done f=>R (.ok f) s' | .again c'=>c'.quiet=true/\codeAny (model prog w) A c' R s') (fun e s'=>R (.error e) s') s) :
  codeAny (model prog w) A (.call (.builtin "object.__setattr__") ⟨[.ref x,.str name tk,v],[]⟩) R s:=by
 have SF:=PySem.F.store_object
 have ne:cd.mro.isEmpty=false:=by cases q:cd.mro with | nil=>rw [q,fF] at ho; cases ho | cons _ _=>rfl
 have sub:Looks (model prog w) s.heap (isInstance (.ref x) (.type "object")) true:=I.type.andThen (looks_mroIn X (by unfold mroIn; rw [hc,Option.bind_some,if_neg (by rw [ne]; decide),tY ho]))
 refine codeAny_call_builtin SF.slot.plain SF.entry (@check_slot (model prog w) _ _ s "object.__setattr__" "object" "__setattr__" (.ref x) [.str name tk,v] [] _ SF.kind SF.split sub (SF.args (.ref x) (.str name tk) v) ?_)
 obtain ⟨attr,ha,hr⟩:=Option.bind_eq_some_iff.mp ht
 have hm:Looks (model prog w) s.heap (mroOf (.ref C)) cd.mro:=(looks_clsIn X hc).andThen .now
 have L3:Looks (model prog w) s.heap (storeTaker? attr) none:=by
  cases attr with
  | none=>exact .now
  | some a =>
   obtain ⟨b,hb,e⟩:=Option.map_eq_some_iff.mp hr
   refine (looks_takesIn X hb).andThen ?_
   cases b with
   | true=>cases e
   | false=>exact .now
 rw [osa_eq,refuse_eq]
 refine wpAny_bind (wpAny_bind (I.type.here (wpAny_bind (hm.here ?_))))
 rw [jd _ ho]
 refine wpAny_pure (wpAny_bind (I.type.here (wpAny_bind ((looks_findIn X ha).here (wpAny_bind (L3.here ?_))))))
 exact h _
theorem lz {ws:Array Value}{Q:Unit->Shared->Prop}(X:K.In s.heap) (I:InstAt s.heap x ox C od) (hc:clsIn K C=some cd) (ho:cG cd.mro=true) (ht:takerIn K C name=some none)
  (hs:findIn K (.ref C) "__setattr__"=some (some (.builtin "object.__setattr__"))) (hdd:cd.hasDict=true) (hn:ox.dict=none) (hf:ox.data=.fields ws)
  (h:∀h',h'.get? x=some { ox with dict:=some s.heap.objs.size }->h'.Ns1 s.heap.objs.size (fun y=>if y=name then some v else none) ->
   (∀b o,b≠x->s.heap.get? b=some o->h'.get? b=some o)->Q () { s with heap:=h',toks:=s.toks+2 }) :
  wpAny (model prog w) A (setAttr (.ref x) name v) Q E s:=by
 refine PySem.W.set_plain X I hs (nV (s:={ s with toks:=s.toks+1 }) X I hc ho ht fun b=>?_)
 obtain ⟨hx,hcl,_,_⟩:=I
 have hxs:x≠s.heap.objs.size:=Nat.ne_of_lt (Heap.lt_size hx)
 unfold storeInOwnDict ownStreamTells
 refine wpAny_bind (wpAny_pure ?_)
 rw [if_neg (by intro z; cases (beq_iff_eq.mp z))]
 refine wpAny_bind ?_
 unfold ownDictForStores instanceDict
 refine wpAny_bind (wpAny_loadPart hx ?_)
 rw [hcl]
 dsimp only
 refine wpAny_bind (Looks.here (s:={ s with toks:=s.toks+1 }) (looks_clsIn X hc) ?_)
 rw [hdd,hn,hf]
 dsimp only
 rw [if_neg (by decide),if_neg (show ¬ ((!true||!typeHasDict (Value.ref C))=true) by simp [typeHasDict])]
 have hx1:(s.heap.push { cls:=.type "dict",data:=.dict #[] }).get? x=some ox:=Heap.get?_push_of_some _ hx
 refine wpAny_bind (wpAny_alloc' ?_)
 refine wpAny_bind (wpAny_update' hx1 ?_)
 refine wpAny_pure ?_
 have hgd:((s.heap.push { cls:=.type "dict",data:=.dict #[] }).update x fun o=>{ cls:=o.cls,dict:=some s.heap.objs.size,data:=o.data,slots:=o.slots }).get? s.heap.objs.size=some { cls:=.type "dict",data:=.dict #[] } :=
  (Heap.get?_update_ne _ _ _ _ hxs.symm).trans (Heap.get?_push_at rfl rfl)
 have hnd:((s.heap.push { cls:=.type "dict",data:=.dict #[] }).update x fun o=>{ cls:=o.cls,dict:=some s.heap.objs.size,data:=o.data,slots:=o.slots }).Ns s.heap.objs.size (fun _=>none) :=
  ⟨_,#[],_,hgd,rfl,fun e he=>absurd he (by simp),fun _=>rfl⟩
 show wpAny _ _ (storeInDict s.heap.objs.size (.str name _) name v) _ _ _
 unfold storeInDict newKeyGuard
 refine wpAny_bind (wpAny_pure (wpAny_bind (wpAny_nsSet1 (Heap.Ns1.of_empty hnd) fun h' hn' hs'=>?_)))
 obtain ⟨oD,esD,epD,hoD,hdD,hcD⟩:=hn'.count (Within.cons name v Within.nil)
 refine wpAny_bind (wpAny_lookBehind hoD (by rw [hdD]; exact pastItsLine_dict (Nat.le_trans hcD (by rw [List.length_cons,List.length_nil,sizeLine_eq]; omega))) ?_)
 refine wpAny_pure (h h' ?_ hn' fun b ob hbx hb=>?_)
 ·refine (hs'.2 x hxs).trans (Heap.get?_update_self _ hx1 ?_)
  exact Obj.isFreed_of_fields (o:={ ox with dict:=some s.heap.objs.size }) (by exact hf)
 ·exact (hs'.2 b (Nat.ne_of_lt (Heap.lt_size hb))).trans ((Heap.get?_update_ne _ _ _ _ hbx).trans (Heap.get?_push_of_some _ hb))
theorem ly {dx:Addr}{mA:Str->Option Value}{ns:List Str}{Q:Unit->Shared->Prop}(X:K.In s.heap) (I:InstAt s.heap x ox C od) (hc:clsIn K C=some cd) (ho:cG cd.mro=true) (ht:takerIn K C name=some none)
  (hs:findIn K (.ref C) "__setattr__"=some (some (.builtin "object.__setattr__"))) (hdd:cd.hasDict=true) (hn:ox.dict=some dx) (hm:s.heap.Ns1 dx mA) (hw:PySem.Within mA ns) (hsz:ns.length<=1000)
  (h:∀h',h'.Ns1 dx (fun y=>if y=name then some v else mA y)->Heap.SameBut dx s.heap h'->Q () { s with heap:=h',toks:=s.toks+2 }) :
  wpAny (model prog w) A (setAttr (.ref x) name v) Q E s:=by
 refine PySem.W.set_plain X I hs (nV (s:={ s with toks:=s.toks+1 }) X I hc ho ht fun b=>?_)
 obtain ⟨hx,hcl,_,_⟩:=I
 unfold storeInOwnDict ownStreamTells
 refine wpAny_bind (wpAny_pure ?_)
 rw [if_neg (by intro z; cases (beq_iff_eq.mp z))]
 refine wpAny_bind ?_
 unfold ownDictForStores instanceDict
 refine wpAny_bind (wpAny_loadPart hx ?_)
 rw [hcl]
 dsimp only
 refine wpAny_bind (Looks.here (s:={ s with toks:=s.toks+1 }) (looks_clsIn X hc) ?_)
 rw [hdd,hn]
 dsimp only
 rw [if_neg (by decide)]
 refine wpAny_pure ?_
 show wpAny _ _ (storeInDict dx (.str name _) name v) _ _ _
 unfold storeInDict newKeyGuard
 refine wpAny_bind (wpAny_pure (wpAny_bind (wpAny_nsSet1 hm fun h' hn' hs'=>?_)))
 obtain ⟨oD,esD,epD,hoD,hdD,hcD⟩:=hn'.count (Within.cons name v hw)
 refine wpAny_bind (wpAny_lookBehind hoD (by rw [hdD]; exact pastItsLine_dict (Nat.le_trans hcD (by rw [List.length_cons,sizeLine_eq]; omega))) ?_)
 exact wpAny_pure (h h' hn' hs')
end
end L2
namespace L2
open PySem PySem.W
section
variable {prog:Program}{w:World}{A:Around}{E:Value->Shared->Prop}{h:Heap}{g:Array GenState}{d:Drawn}{t:Nat}{os:OsState}
variable {nm q:Str}{C N fI:Addr}{bs bm bmB:List Value}{hdct:Bool}{sn:List Str}{sub:List Value}{ab:Bool}{col:Option Bool}{dd:Option Addr}{k0 k1 k2 k3 k5:Option Value}{B Bn newId nid initId inN:String}{bmN:List Value}{K:Frag}
abbrev yX (C t:Addr):Obj:={ cls:=.ref C,data:=.fields #[.ref t,.none,.none,.none,.bool false,.none] }
abbrev dQ (C t:Addr) (dO:Option Addr):Obj:={ cls:=.ref C,dict:=dO,data:=.fields #[.ref t,.none,.none,.none,.bool false,.none] }
abbrev dS (h:Heap) (C:Addr) (rest:List Value):Heap:=(h.push { cls:=.type "tuple",data:=.seq rest.toArray }).push (yX C h.objs.size)
theorem g6 (Fn:ExcBaseFacts Bn newId inN bmN) (hBn:bmB.contains (.type Bn)=true) (F:ExcBaseFacts B nid initId bmB) (T:OwnTail h bmB bm) {rest:List Value}{Q:Fin->Shared->Prop}(X:K.In h)
  (hC:h.get? C=some (excClassObj nm q C N bs bm hdct sn sub ab col dd k0 k1 k2 k3 k5 newId)) (hi:findIn K (.ref C) "__init__"=some (some (.ref fI))) (hf:typeIn K (.ref fI)=some (.type "function"))
  (hq:wpAny (model prog w) A (call (.ref fI) (.ref (h.objs.size+1) :: rest)) (fun v s'=>v=.none/\Q (.done (.ret (.ref (h.objs.size+1)))) s') E ⟨dS h C rest,g,d,t,os⟩) (hrest:rest.length<=sizeLine) :
  wpAny (model prog w) A (Builtin.«type.__call__» ⟨.ref C :: rest,[]⟩) Q E ⟨h,g,d,t,os⟩:=by
 repeat (first | with_reducible refine wpAny_loadPart_at hC ?_ | with_reducible refine wpAny_madeBy_exc hC ?_ | wp_step)
 refine codeAny_call_builtin_code (Code.quiet_builtin _ Fn.quiet) (wpAny_check_new_subU Fn hBn T hC ?_)
 refine codeAny_exc_new_subU Fn hBn F T hC ?_ hrest
 show wpAny _ _ _ _ _ _
 have hC₁:=Heap.get?_push_of_some { cls:=.ref C,data:=.fields #[.ref h.objs.size,.none,.none,.none,.bool false,.none] }
  (Heap.get?_push_of_some { cls:=.type "tuple",data:=.seq rest.toArray } hC)
 have hget:((h.push { cls:=.type "tuple",data:=.seq rest.toArray }).push
   { cls:=.ref C,data:=.fields #[.ref h.objs.size,.none,.none,.none,.bool false,.none] }).get? (h.objs.size+1)=some
   { cls:=.ref C,data:=.fields #[.ref h.objs.size,.none,.none,.none,.bool false,.none] }:=by heap_get
 have hcC:(Value.ref C :: bm).contains (.ref C)=true:=by simp
 have X₁:K.In (dS h C rest):=X.keeps fun b o e=>Heap.get?_push_of_some _ (Heap.get?_push_of_some _ e)
 unfold isInstance
 repeat (first | with_reducible refine wpAny_loadPart_at hget ?_ | (with_reducible refine wpAny_isSubtype_exc hC₁ ?_; rw [hcC]) | wp_step)
 show wpAny _ _ (typeLookup (.ref C) _) _ _ _
 refine (looks_findIn X₁ hi).at ?_
 refine wpAny_holding (wpAny_bind ((bind_fn X₁ _ hf).at ?_))
 refine wpAny_bind (wpAny_mono hq ?_ fun _ _ z=>z)
 rintro v s' ⟨rfl,z⟩
 wp_walk
 exact z
theorem qE (Fn:ExcBaseFacts Bn newId inN bmN) (hBn:bmB.contains (.type Bn)=true) (F:ExcBaseFacts B nid initId bmB) (T:OwnTail h bmB bm) {rest:List Value}{Q:Value->Shared->Prop}(X:K.In h)
  (hC:h.get? C=some (excClassObj nm q C N bs bm hdct sn sub ab col dd k0 k1 k2 k3 k5 newId)) (hi:findIn K (.ref C) "__init__"=some (some (.ref fI))) (hf:typeIn K (.ref fI)=some (.type "function"))
  (hq:wpAny (model prog w) (A.under (.builtin "type.__call__" ⟨.ref C :: rest,[]⟩)) (call (.ref fI) (.ref (h.objs.size+1) :: rest)) (fun v s'=>v=.none/\Q (.ref (h.objs.size+1)) s') E ⟨dS h C rest,g,d,t,os⟩) (hrest:rest.length<=sizeLine) :
  wpAny (model prog w) A (call (.ref C) rest) Q E ⟨h,g,d,t,os⟩:=by
 have f1:=tc_lookup
 have f2:=tc_bind (.ref C)
 have hT:(⟨h,g,d,t,os⟩:Shared).TypeIs (.ref C) "type":=⟨_,hC,rfl⟩
 refine wpAny_call (codeAny_of_tree ?_)
 show wpAny _ _ (callAny (.ref C) _) _ _ _
 repeat (any_goals (first | assumption | with_reducible refine wpAny_loadPart_at hC ?_ | wp_step))
 refine ⟨rfl,?_⟩
 refine codeAny_call_builtin_at (Code.quiet_builtin _ (by decide +kernel)) entry_typeCall (wpAny_check_type_call_sub hC (g6 Fn hBn F T X hC hi hf ?_ hrest))
 exact hq
end
section
variable {prog:Program}{w:World}{A:Around}{E:Value->Shared->Prop}{s:Shared}{env:Env}
variable {nm q:Str}{C N fI:Addr}{bs bm bmB:List Value}{hdct:Bool}{sn:List Str}{sub:List Value}{ab:Bool}{col:Option Bool}{dd:Option Addr}{k0 k1 k2 k3 k5:Option Value}{B Bn newId nid initId inN:String}{bmN:List Value}{K:Frag}
theorem e8 {M:Model}{x:Sem Value}{Q:Flow->Shared->Prop}(hbase:bm.contains (.type "BaseException")=true) (hh:A.handled=none)
  (h:wpAny M A x (fun v s₁=>∃e t dO,v=.ref e/\s₁.heap.get? C=some (excClassObj nm q C N bs bm hdct sn sub ab col dd k0 k1 k2 k3 k5 newId)/\s₁.heap.get? e=some (dQ C t dO)/\E (.ref e) s₁) E s) :
  wpAny M A (raiseStmt env (some x) none) Q E s:=by
 have hcB:(Value.ref C :: bm).contains (.type "BaseException")=true:=by rw [List.contains_cons,hbase,Bool.or_true]
 unfold raiseStmt
 refine wpAny_bind (wpAny_mono h (fun v s₁ h₁=>?_) fun _ _ x=>x)
 obtain ⟨e,t,dO,rfl,hC,he,hE⟩:=h₁
 obtain ⟨hp,g,d,tk,os⟩:=s₁
 repeat (first | with_reducible refine wpAny_loadPart_at he ?_ | with_reducible refine wpAny_loadPart_at hC ?_ | (with_reducible refine wpAny_isSubtype_exc hC ?_; rw [hcB]) | wp_step)
 exact wpAny_raiseNew_none hh hE
theorem mW (Fn:ExcBaseFacts Bn newId inN bmN) (hBn:bmB.contains (.type Bn)=true) (F:ExcBaseFacts B nid initId bmB) {x:Str}{np cpos pos:Pos}{args:List Expr}{Q:Flow->Shared->Prop}
  (hbase:bm.contains (.type "BaseException")=true) (hh:A.handled=none) (hplain:(backTo cpos (starEach args env)).any (·.1)=false) (hi:findIn K (.ref C) "__init__"=some (some (.ref fI))) (hf:typeIn K (.ref fI)=some (.type "function"))
  (h:wpAny (model prog w) A (eval (.Name x np) env) (fun f s₁=>f=.ref C/\wpAny (model prog w) A (evalArgs (.ref C) true (backTo cpos (starEach args env)) [])
   (fun a s₂=>a.kw=[]/\a.pos.length<=sizeLine/\s₂.heap.get? C=some (excClassObj nm q C N bs bm hdct sn sub ab col dd k0 k1 k2 k3 k5 newId)/\K.In s₂.heap/\OwnTail s₂.heap bmB bm /\
    wpAny (model prog w) (A.under (.builtin "type.__call__" ⟨.ref C :: a.pos,[]⟩)) (call (.ref fI) (.ref (s₂.heap.objs.size+1) :: a.pos)) (fun v s'=>v=.none/\s'.heap.get? C=some (excClassObj nm q C N bs bm hdct sn sub ab col dd k0 k1 k2 k3 k5 newId) /\
     (∃t dO,s'.heap.get? (s₂.heap.objs.size+1)=some (dQ C t dO))/\E (.ref (s₂.heap.objs.size+1)) s') E { s₂ with heap:=dS s₂.heap C a.pos }) E s₁) E s) :
  wpAny (model prog w) A (exec (.Raise (some (.Call (.Name x np) args [] cpos)) none pos) env) Q E s:=by
 rw [arm_exec_Raise]
 first
  | refine wpAny_bind (wpAny_standAt (e8 (C:=C) (nm:=nm) (q:=q) (N:=N) (bs:=bs) (bm:=bm) (hdct:=hdct) (sn:=sn) (sub:=sub) (ab:=ab) (col:=col) (dd:=dd) (k0:=k0) (k1:=k1) (k2:=k2) (k3:=k3) (k5:=k5) (newId:=newId) hbase hh (wpAny_bind (wpAny_mono (wpAny_Call_ofName (wpAny_mono h (fun f s₁ h₁=>?_) fun _ _ x=>x)) (fun v s₃ h₃=>wpAny_bind (wpAny_standAt (wpAny_pure h₃))) fun _ _ x=>x))))
  | (simp only [evalOpt,Option.map]; refine wpAny_bind (wpAny_standAt (e8 (C:=C) (nm:=nm) (q:=q) (N:=N) (bs:=bs) (bm:=bm) (hdct:=hdct) (sn:=sn) (sub:=sub) (ab:=ab) (col:=col) (dd:=dd) (k0:=k0) (k1:=k1) (k2:=k2) (k3:=k3) (k5:=k5) (newId:=newId) hbase hh (wpAny_bind (wpAny_mono (wpAny_Call_ofName (wpAny_mono h (fun f s₁ h₁=>?_) fun _ _ x=>x)) (fun v s₃ h₃=>wpAny_bind (wpAny_standAt (wpAny_pure h₃))) fun _ _ x=>x)))))
 obtain ⟨rfl,h₁⟩:=h₁
 unfold callWith
 refine wpAny_bind (wpAny_holding (wpAny_mono h₁ (fun a s₂ h₂=>wpAny_bind (wpAny_standAt ?_)) fun _ _ x=>x))
 obtain ⟨apos,akw⟩:=a
 obtain ⟨hkw,hlen,hC,X,T,h₂⟩:=h₂
 obtain rfl:akw=[]:=hkw
 obtain ⟨hp,g,d,tk,os⟩:=s₂
 simp only [hplain]
 refine wpAny_bind (wpAny_keeperOf_exc hC ?_)
 refine wpAny_bind (qE Fn hBn F T X hC hi hf (wpAny_mono h₂ ?_ fun _ _ z=>z) hlen)
 rintro v s' ⟨rfl,hC',⟨t,dO,he⟩,hE⟩
 exact ⟨rfl,wpAny_bind (wpAny_holding (wpAny_point (wpAny_pure ⟨_,t,dO,rfl,hC',he,hE⟩)))⟩
end
end L2
namespace L2
open PySem PySem.Spec PyProof.Rows
def d7 (a C:Addr) (d:Option Addr):HO:=.ext fun h=>∃t,h.get? a=some (dQ C t d)
def xdO (a:Addr) (fs:List (Str×V)):HO:=.ext fun h=>∃mA,h.Ns1 a mA/\∀f,RelO (fs.lookup f) (mA f)
section
variable {P:Program}{w:World}{H:Hp}{h:Heap}{a C:Addr}{d:Option Addr}{fs:List (Str×V)}
theorem n5 (x:∃t,h.get? a=some (dQ C t d)):ObjOk P w H h a (d7 a C d):=by
 obtain ⟨t,e⟩:=x
 refine ⟨⟨t,e⟩,⟨_,e⟩,?_⟩
 rintro h1 h2 ⟨t,f⟩ k
 exact ⟨t,k _ f⟩
theorem fX (x:ObjOk P w H h a (d7 a C d)):∃t,h.get? a=some (dQ C t d):=x.1
theorem qH (x:∃mA,h.Ns1 a mA/\∀f,RelO (fs.lookup f) (mA f)):ObjOk P w H h a (xdO a fs):=by
 obtain ⟨mA,n,r⟩:=x
 refine ⟨⟨mA,n,r⟩,?_,?_⟩
 ·obtain ⟨o,_,_,e,_⟩:=n
  exact ⟨o,e⟩
 ·rintro h1 h2 ⟨mA,n,r⟩ k
  obtain ⟨o,es,ep,e,q⟩:=n
  exact ⟨mA,⟨o,es,ep,k _ e,q⟩,r⟩
theorem jx (x:ObjOk P w H h a (xdO a fs)):∃mA,h.Ns1 a mA/\∀f,RelO (fs.lookup f) (mA f):=x.1
theorem o_ {mA:Str->Option Value}(r:∀f,RelO (fs.lookup f) (mA f)):PySem.Within mA (fs.map (·.1)):=by
 intro g hg
 cases q:fs.lookup g with
 | none =>
  have z:=r g
  rw [q] at z
  exact absurd z.none_of hg
 | some v =>
  exact List.mem_map.mpr ⟨(g,v),PySem.mem_of_lookup q,rfl⟩
end
structure mV (K:PySem.W.Frag) (C:Addr):Prop where
 cd:∃cd,PySem.W.clsIn K C=some cd/\cG cd.mro=true/\cd.hasDict=true
 sa:PySem.W.findIn K (.ref C) "__setattr__"=some (some (.builtin "object.__setattr__"))
def XNo (K:PySem.W.Frag) (C:Addr) (f:Str):Prop:=PySem.W.findIn K (.ref C) f=some none
theorem XNo.taker {K:PySem.W.Frag}{C:Addr}{f:Str}(n:XNo K C f):PySem.W.takerIn K C f=some none:=by
 unfold PySem.W.takerIn
 rw [n]
 rfl
theorem bY {h:Heap}{o v:Obj}{b:Addr}(z:(h.push o).get? b=some v) (hb:b≠h.objs.size):h.get? b=some v:=by
 rw [<- z]
 exact (Heap.get?_push_ne h b o hb).symm
def sX (K:PySem.W.Frag) (ta tv:TE) (f:Str):TS:=fun D σ H=>tv σ H fun y H1=>ta σ H1 fun x H2=>∃a C,x=.ref a/\mV K C/\XNo K C f /\
 ((H2 a=some (d7 a C none)/\∀dx,H2 dx=none->dx≠a->D.nx σ (upd (upd H2 dx (xdO dx [(f,y)])) a (d7 a C (some dx)))) \/
  (∃dx fs,H2 a=some (d7 a C (some dx))/\H2 dx=some (xdO dx fs)/\fs.length<1000/\D.nx σ (upd H2 dx (xdO dx (kL f y fs)))))
section
variable {X:Cx}{o value:Expr}{f:Str}{pos pos':Pos}{ta tv:TE}
theorem vk (ha:PE X o ta) (hv:PE X value tv) (hs:swapsWith value (some (.Attribute o f pos')) pos.line X.env=pure false:=by rfl):PS X (.Assign [.Attribute o f pos'] value pos) (sX X.K ta tv f):=by
 intro pins s σ H D I h
 refine plainObj_wpAny_Assign_Attribute (thn (hv pins s σ H _ I h) fun u s1 ⟨y,H1,I1,ry,q⟩=>thn (ha pins s1 σ H1 _ I1 q) fun ov s2 ⟨x,H2,I2,rx,a,C,ex,c,n,q2⟩=>?_) hs
 subst ex
 obtain rfl:ov=Value.ref a:=rx
 obtain ⟨cd,c1,c2,c3⟩:=c.cd
 rcases q2 with ⟨ea,q2⟩ | ⟨dx,fs,ea,ed,hl,q2⟩
 ·obtain ⟨t,et⟩:=fX (I2.hok a _ ea)
  have hI:PySem.W.InstAt s2.heap a (dQ C t none) C none:=⟨et,rfl,rfl,trivial⟩
  refine lz I2.kIn hI c1 c2 n.taker c.sa c3 rfl rfl fun h' g1 g2 g3=>?_
  have nd:H2 s2.heap.objs.size=none:=I2.hok.fresh (Nat.le_refl _)
  have na:s2.heap.objs.size≠a:=Ne.symm (Nat.ne_of_lt (Heap.lt_size et))
  obtain ⟨od,es,ep,e1,e2⟩:=id g2
  have hfr:od.isFreed=false:=(Heap.get?_some_iff.mp e1).2
  have p1:(s2.heap.push od).get? s2.heap.objs.size=some od:=Heap.get?_push_size _ hfr
  have J1:=I2.laid (a:=s2.heap.objs.size) (o:=xdO s2.heap.objs.size [(f,y)]) (h':=s2.heap.push od) (t':=s2.toks) (fun b v z=>Heap.get?_push_of_some _ z) (Nat.le_refl _) (qH ⟨_,⟨od,es,ep,p1,e2⟩,fun g=>by
   by_cases z:g=f
   ·subst z
    simp only [List.lookup,beq_self_eq_true,if_pos]
    exact ry
   ·have z':(g == f)=false:=beq_eq_false_iff_ne.mpr z
    simp only [List.lookup,z',if_neg z]
    trivial⟩)
  refine ⟨σ,_,J1.write (x:=a) (e:=a) (o:=d7 a C (some s2.heap.objs.size)) (h':=h') (t':=s2.toks+2) ?_ (.inl rfl) ?_ ⟨_,g1⟩ (n5 ⟨t,g1⟩),q2 _ nd na⟩
  ·rw [ah (Ne.symm na),ea]
   exact True.intro
  ·intro b v hb z
   by_cases hd:b=s2.heap.objs.size
   ·subst hd
    rw [p1] at z
    cases z
    exact e1
   ·refine g3 b v hb ?_
    exact bY z hd
 ·obtain ⟨t,et⟩:=fX (I2.hok a _ ea)
  obtain ⟨mA,hm,r⟩:=jx (I2.hok dx _ ed)
  obtain ⟨od,es,ep,e1,e2⟩:=id hm
  have hI:PySem.W.InstAt s2.heap a (dQ C t (some dx)) C (some od):=⟨et,rfl,rfl,e1⟩
  refine ly I2.kIn hI c1 c2 n.taker c.sa c3 rfl hm (o_ r) (by rw [List.length_map]; omega) fun h' g1 g2=>?_
  refine ⟨σ,_,I2.write (x:=dx) (e:=dx) (o:=xdO dx (kL f y fs)) (h':=h') (t':=s2.toks+2) (by rw [ed]; exact True.intro) (.inl rfl) (fun b v hb z=>(g2.2 b hb).trans z) (let ⟨o,_,_,e',_⟩:=g1; ⟨o,e'⟩) (qH ⟨_,g1,fun g=>?_⟩),q2⟩
  rw [gF]
  by_cases z:g=f
  ·rw [if_pos z,if_pos z]; exact ry
  ·rw [if_neg z,if_neg z]; exact r g
end
def del (H:Hp) (a:Addr):Hp:=fun b=>if b=a then none else H b
theorem iQ {H:Hp}{a:Addr}:del H a a=none:=if_pos rfl
theorem cZ {H:Hp}{a b:Addr}(h:b≠a):del H a b=H b:=if_neg h
theorem lJ {H:Hp}{a b:Addr}{u:HO}(h:del H a b=some u):b≠a/\H b=some u:=by
 by_cases e:b=a
 ·subst e; rw [iQ] at h; cases h
 ·rw [cZ e] at h; exact ⟨e,h⟩
theorem uu {H:Hp}{a b:Addr}(h:H b=none):del H a b=none:=by
 by_cases e:b=a
 ·subst e; exact iQ
 ·rw [cZ e]; exact h
theorem Same.del {H H':Hp}{a:Addr}(e:Same H H') (n:H a=none):Same H (del H' a):=fun b o q=>by
 rw [cZ (ap q n)]
 exact e b o q
section
variable {X:Cx}{pins:List (Addr×Obj)}{σ:St}{H H':Hp}{s s1:Shared}{B h':Heap}{a C:Addr}{d:Option Addr}
theorem xy {fs:List Addr}{φ:Heap->Prop}(e:H a=some (.ext φ)):Un fs [] H (del H a) s.heap s.heap where
 keep:=fun b o q _ _ _=>q
 slot:=fun b o q _ _ _=>⟨o.slots,q⟩
 free:=fun b o q n _=>uu n
 there:=fun b o q _=>⟨o,q⟩
 tups:=fun b xs q=>by rw [cZ (by intro z; subst z; rw [e] at q; cases q)]; exact q
 frzs:=fun b o u q=>by rw [cZ (by intro z; subst z; rw [e] at q; cases q)]; exact q
 tbls:=fun b ps q=>⟨#[],by rw [cZ (by intro z; subst z; rw [e] at q; cases q)]; simpa using q⟩
theorem wj {φ:Heap->Prop}{P:Program}{w:World}{h:Heap}(ok:HOk P w H h) (e:H a=some (.ext φ)):HOk P w (del H a) h:=fun b u q=>by
 obtain ⟨hb,q⟩:=lJ q
 refine (ok b u q).stay (fun _ _ _ z=>z) (fun c z=>?_) fun c xs z=>?_
 ·rw [cZ (by intro y; subst y; rw [e] at z; cases z)]; exact z
 ·rw [cZ (by intro y; subst y; rw [e] at z; cases z)]; exact z
theorem Inv.flown2 (I:Inv X pins σ H s) (os:s1.os=s.os) (bare:AllBare s1.gens) (un:Un (frs X.stack) [] H H' s.heap s1.heap) (hok:HOk X.prog X.w H' s1.heap) (bs:B.StaysIn s1.heap)
  (b1:∀b o,s.heap.get? b=some o->b ∉ frs X.stack->H b=none->B.get? b=some o) (b2:∀b u,H' b=some u->∃o,B.get? b=some o)
  (b3:∀b o,s.heap.get? b=some o->b∈frs X.stack\/(∃o',B.get? b=some o')\/∃o',h'.get? b=some o') (st:B.StaysIn h') (up:s1.heap.UpToSlots h'):Inv X pins σ H' { s1 with heap:=h' }:=by
 have nf:∀b∈frs X.stack,∀o,s.heap.get? b=some o->∀vs,o.data≠.fields vs:=fun b hb o e=>by
  obtain ⟨_,o',e',r⟩:=I.stack.mem hb
  rw [e] at e'
  cases e'
  exact r
 have sl:∀b o,s.heap.get? b=some o->b∈frs X.stack->∃sl,h'.get? b=some { o with slots:=sl }:=fun b o e hb=>by
  obtain ⟨s2,e2⟩:=un.slot b o e (I.stkFree b hb) hb (by simp)
  obtain ⟨s3,e3⟩:=up b _ e2 (nf b hb o e)
  exact ⟨s3,e3⟩
 refine I.call' (s':={ s1 with heap:=h' }) os ⟨fun b o e n hb _=>st b o (b1 b o e hb n),fun b o e n hb _=>sl b o e hb,un.free,fun b o e hx=>?_,un.tups,un.frzs,un.tbls⟩ (fun b u e=>?_) bare fun b z=>nomatch z
 ·rcases b3 b o e with z | ⟨o',z⟩ | z
  ·obtain ⟨_,q⟩:=sl b o e z
   exact ⟨_,q⟩
  ·exact ⟨o',st b o' z⟩
  ·exact z
 ·refine (hok b u e).stay (fun c v hc q=>?_) (fun _ q=>q) fun _ _ q=>q
  have ht:∃u',H' c=some u':=by
   rcases hc with rfl | hc
   ·exact ⟨u,e⟩
   ·exact ⟨_,hc⟩
  obtain ⟨u',hu⟩:=ht
  obtain ⟨o,ho⟩:=b2 c u' hu
  have q':=bs c o ho
  rw [q] at q'
  cases q'
  exact st c v ho
end
section
variable {P:Program}{w:World}{K:PySem.W.Frag}{mg:Str->Option Value}{base:Heap}{N:List Str}{qual:Str}{scope:Scope}{f:Addr}{cd:Value}{A:Around}{outer:List Env}{s₀:Shared}{H₀:Hp}{E:XK}
theorem mB {pins:List (Addr×Obj)}{σ:St}{H:Hp}{s:Shared}{a C:Addr}{d:Option Addr}(I:Inv (bb (CX1 P w) P w K mg base N qual scope f cd A outer s₀ H₀ E) pins σ H s)
  (hd:H a=some (d7 a C d)) (n0:s₀.heap.get? a=none) (q:E (.ref C) d (del H a)):(bb (CX1 P w) P w K mg base N qual scope f cd A outer s₀ H₀ E).xe (.ref a) s:=by
 have hfr:(envOfC qual scope s₀.heap.objs.size f cd).frame=some s₀.heap.objs.size:=rfl
 have hstk:s.heap.FunFrames base (envOfC qual scope s₀.heap.objs.size f cd :: outer):=I.stack
 obtain ⟨t,et⟩:=fX (I.hok a _ hd)
 have nfr:a ∉ frs (envOfC qual scope s₀.heap.objs.size f cd :: outer):=fun z=>by
  have:=I.stkFree a z
  rw [hd] at this
  cases this
 have hin:∀env∈(envOfC qual scope s₀.heap.objs.size f cd :: outer),∀b,env.frame=some b->b∈a :: frs (envOfC qual scope s₀.heap.objs.size f cd :: outer):=fun env he b hb=>.tail _ (List.mem_filterMap.mpr ⟨env,he,hb⟩)
 have hB:=PySem.W.funFrames_hide hstk hin
 have hBa:(PySem.W.hideAll s.heap (a :: frs (envOfC qual scope s₀.heap.objs.size f cd :: outer))).get? a=none:=PySem.W.hideAll_none _ (.head _)
 generalize hBB:PySem.W.hideAll s.heap (a :: frs (envOfC qual scope s₀.heap.objs.size f cd :: outer))=B at hB hBa
 have inB:∀b o,s.heap.get? b=some o->b≠a->b ∉ frs (envOfC qual scope s₀.heap.objs.size f cd :: outer)->B.get? b=some o:=fun b o e n1 n=>by
  rw [<- hBB]
  refine PySem.W.hideAll_get _ e fun z=>?_
  rcases List.mem_cons.mp z with z | z
  ·exact n1 z
  ·exact n z
 have ofB:∀b o,B.get? b=some o->s.heap.get? b=some o:=fun b o e=>by rw [<- hBB] at e; exact PySem.W.of_hideAll _ e
 show wpAny _ _ (leaving _ (.ref a)) _ _ _
 refine gG (B:=B) (outer:=outer) (s:=s) I.ok.frames hB hfr et (fun b o e=>ofB b o e) hBa rfl rfl fun h' x y=>?_
 have b2:∀b u,del H a b=some u->∃o,B.get? b=some o:=fun b u e=>by
  obtain ⟨hb,e⟩:=lJ e
  obtain ⟨o,eo⟩:=(I.hok b u e).ex
  refine ⟨o,inB b o eo hb fun z=>?_⟩
  have:=I.stkFree b z
  rw [this] at e
  cases e
 have J:=I.flown2 (s1:=s) (H':=del H a) rfl I.bare (xy hd) (wj I.hok hd) (fun b o e=>ofB b o e) (fun b o e hb n=>inB b o e (by intro z; subst z; rw [hd] at n; cases n) hb) b2 (fun b o e=>by
  by_cases hb:b∈frs (envOfC qual scope s₀.heap.objs.size f cd :: outer)
  ·exact .inl hb
  ·by_cases hba:b=a
   ·subst hba
    obtain ⟨ox,ws,e1,_⟩:=x.obj
    exact .inr (.inr ⟨ox,e1⟩)
   ·exact .inr (.inl ⟨o,inB b o e hba hb⟩)) x.stays y
 have nL:∀b o,s₀.heap.get? b=some o->b ∉ frs outer->b ∉ frs (envOfC qual scope s₀.heap.objs.size f cd :: outer):=fun b o e hb z=>by
  rw [f9 hfr] at z
  rcases List.mem_cons.mp z with z | z
  ·exact absurd (Heap.lt_size e) (by rw [z]; exact Nat.lt_irrefl _)
  ·exact hb z
 have nA:∀b o,s₀.heap.get? b=some o->b≠a:=fun b o e z=>by rw [z,n0] at e; cases e
 refine ⟨a,.ref C,d,B,del H a,rfl,J.os,J.bare,J.base,J.hok,x,iQ,fun b o e hb n=>?_,b2,fun b o e=>?_,q⟩
 ·exact inB b o (I.base.keep b o e n hb (by intro z; cases z)) (nA b o e) (nL b o e hb)
 ·obtain ⟨o',e'⟩:=I.base.there b o e (by intro z; cases z)
  by_cases hb:b∈frs outer
  ·exact .inl hb
  ·exact .inr ⟨o',inB b o' e' (nA b o e) (nL b o e hb)⟩
structure dW (K:PySem.W.Frag) (C fI:Addr):Prop where
 obj:∃nm qn NN bs bm hd sn sub ab col dd k0 k1 k2 k3 k5,K.lookup C=some (excClassObj nm qn C NN bs bm hd sn sub ab col dd k0 k1 k2 k3 k5 "ValueError.__new__")/\PySem.W.tailIn K bmVE bm=true
 init:PySem.W.findIn K (.ref C) "__init__"=some (some (.ref fI))
 fn:PySem.W.typeIn K (.ref fI)=some (.type "function")
def ni (C:Addr) (sp:Sp) (E:XK) (t:TA):TS:=fun _ σ H=>t σ H fun vs H1=>vs.length<=sizeLine/\∀a,H1 a=none ->
 sp (.ref a :: vs) (upd H1 a (d7 a C none)) (fun v H2=>v=.non/\∃d,H2 a=some (d7 a C d)/\E (.ref C) d (del H2 a)) E0
theorem pJ {x:Str}{C fI:Addr}{fd:FuncData}{ps:List Str}{sp:Sp}{k:Nat}{e:Expr}{es:List Expr}{t:TA}{np cpos pos:Pos}(hg:Gl (bb (CX1 P w) P w K mg base N qual scope f cd A outer s₀ H₀ E) x) (hm:mg x=some (.ref C)) (R:dW K C fI)
  (G:aG P w K mg base CX0 k fI fd ps sp) (hr:Room (k+1) (bb (CX1 P w) P w K mg base N qual scope f cd A outer s₀ H₀ E).A) (hb:Binds K fd ps [])
  (ha:PA (bb (CX1 P w) P w K mg base N qual scope f cd A outer s₀ H₀ E) (e :: es) t) (hdb:(x == ("__debug__":Str))=false:=by decide)
  (he:starEach (e :: es) (bb (CX1 P w) P w K mg base N qual scope f cd A outer s₀ H₀ E).env=(false,eval e (bb (CX1 P w) P w K mg base N qual scope f cd A outer s₀ H₀ E).env) :: starEach es (bb (CX1 P w) P w K mg base N qual scope f cd A outer s₀ H₀ E).env:=by rfl)
  (hpl:(backTo cpos (starEach es (bb (CX1 P w) P w K mg base N qual scope f cd A outer s₀ H₀ E).env)).any (·.1)=false:=by rfl) :
  PS (bb (CX1 P w) P w K mg base N qual scope f cd A outer s₀ H₀ E) (.Raise (some (.Call (.Name x np) (e :: es) [] cpos)) none pos) (ni C sp E t):=by
 intro pins s σ H D I h
 obtain ⟨nm,qn,NN,bs,bm,hdd,sn,sub,ab,col,dd,k0,k1,k2,k3,k5,lC,ht⟩:=R.obj
 have hbase:bm.contains (.type "BaseException")=true:=(PySem.W.tail_of_in I.kIn ht).hasType (by decide)
 refine mW (K:=K) (C:=C) (nm:=nm) (q:=qn) (N:=NN) (bs:=bs) (bm:=bm) (hdct:=hdd) (sn:=sn) (sub:=sub) (ab:=ab) (col:=col) (dd:=dd) (k0:=k0) (k1:=k1) (k2:=k2) (k3:=k3) (k5:=k5) (newId:="ValueError.__new__")
  PySem.F.excBase_ValueError (by decide:bmVE.contains (.type "ValueError")=true) PySem.F.excBase_ValueError hbase (I.ok.hd rfl) ?_ R.init R.fn (fZ I hg hm ⟨rfl,?_⟩ hdb)
 ·rw [he]
  show (false||(backTo cpos (starEach es _)).any (·.1))=false
  rw [hpl]
  rfl
 ·have hp:=ha cpos pins s σ H _ I h
  rw [he] at hp ⊢
  refine Calls.evalArgs_plain (thn hp ?_)
  rintro us s2 ⟨vs,H1,I2,r,hz,q⟩
  refine ⟨rfl,by rw [<- r.length]; exact hz,I2.kIn _ _ lC,I2.kIn,PySem.W.tail_of_in I2.kIn ht,?_⟩
  have I3:Inv (bb (CX1 P w) P w K mg base N qual scope f cd A outer s₀ H₀ E) pins σ (upd H1 (s2.heap.objs.size+1) (d7 (s2.heap.objs.size+1) C none)) { s2 with heap:=dS s2.heap C us }:=by
   have J:=I2.kept (h':=s2.heap.push { cls:=.type "tuple",data:=.seq us.toArray }) (t':=s2.toks) fun b o e=>Heap.get?_push_of_some _ e
   refine J.laid (a:=s2.heap.objs.size+1) (h':=dS s2.heap C us) (t':=s2.toks) (fun b o e=>Heap.get?_push_of_some _ e) (Nat.le_of_eq (Heap.size_push _ _)) (n5 ⟨s2.heap.objs.size,?_⟩)
   exact Heap.get?_push_at (by rw [Heap.size_push]) rfl
  have nA:H1 (s2.heap.objs.size+1)=none:=I2.hok.fresh (Nat.le_succ _)
  have hq:=q _ nA
  have r2:Vals (V.ref (s2.heap.objs.size+1) :: vs) (Value.ref (s2.heap.objs.size+1) :: us):=.cons rfl r
  have hl:((Value.ref (s2.heap.objs.size+1) :: us)++[]).length=ps.length:=by
   rw [List.append_nil,<- r2.length]
   exact G.len _ _ _ _ hq
  have hbd:=hb { s2 with heap:=dS s2.heap C us } (Value.ref (s2.heap.objs.size+1) :: us) I3.kIn hl
  rw [List.append_nil] at hbd
  refine wpAny_call (codeAny_mono (G.run _ (bb (CX1 P w) P w K mg base N qual scope f cd A outer s₀ H₀ E).stack _ _ ⟨Value.ref (s2.heap.objs.size+1) :: us,[]⟩ (Value.ref (s2.heap.objs.size+1) :: us) _ _ _ (hr.make C us []) (I3.env0.make C us []) hbd r2 hq) fun r s' hq'=>?_)
  cases r with
  | error e=>exact False.elim hq'
  | ok fl =>
   cases fl with
   | ret u =>
    obtain ⟨v,H4,I4,rv,ev,d,hd,q4⟩:=I3.after hq'
    subst ev
    have n0:s₀.heap.get? (s2.heap.objs.size+1)=none:=Heap.get?_none_of_le (Nat.le_trans I2.sz (Nat.le_succ _))
    obtain ⟨t,et⟩:=fX (I4.hok _ _ hd)
    exact ⟨rv,I4.kIn _ _ lC,⟨t,d,et⟩,mB I4 hd n0 q4⟩
   | next=>exact False.elim hq'
   | brk=>exact False.elim hq'
   | cont=>exact False.elim hq'
end
section
variable {X:Cx}
def uJ (H:Hp) (d:Option Addr):Prop:=d=none\/∃dx fs,d=some dx/\H dx=some (xdO dx fs)
theorem tT {pins:List (Addr×Obj)}{σ:St}{H:Hp}{s:Shared}{a C:Addr}{d:Option Addr}(I:Inv X pins σ H s) (hH:H a=some (iK a (.ref C) d)) (hd:uJ H d):∃ox od,PySem.W.InstAt s.heap a ox C od:=by
 obtain ⟨⟨ox,ws,e1,e2,e3,e4⟩,_,_⟩:=(show ObjOk X.prog X.w H s.heap a (iK a (.ref C) d) from I.hok a _ hH)
 have hno:PySem.W.notCls ox=true:=by unfold PySem.W.notCls; rw [e4]
 rcases hd with rfl | ⟨dx,fs,rfl,hx⟩
 ·exact ⟨ox,none,e1,e2,hno,by rw [e3]; trivial⟩
 ·obtain ⟨mA,⟨od,es,ep,f1,f2⟩,r⟩:=jx (I.hok dx _ hx)
  exact ⟨ox,some od,e1,e2,hno,by rw [e3]; exact f1⟩
theorem aH:bN X (.builtin "isinstance") (fun xs H Q=>∃a C d c b,xs=[.ref a,c]/\H a=some (iK a (.ref C) d)/\uJ H d/\iW X.K C/\(c=.ref (match c with | .ref a=>a | _=>0)\/∃n,c=.ty n)/\PySem.W.kitOne X.K (.ref C) (gC c)=some b/\Q (.bl b) H):=by
 intro pins s σ H xs us Q I r h
 obtain ⟨a,C,d,c,b,rfl,hH,hd,hk,hc,hb,q⟩:=h
 obtain ⟨u,w',rfl,rx,rc⟩:=i9 r
 cases rx
 have e:w'=gC c:=by
  cases c with
  | ref a=>exact rc
  | ty n=>exact rc
  | _=>rcases hc with z | ⟨n,z⟩ <;> cases z
 subst e
 exact PySem.W.kia_one (tP hk) I.kIn (tT I hH hd) hb (fun z=>nomatch z) fun tk=>⟨.bl b,H,I.tok _,rfl,q⟩
def wR (K:PySem.W.Frag) (ta:TE) (f:Str):TE:=fun σ H Q=>ta σ H fun x H1=>∃a C dx fs v,x=.ref a/\H1 a=some (iK a (.ref C) (some dx))/\H1 dx=some (xdO dx fs)/\iW K C/\mV K C/\XNo K C f/\fs.lookup f=some v/\Q v H1
theorem vE {e:Expr}{f:Str}{pos:Pos}{ta:TE}(he:PE X e ta) (hb:attributeBase e f X.env (eval e X.env)=eval e X.env:=by rfl):PE X (.Attribute e f pos) (wR X.K ta f):=by
 intro pins s σ H Q I h
 refine wJ hb (thn (he pins s σ H _ I h) ?_)
 rintro u s1 ⟨x,H1,I1,rx,a,C,dx,fs,v,rfl,hH,hx,k,c,n,l,q⟩
 obtain rfl:u=Value.ref a:=rx
 obtain ⟨⟨ox,ws,e1,e2,e3,e4⟩,_,_⟩:=(show ObjOk X.prog X.w H1 s1.heap a (iK a (.ref C) (some dx)) from I1.hok a _ hH)
 obtain ⟨mA,hn,r⟩:=jx (I1.hok dx _ hx)
 obtain ⟨od,ho,hl⟩:=jg hn
 have hI:PySem.W.InstAt s1.heap a ox C (some od):=⟨e1,e2,by unfold PySem.W.notCls; rw [e4],by rw [e3]; exact ho⟩
 obtain ⟨cd,c1,c2,c3⟩:=c.cd
 have rv:=r f
 rw [l] at rv
 obtain ⟨u,hu,ru⟩:=rv.some_of
 have hf:PySem.W.findObj X.K C (some od) f=some (.value u):=by
  unfold PySem.W.findObj
  rw [c1,Option.bind_some,n,Option.bind_some]
  simp only [Option.bind_some,PySem.W.ownOf,c3,hl f,hu,if_true]
 exact um I1.kIn hI k.hm hf k.hga k.hgn ⟨qj ru,⟨v,H1,I1.tok _,ru,q⟩⟩
end
section
variable {κ:Type} [DecidableEq κ]
def aK (kvs:List (κ×V)) (k:κ):Option V:=(kvs.find? fun kv=>decide (kv.1=k)).map (·.2)
def bp (kvs:List (κ×V)) (k:κ) (v:V):List (κ×V) :=
 if (kvs.any fun kv=>decide (kv.1=k))=true then kvs.map (fun kv=>if kv.1=k then (kv.1,v) else kv) else kvs++[(k,v)]
def ut (kvs:List (κ×V)) (k:κ):List (κ×V):=kvs.filter fun kv=>decide (kv.1≠k)
theorem bf {p:κ×V}{r:List (κ×V)}{k:κ}(e:p.1=k):aK (p :: r) k=some p.2:=by simp [aK,List.find?_cons,e]
theorem aY {p:κ×V}{r:List (κ×V)}{k:κ}(e:¬ p.1=k):aK (p :: r) k=aK r k:=by simp [aK,List.find?_cons,e]
theorem bW (k:κ):∀kvs:List (κ×V),(kvs.any fun kv=>decide (kv.1=k))=(aK kvs k).isSome
 | []=>rfl
 | p :: r=>by
  rw [List.any_cons]
  by_cases e:p.1=k
  ·simp only [bf e,decide_eq_true e,Bool.true_or,Option.isSome_some]
  ·rw [aY e,decide_eq_false e,Bool.false_or]; exact bW k r
theorem ky (k j:κ) (y:V):∀kvs:List (κ×V),aK (kvs.map fun kv=>if kv.1=k then (kv.1,y) else kv) j=(aK kvs j).map fun x=>if j=k then y else x
 | []=>rfl
 | p :: r=>by
  have ih:=ky k j y r
  rw [List.map_cons]
  by_cases h:p.1=k
  ·rw [if_pos h]
   by_cases e:p.1=j
   ·rw [bf (p:=(p.1,y)) e,bf e,Option.map_some,if_pos (e.symm.trans h)]
   ·rw [aY (p:=(p.1,y)) e,aY e,ih]
  ·rw [if_neg h]
   by_cases e:p.1=j
   ·rw [bf (p:=p) e,bf e,Option.map_some,if_neg (fun z=>h (e.trans z))]
   ·rw [aY (p:=p) e,aY e,ih]
theorem i_ (k j:κ) (y:V):∀kvs:List (κ×V),aK kvs k=none->aK (kvs++[(k,y)]) j=if j=k then some y else aK kvs j
 | [],_=>by
  by_cases e:k=j
  ·rw [if_pos e.symm]; exact bf (p:=(k,y)) e
  ·rw [if_neg (fun z=>e z.symm)]; exact aY (p:=(k,y)) e
 | p :: r,hn=>by
  rw [List.cons_append]
  have hk:¬ p.1=k:=fun z=>by rw [bf z] at hn; cases hn
  rw [aY hk] at hn
  have ih:=i_ k j y r hn
  by_cases e:p.1=j
  ·rw [bf e,bf e,if_neg (fun z=>hk (e.trans z))]
  ·rw [aY e,aY e,ih]
theorem bV (kvs:List (κ×V)) (k j:κ) (y:V):aK (bp kvs k y) j=if j=k then some y else aK kvs j:=by
 unfold bp
 by_cases a:(kvs.any fun kv=>decide (kv.1=k))=true
 ·rw [if_pos a,ky]
  rw [bW] at a
  by_cases e:j=k
  ·obtain ⟨x,hx⟩:=Option.isSome_iff_exists.mp a
   rw [if_pos e,e,hx,Option.map_some,if_pos rfl]
  ·rw [if_neg e]
   cases aK kvs j with
   | none=>rfl
   | some x=>rw [Option.map_some,if_neg e]
 ·rw [if_neg a]
  refine i_ k j y kvs ?_
  rw [bW] at a
  cases q:aK kvs k with
  | none=>rfl
  | some x=>rw [q] at a; exact (a rfl).elim
theorem bX (kvs:List (κ×V)) (k:κ) (v:V):(bp kvs k v).length<=kvs.length+1:=by
 unfold bp
 split
 ·rw [List.length_map]; omega
 ·rw [List.length_append,List.length_cons,List.length_nil]; omega
theorem fT {kvs:List (κ×V)}{k:κ}(v:V) (h:aK kvs k=none):bp kvs k v=kvs++[(k,v)]:=by
 unfold bp
 rw [bW,h]
 exact if_neg (by decide)
theorem RelO.isSome_eq {o:Option V}{u:Option Value}(r:RelO o u):o.isSome=u.isSome:=by
 cases o with
 | none=>cases u with
  | none=>rfl
  | some _=>exact (show False from r).elim
 | some _=>cases u with
  | none=>exact (show False from r).elim
  | some _=>rfl
theorem RelO.getD {o:Option V}{u:Option Value}{d:V}{d':Value}(r:RelO o u) (rd:RelV d d'):RelV (o.getD d) (u.getD d'):=by
 cases o with
 | none=>cases u with
  | none=>exact rd
  | some _=>exact (show False from r).elim
 | some _=>cases u with
  | none=>exact (show False from r).elim
  | some _=>exact r
theorem KV.val {kvs:List (κ×V)}{vs:List (κ×Value)}(r:KV kvs vs) (k:κ):RelO (aK kvs k) (valueAt vs k):=by
 unfold KV at r
 induction r with
 | nil=>exact True.intro
 | @cons p q ps qs h t ih =>
  obtain ⟨h1,h2⟩:=h
  by_cases e:p.1=k
  ·have e':q.1=k:=h1.symm.trans e
   have b:valueAt (q :: qs) k=some q.2:=by simp [valueAt,List.find?_cons,e']
   rw [bf e,b]; exact h2
  ·have e':¬ q.1=k:=fun z=>e (h1.trans z)
   have b:valueAt (q :: qs) k=valueAt qs k:=by simp [valueAt,List.find?_cons,e']
   rw [aY e,b]; exact ih
theorem KV.any {kvs:List (κ×V)}{vs:List (κ×Value)}(r:KV kvs vs) (k:κ):(kvs.any fun kv=>decide (kv.1=k))=vs.any fun kv=>decide (kv.1=k):=by
 unfold KV at r
 induction r with
 | nil=>rfl
 | cons h t ih=>rw [List.any_cons,List.any_cons,ih,h.1]
theorem KV.repl {kvs:List (κ×V)}{vs:List (κ×Value)}(r:KV kvs vs) (k:κ) {y:V}{u:Value}(ry:RelV y u) :
  KV (kvs.map fun kv=>if kv.1=k then (kv.1,y) else kv) (vs.map fun kv=>if kv.1=k then (kv.1,u) else kv):=by
 unfold KV at r ⊢
 induction r with
 | nil=>exact .nil
 | @cons p q ps qs h t ih =>
  rw [List.map_cons,List.map_cons]
  refine .cons ?_ ih
  obtain ⟨h1,h2⟩:=h
  by_cases e:p.1=k
  ·rw [if_pos e,if_pos (h1.symm.trans e)]; exact ⟨h1,ry⟩
  ·rw [if_neg e,if_neg (fun z=>e (h1.trans z))]; exact ⟨h1,h2⟩
theorem KV.put {kvs:List (κ×V)}{vs:List (κ×Value)}(r:KV kvs vs) (k:κ) {y:V}{u:Value}(ry:RelV y u):KV (bp kvs k y) (stored vs k u):=by
 unfold bp stored
 rw [r.any k]
 by_cases e:(vs.any fun kv=>decide (kv.1=k))=true
 ·rw [if_pos e,if_pos e]; exact r.repl k ry
 ·rw [if_neg e,if_neg e]; exact Paired.snoc r ⟨rfl,ry⟩
theorem KV.length {kvs:List (κ×V)}{vs:List (κ×Value)}(r:KV kvs vs):kvs.length=vs.length:=Paired.length r
end
theorem iE {P:Program}{w:World}{k:Key}{u:Value}(r:RelV (kV k) u):(aI P w).is k u=true:=by
 cases k with
 | inl i=>obtain ⟨t,e⟩:=(show ∃t,u=Value.int i t from r); subst e; exact k_ P w i t
 | inr x=>obtain ⟨t,e⟩:=(show ∃t,u=Value.str x t from r); subst e; exact kZ P w x t
theorem jj {P:Program}{w:World}:∀{ks:List Key}{us:List Value},Vals (ks.map kV) us->ItemsAre (aI P w) ks us
 | [],_,r=>by rw [List.map_nil] at r; cases r; exact .nil
 | k :: ks,_,r=>by
  rw [List.map_cons] at r
  cases r with
  | cons h t=>exact .cons (iE h) (jj t)
abbrev KT (H:Hp):List (List Key×V)->List (List Key×Addr×Value)->Prop:=Paired fun p q=>p.1=q.1/\H q.2.1=some (.tup (p.1.map kV))/\RelV p.2 q.2.2
theorem KT.val {H:Hp}{kvs:List (List Key×V)}{xs:List (List Key×Addr×Value)}(r:KT H kvs xs) (k:List Key):RelO (aK kvs k) ((atKey xs k).map (·.2)):=by
 induction r with
 | nil=>exact True.intro
 | @cons p q ps qs h t ih =>
  obtain ⟨h1,_,h2⟩:=h
  by_cases e:p.1=k
  ·have e':q.1=k:=h1.symm.trans e
   have b:atKey (q :: qs) k=some q.2:=by simp [atKey,List.find?_cons,e']
   rw [bf e,b]; exact h2
  ·have e':¬ q.1=k:=fun z=>e (h1.trans z)
   have b:atKey (q :: qs) k=atKey qs k:=by simp [atKey,List.find?_cons,e']
   rw [aY e,b]; exact ih
theorem KT.repl {H:Hp}{kvs:List (List Key×V)}{xs:List (List Key×Addr×Value)}(r:KT H kvs xs) (k:List Key) {y:V}{u:Value}(ry:RelV y u) :
  KT H (kvs.map fun kv=>if kv.1=k then (kv.1,y) else kv) (xs.map (putAt k u)):=by
 induction r with
 | nil=>exact .nil
 | @cons p q ps qs h t ih =>
  rw [List.map_cons,List.map_cons]
  refine .cons ?_ ih
  obtain ⟨h1,h2,h3⟩:=h
  unfold putAt
  by_cases e:p.1=k
  ·rw [if_pos e,if_pos (h1.symm.trans e)]; exact ⟨h1,h2,ry⟩
  ·rw [if_neg e,if_neg (fun z=>e (h1.trans z))]; exact ⟨h1,h2,h3⟩
theorem KT.put {H:Hp}{kvs:List (List Key×V)}{xs:List (List Key×Addr×Value)}(r:KT H kvs xs) (k:List Key) {b:Addr}{y:V}{u:Value}(hb:H b=some (.tup (k.map kV))) (ry:RelV y u) :
  KT H (bp kvs k y) (storedH xs k b u):=by
 have e:(kvs.any fun kv=>decide (kv.1=k))=(atKey xs k).isSome:=by
  rw [bW,(r.val k).isSome_eq,Option.isSome_map]
 unfold bp storedH
 rw [e]
 by_cases q:(atKey xs k).isSome=true
 ·rw [if_pos q,if_pos q]; exact r.repl k ry
 ·rw [if_neg q,if_neg q]; exact Paired.snoc r ⟨rfl,hb,ry⟩
theorem KT.keeps {H H':Hp}{kvs:List (List Key×V)}{xs:List (List Key×Addr×Value)}(r:KT H kvs xs) (ht:∀b ys,H b=some (.tup ys)->H' b=some (.tup ys)):KT H' kvs xs :=
 Paired.mapP r fun _ _ z=>⟨z.1,ht _ _ z.2.1,z.2.2⟩
section
variable {P:Program}{w:World}{H:Hp}{h:Heap}{a:Addr}
theorem w6 {u:HO}(ok:HOk P w H h) (e:Rd H a u):ObjOk P w H h a u:=e.ok ok
theorem ge {kvs:List (Key×V)}(ok:HOk P w H h) (e:Rd H a (.dK kvs)):kvs.length<=sizeLine/\(a == sysModules)=false/\∃vs,KV kvs vs/\h.DictOf (aI P w) a vs :=
 show ObjOk P w H h a (.dK kvs) from w6 ok e
theorem lF {kvs:List (Key×V)}(ok:HOk P w H h) (e:H a=some (.dK kvs)):kvs.length<=sizeLine/\(a == sysModules)=false/\∃vs,KV kvs vs/\h.DictOf (aI P w) a vs:=ge ok (.inl e)
theorem key_of {ks:List Key}(ok:HOk P w H h) (e:H a=some (.tup (ks.map kV))):(tupleKind (aI P w)).is h ks a:=by
 obtain ⟨_,its,r,o,h1,h2,n,h3⟩:=(show ObjOk P w H h a (.tup (ks.map kV)) from ok a _ e)
 exact ⟨o,its.toArray,n,h1,h2,h3,by simpa using jj r⟩
theorem jo {kvs:List (List Key×V)}(ok:HOk P w H h) (e:Rd H a (.dT kvs)):kvs.length<=sizeLine/\(a == sysModules)=false /\
  ∃xs,KT H kvs xs/\h.DictOfH (tupleKind (aI P w)) a xs:=by
 obtain ⟨z,y,xs,r,o,es,ep,h1,h2,h3,h4,h5⟩:=(show ObjOk P w H h a (.dT kvs) from w6 ok e)
 refine ⟨z,y,xs,r,o,es,ep,h1,h2,h3,h4,fun x hx=>?_,h5⟩
 have all:∀{l:List (List Key×V)}{m:List (List Key×Addr×Value)},KT H l m->∀x∈m,(tupleKind (aI P w)).is h x.1 x.2.1:=by
  intro l m q
  induction q with
  | nil=>intro x hx; exact nomatch hx
  | @cons p q ps qs hq t ih =>
   intro x hx
   rcases List.mem_cons.mp hx with e | hx
   ·subst e
    exact key_of ok (by rw [<- hq.1]; exact hq.2.1)
   ·exact ih x hx
 exact all r x hx
theorem Aj {kvs:List (List Key×V)}(ok:HOk P w H h) (e:H a=some (.dT kvs)):kvs.length<=sizeLine/\(a == sysModules)=false /\
  ∃xs,KT H kvs xs/\h.DictOfH (tupleKind (aI P w)) a xs:=jo ok (.inl e)
end
def DGet (H:Hp) (a:Addr) (y:V) (r:Option V):Prop :=
 (∃kvs k,Rd H a (.dK kvs)/\y=kV k/\r=aK kvs k)\/∃kvs k b,Rd H a (.dT kvs)/\y=.ref b/\H b=some (.tup (k.map kV))/\r=aK kvs k
def zo (H:Hp) (a:Addr) (y v:V) (H':Hp):Prop :=
 (∃kvs k,H a=some (.dK kvs)/\y=kV k/\kvs.length<sizeLine/\H'=upd H a (.dK (bp kvs k v))) \/
 ∃kvs k b,H a=some (.dT kvs)/\y=.ref b/\H b=some (.tup (k.map kV))/\kvs.length<sizeLine/\H'=upd H a (.dT (bp kvs k v))
theorem DGet.k {H:Hp}{a:Addr}{kvs:List (Key×V)}{k:Key}(e:H a=some (.dK kvs)):DGet H a (kV k) (aK kvs k):=.inl ⟨kvs,k,.inl e,rfl,rfl⟩
section
variable {X:Cx}{pins:List (Addr×Obj)}{σ:St}{H:Hp}{s:Shared}{a:Addr}{y v:V}{u r:Value}{o:Option V}{A:Around}{E:Value->Shared->Prop}
theorem Inv.big (I:Inv X pins σ H s):sysModules<s.heap.objs.size:=by
 have h:mainGlobals<s.heap.objs.size:=(I.mod.glob.keeps I.bk).lt
 exact Nat.lt_trans (by decide) h
theorem qy {Q:Value->Shared->Prop}(hu:A.units+1<cLine) (I:Inv X pins σ H s) (g:DGet H a y (some v)) (ry:RelV y u) (h:∀w' s',Inv X pins σ H s'->RelV v w'->Q w' s') :
  wpAny (model X.prog X.w) A (getItem (.ref a) u) Q E s:=by
 rcases g with ⟨kvs,k,e,ey,l⟩ | ⟨kvs,k,b,e,ey,eb,l⟩
 ·subst ey
  obtain ⟨z,hd,vs,rel,dd⟩:=ge I.hok e
  obtain ⟨w',hw,rw'⟩:=RelO.some_of (v:=v) (o:=valueAt vs k) (by rw [l]; exact rel.val k)
  exact wpAny_getItem_of (iE ry) dd.mapOf hw (h w' _ (I.tok _) rw')
 ·subst ey
  cases (show u=Value.ref b from ry)
  obtain ⟨z,hd,xs,rel,dd⟩:=jo I.hok e
  obtain ⟨w',hw,rw'⟩:=RelO.some_of (v:=v) (o:=(atKey xs k).map (·.2)) (by rw [l]; exact rel.val k)
  obtain ⟨p,hp,hp2⟩:=Option.map_eq_some_iff.mp hw
  refine wpAny_getItem_heap (tupleKind_room_in1 hu) (key_of I.hok eb) dd hp ?_
  rw [hp2]
  exact h w' _ (I.tok _) rw'
theorem wD {Q:Value->Shared->Prop}(hu:A.units+1<cLine) (I:Inv X pins σ H s) (g:DGet H a y o) (ry:RelV y u) (h:∀s',Inv X pins σ H s'->Q (.bool (!o.isSome)) s') :
  wpAny (model X.prog X.w) A (compareOp .NotIn u (.ref a)) Q E s:=by
 rcases g with ⟨kvs,k,e,ey,l⟩ | ⟨kvs,k,b,e,ey,eb,l⟩
 ·subst ey
  obtain ⟨z,hd,vs,rel,dd⟩:=ge I.hok e
  refine wpAny_notIn_of (iE ry) hd dd.mapOf ?_
  rw [<- (rel.val k).isSome_eq,<- l]
  exact h _ (I.tok _)
 ·subst ey
  cases (show u=Value.ref b from ry)
  obtain ⟨z,hd,xs,rel,dd⟩:=jo I.hok e
  refine wpAny_notIn_heap (tupleKind_room_in1 hu) (key_of I.hok eb) hd dd ?_
  have q:=(rel.val k).isSome_eq
  rw [Option.isSome_map] at q
  rw [<- q,<- l]
  exact h _ (I.tok _)
theorem gY {h':Heap}{t':Nat}{ob:HO}(I:Inv X pins σ H s) (mu:Mut (H a)) (hs:Heap.SameBut a s.heap h') (he:∃q,h'.get? a=some q) (new:ObjOk X.prog X.w (upd H a ob) h' a ob) :
  Inv X pins σ (upd H a ob) { s with heap:=h',toks:=t' } :=
 I.write (x:=a) (e:=a) mu (.inl rfl) (fun b q hb z=>(hs.2 b hb).trans z) he new
theorem mM {P:Program}{w:World}{H':Hp}{h':Heap}{kvs:List (Key×V)}{vs:List (Key×Value)}(z:kvs.length<=sizeLine) (hd:(a == sysModules)=false) (rel:KV kvs vs) (dd:h'.DictOf (aI P w) a vs) :
  ObjOk P w H' h' a (.dK kvs):=⟨z,hd,vs,rel,dd⟩
theorem qx {H':Hp}{Q:Unit->Shared->Prop}(hu:A.units+1<cLine) (I:Inv X pins σ H s) (g:zo H a y v H') (ry:RelV y u) (rv:RelV v r) (h:∀s',Inv X pins σ H' s'->Q () s') :
  wpAny (model X.prog X.w) A (setItem (.ref a) u r) Q E s:=by
 rcases g with ⟨kvs,k,e,ey,l,eH⟩ | ⟨kvs,k,b,e,ey,eb,l,eH⟩
 ·subst ey eH
  obtain ⟨z,hd,vs,rel,dd⟩:=lF I.hok e
  have hz:vs.length<=sizeLine:=by rw [<- rel.length]; exact z
  have hl:(bp kvs k v).length<=sizeLine:=by have:=bX kvs k v; omega
  refine wpAny_setItem_pairs (hsz:=hz) (iE ry) dd fun h' dd' hs=>h _ ?_
  have he:∃q,h'.get? a=some q:=let ⟨q,_,_,hq,_⟩:=dd'; ⟨q,hq⟩
  exact gY I (by rw [e]; exact True.intro) hs he (mM hl hd (rel.put k rv) dd')
 ·subst ey eH
  cases (show u=Value.ref b from ry)
  obtain ⟨z,hd,xs,rel,dd⟩:=Aj I.hok e
  have hz:xs.length<=sizeLine:=by rw [<- Paired.length rel]; exact z
  have hl:(bp kvs k v).length<=sizeLine:=by have:=bX kvs k v; omega
  refine wpAny_setItem_heap (hsz:=hz) (tupleKind_room_in1 hu) (key_of I.hok eb) dd fun h' dd' hs=>h _ ?_
  obtain ⟨q,es,ep,hq,h2,h3,h4,_,h5⟩:=dd'
  refine gY I (by rw [e]; exact True.intro) hs ⟨q,hq⟩ ⟨hl,hd,_,(rel.put k eb rv).keeps fun c ys ec=>?_,q,es,ep,hq,h2,h3,h4,h5⟩
  rw [ah (bn ec e (fun z=>nomatch z))]
  exact ec
end
section
variable {X:Cx}{pins:List (Addr×Obj)}{σ:St}{H:Hp}{s:Shared}{a:Addr}{kvs:List (Key×V)}{k:Key}{u:Value}{A:Around}{E:Value->Shared->Prop}
end
def zm (i:Expr):Prop:=∀ov iv,subscripted i false ov iv=operate [ov,iv] (getItem ov iv)
theorem uR {prog:Program}{w:World}{A:Around}{E:Value->Shared->Prop}{s:Shared}{env:Env}{value slice:Expr}{pos:Pos}{T id:String}{Q:Value->Shared->Prop}
  (hl:typeLookup (.type T) "__getitem__"=pure (some (.builtin id))) (hs:zm slice)
  (h:wpAny (model prog w) A (eval value env) (fun o s₁=>wpAny (model prog w) A (eval slice env) (fun i s₂=>s₂.TypeIs o T/\wpAny (model prog w) A (getItem o i) Q E s₂) E s₁) E s) :
  wpAny (model prog w) A (eval (.Subscript value slice pos) env) Q E s:=by
 refine Subscript_ (wpAny_mono h (fun o s₁ h₁=>wpAny_mono h₁ (fun i s₂ h₂=>?_) fun _ _ x=>x) fun _ _ x=>x)
 obtain ⟨hT,h₂⟩:=h₂
 unfold subscriptTail
 refine wpAny_bind ?_
 rw [getitemInPython_of_ne hT.not_modules]
 refine wpAny_bind (wpAny_specialOf hT hl ?_)
 have fin:wpAny (model prog w) A (subscripted slice false o i) (fun r s₃=>wpAny (model prog w) A (letTemporaryGo value o r >>= fun _=>pure r) Q E s₃) E s₂:=by
  rw [hs o i]
  exact wpAny_operating (wpAny_mono h₂ (fun r s₃ h₃=>wpAny_bind (wpAny_letTemporaryGo (wpAny_pure h₃))) fun _ _ x=>x)
 first
  | exact wpAny_pure (wpAny_bind fin)
  | exact wpAny_bind (wpAny_pure (wpAny_bind fin))
  | exact wpAny_bind fin
theorem lH {X:Cx}{pins:List (Addr×Obj)}{σ:St}{H:Hp}{s:Shared}{a:Addr}{y:V}{o:Option V}(I:Inv X pins σ H s) (g:DGet H a y o):s.TypeIs (.ref a) "dict":=by
 rcases g with ⟨kvs,k,e,_,_⟩ | ⟨kvs,k,b,e,_,_,_⟩
 ·obtain ⟨_,_,vs,_,dd⟩:=ge I.hok e
  exact dd.typeIs
 ·obtain ⟨_,_,xs,_,dd⟩:=jo I.hok e
  exact dd.typeIs
def wZ (td ty:TE):TE:=fun σ H Q=>td σ H fun x H1=>ty σ H1 fun y H2=>∃a v,x=.ref a/\DGet H2 a y (some v)/\Q v H2
def BE (ty td:TE):TE:=fun σ H Q=>ty σ H fun y H1=>td σ H1 fun x H2=>∃a o,x=.ref a/\DGet H2 a y o/\Q (.bl o.isSome) H2
def nq (ty td:TE):TE:=fun σ H Q=>ty σ H fun y H1=>td σ H1 fun x H2=>∃a o,x=.ref a/\DGet H2 a y o/\Q (.bl (!o.isSome)) H2
def w5 (td ty tv:TE):TS:=fun D σ H=>tv σ H fun v H1=>td σ H1 fun x H2=>ty σ H2 fun y H3=>∃a H4,x=.ref a/\zo H3 a y v H4/\D.nx σ H4
def Bi (td ty tv:TE) (rd:V->V->Hp->VK->Prop):TS:=fun D σ H=>td σ H fun x H1=>ty σ H1 fun y H2=>∃a v,x=.ref a/\DGet H2 a y (some v) /\
 tv σ H2 fun y2 H3=>rd v y2 H3 fun z H4=>∃H5,zo H4 a y z H5/\D.nx σ H5
def Bh (td ty:TE):TS:=fun D σ H=>td σ H fun x H1=>ty σ H1 fun y H2=>∃a kvs k,x=.ref a/\H2 a=some (.dK kvs)/\y=kV k/\(aK kvs k).isSome=true/\D.nx σ (upd H2 a (.dK (ut kvs k)))
section
variable {X:Cx}{o i e value:Expr}{pos pos' tpos:Pos}{td ty tv:TE}
theorem vH (hu:X.A.units+1<cLine) (ho:PE X o td) (hi:PE X i ty) (hs:zm i):PE X (.Subscript o i pos) (wZ td ty):=by
 intro pins s σ H Q I h
 refine uR PySem.F.slot_dict_getitem.lookup hs (thn (ho pins s σ H _ I h) fun u s1 ⟨x,H1,I1,rx,q1⟩=>thn (hi pins s1 σ H1 _ I1 q1) fun iv s2 ⟨y,H2,I2,ry,a,v,ex,g,q2⟩=>?_)
 subst ex
 obtain rfl:u=Value.ref a:=rx
 exact ⟨lH I2 g,qy hu I2 g ry fun w' s3 I3 rw'=>⟨v,H2,I3,rw',q2⟩⟩
theorem pQ (hu:X.A.units+1<cLine) (hi:PE X i ty) (ho:PE X o td):PC X .NotIn i o (nq ty td):=by
 intro pins s σ H Q I h
 refine thn (hi pins s σ H _ I h) fun iv s1 ⟨y,H1,I1,ry,q1⟩=>thn (ho pins s1 σ H1 _ I1 q1) fun u s2 ⟨x,H2,I2,rx,a,ov,ex,g,q2⟩=>?_
 subst ex
 obtain rfl:u=Value.ref a:=rx
 exact wD hu I2 g ry fun s3 I3=>⟨.bl (!ov.isSome),H2,I3,rfl,q2⟩
theorem vq (hu:X.A.units+1<cLine) (ho:PE X o td) (hi:PE X i ty) (hv:PE X value tv) (hs:swapsWith value (some (.Subscript o i pos')) pos.line X.env=pure false) :
  PS X (.Assign [.Subscript o i pos'] value pos) (w5 td ty tv):=by
 intro pins s σ H D I h
 refine wpAny_Assign_Subscript (thn (hv pins s σ H _ I h) fun r s1 ⟨v,H1,I1,rv,q1⟩=>thn (ho pins s1 σ H1 _ I1 q1) fun u s2 ⟨x,H2,I2,rx,q2⟩=>thn (hi pins s2 σ H2 _ I2 q2) fun iv s3 ⟨y,H3,I3,ry,a,H4,ex,g,q3⟩=>?_) hs
 subst ex
 obtain rfl:u=Value.ref a:=rx
 exact qx hu I3 g ry rv fun s4 I4=>⟨σ,H4,I4,q3⟩
end
theorem lG {P:Program}{w:World}{H:Hp}(h:Heap) (hb:sysModules<h.objs.size):ObjOk P w H (h.push { cls:=.type "dict",data:=.dict #[] }) h.objs.size (.dK []) :=
 ⟨Nat.zero_le _,beq_eq_false_iff_ne.mpr (Ne.symm (Nat.ne_of_lt hb)),[],.nil,Heap.DictOf.new h⟩
def qV:TE:=fun _ H Q=>∀p,H p=none->Q (.ref p) (upd H p (.dK []))
def Ay:TE:=fun _ H Q=>∀p,H p=none->Q (.ref p) (upd H p (.dT []))
section
variable {X:Cx}{pos:Pos}
theorem r8:PE X (.Dict [] [] pos) qV:=fun pins s σ H Q I h =>
 wpAny_Dict_empty ⟨.ref s.heap.objs.size,_,I.laid (a:=s.heap.objs.size) (o:=.dK []) (t':=s.toks) (fun _ _ q=>Heap.get?_push_of_some _ q) (Nat.le_refl _) (lG s.heap I.big),rfl,h _ (I.hok.fresh (Nat.le_refl _))⟩
end
def lY:List (TE×TE)->St->Hp->(List (V×V)->Hp->Prop)->Prop
 | [],_,H,Q=>Q [] H
 | (tk,tv) :: r,σ,H,Q=>tk σ H fun x H1=>tv σ H1 fun y H2=>lY r σ H2 fun ps H3=>Q ((x,y) :: ps) H3
abbrev VV:List (V×V)->List (Value×Value)->Prop:=Paired fun p q=>RelV p.1 q.1/\RelV p.2 q.2
def PPs (X:Cx) (pos:Pos) (keys:List (Option Expr)) (values:List Expr) (trs:List (TE×TE)):Prop :=
 ∀(pins:List (Addr×Obj)) (s:Shared) (σ:St) (H:Hp) (Q:List (V×V)->Hp->Prop),Inv X pins σ H s->lY trs σ H Q ->
  wpAny (model X.prog X.w) X.A (evalPairs (pairTrees keys values X.env pos)) (fun vs s'=>∃ps H',Inv X pins σ H' s'/\VV ps vs/\Q ps H') X.xe s
theorem vx {X:Cx}{pos:Pos}:PPs X pos [] [] []:=fun pins s σ H Q I h=>pairTrees_nil_walk ⟨[],H,I,.nil,h⟩
theorem rO {X:Cx}{pos:Pos}{k v:Expr}{ks:List (Option Expr)}{vs:List Expr}{tk tv:TE}{trs:List (TE×TE)}(hk:PE X k tk) (hv:PE X v tv) (hr:PPs X pos ks vs trs) :
  PPs X pos (some k :: ks) (v :: vs) ((tk,tv) :: trs):=fun pins s σ H Q I h =>
 pairTrees_cons_walk (thn (hk pins s σ H _ I h) fun u s1 ⟨x,H1,I1,rx,q1⟩=>thn (hv pins s1 σ H1 _ I1 q1) fun w2 s2 ⟨y,H2,I2,ry,q2⟩ =>
  thn (hr pins s2 σ H2 _ I2 q2) fun ws s3 ⟨ps,H3,I3,rel,q3⟩=>⟨(x,y) :: ps,H3,I3,.cons ⟨rx,ry⟩ rel,q3⟩)
def fG (kvs more:List (Key×V)):List (Key×V):=more.foldl (fun acc kv=>bp acc kv.1 kv.2) kvs
theorem KV.merge:∀{more:List (Key×V)}{rs:List (Key×Value)}{kvs:List (Key×V)}{vs:List (Key×Value)},KV more rs->KV kvs vs->KV (fG kvs more) (merged vs rs):=by
 intro more rs kvs vs r
 unfold KV at r
 induction r generalizing kvs vs with
 | nil=>intro q; exact q
 | @cons p q ps qs h t ih =>
  intro r0
  have e:KV (bp kvs p.1 p.2) (stored vs q.1 q.2):=by
   have:=r0.put p.1 h.2
   rw [<- h.1]; exact this
  exact ih e
theorem e_:∀(more kvs:List (Key×V)),(fG kvs more).length<=kvs.length+more.length
 | [],kvs=>by show kvs.length<=kvs.length+0; omega
 | p :: r,kvs=>by
  have h1:=e_ r (bp kvs p.1 p.2)
  have h2:=bX kvs p.1 p.2
  show (fG (bp kvs p.1 p.2) r).length<=_
  rw [List.length_cons]; omega
theorem iU {P:Program}{w:World}:∀{kvs:List (Key×V)}{ws:List (Value×Value)},VV (kvs.map fun kv=>(kV kv.1,kv.2)) ws->∃rs,Carries (aI P w) ws rs/\KV kvs rs
 | [],_,r=>by rw [List.map_nil] at r; cases r; exact ⟨[],True.intro,.nil⟩
 | p :: kvs,_,r=>by
  rw [List.map_cons] at r
  cases r with
  | @cons a b as bs h t =>
   obtain ⟨rs,c,q⟩:=iU (P:=P) (w:=w) t
   obtain ⟨b1,b2⟩:=b
   exact ⟨(p.1,b2) :: rs,⟨iE h.1,rfl,c⟩,.cons ⟨rfl,h.2⟩ q⟩
def wY (trs:List (TE×TE)):TE:=fun σ H Q=>∀p,H p=none->lY trs σ (upd H p (.dK [])) fun ps H2=>H2 p=some (.dK [])/\∃kvs:List (Key×V),ps=kvs.map (fun kv=>(kV kv.1,kv.2))/\kvs.length<=15/\Q (.ref p) (upd H2 p (.dK (fG [] kvs)))
theorem vG {X:Cx}{pos:Pos}{keys:List (Option Expr)}{values:List Expr}{trs:List (TE×TE)}(h:PPs X pos keys values trs) (hall:keys.all (·.isSome)=true) (hl:keys.length=values.length) (h0:keys≠[])
  (h15:keys.length<=15):PE X (.Dict keys values pos) (wY trs):=by
 intro pins s σ H Q I q
 have hn:=I.hok.fresh (Nat.le_refl s.heap.objs.size)
 have I1:=I.laid (a:=s.heap.objs.size) (o:=.dK []) (h':=s.heap.push { cls:=.type "dict",data:=.dict #[] }) (t':=s.toks) (fun _ _ q=>Heap.get?_push_of_some _ q) (Nat.le_refl _) (lG s.heap I.big)
 refine wpAny_Dict_walk (knd:=aI X.prog X.w) hall hl h0 h15 (thn (h pins _ σ _ _ I1 (q _ hn)) fun ws s2 ⟨ps,H2,I2,rel,e,kvs,ep,lk,q2⟩=>?_)
 subst ep
 obtain ⟨rs,c,rk⟩:=iU (P:=X.prog) (w:=X.w) rel
 obtain ⟨z,hd,vs0,r0,dd⟩:=lF I2.hok e
 cases r0
 refine ⟨rs,c,dd,fun h' dd' hs=>⟨.ref s.heap.objs.size,_,?_,rfl,q2⟩⟩
 have hz:(fG [] kvs).length<=sizeLine:=by
  have h1:=e_ kvs []
  rw [List.length_nil] at h1
  rw [sizeLine_eq]; omega
 have he:∃q,h'.get? s.heap.objs.size=some q:=let ⟨q,_,_,hq,_⟩:=dd'; ⟨q,hq⟩
 exact gY I2 (by rw [e]; exact True.intro) hs he (mM hz hd (rk.merge .nil) dd')
structure M1 (X:Cx) (o:Expr) (m:Str) (apos:Pos) (e:Expr) (cpos:Pos):Prop where
 base:attributeBase o m X.env (eval o X.env)=eval o X.env
 few:((backTo cpos (starEach [e] X.env)).all (fun x=>!x.1)&&(backToKw cpos (keywordEach [] X.env)).all (fun x=>x.1.isSome)
 &&decide (([e]:List Expr).length+([]:List Keyword).length+(if ([]:List Keyword).isEmpty then 0 else 1)<30))=true
 line:(apos.endLine == cpos.line)=true
 trees:backTo cpos (starEach [e] X.env)=[(false,eval e X.env)]
structure M2 (X:Cx) (o:Expr) (m:Str) (apos:Pos) (e f:Expr) (cpos:Pos):Prop where
 base:attributeBase o m X.env (eval o X.env)=eval o X.env
 few:((backTo cpos (starEach [e,f] X.env)).all (fun x=>!x.1)&&(backToKw cpos (keywordEach [] X.env)).all (fun x=>x.1.isSome)
 &&decide (([e,f]:List Expr).length+([]:List Keyword).length+(if ([]:List Keyword).isEmpty then 0 else 1)<30))=true
 line:(apos.endLine == cpos.line)=true
 trees:backTo cpos (starEach [e,f] X.env)=[(false,eval e X.env),(false,eval f X.env)]
def IsD (H:Hp) (a:Addr):Prop:=(∃kvs,Rd H a (.dK kvs))\/∃kvs,Rd H a (.dT kvs)
theorem kf {X:Cx}{pins:List (Addr×Obj)}{σ:St}{H:Hp}{s:Shared}{a:Addr}(I:Inv X pins σ H s) (d:IsD H a) :
  s.TypeIs (.ref a) "dict"/\(∀b,Value.ref a=.ref b->∃ob,s.heap.get? b=some ob/\ob.dict=none)/\(a == sysModules)=false:=by
 rcases d with ⟨kvs,e⟩ | ⟨kvs,e⟩
 ·obtain ⟨_,hd,vs,_,dd⟩:=ge I.hok e
  refine ⟨dd.typeIs,fun b q=>?_,hd⟩
  cases q
  obtain ⟨ob,_,_,h1,h2,_⟩:=dd
  exact ⟨ob,h1,h2.2.1⟩
 ·obtain ⟨_,hd,xs,_,dd⟩:=jo I.hok e
  refine ⟨dd.typeIs,fun b q=>?_,hd⟩
  cases q
  obtain ⟨ob,_,_,h1,h2,_⟩:=dd
  exact ⟨ob,h1,h2.2.1⟩
section
variable {X:Cx}{pins:List (Addr×Obj)}{σ:St}{H:Hp}{s:Shared}{a:Addr}{y d:V}{u r:Value}{o:Option V}{A:Around}{E:Value->Shared->Prop}
theorem zc {Q:Value->Shared->Prop}(hu:A.units+1<cLine) (I:Inv X pins σ H s) (g:DGet H a y o) (ry:RelV y u) (rd:RelV d r) (h:∀w' s',Inv X pins σ H s'->RelV (o.getD d) w'->Q w' s') :
  wpAny (model X.prog X.w) A (call (.builtin "dict.get") [.ref a,u,r]) Q E s:=by
 rcases g with ⟨kvs,k,e,ey,l⟩ | ⟨kvs,k,b,e,ey,eb,l⟩
 ·subst ey
  obtain ⟨z,hd,vs,rel,dd⟩:=ge I.hok e
  refine call_meetsIn PySem.F.slot_dict_get dd.typeIs PySem.F.entry_dict_get (PySem.F.args_dict_get_3 _ _ _) (meets_dict_get_default (aI X.prog X.w) a (iE ry) hd r) ⟨_,dd.mapOf,h _ _ (I.tok _) ?_⟩
  rw [l]
  exact (rel.val k).getD rd
 ·subst ey
  cases (show u=Value.ref b from ry)
  obtain ⟨z,hd,xs,rel,dd⟩:=jo I.hok e
  refine call_meetsIn PySem.F.slot_dict_get dd.typeIs PySem.F.entry_dict_get (PySem.F.args_dict_get_3 _ _ _) (meetsH_dict_get_default (tupleKind (aI X.prog X.w)) a b hd r) ⟨tupleKind_room_in1 hu,k,xs,key_of I.hok eb,dd,h _ _ (I.tok _) ?_⟩
  rw [l]
  exact (rel.val k).getD rd
end
def Az (td ty:TE):TE:=fun σ H Q=>td σ H fun x H1=>∃a,x=.ref a/\IsD H1 a/\ty σ H1 fun y H2=>∃o,DGet H2 a y o/\Q (o.getD .non) H2
def qW (td ty tx:TE):TE:=fun σ H Q=>td σ H fun x H1=>∃a,x=.ref a/\IsD H1 a/\ty σ H1 fun y H2=>tx σ H2 fun z H3=>∃o,DGet H3 a y o/\Q (o.getD z) H3
def Ax (td ty:TE):TE:=fun σ H Q=>td σ H fun x H1=>∃a,x=.ref a/\IsD H1 a/\ty σ H1 fun y H2=>∃kvs k v,H2 a=some (.dK kvs)/\y=kV k/\aK kvs k=some v/\Q v (upd H2 a (.dK (ut kvs k)))
def Aw (td ty tx:TE):TE:=fun σ H Q=>td σ H fun x H1=>∃a,x=.ref a/\IsD H1 a/\ty σ H1 fun y H2=>tx σ H2 fun z H3=>∃kvs k,H3 a=some (.dK kvs)/\y=kV k /\
 (∀v,aK kvs k=some v->Q v (upd H3 a (.dK (ut kvs k))))/\(aK kvs k=none->Q z H3)
section
variable {X:Cx}{o e f:Expr}{apos cpos:Pos}{td ty tx:TE}
theorem r9 (hu:X.A.units+1<cLine) (ho:PE X o td) (he:PE X e ty) (hf:PE X f tx) (m:M2 X o "get" apos e f cpos):PE X (.Call (.Attribute o "get" apos) [e,f] [] cpos) (qW td ty tx):=by
 intro pins s σ H Q I h
 refine wpAny_Call_method m.base m.few m.line PySem.F.plainAttrs_dict PySem.F.slot_dict_get PySem.F.type_dict_get (thn (ho pins s σ H _ I h) fun u s1 ⟨x,H1,I1,rx,a,ex,d,q1⟩=>?_)
 subst ex
 obtain rfl:u=Value.ref a:=rx
 obtain ⟨t1,t2,_⟩:=kf I1 d
 refine ⟨t1,t2,?_⟩
 rw [m.trees]
 refine Calls.callWith_builtin rfl (Calls.evalArgs_plain (Calls.spliced_cons (thn (he pins s1 σ H1 _ I1 q1) fun iv s2 ⟨y,H2,I2,ry,q2⟩ =>
  Calls.spliced_cons (thn (hf pins s2 σ H2 _ I2 q2) fun fv s3 ⟨z,H3,I3,rz,ov,g,q3⟩=>Calls.spliced_nil ?_))))
 exact zc hu I3 g ry rz fun w' s4 I4 rw'=>⟨_,H3,I4,rw',q3⟩
end
section
variable {X:Cx}{pins:List (Addr×Obj)}{σ:St}{H:Hp}{s:Shared}{a:Addr}{kvs:List (Key×V)}{A:Around}{E:Value->Shared->Prop}
end
section
variable {X:Cx}{pins:List (Addr×Obj)}{σ:St}{H:Hp}{s:Shared}{a:Addr}{y:V}{u:Value}{A:Around}{E:Value->Shared->Prop}
end
section
variable {X:Cx}
end
section
variable {κ:Type} [DecidableEq κ]
theorem qO {kvs:List (κ×V)}{k:κ}(h:aK kvs k=none):¬ k∈kvs.map (·.1):=by
 intro m
 obtain ⟨p,hp,e⟩:=List.mem_map.mp m
 have q:(kvs.any fun kv=>decide (kv.1=k))=true:=List.any_eq_true.mpr ⟨p,hp,decide_eq_true e⟩
 rw [bW,h] at q
 exact absurd q (by simp)
theorem n8:∀{l:List κ}{k:κ},l.Nodup->¬ k∈l->(l++[k]).Nodup
 | [],k,_,_=>by simp
 | a :: r,k,h,hk=>by
  obtain ⟨h1,h2⟩:=List.nodup_cons.mp h
  show (a :: (r++[k])).Nodup
  refine List.nodup_cons.mpr ⟨fun m=>?_,n8 h2 fun m=>hk (List.mem_cons.mpr (Or.inr m))⟩
  rcases List.mem_append.mp m with q | q
  ·exact h1 q
  ·exact hk (List.mem_cons.mpr (Or.inl (List.mem_singleton.mp q).symm))
theorem n9 {kvs:List (κ×V)}{k:κ}(v:V) (hn:(kvs.map (·.1)).Nodup) (h:aK kvs k=none):((bp kvs k v).map (·.1)).Nodup:=by
 rw [fT v h,List.map_append]
 exact n8 hn (qO h)
end
section
variable {X:Cx}{pins:List (Addr×Obj)}{σ:St}{H:Hp}{s:Shared}{h':Heap}
theorem Inv.turnedL {t':Nat}{ch:List Addr}(I:Inv X pins σ H s) (k:∀b o,b ∉ ch->s.heap.get? b=some o->h'.get? b=some o) (hf:∀b∈ch,bJ X pins H b):Inv X pins σ H { s with heap:=h',toks:=t' }:=by
 have nit:∀b u,H b=some u->b ∉ ch:=fun b u e z=>by rw [(hf b z).1] at e; cases e
 refine I.step (g':=s.gens) (d':=s.drawn) (ch:=ch) (fun b hb=>⟨(hf b hb).2.2.2.1,(hf b hb).2.1,(hf b hb).2.2.2.2.1,(hf b hb).2.2.2.2.2⟩) (fun b o _ _ hc e _=>k b o hc e) (fun b o _ _ hc e _=>⟨o.slots,k b o hc e⟩) (fun _ _ _ _ n=>n)
  (fun b o hc e=>⟨o,k b o hc e⟩) (fun _ _ e=>e) (fun _ _ _ e=>e) (fun b ps e=>⟨#[],by rw [e]; simp⟩) (fun m hm=>?_) (fun b u e=>?_) I.bare
 ·obtain ⟨o,es,ep,ho,r⟩:=hm
  exact ⟨o,es,ep,k _ o (fun z=>(hf _ z).2.1 rfl) ho,r⟩
 ·refine (I.hok b u e).stay (fun c v hc q=>k c v ?_ q) (fun _ q=>q) fun _ _ q=>q
  rcases hc with z | z
  ·rw [z]; exact nit b u e
  ·exact nit c _ z
end
def Ite (K:PySem.W.Frag) (a:Addr):It :=
 ⟨fun i H=>∃xs x,SqL K H a xs/\xs[i]?=some x,fun i H x H'=>∃p v,x=.ref p/\H p=none/\H'=upd H p (.tup [.int (i:Int),v])/\∀xs,SqL K H a xs->xs[i]?=some v,fun i H=>∃xs,SqL K H a xs/\xs.length<=i⟩
theorem pi {P:Program}{w:World}{K:PySem.W.Frag}{elts:List Expr}{x1} {pos:Pos}(a e it:Addr) (hne:e≠it) :
  kt P w K (.Tuple elts x1 pos) (Ite K a) [e,it] e (fun i h=>∃old,IsEnum h e it (i:Int) old/\h.IsListIter it a i) where
 mem:=by simp
 obj:=fun i h st b hb=>by
  obtain ⟨old,he,o,e1,c,d⟩:=st
  have hb':b=e\/b=it:=by simpa using hb
  rcases hb' with rfl | rfl
  ·exact ⟨_,he,fun v z=>by
    have z':Data.fields _=Data.cell v:=z
    cases z'⟩
  ·exact ⟨o,e1,fun v z=>by rw [d] at z; cases z⟩
 keep:=fun i h h' st k=>by
  obtain ⟨old,he,hi⟩:=st
  exact ⟨old,k e (by simp) _ he,hi.at fun o q=>k it (by simp) o q⟩
 item:=by
  intro X hP hw hK hc i pins s σ H E I hf st hg
  subst hP hw hK
  obtain ⟨xs,x,hq,hx⟩:=hg
  obtain ⟨old,he,hit⟩:=st
  obtain ⟨its,rv,p,hz⟩:=I.list hq
  obtain ⟨u,hu,ru⟩:=rv.get hx
  refine wpAny_pyNext_enum_item he hit p.isList (x:=u) (by simpa using hu) hne fun h1 eo hit1 ht hz1 hk1=>?_
  refine ⟨_,rfl,wpAny_letOwnedTupleGo_enum (s:={ s with heap:=h1,toks:=s.toks+1 }) eo fun h2 he2 hs2=>?_⟩
  have hs2':Heap.SameBut e h1 h2:=hs2
  have nH:H s.heap.objs.size=none:=I.hok.fresh (Nat.le_refl _)
  have eL:e<s.heap.objs.size:=Heap.lt_size he
  obtain ⟨oi,hoi,ci,di⟩:=id hit
  have iL:it<s.heap.objs.size:=Heap.lt_size hoi
  have ht2:h2.get? s.heap.objs.size=some { cls:=.type "tuple",data:=.seq #[.int i s.toks,u] }:=(hs2'.2 _ (Nat.ne_of_gt eL)).trans ht
  have pg:(s.heap.push { cls:=.type "tuple",data:=.seq #[.int i s.toks,u] }).get? s.heap.objs.size=some { cls:=.type "tuple",data:=.seq #[.int i s.toks,u] }:=Heap.get?_push_size _ rfl
  have J1:=I.laid (a:=s.heap.objs.size) (o:=.tup [.int (i:Int),x]) (h':=s.heap.push { cls:=.type "tuple",data:=.seq #[.int i s.toks,u] }) (t':=s.toks) (fun b v z=>Heap.get?_push_of_some _ z) (Nat.le_refl _)
   ⟨(by show 2<=sizeLine; decide),[.int i s.toks,u],.cons ⟨_,rfl⟩ (.cons ru .nil),⟨_,pg,rfl,_,rfl⟩⟩
  have fp':∀b∈[e,it],bJ X pins (upd H s.heap.objs.size (.tup [.int (i:Int),x])) b:=fun b hb=>by
   obtain ⟨f0,f1,f2,f3,f4,f5⟩:=hf b hb
   have hb':b=e\/b=it:=by simpa using hb
   refine ⟨?_,f1,f2,f3,f4,f5⟩
   rw [ah (by rcases hb' with rfl | rfl; exact Nat.ne_of_lt eL; exact Nat.ne_of_lt iL)]
   exact f0
  have J2:=J1.turnedL (h':=h2) (t':=s.toks+1) (ch:=[e,it]) (fun b o hb z=>by
   have n1:b≠e:=fun y=>hb (by simp [y])
   have n2:b≠it:=fun y=>hb (by simp [y])
   by_cases hp:b=s.heap.objs.size
   ·subst hp
    have z':s.heap.objs.size=s.heap.objs.size->(s.heap.push { cls:=.type "tuple",data:=.seq #[.int i s.toks,u] }).get? s.heap.objs.size=some o:=fun _=>z
    rw [pg] at z'
    have:=z' rfl
    cases this
    exact ht2
   ·have z2:s.heap.get? b=some o:=bY z hp
    exact (hs2'.2 b n1).trans (hk1 b o n1 n2 z2)) fp'
  refine ⟨.ref s.heap.objs.size,_,J2,rfl,⟨_,x,rfl,nH,rfl,fun ys hy=>by rw [I.list_inj hy hq]; exact hx⟩,⟨u,?_,?_⟩,fun b hb=>(fp' b hb).1⟩
  ·have e1:((i:Int)+1)=((i+1:Nat):Int):=by omega
   rw [<- e1]
   exact he2
  ·exact hit1.at fun o q=>(hs2'.2 it (Ne.symm hne)).trans q
 done:=by
  intro X hP hw hK hc i pins s σ H E I hf st hg
  subst hP hw hK
  obtain ⟨xs,hq,hx⟩:=hg
  obtain ⟨old,he,hit⟩:=st
  obtain ⟨its,rv,p,hz⟩:=I.list hq
  have hl:=rv.length
  refine wpAny_pyNext_enum_end (I.ok.hd hc) he hit p.isList (by simp; omega) fun h' eb=>⟨rfl,I.turnedL (t':=s.toks) (ch:=[e,it]) (fun b o hb z=>eb b o (fun y=>hb (by simp [y])) z) hf⟩
 self:=fun _ _ _ _ _ st h=>by
  obtain ⟨old,he,_⟩:=st
  exact wpAny_pyIter_enum he h
def xj (K:PySem.W.Frag) (ta:TA):TI:=fun σ H R=>ta σ H fun vs H1=>∃a,vs=[.ref a]/\(∃xs,SqL K H1 a xs)/\R (Ite K a) H1
section
variable {X:Cx}
theorem vC {elts:List Expr}{x1} {tpos p pos:Pos}{a:Expr}{ta:TA}(hg:Gl X "enumerate") (hm:X.mg "enumerate"=none) (hbt:bootBuiltins "enumerate"=some (.type "enumerate")) (ha:PA X [a] ta) (hs:starEach [a] X.env=[(false,eval a X.env)]:=by rfl) :
  PI X (.Tuple elts x1 tpos) (.Call (.Name "enumerate" p) [a] [] pos) (xj X.K ta):=by
 intro pins s σ H R I h
 refine Call_ (bP I hg hm hbt (PyProof.Rows.callWith_type1 (thn (ha pos pins s σ H _ I h) fun us s1 ⟨vs,H1,I1,r1,q1⟩=>?_) hs rfl))
 obtain ⟨a,rfl,⟨xs,hq⟩,q⟩:=q1
 obtain ⟨u,rfl,ru⟩:=dY r1
 cases ru
 obtain ⟨its,rv,pl,hz⟩:=I1.list hq
 refine call_enumerate_list pl.isList fun h' he hi hsz hk=>?_
 refine wpAny_pyIter_enum he ?_
 have I2:Inv X pins σ H1 { s1 with heap:=h' }:=I1.kept (t':=s1.toks) hk
 refine ⟨s1.heap.objs.size+1,[s1.heap.objs.size+1,s1.heap.objs.size],_,_,H1,rfl,I2,pi a _ _ (Nat.succ_ne_self _),⟨_,he,hi⟩,fun b hb=>?_,q⟩
 have hb':b=s1.heap.objs.size+1\/b=s1.heap.objs.size:=by simpa using hb
 rcases hb' with rfl | rfl
 ·exact I1.fpOk (Nat.le_succ _) (I1.hok.fresh (Nat.le_succ _))
 ·exact I1.fpOk (Nat.le_refl _) (I1.hok.fresh (Nat.le_refl _))
theorem ll {K:PySem.W.Frag}{a:Addr}{xs:List V}{g:TG}{tb:TS}{D:Ends}{σ:St}{H:Hp}(Pv:Nat->St->Hp->Prop) (h0:Pv 0 σ H) (hl:∀i σ H,i<=xs.length->Pv i σ H->SqL K H a xs)
  (hs:∀i x σ H p,xs[i]?=some x->Pv i σ H->H p=none->g (.ref p) σ (upd H p (.tup [.int (i:Int),x])) fun σ2 H2=>tb { D with nx:=Pv (i+1),ct:=Pv (i+1),bk:=D.nx } σ2 H2) (hd:∀ σ H,Pv xs.length σ H->D.nx σ H) :
  ∃W:Nat->Nat->St->Hp->Prop,(∃m,W 0 m σ H)/\∀i m σ H,W i m σ H ->
   ((Ite K a).stop i H/\D.nx σ H)\/((Ite K a).go i H/\∃N:St->Hp->Prop,(∀ σ' H',N σ' H'->∃m',m'<m/\W (i+1) m' σ' H')/\∀x H',(Ite K a).yld i H x H'->g x σ H' fun σ2 H2=>tb { D with nx:=N,ct:=N,bk:=D.nx } σ2 H2):=by
 refine ⟨fun i m σ H=>m=xs.length-i/\i<=xs.length/\Pv i σ H,⟨xs.length,by simp,Nat.zero_le _,h0⟩,?_⟩
 rintro i m σ H ⟨rfl,hi,p⟩
 have q:=hl i σ H hi p
 by_cases hlt:i<xs.length
 ·refine .inr ⟨⟨xs,xs[i],q,by simp [hlt]⟩,Pv (i+1),fun σ' H' p'=>⟨xs.length-(i+1),by omega,rfl,hlt,p'⟩,fun x H' y=>?_⟩
  obtain ⟨pp,v,rfl,hn,rfl,y⟩:=y
  exact hs i v σ H pp (y xs q) p hn
 ·have e:i=xs.length:=by omega
  subst e
  exact .inl ⟨⟨xs,q,Nat.le_refl _⟩,hd σ H p⟩
end
section
variable {X:Cx}
def Bk (K:PySem.W.Frag):V->List V->Hp->VK->Prop:=fun x vs H Q=>∃z p l,x=.str z/\vs=[.ref p]/\SqL K H p (l.map V.str)/\JoinOk z l=true/\Q (.str (Txt.join z l)) H
end
def ax:Expr->Bool
 | .Starred _ _=>false
 | _=>true
theorem au {e:Expr}{es:List Expr}{env:Env}(h:ax e=true):starEach (e :: es) env=(false,eval e env) :: starEach es env:=by
 cases e <;> first | rfl | cases h
theorem bi {env:Env}{pos:Pos}:∀{es:List Expr},es.all ax=true->(backTo pos (starEach es env)).any (·.1)=false
 | [],_=>rfl
 | e :: es,h=>by
  rw [List.all_cons,Bool.and_eq_true] at h
  rw [au h.1]
  show (false||(backTo pos (starEach es env)).any (·.1))=false
  rw [bi h.2]
  rfl
section
variable {X:Cx}
theorem pw' (i:Nat) {x:Str}{pos:Pos}(hN:X.N[i]?=some x:=by kernel_rfl) (hv:X.env.scope.names.lookup x=some .local:=by kernel_rfl) (hd:(x == ("__debug__":Str))=false:=by kernel_rfl)
  (hcd:(x == ("__classdict__":Str))=false:=by kernel_rfl):PE X (.Name x pos) (lX i):=j1 hN (.inl hv) hd hcd
theorem pc' (i:Nat) {x:Str}{pos:Pos}(hN:X.N[i]?=some x:=by kernel_rfl) (hv:X.env.scope.names.lookup x=some .cell:=by kernel_rfl) (hd:(x == ("__debug__":Str))=false:=by kernel_rfl)
  (hcd:(x == ("__classdict__":Str))=false:=by kernel_rfl):PE X (.Name x pos) (lX i):=j1 hN (.inr (.inl hv)) hd hcd
theorem vn {i:Nat}{x:Str}{e:Expr}{te:TE}{pos pos':Pos}(hN:X.N.Nodup) (he:PE X e te) (hi:X.N[i]?=some x:=by kernel_rfl) (hx:X.env.scope.names.lookup x=some .local:=by kernel_rfl)
  (hs:swapsWith e (some (.Name x pos')) pos.line X.env=pure false:=by kernel_rfl):PS X (.Assign [.Name x pos'] e pos) (gk te (bZ i)):=rK (i:=i) hN hi (.inl hx) he hs (.inr hx)
theorem vo {i:Nat}{x:Str}{e:Expr}{te:TE}{pos pos':Pos}(hN:X.N.Nodup) (hfn:X.fn x=true) (he:PE X e te) (hi:X.N[i]?=some x:=by kernel_rfl) (hx:X.env.scope.names.lookup x=some .cell:=by kernel_rfl)
  (hs:swapsWith e (some (.Name x pos')) pos.line X.env=pure false:=by kernel_rfl):PS X (.Assign [.Name x pos'] e pos) (gk te (bZ i)):=rK (i:=i) hN hi (.inr hx) he hs (.inl hfn)
theorem rT {i:Nat}{x:Str}{pos:Pos}(hN:X.N.Nodup) (hi:X.N[i]?=some x:=by kernel_rfl) (hx:X.env.scope.names.lookup x=some .local:=by kernel_rfl):PG X (.Name x pos) (bZ i):=nQ hN hi (.inl hx) (.inr hx)
theorem pa' {e:Expr}{es:List Expr}{te:TE}{t:TA}(ha:PE X e te) (hr:PA X es t) (hs:ax e=true:=by rfl):PA X (e :: es) (cu te t):=vO ha hr (au hs)
theorem sk {CX:CXT}{j k:Nat}{ps:List Str}{sp:Sp}{E:XK}{x:Str}{p pos:Pos}{e:Expr}{es:List Expr}{t:TA}(D:Def X.prog X.w X.K X.mg X.base CX x j ps sp) (hr:Room k X.A) (hx:bC CX X E) (ha:PA X (e :: es) t) (hj:j<=k:=by decide) (hg:X.env.kindOf x=some .globalImplicit:=by kernel_rfl)
  (hdb:(x == ("__debug__":Str))=false:=by kernel_rfl) (he:ax e=true:=by rfl) (hpl:es.all ax=true:=by rfl) :
  PE X (.Call (.Name x p) (e :: es) [] pos) (nr sp [] E t):=so D hr hx ha hj hg hdb (au he) (bi hpl)
theorem pN {j k:Nat}{ps:List Str}{sp:Sp}{x:Str}{p pos:Pos}{e:Expr}{es:List Expr}{t:TA}(D:Def X.prog X.w X.K X.mg X.base (CX1 X.prog X.w) x j ps sp) (hr:Room k X.A) (ha:PA X.nox (e :: es) t) (hj:j<=k:=by decide) (hg:X.env.kindOf x=some .globalImplicit:=by kernel_rfl)
  (hdb:(x == ("__debug__":Str))=false:=by kernel_rfl) (he:ax e=true:=by rfl) (hpl:es.all ax=true:=by rfl) :
  PEX X (.Call (.Name x p) (e :: es) [] pos) (jz sp [] t):=pO D hr ha hj hg hdb (au he) (bi hpl)
theorem pb' {id:String}{r:List V->Hp->VK->Prop}{x:Str}{p pos:Pos}{e:Expr}{es:List Expr}{t:TA}(hc:bN X (.builtin id) r) (hm:X.mg x=none) (hv:bootBuiltins x=some (.builtin id)) (ha:PA X (e :: es) t) (hg:X.env.kindOf x=some .globalImplicit:=by kernel_rfl) (hn:x≠"__name__":=by decide) (hdb:(x == ("__debug__":Str))=false:=by kernel_rfl)
  (he:ax e=true:=by rfl) (hpl:es.all ax=true:=by rfl):PE X (.Call (.Name x p) (e :: es) [] pos) (tCB r t):=sq hc hg hm hv ha hn hdb (au he) (bi hpl)
theorem pt' {T:String}{r:List V->Hp->VK->Prop}{x:Str}{p pos:Pos}{e:Expr}{es:List Expr}{t:TA}(hc:bN X (.type T) r) (hm:X.mg x=none) (hv:bootBuiltins x=some (.type T)) (ha:PA X (e :: es) t) (hg:X.env.kindOf x=some .globalImplicit:=by kernel_rfl) (hn:x≠"__name__":=by decide) (hdb:(x == ("__debug__":Str))=false:=by kernel_rfl)
  (he:ax e=true:=by rfl) (hpl:es.all ax=true:=by rfl):PE X (.Call (.Name x p) (e :: es) [] pos) (tCB r t):=pP hc hg hm hv ha hn hdb (au he) (bi hpl)
theorem pgl {x:Str}{v:V}{u:Value}{pos:Pos}(hm:X.mg x=some u) (r:RelV v u) (hg:X.env.kindOf x=some .globalImplicit:=by kernel_rfl) (hd:(x == ("__debug__":Str))=false:=by kernel_rfl):PE X (.Name x pos) (tC v):=vF hg hm r hd
theorem pbl {x:Str}{v:V}{u:Value}{pos:Pos}(hm:X.mg x=none) (hv:bootBuiltins x=some u) (r:RelV v u) (hg:X.env.kindOf x=some .globalImplicit:=by kernel_rfl) (hn:x≠"__name__":=by decide) (hd:(x == ("__debug__":Str))=false:=by kernel_rfl):PE X (.Name x pos) (tC v):=vL hg hm hv r hn hd
end
end L2
set_option autoImplicit true
set_option relaxedAutoImplicit true
namespace L2
open PySem PySem.Spec PyProof.Rows
structure QE (X:Cx) (e:Expr) (t:TE):Prop where
 h:PE X e t
structure QT (X:Cx) (e:Expr) (t:TT):Prop where
 h:PT X e t
structure QW (X:Cx) (e:Expr) (t:TT):Prop where
 h:PW X e t
structure QA (X:Cx) (es:List Expr) (t:TA):Prop where
 h:PA X es t
structure QS (X:Cx) (st:Stmt) (t:TS):Prop where
 h:PS X st t
structure QSs (X:Cx) (st:List Stmt) (t:TS):Prop where
 h:PSs X st t
structure QG (X:Cx) (e:Expr) (t:TG):Prop where
 h:PG X e t
structure QGs (X:Cx) (es:List Expr) (t:TGs):Prop where
 h:PGs X es t
structure QO (X:Cx) (e:Option Expr) (t:TO):Prop where
 h:PO X e t
structure QI (X:Cx) (tg it:Expr) (t:TI):Prop where
 h:PI X tg it t
structure QX (X:Cx) (e:Expr) (t:TX):Prop where
 h:PEX X e t
section
variable {X:Cx}
theorem ae {i j pos}:QE X (.Constant (.int i) j pos) (tC (.int i)):=⟨yq⟩
theorem aF {x j pos}:QE X (.Constant (.str x) j pos) (tC (.str x)):=⟨yk⟩
theorem i8 {b j pos}:QE X (.Constant (.bool b) j pos) (tC (.bl b)):=⟨zV⟩
theorem xq {j pos}:QE X (.Constant .none j pos) (tC .non):=⟨yo⟩
theorem e_v (i:Nat) {x:Str}{pos:Pos}(hN:X.N[i]?=some x:=by kernel_rfl) (hv:X.env.scope.names.lookup x=some .local:=by kernel_rfl) (hd:(x == ("__debug__":Str))=false:=by kernel_rfl) (hcd:(x == ("__classdict__":Str))=false:=by kernel_rfl):QE X (.Name x pos) (lX i):=⟨pw' i hN hv hd hcd⟩
theorem e_c (i:Nat) {x:Str}{pos:Pos}(hN:X.N[i]?=some x:=by kernel_rfl) (hv:X.env.scope.names.lookup x=some .cell:=by kernel_rfl) (hd:(x == ("__debug__":Str))=false:=by kernel_rfl) (hcd:(x == ("__classdict__":Str))=false:=by kernel_rfl):QE X (.Name x pos) (lX i):=⟨pc' i hN hv hd hcd⟩
theorem e_n (i:Nat) {x:Str}{pos:Pos}(hN:X.N[i]?=some x:=by rfl) (hv:Vis X.env.scope x:=by first | exact Or.inl rfl | exact Or.inr (Or.inl rfl) | exact Or.inr (Or.inr rfl)) (hd:(x == ("__debug__":Str))=false:=by kernel_rfl) (hcd:(x == ("__classdict__":Str))=false:=by kernel_rfl):QE X (.Name x pos) (lX i):=⟨j1 hN hv hd hcd⟩
theorem cg {x:Str}{v:V}{u:Value}{pos:Pos}(hm:X.mg x=some u) (r:RelV v u) (hg:X.env.kindOf x=some .globalImplicit:=by kernel_rfl) (hd:(x == ("__debug__":Str))=false:=by kernel_rfl):QE X (.Name x pos) (tC v):=⟨pgl hm r hg hd⟩
theorem y7 {x:Str}{v:V}{u:Value}{pos:Pos}(hm:X.mg x=none) (hv:bootBuiltins x=some u) (r:RelV v u) (hg:X.env.kindOf x=some .globalImplicit:=by kernel_rfl) (hn:x≠"__name__":=by decide) (hd:(x == ("__debug__":Str))=false:=by kernel_rfl):QE X (.Name x pos) (tC v):=⟨pbl hm hv r hg hn hd⟩
theorem az {op:Operator}{r:R2}{a b:Expr}{ta tb:TE}{pos:Pos}(ho:OpR X (binaryOp op) r) (ha:QE X a ta) (hb:QE X b tb):QE X (.BinOp a op b pos) (tOp r ta tb):=⟨zT ho ha.h hb.h⟩
theorem eW {op:UnaryOp}{r:V->Hp->VK->Prop}{a:Expr}{ta:TE}{pos:Pos}(ho:UnR X (unaryOp op) r) (ha:QE X a ta):QE X (.UnaryOp op a pos) (tUn r ta):=⟨zS ho ha.h⟩
theorem eM {op:CmpOp}{r:R2}{a b:Expr}{ta tb:TE}{pos:Pos}(ho:OpR X (compareOp op) r) (ha:QE X a ta) (hb:QE X b tb) (hm:behindInMarks op b=false:=by first | exact tj _ | with_unfolding_all rfl):QE X (.Compare a [op] [b] pos) (tOp r ta tb):=⟨vJ ho ha.h hb.h hm⟩
theorem aN {op:CmpOp}{r:R2}{a b:Expr}{ta tb:TE}{pos:Pos}(ho:OpR X (compareOp op) r) (ha:QE X a ta) (hb:QE X b tb) (hm:behindInMarks op b=false:=by first | exact tj _ | with_unfolding_all rfl):QT X (.Compare a [op] [b] pos) (nh (tOp r ta tb)):=⟨vh ho ha.h hb.h hm⟩
theorem wB {op op':CmpOp}{r r':R2}{a b c:Expr}{ta tb tc:TE}{pos:Pos}(ho:OpR X (compareOp op) r) (ho':OpR X (compareOp op') r') (ha:QE X a ta) (hb:QE X b tb) (hc:QE X c tc) (hm:lastMarks [op,op'] [b,c]=false:=by with_unfolding_all rfl) :
  QE X (.Compare a [op,op'] [b,c] pos) (jy r r' ta tb tc):=⟨sf ho ho' ha.h hb.h hc.h hm⟩
theorem ng {op op':CmpOp}{r r':R2}{a b c:Expr}{ta tb tc:TE}{pos:Pos}(ho:OpR X (compareOp op) r) (ho':OpR X (compareOp op') r') (ha:QE X a ta) (hb:QE X b tb) (hc:QE X c tc) (hm:lastMarks [op,op'] [b,c]=false:=by with_unfolding_all rfl) :
  QT X (.Compare a [op,op'] [b,c] pos) (nh (jy r r' ta tb tc)):=⟨rH ho ho' ha.h hb.h hc.h hm⟩
theorem Ai {a:Expr}{ta:TE}{j pos pos'} (ha:QE X a ta):QE X (.Compare a [.Is] [.Constant .none j pos'] pos) (zA ta):=⟨sd (yt ha.h)⟩
theorem yZ {a:Expr}{ta:TE}{j pos pos'} (ha:QE X a ta):QE X (.Compare a [.IsNot] [.Constant .none j pos'] pos) (wV ta):=⟨sd (vM ha.h)⟩
theorem kC {i o:Expr}{ty td:TE}{pos} (hu:X.A.units+1<cLine) (hi:QE X i ty) (ho:QE X o td) (h1:behindInMarks .NotIn o=false:=by with_unfolding_all rfl):QT X (.Compare i [.NotIn] [o] pos) (tB (nq ty td)):=⟨ya (pQ hu hi.h ho.h) h1⟩
theorem d_ {e:Expr}{t:TE}(h:QE X e t) (he:∀whole,isTrue e X.env whole=(do let v <- whole; standAt e.pos; holding [v] (truthy v)):=by intro _; rfl):QT X e (tB t):=⟨x9 h.h he⟩
theorem g7 {a:Expr}{t:TT}{pos} (h:QT X a t):QT X (.UnaryOp .Not a pos) (zx t):=⟨x_ h.h⟩
theorem t_w {e:Expr}{t:TT}(h:QW X e t):QT X e t:=⟨PW.pt h.h⟩
theorem fg {a:Expr}{t:TT}{pos} (h:QT X a t):QW X (.BoolOp .And [a] pos) t:=⟨vf h.h⟩
theorem gB {a:Expr}{t:TT}{pos} (h:QT X a t):QW X (.BoolOp .Or [a] pos) t:=⟨xZ h.h⟩
theorem g0 {a b:Expr}{rest:List Expr}{t u:TT}{pos} (ha:QT X a t) (hb:QW X (.BoolOp .And (b :: rest) pos) u):QW X (.BoolOp .And (a :: b :: rest) pos) (zE t u):=⟨x8 ha.h hb.h⟩
theorem iX {a b:Expr}{rest:List Expr}{t u:TT}{pos} (ha:QT X a t) (hb:QW X (.BoolOp .Or (b :: rest) pos) u):QW X (.BoolOp .Or (a :: b :: rest) pos) (tOr t u):=⟨zP ha.h hb.h⟩
theorem jn {op} {a:Expr}{t:TE}{pos} (h:QE X a t):QE X (.BoolOp op [a] pos) t:=⟨ym h.h⟩
theorem fc {a b:Expr}{rest:List Expr}{ta tb:TE}{pos} (ha:QE X a ta) (hb:QE X (.BoolOp .And (b :: rest) pos) tb):QE X (.BoolOp .And (a :: b :: rest) pos) (w4 ta tb):=⟨yr ha.h hb.h⟩
theorem Ah {a:Expr}{ta:TE}{pos} (ha:QE X a ta):QE X (.UnaryOp .Not a pos) (wU ta):=⟨yn ha.h⟩
theorem A3 {c a b:Expr}{t:TT}{ta tb:TE}{pos} (hc:QT X c t) (ha:QE X a ta) (hb:QE X b tb):QE X (.IfExp c a b pos) (tIf t ta tb):=⟨rZ hc.h ha.h hb.h⟩
theorem af:QA X [] g9:=⟨cV⟩
theorem aa {e:Expr}{es:List Expr}{te:TE}{t:TA}(ha:QE X e te) (hr:QA X es t) (hs:ax e=true:=by rfl):QA X (e :: es) (cu te t):=⟨pa' ha.h hr.h hs⟩
theorem ba {es:List Expr}{t:TA}{pos} (h:QA X es t):QE X (.List es pos) (zy t):=⟨yp h.h⟩
theorem aX {es:List Expr}{t:TA}{x1 pos} (h:QA X es t):QE X (.Tuple es x1 pos) (zu t):=⟨yj h.h⟩
theorem ar {r:R2}{a b:Expr}{ta tb:TE}{pos} (hr:IxR X r) (ha:QE X a ta) (hb:QE X b tb) (hs:o0 b:=by exact fun _ _=>rfl):QE X (.Subscript a b pos) (tOp r ta tb):=⟨zU hr ha.h hb.h hs⟩
theorem cW:QO X none nn:=⟨vz⟩
theorem bG {e:Expr}{t:TE}(h:QE X e t):QO X (some e) (wT t):=⟨vy h.h⟩
theorem gM {r:V->Option Int->Option Int->Hp->VK->Prop}{e:Expr}{lo hi:Option Expr}{te:TE}{tl th:TO}{p2 pos} (hr:SlR X r) (he:QE X e te) (hl:QO X lo tl) (hu:QO X hi th):QE X (.Subscript e (.Slice lo hi none p2) pos) (tSl r te tl th):=⟨rX hr he.h hl.h hu.h⟩
theorem ao {CX:CXT}{j k:Nat}{ps:List Str}{sp:Sp}{E:XK}{x:Str}{p pos:Pos}{e:Expr}{es:List Expr}{t:TA}(D:Def X.prog X.w X.K X.mg X.base CX x j ps sp) (hr:Room k X.A) (hx:bC CX X E) (ha:QA X (e :: es) t) (hj:j<=k:=by decide) (hg:X.env.kindOf x=some .globalImplicit:=by kernel_rfl)
  (hdb:(x == ("__debug__":Str))=false:=by kernel_rfl) (he:ax e=true:=by rfl) (hpl:es.all ax=true:=by rfl):QE X (.Call (.Name x p) (e :: es) [] pos) (nr sp [] E t):=⟨sk D hr hx ha.h hj hg hdb he hpl⟩
theorem xw {j k:Nat}{ps:List Str}{sp:Sp}{x:Str}{p pos:Pos}{e:Expr}{es:List Expr}{t:TA}(D:Def X.prog X.w X.K X.mg X.base (CX1 X.prog X.w) x j ps sp) (hr:Room k X.A) (ha:QA X.nox (e :: es) t) (hj:j<=k:=by decide) (hg:X.env.kindOf x=some .globalImplicit:=by kernel_rfl)
  (hdb:(x == ("__debug__":Str))=false:=by kernel_rfl) (he:ax e=true:=by rfl) (hpl:es.all ax=true:=by rfl):QX X (.Call (.Name x p) (e :: es) [] pos) (jz sp [] t):=⟨pN D hr ha.h hj hg hdb he hpl⟩
theorem e_b {id:String}{r:List V->Hp->VK->Prop}{x:Str}{p pos:Pos}{e:Expr}{es:List Expr}{t:TA}(hc:bN X (.builtin id) r) (hm:X.mg x=none) (hv:bootBuiltins x=some (.builtin id)) (ha:QA X (e :: es) t) (hg:X.env.kindOf x=some .globalImplicit:=by kernel_rfl) (hn:x≠"__name__":=by decide) (hdb:(x == ("__debug__":Str))=false:=by kernel_rfl)
  (he:ax e=true:=by rfl) (hpl:es.all ax=true:=by rfl):QE X (.Call (.Name x p) (e :: es) [] pos) (tCB r t):=⟨pb' hc hm hv ha.h hg hn hdb he hpl⟩
theorem e_t {T:String}{r:List V->Hp->VK->Prop}{x:Str}{p pos:Pos}{e:Expr}{es:List Expr}{t:TA}(hc:bN X (.type T) r) (hm:X.mg x=none) (hv:bootBuiltins x=some (.type T)) (ha:QA X (e :: es) t) (hg:X.env.kindOf x=some .globalImplicit:=by kernel_rfl) (hn:x≠"__name__":=by decide) (hdb:(x == ("__debug__":Str))=false:=by kernel_rfl)
  (he:ax e=true:=by rfl) (hpl:es.all ax=true:=by rfl):QE X (.Call (.Name x p) (e :: es) [] pos) (tCB r t):=⟨pt' hc hm hv ha.h hg hn hdb he hpl⟩
theorem bg {o e:Expr}{to te:TE}{apos cpos:Pos}(ho:QE X o to) (ha:QE X e te) (hs:ax e=true:=by rfl) (hbase:attributeBase o "append" X.env (eval o X.env)=eval o X.env:=by rfl) (hline:(apos.endLine == cpos.line)=true:=by rfl) :
  QE X (.Call (.Attribute o "append" apos) [e] [] cpos) (tBM X.K "list" nN to (cu te g9)):=⟨w9 PySem.F.plainAttrs_list PySem.F.slot_list_append PySem.F.type_list_append eQ ho.h (pa' ha.h cV hs) hbase (by rw [au hs]; rfl) hline (au hs)⟩
theorem Ag {e:Expr}{f:Str}{pos:Pos}{ta:TE}(he:QE X e ta) (hb:attributeBase e f X.env (eval e X.env)=eval e X.env:=by rfl):QE X (.Attribute e f pos) (wR X.K ta f):=⟨vE he.h hb⟩
theorem kl {pos}:QE X (.Dict [] [] pos) qV:=⟨r8⟩
theorem dU {x:Str}{px pos:Pos}{elt iter:Expr}{sc:Scope}{wi:TI}{te:TE}(ys:List Str) (js:List Nat) (cl:List (Str×Addr)) (hclos:closureFor sc X.env=pure cl) (hcap:Caps X sc cl ys js) (hin:ClIn X.env cl)
  (hi:QI X.nox (.Name x px) iter wi) (he:∀s2 H2 C ex,QE (aD X sc (x :: ys) cl s2 H2 C ex) elt te) (hc:X.calm=true:=by rfl)
  (hcell:(sc.names.all fun p=>p.2 != NameKind.cell)=true:=by rfl) (hkind:sc.kind=.function:=by rfl) (hnames:(sc.names.all fun p=>p.2 != NameKind.local||sc.names.lookup p.1 == some NameKind.local)=true:=by rfl)
  (hx:(relabel sc X.env).names.lookup x=some .local:=by rfl) (hhas:((relabel sc X.env).names.all fun p=>p.2 == NameKind.local||p.2 == NameKind.globalImplicit||(cl.lookup p.1).isSome)=true:=by rfl)
  (hnd:(x :: ys).Nodup:=by decide +kernel) (hs:∀v,foldedSetIterable iter X.env v=pure v:=by intro _; rfl):QE X (.ListComp elt [⟨.Name x px,iter,[],0⟩] sc pos) (fN wi js te) :=
 ⟨r_ ys js cl hclos hcap hin hi.h (fun a b c d=>(he a b c d).h) hc hcell hkind hnames hx hhas hnd hs⟩
theorem aL:QSs X [] wW:=⟨vj⟩
theorem ag {st:Stmt}{rest:List Stmt}{t u:TS}(h1:QS X st t) (h2:QSs X rest u):QSs X (st :: rest) (zv t u):=⟨rJ h1.h h2.h⟩
theorem aj {st:Stmt}{t:TS}(h1:QS X st t):QSs X [st] t:=⟨vi h1.h⟩
theorem aw {i:Nat}{x:Str}{e:Expr}{te:TE}{pos pos':Pos}(hN:X.N.Nodup) (he:QE X e te) (hi:X.N[i]?=some x:=by kernel_rfl) (hx:X.env.scope.names.lookup x=some .local:=by kernel_rfl)
  (hs:swapsWith e (some (.Name x pos')) pos.line X.env=pure false:=by kernel_rfl):QS X (.Assign [.Name x pos'] e pos) (gk te (bZ i)):=⟨vn (i:=i) hN he.h hi hx hs⟩
theorem rj {i:Nat}{x:Str}{e:Expr}{te:TE}{pos pos':Pos}(hN:X.N.Nodup) (he:QE X e te) (hfn:X.fn x=true:=by rfl) (hi:X.N[i]?=some x:=by kernel_rfl) (hx:X.env.scope.names.lookup x=some .cell:=by kernel_rfl)
  (hs:swapsWith e (some (.Name x pos')) pos.line X.env=pure false:=by kernel_rfl):QS X (.Assign [.Name x pos'] e pos) (gk te (bZ i)):=⟨vo (i:=i) hN hfn he.h hi hx hs⟩
theorem kI {tg e:Expr}{te:TE}{g:TG}{pos} (he:QE X e te) (hg:QG X tg g) (hs:swapsWithSole [tg] e pos.line X.env=pure false:=by rfl) (hw:swappedStores [tg] e X.env=pure none:=by rfl)
  (h1:(assignEach [tg] X.env).map (·.2)=[assign tg X.env]:=by rfl):QS X (.Assign [tg] e pos) (gk te g):=⟨ye he.h hg.h hs hw h1⟩
theorem bc {c:Expr}{a b:List Stmt}{tc:TT}{t u:TS}{pos} (hc:QT X c tc) (ha:QSs X a t) (hb:QSs X b u):QS X (.If c a b pos) (zB tc t u):=⟨zQ hc.h ha.h hb.h⟩
theorem bM {tg iter:Expr}{body:List Stmt}{wi:TI}{g:TG}{tb:TS}{pos} (hp:PassesOwn (model X.prog X.w) X.A X.env X.xe) (hc:X.calm=true) (hi:QI X tg iter wi) (hg:QG X tg g) (hb:QSs X body tb)
  (hs:∀x,foldedSetIterable iter X.env x=pure x:=by intro _; rfl):QS X (.For tg iter body [] pos) (zC wi g tb):=⟨yc hp hc hi.h hg.h hb.h hs⟩
theorem aB {e:Expr}{t:TE}{pos} (h:QE X e t):QS X (.Return (some e) pos) (zw t):=⟨yb h.h⟩
theorem aP {e:Expr}{t:TE}{pos} (h:QE X e t) (hs:swapsWith e none pos.line X.env=pure false:=by rfl):QS X (.Expr e pos) (wX t):=⟨vp h.h hs⟩
theorem eZ {st:Stmt}{t:TS}(h:QS X st t):QS X st (zD t):=⟨yd h.h⟩
theorem jQ {o value:Expr}{f:Str}{pos pos':Pos}{ta tv:TE}(ha:QE X o ta) (hv:QE X value tv) (hs:swapsWith value (some (.Attribute o f pos')) pos.line X.env=pure false:=by rfl):QS X (.Assign [.Attribute o f pos'] value pos) (sX X.K ta tv f):=⟨vk ha.h hv.h hs⟩
theorem jW {o i value:Expr}{td ty tv:TE}{pos pos':Pos}(hu:X.A.units+1<cLine) (ho:QE X o td) (hi:QE X i ty) (hv:QE X value tv) (hs:swapsWith value (some (.Subscript o i pos')) pos.line X.env=pure false:=by rfl):QS X (.Assign [.Subscript o i pos'] value pos) (w5 td ty tv):=⟨vq hu ho.h hi.h hv.h hs⟩
theorem aM {i:Nat}{x:Str}{pos:Pos}(hN:X.N.Nodup) (hi:X.N[i]?=some x:=by kernel_rfl) (hx:X.env.scope.names.lookup x=some .local:=by kernel_rfl):QG X (.Name x pos) (bZ i):=⟨rT hN hi hx⟩
theorem dP:QGs X [] Af:=⟨vD⟩
theorem aS {e:Expr}{es:List Expr}{t:TG}{u:TGs}(h1:QG X e t) (h2:QGs X es u) (hs:(assignEach (e :: es) X.env).map (·.2)=assign e X.env :: (assignEach es X.env).map (·.2):=by rfl):QGs X (e :: es) (xm t u):=⟨rS h1.h h2.h hs⟩
theorem f8 {es:List Expr}{k:Nat}{t:TGs}{n:Nat}{pos} (hc:X.calm=true) (h:QGs X es t) (hn:(assignEach es X.env).length=n:=by rfl) (hst:(assignEach es X.env).findIdx? (·.1)=none:=by rfl):QG X (.Tuple es k pos) (Ad X.K n t):=⟨yh hc h.h hn hst⟩
theorem bB {tg l:Expr}{t:TE}(h:QE X l t):QI X tg l (xi X.K t):=⟨vB h.h⟩
theorem lj {tg l:Expr}{t:TE}(h:QE X l t):QI X tg l (Aa X.K t):=⟨yg h.h⟩
theorem mF {tg a:Expr}{t:TE}{p pos:Pos}(hm:X.mg "range"=none) (ha:QE X a t) (hg:X.env.kindOf "range"=some .globalImplicit:=by kernel_rfl) (hs:ax a=true:=by rfl):QI X tg (.Call (.Name "range" p) [a] [] pos) (xg (cu t g9)):=⟨pM hg hm (pa' ha.h cV hs) ((au hs).trans rfl)⟩
theorem tU {elts:List Expr}{x1} {tpos p pos:Pos}{a:Expr}{t:TE}(hm:X.mg "enumerate"=none) (ha:QE X a t) (hg:X.env.kindOf "enumerate"=some .globalImplicit:=by kernel_rfl) (hs:ax a=true:=by rfl):QI X (.Tuple elts x1 tpos) (.Call (.Name "enumerate" p) [a] [] pos) (xj X.K (cu t g9)) :=
 ⟨vC hg hm (by decide +kernel) (pa' ha.h cV hs) ((au hs).trans rfl)⟩
end
section
variable {P:Program}{w:World}{K:PySem.W.Frag}{mg:Str->Option Value}{base:Heap}{N:List Str}{qual:Str}{scope:Scope}{f:Addr}{cd:Value}{A:Around}{outer:List Env}{s₀:Shared}{H₀:Hp}{E:XK}
theorem jS {x:Str}{C:Addr}{e:Expr}{es:List Expr}{t:TA}{np cpos pos:Pos}(hm:mg x=some (.ref C)) (hq:PySem.W.excIn K C bmVE "ValueError.__new__"=true) (ha:QA (bb (CX1 P w) P w K mg base N qual scope f cd A outer s₀ H₀ E) (e :: es) t)
  (hg:(bb (CX1 P w) P w K mg base N qual scope f cd A outer s₀ H₀ E).env.kindOf x=some .globalImplicit:=by kernel_rfl) (hd:(x == ("__debug__":Str))=false:=by kernel_rfl) (he:ax e=true:=by rfl) (hpl:es.all ax=true:=by rfl) :
  QS (bb (CX1 P w) P w K mg base N qual scope f cd A outer s₀ H₀ E) (.Raise (some (.Call (.Name x np) (e :: es) [] cpos)) none pos) (qS C E t):=⟨rL hg hm hq ha.h hd (au he) (bi hpl)⟩
theorem dh {x:Str}{C fI:Addr}{fd:FuncData}{ps:List Str}{sp:Sp}{k j:Nat}{e:Expr}{es:List Expr}{t:TA}{np cpos pos:Pos}(hm:mg x=some (.ref C)) (R:dW K C fI)
  (G:aG P w K mg base CX0 k fI fd ps sp) (hr:Room j (bb (CX1 P w) P w K mg base N qual scope f cd A outer s₀ H₀ E).A) (hb:Binds K fd ps [])
  (ha:QA (bb (CX1 P w) P w K mg base N qual scope f cd A outer s₀ H₀ E) (e :: es) t) (hj:k+1<=j:=by decide) (hg:(bb (CX1 P w) P w K mg base N qual scope f cd A outer s₀ H₀ E).env.kindOf x=some .globalImplicit:=by kernel_rfl) (hdb:(x == ("__debug__":Str))=false:=by kernel_rfl) (he:ax e=true:=by rfl) (hpl:es.all ax=true:=by rfl) :
  QS (bb (CX1 P w) P w K mg base N qual scope f cd A outer s₀ H₀ E) (.Raise (some (.Call (.Name x np) (e :: es) [] cpos)) none pos) (ni C sp E t):=⟨pJ hg hm R G (hr.mono hj) hb ha.h hdb (au he) (bi hpl)⟩
end
section
variable {X:Cx}{pos:Pos}
def Bv (K:PySem.W.Frag) (n:Nat) (t:TGs):TG:=fun v σ H Q=>∃a xs,v=.ref a/\SqL K H a xs/\xs.length=n/\t xs σ H Q
theorem Def.never {P:Program}{w:World}{K:PySem.W.Frag}{mg:Str->Option Value}{base h:Heap}{CX:CXT}{x:Str}{k:Nat}{ps:List Str}{st:Stmt}(X:K.In h) (G:h.Ns mainGlobals mg) (FI:aC K x st)
  (hb:∀(kV doc pm:Value) (an:Option Addr) (cdv ct:Value) (us:List Value),us.length=ps.length->bindArgs (PySem.W.fnOf x x (bS st) (bq st) (ak st) .none kV doc pm an cdv ct) ⟨us,[]⟩=pure (ps.zip us)) :
  Def P w K mg base CX x k ps (fun _ _ _ _=>False):=Def.of X G FI (fun f fd F=>⟨fun _ _ _ _ z=>z.elim,fun _ _ _ _ _ _ _ _ _ _ _ _ _ z=>z.elim⟩) hb
end
def wS (K:PySem.W.Frag) (j:Nat) (S:Addr) (tx:TX) (ts:Addr->TS):TS:=fun D σ H =>
 tx σ H (fun v H1=>D.nx σ H1) fun cls d H1=>∃C bm nid,cls=.ref C/\ExcC K C bm nid/\(Value.ref C :: bm).contains (.ref S)=true /\
  ∀a,H1 a=none->ts a { nx:=fun σ' H'=>D.nx (σ'.set j none) H',rt:=D.rt,bk:=fun σ' H'=>D.bk (σ'.set j none) H',ct:=fun σ' H'=>D.ct (σ'.set j none) H' } (σ.set j (some (.ref a))) (upd H1 a (iK a cls d))
section
variable {X:Cx}
theorem vm {j:Nat}{n S':Str}{S:Addr}{bmS:List Value}{idS:String}{ce:Expr}{b0:Stmt}{suite:List Stmt}{np apos hpos pos:Pos}{tx:TX}{ts:Addr->TS}
  (hN:X.N.Nodup) (hj:X.N[j]?=some n) (hn:X.env.scope.names.lookup n=some .local) (hfr:X.env.frame=some X.env.locals) (hst:X.stack=X.env :: X.outer) (hex:X.ex=[])
  (hgS:Gl X S') (hmS:X.mg S'=some (.ref S)) (cS:ExcC X.K S bmS idS) (hbS:bmS.contains (.type "BaseException")=true) (hx:PEX X ce tx) (hs:∀a,PSs (X.caught a).nox (b0 :: suite) (ts a))
  (hsw:swapsWith ce none apos.line X.env=pure false:=by rfl) (hdb:(S' == ("__debug__":Str))=false:=by decide) :
  PS X (.Try [.Expr ce apos] [.ExceptHandler (some (.Name S' np)) (some n) (b0 :: suite) hpos] [] [] pos) (wS X.K j S tx ts):=by
 intro pins s σ H D I h
 refine wpAny_Try_except (wpAny_execs_cons (wpAny_Expr_any (wpAny_mono (hx pins s σ H _ _ I h) ?ok ?err) I.quiet hsw))
 case ok =>
  rintro v s1 ⟨x,H1,I1,r1,q1⟩
  exact wpAny_execs_nil (wpAny_execs_nil ⟨_,H1,I1,q1⟩)
 case err =>
  rintro e s1 ⟨H0,s0,I0,a,cls,d,B,H',rfl,os,bare,un,hok,fl,ha,b1,b2,b3,C,bm,nid,rfl,cC,hup,q⟩
  have fl':=fl
  rw [hst] at fl'
  have hA:X.A.frames=some (X.env :: X.outer):=by rw [I.ok.frames,hst]
  have fr0:=qk I0 un fl b3
  refine gw (B:=B) hA hfr fl' fun h4 x4 y4=>?_
  refine iI (s:={ s1 with heap:=h4 }) x4 fun h5 x5 y5=>?_
  have I5:Inv X pins σ H' { s1 with heap:=h5 }:=I0.flown os bare un hok fl.stays b1 b2 b3 x5.stays (y4.trans y5)
  refine wpAny_handleBy_cons (codeAny_handlers_test ?_) (by intro z; cases z)
  refine Calls.Name_function_global I5.ok.kind hgS (Calls.loadGlobal_global (by rw [I5.ok.glob]; exact I5.mod.glob.keeps I5.bk) hmS ?_) hdb
  obtain ⟨ox,ws,e1,e2,e3,e4⟩:=x5.obj
  obtain ⟨_,_,_,_,_,_,_,_,_,_,_,_,_,_,_,lC⟩:=cC
  obtain ⟨_,_,_,_,_,_,_,_,_,_,_,_,_,_,_,lS⟩:=cS
  refine mt (s:={ s1 with heap:=h5 }) (I5.kIn _ _ lC) (I5.kIn _ _ lS) e1 e2 hbS hup ?_
  show codeAny _ _ (.handlers (.ref a) [.ExceptHandler none (some n) (b0 :: suite) hpos] X.env) _ _
  refine codeAny_handlers_suite_as ?_
  refine iI (s:={ s1 with heap:=h5 }) x5 fun h6 x6 y6=>?_
  have I6:Inv X pins σ H' { s1 with heap:=h6 }:=I0.flown os bare un hok fl.stays b1 b2 b3 x6.stays ((y4.trans y5).trans y6)
  have I7:Inv X pins σ (upd H' a (iK a (.ref C) d)) { s1 with heap:=h6 }:=by
   refine I6.track ha ?_ ?_ ?_ ?_ (ww x6.obj)
   ·obtain ⟨m,⟨o,_,_,ho,_⟩,_⟩:=I0.loc
    intro z
    rw [<- z,fr0] at ho
    cases ho
   ·intro x c ec z
    obtain ⟨v,o,ho,_⟩:=I0.cell x c ec
    rw [z,fr0] at ho
    cases ho
   ·intro p hp z
    have ho:=(I0.pin p hp).1
    rw [z,fr0] at ho
    cases ho
   ·cases z:X.s₀.heap.get? a with
    | none=>rfl
    | some o =>
     obtain ⟨o',ho⟩:=I0.base.there a o z (by rw [hex]; simp)
     rw [fr0] at ho
     cases ho
  have I8:=(I7.caught a).wish fun _ _=>False
  refine de (X:=(X.caught a).nox) (M:=model X.prog X.w) (i:=j) (v:=.ref a) I8 hN hj (.inl hn) rfl (fun s7 I9=>?_) (.inr hn)
  refine wpAny_mono (hs a pins s7 _ _ _ I9 (q a ha)) ?_ fun _ _ z=>False.elim z
  intro f s8 z
  show wpAny _ _ (do bindName X.env n .none; unbindBehindTheSuite X.env n hpos) _ _ _
  cases f with
  | next =>
   obtain ⟨σ',H8,J,z⟩:=z
   exact Inv.unname (J.unwish.uncaught I.ok) hN hj hn fun s9 J9=>⟨_,H8,J9,z⟩
  | brk =>
   obtain ⟨σ',H8,J,z⟩:=z
   exact Inv.unname (J.unwish.uncaught I.ok) hN hj hn fun s9 J9=>⟨_,H8,J9,z⟩
  | cont =>
   obtain ⟨σ',H8,J,z⟩:=z
   exact Inv.unname (J.unwish.uncaught I.ok) hN hj hn fun s9 J9=>⟨_,H8,J9,z⟩
  | ret u =>
   obtain ⟨v,σ',H8,J,r,z⟩:=z
   exact Inv.unname (J.unwish.uncaught I.ok) hN hj hn fun s9 J9=>⟨v,_,H8,J9,r,z⟩
theorem xM {j:Nat}{n S':Str}{S:Addr}{bmS:List Value}{idS:String}{ce:Expr}{b0:Stmt}{suite:List Stmt}{np apos hpos pos:Pos}{tx:TX}{ts:Addr->TS}
  (hN:X.N.Nodup) (hmS:X.mg S'=some (.ref S)) (cS:ExcC X.K S bmS idS) (hbS:bmS.contains (.type "BaseException")=true) (hx:QX X ce tx) (hs:∀a,QSs (X.caught a).nox (b0 :: suite) (ts a))
  (hj:X.N[j]?=some n:=by kernel_rfl) (hn:X.env.scope.names.lookup n=some .local:=by kernel_rfl) (hfr:X.env.frame=some X.env.locals:=by rfl) (hst:X.stack=X.env :: X.outer:=by rfl) (hex:X.ex=[]:=by rfl)
  (hgS:X.env.kindOf S'=some .globalImplicit:=by kernel_rfl) (hsw:swapsWith ce none apos.line X.env=pure false:=by rfl) (hdb:(S' == ("__debug__":Str))=false:=by kernel_rfl) :
  QS X (.Try [.Expr ce apos] [.ExceptHandler (some (.Name S' np)) (some n) (b0 :: suite) hpos] [] [] pos) (wS X.K j S tx ts) :=
 ⟨vm (j:=j) hN hj hn hfr hst hex hgS hmS cS hbS hx.h (fun a=>(hs a).h) hsw hdb⟩
end
def iZ (i:Int) (n:Nat) (k:Int):List V:=(List.range n).map fun (m:Nat)=>V.int (i+(m:Int)*k)
theorem rp {i k:Int}{n:Nat}:(iZ i n k).length=n:=by unfold iZ; rw [List.length_map,List.length_range]
theorem kx {i k:Int}:∀(n:Nat) (us:List Value) (o:Nat),us.length=n->(∀(j:Nat) v,us[j]?=some v->∃t,v=.int (i+((o+j:Nat):Int)*k) t)->Vals ((List.range' o n).map fun (m:Nat)=>V.int (i+(m:Int)*k)) us
 | 0,[],_,_,_=>.nil
 | n+1,u :: us,o,hl,h=>by
  rw [List.range'_succ,List.map_cons]
  refine .cons ?_ (kx n us (o+1) (by simpa using hl) fun j v e=>?_)
  ·obtain ⟨t,rfl⟩:=h 0 u rfl
   exact ⟨t,rfl⟩
  ·obtain ⟨t,rfl⟩:=h (j+1) v (by simpa using e)
   exact ⟨t,by rw [show o+1+j=o+(j+1) by omega]⟩
section
variable {X:Cx}
theorem tE {pins:List (Addr×Obj)}{σ:St}{H:Hp}{s:Shared}{r:Addr}{a b c:Int}{t u v:Tok}{n:Nat}{Q:VK}{E:Value->Shared->Prop}(hc:X.calm=true) (I:Inv X pins σ H s) (hr:IsRange s.heap r a b c t u v)
  (hsmall:Builtin.Range.small a b c=true) (hn:Builtin.Range.rangeSize a b c=n) (hlen:n<=2 ^ 24) (q:∀l,H l=none->Q (.ref l) (upd H l (.lst (iZ a n c)))) :
  wpAny (model X.prog X.w) X.A (call (.type "list") [.ref r]) (EP X pins σ Q) E s:=by
 refine call_list_range (I.ok.hd hc) hr hsmall hn hlen fun h' tk acc' c' hk hS' hacc=>?_
 have rv:Vals (iZ a n c) acc'.toList:=by
  unfold iZ
  rw [List.range_eq_range']
  refine kx n acc'.toList 0 (by rw [Array.length_toList]; exact hacc.1) fun j v e=>?_
  obtain ⟨t,rfl⟩:=hacc.2 j v (by simpa using e)
  exact ⟨t,by rw [Nat.zero_add]⟩
 have zl:=sizeLine_eq
 refine ⟨.ref s.heap.objs.size,_,I.laid (t':=tk) hk (Nat.le_refl _) (show ObjOk X.prog X.w _ h' _ (.lst (iZ a n c)) from ⟨by rw [rp]; omega,acc'.toList,c',rv,by simpa using hS'⟩),rfl,q _ (I.hok.fresh (Nat.le_refl _))⟩
def gZ (i:Int):Prop:=-(2 ^ 62)<=i/\i<2 ^ 62
def qT (ta:TA):TE:=fun σ H Q=>ta σ H fun vs H1=>∃i j k:Int,vs=[.int i,.int j,.int k]/\gZ i/\gZ j/\∃n:Nat,((k=1/\n=(j-i).toNat)\/(k=-1/\n=(i-j).toNat))/\n<=2 ^ 24/\∀l,H1 l=none->Q (.ref l) (upd H1 l (.lst (iZ i n k)))
def Av (ta:TA):TE:=fun σ H Q=>ta σ H fun vs H1=>∃i j:Int,vs=[.int i,.int j]/\gZ i/\gZ j/\(j-i).toNat<=2 ^ 24/\∀l,H1 l=none->Q (.ref l) (upd H1 l (.lst (iZ i (j-i).toNat 1)))
theorem rY {a b c:Expr}{ta:TA}{p p' pos pos':Pos}(hc:X.calm=true) (hgl:X.env.kindOf "list"=some .globalImplicit) (hml:X.mg "list"=none) (hg:X.env.kindOf "range"=some .globalImplicit) (hm:X.mg "range"=none) (ha:PA X [a,b,c] ta)
  (h1:ax a=true) (h2:ax b=true) (h3:ax c=true):PE X (.Call (.Name "list" p) [.Call (.Name "range" p') [a,b,c] [] pos'] [] pos) (qT ta):=by
 intro pins s σ H Q I h
 refine Call_ (bP (u:=.type "list") I hgl hml (by decide +kernel) (PyProof.Rows.callWith_type1 ?_ rfl rfl))
 show wpAny _ _ (spliced ((false,eval (.Call (.Name "range" p') [a,b,c] [] pos') X.env) :: backTo pos (starEach [] X.env))) _ _ s
 refine Calls.spliced_cons (Call_ (bP I hg hm boot_range (PyProof.Rows.callWith_type1 (thn (ha pos' pins s σ H _ I h) fun us s1 ⟨vs,H1,I1,r1,q1⟩=>?_) (au h1) (bi (by simp [h2,h3])))))
 obtain ⟨i,j,k,e,si,sj,n,hk,hn,q⟩:=q1
 subst e
 cases r1 with
 | cons r rr =>
  cases rr with
  | cons r' rr =>
   cases rr with
   | cons r'' rr =>
    cases rr
    obtain ⟨t,rfl⟩:=r
    obtain ⟨t',rfl⟩:=r'
    obtain ⟨t'',rfl⟩:=r''
    refine call_range_3 (by omega) ?_ (Or.inl (PyProof.noPylong_small (by omega)))
    refine Calls.spliced_nil ?_
    have I2:Inv X pins σ H1 { s1 with heap:=s1.heap.push { cls:=.type "range",data:=.fields #[.int i t,.int j t',.int k t''] },toks:=s1.toks }:=I1.kept fun b o e=>Heap.get?_push_of_some _ e
    refine tE hc I2 (IsRange.new ..) ?_ ?_ hn q
    ·rcases hk with ⟨rfl,_⟩ | ⟨rfl,_⟩
     ·exact small_one si.1 si.2 sj.1 sj.2
     ·exact PySem.W.small_down si.1 si.2 sj.1 sj.2
    ·rcases hk with ⟨rfl,rfl⟩ | ⟨rfl,rfl⟩
     ·exact PyProof.Rows.rangeSize_nat i j
     ·exact PySem.W.rangeSize_downNat i j
theorem wz {a b c:Expr}{t1 t2 t3:TE}{p p' pos pos':Pos}(hc:X.calm=true) (hml:X.mg "list"=none) (hm:X.mg "range"=none) (h1:QE X a t1) (h2:QE X b t2) (h3:QE X c t3) (hgl:X.env.kindOf "list"=some .globalImplicit:=by kernel_rfl) (hg:X.env.kindOf "range"=some .globalImplicit:=by kernel_rfl)
  (s1:ax a=true:=by rfl) (s2:ax b=true:=by rfl) (s3:ax c=true:=by rfl):QE X (.Call (.Name "list" p) [.Call (.Name "range" p') [a,b,c] [] pos'] [] pos) (qT (cu t1 (cu t2 (cu t3 g9)))):=⟨rY hc hgl hml hg hm (pa' h1.h (pa' h2.h (pa' h3.h cV s3) s2) s1) s1 s2 s3⟩
theorem ud {o i:Expr}{to ti:TE}{pos:Pos}(ho:QE X o to) (hi:QE X i ti)
  (ha:∀v,assign (.Subscript o i pos) X.env v=(do
   let ov <- holding [v] (eval o X.env)
   let iv <- holding [v,ov] (eval i X.env)
   standAt pos
   holding [v,ov,iv] (setItem ov iv v)
   release [v,ov,iv] []):=by intro _; rfl):QG X (.Subscript o i pos) (Ae to ti w8):=⟨yi ho.h hi.h rh ha⟩
theorem ow {n j:Nat}(h:j<n):ixN n (j:Int)=some j:=by
 unfold ixN
 simp [h]
theorem tS {n:Nat}(h:0<n):ixN n (-1)=some (n-1):=by
 unfold ixN
 simp
 omega
end
section
variable {X:Cx}{K:PySem.W.Frag}
theorem tR (hK:X.K=K):IxR X (xY K):=by subst hK; exact aJ
theorem dN (hK:X.K=K):IxR X (xX K):=by subst hK; exact am
end
theorem aW {X:Cx}{b:List Stmt}{t:TS}{D:Ends}{σ:St}{H:Hp}(h:QSs X b t) (r:t D σ H):∃t,PSs X b t/\t D σ H:=⟨t,h.h,r⟩
def Itz (K:PySem.W.Frag) (a b:Addr):It :=
  ⟨fun i H=>∃xs ys x y,SqL K H a xs/\SqL K H b ys/\xs[i]?=some x/\ys[i]?=some y,
   fun i H x H'=>∃p v w,x=.ref p/\H p=none/\H'=upd H p (.tup [v,w])/\(∀xs,SqL K H a xs->xs[i]?=some v)/\(∀ys,SqL K H b ys->ys[i]?=some w),
   fun i H=>∃xs ys,SqL K H a xs/\SqL K H b ys/\(xs.length<=i\/ys.length<=i)⟩
theorem qP {P:Program}{w:World}{K:PySem.W.Frag}{elts:List Expr}{x1} {pos:Pos}(a b z TI TO i1 i2:Addr) (D:ZipApart z TI TO i1 i2 a b) :
  kt P w K (.Tuple elts x1 pos) (Itz K a b) [z,TI,TO,i1,i2] z (fun i h=>IsZip h z TI TO .none/\IsPair h TI (.ref i1) (.ref i2)/\(∃u v,IsPair h TO u v)/\h.IsListIter i1 a i/\h.IsListIter i2 b i) where
 mem:=by simp
 obj:=fun i h st c hc=>by
  obtain ⟨hz,hTI,⟨u,v,hTO⟩,⟨o1,e1,c1,d1⟩,⟨o2,e2,c2,d2⟩⟩:=st
  have hc':c=z\/c=TI\/c=TO\/c=i1\/c=i2:=by simpa using hc
  rcases hc' with rfl | rfl | rfl | rfl | rfl
  ·exact ⟨_,hz,fun v z=>by
    have z':Data.fields _=Data.cell v:=z
    cases z'⟩
  ·exact ⟨_,hTI,fun v z=>by
    have z':Data.seq _ _=Data.cell v:=z
    cases z'⟩
  ·exact ⟨_,hTO,fun v z=>by
    have z':Data.seq _ _=Data.cell v:=z
    cases z'⟩
  ·exact ⟨o1,e1,fun v z=>by rw [d1] at z; cases z⟩
  ·exact ⟨o2,e2,fun v z=>by rw [d2] at z; cases z⟩
 keep:=fun i h h' st k=>by
  obtain ⟨hz,hTI,⟨u,v,hTO⟩,h1,h2⟩:=st
  exact ⟨k z (by simp) _ hz,k TI (by simp) _ hTI,⟨u,v,k TO (by simp) _ hTO⟩,h1.at fun o q=>k i1 (by simp) o q,h2.at fun o q=>k i2 (by simp) o q⟩
 item:=by
  intro X hP hw hK hc i pins s σ H E I hf st hg
  subst hP hw hK
  obtain ⟨xs,ys,x,y,hq1,hq2,hx,hy⟩:=hg
  obtain ⟨hz,hTI,⟨u0,v0,hTO⟩,h1,h2⟩:=st
  obtain ⟨its1,rv1,p1,hz1⟩:=I.list hq1
  obtain ⟨its2,rv2,p2,hz2⟩:=I.list hq2
  obtain ⟨u,hu,ru⟩:=rv1.get hx
  obtain ⟨v,hv,rv⟩:=rv2.get hy
  refine wpAny_pyNext_zip_item D hz hTI hTO h1 h2 p1.isList p2.isList (x:=u) (y:=v) (by simpa using hu) (by simpa using hv) fun g1 a1 a2 a3 a4 a5 a6 hk=>?_
  refine ⟨_,rfl,wpAny_letOwnedTupleGo_zip (s:={ s with heap:=g1 }) a1 fun g2 hz2' hs2=>?_⟩
  have hs2':Heap.SameBut z g1 g2:=hs2
  have nH:H s.heap.objs.size=none:=I.hok.fresh (Nat.le_refl _)
  have lt:∀c∈[z,TI,TO,i1,i2],c<s.heap.objs.size:=fun c hc=>by
   have hc':c=z\/c=TI\/c=TO\/c=i1\/c=i2:=by simpa using hc
   rcases hc' with rfl | rfl | rfl | rfl | rfl
   ·exact Heap.lt_size hz
   ·exact Heap.lt_size hTI
   ·exact Heap.lt_size hTO
   ·obtain ⟨o,e,_⟩:=id h1; exact Heap.lt_size e
   ·obtain ⟨o,e,_⟩:=id h2; exact Heap.lt_size e
  have ht2:g2.get? s.heap.objs.size=some { cls:=.type "tuple",data:=.seq #[u,v] }:=(hs2'.2 _ (Nat.ne_of_gt (lt z (by simp)))).trans a5
  have pg:(s.heap.push { cls:=.type "tuple",data:=.seq #[u,v] }).get? s.heap.objs.size=some { cls:=.type "tuple",data:=.seq #[u,v] }:=Heap.get?_push_size _ rfl
  have J1:=I.laid (a:=s.heap.objs.size) (o:=.tup [x,y]) (h':=s.heap.push { cls:=.type "tuple",data:=.seq #[u,v] }) (t':=s.toks) (fun b v z=>Heap.get?_push_of_some _ z) (Nat.le_refl _)
   ⟨(by show 2<=sizeLine; decide),[u,v],.cons ru (.cons rv .nil),⟨_,pg,rfl,_,rfl⟩⟩
  have fp':∀c∈[z,TI,TO,i1,i2],bJ X pins (upd H s.heap.objs.size (.tup [x,y])) c:=fun c hc=>by
   obtain ⟨f0,f1,f2,f3,f4,f5⟩:=hf c hc
   refine ⟨?_,f1,f2,f3,f4,f5⟩
   rw [ah (Nat.ne_of_lt (lt c hc))]
   exact f0
  have J2:=J1.turnedL (h':=g2) (t':=s.toks) (ch:=[z,TI,TO,i1,i2]) (fun c o hc zz=>by
   have n1:c≠z:=fun y=>hc (by simp [y])
   have n2:c≠TO:=fun y=>hc (by simp [y])
   have n3:c≠i1:=fun y=>hc (by simp [y])
   have n4:c≠i2:=fun y=>hc (by simp [y])
   by_cases hp:c=s.heap.objs.size
   ·subst hp
    have z':s.heap.objs.size=s.heap.objs.size->(s.heap.push { cls:=.type "tuple",data:=.seq #[u,v] }).get? s.heap.objs.size=some o:=fun _=>zz
    rw [pg] at z'
    have:=z' rfl
    cases this
    exact ht2
   ·have z2:s.heap.get? c=some o:=bY zz hp
    exact (hs2'.2 c n1).trans (hk c o n1 n2 n3 n4 z2)) fp'
  refine ⟨.ref s.heap.objs.size,_,J2,rfl,⟨_,x,y,rfl,nH,rfl,fun l hl=>by rw [I.list_inj hl hq1]; exact hx,fun l hl=>by rw [I.list_inj hl hq2]; exact hy⟩,⟨hz2',?_,⟨u,v,?_⟩,?_,?_⟩,fun c hc=>(fp' c hc).1⟩
  ·exact (hs2'.2 _ D.TIz).trans (hk _ _ D.TIz D.TITO D.TIi1 D.TIi2 hTI)
  ·exact (hs2'.2 _ D.TOz).trans a2
  ·exact a3.at fun o q=>(hs2'.2 _ D.i1z).trans q
  ·exact a4.at fun o q=>(hs2'.2 _ D.i2z).trans q
 done:=by
  intro X hP hw hK hc i pins s σ H E I hf st hg
  subst hP hw hK
  obtain ⟨xs,ys,hq1,hq2,hx⟩:=hg
  obtain ⟨hz,hTI,⟨u0,v0,hTO⟩,h1,h2⟩:=st
  obtain ⟨its1,rv1,p1,hz1⟩:=I.list hq1
  obtain ⟨its2,rv2,p2,hz2⟩:=I.list hq2
  have hl1:=rv1.length
  have hl2:=rv2.length
  refine wpAny_pyNext_zip_end (I.ok.hd hc) D hz hTI hTO h1 h2 p1.isList p2.isList ?_ fun h' eb=>⟨rfl,I.turnedL (t':=s.toks) (ch:=[z,TI,TO,i1,i2]) (fun c o hc zz=>eb c o (fun y=>hc (by simp [y])) (fun y=>hc (by simp [y])) (fun y=>hc (by simp [y])) (fun y=>hc (by simp [y])) zz) hf⟩
  rcases hx with q | q
  ·left; simp; omega
  ·right; simp; omega
 self:=fun _ _ _ _ _ st h=>by
  obtain ⟨hz,_⟩:=st
  exact wpAny_pyIter_zip hz h
def z_ (K:PySem.W.Frag) (ta:TA):TI:=fun σ H R=>ta σ H fun vs H1=>∃a b,vs=[.ref a,.ref b]/\(∃xs,SqL K H1 a xs)/\(∃ys,SqL K H1 b ys)/\R (Itz K a b) H1
section
variable {X:Cx}
theorem yf {elts:List Expr}{x1} {tpos p pos:Pos}{a b:Expr}{ta:TA}(hg:Gl X "zip") (hm:X.mg "zip"=none) (hbt:bootBuiltins "zip"=some (.type "zip")) (ha:PA X [a,b] ta) (h1:ax a=true) (h2:ax b=true) :
  PI X (.Tuple elts x1 tpos) (.Call (.Name "zip" p) [a,b] [] pos) (z_ X.K ta):=by
 intro pins s σ H R I h
 refine Call_ (bP I hg hm hbt (PyProof.Rows.callWith_type1 (thn (ha pos pins s σ H _ I h) fun us s1 ⟨vs,H1,I1,r1,q1⟩=>?_) (au h1) (bi (by simp [h2]))))
 obtain ⟨a,b,rfl,⟨xs,hq1⟩,⟨ys,hq2⟩,q⟩:=q1
 cases r1 with
 | cons r rr =>
  cases rr with
  | cons r' rr =>
   cases rr
   cases r
   cases r'
   obtain ⟨its1,rv1,p1,hz1⟩:=I1.list hq1
   obtain ⟨its2,rv2,p2,hz2⟩:=I1.list hq2
   refine call_zip_2 p1.isList p2.isList fun h' he hTI hTO hi1 hi2 hsz hk=>?_
   refine wpAny_pyIter_zip he ?_
   have I2:Inv X pins σ H1 { s1 with heap:=h' }:=I1.kept (t':=s1.toks) hk
   have la:a<s1.heap.objs.size:=by obtain ⟨o,e,_⟩:=p1.isList; exact Heap.lt_size e
   have lb:b<s1.heap.objs.size:=by obtain ⟨o,e,_⟩:=p2.isList; exact Heap.lt_size e
   have up:∀(m k:Nat),m<s1.heap.objs.size->m≠s1.heap.objs.size+k:=fun m k h=>Nat.ne_of_lt (Nat.lt_of_lt_of_le h (Nat.le_add_right _ k))
   have nk:∀j k:Nat,j≠k->s1.heap.objs.size+j≠s1.heap.objs.size+k:=fun j k h z=>h (Nat.add_left_cancel z)
   have n0:∀k:Nat,0≠k->s1.heap.objs.size≠s1.heap.objs.size+k:=fun k h z=>nk 0 k h z
   have D:ZipApart (s1.heap.objs.size+4) (s1.heap.objs.size+2) (s1.heap.objs.size+3) s1.heap.objs.size (s1.heap.objs.size+1) a b :=
    ⟨nk 2 4 (by decide),nk 3 4 (by decide),n0 4 (by decide),nk 1 4 (by decide),nk 2 3 (by decide),(n0 2 (by decide)).symm,nk 2 1 (by decide),(n0 3 (by decide)).symm,nk 3 1 (by decide),n0 1 (by decide),up a 4 la,up a 3 la,Nat.ne_of_lt la,up a 1 la,up b 4 lb,up b 3 lb,Nat.ne_of_lt lb,up b 1 lb⟩
   refine ⟨s1.heap.objs.size+4,[s1.heap.objs.size+4,s1.heap.objs.size+2,s1.heap.objs.size+3,s1.heap.objs.size,s1.heap.objs.size+1],_,_,H1,rfl,I2,qP a b _ _ _ _ _ D,⟨he,hTI,⟨_,_,hTO⟩,hi1,hi2⟩,fun c hc=>?_,q⟩
   have hc':s1.heap.objs.size<=c:=by
    have hc'':c=s1.heap.objs.size+4\/c=s1.heap.objs.size+2\/c=s1.heap.objs.size+3\/c=s1.heap.objs.size\/c=s1.heap.objs.size+1:=by simpa using hc
    rcases hc'' with rfl | rfl | rfl | rfl | rfl
    ·exact Nat.le_add_right _ 4
    ·exact Nat.le_add_right _ 2
    ·exact Nat.le_add_right _ 3
    ·exact Nat.le_refl _
    ·exact Nat.le_add_right _ 1
   exact I1.fpOk hc' (I1.hok.fresh hc')
theorem z9 {elts:List Expr}{x1} {tpos p pos:Pos}{a b:Expr}{t u:TE}(hm:X.mg "zip"=none) (ha:QE X a t) (hb:QE X b u) (hg:X.env.kindOf "zip"=some .globalImplicit:=by kernel_rfl) (h1:ax a=true:=by rfl) (h2:ax b=true:=by rfl) :
  QI X (.Tuple elts x1 tpos) (.Call (.Name "zip" p) [a,b] [] pos) (z_ X.K (cu t (cu u g9))):=⟨yf hg hm (by decide +kernel) (pa' ha.h (pa' hb.h cV h2) h1) h1 h2⟩
theorem wp {K:PySem.W.Frag}{a b:Addr}{xs ys:List V}{g:TG}{tb:TS}{D:Ends}{σ:St}{H:Hp}(Pv:Nat->St->Hp->Prop) (he:xs.length=ys.length) (h0:Pv 0 σ H) (hl:∀i σ H,i<=xs.length->Pv i σ H->SqL K H a xs/\SqL K H b ys)
  (hs:∀i x y σ H p,xs[i]?=some x->ys[i]?=some y->Pv i σ H->H p=none->g (.ref p) σ (upd H p (.tup [x,y])) fun σ2 H2=>tb { D with nx:=Pv (i+1),ct:=Pv (i+1),bk:=D.nx } σ2 H2) (hd:∀ σ H,Pv xs.length σ H->D.nx σ H) :
  ∃W:Nat->Nat->St->Hp->Prop,(∃m,W 0 m σ H)/\∀i m σ H,W i m σ H ->
   ((Itz K a b).stop i H/\D.nx σ H)\/((Itz K a b).go i H/\∃N:St->Hp->Prop,(∀ σ' H',N σ' H'->∃m',m'<m/\W (i+1) m' σ' H')/\∀x H',(Itz K a b).yld i H x H'->g x σ H' fun σ2 H2=>tb { D with nx:=N,ct:=N,bk:=D.nx } σ2 H2):=by
 refine ⟨fun i m σ H=>m=xs.length-i/\i<=xs.length/\Pv i σ H,⟨xs.length,by simp,Nat.zero_le _,h0⟩,?_⟩
 rintro i m σ H ⟨rfl,hi,p⟩
 obtain ⟨q1,q2⟩:=hl i σ H hi p
 by_cases hlt:i<xs.length
 ·refine .inr ⟨⟨xs,ys,xs[i],ys[i]'(by omega),q1,q2,by simp [hlt],List.getElem?_eq_getElem (by omega)⟩,Pv (i+1),fun σ' H' p'=>⟨xs.length-(i+1),by omega,rfl,hlt,p'⟩,fun x H' y=>?_⟩
  obtain ⟨pp,v,w,rfl,hn,rfl,y1,y2⟩:=y
  exact hs i v w σ H pp (y1 xs q1) (y2 ys q2) p hn
 ·have e:i=xs.length:=by omega
  subst e
  exact .inl ⟨⟨xs,ys,q1,q2,.inl (Nat.le_refl _)⟩,hd σ H p⟩
end
theorem uB {K:PySem.W.Frag}{a:Addr}{xs:List V}{H:Hp}{cap:St}{te:TE}{Q:VK}(g:Nat->List V) (hS:SqL K H a xs) (hn:xs.length<=sizeLine)
  (el:∀(i:Nat) x H' (P:VK),Same H H'->xs[i]?=some x->(∀r H'',Same H' H''->H'' r=some (.tup (g i))->P (.ref r) H'')->te (some x :: cap) H' P)
  (fin:∀D H' (rs:List Addr),Same H H'->H D=none->H' D=some (.lst (rs.map V.ref))->rs.length=xs.length->(∀(i:Nat) r,rs[i]?=some r->H' r=some (.tup (g i)))->Q (.ref D) H'):dX (Itl K a) cap te Q H:=by
 intro D hD
 refine ⟨fun i m zs H2=>∃rs:List Addr,m=xs.length-i/\i<=xs.length/\zs=rs.map V.ref/\rs.length=i/\H2 D=some (.lst zs)/\Same H H2/\∀(j:Nat) r,rs[j]?=some r->H2 r=some (.tup (g j)),⟨xs.length,[],rfl,Nat.zero_le _,rfl,rfl,ac,Same.new hD _,fun j r h=>by cases h⟩,?_⟩
 rintro i m zs H2 ⟨rs,rfl,hi,rfl,hrl,hDz,hS2,hrs⟩
 refine ⟨hDz,?_⟩
 by_cases h:i<xs.length
 ·refine .inr ⟨⟨xs,xs[i],hS2.seq hS,List.getElem?_eq_getElem h⟩,?_⟩
  rintro x H3 ⟨rfl,hy⟩
  have hx:=hy xs (hS2.seq hS)
  refine el i x H3 _ hS2 hx fun r H4 hS4 hr=>⟨hS4 _ _ hDz,by rw [List.length_map]; omega,xs.length-(i+1),by omega,rs++[r],rfl,h,by rw [List.map_append]; rfl,by rw [List.length_append,hrl]; rfl,ac,fun b u q=>?_,fun j r' hj=>?_⟩
  ·rw [ah (ap q hD)]
   exact hS4 _ _ (hS2 _ _ q)
  ·have nD:∀r'' xs',H4 r''=some (.tup xs')->r''≠D:=fun r'' xs' e=>bn e (hS4 _ _ hDz) (by intro z; cases z)
   by_cases hji:j<rs.length
   ·rw [List.getElem?_append_left hji] at hj
    have e:=hS4 _ _ (hrs j r' hj)
    rw [ah (nD _ _ e)]
    exact e
   ·have hl:=(List.getElem?_eq_some_iff.mp hj).1
    rw [List.length_append,List.length_singleton] at hl
    have:j=i:=by omega
    subst this
    rw [List.getElem?_append_right (by omega),show j-rs.length=0 by omega] at hj
    cases hj
    rw [ah (nD _ _ hr)]
    exact hr
 ·have e:i=xs.length:=by omega
  subst e
  exact .inl ⟨⟨xs,hS2.seq hS,Nat.le_refl _⟩,fin D H2 rs hS2 hD hDz hrl hrs⟩
theorem Inv.but {X:Cx}{pins:List (Addr×Obj)}{σ:St}{H:Hp}{s:Shared}{C:Addr}{h':Heap}(I:Inv X pins σ H s) (sb:Heap.SameBut C s.heap h') (f:bJ X pins H C) (hx:X.s₀.heap.get? C=none:=by assumption):Inv X pins σ H { s with heap:=h' }:=by
 obtain ⟨f0,f1,f2,f3,f4,f5⟩:=f
 have ne0:∀b o,X.s₀.heap.get? b=some o->b≠C:=fun b o e z=>by rw [z,hx] at e; cases e
 have cellS:∀{c v},c≠C->s.heap.IsCell c v->h'.IsCell c v:=fun hc ⟨o,ho,hd⟩=>⟨o,(sb.2 _ hc).trans ho,hd⟩
 refine ⟨I.ok,I.os,I.bare,⟨fun b o e n hb he=>(sb.2 b (ne0 b o e)).trans (I.base.keep b o e n hb he),fun b o e n hb he=>?_,I.base.free,fun b o e he=>?_,I.base.tups,I.base.frzs,I.base.tbls⟩,?_,fun x c e=>?_,I.free,I.freeC,fun p hp=>?_,fun b u e=>?_,I.len⟩
 ·obtain ⟨sl,q⟩:=I.base.slot b o e n hb he
  exact ⟨sl,(sb.2 b (ne0 b o e)).trans q⟩
 ·obtain ⟨o',q⟩:=I.base.there b o e he
  exact ⟨o',(sb.2 b (ne0 b o e)).trans q⟩
 ·obtain ⟨m,hm,hl⟩:=I.loc
  refine ⟨m,hm.sameBut sb (Ne.symm f1),fun i x v e1 e2 e3=>?_⟩
  obtain ⟨u,r,l⟩:=hl i x v e1 e2 e3
  refine ⟨u,r,?_⟩
  rcases l with l | ⟨l1,c,l2,l3⟩
  ·exact .inl l
  ·exact .inr ⟨l1,c,l2,cellS (f4 _ _ l2) l3⟩
 ·obtain ⟨v,q⟩:=I.cell x c e
  exact ⟨v,cellS (f4 _ _ e) q⟩
 ·obtain ⟨q1,q2⟩:=I.pin p hp
  exact ⟨(sb.2 _ (f5 p hp)).trans q1,q2⟩
 ·refine (I.hok b u e).stay (fun c v hc z=>(sb.2 c ?_).trans z) (fun _ z=>z) fun _ _ z=>z
  rintro rfl
  rcases hc with hc | hc
  ·rw [<- hc,f0] at e; cases e
  ·rw [f0] at hc; cases hc
section
variable {X:Cx}{x:Str}{px pos:Pos}{elt iter:Expr}{sc:Scope}{ys:List Str}{js:List Nat}{cl:List (Str×Addr)}
theorem vt {wi:TI}{te:TE}{i0:Nat}{y0:Str}{py spos:Pos}(hN:X.N.Nodup) (hi0:X.N[i0]?=some y0) (hy0:X.env.scope.names.lookup y0=some .local) (hsw:swapsWith (.ListComp elt [⟨.Name x px,iter,[],0⟩] sc pos) (some (.Name y0 py)) spos.line X.env=pure true) (hclos:closureFor sc X.env=pure cl) (hcell:∀y∈sc.names,y.2≠.cell) (hkind:sc.kind=.function) (hnames:∀y∈sc.names,y.2=.local->sc.names.lookup y.1=some .local)
  (hx:(relabel sc X.env).names.lookup x=some .local) (hcap:Caps X sc cl ys js) (hin:∀y c,cl.lookup y=some c->X.env.cells.lookup y=some c)
  (hhas:∀y,((relabel sc X.env).names.lookup y=some .cell\/(relabel sc X.env).names.lookup y=some .free)->∃c,cl.lookup y=some c) (hnd:(x :: ys).Nodup) (hc:X.calm=true)
  (hi:PI X.nox (.Name x px) iter wi) (he:∀s2 H2 C ex,PE (aD X sc (x :: ys) cl s2 H2 C ex) elt te) (hs:∀v,foldedSetIterable iter X.env v=pure v:=by intro _; rfl) :
  PS X (.Assign [.Name y0 py] (.ListComp elt [⟨.Name x px,iter,[],0⟩] sc pos) spos) (gk (fN wi js te) (bZ i0)):=by
 intro pins s σ H DE I h
 rw [exec_Assign_Name_used _ _ _ _ hsw]
 refine wpAny_bind (wpAny_standAt (wpAny_bind ?_))
 show wpAny _ _ (do let _ <- comprehension (.ListComp elt [⟨.Name x px,iter,[],0⟩] sc pos) sc X.env _ (newList []) false (eval iter X.env) (some (assign (.Name y0 py) X.env))) _ _ s
 refine wpAny_bind (wpAny_mono (E:=fun _ _=>False) (wpAny_comprehension_free (use:=some (assign (.Name y0 py) X.env)) (Q:=fun _ s'=>SP X pins DE .next s') rfl hs hclos hkind hnames (wpAny_mono (hi pins s σ H _ (I.wish _) h) ?_ fun _ _ z=>False.elim z)) (fun _ s' hq=>wpAny_pure (wpAny_pure hq)) fun _ _ z=>False.elim z)
 intro v s1 h1
 refine wpAny_mono h1 ?_ fun _ _ z=>False.elim z
 rintro itv s2 ⟨it,fp,tn,J,H2,rfl,I2w,T,st2,f2w,q⟩
 have I2:=I2w.unwish
 have f2:∀b∈fp,bJ X pins H2 b:=f2w
 refine wpAny_newObj_type (wpAny_newFunctionEnv hcell (by intro y hy; simp at hy) (fun h4 hns hsb=>?_) hkind)
 dsimp only at hns hsb ⊢
 generalize hE:s2.heap.push { cls:=.type "list",dict:=none,data:=.seq ([]:List Value).toArray }=g3 at hns hsb ⊢
 have hsz:g3.objs.size=s2.heap.objs.size+1:=by rw [<- hE,Heap.size_push]
 have hDC:s2.heap.objs.size≠g3.objs.size:=by omega
 have old:∀b o,s2.heap.get? b=some o->h4.get? b=some o:=fun b o e=>by
  have lt:b<s2.heap.objs.size:=Heap.lt_size e
  rw [hsb.2 b (Nat.ne_of_lt (by rw [hsz]; exact Nat.lt_succ_of_lt lt))]
  exact Heap.get?_push_of_some _ (hE ▸ Heap.get?_push_of_some _ e)
 have hD0:H2 s2.heap.objs.size=none:=I2.hok.fresh (Nat.le_refl _)
 have hC0:H2 g3.objs.size=none:=I2.hok.fresh (by omega)
 have hDat:h4.get? s2.heap.objs.size=some { cls:=.type "list",data:=.seq ([]:List Value).toArray }:=by
  rw [hsb.2 _ hDC]
  exact Heap.get?_push_of_some _ (hE ▸ Heap.get?_push_size _ rfl)
 obtain ⟨W,⟨m0,w0⟩,turn⟩:=q s2.heap.objs.size hD0
 have hfl:∀b∈fp,b<s2.heap.objs.size:=fun b hb=>by
  obtain ⟨o,e,_⟩:=T.obj _ _ st2 b hb
  exact Heap.lt_size e
 have J0:Inv (aD X sc (x :: ys) cl s2 H2 g3.objs.size fp) [] (none :: c_ σ js) (upd H2 s2.heap.objs.size (.lst [])) { s2 with heap:=h4,toks:=s2.toks+([]:List (Str×Value)).length }:=by
  refine iG (m:=fun y=>([]:List (Str×Value)).reverse.lookup y) I2 f2 hkind hcap hin hhas hfl (by omega) rfl I2.bare (Un.laid old (Nat.le_refl _) hD0) old hns ?_ ?_
  ·rw [ah (Ne.symm hDC)]; exact hC0
  ·exact I2.hok.laid old (Nat.le_refl _) ⟨Nat.zero_le _,[],0,.nil,hDat⟩
 have st4:tn 0 h4:=T.keep _ _ _ st2 fun b hb o e=>old b o e
 have xcell:∀y c,(aD X sc (x :: ys) cl s2 H2 g3.objs.size fp).env.cells.lookup y=some c->X.env.cells.lookup y=some c:=hin
 have stat:∀{H':Hp},(∀b∈fp,H' b=none)->∀b∈fp,bJ (aD X sc (x :: ys) cl s2 H2 g3.objs.size fp) [] H' b:=fun hn b hb=>by
  refine ⟨hn b hb,?_,?_,.inl hb,fun y c e=>(f2 b hb).2.2.2.2.1 y c (hin y c e),fun p hp=>absurd (show p∈([]:List (Addr×Obj)) from hp) (by simp)⟩
  ·have lt:b<s2.heap.objs.size:=hfl b hb
   exact Nat.ne_of_lt (by show b<g3.objs.size; rw [hsz]; exact Nat.lt_succ_of_lt lt)
  ·intro z
   rcases List.mem_cons.mp (I2.stkSub b z) with q | q
   ·exact (f2 b hb).2.1 q
   ·exact (f2 b hb).2.2.1 q
 have fin:∀{σ':St}{H':Hp}{s':Shared},Inv (aD X sc (x :: ys) cl s2 H2 g3.objs.size fp) [] σ' H' s'->bZ i0 (.ref s2.heap.objs.size) σ H' DE.nx ->
   compPost (model X.prog X.w) X.A (fun _ _=>False) (some (assign (.Name y0 py) X.env)) (fun _ s'=>SP X pins DE .next s') (.ref s2.heap.objs.size) g3.objs.size (.ok .next) s':=fun {σ' H' s'} J' q'=>by
  obtain ⟨m,hm,_⟩:=J'.loc
  have neC:∀b o,s2.heap.get? b=some o->b≠g3.objs.size:=fun b o e=>by
   have lt:b<s2.heap.objs.size:=Heap.lt_size e
   exact Nat.ne_of_lt (by rw [hsz]; exact Nat.lt_succ_of_lt lt)
  have ub:=J'.base
  have I':Inv X pins σ H' s':=I2.call' (ch:=fp) J'.os ub J'.hok J'.bare fun b hb=>⟨(f2 b hb).2.2.2.1,(f2 b hb).2.1,(f2 b hb).2.2.2.2.1,(f2 b hb).2.2.2.2.2⟩
  have fC:bJ X pins H' g3.objs.size:=I2.fpOk (by omega) J'.free
  show wpAny _ _ (assign (.Name y0 py) X.env (.ref s2.heap.objs.size)) _ _ s'
  refine wpAny_assign_Name (gl (v:=.ref s2.heap.objs.size) I' hN hi0 (.inl hy0) rfl (fun s3 I3 sb3=>?_) (.inr hy0))
  obtain ⟨a3,sb3,ha3⟩:=sb3
  have na:g3.objs.size≠a3:=by
   rcases ha3 with rfl | z
   ·exact fC.2.1
   ·exact fun e=>fC.2.2.2.2.1 _ _ z e.symm
  have h0:X.s₀.heap.get? g3.objs.size=none:=by
   cases e:X.s₀.heap.get? g3.objs.size with
   | none=>rfl
   | some o =>
    have l1:=Heap.lt_size e
    exact absurd (Nat.lt_of_lt_of_le l1 (Nat.le_trans I2.sz (Nat.le_trans (Nat.le_succ _) (Nat.le_of_eq hsz.symm)))) (Nat.lt_irrefl _)
  exact ⟨m,hm.sameBut sb3 na,fun h' sb=>⟨_,H',I3.but sb fC h0,q'⟩⟩
 have loop:∀s4:Shared,s4={ s2 with heap:=h4,toks:=s2.toks+([]:List (Str×Value)).length } ->
   codeAny (model X.prog X.w) X.A (.compLoop (.ListComp elt [⟨.Name x px,iter,[],0⟩] sc pos) 0 (.ref it) (.ref s2.heap.objs.size) (compEnvC sc cl g3.objs.size X.env))
    (compPost (model X.prog X.w) X.A (fun _ _=>False) (some (assign (.Name y0 py) X.env)) (fun _ s'=>SP X pins DE .next s') (.ref s2.heap.objs.size) g3.objs.size) s4:=by
  rintro s4 rfl
  refine jq (fun n s'=>∃i xo ys' H',Inv (aD X sc (x :: ys) cl s2 H2 g3.objs.size fp) [] (xo :: c_ σ js) H' s'/\tn i s'.heap/\(∀b∈fp,H' b=none)/\W i n ys' H') ?_ m0 ⟨0,none,[],_,J0,st4,fun b hb=>?_,w0⟩
  ·rintro n s' ⟨i,xo,ys',H',J',st',fr',w'⟩
   obtain ⟨hD,alt⟩:=turn i n ys' H' w'
   rcases alt with ⟨stop,qn⟩ | ⟨go,step⟩
   ·refine wpAny_mono (T.done (aD X sc (x :: ys) cl s2 H2 g3.objs.size fp) rfl rfl rfl hc i [] s' _ H' (fun _ _=>False) J' (stat fr') st' stop) ?_ fun _ _ z=>z
    rintro r s'' ⟨rfl,J''⟩
    exact fin J'' qn
   ·refine wpAny_mono (T.item (aD X sc (x :: ys) cl s2 H2 g3.objs.size fp) rfl rfl rfl hc i [] s' _ H' (fun _ _=>False) J' (stat fr') st' go) ?_ fun _ _ z=>z
    rintro r s'' ⟨u,rfl,hu⟩
    refine wpAny_mono hu ?_ fun _ _ z=>z
    rintro _ s5 ⟨xv,H5,J5,r5,y5,st5,fr5⟩
    have J5':=J5.pinned (stat fr5) (T.obj _ _ st5)
    refine wpAny_assign_Name (de (X:=aD X sc (x :: ys) cl s2 H2 g3.objs.size fp) (i:=0) J5' hnd rfl (.inl hx) r5 (fun s6 J6=>?_) (.inr hx))
    refine wpAny_mono (he s2 H2 g3.objs.size fp _ s6 _ H5 _ J6 (step xv H5 y5)) ?_ fun _ _ z=>z
    rintro yv s7 ⟨yy,H7,J7,r7,hD7,hlen,m',hm',w7⟩
    refine wpAny_mono (eQ (X:=aD X sc (x :: ys) cl s2 H2 g3.objs.size fp) _ s7 _ H7 (.ref s2.heap.objs.size) [yy] (.ref s2.heap.objs.size) [yv] (fun _ H8=>H8=upd H7 s2.heap.objs.size (.lst (ys'++[yy]))) J7 rfl (.cons r7 .nil) ⟨_,ys',yy,rfl,rfl,hD7,hlen,rfl⟩) ?_ fun _ _ z=>z
    rintro _ s8 ⟨_,H8,J8,_,rfl⟩
    have pinned:∀b∈fp,∀o,s5.heap.get? b=some o->s8.heap.get? b=some o/\(upd H7 s2.heap.objs.size (.lst (ys'++[yy]))) b=none:=fun b hb o e=>by
     obtain ⟨q1,q2,_⟩:=J8.pin (b,o) (List.mem_append_right _ (List.mem_append_right _ (cH hb e)))
     exact ⟨q1,q2⟩
    refine ⟨m',hm',i+1,some xv,ys'++[yy],_,J8.unpinned,T.keep _ _ _ st5 fun b hb o e=>(pinned b hb o e).1,fun b hb=>?_,w7⟩
    obtain ⟨o,e,_⟩:=T.obj _ _ st5 b hb
    exact (pinned b hb o e).2
  ·rw [ah (Nat.ne_of_lt (hfl b hb))]
   exact (f2 b hb).1
 exact codeAny_compStart_list (loop _ rfl) (T.self _ _ _ _ _ st4 (loop _ rfl))
end
theorem rN {X:Cx}{i0:Nat}{y0:Str}{py spos:Pos}{x:Str}{px pos:Pos}{elt iter:Expr}{sc:Scope}{wi:TI}{te:TE}(hN:X.N.Nodup) (ys:List Str) (js:List Nat) (cl:List (Str×Addr)) (hclos:closureFor sc X.env=pure cl) (hcap:Caps X sc cl ys js) (hin:ClIn X.env cl)
  (hi:PI X.nox (.Name x px) iter wi) (he:∀s2 H2 C ex,PE (aD X sc (x :: ys) cl s2 H2 C ex) elt te) (hc:X.calm=true:=by rfl)
  (hcell:(sc.names.all fun p=>p.2 != NameKind.cell)=true:=by rfl) (hkind:sc.kind=.function:=by rfl) (hnames:(sc.names.all fun p=>p.2 != NameKind.local||sc.names.lookup p.1 == some NameKind.local)=true:=by rfl)
  (hx:(relabel sc X.env).names.lookup x=some .local:=by rfl) (hhas:((relabel sc X.env).names.all fun p=>p.2 == NameKind.local||p.2 == NameKind.globalImplicit||(cl.lookup p.1).isSome)=true:=by rfl)
  (hnd:(x :: ys).Nodup:=by decide +kernel) (hs:∀v,foldedSetIterable iter X.env v=pure v:=by intro _; rfl) (hi0:X.N[i0]?=some y0:=by kernel_rfl) (hy0:X.env.scope.names.lookup y0=some .local:=by kernel_rfl) (hsw:swapsWith (.ListComp elt [⟨.Name x px,iter,[],0⟩] sc pos) (some (.Name y0 py)) spos.line X.env=pure true:=by kernel_rfl) :
  PS X (.Assign [.Name y0 py] (.ListComp elt [⟨.Name x px,iter,[],0⟩] sc pos) spos) (gk (fN wi js te) (bZ i0)):=by
 refine vt hN hi0 hy0 hsw hclos (fun y hy z=>?_) hkind (fun y hy z=>?_) hx hcap (fun y c e=>hin.mem (PySem.mem_of_lookup e)) (fun y h=>?_) hnd hc hi he hs
 ·have:=List.all_eq_true.mp hcell y hy
  rw [z] at this
  exact absurd this (by decide)
 ·have:=List.all_eq_true.mp hnames y hy
  rw [z] at this
  simpa using this
 ·have hm:∃k,(y,k)∈(relabel sc X.env).names/\(k=.cell\/k=.free):=by
   rcases h with h | h
   ·exact ⟨_,PySem.mem_of_lookup h,.inl rfl⟩
   ·exact ⟨_,PySem.mem_of_lookup h,.inr rfl⟩
  obtain ⟨k,hk,hz⟩:=hm
  have:=List.all_eq_true.mp hhas _ hk
  rcases hz with rfl | rfl
  ·exact Option.isSome_iff_exists.mp (by simpa using this)
  ·exact Option.isSome_iff_exists.mp (by simpa using this)
theorem xN {X:Cx}{i:Nat}{y0:Str}{py spos:Pos}{x:Str}{px pos:Pos}{elt iter:Expr}{sc:Scope}{wi:TI}{te:TE}(hN:X.N.Nodup) (ys:List Str) (js:List Nat) (cl:List (Str×Addr)) (hclos:closureFor sc X.env=pure cl) (hcap:Caps X sc cl ys js) (hin:ClIn X.env cl)
  (hi:QI X.nox (.Name x px) iter wi) (he:∀s2 H2 C ex,QE (aD X sc (x :: ys) cl s2 H2 C ex) elt te) (hc:X.calm=true:=by rfl)
  (hcell:(sc.names.all fun p=>p.2 != NameKind.cell)=true:=by rfl) (hkind:sc.kind=.function:=by rfl) (hnames:(sc.names.all fun p=>p.2 != NameKind.local||sc.names.lookup p.1 == some NameKind.local)=true:=by rfl)
  (hx:(relabel sc X.env).names.lookup x=some .local:=by rfl) (hhas:((relabel sc X.env).names.all fun p=>p.2 == NameKind.local||p.2 == NameKind.globalImplicit||(cl.lookup p.1).isSome)=true:=by rfl)
  (hnd:(x :: ys).Nodup:=by decide +kernel) (hs:∀v,foldedSetIterable iter X.env v=pure v:=by intro _; rfl) (hi0:X.N[i]?=some y0:=by kernel_rfl) (hy0:X.env.scope.names.lookup y0=some .local:=by kernel_rfl)
  (hsw:swapsWith (.ListComp elt [⟨.Name x px,iter,[],0⟩] sc pos) (some (.Name y0 py)) spos.line X.env=pure true:=by kernel_rfl) :
  QS X (.Assign [.Name y0 py] (.ListComp elt [⟨.Name x px,iter,[],0⟩] sc pos) spos) (gk (fN wi js te) (bZ i)) :=
 ⟨rN hN ys js cl hclos hcap hin hi.h (fun a b c d=>(he a b c d).h) hc hcell hkind hnames hx hhas hnd hs hi0 hy0 hsw⟩
def BJ:Expr->Option Str
 | .Constant (.str x) _ _=>some x
 | _=>none
section
variable {M:Model}{A:Around}{E:Value->Shared->Prop}{s:Shared}{B:Heap}{env:Env}{outer l:List Env}{L e:Addr}{cls fl:Value}{d:Option Addr}{Q:Unit->Shared->Prop}
theorem s_ (hA:A.frames=some (env :: outer)) (hL:env.frame=some L) (x:Flt B (env :: outer) e cls d fl s.heap)
  (k:∀h',Flt B (env :: outer) e cls d (rawInt L) h'->s.heap.UpToSlots h'->Q () { s with heap:=h' }):wpAny M A (noteFrame (.ref e) env) Q E s:=by
 obtain ⟨ox,ws,T,oT,ts,a1,a2,a3,a4,a5,a6,a7,a8,a9,a10⟩:=id x.tr
 subst a2 a3
 unfold noteFrame
 simp only [hL]
 refine wpAny_bind (wpAny_field a1 a4 a5 ?_)
 rw [if_pos (show (Value.ref T != Value.none)=true by simp)]
 refine wpAny_bind (wpAny_field a8 a9 a10 ?_)
 by_cases hz:(fl == rawInt L)=true
 ·rw [if_pos hz]
  have e:=eq_of_beq hz
  subst e
  exact wpAny_pure (k _ x (.refl _))
 rw [if_neg hz]
 refine wpAny_bind (wpAny_setField a8 a9 (Array.getElem?_eq_some_iff.mp a10).1 ?_)
 have oth:∀b,b≠T->(s.heap.update T (Obj.mapFields (·.setIfInBounds 3 Value.none))).get? b=s.heap.get? b:=by
  intro b z
  exact Heap.get?_update_other _ _ (Ne.symm z)
 have nT:∀b o,s.heap.get? b=some o->(∀us,o.data≠.fields us)->b≠T:=by
  intro b o q r z
  rw [z,a8] at q
  cases q
  exact r ts a9
 refine gv hA ?_ hL ((oth e (Ne.symm a7)).trans a1) ?_ x.new a4 (Array.getElem?_eq_some_iff.mp a5).1 ?_
 ·refine x.frames.of_keeps ?_
  intro b o q r
  exact ⟨o,(oth b (nT b o q r)).trans q,rfl⟩
 ·intro b o q
  refine (oth b ?_).trans (x.stays b o q)
  intro z
  rw [z,a6] at q
  cases q
 ·intro h' y1 y2
  refine k h' y1 ?_
  intro b o q r
  exact y2 b o ((oth b (nT b o q r)).trans q) r
theorem yU (fr:Option Addr) (x:Flt B l e cls d fl s.heap) (k:∀h' fl',Flt B l e cls d fl' h'->s.heap.UpToSlots h'->Q () { s with heap:=h' }):wpAny M A (setFlight (.ref e) fr) Q E s:=by
 obtain ⟨ox,ws,T,oT,ts,a1,a2,a3,a4,a5,a6,a7,a8,a9,a10⟩:=x.tr
 have z3:3<ts.size:=(Array.getElem?_eq_some_iff.mp a10).1
 generalize hv:fr.elim Value.none (fun f=>rawInt f)=v
 have oth:∀b,b≠T->(s.heap.update T (Obj.mapFields (·.setIfInBounds 3 v))).get? b=s.heap.get? b:=by
  intro b z
  exact Heap.get?_update_other _ _ (Ne.symm z)
 have nT:∀b o,s.heap.get? b=some o->(∀us,o.data≠.fields us)->b≠T:=by
  intro b o q r z
  rw [z,a8] at q
  cases q
  exact r ts a9
 unfold setFlight
 refine wpAny_bind (wpAny_field a1 a4 a5 ?_)
 rw [if_pos (show (Value.ref T != Value.none)=true by simp),hv]
 refine wpAny_setField a8 a9 z3 (k _ v ⟨?_,x.new,?_,?_⟩ ?_)
 ·intro b o q
  refine (oth b ?_).trans (x.stays b o q)
  intro z
  rw [z,a6] at q
  cases q
 ·refine x.frames.of_keeps ?_
  intro b o q r
  exact ⟨o,(oth b (nT b o q r)).trans q,rfl⟩
 ·have w3:=Obj.data_mapFields a9 (·.setIfInBounds 3 v)
  exact ⟨ox,ws,T,_,_,(oth e (Ne.symm a7)).trans a1,a2,a3,a4,a5,a6,a7,Heap.get?_update_self _ a8 (Obj.isFreed_of_fields w3),w3,by simp [z3]⟩
 ·intro b o q r
  exact ⟨o.slots,(oth b (nT b o q r)).trans q⟩
theorem vN {α:Type}{R:α->Shared->Prop}{what:String}(cenv:Env) (x:Flt B l e cls d fl s.heap) (k:∀h' fl',Flt B l e cls d fl' h'->s.heap.UpToSlots h'->E (.ref e) { s with heap:=h' }) :
  wpAny M A (PySem.passOn what (.ref e) cenv:Sem α) R E s:=by
 obtain ⟨ox,ws,T,oT,ts,a1,a2,a3,a4,a5,a6,a7,a8,a9,a10⟩:=id x.tr
 unfold PySem.passOn
 refine wpAny_bind (wpAny_field a1 a4 a5 ?_)
 rw [if_neg (show ¬ (Value.ref T == Value.none)=true by simp)]
 refine wpAny_bind (yU cenv.frame x fun h' fl' x' y=>?_)
 exact wpAny_throw (k h' fl' x' y)
theorem qb (hA:A.frames=some (env :: outer)) (hL:env.frame=some L) (x:Flt B (env :: outer) e cls d fl s.heap)
  (k:∀h',Flt B outer e cls d .none h'->s.heap.UpToSlots h'->Q () { s with heap:=h' }):wpAny M A (leaving env (.ref e)) Q E s:=by
 unfold leaving
 refine wpAny_bind (s_ hA hL x ?_)
 intro h' x y
 refine iI x ?_
 intro h'' x' y'
 exact k h'' x'.out (y.trans y')
theorem Flt.hide {h h':Heap}{C:Addr}(x:Flt B l e cls d fl h) (hC:∃o,B.get? C=some o) (sb:Heap.SameBut C h h'):Flt (PySem.W.hideAll B [C]) l e cls d fl h':=by
 obtain ⟨oC,hC⟩:=hC
 have ne:∀b,B.get? b=none->b≠C:=fun b q z=>by rw [z,hC] at q; cases q
 have no:∀b,B.get? b=none->(PySem.W.hideAll B [C]).get? b=none:=fun b q=>by
  cases z:(PySem.W.hideAll B [C]).get? b with
  | none=>rfl
  | some o=>rw [PySem.W.of_hideAll _ z] at q; cases q
 have fr:∀{l:List Env},h.FunFrames B l->h'.FunFrames (PySem.W.hideAll B [C]) l:=by
  intro l
  induction l with
  | nil=>intro _; trivial
  | cons env r ih =>
   rintro ⟨hk,⟨L,o,hf,hn,ho,hd⟩,hr⟩
   exact ⟨hk,⟨L,o,hf,no L hn,(sb.2 L (ne L hn)).trans ho,hd⟩,ih hr⟩
 obtain ⟨ox,ws,T,oT,ts,a1,a2,a3,a4,a5,a6,a7,a8,a9,a10⟩:=x.tr
 refine ⟨fun b o q=>?_,no e x.new,fr x.frames,ox,ws,T,oT,ts,(sb.2 e (ne e x.new)).trans a1,a2,a3,a4,a5,no T a6,a7,(sb.2 T (ne T a6)).trans a8,a9,a10⟩
 by_cases z:b=C
 ·subst z
  rw [PySem.W.hideAll_none [b] (List.mem_singleton.mpr rfl)] at q
  cases q
 ·exact (sb.2 b z).trans (x.stays b o (PySem.W.of_hideAll _ q))
end
def zd (X:Cx) (sc:Scope) (cl:List (Str×Addr)) (C:Addr):Value->Shared->Prop :=
 notedBy (model X.prog X.w) X.A (compEnvC sc cl C X.env) fun x s'=>∃m,s'.heap.Ns C m/\∀h',Heap.SameBut C s'.heap h'->∀cenv:Env,cenv.locals=C ->
  wpAny (model X.prog X.w) X.A (PySem.passOn "comprehension.variables-let-go" x cenv:Sem Value) (fun _ _=>False) X.xe { s' with heap:=h' }
def bT (X:Cx) (sc:Scope) (N':List Str) (cl:List (Str×Addr)) (s2:Shared) (H2:Hp) (C:Addr) (ex:List Addr):Cx :=
 (aD X sc N' cl s2 H2 C ex).wish (zd X sc cl C)
section
variable {P:Program}{w:World}{K:PySem.W.Frag}{mg:Str->Option Value}{base:Heap}{N:List Str}{qual:Str}{scope:Scope}{f:Addr}{cd:Value}{A:Around}{outer:List Env}{s₀:Shared}{H₀:Hp}{E:XK}
theorem zW {sc:Scope}{N':List Str}{cl:List (Str×Addr)}{s2:Shared}{H2:Hp}{C:Addr}{fp:List Addr}{pins2:List (Addr×Obj)}{σ2:St}(I2:Inv (bb (CX1 P w) P w K mg base N qual scope f cd A outer s₀ H₀ E) pins2 σ2 H2 s2)
  (f2:∀b∈fp,bJ (bb (CX1 P w) P w K mg base N qual scope f cd A outer s₀ H₀ E) pins2 H2 b) (hC:s2.heap.objs.size<=C) :
  bC (CX1 P w) (bT (bb (CX1 P w) P w K mg base N qual scope f cd A outer s₀ H₀ E) sc N' cl s2 H2 C fp) E:=by
 intro pins σ H s e s1 I h
 obtain ⟨a,cls,d,B,H',rfl,os,bare,un,hok,fl,ha,b1,b2,b3,q⟩:=h
 have hfr:(envOfC qual scope s₀.heap.objs.size f cd).frame=some s₀.heap.objs.size:=rfl
 have hA:=I2.ok.frames
 show wpAny _ _ (noteFrame (.ref a) (envOfC qual scope s₀.heap.objs.size f cd)) _ _ _
 refine gw (B:=B) (outer:=outer) hA hfr fl fun h1 x1 y1=>?_
 have J1:=I.flown (s1:=s1) os bare un hok fl.stays b1 b2 b3 x1.stays y1
 obtain ⟨m,hm,_⟩:=J1.loc
 refine ⟨m,hm,fun h2 sb cenv hl=>?_⟩
 have lt2:∀b o,s2.heap.get? b=some o->b≠C:=fun b o e=>Nat.ne_of_lt (Nat.lt_of_lt_of_le (Heap.lt_size e) hC)
 have nC:C ∉ frs (envOfC qual scope s₀.heap.objs.size f cd :: outer):=fun z=>by
  obtain ⟨_,o,e,_⟩:=I2.stack.mem z
  exact lt2 C o e rfl
 obtain ⟨oC,hoC⟩:∃o,s.heap.get? C=some o:=by
  obtain ⟨m0,⟨o,_,_,e,_⟩,_⟩:=I.loc
  exact ⟨o,e⟩
 have hCB:B.get? C=some oC:=b1 C oC hoC nC I.free
 have hC':H' C=none:=J1.free
 have x2:=x1.hide ⟨oC,hCB⟩ sb
 refine vN (s:={ s1 with heap:=h2 }) cenv x2 fun h3 fl3 x3 y3=>?_
 show wpAny _ _ (leaving _ (.ref a)) _ _ _
 refine qb (s:={ s1 with heap:=h3 }) hA hfr x3 fun h4 x4 y4=>?_
 have inB:∀b o,B.get? b=some o->b≠C->(PySem.W.hideAll B [C]).get? b=some o:=fun b o e n=>PySem.W.hideAll_get _ e fun z=>n (List.mem_singleton.mp z)
 have kp:∀b o,s2.heap.get? b=some o->H2 b=none->b ∉ frs (envOfC qual scope s₀.heap.objs.size f cd :: outer)->b ∉ fp->B.get? b=some o:=fun b o e n hb hx =>
  b1 b o (I.base.keep b o e n hb hx) hb (I.base.free b o e n hx)
 have nf:∀b∈frs (envOfC qual scope s₀.heap.objs.size f cd :: outer),∀o,s2.heap.get? b=some o->∀vs,o.data≠.fields vs:=fun b hb o e=>by
  obtain ⟨_,o',e',r⟩:=I2.stack.mem hb
  rw [e] at e'
  cases e'
  exact r
 have sl:∀b o,s2.heap.get? b=some o->b∈frs (envOfC qual scope s₀.heap.objs.size f cd :: outer)->∃sl,h4.get? b=some { o with slots:=sl }:=fun b o e hb=>by
  have hx:b ∉ fp:=fun z=>I.ok.exfs b z hb
  obtain ⟨l1,e1⟩:=I.base.slot b o e (I2.stkFree b hb) hb hx
  obtain ⟨l2,e2⟩:=un.slot b _ e1 (I.stkFree b hb) hb (by simp)
  obtain ⟨l3,e3⟩:=y1 b _ e2 (nf b hb o e)
  have e4:=(sb.2 b (lt2 b o e)).trans e3
  obtain ⟨l5,e5⟩:=y3 b _ e4 (nf b hb o e)
  obtain ⟨l6,e6⟩:=y4 b _ e5 (nf b hb o e)
  exact ⟨l6,e6⟩
 have J:Inv (bb (CX1 P w) P w K mg base N qual scope f cd A outer s₀ H₀ E) pins2 σ2 H' { s1 with heap:=h4 }:=by
  refine I2.call' (s':={ s1 with heap:=h4 }) (ch:=fp) (os.trans I.os) ⟨fun b o e n hb hx=>x4.stays b o (inB b o (kp b o e n hb hx) (lt2 b o e)),fun b o e n hb hx=>sl b o e hb,fun b o e n hx=>?_,fun b o e hx=>?_,
   fun b xs e=>un.tups b xs (I.base.tups b xs e),fun b o u e=>un.frzs b o u (I.base.frzs b o u e),fun b ps e=>?_⟩ (fun b u e=>?_) bare fun b hb=>⟨(f2 b hb).2.2.2.1,(f2 b hb).2.1,(f2 b hb).2.2.2.2.1,(f2 b hb).2.2.2.2.2⟩
  ·obtain ⟨o',e'⟩:=I.base.there b o e hx
   exact un.free b o' e' (I.base.free b o e n hx) (by simp)
  ·obtain ⟨o',e'⟩:=I.base.there b o e hx
   rcases b3 b o' e' with z | ⟨o'',z⟩
   ·obtain ⟨_,q⟩:=sl b o e z
    exact ⟨_,q⟩
   ·exact ⟨o'',x4.stays b o'' (inB b o'' z (lt2 b o e))⟩
  ·obtain ⟨m1,e1⟩:=I.base.tbls b ps e
   obtain ⟨m2,e2⟩:=un.tbls b _ e1
   exact ⟨m1++m2,by rw [<- Array.append_assoc]; exact e2⟩
  ·refine (hok b u e).stay (fun c v hc q=>?_) (fun _ q=>q) fun _ _ q=>q
   have ht:∃u',H' c=some u':=by
    rcases hc with rfl | hc
    ·exact ⟨u,e⟩
    ·exact ⟨_,hc⟩
   obtain ⟨u',hu⟩:=ht
   obtain ⟨o,ho⟩:=b2 c u' hu
   have q':=fl.stays c o ho
   rw [q] at q'
   cases q'
   exact x4.stays c v (inB c v ho (by rintro rfl; rw [hC'] at hu; cases hu))
 have nL:∀b o,s₀.heap.get? b=some o->b ∉ frs outer->b ∉ frs (envOfC qual scope s₀.heap.objs.size f cd :: outer):=fun b o e hb z=>by
  rw [f9 hfr] at z
  rcases List.mem_cons.mp z with z | z
  ·exact absurd (Heap.lt_size e) (by rw [z]; exact Nat.lt_irrefl _)
  ·exact hb z
 have nfp:∀b o,s₀.heap.get? b=some o->b ∉ fp:=fun b o e z=>by
  rcases (f2 b z).2.2.2.1 with q | q
  ·cases q
  ·exact absurd (Nat.lt_of_lt_of_le (Heap.lt_size e) q) (Nat.lt_irrefl _)
 refine ⟨a,cls,d,PySem.W.hideAll B [C],H',rfl,J.os,J.bare,J.base,J.hok,x4,ha,fun b o e hb n=>?_,fun b u e=>?_,fun b o e=>?_,q⟩
 ·have e2:=I2.base.keep b o e n hb (by intro z; cases z)
  exact inB b o (kp b o e2 (I2.base.free b o e n (by intro z; cases z)) (nL b o e hb) (nfp b o e)) (lt2 b o e2)
 ·obtain ⟨o,ho⟩:=b2 b u e
  exact ⟨o,inB b o ho (by rintro rfl; rw [hC'] at e; cases e)⟩
 ·obtain ⟨o',e'⟩:=I2.base.there b o e (by intro z; cases z)
  by_cases hb:b∈frs outer
  ·exact .inl hb
  ·obtain ⟨o2,e2⟩:=I.base.there b o' e' (nfp b o e)
   rcases b3 b o2 e2 with z | ⟨o3,z⟩
   ·exact absurd z (nL b o e hb)
   ·exact .inr ⟨o3,inB b o3 z (lt2 b o' e')⟩
end
theorem mQ {prog:Program}{w:World}{A:Around}{R:Result->Shared->Prop}{s:Shared}{elt target iter:Expr}{sc:Scope}{pos:Pos}{it acc:Value}{env:Env}(J:Nat->Shared->Prop)
  (turn:∀n s,J n s->wpAny (model prog w) A (pyNext it) (fun r s1=>match r with
   | none=>R (.ok .next) s1
   | some v=>wpAny (model prog w) A (letOwnedTupleGo target it v) (fun _ s2=>wpAny (model prog w) A (assign target env v) (fun _ s3=>wpAny (model prog w) A (eval elt env) (fun x s4 =>
     wpAny (model prog w) A (call (.builtin "list.append") [acc,x]) (fun _ s5=>∃m,m<n/\J m s5) (fun _ _=>False) s4) (notedBy (model prog w) A env fun x s'=>R (.error x) s') s3) (notedBy (model prog w) A env fun x s'=>R (.error x) s') s2) (notedBy (model prog w) A env fun x s'=>R (.error x) s') s1) (fun _ _=>False) s)
  (n:Nat) (h:J n s):codeAny (model prog w) A (.compLoop (.ListComp elt [⟨target,iter,[],0⟩] sc pos) 0 it acc env) R s:=by
 refine codeAny_loop rfl J ?_ n h
 intro n s hJ
 show wpAny _ _ ((compTurn (.ListComp elt [⟨target,iter,[],0⟩] sc pos) 0 it acc env).onRaise (fun x=>do noteFrame x env; theTreesLotGoes x)) _ _ s
 refine wpAny_noted ?_
 rw [compTurn_list1]
 refine wpAny_bind (wpAny_standAt (wpAny_bind (wpAny_mono (turn n s hJ) ?_ fun _ _ z=>False.elim z)))
 intro r s1 h1
 cases r with
 | none=>exact wpAny_pure h1
 | some v =>
  refine wpAny_bind (wpAny_mono h1 ?_ fun _ _ z=>z)
  intro _ s2 h2
  refine wpAny_bind (wpAny_mono h2 ?_ fun _ _ z=>z)
  intro _ s3 h3
  refine wpAny_bind (wpAny_bind (wpAny_mono h3 ?_ fun _ _ z=>z))
  intro x s4 h4
  refine wpAny_bind (wpAny_mono h4 ?_ fun _ _ z=>False.elim z)
  intro _ s5 h5
  exact wpAny_pure (wpAny_pure ⟨rfl,h5⟩)
section
variable {X:Cx}{x:Str}{px pos:Pos}{elt iter:Expr}{sc:Scope}{ys:List Str}{js:List Nat}{cl:List (Str×Addr)}
theorem rM {wi:TI}{te:TE}{i0:Nat}{y0:Str}{py spos:Pos}{CX:CXT}{E:XK}(hp:∀pins σ H2 s2 fp C,Inv X pins σ H2 s2->(∀b∈fp,bJ X pins H2 b)->s2.heap.objs.size<=C->bC CX (bT X sc (x :: ys) cl s2 H2 C fp) E) (hN:X.N.Nodup) (hi0:X.N[i0]?=some y0) (hy0:X.env.scope.names.lookup y0=some .local) (hsw:swapsWith (.ListComp elt [⟨.Name x px,iter,[],0⟩] sc pos) (some (.Name y0 py)) spos.line X.env=pure true) (hclos:closureFor sc X.env=pure cl) (hcell:∀y∈sc.names,y.2≠.cell) (hkind:sc.kind=.function) (hnames:∀y∈sc.names,y.2=.local->sc.names.lookup y.1=some .local)
  (hx:(relabel sc X.env).names.lookup x=some .local) (hcap:Caps X sc cl ys js) (hin:∀y c,cl.lookup y=some c->X.env.cells.lookup y=some c)
  (hhas:∀y,((relabel sc X.env).names.lookup y=some .cell\/(relabel sc X.env).names.lookup y=some .free)->∃c,cl.lookup y=some c) (hnd:(x :: ys).Nodup) (hc:X.calm=true)
  (hi:PI X.nox (.Name x px) iter wi) (he:∀s2 H2 C ex,bC CX (bT X sc (x :: ys) cl s2 H2 C ex) E->PE (bT X sc (x :: ys) cl s2 H2 C ex) elt te) (hs:∀v,foldedSetIterable iter X.env v=pure v:=by intro _; rfl) :
  PS X (.Assign [.Name y0 py] (.ListComp elt [⟨.Name x px,iter,[],0⟩] sc pos) spos) (gk (fN wi js te) (bZ i0)):=by
 intro pins s σ H DE I h
 rw [exec_Assign_Name_used _ _ _ _ hsw]
 refine wpAny_bind (wpAny_standAt (wpAny_bind ?_))
 show wpAny _ _ (do let _ <- comprehension (.ListComp elt [⟨.Name x px,iter,[],0⟩] sc pos) sc X.env _ (newList []) false (eval iter X.env) (some (assign (.Name y0 py) X.env))) _ _ s
 refine wpAny_bind (wpAny_mono (E:=X.xe) (wpAny_comprehension_free (use:=some (assign (.Name y0 py) X.env)) (Q:=fun _ s'=>SP X pins DE .next s') rfl hs hclos hkind hnames (wpAny_mono (hi pins s σ H _ (I.wish _) h) ?_ fun _ _ z=>False.elim z)) (fun _ s' hq=>wpAny_pure (wpAny_pure hq)) fun _ _ z=>z)
 intro v s1 h1
 refine wpAny_mono h1 ?_ fun _ _ z=>False.elim z
 rintro itv s2 ⟨it,fp,tn,J,H2,rfl,I2w,T,st2,f2w,q⟩
 have I2:=I2w.unwish
 have f2:∀b∈fp,bJ X pins H2 b:=f2w
 refine wpAny_newObj_type (wpAny_newFunctionEnv hcell (by intro y hy; simp at hy) (fun h4 hns hsb=>?_) hkind)
 dsimp only at hns hsb ⊢
 generalize hE:s2.heap.push { cls:=.type "list",dict:=none,data:=.seq ([]:List Value).toArray }=g3 at hns hsb ⊢
 have hsz:g3.objs.size=s2.heap.objs.size+1:=by rw [<- hE,Heap.size_push]
 have hDC:s2.heap.objs.size≠g3.objs.size:=by omega
 have old:∀b o,s2.heap.get? b=some o->h4.get? b=some o:=fun b o e=>by
  have lt:b<s2.heap.objs.size:=Heap.lt_size e
  rw [hsb.2 b (Nat.ne_of_lt (by rw [hsz]; exact Nat.lt_succ_of_lt lt))]
  exact Heap.get?_push_of_some _ (hE ▸ Heap.get?_push_of_some _ e)
 have hD0:H2 s2.heap.objs.size=none:=I2.hok.fresh (Nat.le_refl _)
 have hC0:H2 g3.objs.size=none:=I2.hok.fresh (by omega)
 have hDat:h4.get? s2.heap.objs.size=some { cls:=.type "list",data:=.seq ([]:List Value).toArray }:=by
  rw [hsb.2 _ hDC]
  exact Heap.get?_push_of_some _ (hE ▸ Heap.get?_push_size _ rfl)
 obtain ⟨W,⟨m0,w0⟩,turn⟩:=q s2.heap.objs.size hD0
 have hfl:∀b∈fp,b<s2.heap.objs.size:=fun b hb=>by
  obtain ⟨o,e,_⟩:=T.obj _ _ st2 b hb
  exact Heap.lt_size e
 have J0:Inv (aD X sc (x :: ys) cl s2 H2 g3.objs.size fp) [] (none :: c_ σ js) (upd H2 s2.heap.objs.size (.lst [])) { s2 with heap:=h4,toks:=s2.toks+([]:List (Str×Value)).length }:=by
  refine iG (m:=fun y=>([]:List (Str×Value)).reverse.lookup y) I2 f2 hkind hcap hin hhas hfl (by omega) rfl I2.bare (Un.laid old (Nat.le_refl _) hD0) old hns ?_ ?_
  ·rw [ah (Ne.symm hDC)]; exact hC0
  ·exact I2.hok.laid old (Nat.le_refl _) ⟨Nat.zero_le _,[],0,.nil,hDat⟩
 have st4:tn 0 h4:=T.keep _ _ _ st2 fun b hb o e=>old b o e
 have xcell:∀y c,(aD X sc (x :: ys) cl s2 H2 g3.objs.size fp).env.cells.lookup y=some c->X.env.cells.lookup y=some c:=hin
 have stat:∀{H':Hp},(∀b∈fp,H' b=none)->∀b∈fp,bJ (aD X sc (x :: ys) cl s2 H2 g3.objs.size fp) [] H' b:=fun hn b hb=>by
  refine ⟨hn b hb,?_,?_,.inl hb,fun y c e=>(f2 b hb).2.2.2.2.1 y c (hin y c e),fun p hp=>absurd (show p∈([]:List (Addr×Obj)) from hp) (by simp)⟩
  ·have lt:b<s2.heap.objs.size:=hfl b hb
   exact Nat.ne_of_lt (by show b<g3.objs.size; rw [hsz]; exact Nat.lt_succ_of_lt lt)
  ·intro z
   rcases List.mem_cons.mp (I2.stkSub b z) with q | q
   ·exact (f2 b hb).2.1 q
   ·exact (f2 b hb).2.2.1 q
 have fin:∀{σ':St}{H':Hp}{s':Shared},Inv (aD X sc (x :: ys) cl s2 H2 g3.objs.size fp) [] σ' H' s'->bZ i0 (.ref s2.heap.objs.size) σ H' DE.nx ->
   compPost (model X.prog X.w) X.A X.xe (some (assign (.Name y0 py) X.env)) (fun _ s'=>SP X pins DE .next s') (.ref s2.heap.objs.size) g3.objs.size (.ok .next) s':=fun {σ' H' s'} J' q'=>by
  obtain ⟨m,hm,_⟩:=J'.loc
  have neC:∀b o,s2.heap.get? b=some o->b≠g3.objs.size:=fun b o e=>by
   have lt:b<s2.heap.objs.size:=Heap.lt_size e
   exact Nat.ne_of_lt (by rw [hsz]; exact Nat.lt_succ_of_lt lt)
  have ub:=J'.base
  have I':Inv X pins σ H' s':=I2.call' (ch:=fp) J'.os ub J'.hok J'.bare fun b hb=>⟨(f2 b hb).2.2.2.1,(f2 b hb).2.1,(f2 b hb).2.2.2.2.1,(f2 b hb).2.2.2.2.2⟩
  have fC:bJ X pins H' g3.objs.size:=I2.fpOk (by omega) J'.free
  show wpAny _ _ (assign (.Name y0 py) X.env (.ref s2.heap.objs.size)) _ _ s'
  refine wpAny_assign_Name (gl (v:=.ref s2.heap.objs.size) I' hN hi0 (.inl hy0) rfl (fun s3 I3 sb3=>?_) (.inr hy0))
  obtain ⟨a3,sb3,ha3⟩:=sb3
  have na:g3.objs.size≠a3:=by
   rcases ha3 with rfl | z
   ·exact fC.2.1
   ·exact fun e=>fC.2.2.2.2.1 _ _ z e.symm
  have h0:X.s₀.heap.get? g3.objs.size=none:=by
   cases e:X.s₀.heap.get? g3.objs.size with
   | none=>rfl
   | some o =>
    have l1:=Heap.lt_size e
    exact absurd (Nat.lt_of_lt_of_le l1 (Nat.le_trans I2.sz (Nat.le_trans (Nat.le_succ _) (Nat.le_of_eq hsz.symm)))) (Nat.lt_irrefl _)
  exact ⟨m,hm.sameBut sb3 na,fun h' sb=>⟨_,H',I3.but sb fC h0,q'⟩⟩
 have loop:∀s4:Shared,s4={ s2 with heap:=h4,toks:=s2.toks+([]:List (Str×Value)).length } ->
   codeAny (model X.prog X.w) X.A (.compLoop (.ListComp elt [⟨.Name x px,iter,[],0⟩] sc pos) 0 (.ref it) (.ref s2.heap.objs.size) (compEnvC sc cl g3.objs.size X.env))
    (compPost (model X.prog X.w) X.A X.xe (some (assign (.Name y0 py) X.env)) (fun _ s'=>SP X pins DE .next s') (.ref s2.heap.objs.size) g3.objs.size) s4:=by
  rintro s4 rfl
  refine mQ (fun n s'=>∃i xo ys' H',Inv (aD X sc (x :: ys) cl s2 H2 g3.objs.size fp) [] (xo :: c_ σ js) H' s'/\tn i s'.heap/\(∀b∈fp,H' b=none)/\W i n ys' H') ?_ m0 ⟨0,none,[],_,J0,st4,fun b hb=>?_,w0⟩
  ·rintro n s' ⟨i,xo,ys',H',J',st',fr',w'⟩
   obtain ⟨hD,alt⟩:=turn i n ys' H' w'
   rcases alt with ⟨stop,qn⟩ | ⟨go,step⟩
   ·refine wpAny_mono (T.done (aD X sc (x :: ys) cl s2 H2 g3.objs.size fp) rfl rfl rfl hc i [] s' _ H' (fun _ _=>False) J' (stat fr') st' stop) ?_ fun _ _ z=>z
    rintro r s'' ⟨rfl,J''⟩
    exact fin J'' qn
   ·refine wpAny_mono (T.item (aD X sc (x :: ys) cl s2 H2 g3.objs.size fp) rfl rfl rfl hc i [] s' _ H' (fun _ _=>False) J' (stat fr') st' go) ?_ fun _ _ z=>z
    rintro r s'' ⟨u,rfl,hu⟩
    refine wpAny_mono hu ?_ fun _ _ z=>z.elim
    rintro _ s5 ⟨xv,H5,J5,r5,y5,st5,fr5⟩
    have J5':=J5.pinned (stat fr5) (T.obj _ _ st5)
    refine wpAny_assign_Name (de (X:=aD X sc (x :: ys) cl s2 H2 g3.objs.size fp) (i:=0) J5' hnd rfl (.inl hx) r5 (fun s6 J6=>?_) (.inr hx))
    refine wpAny_mono (he s2 H2 g3.objs.size fp (hp pins σ H2 s2 fp g3.objs.size I2 f2 (by omega)) _ s6 _ H5 _ (J6.wish _) (step xv H5 y5)) ?_ fun _ _ z=>z
    rintro yv s7 ⟨yy,H7,J7w,r7,hD7,hlen,m',hm',w7⟩
    have J7:=J7w.unwish
    refine wpAny_mono (eQ (X:=aD X sc (x :: ys) cl s2 H2 g3.objs.size fp) _ s7 _ H7 (.ref s2.heap.objs.size) [yy] (.ref s2.heap.objs.size) [yv] (fun _ H8=>H8=upd H7 s2.heap.objs.size (.lst (ys'++[yy]))) J7 rfl (.cons r7 .nil) ⟨_,ys',yy,rfl,rfl,hD7,hlen,rfl⟩) ?_ fun _ _ z=>z
    rintro _ s8 ⟨_,H8,J8,_,rfl⟩
    have pinned:∀b∈fp,∀o,s5.heap.get? b=some o->s8.heap.get? b=some o/\(upd H7 s2.heap.objs.size (.lst (ys'++[yy]))) b=none:=fun b hb o e=>by
     obtain ⟨q1,q2,_⟩:=J8.pin (b,o) (List.mem_append_right _ (List.mem_append_right _ (cH hb e)))
     exact ⟨q1,q2⟩
    refine ⟨m',hm',i+1,some xv,ys'++[yy],_,J8.unpinned,T.keep _ _ _ st5 fun b hb o e=>(pinned b hb o e).1,fun b hb=>?_,w7⟩
    obtain ⟨o,e,_⟩:=T.obj _ _ st5 b hb
    exact (pinned b hb o e).2
  ·rw [ah (Nat.ne_of_lt (hfl b hb))]
   exact (f2 b hb).1
 exact codeAny_compStart_list (loop _ rfl) (T.self _ _ _ _ _ st4 (loop _ rfl))
end
theorem pK {X:Cx}{CX:CXT}{E:XK}{i0:Nat}{y0:Str}{py spos:Pos}{x:Str}{px pos:Pos}{elt iter:Expr}{sc:Scope}{wi:TI}{te:TE}(hN:X.N.Nodup) (ys:List Str) (js:List Nat) (cl:List (Str×Addr)) (hclos:closureFor sc X.env=pure cl) (hcap:Caps X sc cl ys js) (hin:ClIn X.env cl)
  (hp:∀pins σ H2 s2 fp C,Inv X pins σ H2 s2->(∀b∈fp,bJ X pins H2 b)->s2.heap.objs.size<=C->bC CX (bT X sc (x :: ys) cl s2 H2 C fp) E)
  (hi:PI X.nox (.Name x px) iter wi) (he:∀s2 H2 C ex,bC CX (bT X sc (x :: ys) cl s2 H2 C ex) E->PE (bT X sc (x :: ys) cl s2 H2 C ex) elt te) (hc:X.calm=true:=by rfl)
  (hcell:(sc.names.all fun p=>p.2 != NameKind.cell)=true:=by rfl) (hkind:sc.kind=.function:=by rfl) (hnames:(sc.names.all fun p=>p.2 != NameKind.local||sc.names.lookup p.1 == some NameKind.local)=true:=by rfl)
  (hx:(relabel sc X.env).names.lookup x=some .local:=by rfl) (hhas:((relabel sc X.env).names.all fun p=>p.2 == NameKind.local||p.2 == NameKind.globalImplicit||(cl.lookup p.1).isSome)=true:=by rfl)
  (hnd:(x :: ys).Nodup:=by decide +kernel) (hs:∀v,foldedSetIterable iter X.env v=pure v:=by intro _; rfl) (hi0:X.N[i0]?=some y0:=by kernel_rfl) (hy0:X.env.scope.names.lookup y0=some .local:=by kernel_rfl) (hsw:swapsWith (.ListComp elt [⟨.Name x px,iter,[],0⟩] sc pos) (some (.Name y0 py)) spos.line X.env=pure true:=by kernel_rfl) :
  PS X (.Assign [.Name y0 py] (.ListComp elt [⟨.Name x px,iter,[],0⟩] sc pos) spos) (gk (fN wi js te) (bZ i0)):=by
 refine rM hp hN hi0 hy0 hsw hclos (fun y hy z=>?_) hkind (fun y hy z=>?_) hx hcap (fun y c e=>hin.mem (PySem.mem_of_lookup e)) (fun y h=>?_) hnd hc hi he hs
 ·have:=List.all_eq_true.mp hcell y hy
  rw [z] at this
  exact absurd this (by decide)
 ·have:=List.all_eq_true.mp hnames y hy
  rw [z] at this
  simpa using this
 ·have hm:∃k,(y,k)∈(relabel sc X.env).names/\(k=.cell\/k=.free):=by
   rcases h with h | h
   ·exact ⟨_,PySem.mem_of_lookup h,.inl rfl⟩
   ·exact ⟨_,PySem.mem_of_lookup h,.inr rfl⟩
  obtain ⟨k,hk,hz⟩:=hm
  have:=List.all_eq_true.mp hhas _ hk
  rcases hz with rfl | rfl
  ·exact Option.isSome_iff_exists.mp (by simpa using this)
  ·exact Option.isSome_iff_exists.mp (by simpa using this)
theorem vd {X:Cx}{CX:CXT}{E:XK}{i:Nat}{y0:Str}{py spos:Pos}{x:Str}{px pos:Pos}{elt iter:Expr}{sc:Scope}{wi:TI}{te:TE}(hN:X.N.Nodup) (ys:List Str) (js:List Nat) (cl:List (Str×Addr)) (hclos:closureFor sc X.env=pure cl) (hcap:Caps X sc cl ys js) (hin:ClIn X.env cl)
  (hp:∀pins σ H2 s2 fp C,Inv X pins σ H2 s2->(∀b∈fp,bJ X pins H2 b)->s2.heap.objs.size<=C->bC CX (bT X sc (x :: ys) cl s2 H2 C fp) E)
  (hi:QI X.nox (.Name x px) iter wi) (he:∀s2 H2 C ex,bC CX (bT X sc (x :: ys) cl s2 H2 C ex) E->QE (bT X sc (x :: ys) cl s2 H2 C ex) elt te) (hc:X.calm=true:=by rfl)
  (hcell:(sc.names.all fun p=>p.2 != NameKind.cell)=true:=by rfl) (hkind:sc.kind=.function:=by rfl) (hnames:(sc.names.all fun p=>p.2 != NameKind.local||sc.names.lookup p.1 == some NameKind.local)=true:=by rfl)
  (hx:(relabel sc X.env).names.lookup x=some .local:=by rfl) (hhas:((relabel sc X.env).names.all fun p=>p.2 == NameKind.local||p.2 == NameKind.globalImplicit||(cl.lookup p.1).isSome)=true:=by rfl)
  (hnd:(x :: ys).Nodup:=by decide +kernel) (hs:∀v,foldedSetIterable iter X.env v=pure v:=by intro _; rfl) (hi0:X.N[i]?=some y0:=by kernel_rfl) (hy0:X.env.scope.names.lookup y0=some .local:=by kernel_rfl)
  (hsw:swapsWith (.ListComp elt [⟨.Name x px,iter,[],0⟩] sc pos) (some (.Name y0 py)) spos.line X.env=pure true:=by kernel_rfl) :
  QS X (.Assign [.Name y0 py] (.ListComp elt [⟨.Name x px,iter,[],0⟩] sc pos) spos) (gk (fN wi js te) (bZ i)) :=
 ⟨pK hN ys js cl hclos hcap hin hp hi.h (fun a b c d e=>(he a b c d e).h) hc hcell hkind hnames hx hhas hnd hs hi0 hy0 hsw⟩
theorem qA {K:PySem.W.Frag}{a:Addr}{xs:List V}{H:Hp}{cap:St}{te:TE}{Q:VK}(J:Nat->List V->Prop) (hS:SqT K H a xs) (hn:xs.length<=sizeLine) (j0:J 0 [])
  (el:∀(i:Nat) x zs H' (P:VK),Same H H'->xs[i]?=some x->J i zs->(∀y H'',Same H' H''->J (i+1) (zs++[y])->P y H'')->te (some x :: cap) H' P)
  (fin:∀D zs H',Same H H'->H D=none->H' D=some (.lst zs)->J xs.length zs->Q (.ref D) H'):dX (Itt K a) cap te Q H:=by
 intro D hD
 refine ⟨fun i m zs H2=>m=xs.length-i/\i<=xs.length/\zs.length=i/\H2 D=some (.lst zs)/\Same H H2/\J i zs,⟨xs.length,rfl,Nat.zero_le _,rfl,ac,Same.new hD _,j0⟩,?_⟩
 rintro i m zs H2 ⟨rfl,hi,hz,hDz,hS2,hj⟩
 refine ⟨hDz,?_⟩
 by_cases h:i<xs.length
 ·refine .inr ⟨⟨xs,xs[i],hS2.seqT hS,List.getElem?_eq_getElem h⟩,?_⟩
  rintro x H3 ⟨rfl,hx⟩
  refine el i x zs H3 _ hS2 (hx xs (hS2.seqT hS)) hj fun y H4 hS4 hj4=>⟨hS4 _ _ hDz,by omega,xs.length-(i+1),by omega,rfl,h,(by rw [List.length_append,hz]; rfl),ac,fun b u q=>?_,hj4⟩
  rw [ah (ap q hD)]
  exact hS4 _ _ (hS2 _ _ q)
 ·have e:i=xs.length:=by omega
  subst e
  exact .inl ⟨⟨xs,hS2.seqT hS,Nat.le_refl _⟩,fin D zs H2 hS2 hD hDz hj⟩
end L2
namespace G
open PySem L2
abbrev bK (x:Str):Prop:=PyData.strOk x=true
theorem iS {J:It}{xs ys:List V}{H:Hp}{cap:St}{te:TE}{Q:VK}(hn:xs.length<=sizeLine) (hl:ys.length=xs.length)
  (go:∀i H',Same H H'->i<xs.length->J.go i H') (yld:∀i H' x H'',Same H H'->i<xs.length->J.yld i H' x H''->H''=H'/\xs[i]?=some x) (stop:∀H',Same H H'->J.stop xs.length H')
  (el:∀(i:Nat) x y H' (P:VK),Same H H'->xs[i]?=some x->ys[i]?=some y->(∀H'',Same H' H''->P y H'')->te (some x :: cap) H' P) (fin:∀D H',Same H H'->H D=none->H' D=some (.lst ys)->Q (.ref D) H') :
  dX J cap te Q H:=by
 intro D hD
 refine ⟨fun i m zs H2=>m=xs.length-i/\i<=xs.length/\zs=ys.take i/\H2 D=some (.lst zs)/\Same H H2,⟨xs.length,rfl,Nat.zero_le _,by simp,ac,Same.new hD _⟩,?_⟩
 rintro i m zs H2 ⟨rfl,hi,hz,hDz,hS⟩
 refine ⟨hDz,?_⟩
 by_cases h:i<xs.length
 ·refine .inr ⟨go i H2 hS h,?_⟩
  intro x H3 hy
  obtain ⟨rfl,hx⟩:=yld i H2 x H3 hS h hy
  obtain ⟨yv,hyi⟩:∃yv,ys[i]?=some yv:=⟨ys[i]'(by omega),List.getElem?_eq_getElem (by omega)⟩
  have hzl:zs.length=i:=by rw [hz,List.length_take]; omega
  refine el i x yv H3 _ hS hx hyi fun H4 hS4=>⟨hS4 _ _ hDz,by omega,xs.length-(i+1),by omega,rfl,h,?_,ac,fun b u q=>?_⟩
  ·rw [hz,List.take_add_one,hyi]
   rfl
  ·rw [ah (ap q hD)]
   exact hS4 _ _ (hS _ _ q)
 ·have e:i=xs.length:=by omega
  subst e
  refine .inl ⟨stop H2 hS,fin D H2 hS hD ?_⟩
  rw [hDz,hz,List.take_of_length_le (by omega)]
theorem cq {K:PySem.W.Frag}{a:Addr}{xs:List V}{H:Hp}{cap:St}{te:TE}{Q:VK}(ys:List V) (hS:SqL K H a xs) (hn:xs.length<=sizeLine) (hl:ys.length=xs.length)
  (el:∀(i:Nat) x y H' (P:VK),Same H H'->xs[i]?=some x->ys[i]?=some y->(∀H'',Same H' H''->P y H'')->te (some x :: cap) H' P) (fin:∀D H',Same H H'->H D=none->H' D=some (.lst ys)->Q (.ref D) H') :
  dX (Itl K a) cap te Q H:=by
 refine iS (J:=Itl K a) (xs:=xs) (ys:=ys) hn hl ?_ ?_ ?_ el fin
 ·intro i H' s hi
  exact ⟨xs,xs[i],s.seq hS,List.getElem?_eq_getElem hi⟩
 ·rintro i H' x H'' s hi ⟨rfl,h⟩
  exact ⟨rfl,h xs (s.seq hS)⟩
 ·intro H' s
  exact ⟨xs,s.seq hS,Nat.le_refl _⟩
theorem uA {lo:Int}{n:Nat}{H:Hp}{cap:St}{te:TE}{Q:VK}(f:Nat->V) (hn:n<=sizeLine)
  (el:∀(i:Nat) H' (P:VK),i<n->Same H H'->(∀H'',Same H' H''->P (f i) H'')->te (some (.int (lo+i)) :: cap) H' P) (fin:∀D H',Same H H'->H D=none->H' D=some (.lst ((List.range n).map f))->Q (.ref D) H') :
  dX (Itr lo n) cap te Q H:=by
 have hlen:((List.range n).map fun (i:Nat)=>V.int (lo+i)).length=n:=by rw [List.length_map,List.length_range]
 refine iS (xs:=(List.range n).map fun (i:Nat)=>V.int (lo+i)) (ys:=(List.range n).map f) (by rw [hlen]; exact hn) (by rw [List.length_map,List.length_map]) ?_ ?_ ?_ ?_ fin
 ·intro i H' _ h
  rw [hlen] at h
  exact h
 ·rintro i H' y H'' _ h ⟨rfl,rfl⟩
  refine ⟨rfl,?_⟩
  rw [hlen] at h
  rw [List.getElem?_map,List.getElem?_range h]
  rfl
 ·intro H' _
  rw [hlen]
  exact Nat.le_refl _
 ·intro i y z H' P hS h1 h2 hP
  rw [List.getElem?_map] at h1 h2
  cases hc:(List.range n)[i]? with
  | none=>rw [hc] at h1; cases h1
  | some c =>
   obtain ⟨h3,h4⟩:=List.getElem?_eq_some_iff.mp hc
   rw [hc] at h1 h2
   rw [List.getElem_range] at h4
   subst h4
   cases h1
   cases h2
   rw [List.length_range] at h3
   exact el i H' P h3 hS hP
end G
namespace K01
open PySem
abbrev t9 (a b c d e f p g h:Nat):Str:=⟨#[a,b,c,d,e,f,p,g,h]⟩
end K01
namespace K01
open PySem PySem.NumText
def greatS:Str:="ABCDEFGHIJKLMNOPQRSTUVWXYZ"
def figS:Str:="0123456789"
def gr (c:Nat):Bool:=decide (c∈greatS.cps.toList)
def dg (c:Nat):Bool:=decide (c∈figS.cps.toList)
def keyOf (x:Str):Option (Str×Int):=match x.cps.toList with
 | [a,b,c,d,e,f,p,g,h]=>if (gr a&&gr b&&(dg c&&dg d&&dg e&&dg f)&&(p == 43)&&(dg g&&dg h)&&decide (digitsVal [g,h]<16))=true then some (⟨#[a,b]⟩,((digitsVal [c,d,e,f]:Nat):Int)*16+((digitsVal [g,h]:Nat):Int)) else none
 | _=>none
def Bg (a b:Nat) (n:Nat):Str:=t9 a b (48+n / 16 / 1000) (48+n / 16 / 100 % 10) (48+n / 16 / 10 % 10) (48+n / 16 % 10) 43 (48+n % 16 / 10) (48+n % 16 % 10)
end K01
namespace G
open PySem L2
theorem gi {α:Type}{xs:List α}{i:Int}(h0:0<=i) (h:i<(xs.length:Int)):∃v,atI xs i=some v/\v∈xs:=by
 have hj:i.toNat<xs.length:=by omega
 have e:i=((i.toNat:Nat):Int):=by omega
 have q:=ad (List.getElem?_eq_getElem hj)
 rw [<- e] at q
 exact ⟨xs[i.toNat],q,List.getElem_mem hj⟩
section
variable {K:PySem.W.Frag}
theorem tQ {T:String}:PySem.W.kitOne K (.type T) (gC (.ty T))=some true:=by
 unfold PySem.W.kitOne
 exact if_pos (beq_self_eq_true (Value.type T))
theorem v_ {T C:String}(h1:¬ (Value.type T == gC (.ty C))=true) (h2:PySem.W.kitMeta C=true) (h3:(fastBuiltinMro T).map (·.contains (.type C))=some false):PySem.W.kitOne K (.type T) (gC (.ty C))=some false:=by
 unfold PySem.W.kitOne
 rw [if_neg h1]
 show (if PySem.W.kitMeta C=true then PySem.W.subIn K (.type T) (.type C) else none)=some false
 rw [if_pos h2]
 exact h3
theorem int_bool:PySem.W.kitOne K (.type "int") (gC (.ty "bool"))=some false:=v_ (by decide +kernel) (by decide +kernel) (by decide +kernel)
end
inductive zk:V->Prop
 | non:zk .non
 | int (i:Int):zk (.int i)
 | str (x:Str) (h:x.length<=1000) (ok:bK x):zk (.str x)
def Bp:V->Bool
 | .str _=>true
 | _=>false
def BU:V->PyData
 | .int i=>.int i
 | .str x=>.str x
 | _=>.none
end G
namespace PySem
namespace F
end F
section
variable {prog:Program}{w:World}{A:Around}{E:Value->Shared->Prop}{s:Shared}
def Aq (l:Addr) (i:Int):Obj:={ cls:=.type "reversed",data:=.fields #[.ref l,rawInt i] }
def Heap.IsRevT (h:Heap) (a l:Addr) (i:Int):Prop:=∃o,h.get? a=some o/\o.cls=.type "reversed"/\o.data=.fields #[.ref l,rawInt i]
open PyProof.Rows in
open PyProof.Rows in
end
end PySem
namespace PySem
section
variable {prog:Program}{w:World}{A:Around}{E:Value->Shared->Prop}{s:Shared}
open PyProof.Rows in
end
end PySem
namespace L2
open PySem PySem.Spec PyProof.Rows
section
variable {X:Cx}
theorem mK {o i:Expr}{td ty:TE}{pos:Pos}(hu:X.A.units+1<cLine) (ho:QE X o td) (hi:QE X i ty) (hs:zm i:=by exact fun _ _=>rfl):QE X (.Subscript o i pos) (wZ td ty):=⟨vH hu ho.h hi.h hs⟩
theorem ur {o e:Expr}{to te:TE}{apos cpos:Pos}(ho:QE X o to) (ha:QE X e te) (hs:ax e=true:=by rfl) (hbase:attributeBase o "extend" X.env (eval o X.env)=eval o X.env:=by rfl) (hline:(apos.endLine == cpos.line)=true:=by rfl) :
  QE X (.Call (.Attribute o "extend" apos) [e] [] cpos) (tBM X.K "list" nM to (cu te g9)):=⟨w9 PySem.F.plainAttrs_list PySem.F.slot_list_extend PySem.F.type_list_extend pZ ho.h (pa' ha.h cV hs) hbase (by rw [au hs]; rfl) hline (au hs)⟩
theorem uI:bN X (.builtin "any") (fun xs H Q=>∃(a:Addr) (bs:List Bool),xs=[.ref a]/\SqL X.K H a (bs.map V.bl)/\X.calm=true/\Q (.bl (bs.any id)) H):=by
 intro pins s σ H xs us Q I r h
 obtain ⟨a,bs,rfl,hS,hc,q⟩:=h
 obtain ⟨u,rfl,rx⟩:=dY r
 cases rx
 obtain ⟨its,rv,pl,hz⟩:=I.list hS
 have hlen:its.length=bs.length:=by rw [<- rv.length,List.length_map]
 refine call_any_walk (wpAny_pyIter_list pl.isList ?_)
 have ne:a≠s.heap.objs.size:=by
  obtain ⟨o,e,_⟩:=pl.isList
  exact Nat.ne_of_lt (Heap.lt_size e)
 have hh:X.A.in1.handled=none:=I.ok.hd hc
 refine ⟨s.heap.objs.size,_,_,_,_,_,fun i=>bs.getD i false,rfl,Walks.list hh s.heap.objs.size a ne its.toArray,⟨⟨_,Heap.get?_push_size _ rfl,rfl,rfl⟩,?_⟩,?_,?_⟩
 ·obtain ⟨o,e,r⟩:=pl.isList
  exact ⟨o,Heap.get?_push_of_some _ e,r⟩
 ·intro i v s' Q' E' hv hq
  have hv':its[i]?=some v:=by simpa using hv
  have hi:i<its.length:=(List.getElem?_eq_some_iff.mp hv').1
  have hb:bs[i]?=some bs[i]:=List.getElem?_eq_getElem (by omega)
  obtain ⟨u,hu,ru⟩:=rv.get (i:=i) (x:=V.bl bs[i]) (by rw [List.getElem?_map,hb]; rfl)
  rw [hv'] at hu
  cases hu
  cases ru
  refine wpAny_truthy_bool ?_
  have e:bs.getD i false=bs[i]:=by rw [List.getD_eq_getElem?_getD,hb]; rfl
  exact e ▸ hq
 ·intro h' tk kp
  have e:((List.range its.toArray.size).any fun i=>bs.getD i false)=bs.any id:=by
   rw [List.size_toArray,hlen]
   clear hlen q hS rv hz
   induction bs with
   | nil=>rfl
   | cons b r ih =>
    rw [List.length_cons,List.range_succ_eq_map,List.any_cons,List.any_cons,<- ih,List.any_map]
    rfl
  rw [e]
  refine ⟨.bl _,H,?_,rfl,q⟩
  refine I.kept (h':=h') fun b o e=>kp b o ?_ (Heap.get?_push_of_some _ e)
  have lt:b<s.heap.objs.size:=Heap.lt_size e
  rw [List.mem_singleton]
  exact Nat.ne_of_lt lt
end
theorem uG {prog:Program}{w:World}{A:Around}{E:Value->Shared->Prop}{s:Shared}{t b:Addr}{vs ws:List Value}{Q:Value->Shared->Prop}(ht:IsTup s.heap t vs.toArray) (hb:IsTup s.heap b ws.toArray) (h0:vs=[]->Q (.ref b) s)
  (h1:vs≠[]->ws=[]->Q (.ref t) s) (h2:vs≠[]->ws≠[]->Q (.ref s.heap.objs.size) { s with heap:=s.heap.push { cls:=.type "tuple",data:=.seq (vs++ws).toArray } })
  (hsz:vs.length+ws.length<=sizeLine):wpAny (model prog w) A (binaryOp .Add (.ref t) (.ref b)) Q E s:=by
 by_cases hv:vs=[]
 ·obtain ⟨⟨cls,dd,data,sl⟩,ho,hc,n,hd⟩:=id ht
  obtain ⟨⟨cls2,dd2,data2,sl2⟩,ho2,hc2,n2,hd2⟩:=id hb
  simp only at hc hd hc2 hd2
  subst hc hd hc2 hd2
  exact concat_meets ⟨_,ho,rfl⟩ ⟨_,ho2,rfl⟩ noFill_tuple_add seq_tuple_add PySem.F.slot_tuple_add PySem.F.entry_tuple_add (PySem.F.args_tuple_add_2 _ _)
   (tuple_addW0 t b vs.toArray ws.toArray n n2 dd dd2 sl sl2 (by simp [hv])) ⟨ho,ho2,h0 hv⟩
 ·exact HT.cat_tup ht hb hv (h1 hv) (h2 hv) hsz
def zO:R2:=fun x y H Q=>∃a b xs ys,x=.ref a/\y=.ref b/\H a=some (.tup xs)/\H b=some (.tup ys)/\xs.length+ys.length<=sizeLine/\∀p H',Same H H'->H' p=some (.tup (xs++ys))->Q (.ref p) H'
section
variable {X:Cx}
theorem j7:OpR X (binaryOp .Add) zO:=by
 intro pins s σ H x y v u Q I rx ry h
 obtain ⟨a,b,xs,ys,rfl,rfl,ha,hb,hz,q⟩:=h
 cases rx
 cases ry
 obtain ⟨its,r1,p1,_⟩:=I.tuple (SqT.of (K:=X.K) ha)
 obtain ⟨its2,r2,p2,_⟩:=I.tuple (SqT.of (K:=X.K) hb)
 refine uG p1 p2 (fun z=>⟨.ref b,H,I,rfl,q b H (Same.refl _) ?_⟩) (fun _ z=>⟨.ref a,H,I,rfl,q a H (Same.refl _) ?_⟩) (fun _ z=>?_) (by rw [<- r1.length,<- r2.length]; exact hz)
 ·rw [r1.nil_iff.mp z]
  exact hb
 ·rw [r2.nil_iff.mp z,List.append_nil]
  exact ha
 ·have fr:H s.heap.objs.size=none:=I.hok.fresh (Nat.le_refl _)
  refine ⟨.ref s.heap.objs.size,_,I.laid (t':=s.toks) (o:=.tup (xs++ys)) (fun b ob q=>Heap.get?_push_of_some _ q) (Nat.le_refl _) ?_,rfl,q _ _ (Same.new fr _) ac⟩
  exact ⟨by rw [List.length_append]; exact hz,_,r1.append r2,IsTup.new _ _⟩
theorem eV {prog:Program}{w:World}{A:Around}{E:Value->Shared->Prop}{s:Shared}{t sl:Addr}{items:Array Value}{vl vu:Value}{lo hi:Option Int}{Q:Value->Shared->Prop}(ht:IsTup s.heap t items) (hs:s.heap.IsSliceOf sl vl vu .none) (pl:IsPart vl lo) (pu:IsPart vu hi)
  (hw:HT.sIx items.size 0 lo=0/\HT.sIx items.size items.size hi=items.size) (h:Q (.ref t) s):wpAny (model prog w) A (getItem (.ref t) (.ref sl)) Q E s:=by
 obtain ⟨os,hos,hcs,hds⟩:=id hs
 have hTs:s.TypeIs (.ref sl) "slice":=⟨os,hos,hcs⟩
 unfold getItem
 try with_reducible refine wpAny_holding ?_
 first | refine wpAny_bind (wpAny_pure ?_) | skip
 refine wpAny_bind (wpAny_sequenceKey ht.typeIs (by decide) ?_)
 refine wpAny_bind (wpAny_callSpecial?_slot (name:=Str.ofString "__getitem__") ht.typeIs PyProof.Rows.slot_tuple_getitem
  (wpAny_call_entry PyProof.Rows.slot_tuple_getitem ht.typeIs entry_tuple_getitem ?_ (args_tuple_getitem _ _)))
 show wpAny _ _ (Builtin.Tuple.tupleItemsOf (.ref t) >>= _) _ _ s
 refine wpAny_bind (tupleItemsOf_ ht ?_)
 refine wpAny_bind (wpAny_typeOf hTs ?_)
 rw [if_pos (by decide)]
 refine wpAny_bind (HT.sliceApplied_gen hs pl pu ?_)
 have hyes:(((HT.sIx items.size 0 lo:Nat):Int) == 0&&(1:Int) == 1&&(HT.sIx items.size items.size hi-HT.sIx items.size 0 lo) == items.size)=true:=by
  rw [hw.1,hw.2]
  simp
 show wpAny _ _ (if (((HT.sIx items.size 0 lo:Nat):Int) == 0&&(1:Int) == 1&&(HT.sIx items.size items.size hi-HT.sIx items.size 0 lo) == items.size)=true then _ else _) _ _ s
 rw [if_pos hyes]
 refine wpAny_bind (m:=Builtin.Tuple.tupleIsExact _) ?_
 show wpAny _ _ (typeOf (.ref t) >>= _) _ _ s
 refine wpAny_bind (wpAny_typeOf ht.typeIs (wpAny_pure ?_))
 rw [if_pos (by decide)]
 refine wpAny_bind (wpAny_rule ?_)
 exact wpAny_pure ⟨_,rfl,wpAny_pure h⟩
def AJ:V->Option Int->Option Int->Hp->VK->Prop:=fun x lo hi H Q=>∃a xs,x=.ref a/\H a=some (.tup xs)/\∀p H',Same H H'->H' p=some (.tup (bD xs lo hi))->Q (.ref p) H'
theorem fR:SlR X AJ:=by
 intro pins s σ H x v vl vu lo hi sl Q I rx hs pl pu h
 obtain ⟨a,xs,rfl,hx,q⟩:=h
 cases rx
 obtain ⟨its,r,ht,hz⟩:=I.tuple (SqT.of (K:=X.K) hx)
 have hlen:its.toArray.size=xs.length:=by rw [List.size_toArray]; exact r.length.symm
 refine ⟨"tuple",_,PyProof.Rows.slot_tuple_getitem.lookup,ht.typeIs,?_⟩
 by_cases hw:HT.sIx xs.length 0 lo=0/\HT.sIx xs.length xs.length hi=xs.length
 ·refine eV ht hs pl pu (by rw [hlen]; exact hw) ⟨.ref a,H,I,rfl,q a H (Same.refl _) ?_⟩
  unfold bD
  rw [hw.1,hw.2,List.drop_zero,Nat.sub_zero,List.take_length]
  exact hx
 ·refine HT.getItem_tuple_cut ht hs pl pu (by rw [hlen]; exact hw) ?_ (by rw [hlen]; exact hz)
  rw [hlen]
  have fr:H s.heap.objs.size=none:=I.hok.fresh (Nat.le_refl _)
  refine ⟨.ref s.heap.objs.size,_,I.laid (t':=s.toks) (o:=.tup (bD xs lo hi)) (fun b ob q=>Heap.get?_push_of_some _ q) (Nat.le_refl _) ?_,rfl,q _ _ (Same.new fr _) ac⟩
  exact ⟨Nat.le_trans (gI xs lo hi) hz,_,(r.drop (HT.sIx xs.length 0 lo)).take (HT.sIx xs.length xs.length hi-HT.sIx xs.length 0 lo),IsTup.new _ _⟩
end
def Itv (K:PySem.W.Frag) (a:Addr) (xs:List V):It :=
 ⟨fun i H=>SqT K H a xs/\i<xs.length,fun i H x H'=>H'=H/\xs.reverse[i]?=some x,fun i H=>SqT K H a xs/\xs.length<=i⟩
def Bs (K:PySem.W.Frag) (ta:TA):TI:=fun σ H R=>ta σ H fun vs H1=>∃a xs,vs=[.ref a]/\SqT K H1 a xs/\R (Itv K a xs) H1
section
variable {X:Cx}
end
end L2
namespace IT
open PySem
inductive It where
 | clip (r:Str) (f l:Int)
 | times (m:Int) (xs:List It)
 | back (xs:List It)
 | part (n:Str) (xs:List It)
 | fade (m:Int)
structure Cl where
 r:Str
 f:Int
 l:Int
 d:Int
def isF:It->Bool
 | .fade _=>true
 | _=>false
def bL (m:Int):List Cl->List Cl
 | []=>[]
 | c :: r=>⟨c.r,c.f,c.l,m⟩ :: r
def revA:Int->List Cl->List Cl
 | _,[]=>[]
 | a,c :: r=>⟨c.r,c.l,c.f,a⟩ :: revA c.d r
def rev (cs:List Cl):List Cl:=revA 0 cs.reverse
def rep (n:Nat) (A:List Cl):List Cl:=(List.replicate n A).flatten
def step (x:It) (more:List Cl) (s:List Cl×Int):List Cl×Int :=
 match x with
 | .fade m=>(s.1,m)
 | _=>match more with
  | []=>s
  | c :: r=>(s.1++bL s.2 (c :: r),0)
mutual
def flI:It->List Cl
 | .clip r f l=>[⟨r,f,l,0⟩]
 | .times m xs=>rep m.toNat (run xs ([],0)).1
 | .back xs=>rev (run xs ([],0)).1
 | .part _ xs=>(run xs ([],0)).1
 | .fade _=>[]
def run:List It->List Cl×Int->List Cl×Int
 | [],s=>s
 | x :: r,s=>run r (step x (flI x) s)
end
def flL (xs:List It):List Cl:=(run xs ([],0)).1
theorem eR (m:Int) (xs:List It):flI (.times m xs)=rep m.toNat (flL xs):=by rw [flI,flL]
theorem gc (xs:List It):flI (.back xs)=rev (flL xs):=by rw [flI,flL]
theorem f_ (n:Str) (xs:List It):flI (.part n xs)=flL xs:=by rw [flI,flL]
theorem run_app:∀(xs ys:List It) (s:List Cl×Int),run (xs++ys) s=run ys (run xs s)
 | [],ys,s=>by rw [List.nil_append,run]
 | x :: r,ys,s=>by rw [List.cons_append,run,run,run_app r ys]
mutual
inductive WI:It->Prop
 | clip {r f l}:WI (.clip r f l)
 | times {m xs}:1<=m->m<=20->WL xs->WI (.times m xs)
 | back {xs}:WL xs->WI (.back xs)
 | part {n xs}:WL xs->WI (.part n xs)
inductive WL:List It->Prop
 | one {x}:WI x->WL [x]
 | cons {x r}:WI x->WL r->WL (x :: r)
 | fade {x m r}:WI x->WL r->WL (x :: .fade m :: r)
end
theorem WI.nf {x:It}(h:WI x):isF x=false:=by cases h <;> rfl
theorem WL.head {xs:List It}(h:WL xs):∃x r,xs=x :: r/\WI x:=by
 cases h with
 | one h=>exact ⟨_,_,rfl,h⟩
 | cons h _=>exact ⟨_,_,rfl,h⟩
 | fade h _=>exact ⟨_,_,rfl,h⟩
theorem eO (m n:Int) (A:List Cl):bL m (bL n A)=bL m A:=by cases A <;> rfl
theorem ei {m:Int}{A B:List Cl}(h:A≠[]):bL m (A++B)=bL m A++B:=by
 cases A with
 | nil=>exact absurd rfl h
 | cons a r=>rfl
theorem eP {m:Int}{A:List Cl}(h:A≠[]):bL m A≠[]:=by
 cases A with
 | nil=>exact absurd rfl h
 | cons a r=>exact List.cons_ne_nil _ _
theorem ie (m:Int) (A:List Cl):(bL m A).length=A.length:=by cases A <;> rfl
def H0 (A:List Cl):Prop:=A≠[]/\bL 0 A=A
theorem bx {x:It}{A:List Cl}{s:List Cl×Int}(hx:isF x=false) (hA:A≠[]):step x A s=(s.1++bL s.2 A,0):=by
 cases A with
 | nil=>exact absurd rfl hA
 | cons a r=>cases x <;> first | rfl | cases hx
theorem l4 (x:It) (A F:List Cl) (s:List Cl×Int):step x A (F++s.1,s.2)=(F++(step x A s).1,(step x A s).2):=by
 cases x <;> cases A <;> simp [step]
theorem jb:∀(xs:List It) (F:List Cl) (s:List Cl×Int),run xs (F++s.1,s.2)=(F++(run xs s).1,(run xs s).2)
 | [],F,s=>by rw [run,run]
 | x :: r,F,s=>by rw [run,run,l4,jb r F]
theorem bO (xs:List It) (F:List Cl) (k:Int):run xs (F,k)=(F++(run xs ([],k)).1,(run xs ([],k)).2):=by
 have:=jb xs F ([],k)
 rwa [List.append_nil] at this
theorem rC (a b:Int) (A:List Cl):revA a A=bL a (revA b A):=by cases A <;> rfl
theorem rev_len (A:List Cl):(rev A).length=A.length:=by
 have:∀(a:Int) (B:List Cl),(revA a B).length=B.length:=by
  intro a B
  induction B generalizing a with
  | nil=>rfl
  | cons c r ih=>rw [revA,List.length_cons,List.length_cons,ih]
 rw [rev,this,List.length_reverse]
theorem rq {A:List Cl}(h:A≠[]):rev A≠[]:=by
 intro z
 have:=rev_len A
 rw [z] at this
 exact h (List.eq_nil_of_length_eq_zero this.symm)
theorem rB {A:List Cl}(h:A≠[]):H0 (rev A):=by
 refine ⟨rq h,?_⟩
 rw [rev,<- rC]
theorem kK (n:Nat) (A:List Cl):rep (n+1) A=A++rep n A:=by rw [rep,List.replicate_succ,List.flatten_cons,<- rep]
theorem xU {n:Nat}{A:List Cl}(h:H0 A) (hn:1<=n):H0 (rep n A):=by
 obtain ⟨k,rfl⟩:∃k,n=k+1:=⟨n-1,by omega⟩
 rw [kK]
 exact ⟨fun z=>h.1 (List.append_eq_nil_iff.mp z).1,by rw [ei h.1,h.2]⟩
theorem ve (n:Nat) (A:List Cl):(rep n A).length=n*A.length:=by
 induction n with
 | zero=>simp [rep]
 | succ n ih=>rw [kK,List.length_append,ih,Nat.succ_mul,Nat.add_comm]
mutual
theorem WI.h0:∀{x:It},WI x->H0 (flI x)
 | _,.clip=>by rw [flI]; exact ⟨List.cons_ne_nil _ _,rfl⟩
 | _,.times h1 _ h=>by rw [eR]; exact xU h.h0.1 (by omega)
 | _,.back h=>by rw [gc]; exact rB h.h0.1.1
 | _,.part h=>by rw [f_]; exact h.h0.1
theorem WL.h0:∀{xs:List It},WL xs->H0 (flL xs)/\(run xs ([],0)).2=0
 | _,.one (x:=x) h=>by
  have a:=h.h0
  rw [flL,run,bx h.nf a.1,run]
  simp only [List.nil_append]
  exact ⟨⟨eP a.1,eO 0 0 _⟩,trivial⟩
 | _,.cons (x:=x) (r:=r) h t=>by
  have a:=h.h0
  obtain ⟨b,c⟩:=t.h0
  rw [flL,run,bx h.nf a.1,bO]
  simp only [List.nil_append]
  exact ⟨⟨fun z=>eP a.1 (List.append_eq_nil_iff.mp z).1,by rw [ei (eP a.1),eO]⟩,c⟩
 | _,.fade (x:=x) (m:=m) (r:=r) h t=>by
  have a:=h.h0
  obtain ⟨b,c⟩:=t.h0
  rw [flL,run,bx h.nf a.1,run,step,bO]
  simp only [List.nil_append]
  refine ⟨⟨fun z=>eP a.1 (List.append_eq_nil_iff.mp z).1,by rw [ei (eP a.1),eO]⟩,?_⟩
  obtain ⟨y,q,rfl,hy⟩:=t.head
  have ay:=hy.h0
  have z:∀k:Int,(run (y :: q) ([],k)).2=(run (y :: q) ([],0)).2:=by
   intro k
   rw [run,run,bx hy.nf ay.1,bx hy.nf ay.1]
   simp only [List.nil_append]
   rw [bO q (bL k (flI y)) 0,bO q (bL 0 (flI y)) 0]
  show (run (y :: q) ([],m)).2=0
  rw [z,c]
end
theorem WL.run {xs:List It}(h:WL xs) (F:List Cl) (k:Int):run xs (F,k)=(F++bL k (flL xs),0):=by
 obtain ⟨y,q,rfl,hy⟩:=h.head
 have ay:=hy.h0
 have c:=h.h0.2
 rw [flL]
 rw [IT.run,bx hy.nf ay.1] at c ⊢
 rw [IT.run,bx hy.nf ay.1]
 simp only [List.nil_append] at c ⊢
 rw [bO q (bL 0 (flI y)) 0] at c ⊢
 rw [bO q (F++bL k (flI y)) 0]
 simp only at c ⊢
 rw [c,ei (eP ay.1),eO,List.append_assoc]
theorem mJ {x:It}(h:WI x):flL [x]=flI x:=by
 have a:=h.h0
 rw [flL,run,bx h.nf a.1,run]
 exact a.2
theorem yV {p q:List It}(hp:WL p) (hq:WL q):flL (p++q)=flL p++flL q:=by
 have a:=hq.h0.1
 rw [flL,run_app,hp.run,hq.run]
 simp only [List.nil_append]
 rw [hp.h0.1.2,a.2]
theorem wt {p q:List It}{m:Int}(hp:WL p) (hq:WL q):flL (p++.fade m :: q)=flL p++bL m (flL q):=by
 rw [flL,run_app,hp.run,IT.run,step,hq.run]
 simp only [List.nil_append]
 rw [hp.h0.1.2]
def inp (xs:List It):List It:=if (xs.take 1++xs.drop (xs.length-1)).any isF then [.times 1 xs] else xs
mutual
def tI:It->List It
 | .clip r f l=>[.clip r l f]
 | .times m xs=>[.times m (tL xs)]
 | .part n xs=>[.back [.part n xs]]
 | .back xs=>inp (sL xs)
 | .fade m=>[.fade m]
def tL:List It->List It
 | []=>[]
 | x :: r=>tL r++tI x
def sI:It->List It
 | .clip r f l=>[.clip r f l]
 | .times m xs=>[.times m (sL xs)]
 | .part n xs=>[.part n xs]
 | .back xs=>inp (tL xs)
 | .fade m=>[.fade m]
def sL:List It->List It
 | []=>[]
 | x :: r=>sI x++sL r
end
mutual
def dI:It->PyData
 | .clip r f l=>.tuple [.str "clip",.str r,.int f,.int l]
 | .times m xs=>.tuple [.str "times",.int m,.tuple (dL xs)]
 | .back xs=>.tuple [.str "back",.tuple (dL xs)]
 | .part n _=>.tuple [.str "part",.str n]
 | .fade m=>.tuple [.str "fade",.int m]
def dL:List It->List PyData
 | []=>[]
 | x :: r=>dI x :: dL r
end
theorem bo:∀xs:List It,dL xs=xs.map dI
 | []=>by rw [dL]; rfl
 | x :: r=>by rw [dL,bo r]; rfl
theorem mO (p q:List It):dL (p++q)=dL p++dL q:=by rw [bo,bo,bo,List.map_append]
mutual
def okI (T:Str->Prop) (G:Str->List It->Prop):It->Prop
 | .clip r _ _=>T r
 | .times _ xs=>okL T G xs
 | .back xs=>okL T G xs
 | .part n xs=>G n xs
 | .fade _=>True
def okL (T:Str->Prop) (G:Str->List It->Prop):List It->Prop
 | []=>True
 | x :: r=>okI T G x/\okL T G r
end
section
variable {T:Str->Prop}{G:Str->List It->Prop}
end
mutual
def dpI:It->Nat
 | .clip _ _ _=>0
 | .times _ xs=>dpL xs+1
 | .back xs=>dpL xs+1
 | .part _ xs=>dpL xs+1
 | .fade _=>0
def dpL:List It->Nat
 | []=>0
 | x :: r=>max (dpI x) (dpL r)
end
theorem dpL_le {d:Nat}:∀{xs:List It},dpL xs<=d↔∀x∈xs,dpI x<=d
 | []=>by rw [dpL]; exact ⟨fun _ x h=>(nomatch h),fun _=>Nat.zero_le _⟩
 | y :: r=>by
  rw [dpL,Nat.max_le,dpL_le (xs:=r)]
  constructor
  ·intro h x hx
   rcases List.mem_cons.mp hx with rfl | z
   ·exact h.1
   ·exact h.2 x z
  ·exact fun h=>⟨h y (List.mem_cons_self ..),fun x hx=>h x (List.mem_cons_of_mem _ hx)⟩
mutual
def wI:It->Nat
 | .clip _ _ _=>1
 | .times _ xs=>wL xs+1
 | .back xs=>wL xs+1
 | .part _ _=>1
 | .fade _=>1
def wL:List It->Nat
 | []=>0
 | x :: r=>wI x+wL r
end
theorem qM:∀p q:List It,wL (p++q)=wL p+wL q
 | [],q=>by rw [List.nil_append,wL,Nat.zero_add]
 | x :: r,q=>by rw [List.cons_append,wL,wL,qM r q]; omega
theorem xx (x:It):1<=wI x:=by cases x <;> simp [wI]
theorem qL:∀xs:List It,xs.length<=wL xs
 | []=>Nat.zero_le _
 | x :: r=>by have:=qL r; have:=xx x; rw [wL,List.length_cons]; omega
theorem qK:∀{xs:List It}{x:It},x∈xs->wI x<=wL xs
 | y :: r,x,h=>by
  rw [wL]
  rcases List.mem_cons.mp h with rfl | z
  ·omega
  ·have:=qK z; omega
mutual
def plI:It->Prop
 | .clip _ _ _=>True
 | .times _ xs=>plL xs/\xs≠[]
 | .back xs=>∃n ys,xs=[.part n ys]
 | .part _ _=>True
 | .fade _=>True
def plL:List It->Prop
 | []=>True
 | x :: r=>plI x/\plL r
end
mutual
def cnI:It->Int
 | .clip _ _ _=>1
 | .times m xs=>m*cnL xs
 | .back xs=>cnL xs
 | .part _ xs=>cnL xs
 | .fade _=>0
def cnL:List It->Int
 | []=>0
 | x :: r=>cnI x+cnL r
end
mutual
def frI:It->Int
 | .clip _ f l=>(if l-f<0 then -(l-f) else l-f)+1
 | .times m xs=>m*frL xs
 | .back xs=>frL xs
 | .part _ xs=>frL xs
 | .fade _=>0
def frL:List It->Int
 | []=>0
 | x :: r=>frI x+frL r
end
theorem oS:∀p q:List It,cnL (p++q)=cnL p+cnL q
 | [],q=>by rw [List.nil_append,cnL,Int.zero_add]
 | x :: r,q=>by rw [List.cons_append,cnL,cnL,oS r q]; omega
theorem qX (x:It) (A:List Cl) (s:List Cl×Int) (h:isF x=true->A=[]):(step x A s).1.length=s.1.length+A.length:=by
 cases x with
 | fade m=>rw [h rfl]; simp [step]
 | _=>cases A <;> simp [step,ie]
theorem wq {x:It}(h:isF x=true):flI x=[]:=by cases x with | fade m=>rw [flI] | _=>cases h
theorem rD {m:Int}(h:0<=m) (A:List Cl):((rep m.toNat A).length:Int)=m*(A.length:Int):=by
 rw [ve,Int.natCast_mul,Int.toNat_of_nonneg h]
mutual
theorem iT:∀{x:It},WI x->((flI x).length:Int)=cnI x
 | _,.clip=>by rw [flI,cnI]; rfl
 | _,.times h1 _ h=>by rw [eR,rD (by omega),cO h,cnI]
 | _,.back h=>by rw [gc,rev_len,cO h,cnI]
 | _,.part h=>by rw [f_,cO h,cnI]
theorem cO:∀{xs:List It},WL xs->((flL xs).length:Int)=cnL xs
 | _,.one h=>by rw [mJ h,iT h,cnL,cnL,Int.add_zero]
 | _,.cons (x:=x) (r:=r) h t=>by
  have e:flL (x :: r)=flL [x]++flL r:=yV (.one h) t
  rw [e,List.length_append,mJ h,Int.natCast_add,iT h,cO t,cnL]
 | _,.fade (x:=x) (m:=m) (r:=r) h t=>by
  have e:flL (x :: .fade m :: r)=flL [x]++bL m (flL r):=wt (.one h) t
  rw [e,List.length_append,ie,mJ h,Int.natCast_add,iT h,cO t,cnL,cnL,cnI,Int.zero_add]
end
mutual
theorem kq:∀{x:It},WI x->1<=cnI x
 | _,.clip=>by rw [cnI]; omega
 | _,.times (m:=m) h1 _ h=>by
  rw [cnI]
  have a:=eT h
  have b:m*1<=m*cnL _:=Int.mul_le_mul_of_nonneg_left a (by omega)
  omega
 | _,.back h=>by rw [cnI]; exact eT h
 | _,.part h=>by rw [cnI]; exact eT h
theorem eT:∀{xs:List It},WL xs->1<=cnL xs
 | _,.one h=>by rw [cnL,cnL,Int.add_zero]; exact kq h
 | _,.cons h t=>by rw [cnL]; have:=kq h; have:=eT t; omega
 | _,.fade h t=>by rw [cnL,cnL,cnI]; have:=kq h; have:=eT t; omega
end
theorem WL.mem:∀{xs:List It},WL xs->∀x∈xs,WI x\/∃m,x=.fade m
 | _,.one h,x,hx=>by rw [List.mem_singleton.mp hx]; exact .inl h
 | _,.cons h t,x,hx=>by
  rcases List.mem_cons.mp hx with rfl | z
  ·exact .inl h
  ·exact t.mem x z
 | _,.fade h t,x,hx=>by
  rcases List.mem_cons.mp hx with rfl | z
  ·exact .inl h
  ·rcases List.mem_cons.mp z with rfl | z
   ·exact .inr ⟨_,rfl⟩
   ·exact t.mem x z
theorem uD {x:It}(h:WI x\/∃m,x=.fade m):0<=cnI x:=by
 rcases h with h | ⟨m,rfl⟩
 ·have:=kq h; omega
 ·rw [cnI]; omega
theorem nB:∀(xs:List It) (s:List Cl×Int),(∀x∈xs,WI x\/∃m,x=.fade m)->((run xs s).1.length:Int)=s.1.length+cnL xs
 | [],s,_=>by rw [run,cnL,Int.add_zero]
 | x :: r,s,h=>by
  rw [run,nB r _ fun y hy=>h y (List.mem_cons_of_mem _ hy),cnL,qX x (flI x) s wq]
  have:((flI x).length:Int)=cnI x:=by
   rcases h x (List.mem_cons_self ..) with w | ⟨m,rfl⟩
   ·exact iT w
   ·rw [flI,cnI]; rfl
  omega
theorem gf:∀(xs:List It) (i:Nat),(∀x∈xs,WI x\/∃m,x=.fade m)->cnL (xs.take i)<=cnL xs/\0<=cnL xs
 | [],i,_=>by rw [List.take_nil,cnL]; omega
 | x :: r,0,h=>by
  have a:=uD (h x (List.mem_cons_self ..))
  have b:=(gf r 0 fun y hy=>h y (List.mem_cons_of_mem _ hy)).2
  rw [List.take_zero,cnL,cnL]
  omega
 | x :: r,i+1,h=>by
  have a:=uD (h x (List.mem_cons_self ..))
  have b:=gf r i fun y hy=>h y (List.mem_cons_of_mem _ hy)
  rw [List.take_succ_cons,cnL,cnL]
  omega
theorem uE:∀{xs:List It}{x:It},(∀x∈xs,WI x\/∃m,x=.fade m)->x∈xs->cnI x<=cnL xs
 | y :: r,x,h,hx=>by
  have a:=uD (h y (List.mem_cons_self ..))
  have b:=(gf r 0 fun y hy=>h y (List.mem_cons_of_mem _ hy)).2
  rw [cnL]
  rcases List.mem_cons.mp hx with rfl | z
  ·omega
  ·have:=uE (fun y hy=>h y (List.mem_cons_of_mem _ hy)) z; omega
def NM (T:Str->Prop) (cs:List Cl):Prop:=∀c∈cs,T c.r
section
variable {T:Str->Prop}{G:Str->List It->Prop}
end
end IT
namespace DT
open PySem L2 G
mutual
inductive Td (H:Hp):V->PyData->Prop
 | int (i:Int):Td H (.int i) (.int i)
 | str (x:Str):Td H (.str x) (.str x)
 | tup {a:Addr}{vs:List V}{ds:List PyData}:H a=some (.tup vs)->Tds H vs ds->Td H (.ref a) (.tuple ds)
inductive Tds (H:Hp):List V->List PyData->Prop
 | nil:Tds H [] []
 | cons {v:V}{vs:List V}{d:PyData}{ds:List PyData}:Td H v d->Tds H vs ds->Tds H (v :: vs) (d :: ds)
end
def TK (H H':Hp):Prop:=∀a xs,H a=some (.tup xs)->H' a=some (.tup xs)
theorem TK.trans {H H1 H2:Hp}(a:TK H H1) (b:TK H1 H2):TK H H2:=fun c o h=>b c o (a c o h)
theorem TK.of {H H':Hp}(s:Same H H'):TK H H':=fun _ _ h=>s _ _ h
theorem TK.lst {H:Hp}{p:Addr}{xs:List V}{o:HO}(h:H p=some (.lst xs)):TK H (upd H p o):=fun a ys e=>by rw [ah (bn e h (by intro z; cases z))]; exact e
theorem TK.dk {H:Hp}{p:Addr}{kvs:List (Key×V)}{o:HO}(h:H p=some (.dK kvs)):TK H (upd H p o):=fun a ys e=>by rw [ah (bn e h (by intro z; cases z))]; exact e
theorem TK.new {H:Hp}{p:Addr}(h:H p=none) (o:HO):TK H (upd H p o):=TK.of (Same.new h o)
mutual
theorem Td.tk {H H':Hp}(t:TK H H'):∀{v:V}{d:PyData},Td H v d->Td H' v d
 | _,_,.int i=>.int i
 | _,_,.str x=>.str x
 | _,_,.tup h r=>.tup (t _ _ h) (r.tk t)
theorem Tds.tk {H H':Hp}(t:TK H H'):∀{vs:List V}{ds:List PyData},Tds H vs ds->Tds H' vs ds
 | _,_,.nil=>.nil
 | _,_,.cons h r=>.cons (h.tk t) (r.tk t)
end
mutual
theorem Td.den {K:PySem.W.Frag}{H:Hp}:∀{v:V}{d:PyData},Td H v d->Den K H v d
 | _,_,.int i=>.int i
 | _,_,.str x=>.str x
 | _,_,.tup h r=>.tup (SqT.of h) r.den
theorem Tds.den {K:PySem.W.Frag}{H:Hp}:∀{vs:List V}{ds:List PyData},Tds H vs ds->DenAll K H vs ds
 | _,_,.nil=>.nil
 | _,_,.cons h r=>.cons h.den r.den
end
theorem Tds.len {H:Hp}:∀{vs:List V}{ds:List PyData},Tds H vs ds->vs.length=ds.length
 | _,_,.nil=>rfl
 | _,_,.cons _ r=>by rw [List.length_cons,List.length_cons,r.len]
theorem Tds.app {H:Hp}:∀{vs us:List V}{ds es:List PyData},Tds H vs ds->Tds H us es->Tds H (vs++us) (ds++es)
 | _,_,_,_,.nil,h=>h
 | _,_,_,_,.cons a r,h=>.cons a (r.app h)
theorem Tds.one {H:Hp}{v:V}{d:PyData}(h:Td H v d):Tds H [v] [d]:=.cons h .nil
theorem Tds.get {H:Hp}:∀{vs:List V}{ds:List PyData}{i:Nat}{v:V},Tds H vs ds->vs[i]?=some v->∃d,ds[i]?=some d/\Td H v d
 | _,_,0,_,.cons h _,e=>by cases e; exact ⟨_,rfl,h⟩
 | _,_,i+1,_,.cons _ r,e=>r.get (i:=i) e
theorem Tds.at {H:Hp}:∀{vs:List V}{ds:List PyData}{i:Nat}{d:PyData},Tds H vs ds->ds[i]?=some d->∃v,vs[i]?=some v/\Td H v d
 | _,_,0,_,.cons h _,e=>by cases e; exact ⟨_,rfl,h⟩
 | _,_,i+1,_,.cons _ r,e=>r.at (i:=i) e
theorem Tds.drop {H:Hp}:∀{vs:List V}{ds:List PyData}(n:Nat),Tds H vs ds->Tds H (vs.drop n) (ds.drop n)
 | _,_,0,h=>h
 | _,_,n+1,.nil=>.nil
 | _,_,n+1,.cons h r=>r.drop n
theorem qz (vs:List V):bD vs none (some 1)=vs.take 1:=by
 unfold bD
 have e:HT.sIx vs.length vs.length (some 1)=min 1 vs.length:=HT.sIx_nat _ _ 1
 rw [e,HT.sIx_none,List.drop_zero,Nat.sub_zero]
 cases vs with
 | nil=>rfl
 | cons a r=>rw [Nat.min_eq_left (by rw [List.length_cons]; omega)]
theorem lK (vs:List V) (k:Nat):bD vs (some (k:Int)) none=vs.drop k:=by
 unfold bD
 rw [HT.sIx_nat,HT.sIx_none]
 by_cases h:k<=vs.length
 ·rw [Nat.min_eq_left h,List.take_of_length_le (by rw [List.length_drop]; omega)]
 ·rw [Nat.min_eq_right (by omega),Nat.sub_self,List.take_zero,List.drop_eq_nil_of_le (by omega)]
theorem Tds.rev {H:Hp}:∀{vs:List V}{ds:List PyData},Tds H vs ds->Tds H vs.reverse ds.reverse
 | _,_,.nil=>.nil
 | _,_,.cons h r=>by
  rw [List.reverse_cons,List.reverse_cons]
  exact r.rev.app (.cons h .nil)
theorem Tds.rep {H:Hp}{vs:List V}{ds:List PyData}(h:Tds H vs ds):∀n:Nat,Tds H (List.replicate n vs).flatten (List.replicate n ds).flatten
 | 0=>.nil
 | n+1=>by
  rw [List.replicate_succ,List.replicate_succ,List.flatten_cons,List.flatten_cons]
  exact h.app (h.rep n)
theorem Td.tinv {H:Hp}{v:V}{ds:List PyData}(h:Td H v (.tuple ds)):∃a vs,v=.ref a/\H a=some (.tup vs)/\Tds H vs ds:=by
 cases h with
 | tup h r=>exact ⟨_,_,rfl,h,r⟩
theorem Td.sinv {H:Hp}{v:V}{x:Str}(h:Td H v (.str x)):v=.str x:=by cases h; rfl
theorem Td.iinv {H:Hp}{v:V}{x:Int}(h:Td H v (.int x)):v=.int x:=by cases h; rfl
open IT
def kd:IT.It->Str
 | .clip _ _ _=>"clip"
 | .times _ _=>"times"
 | .back _=>"back"
 | .part _ _=>"part"
 | .fade _=>"fade"
theorem fL {H:Hp}{v:V}{r:Str}{f l:Int}(h:Td H v (dI (.clip r f l))):∃a,v=.ref a/\H a=some (.tup [.str "clip",.str r,.int f,.int l]):=by
 rw [dI] at h
 obtain ⟨a,vs,rfl,h1,h2⟩:=h.tinv
 cases h2 with | cons a1 h2=>cases h2 with | cons a2 h2=>cases h2 with | cons a3 h2=>cases h2 with | cons a4 h2=>cases h2; rw [a1.sinv,a2.sinv,a3.iinv,a4.iinv] at h1; exact ⟨_,rfl,h1⟩
theorem d8 {H:Hp}{v:V}{m:Int}{xs:List IT.It}(h:Td H v (dI (.times m xs))):∃a b,v=.ref a/\H a=some (.tup [.str "times",.int m,.ref b])/\Td H (.ref b) (.tuple (dL xs)):=by
 rw [dI] at h
 obtain ⟨a,vs,rfl,h1,h2⟩:=h.tinv
 cases h2 with | cons a1 h2=>cases h2 with | cons a2 h2=>cases h2 with | cons a3 h2=>cases h2; rw [a1.sinv,a2.iinv] at h1; obtain ⟨b,us,rfl,h3,h4⟩:=a3.tinv; exact ⟨_,b,rfl,h1,.tup h3 h4⟩
theorem fM {H:Hp}{v:V}{xs:List IT.It}(h:Td H v (dI (.back xs))):∃a b,v=.ref a/\H a=some (.tup [.str "back",.ref b])/\Td H (.ref b) (.tuple (dL xs)):=by
 rw [dI] at h
 obtain ⟨a,vs,rfl,h1,h2⟩:=h.tinv
 cases h2 with | cons a1 h2=>cases h2 with | cons a3 h2=>cases h2; rw [a1.sinv] at h1; obtain ⟨b,us,rfl,h3,h4⟩:=a3.tinv; exact ⟨_,b,rfl,h1,.tup h3 h4⟩
theorem fJ {H:Hp}{v:V}{n:Str}{xs:List IT.It}(h:Td H v (dI (.part n xs))):∃a,v=.ref a/\H a=some (.tup [.str "part",.str n]):=by
 rw [dI] at h
 obtain ⟨a,vs,rfl,h1,h2⟩:=h.tinv
 cases h2 with | cons a1 h2=>cases h2 with | cons a2 h2=>cases h2; rw [a1.sinv,a2.sinv] at h1; exact ⟨_,rfl,h1⟩
theorem fK {H:Hp}{v:V}{m:Int}(h:Td H v (dI (.fade m))):∃a,v=.ref a/\H a=some (.tup [.str "fade",.int m]):=by
 rw [dI] at h
 obtain ⟨a,vs,rfl,h1,h2⟩:=h.tinv
 cases h2 with | cons a1 h2=>cases h2 with | cons a2 h2=>cases h2; rw [a1.sinv,a2.iinv] at h1; exact ⟨_,rfl,h1⟩
theorem m_ {H:Hp}{v:V}{x:IT.It}(h:Td H v (dI x)):∃a vs,v=.ref a/\H a=some (.tup (.str (kd x) :: vs)):=by
 cases x with
 | clip r f l=>obtain ⟨a,rfl,e⟩:=fL h; exact ⟨a,_,rfl,e⟩
 | times m xs=>obtain ⟨a,b,rfl,e,_⟩:=d8 h; exact ⟨a,_,rfl,e⟩
 | back xs=>obtain ⟨a,b,rfl,e,_⟩:=fM h; exact ⟨a,_,rfl,e⟩
 | part n xs=>obtain ⟨a,rfl,e⟩:=fJ h; exact ⟨a,_,rfl,e⟩
 | fade m=>obtain ⟨a,rfl,e⟩:=fK h; exact ⟨a,_,rfl,e⟩
theorem j9 {H:Hp}{a:Addr}{r:Str}{f l:Int}(h:H a=some (.tup [.str "clip",.str r,.int f,.int l])):Td H (.ref a) (dI (.clip r f l)):=by
 rw [dI]; exact .tup h (.cons (.str _) (.cons (.str _) (.cons (.int _) (.cons (.int _) .nil))))
theorem kU {H:Hp}{a b:Addr}{m:Int}{xs:List IT.It}(h:H a=some (.tup [.str "times",.int m,.ref b])) (hb:Td H (.ref b) (.tuple (dL xs))):Td H (.ref a) (dI (.times m xs)):=by
 rw [dI]; exact .tup h (.cons (.str _) (.cons (.int _) (.cons hb .nil)))
theorem n_ {H:Hp}{a b:Addr}{xs:List IT.It}(h:H a=some (.tup [.str "back",.ref b])) (hb:Td H (.ref b) (.tuple (dL xs))):Td H (.ref a) (dI (.back xs)):=by
 rw [dI]; exact .tup h (.cons (.str _) (.cons hb .nil))
theorem v5 {H:Hp}{a:Addr}{n:Str}{xs:List IT.It}(h:H a=some (.tup [.str "part",.str n])):Td H (.ref a) (dI (.part n xs)):=by
 rw [dI]; exact .tup h (.cons (.str _) (.cons (.str _) .nil))
theorem v6 {H:Hp}{a:Addr}{m:Int}(h:H a=some (.tup [.str "fade",.int m])):Td H (.ref a) (dI (.fade m)):=by
 rw [dI]; exact .tup h (.cons (.str _) (.cons (.int _) .nil))
theorem sne {x y:Str}(h:(x == y)=false:=by decide +kernel):decide (V.str x=V.str y)=false:=decide_eq_false fun e=>by
 cases e
 rw [beq_self_eq_true] at h
 cases h
theorem seq (x:Str):decide (V.str x=V.str x)=true:=decide_eq_true rfl
theorem iteN {c:Bool}{A B:Prop}(h:c=false) (b:B):if c=true then A else B:=by rw [h]; exact bQ b
theorem iteY {c:Bool}{A B:Prop}(h:c=true) (a:A):if c=true then A else B:=by rw [h]; exact cX a
theorem gW:∀x:IT.It,decide (V.str (kd x)=V.str "fade")=isF x
 | .clip _ _ _=>(sne:decide (V.str "clip"=V.str "fade")=false)
 | .times _ _=>(sne:decide (V.str "times"=V.str "fade")=false)
 | .back _=>(sne:decide (V.str "back"=V.str "fade")=false)
 | .part _ _=>(sne:decide (V.str "part"=V.str "fade")=false)
 | .fade _=>(seq _:decide (V.str "fade"=V.str "fade")=true)
theorem kn {xs:List IT.It}{i:Nat}{d:PyData}(h:(dL xs)[i]?=some d):∃x,xs[i]?=some x/\d=dI x:=by
 rw [bo,List.getElem?_map] at h
 cases e:xs[i]? with
 | none=>rw [e] at h; cases h
 | some x=>rw [e] at h; exact ⟨x,rfl,(Option.some.inj h).symm⟩
def IL (H:Hp) (l:Addr) (xs:List IT.It):Prop:=∃vs,H l=some (.lst vs)/\Tds H vs (dL xs)
def dC (c:Cl):PyData:=.tuple [.str c.r,.int c.f,.int c.l,.int c.d]
theorem eY {H:Hp}{v:V}{c:Cl}(h:Td H v (dC c)):∃a,v=.ref a/\H a=some (.tup [.str c.r,.int c.f,.int c.l,.int c.d]):=by
 obtain ⟨a,vs,rfl,h1,h2⟩:=Td.tinv h
 cases h2 with | cons a1 h2=>cases h2 with | cons a2 h2=>cases h2 with | cons a3 h2=>cases h2 with | cons a4 h2=>cases h2; rw [a1.sinv,a2.iinv,a3.iinv,a4.iinv] at h1; exact ⟨_,rfl,h1⟩
theorem kW {H:Hp}{a:Addr}{c:Cl}(h:H a=some (.tup [.str c.r,.int c.f,.int c.l,.int c.d])):Td H (.ref a) (dC c):=.tup h (.cons (.str _) (.cons (.int _) (.cons (.int _) (.cons (.int _) .nil))))
def CL (H:Hp) (l:Addr) (cs:List Cl):Prop:=∃vs,H l=some (.lst vs)/\Tds H vs (cs.map dC)
def CF (cs:List Cl):Prop:=∀c∈cs,bK c.r
end DT
namespace L2
open PySem PySem.Spec PyProof.Rows PySem.Builtin PySem.Builtin.Str
section
variable {X:Cx}
def AH:V->List V->Hp->VK->Prop:=fun x vs H Q=>∃z y,x=.str z/\vs=[.str y]/\(y.length == 0)=false/\z.length+2<=sizeLine/\∀p,H p=none->Q (.ref p) (upd H p (.lst ((Txt.split z y).map V.str)))
def Bj:V->List V->Hp->VK->Prop:=fun x vs H Q=>∃z y,x=.str z/\vs=[.str y]/\(y.length == 0)=false/\z.length<=sizeLine/\∀p,H p=none->Q (.ref p) (upd H p (.tup [.str (Txt.partition z y).1,.str (Txt.partition z y).2.1,.str (Txt.partition z y).2.2]))
def Ar:V->List V->Hp->VK->Prop:=fun x vs H Q=>∃z y,x=.str z/\vs=[.str y]/\Q (.bl (Txt.startswith z y)) H
def Bl:V->List V->Hp->VK->Prop:=fun x vs H Q=>∃z y,x=.str z/\vs=[.str y]/\Q (.bl (Txt.endswith z y)) H
def AQ:V->List V->Hp->VK->Prop:=fun x vs H Q=>∃z y,x=.str z/\vs=[.str y]/\Q (.int (Txt.count z y)) H
theorem zt {a:Expr}{ta:TE}(ha:QE X a ta) (he:∀whole,isTrue a X.env whole=(do let v <- whole; standAt a.pos; holding [v] (truthy v)):=by intro _; rfl):QT X a (fun σ H Q=>ta σ H fun x H'=>∃k,zi X.K x H' k/\Q k H'):=⟨rG ha.h he⟩
def tF (te:TE):TE:=fun σ H Q=>te σ H fun v H1=>(∃x,v=.str x/\x.length<=sizeLine/\Q (.str x) H1)\/∃i,v=.int i/\i.natAbs.log2<1920/\Q (.str (toString i)) H1
abbrev TJ:=Str->St->Hp->VK->Prop
structure QJ (X:Cx) (es:List Expr) (t:TJ):Prop where
 h:∀(out:Str) (pins:List (Addr×Obj)) (s:Shared) (σ:St) (H:Hp) (Q:VK),Inv X pins σ H s->t out σ H Q->wpAny (model X.prog X.w) X.A (joinParts out (evalEach es X.env)) (EP X pins σ Q) X.xe s
end
end L2
namespace ET
open PySem PySem.Spec PyProof.Rows
section
variable {prog:Program}{w:World}{A:Around}{E:Value->Shared->Prop}{s:Shared}
theorem pY {J T:Addr}{k:Nat}{us:Array Value}{v:Value}{Q:Value->Shared->Prop}(hJ:s.heap.IsTupleIter J T k) (hT:s.heap.IsTuple T us) (hv:us[k]?=some v)
  (q:∀h',h'.IsTupleIter J T (k+1)->Heap.SameBut J s.heap h'->Q v { s with heap:=h' }):wpAny (model prog w) A (Builtin.SmallTypes.nextOf (.ref J)) Q E s:=by
 obtain ⟨oJ,gJ,cJ,dJ⟩:=id hJ
 obtain ⟨oT,gT,_,m,dT⟩:=hT
 unfold Builtin.SmallTypes.nextOf
 refine wpAny_bind (wpAny_callSpecial?_slot (name:=Str.ofString "__next__") hJ.typeIs F.slot_tuple_iterator_next (wpAny_call_entry F.slot_tuple_iterator_next hJ.typeIs F.entry_tuple_iterator_next ?_ (F.args_tuple_iterator_next_1 _)))
 show wpAny _ _ (field (.ref J) 0 >>= _) _ _ s
 refine wpAny_bind (wpAny_field gJ dJ (x:=.ref T) rfl ?_)
 show wpAny _ _ (if (Value.ref T == Value.none)=true then _ else _) _ _ s
 rw [if_neg (show ¬ ((Value.ref T == Value.none)=true) from Bool.false_ne_true)]
 show wpAny _ _ (field (.ref J) 1 >>= _) _ _ s
 refine wpAny_bind (wpAny_field gJ dJ (x:=.int k 0) rfl ?_)
 show wpAny _ _ (seqItems? (.ref T) >>= _) _ _ s
 refine wpAny_bind (wpAny_seqItems gT dT ?_)
 simp only [Int.toNat_natCast,hv]
 refine wpAny_bind (wpAny_setField gJ dJ (by simp) (wpAny_pure ⟨v,rfl,wpAny_pure (q _ ?_ (Heap.SameBut.update ..))⟩))
 exact ⟨_,Heap.get?_update_self _ gJ (Obj.isFreed_of_fields (Obj.data_mapFields dJ _)),(Obj.cls_mapFields ..).trans cJ,by rw [Obj.data_mapFields dJ]; simp [rawInt]⟩
theorem tm {J T:Addr}{k:Nat}{us:Array Value}{Q:Value->Shared->Prop}(hA:A.handled=none) (hJ:s.heap.IsTupleIter J T k) (hT:s.heap.IsTuple T us) (hv:us[k]?=none)
  (q:∀h' e,Heap.ExtBut J s.heap h'->(∃o,h'.get? e=some o/\o.cls=.type "StopIteration")->E (.ref e) { s with heap:=h' }):wpAny (model prog w) A (Builtin.SmallTypes.nextOf (.ref J)) Q E s:=by
 obtain ⟨oJ,gJ,cJ,dJ⟩:=id hJ
 obtain ⟨oT,gT,_,m,dT⟩:=hT
 unfold Builtin.SmallTypes.nextOf
 refine wpAny_bind (wpAny_callSpecial?_slot (name:=Str.ofString "__next__") hJ.typeIs F.slot_tuple_iterator_next (wpAny_call_entry F.slot_tuple_iterator_next hJ.typeIs F.entry_tuple_iterator_next ?_ (F.args_tuple_iterator_next_1 _)))
 show wpAny _ _ (field (.ref J) 0 >>= _) _ _ s
 refine wpAny_bind (wpAny_field gJ dJ (x:=.ref T) rfl ?_)
 show wpAny _ _ (if (Value.ref T == Value.none)=true then _ else _) _ _ s
 rw [if_neg (show ¬ ((Value.ref T == Value.none)=true) from Bool.false_ne_true)]
 show wpAny _ _ (field (.ref J) 1 >>= _) _ _ s
 refine wpAny_bind (wpAny_field gJ dJ (x:=.int k 0) rfl ?_)
 show wpAny _ _ (seqItems? (.ref T) >>= _) _ _ s
 refine wpAny_bind (wpAny_seqItems gT dT ?_)
 simp only [Int.toNat_natCast,hv]
 refine wpAny_bind (wpAny_rule (wpAny_bind (wpAny_setField gJ dJ (by simp) ?_)))
 show wpAny _ _ (newExc (.type "StopIteration") [] >>= _) _ _ _
 refine wpAny_bind ?_
 simp only [newExc,newTuple]
 refine wpAny_bind (wpAny_newObj_type ?_ (by size_fits))
 refine wpAny_bind (m:=firstArgMember _ _) (wpAny_of_eq (a:=Value.none) (by first | rfl | (simp only [firstArgMember]; rfl)) ?_)
 refine wpAny_newObj_type ?_ (by size_fits)
 simp only [raiseNew]
 refine wpAny_bind (wpAny_handled ?_)
 rw [hA]
 refine wpAny_bind (wpAny_pure (wpAny_throw ?_))
 exact q _ _ (((Heap.SameBut.update ..).extBut.push _).push _) ⟨_,Heap.get?_push_size _ rfl,rfl⟩
end
theorem draws {prog:Program}{w:World}{A:Around}(hA:A.handled=none) (J T:Addr) (ne:T≠J) (us:Array Value) :
  Draws prog w A J [J,T] us.size (fun i v=>us[i]?=some v) (fun i h=>h.IsTupleIter J T i/\h.IsTuple T us) where
 live:=fun _ _ st=>let ⟨o,ho,_⟩:=st.1; ⟨o,ho⟩
 frame:=fun _ _ _ st k=>⟨st.1.at fun o e=>k J (by simp) o e,let ⟨o,ho,r⟩:=st.2; ⟨o,k T (by simp) o ho,r⟩⟩
 item:=fun i s Q E hi st q=>pY st.1 st.2 (v:=us[i]) (by simp [hi]) fun h' a b=>q _ h' s.toks (by simp [hi]) ⟨a,st.2.extBut b.extBut ne⟩ b
 done:=fun s Q E st q=>tm hA st.1 st.2 (by simp) q
open AutoSeq1 (wpAny_loadPart')
theorem p_ (T:Addr) (us:Array Value) (n:Nat) (dc:Option Addr) (sl:Array (Option Value)) :
  Meets (Builtin.«enumerate.__new__» ⟨[.type "enumerate",.ref T],[]⟩) (fun _ R s=>s.heap.get? T=some { cls:=.type "tuple",dict:=dc,data:=.seq us n,slots:=sl } /\
   R (.ok (.ret (.ref (s.heap.push { cls:=.type "tuple_iterator",data:=.fields #[.ref T,.int 0 0] }).objs.size)))
    { s with heap:=(s.heap.push { cls:=.type "tuple_iterator",data:=.fields #[.ref T,.int 0 0] }).push { cls:=.type "enumerate",data:=.fields #[.none,.bool false,.ref s.heap.objs.size,rawInt 0,.none,.none] } }) :=
 .of_wp fun prog w A R s h=>by
  obtain ⟨hp,g,d,tk,os⟩:=s
  obtain ⟨hl,h⟩:=h
  have hsub:=sub_enumerate
  have hT:Heap.IsTuple (Shared.heap ⟨hp,g,d,tk,os⟩) T us:=⟨_,hl,rfl,n,rfl⟩
  wp_walk using wpAny_loadPart' hl
  refine wpAny_stack_any fun st=>wpAny_pure ?_
  split
  ·rename_i c _ _ _ _ _
   cases (c == Value.type "enumerate")
   ·wp_walk using wpAny_loadPart' hl,wpAny_pyIter_tuple hT
    exact ⟨_,rfl,h⟩
   ·wp_walk using wpAny_loadPart' hl,wpAny_pyIter_tuple hT
    exact ⟨_,rfl,h⟩
  ·wp_walk using wpAny_loadPart' hl,wpAny_pyIter_tuple hT
   exact ⟨_,rfl,h⟩
theorem call_new {prog:Program}{w:World}{A:Around}{E:Value->Shared->Prop}{s:Shared}{T:Addr}{us:Array Value}{Q:Value->Shared->Prop}(hT:s.heap.IsTuple T us)
  (h:∀h',IsEnum h' (s.heap.objs.size+1) s.heap.objs.size 0 .none->h'.IsTupleIter s.heap.objs.size T 0->(∀b o,s.heap.get? b=some o->h'.get? b=some o)->Q (.ref (s.heap.objs.size+1)) { s with heap:=h' }) :
  wpAny (model prog w) A (call (.type "enumerate") [.ref T]) Q E s:=by
 obtain ⟨⟨c,dc,dt,sl⟩,g,c1,n,d1⟩:=hT
 replace c1:c=.type "tuple":=c1
 replace d1:dt=.seq us n:=d1
 subst c1 d1
 refine callType_new F.called_enumerate (by decide) (F.typeCall_enumerate_1 _) (F.newCall_enumerate_1 _) (fun obj=>F.args_object_init_2 obj _) F.entry_enumerate_new (p_ T us n dc sl) ⟨g,?_⟩
 have hz:(s.heap.push { cls:=.type "tuple_iterator",data:=.fields #[.ref T,.int 0 0] }).objs.size=s.heap.objs.size+1:=Heap.size_push ..
 show _/\_
 rw [hz]
 have he:IsEnum ((s.heap.push { cls:=.type "tuple_iterator",data:=.fields #[.ref T,.int 0 0] }).push { cls:=.type "enumerate",data:=.fields #[.none,.bool false,.ref s.heap.objs.size,rawInt 0,.none,.none] }) (s.heap.objs.size+1) s.heap.objs.size 0 .none:=by
  have z:=Heap.get?_push_size (s.heap.push { cls:=.type "tuple_iterator",data:=.fields #[.ref T,.int 0 0] }) (o:={ cls:=.type "enumerate",data:=.fields #[.none,.bool false,.ref s.heap.objs.size,rawInt 0,.none,.none] }) rfl
  rw [hz] at z
  exact z
 exact ⟨⟨_,he,rfl⟩,h _ he ⟨_,Heap.get?_push_of_some _ (Heap.get?_push_size _ rfl),rfl,rfl⟩ fun b o x=>Heap.get?_push_of_some _ (Heap.get?_push_of_some _ x)⟩
end ET
namespace L2
open PySem PySem.Spec PyProof.Rows
def uL (K:PySem.W.Frag) (a:Addr):It :=
 ⟨fun i H=>∃xs x,SqT K H a xs/\xs[i]?=some x,fun i H x H'=>∃p v,x=.ref p/\H p=none/\H'=upd H p (.tup [.int (i:Int),v])/\∀xs,SqT K H a xs->xs[i]?=some v,fun i H=>∃xs,SqT K H a xs/\xs.length=i⟩
theorem lV {P:Program}{w:World}{K:PySem.W.Frag}{elts:List Expr}{x1} {pos:Pos}(a e it:Addr) (hne:e≠it) :
  kt P w K (.Tuple elts x1 pos) (uL K a) [e,it] e (fun i h=>∃old,IsEnum h e it (i:Int) old/\h.IsTupleIter it a i) where
 mem:=by simp
 obj:=fun i h st b hb=>by
  obtain ⟨old,he,o,e1,c,d⟩:=st
  have hb':b=e\/b=it:=by simpa using hb
  rcases hb' with rfl | rfl
  ·exact ⟨_,he,fun v z=>by
    have z':Data.fields _=Data.cell v:=z
    cases z'⟩
  ·exact ⟨o,e1,fun v z=>by rw [d] at z; cases z⟩
 keep:=fun i h h' st k=>by
  obtain ⟨old,he,hi⟩:=st
  exact ⟨old,k e (by simp) _ he,hi.at fun o q=>k it (by simp) o q⟩
 item:=by
  intro X hP hw hK hc i pins s σ H E I hf st hg
  subst hP hw hK
  obtain ⟨xs,x,hq,hx⟩:=hg
  obtain ⟨old,he,hit⟩:=st
  obtain ⟨its,rv,p,hz⟩:=I.tuple hq
  have p':s.heap.IsTuple a its.toArray:=p
  obtain ⟨u,hu,ru⟩:=rv.get hx
  have hu':its.toArray[i]?=some u:=by simpa using hu
  have nea:e≠a:=fun z=>by
   obtain ⟨o,e1,c1,_⟩:=p'
   rw [<- z,he] at e1
   cases e1
   exact absurd (Value.type.inj c1) (by decide)
  have nia:a≠it:=fun z=>by
   obtain ⟨o,e1,c1,_⟩:=p'
   obtain ⟨o2,e2,c2,_⟩:=hit
   rw [z,e2] at e1
   cases e1
   rw [c1] at c2
   exact absurd (Value.type.inj c2) (by decide)
  refine wpAny_pyNext_enum_itemD (ET.draws (show X.A.in1.handled=none from I.ok.hd hc) it a nia its.toArray) he ⟨hit,p'⟩ (Array.getElem?_eq_some_iff.mp hu').1 hne (by simp [hne,nea]) fun x' h1 tk hP eo st1 ht hz1 hk1=>?_
  obtain rfl:u=x':=by
   have z:=hu'.symm.trans hP
   cases z
   rfl
  refine ⟨_,rfl,wpAny_letOwnedTupleGo_enum (s:={ s with heap:=h1,toks:=tk+1 }) eo fun h2 he2 hs2=>?_⟩
  have hs2':Heap.SameBut e h1 h2:=hs2
  have nH:H s.heap.objs.size=none:=I.hok.fresh (Nat.le_refl _)
  have eL:e<s.heap.objs.size:=Heap.lt_size he
  obtain ⟨oi,hoi,ci,di⟩:=id hit
  have iL:it<s.heap.objs.size:=Heap.lt_size hoi
  have ht2:h2.get? s.heap.objs.size=some { cls:=.type "tuple",data:=.seq #[.int i tk,u] }:=(hs2'.2 _ (Nat.ne_of_gt eL)).trans ht
  have pg:(s.heap.push { cls:=.type "tuple",data:=.seq #[.int i tk,u] }).get? s.heap.objs.size=some { cls:=.type "tuple",data:=.seq #[.int i tk,u] }:=Heap.get?_push_size _ rfl
  have J1:=I.laid (a:=s.heap.objs.size) (o:=.tup [.int (i:Int),x]) (h':=s.heap.push { cls:=.type "tuple",data:=.seq #[.int i tk,u] }) (t':=s.toks) (fun b v z=>Heap.get?_push_of_some _ z) (Nat.le_refl _)
   ⟨(by show 2<=sizeLine; decide),[.int i tk,u],.cons ⟨_,rfl⟩ (.cons ru .nil),⟨_,pg,rfl,_,rfl⟩⟩
  have fp':∀b∈[e,it],bJ X pins (upd H s.heap.objs.size (.tup [.int (i:Int),x])) b:=fun b hb=>by
   obtain ⟨f0,f1,f2,f3,f4,f5⟩:=hf b hb
   have hb':b=e\/b=it:=by simpa using hb
   refine ⟨?_,f1,f2,f3,f4,f5⟩
   rw [ah (by rcases hb' with rfl | rfl; exact Nat.ne_of_lt eL; exact Nat.ne_of_lt iL)]
   exact f0
  have J2:=J1.turnedL (h':=h2) (t':=tk+1) (ch:=[e,it]) (fun b o hb z=>by
   have n1:b≠e:=fun y=>hb (by simp [y])
   have n2:b≠it:=fun y=>hb (by simp [y])
   by_cases hp:b=s.heap.objs.size
   ·subst hp
    have z':s.heap.objs.size=s.heap.objs.size->(s.heap.push { cls:=.type "tuple",data:=.seq #[.int i tk,u] }).get? s.heap.objs.size=some o:=fun _=>z
    rw [pg] at z'
    have:=z' rfl
    cases this
    exact ht2
   ·have z2:s.heap.get? b=some o:=bY z hp
    exact (hs2'.2 b n1).trans (hk1 b o n1 n2 z2)) fp'
  refine ⟨.ref s.heap.objs.size,_,J2,rfl,⟨_,x,rfl,nH,rfl,fun ys hy=>by rw [I.tuple_inj hy hq]; exact hx⟩,⟨u,?_,?_⟩,fun b hb=>(fp' b hb).1⟩
  ·have e1:((i:Int)+1)=((i+1:Nat):Int):=by omega
   rw [<- e1]
   exact he2
  ·exact st1.1.at fun o q=>(hs2'.2 it (Ne.symm hne)).trans q
 done:=by
  intro X hP hw hK hc i pins s σ H E I hf st hg
  subst hP hw hK
  obtain ⟨xs,hq,hx⟩:=hg
  obtain ⟨old,he,hit⟩:=st
  obtain ⟨its,rv,p,hz⟩:=I.tuple hq
  have p':s.heap.IsTuple a its.toArray:=p
  have hl:=rv.length
  have nia:a≠it:=fun z=>by
   obtain ⟨o,e1,c1,_⟩:=p'
   obtain ⟨o2,e2,c2,_⟩:=hit
   rw [z,e2] at e1
   cases e1
   rw [c1] at c2
   exact absurd (Value.type.inj c2) (by decide)
  obtain rfl:i=its.toArray.size:=by simp; omega
  refine wpAny_pyNext_enum_endD (ET.draws (show X.A.in1.handled=none from I.ok.hd hc) it a nia its.toArray) he ⟨hit,p'⟩ fun h' eb=>⟨rfl,I.turnedL (t':=s.toks) (ch:=[e,it]) (fun b o hb z=>eb b o (fun y=>hb (by simp [y])) z) hf⟩
 self:=fun _ _ _ _ _ st h=>by
  obtain ⟨old,he,_⟩:=st
  exact wpAny_pyIter_enum he h
def tW (K:PySem.W.Frag) (ta:TA):TI:=fun σ H R=>ta σ H fun vs H1=>∃a,vs=[.ref a]/\(∃xs,SqT K H1 a xs)/\R (uL K a) H1
section
variable {X:Cx}
theorem rR {elts:List Expr}{x1} {tpos p pos:Pos}{a:Expr}{ta:TA}(hg:Gl X "enumerate") (hm:X.mg "enumerate"=none) (hbt:bootBuiltins "enumerate"=some (.type "enumerate")) (ha:PA X [a] ta) (hs:starEach [a] X.env=[(false,eval a X.env)]:=by rfl) :
  PI X (.Tuple elts x1 tpos) (.Call (.Name "enumerate" p) [a] [] pos) (tW X.K ta):=by
 intro pins s σ H R I h
 refine Call_ (bP I hg hm hbt (PyProof.Rows.callWith_type1 (thn (ha pos pins s σ H _ I h) fun us s1 ⟨vs,H1,I1,r1,q1⟩=>?_) hs rfl))
 obtain ⟨a,rfl,⟨xs,hq⟩,q⟩:=q1
 obtain ⟨u,rfl,ru⟩:=dY r1
 cases ru
 obtain ⟨its,rv,pl,hz⟩:=I1.tuple hq
 refine ET.call_new (show s1.heap.IsTuple a its.toArray from pl) fun h' he hi hk=>?_
 refine wpAny_pyIter_enum he ?_
 have I2:Inv X pins σ H1 { s1 with heap:=h' }:=I1.kept (t':=s1.toks) hk
 refine ⟨s1.heap.objs.size+1,[s1.heap.objs.size+1,s1.heap.objs.size],_,_,H1,rfl,I2,lV a _ _ (Nat.succ_ne_self _),⟨_,he,hi⟩,fun b hb=>?_,q⟩
 have hb':b=s1.heap.objs.size+1\/b=s1.heap.objs.size:=by simpa using hb
 rcases hb' with rfl | rfl
 ·exact I1.fpOk (Nat.le_succ _) (I1.hok.fresh (Nat.le_succ _))
 ·exact I1.fpOk (Nat.le_refl _) (I1.hok.fresh (Nat.le_refl _))
theorem qp {K:PySem.W.Frag}{a:Addr}{xs:List V}{g:TG}{tb:TS}{D:Ends}{σ:St}{H:Hp}(Pv:Nat->St->Hp->Prop) (h0:Pv 0 σ H) (hl:∀i σ H,i<=xs.length->Pv i σ H->SqT K H a xs)
  (hs:∀i x σ H p,xs[i]?=some x->Pv i σ H->H p=none->g (.ref p) σ (upd H p (.tup [.int (i:Int),x])) fun σ2 H2=>tb { D with nx:=Pv (i+1),ct:=Pv (i+1),bk:=D.nx } σ2 H2) (hd:∀ σ H,Pv xs.length σ H->D.nx σ H) :
  ∃W:Nat->Nat->St->Hp->Prop,(∃m,W 0 m σ H)/\∀i m σ H,W i m σ H ->
   ((uL K a).stop i H/\D.nx σ H)\/((uL K a).go i H/\∃N:St->Hp->Prop,(∀ σ' H',N σ' H'->∃m',m'<m/\W (i+1) m' σ' H')/\∀x H',(uL K a).yld i H x H'->g x σ H' fun σ2 H2=>tb { D with nx:=N,ct:=N,bk:=D.nx } σ2 H2):=by
 refine ⟨fun i m σ H=>m=xs.length-i/\i<=xs.length/\Pv i σ H,⟨xs.length,by simp,Nat.zero_le _,h0⟩,?_⟩
 rintro i m σ H ⟨rfl,hi,p⟩
 have q:=hl i σ H hi p
 by_cases hlt:i<xs.length
 ·refine .inr ⟨⟨xs,xs[i],q,by simp [hlt]⟩,Pv (i+1),fun σ' H' p'=>⟨xs.length-(i+1),by omega,rfl,hlt,p'⟩,fun x H' y=>?_⟩
  obtain ⟨pp,v,rfl,hn,rfl,y⟩:=y
  exact hs i v σ H pp (y xs q) p hn
 ·have e:i=xs.length:=by omega
  subst e
  exact .inl ⟨⟨xs,q,rfl⟩,hd σ H p⟩
end
section
variable {X:Cx}
theorem wg {elts:List Expr}{x1} {tpos p pos:Pos}{a:Expr}{t:TE}(hm:X.mg "enumerate"=none) (ha:QE X a t) (hg:X.env.kindOf "enumerate"=some .globalImplicit:=by kernel_rfl) (hs:ax a=true:=by rfl):QI X (.Tuple elts x1 tpos) (.Call (.Name "enumerate" p) [a] [] pos) (tW X.K (cu t g9)) :=
 ⟨rR hg hm (by decide +kernel) (pa' ha.h cV hs) ((au hs).trans rfl)⟩
theorem oN {o e f:Expr}{td ty tx:TE}{apos cpos:Pos}(hu:X.A.units+1<cLine) (ho:QE X o td) (he:QE X e ty) (hf:QE X f tx) (h1:ax e=true:=by rfl) (h2:ax f=true:=by rfl) (hbase:attributeBase o "get" X.env (eval o X.env)=eval o X.env:=by rfl) (hline:(apos.endLine == cpos.line)=true:=by rfl) :
  QE X (.Call (.Attribute o "get" apos) [e,f] [] cpos) (qW td ty tx) :=
 ⟨r9 hu ho.h he.h hf.h ⟨hbase,by rw [au h1,au h2]; rfl,hline,by rw [au h1,au h2]; rfl⟩⟩
end
end L2
namespace K57
open PySem L2 G
def top (i:Nat):Stmt:=PySem.Challenge.pw_leadersplice_k57_whole_over_and_back.main.body.getD i (.Pass ⟨0,0,0,0⟩)
abbrev uN:Stmt:=f6 (top 3) 0
abbrev bF:Stmt:=f6 (top 4) 0
abbrev bR:Stmt:=f6 (top 5) 0
abbrev uO:Stmt:=f6 (top 6) 0
abbrev bz:Stmt:=f6 (top 9) 0
abbrev fj:Stmt:=top 13
abbrev dz:Stmt:=top 19
abbrev ez:Stmt:=top 20
abbrev jX:Stmt:=top 21
abbrev ik:Stmt:=top 22
abbrev fz:Stmt:=top 23
abbrev cB:Stmt:=top 25
abbrev dB:Stmt:=top 26
abbrev eu:Stmt:=top 27
abbrev jR:Stmt:=top 29
abbrev cx:Stmt:=top 30
abbrev cA:Stmt:=top 31
abbrev cz:Stmt:=top 32
abbrev gt:Stmt:=top 33
abbrev cy:Stmt:=top 34
abbrev ii:Stmt:=top 38
abbrev fB:Stmt:=top 39
abbrev b_:Stmt:=top 40
abbrev fA:Stmt:=top 41
abbrev eB:Stmt:=top 42
abbrev eA:Stmt:=top 43
abbrev cT:Stmt:=top 44
abbrev cR:Stmt:=top 45
abbrev cv:Stmt:=top 46
abbrev jU:Stmt:=top 48
abbrev fu:Stmt:=top 49
abbrev dA:Stmt:=top 50
abbrev dE:Stmt:=top 51
abbrev gq:Stmt:=top 52
abbrev jT:Stmt:=top 53
abbrev ig:Stmt:=top 55
abbrev dD:Stmt:=top 56
abbrev ij:Stmt:=top 57
abbrev ej:Stmt:=top 59
abbrev du:Stmt:=top 60
abbrev fD:Stmt:=top 61
abbrev jV:Stmt:=top 62
abbrev eE:Stmt:=top 64
abbrev cE:Stmt:=top 65
abbrev eC:Stmt:=top 66
abbrev dH:Stmt:=top 67
abbrev cU:Stmt:=top 68
abbrev eD:Stmt:=top 69
abbrev dG:Stmt:=top 70
abbrev dF:Stmt:=top 71
abbrev cD:Stmt:=top 72
abbrev rn:Stmt:=top 73
theorem nK {H H1:Hp}{a dx:Addr}{o x o':HO}(s1:Same H H1) (ha:H1 a=none) (hdx:upd H1 a o dx=none) (hne:dx≠a):Same H (del (upd (upd (upd H1 a o) dx x) a o') a)/\del (upd (upd (upd H1 a o) dx x) a o') a dx=some x:=by
 refine ⟨Same.del ?_ (s1.free ha),by rw [cZ hne,ah hne]; exact ac⟩
 intro b o hb
 have hb1:=s1 _ _ hb
 rw [ah (ap hb1 ha),ah,ah (ap hb1 ha)]
 ·exact hb1
 ·intro z
  subst z
  rw [ah hne,hb1] at hdx
  cases hdx
section
variable {P:Program}{w:World}{K:PySem.W.Frag}{mg:Str->Option Value}{base:Heap}
def bI (ns:List Int) (k:Nat):Int:=ns.getD k 0
def l_ (K:PySem.W.Frag):Sp:=fun vs H Q _=>∃(a:Addr) (ns:List Int) (k:Nat),vs=[.ref a,.int (k:Int)]/\SqL K H a (ns.map V.int)/\∀H',Same H H'->Q (.int (bI ns k)) H'
theorem oR (ns:List Int) (k:Nat):bD (ns.map V.int) (some (k:Int)) (some ((k:Int)+1))=((ns.drop k).take 1).map V.int:=by
 unfold bD
 have e:((k:Int)+1)=((k+1:Nat):Int):=by omega
 rw [e,HT.sIx_nat,HT.sIx_nat,List.length_map]
 by_cases h:k<ns.length
 ·rw [Nat.min_eq_left (by omega),Nat.min_eq_left (by omega),show k+1-k=1 by omega,<- List.map_drop,<- List.map_take]
 ·rw [Nat.min_eq_right (by omega),Nat.min_eq_right (by omega),Nat.sub_self,List.take_zero,List.drop_eq_nil_of_le (by omega)]
  rfl
theorem qi (ns:List Int) (k:Nat):((((ns.drop k).take 1).map V.int)++[V.int 0])[0]?=some (V.int (bI ns k)):=by
 by_cases h:k<ns.length
 ·have e:bI ns k=ns[k]:=by
   unfold bI
   rw [List.getD_eq_getElem?_getD,List.getElem?_eq_getElem h]
   rfl
  rw [e,List.drop_eq_getElem_cons h]
  rfl
 ·have e:bI ns k=0:=by
   unfold bI
   rw [List.getD_eq_getElem?_getD,List.getElem?_eq_none (by omega)]
   rfl
  rw [e,List.drop_eq_nil_of_le (by omega)]
  rfl
theorem xL:aq ["_law_script", "_law_k"] ["_law_script", "_law_k"] (ak eE):=⟨rfl,rfl,rfl,by decide +kernel,rfl,by decide +kernel,by decide +kernel⟩
theorem vW {f:Addr}{fd:FuncData}(F:Fun K "_law_cell" "_law_cell" eE f fd):aG P w K mg base CX0 1 f fd ["_law_script", "_law_k"] (l_ K):=by
 refine F.ok xL (fun vs H Q E h=>?_) (fun cdv A outer s H vs Q E hr h=>?_)
 ·obtain ⟨a,ns,k,rfl,_⟩:=h
  rfl
 obtain ⟨a,ns,k,rfl,hS,q⟩:=h
 refine aW (aj (aB (ar aJ (az ip (gM dr (e_v 0) (bG (e_v 1)) (bG (az aR (e_v 1) ae))) (ba (aa ae af))) ae))) ?_
 refine ⟨_,rfl,_,rfl,_,rfl,_,rfl,_,_,rfl,rfl,_,rfl,a,_,rfl,hS,fun p hp=>⟨(by show 1<=sizeLine; decide),fun r hr'=>?_⟩⟩
 have hpr:p≠r:=by intro z; subst z; rw [ac] at hr'; cases hr'
 refine ⟨p,r,_,_,rfl,rfl,(by rw [ah hpr]; exact ac),ac,?_,fun t ht=>?_⟩
 ·rw [oR,List.length_map,List.length_take]
  show min 1 _+1<=sizeLine
  have zl:sizeLine=16777216:=sizeLine_eq
  omega
 ·refine ⟨t,_,0,_,rfl,rfl,SqL.of ac,ad (j:=0) (by rw [oR]; exact qi ns k),?_⟩
  exact q _ (((Same.new hp _).trans (Same.new hr' _)).trans (Same.new ht _))
def q0:Sp:=fun vs H Q _=>∃(c:Int) (n:Nat),vs=[.int c,.int (n:Int)]/\n<=1000/\∀(l:Addr) (ns:List Int) (H':Hp),Same H H'->ns.length=n->H l=none->H' l=some (.lst (ns.map V.int))->Q (.ref l) H'
theorem scNum:aq ["_law_cell_here", "_law_many", "_law_found", "_law_number", "_law_digits", "_law_k"] ["_law_cell_here", "_law_many"] (ak cE):=⟨rfl,rfl,rfl,by decide +kernel,rfl,by decide +kernel,by decide +kernel⟩
theorem yB {f:Addr}{fd:FuncData}(F:Fun K "_law_numbers" "_law_numbers" cE f fd) (n_abs:mg "abs"=none) (n_range:mg "range"=none) (n_int:mg "int"=none):aG P w K mg base CX0 1 f fd ["_law_cell_here", "_law_many"] q0:=by
 refine F.ok scNum (fun vs H Q E h=>?_) (fun cdv A outer s H vs Q E hr h=>?_)
 ·obtain ⟨c,n,rfl,_⟩:=h
  rfl
 obtain ⟨c,n,rfl,hn,q⟩:=h
 refine aW (ag (aw (i:=2) scNum.nd (ba af))
  (ag (aw (i:=3) scNum.nd (az bj (az gu (az aR (az bj (e_v 0) ae) ae) ae) ae))
  (ag (aw (i:=4) scNum.nd ae)
  (ag (eZ (bc (t_w (iX (aN fU (e_v 0) ae) (gB (aN zX (e_v 0) (az yw ae ae)))))
   (aj (aw (i:=4) scNum.nd (e_b cL n_abs (by decide +kernel) (aa (e_v 0) af))))
   aL))
  (ag (bM PassesOwn.never rfl (mF n_range (e_v 1)) (aM (i:=5) scNum.nd)
   (ag (aw (i:=3) scNum.nd (az bj (az aR (az aR (az gu (e_v 3) (az aR (az bj (e_v 3) ae) ae)) (az gu ae (e_v 5))) ae) ae))
   (ag (aP (bg (e_v 2) (ar aJ (ba (aa (e_v 3) (aa (az bj (e_v 4) ae) af))) (e_t qD n_int PyProof.Rows.boot_int (aa (eM kN (e_v 4) ae) af)))))
   (aj (aw (i:=4) scNum.nd (az fV (e_v 4) ae))))))
  (aj (aB (e_v 2)))))))) ?_
 have zl:sizeLine=16777216:=sizeLine_eq
 refine ⟨(by show 0<=sizeLine; decide),fun p hp=>?_⟩
 refine ⟨_,rfl,_,_,rfl,rfl,(by show (0:Int)<1999999973; decide),_,_,rfl,rfl,_,_,rfl,rfl,.inr ⟨by decide,by decide⟩,_,_,rfl,rfl,(by show (0:Int)<1999999973; decide),?_⟩
 refine ⟨fun σ' H'=>∃a d:Int,σ'=[some (.int c),some (.int (n:Int)),some (.ref p),some (.int a),some (.int d),none]/\0<=a/\a<1999999973/\H'=upd H p (.lst []),?_,?_⟩
 ·have b1:0<=(c % 1999999973+31)*765432101 % 1999999973:=by omega
  have b2:(c % 1999999973+31)*765432101 % 1999999973<1999999973:=by omega
  refine ⟨_,rfl,_,_,rfl,rfl,_,rfl,?_⟩
  refine cY (fun _=>?_) (fun _=>?_)
  ·exact cX ⟨_,rfl,_,rfl,_,_,rfl,b1,b2,rfl⟩
  ·refine ⟨_,rfl,_,_,rfl,rfl,⟨by decide,by decide,by decide⟩,_,_,rfl,rfl,_,rfl,?_⟩
   refine cY (fun _=>?_) (fun _=>?_)
   ·exact ⟨_,rfl,_,rfl,_,_,rfl,b1,b2,rfl⟩
   ·exact ⟨_,_,rfl,b1,b2,rfl⟩
 rintro σ H1 ⟨a,d,rfl,h1,h2,rfl⟩
 refine ⟨_,rfl,(n:Int),rfl,by omega,by omega,ql (lo:=0) (n:=n) (fun i σ H'=>∃(a d:Int) (ns:List Int) (o:Option V),σ=[some (.int c),some (.int (n:Int)),some (.ref p),some (.int a),some (.int d),o]/\0<=a/\a<1999999973/\ns.length=i/\H' p=some (.lst (ns.map V.int))/\Same H H')
  ⟨a,d,[],none,rfl,h1,h2,rfl,ac,Same.new hp _⟩ ?_ ?_⟩
 ·rintro i σ H' hi ⟨a,d,ns,o,rfl,h1,h2,hl,hpp,hS⟩
  refine ⟨_,rfl,_,rfl,_,_,rfl,rfl,(by show (0:Int)<65521; decide),_,_,rfl,rfl,_,_,rfl,rfl,.inl ⟨by omega,by omega⟩,_,rfl,_,_,rfl,rfl,.inl ⟨by decide,by decide⟩,_,_,rfl,rfl,_,_,rfl,rfl,_,_,rfl,rfl,(by show (0:Int)<1999999973; decide),?_⟩
  have z1:0<=(a*(a % 65521+40487)+7*(0+(i:Int))+5) % 1999999973:=Int.emod_nonneg _ (by decide)
  have z2:(a*(a % 65521+40487)+7*(0+(i:Int))+5) % 1999999973<1999999973:=Int.emod_lt_of_pos _ (by decide)
  obtain ⟨v,hv,hm⟩:=gi (xs:=[V.int ((a*(a % 65521+40487)+7*(0+(i:Int))+5) % 1999999973),.int (d % 1000000)]) (i:=if decide (0<d)=true then 1 else 0) (by split <;> decide) (by split <;> (show _<(2:Int); decide))
  obtain ⟨u,rfl⟩:∃u,v=.int u:=by
   simp only [List.mem_cons,List.not_mem_nil,or_false] at hm
   rcases hm with rfl | rfl
   ·exact ⟨_,rfl⟩
   ·exact ⟨_,rfl⟩
  refine ⟨_,rfl,.inl ⟨rfl,_,SqL.of hpp⟩,_,rfl,_,rfl,_,_,rfl,rfl,(by show (0:Int)<1000000; decide),(by show 2<=sizeLine; decide),fun p2 hp2=>⟨_,rfl,_,_,rfl,rfl,.inr ⟨_,rfl,p2,_,_,.int u,rfl,rfl,SqL.of ac,hv,p,_,_,rfl,rfl,Same.new hp2 _ _ _ hpp,(by rw [List.length_map]; omega),?_⟩⟩⟩
  refine ⟨_,rfl,_,_,rfl,rfl,⟨by decide,by decide⟩,(a*(a % 65521+40487)+7*(0+(i:Int))+5) % 1999999973,_,ns++[u],_,rfl,z1,z2,(by rw [List.length_append,hl]; rfl),?_,?_⟩
  ·rw [ac,List.map_append]
   rfl
  ·intro b o hb
   rw [ah (ap hb hp)]
   exact Same.new hp2 _ _ _ (hS _ _ hb)
 ·rintro σ H' ⟨a,d,ns,o,rfl,h1,h2,hl,hpp,hS⟩
  exact ⟨_,rfl,q p ns H' hS hl hp hpp⟩
end
structure Reel where
 name:Str
 letters:Str
 start:Int
 many:Int
def Reel.vs (r:Reel):List V:=[.str r.name,.str r.letters,.int r.start,.int r.many]
structure ROk (r:Reel):Prop where
 nl:r.name.length<=100
 nf:bK r.name
 lf:bK r.letters
 m1:1<=r.many
 m2:r.many<=160000
def RL (H:Hp) (p:Addr) (prs:List (Addr×Reel)):Prop:=H p=some (.lst (prs.map fun x=>V.ref x.1))/\∀x∈prs,H x.1=some (.tup x.2.vs)/\ROk x.2
theorem RL.same {H H':Hp}{p:Addr}{prs:List (Addr×Reel)}(h:RL H p prs) (s:Same H H'):RL H' p prs:=⟨s _ _ h.1,fun x hx=>⟨s _ _ (h.2 x hx).1,(h.2 x hx).2⟩⟩
theorem nJ {H H1:Hp}{a dx:Addr}{o x o' x':HO}(s1:Same H H1) (ha:H1 a=none) (hdx:upd H1 a o dx=none) (hne:dx≠a):Same H (del (upd (upd (upd (upd H1 a o) dx x) a o') dx x') a)/\del (upd (upd (upd (upd H1 a o) dx x) a o') dx x') a dx=some x':=by
 refine ⟨Same.del ?_ (s1.free ha),by rw [cZ hne]; exact ac⟩
 intro b o hb
 have hb1:=s1 _ _ hb
 have hn:b≠dx:=by
  intro z
  subst z
  rw [ah hne,hb1] at hdx
  cases hdx
 rw [ah hn,ah (ap hb1 ha),ah hn,ah (ap hb1 ha)]
 exact hb1
section
variable {P:Program}{w:World}{K:PySem.W.Frag}{mg:Str->Option Value}{base:Heap}
def h7 (C:Addr) (f:Str):Sp:=fun vs H Q _=>∃a y,vs=[.ref a,y]/\H a=some (d7 a C none)/\∀dx,H dx=none->dx≠a->Q .non (upd (upd H dx (xdO dx [(f,y)])) a (d7 a C (some dx)))
theorem xI:aq ["self", "name"] ["self", "name"] (ak bR):=⟨rfl,rfl,rfl,by decide +kernel,rfl,by decide +kernel,by decide +kernel⟩
theorem j8 {f C:Addr}{fd:FuncData}(F:Fun K "__init__" "NoName.__init__" bR f fd) (XC:mV K C) (XN:XNo K C "name"):aG P w K mg base CX0 1 f fd ["self", "name"] (h7 C "name"):=by
 refine F.ok xI (fun vs H Q E h=>?_) (fun cdv A outer s0 H vs Q E hr h=>?_)
 ·obtain ⟨a,y,rfl,_⟩:=h
  rfl
 obtain ⟨a,y,rfl,hH,q⟩:=h
 refine aW (aj (jQ (e_v 0) (e_v 1))) ?_
 exact ⟨_,rfl,_,rfl,a,C,rfl,XC,XN,.inl ⟨hH,fun dx n1 n2=>q dx n1 n2⟩⟩
def gQ (C:Addr):Sp:=fun vs H Q _=>∃a y z,vs=[.ref a,y,z]/\H a=some (d7 a C none)/\∀dx,H dx=none->dx≠a->Q .non (upd (upd (upd H dx (xdO dx [("reel",y)])) a (d7 a C (some dx))) dx (xdO dx [("reel",y),("frame",z)]))
theorem u_:aq ["self", "reel", "frame"] ["self", "reel", "frame"] (ak bF):=⟨rfl,rfl,rfl,by decide +kernel,rfl,by decide +kernel,by decide +kernel⟩
theorem iq {f C:Addr}{fd:FuncData}(F:Fun K "__init__" "NoFrame.__init__" bF f fd) (XC:mV K C) (XN1:XNo K C "reel") (XN2:XNo K C "frame"):aG P w K mg base CX0 1 f fd ["self", "reel", "frame"] (gQ C):=by
 refine F.ok u_ (fun vs H Q E h=>?_) (fun cdv A outer s0 H vs Q E hr h=>?_)
 ·obtain ⟨a,y,z,rfl,_⟩:=h
  rfl
 obtain ⟨a,y,z,rfl,hH,q⟩:=h
 refine aW (ag (jQ (e_v 0) (e_v 1))
  (aj (jQ (e_v 0) (e_v 2)))) ?_
 refine ⟨_,rfl,_,rfl,a,C,rfl,XC,XN1,.inl ⟨hH,fun dx n1 n2=>⟨_,rfl,_,rfl,a,C,rfl,XC,XN2,.inr ⟨dx,_,ac,(by rw [ah n2]; exact ac),(by show 1<1000; decide),?_⟩⟩⟩⟩
 exact q dx n1 n2
def gO:Sp:=fun vs H Q _=>∃i:Int,vs=[.int i]/\Q (.bl true) H
theorem uV:aq ["value"] ["value"] (ak fj):=⟨rfl,rfl,rfl,by decide +kernel,rfl,by decide +kernel,by decide +kernel⟩
theorem sA {f:Addr}{fd:FuncData}(F:Fun K "is_whole" "is_whole" fj f fd) (n_isinstance:mg "isinstance"=none) (n_int:mg "int"=none) (n_bool:mg "bool"=none):aG P w K mg base CX0 1 f fd ["value"] gO:=by
 refine F.ok uV (fun vs H Q E h=>?_) (fun cdv A outer s H vs Q E hr h=>?_)
 ·obtain ⟨i,rfl,_⟩:=h
  rfl
 obtain ⟨i,rfl,q⟩:=h
 refine aW (aj (aB (fc (e_b gK n_isinstance PyProof.Rows.boot_isinstance (aa (e_v 0) (aa (y7 (v:=.ty "int") n_int PyProof.Rows.boot_int rfl) af))) (jn (Ah (e_b gK n_isinstance PyProof.Rows.boot_isinstance (aa (e_v 0) (aa (y7 (v:=.ty "bool") n_bool (by decide +kernel) rfl) af)))))))) ?_
 refine ⟨_,rfl,_,_,_,true,rfl,TyOf.int i,.inr ⟨_,rfl⟩,tQ,true,rfl,cX ?_⟩
 exact ⟨_,rfl,_,_,_,false,rfl,TyOf.int i,.inr ⟨_,rfl⟩,int_bool,false,rfl,q⟩
def h8:Sp:=fun vs H Q _=>∃(p:Addr) (r:Reel) (f:Int),vs=[.ref p,.int f]/\H p=some (.tup r.vs)/\((0<=f/\f<r.many)->Q (.bl true) H)/\(¬ (0<=f/\f<r.many)->Q (.bl false) H)
theorem xJ:aq ["reel", "frame"] ["reel", "frame"] (ak ez):=⟨rfl,rfl,rfl,by decide +kernel,rfl,by decide +kernel,by decide +kernel⟩
theorem vT {f:Addr}{fd:FuncData}{t3:Tok}(F:Fun K "has_frame" "has_frame" ez f fd) (dWh:Def P w K mg base CX0 "is_whole" 1 ["value"] gO) (mMANY:mg "MANY"=some (.int 3 t3)):aG P w K mg base CX0 2 f fd ["reel", "frame"] h8:=by
 refine F.ok xJ (fun vs H Q E h=>?_) (fun cdv A outer s0 H vs Q E hr h=>?_)
 ·obtain ⟨p,r,f,rfl,_⟩:=h
  rfl
 obtain ⟨p,r,f,rfl,hp,q1,q2⟩:=h
 refine aW (aj (aB (fc (ao dWh hr aE (aa (e_v 1) af)) (jn (wB sy fU ae (e_v 1) (ar am (e_v 0) (cg (v:=.int 3) mMANY ⟨_,rfl⟩))))))) ?_
 refine ⟨_,rfl,f,rfl,true,rfl,cX ⟨_,rfl,_,_,rfl,rfl,_,rfl,?_⟩⟩
 refine cY (fun c1=>?_) (fun c1=>?_)
 ·have d1:=of_decide_eq_true c1
  refine ⟨_,rfl,p,_,_,_,rfl,rfl,SqT.of hp,ad (j:=3) rfl,_,_,rfl,rfl,?_⟩
  have z:Q (.bl (decide (f<r.many))) H:=by
   by_cases d2:f<r.many
   ·rw [decide_eq_true d2]
    exact q1 ⟨d1,d2⟩
   ·rw [decide_eq_false d2]
    exact q2 fun z=>d2 z.2
  exact z
 ·have d1:=of_decide_eq_false (Bool.eq_false_iff.mpr c1)
  exact q2 fun z=>d1 z.1
def gh (r:Reel) (lt:Str) (n:Int):Prop:=lt=r.letters/\0<=n-r.start/\n-r.start<r.many
def jM:Sp:=fun vs H Q _=>∃(p k:Addr) (r:Reel) (lt:Str) (n:Int),vs=[.ref p,.ref k]/\H p=some (.tup r.vs)/\H k=some (.tup [.str lt,.int n])/\(gh r lt n->Q (.bl true) H)/\(¬ gh r lt n->Q (.bl false) H)
theorem vc:aq ["reel", "key"] ["reel", "key"] (ak jX):=⟨rfl,rfl,rfl,by decide +kernel,rfl,by decide +kernel,by decide +kernel⟩
theorem sU {f:Addr}{fd:FuncData}{t1 t2:Tok}(F:Fun K "bears" "bears" jX f fd) (dWh:Def P w K mg base CX0 "is_whole" 1 ["value"] gO) (dHasF:Def P w K mg base CX0 "has_frame" 2 ["reel", "frame"] h8) (mLETTERS:mg "LETTERS"=some (.int 1 t1)) (mSTART:mg "START"=some (.int 2 t2)) :
  aG P w K mg base CX0 3 f fd ["reel", "key"] jM:=by
 refine F.ok vc (fun vs H Q E h=>?_) (fun cdv A outer s0 H vs Q E hr h=>?_)
 ·obtain ⟨p,k,r,lt,n,rfl,_⟩:=h
  rfl
 obtain ⟨p,k,r,lt,n,rfl,hp,hk,q1,q2⟩:=h
 refine aW (aj (aB (fc (eM be (ar am (e_v 1) ae) (ar am (e_v 0) (cg (v:=.int 1) mLETTERS ⟨_,rfl⟩))) (fc (ao dWh hr aE (aa (ar am (e_v 1) ae) af)) (jn (ao dHasF hr aE (aa (e_v 0) (aa (az bw (ar am (e_v 1) ae) (ar am (e_v 0) (cg (v:=.int 2) mSTART ⟨_,rfl⟩))) af)))))))) ?_
 refine ⟨_,rfl,k,_,_,_,rfl,rfl,SqT.of hk,ad (j:=0) rfl,_,rfl,p,_,_,_,rfl,rfl,SqT.of hp,ad (j:=1) rfl,rfl,_,rfl,?_⟩
 refine cY (fun c1=>?_) (fun c1=>?_)
 ·have d1:lt=r.letters:=V.str.inj (of_decide_eq_true c1)
  refine ⟨_,rfl,k,_,_,_,rfl,rfl,SqT.of hk,ad (j:=1) rfl,n,rfl,true,rfl,cX ?_⟩
  refine ⟨_,rfl,_,rfl,k,_,_,_,rfl,rfl,SqT.of hk,ad (j:=1) rfl,_,rfl,p,_,_,_,rfl,rfl,SqT.of hp,ad (j:=2) rfl,_,_,rfl,rfl,p,r,n-r.start,rfl,hp,fun z=>q1 ⟨d1,z⟩,fun z=>q2 fun y=>z y.2⟩
 ·have d1:¬ lt=r.letters:=fun e=>c1 (decide_eq_true (congrArg V.str e))
  exact q2 fun y=>d1 y.1
def eN (CN:Addr):Sp:=fun vs H Q E=>∃(p:Addr) (prs:List (Addr×Reel)) (nm:Str),vs=[.ref p,.str nm]/\RL H p prs/\(∀x∈prs,x.2.name=nm->∀H',Same H H'->Q (.ref x.1) H') /\
 ((∀x∈prs,x.2.name≠nm)->∀H' dx,Same H H'->H' dx=some (xdO dx [("name",.str nm)])->E (.ref CN) (some dx) H')
theorem scNamed:aq ["reels", "name", "reel"] ["reels", "name"] (ak dz):=⟨rfl,rfl,rfl,by decide +kernel,rfl,by decide +kernel,by decide +kernel⟩
theorem sK {f CN fI:Addr}{fd fdI:FuncData}{t0:Tok}(F:Fun K "reel_named" "reel_named" dz f fd) (mNAME:mg "NAME"=some (.int 0 t0)) (m_NoName:mg "NoName"=some (.ref CN)) (R_NoName:dW K CN fI) (G_NoName:aG P w K mg base CX0 1 fI fdI ["self", "name"] (h7 CN "name")) (b_NoName:Binds K fdI ["self", "name"] []) :
  aG P w K mg base (CX1 P w) 3 f fd ["reels", "name"] (eN CN):=by
 refine F.okX scNamed (fun vs H Q E h=>?_) (fun cdv A outer s H vs Q E hr h=>?_)
 ·obtain ⟨p,prs,nm,rfl,_⟩:=h
  rfl
 obtain ⟨p,prs,nm,rfl,rl,q,e⟩:=h
 refine aW (ag (bM PassesOwn.leaving rfl (bB (e_v 0)) (aM (i:=2) scNamed.nd)
   (aj (bc (aN be (ar am (e_v 2) (cg (v:=.int 0) mNAME ⟨_,rfl⟩)) (e_v 1))
    (aj (aB (e_v 2)))
    aL)))
  (aj (dh m_NoName R_NoName G_NoName hr b_NoName (aa (e_v 1) af)))) ?_
 refine ⟨_,rfl,p,rfl,⟨_,SqL.of rl.1⟩,cK (K:=K) (a:=p) (xs:=prs.map fun x=>V.ref x.1) (fun i σ H'=>∃(o2:Option V),σ=[some (.ref p),some (.str nm),o2]/\(∀j y,j<i->prs[j]?=some y->y.2.name≠nm)/\Same H H') ⟨none,rfl,(fun j y hj=>absurd hj (Nat.not_lt_zero _)),Same.refl _⟩ (fun i σ H' _ ⟨_,_,_,s⟩=>SqL.of (s _ _ rl.1)) ?_ ?_⟩
 ·rintro i x σ H' hx ⟨o2,rfl,hn,hS⟩
  obtain ⟨pr,hpr,rfl⟩:∃pr,prs[i]?=some pr/\x=V.ref pr.1:=by
   rw [List.getElem?_map] at hx
   cases z:prs[i]? with
   | none=>rw [z] at hx; cases hx
   | some pr=>rw [z] at hx; exact ⟨pr,rfl,(Option.some.inj hx).symm⟩
  have hmem:pr∈prs:=List.mem_of_getElem? hpr
  refine ⟨_,rfl,pr.1,_,_,_,rfl,rfl,SqT.of (hS _ _ (rl.2 pr hmem).1),ad (j:=0) rfl,_,rfl,rfl,_,rfl,?_⟩
  refine cY (fun c=>?_) (fun c=>?_)
  ·exact ⟨_,rfl,q pr hmem (V.str.inj (of_decide_eq_true c)) H' hS⟩
  ·refine ⟨_,rfl,fun j y hj hy=>?_,hS⟩
   by_cases z:j<i
   ·exact hn j y z hy
   ·have:j=i:=by omega
    subst this
    rw [hpr] at hy
    cases hy
    exact fun e=>c (decide_eq_true (congrArg V.str e))
 ·rintro σ H' ⟨o2,rfl,hn,hS⟩
  rw [List.length_map] at hn
  refine ⟨_,rfl,(by show 1<=sizeLine; decide),fun a ha=>⟨a,_,rfl,ac,fun dx n1 n2=>⟨rfl,some dx,ac,?_⟩⟩⟩
  obtain ⟨r1,r2⟩:=nK (x:=xdO dx [("name",V.str nm)]) (o':=d7 a CN (some dx)) hS ha n1 n2
  refine e (fun x hx=>?_) _ dx r1 r2
  obtain ⟨j,hj⟩:=List.mem_iff_getElem?.mp hx
  exact hn j x (List.getElem?_eq_some_iff.mp hj).1 hj
def has (r:Reel) (f:Int):Prop:=0<=f/\f<r.many
def gP (CN CF:Addr):Sp:=fun vs H Q E=>∃(p:Addr) (prs:List (Addr×Reel)) (nm:Str) (f:Int),vs=[.ref p,.str nm,.int f]/\RL H p prs /\
 (∀x∈prs,x.2.name=nm->has x.2 f->∀t H',Same H H'->H' t=some (.tup [.str x.2.letters,.int (x.2.start+f)])->Q (.ref t) H') /\
 (∀x∈prs,x.2.name=nm->¬ has x.2 f->∀H' dx,Same H H'->H' dx=some (xdO dx [("reel",.str nm),("frame",.int f)])->E (.ref CF) (some dx) H') /\
 ((∀x∈prs,x.2.name≠nm)->∀H' dx,Same H H'->H' dx=some (xdO dx [("name",.str nm)])->E (.ref CN) (some dx) H')
theorem scKeyOf:aq ["reels", "name", "frame", "reel"] ["reels", "name", "frame"] (ak ik):=⟨rfl,rfl,rfl,by decide +kernel,rfl,by decide +kernel,by decide +kernel⟩
theorem sP {f CN CF fI:Addr}{fd fdI:FuncData}{t0 t1 t2:Tok}(F:Fun K "key_of" "key_of" ik f fd) (dNamed:Def P w K mg base (CX1 P w) "reel_named" 3 ["reels", "name"] (eN CN)) (dHasF:Def P w K mg base CX0 "has_frame" 2 ["reel", "frame"] h8)
  (mNAME:mg "NAME"=some (.int 0 t0)) (mLETTERS:mg "LETTERS"=some (.int 1 t1)) (mSTART:mg "START"=some (.int 2 t2)) (m_NoFrame:mg "NoFrame"=some (.ref CF)) (R_NoFrame:dW K CF fI) (G_NoFrame:aG P w K mg base CX0 1 fI fdI ["self", "reel", "frame"] (gQ CF)) (b_NoFrame:Binds K fdI ["self", "reel", "frame"] []) :
  aG P w K mg base (CX1 P w) 4 f fd ["reels", "name", "frame"] (gP CN CF):=by
 refine F.okX scKeyOf (fun vs H Q E h=>?_) (fun cdv A outer s H vs Q E hr h=>?_)
 ·obtain ⟨p,prs,nm,f,rfl,_⟩:=h
  rfl
 obtain ⟨p,prs,nm,f,rfl,rl,q,e1,e2⟩:=h
 refine aW (ag (aw (i:=3) scKeyOf.nd (ao dNamed hr bd (aa (e_v 0) (aa (e_v 1) af))))
  (ag (bc (g7 (d_ (ao dHasF hr aE (aa (e_v 3) (aa (e_v 2) af)))))
   (aj (dh m_NoFrame R_NoFrame G_NoFrame hr b_NoFrame (aa (ar am (e_v 3) (cg (v:=.int 0) mNAME ⟨_,rfl⟩)) (aa (e_v 2) af))))
   aL)
  (aj (aB (aX (aa (ar am (e_v 3) (cg (v:=.int 1) mLETTERS ⟨_,rfl⟩)) (aa (az aR (ar am (e_v 3) (cg (v:=.int 2) mSTART ⟨_,rfl⟩)) (e_v 2)) af))))))) ?_
 refine ⟨_,rfl,_,rfl,p,prs,nm,rfl,rl,fun x hx hn H1 s1=>?_,e2⟩
 have hx1:=s1 _ _ (rl.2 x hx).1
 refine ⟨_,rfl,_,rfl,x.1,x.2,f,rfl,hx1,fun hh=>⟨_,rfl,bQ ?_⟩,fun hh=>⟨_,rfl,cX ?_⟩⟩
 ·refine ⟨_,rfl,x.1,_,_,_,rfl,rfl,SqT.of hx1,ad (j:=1) rfl,_,rfl,x.1,_,_,_,rfl,rfl,SqT.of hx1,ad (j:=2) rfl,_,rfl,_,_,rfl,rfl,(by show 2<=sizeLine; decide),fun t ht=>?_⟩
  exact q x hx hn hh t _ (s1.trans (Same.new ht _)) ac
 ·have hv:x.2.vs[0]?=some (V.str nm):=by rw [<- hn]; rfl
  refine ⟨_,rfl,x.1,_,_,_,rfl,rfl,SqT.of hx1,ad (j:=0) hv,_,rfl,(by show 2<=sizeLine; decide),fun a ha=>⟨a,_,_,rfl,ac,fun dx n1 n2=>⟨rfl,some dx,?_,?_⟩⟩⟩
  ·rw [ah (fun z=>n2 z.symm)]
   exact ac
  ·obtain ⟨r1,r2⟩:=nJ (x:=xdO dx [("reel",V.str nm)]) (o':=d7 a CF (some dx)) (x':=xdO dx [("reel",V.str nm),("frame",V.int f)]) s1 ha n1 n2
   exact e1 x hx hn hh _ dx r1 r2
def gm (CN CF:Addr):Sp:=fun vs H Q E=>∃(p k:Addr) (prs:List (Addr×Reel)) (nm lt:Str) (n:Int),vs=[.ref p,.str nm,.ref k]/\RL H p prs/\H k=some (.tup [.str lt,.int n]) /\
 (∀x∈prs,x.2.name=nm->gh x.2 lt n->∀H',Same H H'->Q (.int (n-x.2.start)) H') /\
 (∀x∈prs,x.2.name=nm->¬ gh x.2 lt n->∀H' dx,Same H H'->H' dx=some (xdO dx [("reel",.str nm),("frame",.non)])->E (.ref CF) (some dx) H') /\
 ((∀x∈prs,x.2.name≠nm)->∀H' dx,Same H H'->H' dx=some (xdO dx [("name",.str nm)])->E (.ref CN) (some dx) H')
theorem scFrameOf:aq ["reels", "name", "key", "reel"] ["reels", "name", "key"] (ak fz):=⟨rfl,rfl,rfl,by decide +kernel,rfl,by decide +kernel,by decide +kernel⟩
theorem mj {f CN CF fI:Addr}{fd fdI:FuncData}{t0 t2:Tok}(F:Fun K "frame_of" "frame_of" fz f fd) (dNamed:Def P w K mg base (CX1 P w) "reel_named" 3 ["reels", "name"] (eN CN)) (dBears:Def P w K mg base CX0 "bears" 3 ["reel", "key"] jM)
  (mNAME:mg "NAME"=some (.int 0 t0)) (mSTART:mg "START"=some (.int 2 t2)) (m_NoFrame:mg "NoFrame"=some (.ref CF)) (R_NoFrame:dW K CF fI) (G_NoFrame:aG P w K mg base CX0 1 fI fdI ["self", "reel", "frame"] (gQ CF)) (b_NoFrame:Binds K fdI ["self", "reel", "frame"] []) :
  aG P w K mg base (CX1 P w) 4 f fd ["reels", "name", "key"] (gm CN CF):=by
 refine F.okX scFrameOf (fun vs H Q E h=>?_) (fun cdv A outer s H vs Q E hr h=>?_)
 ·obtain ⟨p,k,prs,nm,lt,n,rfl,_⟩:=h
  rfl
 obtain ⟨p,k,prs,nm,lt,n,rfl,rl,hk,q,e1,e2⟩:=h
 refine aW (ag (aw (i:=3) scFrameOf.nd (ao dNamed hr bd (aa (e_v 0) (aa (e_v 1) af))))
  (ag (bc (g7 (d_ (ao dBears hr aE (aa (e_v 3) (aa (e_v 2) af)))))
   (aj (dh m_NoFrame R_NoFrame G_NoFrame hr b_NoFrame (aa (ar am (e_v 3) (cg (v:=.int 0) mNAME ⟨_,rfl⟩)) (aa xq af))))
   aL)
  (aj (aB (az bw (ar am (e_v 2) ae) (ar am (e_v 3) (cg (v:=.int 2) mSTART ⟨_,rfl⟩))))))) ?_
 refine ⟨_,rfl,_,rfl,p,prs,nm,rfl,rl,fun x hx hn H1 s1=>?_,e2⟩
 have hx1:=s1 _ _ (rl.2 x hx).1
 have hk1:=s1 _ _ hk
 refine ⟨_,rfl,_,rfl,x.1,k,x.2,lt,n,rfl,hx1,hk1,fun hh=>⟨_,rfl,bQ ?_⟩,fun hh=>⟨_,rfl,cX ?_⟩⟩
 ·exact ⟨_,rfl,k,_,_,_,rfl,rfl,SqT.of hk1,ad (j:=1) rfl,_,rfl,x.1,_,_,_,rfl,rfl,SqT.of hx1,ad (j:=2) rfl,_,_,rfl,rfl,q x hx hn hh H1 s1⟩
 ·have hv:x.2.vs[0]?=some (V.str nm):=by rw [<- hn]; rfl
  refine ⟨_,rfl,x.1,_,_,_,rfl,rfl,SqT.of hx1,ad (j:=0) hv,(by show 2<=sizeLine; decide),fun a ha=>⟨a,_,_,rfl,ac,fun dx n1 n2=>⟨rfl,some dx,?_,?_⟩⟩⟩
  ·rw [ah (fun z=>n2 z.symm)]
   exact ac
  ·obtain ⟨r1,r2⟩:=nJ (x:=xdO dx [("reel",V.str nm)]) (o':=d7 a CF (some dx)) (x':=xdO dx [("reel",V.str nm),("frame",V.non)]) s1 ha n1 n2
   exact e1 x hx hn hh _ dx r1 r2
end
end K57
namespace K57
open PySem L2 G DT
open IT hiding It
abbrev Err:=Str×V
open Classical in
noncomputable def ovF (o t:Reel) (f:Int):Err ⊕ Int:=if has o f then (if gh t o.letters (o.start+f) then .inr (o.start+f-t.start) else .inl (t.name,.non)) else .inl (o.name,.int f)
noncomputable def ovC (o t:Reel) (f l:Int):Err ⊕ (Int×Int):=match ovF o t f with
 | .inl e=>.inl e
 | .inr a=>match ovF o t l with
  | .inl e=>.inl e
  | .inr b=>.inr (a,b)
def Uq (prs:List (Addr×Reel)):Prop:=∀x∈prs,∀y∈prs,x.2.name=y.2.name->x=y
def Flies (CF:Addr) (e:Err) (H:Hp) (E:XK):Prop:=∀H' dx,Same H H'->H' dx=some (xdO dx [("reel",.str e.1),("frame",e.2)])->E (.ref CF) (some dx) H'
theorem Flies.later {CF:Addr}{e:Err}{H H1:Hp}{E:XK}(h:Flies CF e H E) (s:Same H H1):Flies CF e H1 E:=fun H' dx s' hd=>h H' dx (s.trans s') hd
section
variable {P:Program}{w:World}{K:PySem.W.Frag}{mg:Str->Option Value}{base:Heap}
def jD (CF:Addr):Sp:=fun vs H Q E=>∃(a p:Addr) (prs:List (Addr×Reel)) (o t:Addr×Reel) (r:Str) (f l:Int),vs=[.ref a,.ref p,.str o.2.name,.str t.2.name]/\RL H p prs/\Uq prs/\o∈prs/\t∈prs/\H a=some (.tup [.str "clip",.str r,.int f,.int l]) /\
 (match ovC o.2 t.2 f l with
  | .inl e=>Flies CF e H E
  | .inr z=>∀q H',Same H H'->H' q=some (.tup [.str "clip",.str t.2.name,.int z.1,.int z.2])->Q (.ref q) H')
theorem scOClip:aq ["clip", "reels", "one", "other", "frames"] ["clip", "reels", "one", "other"] (ak eu):=⟨rfl,rfl,rfl,by decide +kernel,rfl,by decide +kernel,by decide +kernel⟩
theorem sF {f CN CF:Addr}{fd:FuncData}(F:Fun K "over_clip" "over_clip" eu f fd) (dKeyOf:Def P w K mg base (CX1 P w) "key_of" 4 ["reels", "name", "frame"] (gP CN CF)) (dFrameOf:Def P w K mg base (CX1 P w) "frame_of" 4 ["reels", "name", "key"] (gm CN CF)) :
  aG P w K mg base (CX1 P w) 5 f fd ["clip", "reels", "one", "other"] (jD CF):=by
 refine F.okX scOClip (fun vs H Q E h=>?_) (fun cdv A outer s H vs Q E hr h=>?_)
 ·obtain ⟨a,p,prs,o,t,r,f,l,rfl,_⟩:=h
  rfl
 obtain ⟨a,p,prs,o,t,r,f,l,rfl,rl,uq,ho,ht,ha,q⟩:=h
 refine aW (ag (vd (i:=4) scOClip.nd ["one", "other", "reels"] [2,3,1] [("reels",s.heap.objs.size+1),("other",s.heap.objs.size+3),("one",s.heap.objs.size+2)] rfl ⟨rfl,rfl,rfl,rfl,⟨rfl,rfl,rfl,rfl,⟨rfl,rfl,rfl,rfl,trivial⟩⟩⟩ ⟨rfl,⟨rfl,⟨rfl,trivial⟩⟩⟩ (fun _ _ _ _ _ _ I f h=>zW I f h) (lj (gM fR (e_v 0) (bG ae) cW)) (fun _ _ _ _ hx=>(ao dFrameOf hr hx (aa (e_n 3) (aa (e_n 2) (aa (ao dKeyOf hr hx (aa (e_n 3) (aa (e_n 1) (aa (e_n 0) af)))) af))))))
  (aj (aB (aX (aa aF (aa (e_c 3) (aa (ar aJ (e_v 4) ae) (aa (ar aJ (e_v 4) ae) af)))))))) ?_
 have hr':=hr
 refine ⟨_,rfl,_,rfl,a,_,rfl,ha,fun pt H1 s1 hpt=>?_⟩
 have ecut:bD [V.str "clip",.str r,.int f,.int l] (some 2) none=[.int f,.int l]:=rfl
 rw [ecut] at hpt
 refine ⟨pt,rfl,⟨_,SqT.of hpt⟩,qA (K:=K) (a:=pt) (xs:=[.int f,.int l]) (fun i zs=>(i=0/\zs=[])\/(i=1/\∃x:Int,ovF o.2 t.2 f=.inr x/\zs=[.int x])\/(i=2/\∃x y:Int,ovF o.2 t.2 f=.inr x/\ovF o.2 t.2 l=.inr y/\zs=[.int x,.int y])) (SqT.of hpt) (by show 2<=sizeLine; decide) (.inl ⟨rfl,rfl⟩) ?_ ?_⟩
 ·intro i v zs H2 R s2 hv hj hR
  have S2:=s1.trans s2
  obtain ⟨g,rfl,hg,hq⟩:∃g:Int,v=.int g/\(∀e,ovF o.2 t.2 g=.inl e->Flies CF e H E)/\(∀z:Int,ovF o.2 t.2 g=.inr z->∀H'',Same H2 H''->R (.int z) H''):=by
   match i,hv with
   | 0,hv =>
    cases hv
    refine ⟨f,rfl,fun e he=>?_,fun z hz H'' s''=>hR _ H'' s'' ?_⟩
    ·unfold ovC at q
     rw [he] at q
     exact q
    ·rcases hj with ⟨_,rfl⟩ | ⟨h,_⟩ | ⟨h,_⟩
     ·exact .inr (.inl ⟨rfl,z,hz,rfl⟩)
     ·cases h
     ·cases h
   | 1,hv =>
    cases hv
    rcases hj with ⟨h,_⟩ | ⟨_,x,hx,rfl⟩ | ⟨h,_⟩
    ·cases h
    ·refine ⟨l,rfl,fun e he=>?_,fun z hz H'' s''=>hR _ H'' s'' ?_⟩
     ·unfold ovC at q
      rw [hx,he] at q
      exact q
     ·exact .inr (.inr ⟨rfl,x,z,hx,hz,rfl⟩)
    ·cases h
   | n+2,hv=>cases hv
  refine ⟨_,rfl,_,rfl,_,rfl,_,rfl,_,rfl,p,prs,o.2.name,g,rfl,rl.same S2,?_,?_,?_⟩
  ·intro x hx hn hh k H3 s3 hk
   have ex:=uq x hx o ho hn
   subst ex
   refine ⟨p,k,prs,t.2.name,x.2.letters,x.2.start+g,rfl,rl.same (S2.trans s3),hk,fun y hy hm hb H4 s4=>?_,fun y hy hm hb H4 dx s4 hd=>?_,fun hno=>absurd rfl (hno t ht)⟩
   ·have ey:=uq y hy t ht hm
    subst ey
    exact hq _ (by unfold ovF; rw [if_pos hh,if_pos hb]) H4 (s3.trans s4)
   ·have ey:=uq y hy t ht hm
    subst ey
    exact hg _ (by unfold ovF; rw [if_pos hh,if_neg hb]) H4 dx (S2.trans (s3.trans s4)) hd
  ·intro x hx hn hh H3 dx s3 hd
   have ex:=uq x hx o ho hn
   subst ex
   exact hg _ (by unfold ovF; rw [if_neg hh]) H3 dx (S2.trans s3) hd
  ·exact fun hno=>absurd rfl (hno o ho)
 ·intro D zs H2 s2 _ hD hj
  rcases hj with ⟨h,_⟩ | ⟨h,_⟩ | ⟨_,x,y,hx,hy,rfl⟩
  ·cases h
  ·cases h
  have q':∀q H',Same H H'->H' q=some (.tup [.str "clip",.str t.2.name,.int x,.int y])->Q (.ref q) H':=by
   unfold ovC at q
   rw [hx,hy] at q
   exact q
  refine ⟨_,rfl,_,rfl,D,_,_,_,rfl,rfl,SqL.of hD,ad (j:=0) rfl,_,rfl,D,_,_,_,rfl,rfl,SqL.of hD,ad (j:=1) rfl,(by show 4<=sizeLine; decide),fun pq hpq=>?_⟩
  exact q' pq _ ((s1.trans s2).trans (Same.new hpq _)) ac
end
section
variable {P:Program}{w:World}{K:PySem.W.Frag}{mg:Str->Option Value}{base:Heap}
mutual
noncomputable def ovI (o t:Reel):IT.It->Err ⊕ IT.It
 | .clip r f l=>if r=o.name then (match ovC o t f l with | .inl e=>.inl e | .inr z=>.inr (.clip t.name z.1 z.2)) else .inr (.clip r f l)
 | .times m xs=>match ovL o t xs with | .inl e=>.inl e | .inr ys=>.inr (.times m ys)
 | .back xs=>match ovL o t xs with | .inl e=>.inl e | .inr ys=>.inr (.back ys)
 | .part n xs=>.inr (.part n xs)
 | .fade m=>.inr (.fade m)
noncomputable def ovL (o t:Reel):List IT.It->Err ⊕ List IT.It
 | []=>.inr []
 | x :: r=>match ovI o t x with | .inl e=>.inl e | .inr y=>match ovL o t r with | .inl e=>.inl e | .inr ys=>.inr (y :: ys)
end
theorem cM (o t:Reel):∀{xs ys:List IT.It}{as:List IT.It},ovL o t xs=.inr as->ovL o t (xs++ys)=(match ovL o t ys with | .inl e=>.inl e | .inr bs=>.inr (as++bs))
 | [],ys,as,h=>by
  rw [ovL] at h
  cases h
  rw [List.nil_append] <;> (cases ovL o t ys <;> rfl)
 | x :: r,ys,as,h=>by
  rw [ovL] at h
  rw [List.cons_append,ovL]
  cases hx:ovI o t x with
  | inl e=>rw [hx] at h; cases h
  | inr y =>
   rw [hx] at h
   cases hr:ovL o t r with
   | inl e=>rw [hr] at h; cases h
   | inr zs =>
    rw [hr] at h
    cases h
    dsimp only
    rw [cM o t hr] <;> (cases ovL o t ys <;> rfl)
theorem gS (o t:Reel):∀{xs ys:List IT.It}{e:Err},ovL o t xs=.inl e->ovL o t (xs++ys)=.inl e
 | [],ys,e,h=>by rw [ovL] at h; cases h
 | x :: r,ys,e,h=>by
  rw [ovL] at h
  rw [List.cons_append,ovL]
  cases hx:ovI o t x with
  | inl e'=>rw [hx] at h; cases h; rfl
  | inr y =>
   rw [hx] at h
   cases hr:ovL o t r with
   | inl e'=>rw [hr] at h; cases h; dsimp only; rw [gS o t hr]
   | inr zs=>rw [hr] at h; cases h
theorem nS (o t:Reel) (x:IT.It):ovL o t [x]=(match ovI o t x with | .inl e=>.inl e | .inr y=>.inr [y]):=by
 rw [ovL,ovL] <;> (cases ovI o t x <;> rfl)
theorem ss {o t:Reel}{xs ys:List IT.It}{i:Nat}{x y:IT.It}(h:ovL o t (xs.take i)=.inr ys) (hx:xs[i]?=some x) (hy:ovI o t x=.inr y):ovL o t (xs.take (i+1))=.inr (ys++[y]):=by
 rw [List.take_add_one,hx,Option.toList_some,cM o t h,nS,hy]
theorem sr {o t:Reel}{xs ys:List IT.It}{i:Nat}{x:IT.It}{e:Err}(h:ovL o t (xs.take i)=.inr ys) (hx:xs[i]?=some x) (hy:ovI o t x=.inl e):ovL o t xs=.inl e:=by
 have z:ovL o t (xs.take (i+1))=.inl e:=by rw [List.take_add_one,hx,Option.toList_some,cM o t h,nS,hy]
 rw [<- List.take_append_drop (i+1) xs]
 exact gS o t z
def hW (CF:Addr) (d:Nat):Sp:=fun vs H Q E=>∃(a p:Addr) (prs:List (Addr×Reel)) (o t:Addr×Reel) (xs:List IT.It),vs=[.ref a,.ref p,.str o.2.name,.str t.2.name]/\RL H p prs/\Uq prs/\o∈prs/\t∈prs/\Td H (.ref a) (.tuple (dL xs))/\dpL xs<=d/\wL xs<=1000000 /\
 (match ovL o.2 t.2 xs with
  | .inl e=>Flies CF e H E
  | .inr ys=>∀q H',Same H H'->Td H' (.ref q) (.tuple (dL ys))->Q (.ref q) H')
def nv (CF:Addr):Nat->Sp
 | 0=>fun _ _ _ _=>False
 | d+1=>hW CF d
theorem gz {u v w':V}:atI [u,v,w'] (-1)=some w':=rfl
theorem gA {u v:V}:atI [u,v] (-1)=some v:=rfl
theorem hV {CF:Addr}{d:Nat}{vs:List V}{H:Hp}{Q:VK}{E:XK}(h:0<d) (z:hW CF (d-1) vs H Q E):nv CF d vs H Q E:=by
 cases d with
 | zero=>exact absurd h (Nat.lt_irrefl _)
 | succ d=>exact z
theorem scOver:aq ["items", "reels", "one", "other", "told", "item"] ["items", "reels", "one", "other"] (ak dB):=⟨rfl,rfl,rfl,by decide +kernel,rfl,by decide +kernel,by decide +kernel⟩
theorem nX {d:Nat}{f CF:Addr}{fd:FuncData}(F:Fun K "over_items" "over_items" dB f fd) (dOClip:Def P w K mg base (CX1 P w) "over_clip" 5 ["clip", "reels", "one", "other"] (jD CF)) (dOver:Def P w K mg base (CX1 P w) "over_items" (d+5) ["items", "reels", "one", "other"] (nv CF d)) (n_tuple:mg "tuple"=none) :
  aG P w K mg base (CX1 P w) (d+6) f fd ["items", "reels", "one", "other"] (hW CF d):=by
 refine F.okX scOver (fun vs H Q E h=>?_) (fun cdv A outer s H vs Q E hr h=>?_)
 ·obtain ⟨a,p,prs,o,t,xs,rfl,_⟩:=h
  rfl
 obtain ⟨a,p,prs,o,t,xs,rfl,rl,uq,ho,ht,ha,hd,hw,q⟩:=h
 refine aW (ag (aw (i:=4) scOver.nd (ba af))
  (ag (bM PassesOwn.leaving rfl (lj (e_v 0)) (aM (i:=5) scOver.nd)
   (aj (bc (t_w (g0 (aN be (ar am (e_v 5) ae) aF) (fg (aN be (ar am (e_v 5) ae) (e_v 2)))))
    (aj (aP (bg (e_v 4) (ao dOClip hr bd (aa (e_v 5) (aa (e_v 1) (aa (e_v 2) (aa (e_v 3) af)))) (hj:=by omega)))))
    (aj (bc (aN je (ar am (e_v 5) ae) (aX (aa aF (aa aF af))))
     (aj (aP (bg (e_v 4) (az j7 (gM fR (e_v 5) cW (bG (eW bv ae))) (aX (aa (ao dOver hr bd (aa (ar am (e_v 5) (eW bv ae)) (aa (e_v 1) (aa (e_v 2) (aa (e_v 3) af)))) (hj:=by omega)) af))))))
     (aj (aP (bg (e_v 4) (e_v 5)))))))))
  (aj (aB (e_t bU n_tuple (by decide +kernel) (aa (e_v 4) af)))))) ?_
 obtain ⟨a0,vs,hva,hap,hvs⟩:=ha.tinv
 cases hva
 have zl:sizeLine=16777216:=sizeLine_eq
 have hxl:vs.length=xs.length:=by rw [hvs.len,bo,List.length_map]
 have hwl:=qL xs
 refine ⟨(by show 0<=sizeLine; decide),fun pl hpl=>?_⟩
 have sl:=Same.new hpl (.lst [])
 refine ⟨_,rfl,a,rfl,⟨_,SqT.of (sl _ _ hap)⟩,gX (K:=K) (a:=a) (xs:=vs) (fun i σ H'=>∃(ys:List IT.It) (us:List V) (o5:Option V),σ=[some (.ref a),some (.ref p),some (.str o.2.name),some (.str t.2.name),some (.ref pl),o5]/\ovL o.2 t.2 (xs.take i)=.inr ys/\H' pl=some (.lst us)/\us.length=i/\Tds H' us (dL ys)/\Same H H')
  ⟨[],[],none,rfl,(by rw [List.take_zero,ovL]),ac,rfl,(by rw [dL]; exact .nil),sl⟩ (fun i σ H' _ ⟨_,_,_,_,_,_,_,_,sm⟩=>SqT.of (sm _ _ hap)) ?_ ?_⟩
 ·rintro i v σ H' hv ⟨ys,us,o5,rfl,hys,hpl',hlen,hus,sm⟩
  have hi:i<vs.length:=(List.getElem?_eq_some_iff.mp hv).1
  obtain ⟨d',hd',tdv⟩:=(hvs.tk (TK.of sm)).get hv
  obtain ⟨x,hx,rfl⟩:=kn hd'
  have hxm:x∈xs:=List.mem_of_getElem? hx
  have hdx:dpI x<=d:=dpL_le.mp hd x hxm
  have hwx:wI x<=wL xs:=qK hxm
  have stop:∀e,ovI o.2 t.2 x=.inl e->Flies CF e H E:=fun e he=>by
   rw [sr hys hx he] at q
   exact q
  have nxt:∀(y:IT.It) u H2,ovI o.2 t.2 x=.inr y->Same H' H2->Td H2 u (dI y)->∃(ys:List IT.It) (us':List V) (o5:Option V),[some (V.ref a),some (.ref p),some (.str o.2.name),some (.str t.2.name),some (.ref pl),some v]=[some (.ref a),some (.ref p),some (.str o.2.name),some (.str t.2.name),some (.ref pl),o5]/\ovL o.2 t.2 (xs.take (i+1))=.inr ys/\upd H2 pl (.lst (us++[u])) pl=some (.lst us')/\us'.length=i+1/\Tds (upd H2 pl (.lst (us++[u]))) us' (dL ys)/\Same H (upd H2 pl (.lst (us++[u]))):=fun y u H2 hy s2 td=>by
   refine ⟨ys++[y],us++[u],some v,rfl,ss hys hx hy,ac,(by rw [List.length_append,hlen]; rfl),?_,fun b ob hb=>?_⟩
   ·rw [mO,show dL [y]=[dI y] by rw [dL,dL]]
    exact ((hus.tk (TK.of s2)).app (Tds.one td)).tk (TK.lst (s2 _ _ hpl'))
   ·rw [ah (ap hb hpl)]
    exact s2 _ _ (sm _ _ hb)
  cases x with
  | clip r f l =>
   obtain ⟨b,rfl,hb⟩:=fL tdv
   refine ⟨_,rfl,b,_,_,_,rfl,rfl,SqT.of hb,ad (j:=0) rfl,rfl,_,rfl,iteY (seq _) ⟨_,rfl,b,_,_,_,rfl,rfl,SqT.of hb,ad (j:=1) rfl,_,rfl,rfl,_,rfl,?_⟩⟩
   refine cY (fun c=>?_) (fun c=>?_)
   ·have c:r=o.2.name:=V.str.inj (of_decide_eq_true c)
    refine ⟨_,rfl,.inl ⟨rfl,_,SqL.of hpl'⟩,_,rfl,_,rfl,_,rfl,_,rfl,b,p,prs,o,t,r,f,l,rfl,rl.same sm,uq,ho,ht,hb,?_⟩
    cases hz:ovC o.2 t.2 f l with
    | inl e=>exact (stop e (by rw [ovI,if_pos c,hz])).later sm
    | inr z =>
     intro q H2 s2 hq
     exact ⟨pl,_,_,rfl,rfl,s2 _ _ hpl',by omega,nxt _ _ H2 (by rw [ovI,if_pos c,hz]) s2 (j9 hq)⟩
   ·have c:¬ r=o.2.name:=fun z=>c (decide_eq_true (congrArg V.str z))
    refine ⟨_,rfl,b,_,_,_,rfl,rfl,SqT.of hb,ad (j:=0) rfl,(by show 2<=sizeLine; decide),fun pt hpt=>⟨pt,_,rfl,.inr (SqT.of ac),rfl,rfl,_,rfl,iteN (by decide +kernel) ?_⟩⟩
    have st:=Same.new hpt (.tup [.str "times",.str "back"])
    exact ⟨_,rfl,.inl ⟨rfl,_,SqL.of (st _ _ hpl')⟩,_,rfl,pl,_,_,rfl,rfl,st _ _ hpl',by omega,nxt _ _ _ (by rw [ovI,if_neg c]) st (tdv.tk (TK.of st))⟩
  | times m zs =>
   obtain ⟨b,c,rfl,hb,hc⟩:=d8 tdv
   rw [dpI] at hdx
   rw [wI] at hwx
   refine ⟨_,rfl,b,_,_,_,rfl,rfl,SqT.of hb,ad (j:=0) rfl,rfl,_,rfl,iteN sne (bQ ?_)⟩
   refine ⟨_,rfl,b,_,_,_,rfl,rfl,SqT.of hb,ad (j:=0) rfl,(by show 2<=sizeLine; decide),fun pt hpt=>⟨pt,_,rfl,.inr (SqT.of ac),rfl,rfl,_,rfl,iteY (by decide +kernel) ?_⟩⟩
   have st:=Same.new hpt (.tup [.str "times",.str "back"])
   refine ⟨_,rfl,.inl ⟨rfl,_,SqL.of (st _ _ hpl')⟩,_,rfl,_,rfl,_,rfl,b,_,rfl,st _ _ hb,fun ps H3 s3 hps=>?_⟩
   have S3:=st.trans s3
   have ecut:bD [V.str "times",.int m,.ref c] none (some (-1))=[.str "times",.int m]:=rfl
   rw [ecut] at hps
   refine ⟨_,rfl,_,rfl,b,_,_,_,rfl,rfl,SqT.of (S3 _ _ hb),gz,_,rfl,_,rfl,_,rfl,hV (by omega) ⟨c,p,prs,o,t,zs,rfl,rl.same (sm.trans S3),uq,ho,ht,hc.tk (TK.of S3),by omega,by omega,?_⟩⟩
   cases hz:ovL o.2 t.2 zs with
   | inl e=>exact (stop e (by rw [ovI,hz])).later (sm.trans S3)
   | inr ws =>
    intro pq H4 s4 hq
    refine ⟨(by show 1<=sizeLine; decide),fun pu hpu=>⟨ps,pu,_,_,rfl,rfl,Same.new hpu _ _ _ (s4 _ _ hps),ac,(by show 3<=sizeLine; decide),fun pv H5 s5 hpv=>?_⟩⟩
    have S5:=(S3.trans s4).trans ((Same.new hpu _).trans s5)
    exact ⟨pl,_,_,rfl,rfl,S5 _ _ hpl',by omega,nxt _ _ _ (by rw [ovI,hz]) S5 (kU hpv (hq.tk (TK.of ((Same.new hpu _).trans s5))))⟩
  | back zs =>
   obtain ⟨b,c,rfl,hb,hc⟩:=fM tdv
   rw [dpI] at hdx
   rw [wI] at hwx
   refine ⟨_,rfl,b,_,_,_,rfl,rfl,SqT.of hb,ad (j:=0) rfl,rfl,_,rfl,iteN sne (bQ ?_)⟩
   refine ⟨_,rfl,b,_,_,_,rfl,rfl,SqT.of hb,ad (j:=0) rfl,(by show 2<=sizeLine; decide),fun pt hpt=>⟨pt,_,rfl,.inr (SqT.of ac),rfl,rfl,_,rfl,iteY (by decide +kernel) ?_⟩⟩
   have st:=Same.new hpt (.tup [.str "times",.str "back"])
   refine ⟨_,rfl,.inl ⟨rfl,_,SqL.of (st _ _ hpl')⟩,_,rfl,_,rfl,_,rfl,b,_,rfl,st _ _ hb,fun ps H3 s3 hps=>?_⟩
   have S3:=st.trans s3
   have ecut:bD [V.str "back",.ref c] none (some (-1))=[.str "back"]:=rfl
   rw [ecut] at hps
   refine ⟨_,rfl,_,rfl,b,_,_,_,rfl,rfl,SqT.of (S3 _ _ hb),gA,_,rfl,_,rfl,_,rfl,hV (by omega) ⟨c,p,prs,o,t,zs,rfl,rl.same (sm.trans S3),uq,ho,ht,hc.tk (TK.of S3),by omega,by omega,?_⟩⟩
   cases hz:ovL o.2 t.2 zs with
   | inl e=>exact (stop e (by rw [ovI,hz])).later (sm.trans S3)
   | inr ws =>
    intro pq H4 s4 hq
    refine ⟨(by show 1<=sizeLine; decide),fun pu hpu=>⟨ps,pu,_,_,rfl,rfl,Same.new hpu _ _ _ (s4 _ _ hps),ac,(by show 2<=sizeLine; decide),fun pv H5 s5 hpv=>?_⟩⟩
    have S5:=(S3.trans s4).trans ((Same.new hpu _).trans s5)
    exact ⟨pl,_,_,rfl,rfl,S5 _ _ hpl',by omega,nxt _ _ _ (by rw [ovI,hz]) S5 (n_ hpv (hq.tk (TK.of ((Same.new hpu _).trans s5))))⟩
  | part n zs =>
   obtain ⟨b,rfl,hb⟩:=fJ tdv
   refine ⟨_,rfl,b,_,_,_,rfl,rfl,SqT.of hb,ad (j:=0) rfl,rfl,_,rfl,iteN sne (bQ ?_)⟩
   refine ⟨_,rfl,b,_,_,_,rfl,rfl,SqT.of hb,ad (j:=0) rfl,(by show 2<=sizeLine; decide),fun pt hpt=>⟨pt,_,rfl,.inr (SqT.of ac),rfl,rfl,_,rfl,iteN (by decide +kernel) ?_⟩⟩
   have st:=Same.new hpt (.tup [.str "times",.str "back"])
   exact ⟨_,rfl,.inl ⟨rfl,_,SqL.of (st _ _ hpl')⟩,_,rfl,pl,_,_,rfl,rfl,st _ _ hpl',by omega,nxt _ _ _ (by rw [ovI]) st (tdv.tk (TK.of st))⟩
  | fade m =>
   obtain ⟨b,rfl,hb⟩:=fK tdv
   refine ⟨_,rfl,b,_,_,_,rfl,rfl,SqT.of hb,ad (j:=0) rfl,rfl,_,rfl,iteN sne (bQ ?_)⟩
   refine ⟨_,rfl,b,_,_,_,rfl,rfl,SqT.of hb,ad (j:=0) rfl,(by show 2<=sizeLine; decide),fun pt hpt=>⟨pt,_,rfl,.inr (SqT.of ac),rfl,rfl,_,rfl,iteN (by decide +kernel) ?_⟩⟩
   have st:=Same.new hpt (.tup [.str "times",.str "back"])
   exact ⟨_,rfl,.inl ⟨rfl,_,SqL.of (st _ _ hpl')⟩,_,rfl,pl,_,_,rfl,rfl,st _ _ hpl',by omega,nxt _ _ _ (by rw [ovI]) st (tdv.tk (TK.of st))⟩
 ·rintro σ H' ⟨ys,us,o5,rfl,hys,hpl',hlen,hus,sm⟩
  have e:ovL o.2 t.2 xs=.inr ys:=by
   rw [hxl,List.take_length] at hys
   exact hys
  rw [e] at q
  refine ⟨_,rfl,pl,_,rfl,.inl ⟨SqL.of hpl',fun pq hpq=>?_⟩⟩
  have st:=Same.new hpq (.tup us)
  exact q pq _ (sm.trans st) (.tup ac (hus.tk (TK.of st)))
end
end K57
namespace L2
open PySem PySem.Spec PyProof.Rows
section
variable {prog:Program}{w:World}{A:Around}{E:Value->Shared->Prop}{h:Heap}{g:Array GenState}{d:Drawn}{t:Nat}{os:OsState}{a:Addr}{o:Obj}
end
end L2
namespace L2
open PySem PySem.Spec PyProof.Rows PySem.W
def eKV (ks:List (Str×V)):List (Key×V):=ks.map fun x=>(Sum.inr x.1,x.2)
section
variable {prog:Program}{w:World}{A:Around}{R:Result->Shared->Prop}{I:Addr}{fp wr:List Addr}{G:Array GenState->Array GenState->Prop}{n:Nat}{P:Nat->Value->Prop}{St:Nat->Shared->Prop}
end
section
variable {prog:Program}{w:World}{A:Around}{E:Value->Shared->Prop}{s:Shared}
end
section
variable {X:Cx}{pins:List (Addr×Obj)}{σ:St}{H:Hp}{s:Shared}
theorem Inv.trackV {a:Addr}{o:HO}(I:Inv X pins σ H s) (f:bJ X pins H a) (hx:X.s₀.heap.get? a=none) (new:ObjOk X.prog X.w (upd H a o) s.heap a o):Inv X pins σ (upd H a o) s:=by
 obtain ⟨f0,f1,f2,f3,f4,f5⟩:=f
 have ne0:∀b o,X.s₀.heap.get? b=some o->b≠a:=fun b o e z=>by rw [z,hx] at e; cases e
 have neH:∀b u,H b=some u->b≠a:=fun b u e z=>by rw [z,f0] at e; cases e
 refine ⟨I.ok,I.os,I.bare,⟨I.base.keep,I.base.slot,fun b o e n he=>?_,I.base.there,fun b xs e=>?_,fun b o u e=>?_,fun b ps e=>?_⟩,I.loc,I.cell,?_,fun x c e=>?_,fun p hp=>?_,fun b u e=>?_,I.len⟩
 ·rw [ah (ne0 b o e)]; exact I.base.free b o e n he
 ·have:=I.base.tups b xs e
  rw [ah (neH _ _ this)]; exact this
 ·have:=I.base.frzs b o u e
  rw [ah (neH _ _ this)]; exact this
 ·obtain ⟨more,q⟩:=I.base.tbls b ps e
  exact ⟨more,by rw [ah (neH _ _ q)]; exact q⟩
 ·rw [ah (Ne.symm f1)]; exact I.free
 ·rw [ah (f4 x c e)]; exact I.freeC x c e
 ·obtain ⟨q1,q2,q3⟩:=I.pin p hp
  exact ⟨q1,by rw [ah (f5 p hp)]; exact q2,q3⟩
 ·by_cases hb:b=a
  ·subst hb
   rw [ac] at e
   cases e
   exact new
  ·rw [ah hb] at e
   exact (I.hok b u e).stay (fun c v _ q=>q) (fun c q=>by rw [ah (neH _ _ q)]; exact q) fun c xs q=>by rw [ah (neH _ _ q)]; exact q
end
section
variable {X:Cx}
end
end L2
namespace L2
open PySem PySem.Spec PyProof.Rows
section
variable {X:Cx}
theorem Inv.frozen {pins:List (Addr×Obj)}{σ:St}{H:Hp}{s:Shared}{d:Addr}{kvs:List (Key×V)}(I:Inv X pins σ H s) (hd:H d=some (.dK kvs)):∃ob,Inv X pins σ (upd H d (.frz ob (.dK kvs))) s:=by
 obtain ⟨z,hs,vs,kv,o,es,ep,ho,r⟩:=(show ObjOk X.prog X.w H s.heap d (.dK kvs) from I.hok _ _ hd)
 have ne:∀{b:Addr}{u:HO},H b=some u->(∀k,u≠.dK k)->b≠d:=fun e h q=>by rw [q,hd] at e; cases e; exact h _ rfl
 refine ⟨o,I.un (h':=s.heap) (t':=s.toks) ⟨fun b o e _ _ _=>e,fun b o e _ _ _=>⟨o.slots,e⟩,fun b o e n _=>?_,fun b o e _=>⟨o,e⟩,fun b xs e=>?_,fun b o u e=>?_,fun b ps e=>⟨#[],?_⟩⟩ fun b u e=>?_⟩
 ·rw [ah (fun q=>by rw [q,hd] at n; cases n)]; exact n
 ·rw [ah (ne e (fun _ z=>by cases z))]; exact e
 ·rw [ah (ne e (fun _ z=>by cases z))]; exact e
 ·rw [ah (ne e (fun _ z=>by cases z)),e]; simp
 ·by_cases hb:b=d
  ·subst hb
   rw [ac] at e
   cases e
   exact ⟨ho,z,hs,vs,kv,o,es,ep,ho,r⟩
  ·rw [ah hb] at e
   exact (I.hok b u e).stay (fun c v _ q=>q) (fun c q=>by rw [ah (ne q (fun _ z=>by cases z))]; exact q) fun c xs q=>by rw [ah (ne q (fun _ z=>by cases z))]; exact q
theorem yO {k:Key}{u:Value}{P:Program}{w:World}(h:(aI P w).is k u=true):RelV (kV k) u:=by
 rcases aV h with ⟨i,t,rfl,rfl⟩ | ⟨x,t,rfl,rfl⟩
 ·exact ⟨t,rfl⟩
 ·exact ⟨t,rfl⟩
theorem KV.nth:∀{kvs:List (Key×V)}{vs:List (Key×Value)}{i:Nat}{p:Key×V},KV kvs vs->kvs[i]?=some p->∃u,vs[i]?=some (p.1,u)/\RelV p.2 u:=by
 intro kvs vs i p h hi
 induction kvs generalizing vs i with
 | nil=>cases hi
 | cons q kvs ih =>
  cases h with
  | cons h0 r0 =>
   rename_i v vs
   cases i with
   | zero =>
    cases hi
    exact ⟨v.2,by rw [List.getElem?_cons_zero]; exact congrArg some (Prod.ext h0.1.symm rfl),h0.2⟩
   | succ i =>
    rw [List.getElem?_cons_succ] at hi ⊢
    exact ih r0 hi
def Itp (d:Addr) (ob:Obj) (kvs:List (Key×V)):It:=⟨fun i H=>H d=some (.frz ob (.dK kvs))/\i<kvs.length,fun i H x H'=>∃p k v,kvs[i]?=some (k,v)/\x=.ref p/\H p=none/\H'=upd H p (.tup [kV k,v]),fun i H=>H d=some (.frz ob (.dK kvs))/\kvs.length<=i⟩
theorem lU {P:Program}{w:World}{K:PySem.W.Frag}{elts:List Expr}{x1} {pos:Pos}(d it:Addr) (ob:Obj) (kvs:List (Key×V)) (ep:Nat) (hep:∃es,ob.data=.dict es ep) :
  kt P w K (.Tuple elts x1 pos) (Itp d ob kvs) [it] it (fun i h=>∃ok ov,IsItemIter h it d i kvs.length ep ok ov) where
 mem:=by simp
 obj:=fun i h st b hb=>by
  have e:b=it:=by simpa using hb
  subst e
  obtain ⟨ok,ov,e⟩:=st
  exact ⟨_,e,fun v z=>by
   have z':Data.fields _=Data.cell v:=z
   cases z'⟩
 keep:=fun i h h' st k=>by
  obtain ⟨ok,ov,e⟩:=st
  exact ⟨ok,ov,k it (by simp) _ e⟩
 item:=by
  intro X hP hw hK hc i pins s σ H E I hf st hg
  subst hP hw hK
  obtain ⟨hd,hlt⟩:=hg
  obtain ⟨hob,_,_,vs,kv,o,es,ep',ho,r1,r2,r3⟩:=(show ObjOk X.prog X.w H s.heap d (.frz ob (.dK kvs)) from I.hok _ _ hd)
  rw [hob] at ho
  cases ho
  obtain ⟨es0,he0⟩:=hep
  rw [he0] at r2
  cases r2
  have hm:s.heap.DictAt (aI X.prog X.w) d vs ep:=⟨ob,_,hob,r1,he0,r3⟩
  have hvl:kvs.length=vs.length:=kv.length
  obtain ⟨ok,ov,st⟩:=st
  rw [hvl] at st
  obtain ⟨u,hu,ru⟩:=KV.nth kv (List.getElem?_eq_getElem hlt)
  refine wpAny_pyNext_items_item st hm hu fun key h1 hk eo ht hz1 hk1=>?_
  refine ⟨_,rfl,wpAny_letOwnedTupleGo_items (s:={ s with heap:=h1 }) eo fun h2 he2 hs2=>?_⟩
  have hs2':Heap.SameBut it h1 h2:=hs2
  have nH:H s.heap.objs.size=none:=I.hok.fresh (Nat.le_refl _)
  have eL:it<s.heap.objs.size:=Heap.lt_size st
  have ht2:h2.get? s.heap.objs.size=some { cls:=.type "tuple",data:=.seq #[key,u] }:=(hs2'.2 _ (Nat.ne_of_gt eL)).trans ht
  have pg:(s.heap.push { cls:=.type "tuple",data:=.seq #[key,u] }).get? s.heap.objs.size=some { cls:=.type "tuple",data:=.seq #[key,u] }:=Heap.get?_push_size _ rfl
  have J1:=I.laid (a:=s.heap.objs.size) (o:=.tup [kV kvs[i].1,kvs[i].2]) (h':=s.heap.push { cls:=.type "tuple",data:=.seq #[key,u] }) (t':=s.toks) (fun b v z=>Heap.get?_push_of_some _ z) (Nat.le_refl _)
   ⟨(by show 2<=sizeLine; decide),[key,u],.cons (yO hk) (.cons ru .nil),⟨_,pg,rfl,_,rfl⟩⟩
  have fp':∀b∈[it],bJ X pins (upd H s.heap.objs.size (.tup [kV kvs[i].1,kvs[i].2])) b:=fun b hb=>by
   obtain ⟨f0,f1,f2,f3,f4,f5⟩:=hf b hb
   have hb':b=it:=by simpa using hb
   refine ⟨?_,f1,f2,f3,f4,f5⟩
   rw [ah (by rw [hb']; exact Nat.ne_of_lt eL)]
   exact f0
  have J2:=J1.turnedL (h':=h2) (t':=s.toks) (ch:=[it]) (fun b o hb z=>by
   have n1:b≠it:=fun y=>hb (by simp [y])
   by_cases hp:b=s.heap.objs.size
   ·subst hp
    have z':s.heap.objs.size=s.heap.objs.size->(s.heap.push { cls:=.type "tuple",data:=.seq #[key,u] }).get? s.heap.objs.size=some o:=fun _=>z
    rw [pg] at z'
    have:=z' rfl
    cases this
    exact ht2
   ·have z2:s.heap.get? b=some o:=bY z hp
    exact (hs2'.2 b n1).trans (hk1 b o n1 z2)) fp'
  exact ⟨.ref s.heap.objs.size,_,J2,rfl,⟨_,_,_,List.getElem?_eq_getElem hlt,rfl,nH,rfl⟩,⟨key,u,by rw [hvl]; exact he2⟩,fun b hb=>(fp' b hb).1⟩
 done:=by
  intro X hP hw hK hc i pins s σ H E I hf st hg
  subst hP hw hK
  obtain ⟨hd,hge⟩:=hg
  obtain ⟨hob,_,_,vs,kv,o,es,ep',ho,r1,r2,r3⟩:=(show ObjOk X.prog X.w H s.heap d (.frz ob (.dK kvs)) from I.hok _ _ hd)
  rw [hob] at ho
  cases ho
  obtain ⟨es0,he0⟩:=hep
  rw [he0] at r2
  cases r2
  have hm:s.heap.DictAt (aI X.prog X.w) d vs ep:=⟨ob,_,hob,r1,he0,r3⟩
  have hvl:kvs.length=vs.length:=kv.length
  obtain ⟨ok,ov,st⟩:=st
  rw [hvl] at st
  obtain ⟨f0,f1,f2,f3,f4,f5⟩:=hf it (by simp)
  exact wpAny_pyNext_items_end (I.ok.hd hc) st hm (List.getElem?_eq_none (by omega)) fun h' eb=>⟨rfl,I.turned (t':=s.toks) (fun b o hb e=>eb b o hb e) f0 f1 f3 f4 f5⟩
 self:=fun _ _ _ _ _ st h=>by
  obtain ⟨ok,ov,st⟩:=st
  exact PySem.W.kcp_self st h
def tV (tl:TE):TI:=fun σ H R=>tl σ H fun x H1=>∃d kvs,x=.ref d/\Rd H1 d (.dK kvs)/\∀ob H2,H2 d=some (.frz ob (.dK kvs))->(∀b,b≠d->H2 b=H1 b)->R (Itp d ob kvs) H2
theorem rQ {elts:List Expr}{x1} {tpos apos cpos:Pos}{o:Expr}{tl:TE}(ho:PE X o tl) (hbase:attributeBase o "items" X.env (eval o X.env)=eval o X.env) (hline:(apos.endLine == cpos.line)=true) :
  PI X (.Tuple elts x1 tpos) (.Call (.Attribute o "items" apos) [] [] cpos) (tV tl):=by
 intro pins s σ H R I h
 refine wpAny_Call_method0_late hbase hline (thn (ho pins s σ H _ I h) fun v s1 ⟨x,H1,I1,r1,q1⟩=>?_)
 obtain ⟨d,kvs,e,hd,q⟩:=q1
 subst e
 obtain rfl:v=Value.ref d:=r1
 obtain ⟨t1,t2,lo⟩:=kf I1 (.inl ⟨_,hd⟩)
 refine ⟨"dict", "dict.items",PySem.F.plainAttrs_dict,PySem.F.slot_dict_items,PySem.F.type_dict_items,t1,t2,Calls.callWith_builtin rfl (PySem.evalArgs_none ?_)⟩
 obtain ⟨z,hd0,vs0,rel,dd⟩:=ge I1.hok hd
 refine call_meetsIn PySem.F.slot_dict_items dd.typeIs PySem.F.entry_dict_items (PySem.F.args_dict_items_1 _) (meets_dict_items (aI X.prog X.w) d lo) ⟨⟨vs0,dd⟩,?_⟩
 have I1':Inv X pins σ H1 { s1 with heap:=s1.heap.push { cls:=.type "dict_items",data:=.fields #[.ref d] } }:=I1.kept (t':=s1.toks) fun b o e=>Heap.get?_push_of_some _ e
 generalize hs3:({ s1 with heap:=s1.heap.push { cls:=.type "dict_items",data:=.fields #[.ref d] } }:Shared)=s3 at I1'
 have hview:s3.heap.IsItemsView s1.heap.objs.size d:=by
  subst hs3
  exact ⟨_,Heap.get?_push_size _ rfl,rfl,rfl⟩
 obtain ⟨ob,H2,I2,hd2,hb2⟩:∃ob H2,Inv X pins σ H2 s3/\H2 d=some (.frz ob (.dK kvs))/\∀b,b≠d->H2 b=H1 b:=by
  rcases hd with hd | ⟨ob,hd⟩
  ·obtain ⟨ob,I2⟩:=I1'.frozen hd
   exact ⟨ob,_,I2,ac,fun b hb=>ah hb⟩
  ·exact ⟨ob,H1,I1',hd,fun b _=>rfl⟩
 obtain ⟨hob,_,hs,vs,kv,o,es,ep,ho,r1,r2,r3⟩:=(show ObjOk X.prog X.w H2 s3.heap d (.frz ob (.dK kvs)) from I2.hok _ _ hd2)
 rw [hob] at ho
 cases ho
 have hm:s3.heap.DictAt (aI X.prog X.w) d vs ep:=⟨ob,es,hob,r1,r2,r3⟩
 have hvl:kvs.length=vs.length:=kv.length
 refine wpAny_pyIter_items hview hm ?_
 refine ⟨s3.heap.objs.size,[s3.heap.objs.size],_,_,H2,rfl,I2.kept (t':=s3.toks) fun b o e=>Heap.get?_push_of_some _ e,lU d _ ob kvs ep ⟨es,r2⟩,⟨.none,.none,by rw [hvl]; exact Heap.get?_push_size _ rfl⟩,fun b hb=>?_,q ob H2 hd2 hb2⟩
 have e:b=s3.heap.objs.size:=by simpa using hb
 subst e
 exact I2.fpOk (Nat.le_refl _) (I2.hok.fresh (Nat.le_refl _))
theorem wf {elts:List Expr}{x1} {tpos apos cpos:Pos}{o:Expr}{t:TE}(h:QE X o t) (hbase:attributeBase o "items" X.env (eval o X.env)=eval o X.env:=by rfl) (hline:(apos.endLine == cpos.line)=true:=by rfl) :
  QI X (.Tuple elts x1 tpos) (.Call (.Attribute o "items" apos) [] [] cpos) (tV t):=⟨rQ h.h hbase hline⟩
theorem qm {d:Addr}{ob:Obj}{kvs:List (Key×V)}{g:TG}{tb:TS}{D:Ends}{σ:St}{H:Hp}(Pv:Nat->St->Hp->Prop) (h0:Pv 0 σ H) (hl:∀i σ H,i<=kvs.length->Pv i σ H->H d=some (.frz ob (.dK kvs)))
  (hs:∀i p q σ H,kvs[i]?=some p->Pv i σ H->H q=none->g (.ref q) σ (upd H q (.tup [kV p.1,p.2])) fun σ2 H2=>tb { D with nx:=Pv (i+1),ct:=Pv (i+1),bk:=D.nx } σ2 H2) (hd:∀ σ H,Pv kvs.length σ H->D.nx σ H) :
  ∃W:Nat->Nat->St->Hp->Prop,(∃m,W 0 m σ H)/\∀i m σ H,W i m σ H ->
   ((Itp d ob kvs).stop i H/\D.nx σ H)\/((Itp d ob kvs).go i H/\∃N:St->Hp->Prop,(∀ σ' H',N σ' H'->∃m',m'<m/\W (i+1) m' σ' H')/\∀x H',(Itp d ob kvs).yld i H x H'->g x σ H' fun σ2 H2=>tb { D with nx:=N,ct:=N,bk:=D.nx } σ2 H2):=by
 refine ⟨fun i m σ H=>m=kvs.length-i/\i<=kvs.length/\Pv i σ H,⟨kvs.length,by simp,Nat.zero_le _,h0⟩,?_⟩
 rintro i m σ H ⟨rfl,hi,p⟩
 have q:=hl i σ H hi p
 by_cases hlt:i<kvs.length
 ·refine .inr ⟨⟨q,hlt⟩,Pv (i+1),fun σ' H' p'=>⟨kvs.length-(i+1),by omega,rfl,hlt,p'⟩,fun x H' y=>?_⟩
  obtain ⟨p',k,v,hk,rfl,hn,rfl⟩:=y
  exact hs i (k,v) p' σ H hk p hn
 ·have e:i=kvs.length:=by omega
  subst e
  exact .inl ⟨⟨q,Nat.le_refl _⟩,hd σ H p⟩
end
end L2
namespace K57
open PySem L2 G DT
open IT hiding It
section
variable {P:Program}{w:World}{K:PySem.W.Frag}{mg:Str->Option Value}{base:Heap}
def Ex (p:Addr) (H H':Hp):Prop:=∀b o,b≠p->H b=some o->H' b=some o
theorem Ex.refl (p:Addr) (H:Hp):Ex p H H:=fun _ _ _ h=>h
theorem Ex.of {p:Addr}{H H':Hp}(s:Same H H'):Ex p H H':=fun b o _ h=>s b o h
theorem Ex.trans {p:Addr}{H H1 H2:Hp}(a:Ex p H H1) (b:Ex p H1 H2):Ex p H H2:=fun c o n h=>b c o n (a c o n h)
abbrev Pt:=Str×Addr×List IT.It
def bu (ps:List Pt):List (Key×V):=ps.map fun x=>(.inr x.1,.ref x.2.1)
structure PD (H:Hp) (d:Addr) (ps:List Pt):Prop where
 rd:Rd H d (.dK (bu ps))
 td:∀x∈ps,Td H (.ref x.2.1) (.tuple (dL x.2.2))/\dpL x.2.2<=5/\wL x.2.2<=1000
theorem nI {H H':Hp}{d:Addr}{kvs:List (Key×V)}(h:Rd H d (.dK kvs)) (e:Ex d H H'):TK H H':=fun a xs ha=>e a _ (by
 rintro rfl
 rcases h with h | ⟨o,h⟩
 ·rw [h] at ha; cases ha
 ·rw [h] at ha; cases ha) ha
theorem PD.later {H H':Hp}{d:Addr}{ps:List Pt}(h:PD H d ps) (e:Ex d H H') (r:Rd H' d (.dK (bu ps))):PD H' d ps:=⟨r,fun x hx=>⟨(h.td x hx).1.tk (nI h.rd e),(h.td x hx).2⟩⟩
theorem PD.same {H H':Hp}{d:Addr}{ps:List Pt}(h:PD H d ps) (s:Same H H'):PD H' d ps:=h.later (Ex.of s) (by
 rcases h.rd with r | ⟨o,r⟩
 ·exact .inl (s _ _ r)
 ·exact .inr ⟨o,s _ _ r⟩)
theorem RL.ex {H H':Hp}{p d:Addr}{prs:List (Addr×Reel)}{kvs:List (Key×V)}(h:RL H p prs) (hd:Rd H d (.dK kvs)) (e:Ex d H H'):RL H' p prs:=by
 refine ⟨e _ _ ?_ h.1,fun x hx=>⟨nI hd e _ _ (h.2 x hx).1,(h.2 x hx).2⟩⟩
 rintro rfl
 rcases hd with r | ⟨o,r⟩
 ·rw [h.1] at r; cases r
 ·rw [h.1] at r; cases r
def dZ (xs:List IT.It) (ps:List Pt):List IT.It:=xs++(ps.map fun x=>x.2.2).flatten
theorem lQ (xs:List IT.It) {ps:List Pt}{i:Nat}{x:Pt}(h:ps[i]?=some x):dZ xs (ps.take (i+1))=dZ xs (ps.take i)++x.2.2:=by
 unfold dZ
 rw [List.take_add_one,h,Option.toList_some,List.map_append,List.flatten_append,List.append_assoc]
 congr 2
 simp
theorem wK (xs:List IT.It) (ps:List Pt) (i:Nat):dZ xs ps=dZ xs (ps.take i)++((ps.drop i).map fun x=>x.2.2).flatten:=by
 unfold dZ
 rw [List.append_assoc,<- List.flatten_append,<- List.map_append,List.take_append_drop]
def OvP (o t:Reel) (ps ps':List Pt):Prop:=ps'.length=ps.length/\∀(j:Nat) (x:Pt),ps[j]?=some x->∃y:Pt,ps'[j]?=some y/\y.1=x.1/\ovL o t x.2.2=.inr y.2.2
theorem OvP.snoc {o t:Reel}{ps ps':List Pt}{i:Nat}{x:Pt}{b:Addr}{ws:List IT.It}(h:OvP o t (ps.take i) ps') (hx:ps[i]?=some x) (hw:ovL o t x.2.2=.inr ws):OvP o t (ps.take (i+1)) (ps'++[(x.1,b,ws)]):=by
 have hi:i<ps.length:=(List.getElem?_eq_some_iff.mp hx).1
 have hl:ps'.length=i:=by rw [h.1,List.length_take]; omega
 refine ⟨by rw [List.length_append,hl,List.length_take,List.length_singleton]; omega,fun j y hy=>?_⟩
 rw [List.getElem?_take] at hy
 by_cases hj:j<i
 ·rw [if_pos (by omega)] at hy
  obtain ⟨z,hz,r⟩:=h.2 j y (by rw [List.getElem?_take,if_pos hj]; exact hy)
  exact ⟨z,by rw [List.getElem?_append_left (by omega)]; exact hz,r⟩
 ·by_cases e:j=i
  ·subst e
   rw [if_pos (by omega),hx] at hy
   cases hy
   exact ⟨(x.1,b,ws),by rw [List.getElem?_append_right (by omega),hl,Nat.sub_self]; rfl,rfl,hw⟩
  ·rw [if_neg (by omega)] at hy
   cases hy
theorem OvP.names {o t:Reel}{ps ps':List Pt}(h:OvP o t ps ps'):ps'.map (·.1)=ps.map (·.1):=by
 refine List.ext_getElem? fun j=>?_
 rw [List.getElem?_map,List.getElem?_map]
 cases hj:ps[j]? with
 | none =>
  have:ps.length<=j:=List.getElem?_eq_none_iff.mp hj
  rw [List.getElem?_eq_none (show ps'.length<=j by rw [h.1]; exact this)] <;> rfl
 | some x =>
  obtain ⟨y,hy,e,_⟩:=h.2 j x hj
  rw [hy]
  exact congrArg some e
theorem qN:∀{ps:List Pt}{n:Str},n ∉ ps.map (·.1)->aK (bu ps) (.inr n:Key)=none
 | [],_,_=>rfl
 | x :: r,n,h=>by
  rw [List.map_cons,List.mem_cons,not_or] at h
  show aK (((.inr x.1:Key),V.ref x.2.1) :: bu r) (.inr n:Key)=none
  rw [aY (fun z=>h.1 (Sum.inr.inj z).symm)]
  exact qN h.2
theorem vZ {ps:List Pt}{i:Nat}{x:Pt}(nd:(ps.map (·.1)).Nodup) (hx:ps[i]?=some x):x.1 ∉ (ps.take i).map (·.1):=fun hm=>by
 have e:(ps.map (·.1)).take (i+1)=(ps.take i).map (·.1)++[x.1]:=by
  rw [<- List.map_take,List.take_add_one,hx,Option.toList_some,List.map_append]
  rfl
 have z:((ps.map (·.1)).take (i+1)).Nodup:=nd.sublist (List.take_sublist _ _)
 rw [e,List.nodup_append] at z
 exact z.2.2 _ hm _ (List.mem_singleton.mpr rfl) rfl
theorem tN (ps:List Pt) (n:Str) (b:Addr) (ws:List IT.It) (h:n ∉ ps.map (·.1)):bp (bu ps) (.inr n:Key) (.ref b)=bu (ps++[(n,b,ws)]):=by
 rw [fT _ (qN h)]
 unfold bu
 rw [List.map_append]
 rfl
def uT (CN CF:Addr):Sp:=fun vs H Q E=>∃(a d p:Addr) (prs:List (Addr×Reel)) (ps:List Pt) (one other:Str) (xs:List IT.It),vs=[.ref a,.ref d,.ref p,.str one,.str other]/\RL H p prs/\Uq prs/\Td H (.ref a) (.tuple (dL xs))/\dpL xs<=5/\wL xs<=1000/\PD H d ps/\(ps.map (·.1)).Nodup/\ps.length<=10 /\
 ((∀x∈prs,x.2.name≠one)->∀H' dx,Ex d H H'->Rd H' d (.dK (bu ps))->H' dx=some (xdO dx [("name",.str one)])->E (.ref CN) (some dx) H') /\
 (∀o∈prs,o.2.name=one->(∀x∈prs,x.2.name≠other)->∀H' dx,Ex d H H'->Rd H' d (.dK (bu ps))->H' dx=some (xdO dx [("name",.str other)])->E (.ref CN) (some dx) H') /\
 (∀o∈prs,o.2.name=one->∀t∈prs,t.2.name=other->(∀e,ovL o.2 t.2 (dZ xs ps)=.inl e->∀H' dx,Ex d H H'->Rd H' d (.dK (bu ps))->H' dx=some (xdO dx [("reel",.str e.1),("frame",e.2)])->E (.ref CF) (some dx) H') /\
  (∀ys ps',ovL o.2 t.2 xs=.inr ys->OvP o.2 t.2 ps ps'->∀q a' d' H',Ex d H H'->Rd H' d (.dK (bu ps))->H d'=none->H' d'=some (.dK (bu ps'))->H' q=some (.tup [.ref a',.ref d'])->Td H' (.ref a') (.tuple (dL ys))->(∀x∈ps',Td H' (.ref x.2.1) (.tuple (dL x.2.2)))->Q (.ref q) H'))
theorem scBr:aq ["items", "parts", "reels", "one", "other", "told", "told_parts", "name", "part"] ["items", "parts", "reels", "one", "other"] (ak cB):=⟨rfl,rfl,rfl,by decide +kernel,rfl,by decide +kernel,by decide +kernel⟩
theorem z5 {f CN CF:Addr}{fd:FuncData}(F:Fun K "brought_over" "brought_over" cB f fd) (dNamed:Def P w K mg base (CX1 P w) "reel_named" 3 ["reels", "name"] (eN CN)) (dOver:Def P w K mg base (CX1 P w) "over_items" 11 ["items", "reels", "one", "other"] (hW CF 5)) :
  aG P w K mg base (CX1 P w) 12 f fd ["items", "parts", "reels", "one", "other"] (uT CN CF):=by
 refine F.okX scBr (fun vs H Q E h=>?_) (fun cdv A outer s H vs Q E hr h=>?_)
 ·obtain ⟨a,d,p,prs,ps,one,other,xs,rfl,_⟩:=h
  rfl
 obtain ⟨a,d,p,prs,ps,one,other,xs,rfl,rl,uq,ha,hd4,hw,pd,nd,hpl,e1,e2,e3⟩:=h
 refine aW (ag (aP (ao dNamed hr bd (aa (e_v 2) (aa (e_v 3) af)) (hj:=by omega)))
  (ag (aP (ao dNamed hr bd (aa (e_v 2) (aa (e_v 4) af)) (hj:=by omega)))
  (ag (aw (i:=5) scBr.nd (ao dOver hr bd (aa (e_v 0) (aa (e_v 2) (aa (e_v 3) (aa (e_v 4) af)))) (hj:=by omega)))
  (ag (aw (i:=6) scBr.nd kl)
  (ag (bM PassesOwn.leaving rfl (wf (e_v 1)) (f8 rfl (aS (aM (i:=7) scBr.nd) (aS (aM (i:=8) scBr.nd) dP)))
   (aj (jW (eJ hr) (e_v 6) (e_v 7) (ao dOver hr bd (aa (e_v 8) (aa (e_v 2) (aa (e_v 3) (aa (e_v 4) af)))) (hj:=by omega)))))
  (aj (aB (aX (aa (e_v 5) (aa (e_v 6) af)))))))))) ?_
 refine ⟨_,rfl,_,rfl,p,prs,one,rfl,rl,fun o ho hon H1 s1=>?_,fun hn H1 dx s1 hdx=>e1 hn H1 dx (Ex.of s1) (pd.same s1).rd hdx⟩
 refine ⟨_,rfl,_,rfl,p,prs,other,rfl,rl.same s1,fun t ht hto H2 s2=>?_,fun hn H2 dx s2 hdx=>e2 o ho hon hn H2 dx (Ex.of (s1.trans s2)) (pd.same (s1.trans s2)).rd hdx⟩
 have S2:=s1.trans s2
 obtain ⟨e4,e5⟩:=e3 o ho hon t ht hto
 subst hon hto
 refine ⟨_,rfl,_,rfl,_,rfl,_,rfl,a,p,prs,o,t,xs,rfl,rl.same S2,uq,ho,ht,ha.tk (TK.of S2),hd4,by omega,?_⟩
 cases hz:ovL o.2 t.2 xs with
 | inl e=>exact fun H3 dx s3 hdx=>e4 e (gS _ _ hz) H3 dx (Ex.of (S2.trans s3)) (pd.same (S2.trans s3)).rd hdx
 | inr ys =>
  intro pt H3 s3 htd
  have S3:=S2.trans s3
  refine fun pk hpk=>?_
  have hpk0:H pk=none:=S3.free hpk
  have s4:=Same.new hpk (.dK [])
  have S4:=S3.trans s4
  refine ⟨_,rfl,d,_,rfl,(pd.same S4).rd,fun ob H5 h5d h5o=>?_⟩
  have x5:Ex d H H5:=(Ex.of S4).trans fun b o' hb h=>by rw [h5o b hb]; exact h
  have t45:TK (upd H3 pk (.dK [])) H5:=fun b xs' hb=>by
   by_cases e:b=d
   ·subst e
    rcases (pd.same S4).rd with r | ⟨_,r⟩ <;> rw [r] at hb <;> cases hb
   ·rw [h5o b e]; exact hb
  have ndk:d≠pk:=by
   rintro rfl
   rcases pd.rd with r | ⟨_,r⟩
   ·rw [hpk0] at r; cases r
   ·rw [hpk0] at r; cases r
  have h5k:H5 pk=some (.dK []):=by rw [h5o pk (Ne.symm ndk)]; exact ac
  refine qm (fun i σ H'=>∃(o7 o8:Option V) (ps':List Pt) (zs:List IT.It),σ=[some (.ref a),some (.ref d),some (.ref p),some (.str o.2.name),some (.str t.2.name),some (.ref pt),some (.ref pk),o7,o8]/\H' d=some (.frz ob (.dK (bu ps)))/\Ex d H H'/\H' pk=some (.dK (bu ps'))/\OvP o.2 t.2 (ps.take i) ps'/\Td H' (.ref pt) (.tuple (dL ys))/\(∀x∈ps',Td H' (.ref x.2.1) (.tuple (dL x.2.2)))/\ovL o.2 t.2 (dZ xs (ps.take i))=.inr zs)
   ⟨none,none,[],ys,rfl,h5d,x5,h5k,⟨by simp,fun j x hx=>by rw [List.take_zero] at hx; cases hx⟩,(htd.tk (TK.of s4)).tk t45,(fun x hx=>nomatch hx),(by rw [List.take_zero]; unfold dZ; rw [List.map_nil,List.flatten_nil,List.append_nil]; exact hz)⟩ (fun i σ H' _ ⟨_,_,_,_,_,h,_⟩=>h) ?_ ?_
  ·rintro i kv pq σ H' hkv ⟨o7,o8,ps',zs,rfl,hd',ex,hk',hop,hto',hpt',hov⟩ hpq
   obtain ⟨x,hx,rfl⟩:∃x,ps[i]?=some x/\kv=(.inr x.1,.ref x.2.1):=by
    unfold bu at hkv
    rw [List.getElem?_map] at hkv
    cases z:ps[i]? with
    | none=>rw [z] at hkv; cases hkv
    | some x=>rw [z] at hkv; exact ⟨x,rfl,(Option.some.inj hkv).symm⟩
   have hxm:x∈ps:=List.mem_of_getElem? hx
   have hil:i<ps.length:=(List.getElem?_eq_some_iff.mp hx).1
   have s6:=Same.new hpq (.tup [kV (.inr x.1:Key),.ref x.2.1])
   have PD6:=(pd.later ex (.inr ⟨ob,hd'⟩)).same s6
   have x6:=ex.trans (Ex.of s6)
   refine ⟨pq,_,rfl,SqT.of ac,rfl,_,_,rfl,_,_,rfl,rfl,?_⟩
   refine ⟨_,rfl,_,rfl,_,rfl,_,rfl,x.2.1,p,prs,o,t,x.2.2,rfl,(RL.ex rl pd.rd ex).same s6,uq,ho,ht,(PD6.td x hxm).1,(pd.td x hxm).2.1,(by have:=(pd.td x hxm).2.2; omega),?_⟩
   cases hy:ovL o.2 t.2 x.2.2 with
   | inl e =>
    intro H7 dx s7 hdx
    refine e4 e ?_ H7 dx (x6.trans (Ex.of s7)) (PD6.same s7).rd hdx
    rw [wK xs ps (i+1),lQ xs hx]
    exact gS _ _ (by rw [cM _ _ hov,hy])
   | inr ws =>
    intro pr H7 s7 htd7
    have zl:sizeLine=16777216:=sizeLine_eq
    have hd7:=s7 _ _ (s6 _ _ hd')
    have hk7:=s7 _ _ (s6 _ _ hk')
    refine ⟨_,rfl,_,rfl,pk,_,rfl,.inl ⟨bu ps',.inr x.1,hk7,rfl,(by unfold bu; rw [List.length_map,hop.1,List.length_take]; omega),rfl⟩,?_⟩
    have tkk:TK H' (upd H7 pk (.dK (bp (bu ps') (.inr x.1) (.ref pr)))):=(TK.of (s6.trans s7)).trans (TK.dk hk7)
    refine ⟨_,_,ps'++[(x.1,pr,ws)],zs++ws,rfl,?_,fun b ob' hb h=>?_,(by rw [ac,tN ps' x.1 pr ws (by rw [hop.names]; exact vZ nd hx)]),hop.snoc hx hy,hto'.tk tkk,(fun y hy'=>?_),?_⟩
    ·rw [ah ndk]
     exact hd7
    ·rw [ah (ap h hpk0)]
     exact s7 _ _ (x6 b ob' hb h)
    ·rcases List.mem_append.mp hy' with z | z
     ·exact (hpt' y z).tk tkk
     ·rw [List.mem_singleton.mp z]
      exact htd7.tk (TK.dk hk7)
    ·rw [lQ xs hx,cM _ _ hov,hy]
  ·rintro σ H' ⟨o7,o8,ps',zs,rfl,hd',ex,hk',hop,hto',hpt',hov⟩
   have eop:OvP o.2 t.2 ps ps':=by
    unfold bu at hop
    rw [List.length_map,List.take_length] at hop
    exact hop
   refine ⟨_,rfl,_,rfl,(by show 2<=sizeLine; decide),fun pr hpr=>?_⟩
   have s6:=Same.new hpr (.tup [.ref pt,.ref pk])
   exact e5 ys ps' hz eop pr pt pk _ (ex.trans (Ex.of s6)) ((pd.later ex (.inr ⟨ob,hd'⟩)).same s6).rd hpk0 (s6 _ _ hk') ac (hto'.tk (TK.of s6)) fun x hx=>(hpt' x hx).tk (TK.of s6)
end
def Ck (prs:List (Addr×Reel)) (r:Str) (f l:Int):Prop:=∃x∈prs,x.2.name=r/\0<=f/\f<x.2.many/\0<=l/\l<x.2.many
mutual
def hI (T:Str->Int->Int->Prop) (G:Str->List IT.It->Prop):IT.It->Prop
 | .clip r f l=>bK r/\T r f l
 | .times _ xs=>hL T G xs
 | .back xs=>hL T G xs
 | .part n xs=>bK n/\G n xs
 | .fade m=>0<=m
def hL (T:Str->Int->Int->Prop) (G:Str->List IT.It->Prop):List IT.It->Prop
 | []=>True
 | x :: r=>hI T G x/\hL T G r
end
theorem mG {T:Str->Int->Int->Prop}{G:Str->List IT.It->Prop}:∀{xs:List IT.It}{x:IT.It},hL T G xs->x∈xs->hI T G x
 | y :: r,x,g,h=>by
  rw [hL] at g
  rcases List.mem_cons.mp h with rfl | h
  ·exact g.1
  ·exact mG g.2 h
structure Pa (T:Str->Int->Int->Prop) (G:Str->List IT.It->Prop) (ns:List Str):Prop where
 fn:∀n ys ys',G n ys->G n ys'->ys=ys'
 dom:∀n ys,G n ys->n∈ns
 len:ns.length<=100
 wl:∀n ys,G n ys->WL ys
 ok:∀n ys,G n ys->hL T G ys
def PR (H:Hp) (pd:Addr) (G:Str->List IT.It->Prop):Prop:=∃kvs,Rd H pd (.dK kvs)/\∀n ys,G n ys->∃b,aK kvs (Sum.inr n)=some (.ref b)/\Td H (.ref b) (.tuple (dL ys))
theorem rds {H H':Hp}{d:Addr}{u:HO}(h:Rd H d u) (s:Same H H'):Rd H' d u:=by
 rcases h with r | ⟨o,r⟩
 ·exact .inl (s _ _ r)
 ·exact .inr ⟨o,s _ _ r⟩
theorem rde {H H':Hp}{d e:Addr}{u:HO}(h:Rd H d u) (n:d≠e) (s:Ex e H H'):Rd H' d u:=by
 rcases h with r | ⟨o,r⟩
 ·exact .inl (s _ _ n r)
 ·exact .inr ⟨o,s _ _ n r⟩
theorem rdn {H:Hp}{d e:Addr}{u:HO}(h:Rd H d u) (n:H e=none):e≠d:=by
 rintro rfl
 rcases h with r | ⟨o,r⟩ <;> rw [r] at n <;> cases n
theorem PR.ex {H H':Hp}{pd p:Addr}{G:Str->List IT.It->Prop}{kvs:List (Key×V)}(h:PR H pd G) (e:Ex p H H') (hp:Rd H p (.dK kvs)) (n:pd≠p):PR H' pd G:=by
 obtain ⟨k,h1,h2⟩:=h
 refine ⟨k,rde h1 n e,fun m ys g=>?_⟩
 obtain ⟨b,h3,h4⟩:=h2 m ys g
 exact ⟨b,h3,h4.tk (nI hp e)⟩
theorem PR.same {H H':Hp}{pd:Addr}{G:Str->List IT.It->Prop}(h:PR H pd G) (s:Same H H'):PR H' pd G:=by
 obtain ⟨k,h1,h2⟩:=h
 refine ⟨k,rds h1 s,fun m ys g=>?_⟩
 obtain ⟨b,h3,h4⟩:=h2 m ys g
 exact ⟨b,h3,h4.tk (TK.of s)⟩
theorem PR.get {H:Hp}{pd:Addr}{G:Str->List IT.It->Prop}(h:PR H pd G) {n:Str}{ys:List IT.It}(g:G n ys):∃b,DGet H pd (.str n) (some (.ref b))/\Td H (.ref b) (.tuple (dL ys)):=by
 obtain ⟨kvs,h1,h2⟩:=h
 obtain ⟨b,h3,h4⟩:=h2 n ys g
 exact ⟨b,.inl ⟨kvs,.inr n,h1,rfl,h3.symm⟩,h4⟩
theorem e9 {α:Type}:∀{l m:List α},l.Nodup->(∀x∈l,x∈m)->l.length<=m.length
 | [],_,_,_=>Nat.zero_le _
 | a :: l,m,h,k=>by
  obtain ⟨p,q,rfl⟩:=List.append_of_mem (k a List.mem_cons_self)
  rw [List.nodup_cons] at h
  have:=e9 (m:=p++q) h.2 fun x hx=>by
   have:=k x (List.mem_cons_of_mem _ hx)
   simp only [List.mem_append,List.mem_cons] at this ⊢
   rcases this with z | z | z
   ·exact .inl z
   ·subst z; exact absurd hx h.1
   ·exact .inr z
  simp only [List.length_append,List.length_cons] at this ⊢
  omega
structure Wk (G:Str->List IT.It->Prop) (ns:List Str) (n0:Nat) (wk:List (Key×V)):Prop where
 nd:(wk.map (·.1)).Nodup
 sub:∀k∈wk.map (·.1),k∈ns.map (Sum.inr:Str->Key)
 bl:∀n v,aK wk (.inr n:Key)=some v->v=.bl true\/v=.bl false
 way:∀n,aK wk (.inr n:Key)=some (.bl true)->∀zs,G n zs->n0<=dpL zs
theorem Wk.len {G:Str->List IT.It->Prop}{ns:List Str}{n0:Nat}{wk:List (Key×V)}(h:Wk G ns n0 wk):wk.length<=ns.length:=by
 have:=e9 h.nd h.sub
 simpa using this
theorem Wk.mono {G:Str->List IT.It->Prop}{ns:List Str}{n0 n1:Nat}{wk:List (Key×V)}(h:Wk G ns n0 wk) (l:n1<=n0):Wk G ns n1 wk:=⟨h.nd,h.sub,h.bl,fun n e zs g=>Nat.le_trans l (h.way n e zs g)⟩
theorem pI {kvs:List (Key×V)}{k:Key}{v:V}:∀j∈(bp kvs k v).map (·.1),j=k\/j∈kvs.map (·.1):=fun j hj=>by
 cases z:aK kvs k with
 | none =>
  rw [fT v z,List.map_append] at hj
  rcases List.mem_append.mp hj with y | y
  ·exact .inr y
  ·exact .inl (List.mem_singleton.mp y)
 | some u =>
  refine .inr ?_
  unfold bp at hj
  split at hj
  ·rw [List.map_map] at hj
   obtain ⟨p,hp,e⟩:=List.mem_map.mp hj
   refine List.mem_map.mpr ⟨p,hp,?_⟩
   rw [<- e]
   dsimp only [Function.comp]
   split <;> simp_all
  ·rename_i h
   exfalso
   apply h
   simp only [aK] at z
   exact (by
    rw [List.any_eq_true]
    cases f:kvs.find? (fun p=>decide (p.1=k)) with
    | none=>rw [f] at z; cases z
    | some p=>exact ⟨p,List.mem_of_find?_eq_some f,by have:=List.find?_some f; simpa using this⟩)
theorem yG {kvs:List (Key×V)}{k:Key}(v:V) (hn:(kvs.map (·.1)).Nodup):((bp kvs k v).map (·.1)).Nodup:=by
 cases z:aK kvs k with
 | none=>exact n9 v hn z
 | some u =>
  unfold bp
  split
  ·rw [List.map_map]
   have e:((fun x:Key×V=>x.1) ∘ fun kv:Key×V=>if kv.1=k then (kv.1,v) else kv)=fun x=>x.1:=by
    funext p
    dsimp only [Function.comp]
    split <;> rfl
   rw [e]
   exact hn
  ·rename_i h
   rw [<- fT v (by
    cases q:aK kvs k with
    | none=>rfl
    | some x=>rw [bW,q] at h; exact (h rfl).elim)]
   exact n9 v hn (by
    cases q:aK kvs k with
    | none=>rfl
    | some x=>rw [bW,q] at h; exact (h rfl).elim)
theorem Wk.put {G:Str->List IT.It->Prop}{ns:List Str}{n0 n1:Nat}{wk:List (Key×V)}{n:Str}{b:Bool}(h:Wk G ns n0 wk) (hn:n∈ns) (l:n1<=n0) (hb:b=true->∀zs,G n zs->n1<=dpL zs):Wk G ns n1 (bp wk (.inr n) (.bl b)):=by
 refine ⟨yG _ h.nd,fun k hk=>?_,fun m v hv=>?_,fun m hm zs g=>?_⟩
 ·rcases pI k hk with rfl | z
  ·exact List.mem_map.mpr ⟨n,hn,rfl⟩
  ·exact h.sub k z
 ·rw [bV] at hv
  split at hv
  ·cases hv
   cases b
   ·exact .inr rfl
   ·exact .inl rfl
  ·exact h.bl m v hv
 ·rw [bV] at hm
  split at hm
  ·rename_i e
   cases e
   cases hm
   exact hb rfl zs g
  ·exact Nat.le_trans l (h.way m hm zs g)
theorem Wk.later {G:Str->List IT.It->Prop}{ns:List Str}{n0:Nat}{wk wk':List (Key×V)}(h:Wk G ns n0 wk) (k:Wk G ns 0 wk') (t:∀m,aK wk' (.inr m:Key)=some (.bl true)->aK wk (.inr m:Key)=some (.bl true)):Wk G ns n0 wk':=⟨k.nd,k.sub,k.bl,fun n e zs g=>h.way n (t n e) zs g⟩
section
variable {P:Program}{w:World}{K:PySem.W.Frag}{mg:Str->Option Value}{base:Heap}
def jI:Sp:=fun vs H Q E=>∃(c lr:Addr) (prs:List (Addr×Reel)) (r:Str) (f l:Int),vs=[.ref c,.ref lr]/\H c=some (.tup [.str "clip",.str r,.int f,.int l])/\RL H lr prs/\Uq prs/\Ck prs r f l/\∀H',Same H H'->Q .non H'
theorem scLClip:aq ["clip", "reels", "reel", "frame"] ["clip", "reels"] (ak cA):=⟨rfl,rfl,rfl,by decide +kernel,rfl,by decide +kernel,by decide +kernel⟩
theorem sO {f CN CF fI:Addr}{fd fdI:FuncData}(F:Fun K "look_at_clip" "look_at_clip" cA f fd) (dNamed:Def P w K mg base (CX1 P w) "reel_named" 3 ["reels", "name"] (eN CN)) (dHasF:Def P w K mg base CX0 "has_frame" 2 ["reel", "frame"] h8)
  (m_NoFrame:mg "NoFrame"=some (.ref CF)) (R_NoFrame:dW K CF fI) (G_NoFrame:aG P w K mg base CX0 1 fI fdI ["self", "reel", "frame"] (gQ CF)) (b_NoFrame:Binds K fdI ["self", "reel", "frame"] []) :
  aG P w K mg base (CX1 P w) 4 f fd ["clip", "reels"] jI:=by
 refine F.okX scLClip (fun vs H Q E h=>?_) (fun cdv A outer s H vs Q E hr h=>?_)
 ·obtain ⟨c,lr,prs,r,f,l,rfl,_⟩:=h
  rfl
 obtain ⟨c,lr,prs,r,f,l,rfl,hc,rl,uq,⟨x0,hx0,en,f0,f1,l0,l1⟩,q⟩:=h
 refine aW (ag (aw (i:=2) scLClip.nd (ao dNamed hr bd (aa (e_v 1) (aa (ar am (e_v 0) ae) af))))
  (aj (bM PassesOwn.leaving rfl (lj (gM fR (e_v 0) (bG ae) cW)) (aM (i:=3) scLClip.nd)
   (aj (bc (g7 (d_ (ao dHasF hr aE (aa (e_v 2) (aa (e_v 3) af)))))
    (aj (dh m_NoFrame R_NoFrame G_NoFrame hr b_NoFrame (aa (ar am (e_v 0) ae) (aa (e_v 3) af))))
    aL))))) ?_
 refine ⟨_,rfl,_,rfl,c,_,_,_,rfl,rfl,SqT.of hc,ad (j:=1) rfl,lr,prs,r,rfl,rl,fun x hx hn H1 s1=>?_,fun hn H1 dx s1 hdx=>absurd en (hn x0 hx0)⟩
 have ex:=uq x hx x0 hx0 (by rw [hn,en])
 subst ex
 have hc1:=s1 _ _ hc
 refine ⟨_,rfl,_,rfl,c,_,rfl,hc1,fun pt H2 s2 hpt=>?_⟩
 have S2:=s1.trans s2
 have ecut:bD [V.str "clip",.str r,.int f,.int l] (some 2) none=[.int f,.int l]:=rfl
 rw [ecut] at hpt
 refine ⟨pt,rfl,⟨_,SqT.of hpt⟩,gX (K:=K) (a:=pt) (xs:=[.int f,.int l]) (fun i σ H'=>∃o3:Option V,σ=[some (.ref c),some (.ref lr),some (.ref x.1),o3]/\Same H2 H') ⟨none,rfl,Same.refl _⟩ (fun i σ H' _ ⟨_,_,sm⟩=>SqT.of (sm _ _ hpt)) ?_ ?_⟩
 ·rintro i v σ H' hv ⟨o3,rfl,sm⟩
  have S3:=S2.trans sm
  obtain ⟨g,rfl,hg⟩:∃g:Int,v=.int g/\has x.2 g:=by
   match i,hv with
   | 0,hv=>cases hv; exact ⟨f,rfl,f0,f1⟩
   | 1,hv=>cases hv; exact ⟨l,rfl,l0,l1⟩
  refine ⟨_,rfl,_,rfl,x.1,x.2,g,rfl,S3 _ _ (rl.2 x hx).1,fun z=>⟨_,rfl,bQ ⟨_,rfl,sm⟩⟩,fun z=>absurd hg z⟩
 ·rintro σ H' ⟨o3,rfl,sm⟩
  exact q H' (S2.trans sm)
def q8:Sp:=fun vs H Q _=>∃(v:V) (x:IT.It),vs=[v]/\Td H v (dI x)/\Q (.bl (isF x)) H
theorem zK:aq ["item"] ["item"] (ak gt):=⟨rfl,rfl,rfl,by decide +kernel,rfl,by decide +kernel,by decide +kernel⟩
theorem yE {f:Addr}{fd:FuncData}(F:Fun K "is_fade" "is_fade" gt f fd):aG P w K mg base CX0 1 f fd ["item"] q8:=by
 refine F.ok zK (fun vs H Q E h=>?_) (fun cdv A outer s H vs Q E hr h=>?_)
 ·obtain ⟨v,x,rfl,_⟩:=h
  rfl
 obtain ⟨v,x,rfl,ht,q⟩:=h
 refine aW (aj (aB (eM be (ar am (e_v 0) ae) aF))) ?_
 obtain ⟨a,us,rfl,ha⟩:=m_ ht
 rw [<- gW] at q
 exact ⟨_,rfl,a,_,_,_,rfl,rfl,SqT.of ha,ad (j:=0) rfl,rfl,q⟩
theorem oX {H:Hp}{vs:List V}{xs:List IT.It}{j:Nat}{x:IT.It}(t:Tds H vs (dL xs)) (h:xs[j]?=some x):∃v,vs[j]?=some v/\Td H v (dI x) :=
 t.at (by rw [bo,List.getElem?_map,h]; rfl)
theorem ld {H:Hp}{vs:List V}{xs:List IT.It}(t:Tds H vs (dL xs)):vs.length=xs.length:=by rw [t.len,bo,List.length_map]
theorem kj:∀{xs:List IT.It},WL xs->∀(k:Nat) (m:Int),xs[k]?=some (.fade m)->∃j x y,k=j+1/\xs[j]?=some x/\xs[k+1]?=some y/\isF x=false/\isF y=false
 | _,.one h,k,m,e=>by
  match k,e with
  | 0,e=>cases e; cases h
  | k+1,e=>cases e
 | _,@WL.cons x r h t,k,m,e=>by
  match k,e with
  | 0,e=>cases e; cases h
  | k+1,e =>
   obtain ⟨j,a,b,rfl,h1,h2,h3,h4⟩:=kj t k m e
   exact ⟨j+1,a,b,rfl,h1,h2,h3,h4⟩
 | _,@WL.fade x m' r h t,k,m,e=>by
  match k,e with
  | 0,e=>cases e; cases h
  | 1,e =>
   obtain ⟨y,r',rfl,wy⟩:=t.head
   exact ⟨0,x,y,rfl,rfl,rfl,h.nf,wy.nf⟩
  | k+2,e =>
   obtain ⟨j,a,b,rfl,h1,h2,h3,h4⟩:=kj t k m e
   exact ⟨j+2,a,b,rfl,h1,h2,h3,h4⟩
def jH:Sp:=fun vs H Q E=>∃(p:Addr) (xs:List IT.It) (k:Nat) (m:Int),vs=[.ref p,.int (k:Int)]/\Td H (.ref p) (.tuple (dL xs))/\WL xs/\xs[k]?=some (.fade m)/\∀H',Same H H'->Q .non H'
theorem u7:aq ["items", "place"] ["items", "place"] (ak cz):=⟨rfl,rfl,rfl,by decide +kernel,rfl,by decide +kernel,by decide +kernel⟩
theorem sM {f CD:Addr}{fd:FuncData}(F:Fun K "look_at_fade" "look_at_fade" cz f fd) (dIsF:Def P w K mg base CX0 "is_fade" 1 ["item"] q8) (n_len:mg "len"=none)
  (m_NoFade:mg "NoFade"=some (.ref CD)) (q_NoFade:PySem.W.excIn K CD bmVE "ValueError.__new__"=true) :
  aG P w K mg base (CX1 P w) 3 f fd ["items", "place"] jH:=by
 refine F.okX u7 (fun vs H Q E h=>?_) (fun cdv A outer s H vs Q E hr h=>?_)
 ·obtain ⟨p,xs,k,m,rfl,_⟩:=h
  rfl
 obtain ⟨p,xs,k,m,rfl,td,wl,hk,q⟩:=h
 refine aW (ag (bc (t_w (iX (aN be (e_v 1) ae) (gB (aN be (e_v 1) (az bw (e_b aT n_len PySem.boot_len (aa (e_v 0) af)) ae)))))
   (aj (jS m_NoFade q_NoFade (aa aF af)))
   aL)
  (aj (bc (t_w (iX (d_ (ao dIsF hr aE (aa (ar am (e_v 0) (az bw (e_v 1) ae)) af))) (gB (d_ (ao dIsF hr aE (aa (ar am (e_v 0) (az aR (e_v 1) ae)) af))))))
   (aj (jS m_NoFade q_NoFade (aa aF af)))
   aL))) ?_
 obtain ⟨_,vs,ep,hp,tds⟩:=td.tinv
 cases ep
 have lv:=ld tds
 obtain ⟨j,x1,x2,rfl,hx1,hx2,n1,n2⟩:=kj wl k m hk
 have hlt:j+1+1<xs.length:=(List.getElem?_eq_some_iff.mp hx2).1
 obtain ⟨v1,hv1,t1⟩:=oX tds hx1
 obtain ⟨v2,hv2,t2⟩:=oX tds hx2
 have e1:(((j+1:Nat):Int)-1)=((j:Nat):Int):=by omega
 have e2:(((j+1:Nat):Int)+1)=((j+1+1:Nat):Int):=by omega
 refine ⟨_,rfl,rfl,_,rfl,iteN (decide_eq_false fun z=>by have:=V.int.inj z; omega) ?_⟩
 refine ⟨_,rfl,_,rfl,p,vs,rfl,.inr (SqT.of hp),_,_,rfl,rfl,rfl,_,rfl,iteN (decide_eq_false fun z=>by have:=V.int.inj z; omega) ?_⟩
 refine ⟨_,rfl,_,rfl,_,_,rfl,rfl,p,_,_,v1,rfl,rfl,SqT.of hp,(by show atI _ (((j+1:Nat):Int)-1)=_; rw [e1]; exact ad hv1),v1,x1,rfl,t1,_,rfl,iteN n1 ?_⟩
 refine ⟨_,rfl,_,rfl,_,_,rfl,rfl,p,_,_,v2,rfl,rfl,SqT.of hp,(by show atI _ (((j+1:Nat):Int)+1)=_; rw [e2]; exact ad hv2),v2,x2,rfl,t2,_,rfl,iteN n2 ?_⟩
 exact q H (Same.refl _)
structure Arnd (H:Hp) (pd lr pw:Addr) (G:Str->List IT.It->Prop) (ns:List Str) (prs:List (Addr×Reel)) (n0:Nat) (wk:List (Key×V)):Prop where
 pr:PR H pd G
 pa:Pa (Ck prs) G ns
 rl:RL H lr prs
 uq:Uq prs
 w:H pw=some (.dK wk)
 wo:Wk G ns n0 wk
 ne:pd≠pw
theorem Arnd.ex {H H':Hp}{pd lr pw:Addr}{G:Str->List IT.It->Prop}{ns:List Str}{prs:List (Addr×Reel)}{n0 n1:Nat}{wk wk':List (Key×V)}(h:Arnd H pd lr pw G ns prs n0 wk) (e:Ex pw H H') (hw:H' pw=some (.dK wk')) (wo:Wk G ns n1 wk'):Arnd H' pd lr pw G ns prs n1 wk' :=
 ⟨h.pr.ex e (.inl h.w) h.ne,h.pa,RL.ex h.rl (.inl h.w) e,h.uq,hw,wo,h.ne⟩
def hX (d:Nat):Sp:=fun vs H Q E=>∃(p pd lr pw:Addr) (xs:List IT.It) (G:Str->List IT.It->Prop) (ns:List Str) (prs:List (Addr×Reel)) (wk:List (Key×V)),vs=[.ref p,.ref pd,.ref lr,.ref pw] /\
 Td H (.ref p) (.tuple (dL xs))/\WL xs/\hL (Ck prs) G xs/\Arnd H pd lr pw G ns prs (dpL xs) wk/\dpL xs<=d/\∀wk' H',Ex pw H H'->H' pw=some (.dK wk')->Wk G ns 0 wk'->(∀m,aK wk' (.inr m:Key)=some (.bl true)->aK wk (.inr m:Key)=some (.bl true))->Q .non H'
def jF:Nat->Sp
 | 0=>fun _ _ _ _=>False
 | d+1=>hX d
theorem fh {d:Nat}{vs:List V}{H:Hp}{Q:VK}{E:XK}(h:0<d) (z:hX (d-1) vs H Q E):jF d vs H Q E:=by
 cases d with
 | zero=>exact absurd h (Nat.lt_irrefl _)
 | succ d=>exact z
def nw (d:Nat):Sp:=fun vs H Q E=>∃(n:Str) (pd lr pw:Addr) (ys:List IT.It) (G:Str->List IT.It->Prop) (ns:List Str) (prs:List (Addr×Reel)) (wk:List (Key×V)),vs=[.str n,.ref pd,.ref lr,.ref pw]/\G n ys/\dpL ys+1<=d /\
 Arnd H pd lr pw G ns prs (dpL ys+1) wk/\∀wk' H',Ex pw H H'->H' pw=some (.dK wk')->Wk G ns 0 wk'->(∀m,aK wk' (.inr m:Key)=some (.bl true)->aK wk (.inr m:Key)=some (.bl true))->Q .non H'
theorem u6:aq ["name", "parts", "reels", "within"] ["name", "parts", "reels", "within"] (ak cy):=⟨rfl,rfl,rfl,by decide +kernel,rfl,by decide +kernel,by decide +kernel⟩
theorem kP {d:Nat}{f CN fI:Addr}{fd fdI:FuncData}(F:Fun K "look_at_part" "look_at_part" cy f fd) (dLook:Def P w K mg base (CX1 P w) "look_through" (2*d+5) ["items", "parts", "reels", "within"] (jF d))
  (m_NoName:mg "NoName"=some (.ref CN)) (R_NoName:dW K CN fI) (G_NoName:aG P w K mg base CX0 1 fI fdI ["self", "name"] (h7 CN "name")) (b_NoName:Binds K fdI ["self", "name"] []) :
  aG P w K mg base (CX1 P w) (2*d+6) f fd ["name", "parts", "reels", "within"] (nw d):=by
 refine F.okX u6 (fun vs H Q E h=>?_) (fun cdv A outer s H vs Q E hr h=>?_)
 ·obtain ⟨n,pd,lr,pw,ys,G,ns,prs,wk,rfl,_⟩:=h
  rfl
 obtain ⟨n,pd,lr,pw,ys,G,ns,prs,wk,rfl,gn,hdy,A0,q⟩:=h
 refine aW (ag (bc (t_w (iX (kC (eJ hr) (e_v 0) (e_v 1)) (gB (d_ (oN (eJ hr) (e_v 3) (e_v 0) i8)))))
   (aj (dh m_NoName R_NoName G_NoName hr b_NoName (aa (e_v 0) af) (hj:=by omega)))
   aL)
  (aj (bc (kC (eJ hr) (e_v 0) (e_v 3))
   (ag (jW (eJ hr) (e_v 3) (e_v 0) i8)
   (ag (aP (ao dLook hr bd (aa (mK (eJ hr) (e_v 1) (e_v 0)) (aa (e_v 1) (aa (e_v 2) (aa (e_v 3) af)))) (hj:=by omega)))
   (aj (jW (eJ hr) (e_v 3) (e_v 0) i8))))
   aL))) ?_
 have zl:sizeLine=16777216:=sizeLine_eq
 obtain ⟨b,dg,tb⟩:=A0.pr.get gn
 have hnm:=A0.pa.dom n ys gn
 have hns:=A0.pa.len
 have il:=A0.wo.len
 have dw:DGet H pw (.str n) (aK wk (.inr n)):=DGet.k (k:=.inr n) A0.w
 refine ⟨_,rfl,_,rfl,pd,_,rfl,dg,_,rfl,bQ ?_⟩
 cases hz:aK wk (.inr n:Key) with
 | some v =>
  rw [hz] at dw
  rcases A0.wo.bl n v hz with rfl | rfl
  ·have:=A0.wo.way n hz ys gn
   omega
  ·refine ⟨_,rfl,pw,rfl,.inl ⟨wk,.inl A0.w⟩,_,rfl,_,dw,_,rfl,bQ ⟨_,rfl,_,rfl,pw,_,rfl,dw,_,rfl,bQ ?_⟩⟩
   exact q wk H (Ex.refl _ _) A0.w (A0.wo.mono (Nat.zero_le _)) fun _ h=>h
 | none =>
  rw [hz] at dw
  refine ⟨_,rfl,pw,rfl,.inl ⟨wk,.inl A0.w⟩,_,rfl,_,dw,_,rfl,bQ ⟨_,rfl,_,rfl,pw,_,rfl,dw,_,rfl,cX ?_⟩⟩
  refine ⟨_,rfl,_,rfl,pw,_,rfl,.inl ⟨wk,.inr n,A0.w,rfl,by omega,rfl⟩,?_⟩
  have x1:Ex pw H (upd H pw (.dK (bp wk (.inr n) (.bl true)))):=fun c o hc h=>by rw [ah hc]; exact h
  have W1:Wk G ns (dpL ys) (bp wk (.inr n) (.bl true)):=A0.wo.put hnm (by omega) fun _ zs g=>by rw [A0.pa.fn n zs ys g gn]; exact Nat.le_refl _
  have A1:=A0.ex x1 ac W1
  generalize upd H pw (.dK (bp wk (.inr n) (.bl true)))=H1 at x1 A1 ⊢
  obtain ⟨b1,dg1,tb1⟩:=A1.pr.get gn
  refine ⟨_,rfl,_,rfl,pd,_,rfl,dg1,_,rfl,_,rfl,_,rfl,fh (by omega) ⟨b1,pd,lr,pw,ys,G,ns,prs,_,rfl,tb1,A0.pa.wl n ys gn,A0.pa.ok n ys gn,A1,by omega,fun wk2 H2 x2 hw2 W2 k2=>?_⟩⟩
  have il2:=W2.len
  refine ⟨_,rfl,_,rfl,pw,_,rfl,.inl ⟨wk2,.inr n,hw2,rfl,by omega,rfl⟩,?_⟩
  refine q _ _ (x1.trans (x2.trans fun c o hc h=>by rw [ah hc]; exact h)) ac (W2.put hnm (Nat.le_refl _) fun e=>by cases e) fun m hm=>?_
  rw [bV] at hm
  split at hm
  ·cases hm
  ·rename_i ne
   have:=k2 m hm
   rw [bV,if_neg ne] at this
   exact this
theorem scLook:aq ["items", "parts", "reels", "within", "place", "item"] ["items", "parts", "reels", "within"] (ak cx):=⟨rfl,rfl,rfl,by decide +kernel,rfl,by decide +kernel,by decide +kernel⟩
theorem nY {d:Nat}{f:Addr}{fd:FuncData}(F:Fun K "look_through" "look_through" cx f fd) (dLook:Def P w K mg base (CX1 P w) "look_through" (2*d+5) ["items", "parts", "reels", "within"] (jF d))
  (dLPart:Def P w K mg base (CX1 P w) "look_at_part" (2*d+6) ["name", "parts", "reels", "within"] (nw d)) (dLClip:Def P w K mg base (CX1 P w) "look_at_clip" 4 ["clip", "reels"] jI) (dLFade:Def P w K mg base (CX1 P w) "look_at_fade" 3 ["items", "place"] jH) (n_enumerate:mg "enumerate"=none) :
  aG P w K mg base (CX1 P w) (2*d+7) f fd ["items", "parts", "reels", "within"] (hX d):=by
 refine F.okX scLook (fun vs H Q E h=>?_) (fun cdv A outer s H vs Q E hr h=>?_)
 ·obtain ⟨p,pd,lr,pw,xs,G,ns,prs,wk,rfl,_⟩:=h
  rfl
 obtain ⟨p,pd,lr,pw,xs,G,ns,prs,wk,rfl,td,wl,hl,A0,hd,q⟩:=h
 refine aW (aj (bM PassesOwn.leaving rfl (wg n_enumerate (e_v 0)) (f8 rfl (aS (aM (i:=4) scLook.nd) (aS (aM (i:=5) scLook.nd) dP)))
   (aj (bc (aN be (ar am (e_v 5) ae) aF)
    (aj (aP (ao dLClip hr bd (aa (e_v 5) (aa (e_v 2) af)) (hj:=by omega))))
    (aj (bc (aN be (ar am (e_v 5) ae) aF)
     (aj (aP (ao dLFade hr bd (aa (e_v 0) (aa (e_v 4) af)) (hj:=by omega))))
     (aj (bc (aN be (ar am (e_v 5) ae) aF)
      (aj (aP (ao dLPart hr bd (aa (ar am (e_v 5) ae) (aa (e_v 1) (aa (e_v 2) (aa (e_v 3) af)))) (hj:=by omega))))
      (aj (aP (ao dLook hr bd (aa (ar am (e_v 5) (eW bv ae)) (aa (e_v 1) (aa (e_v 2) (aa (e_v 3) af)))) (hj:=by omega)))))))))))) ?_
 obtain ⟨_,vs,ep,hp,tds⟩:=td.tinv
 cases ep
 have lv:=ld tds
 have pne:p≠pw:=fun z=>by rw [z,A0.w] at hp; cases hp
 refine ⟨_,rfl,p,rfl,⟨_,SqT.of hp⟩,qp (K:=K) (a:=p) (xs:=vs) (fun i σ H'=>∃(o4 o5:Option V) (wk':List (Key×V)),σ=[some (.ref p),some (.ref pd),some (.ref lr),some (.ref pw),o4,o5]/\Ex pw H H'/\H' pw=some (.dK wk')/\Wk G ns 0 wk'/\(∀m,aK wk' (.inr m:Key)=some (.bl true)->aK wk (.inr m:Key)=some (.bl true)))
  ⟨none,none,wk,rfl,Ex.refl _ _,A0.w,A0.wo.mono (Nat.zero_le _),fun _ h=>h⟩ (fun i σ H' _ ⟨_,_,_,_,ex,_⟩=>SqT.of (ex _ _ pne hp)) ?_ ?_⟩
 ·rintro i v σ H' pe hvv ⟨o4,o5,wk',rfl,ex,hk',W',k'⟩ hpe
  obtain ⟨dd,hdd,tv⟩:=tds.get hvv
  obtain ⟨x,hx,rfl⟩:=kn hdd
  have mx:=List.mem_of_getElem? hx
  have hxw:=wl.mem x mx
  have hxh:=mG hl mx
  have hdx:dpI x<=dpL xs:=dpL_le.mp (Nat.le_refl _) x mx
  have te:=Same.new hpe (.tup [.int (i:Int),v])
  have ex2:Ex pw H (upd H' pe (.tup [.int (i:Int),v])):=ex.trans (Ex.of te)
  have hk2:=te _ _ hk'
  have A2:=A0.ex ex2 hk2 (A0.wo.later W' k')
  have tkk:=nI (.inl A0.w) ex2
  have tv2:=tv.tk tkk
  have td2:=td.tk tkk
  have hpt:upd H' pe (.tup [.int (i:Int),v]) pe=some (.tup [.int (i:Int),v]):=ac
  generalize upd H' pe (.tup [.int (i:Int),v])=H2 at te ex2 hk2 A2 tv2 td2 hpt
  have nxt:∀{o4 o5:Option V}{wk2:List (Key×V)}{H3:Hp},Ex pw H2 H3->H3 pw=some (.dK wk2)->Wk G ns 0 wk2->(∀m,aK wk2 (.inr m:Key)=some (.bl true)->aK wk' (.inr m:Key)=some (.bl true))->∃(o4' o5':Option V) (wk'':List (Key×V)),[some (V.ref p),some (.ref pd),some (.ref lr),some (.ref pw),o4,o5]=[some (.ref p),some (.ref pd),some (.ref lr),some (.ref pw),o4',o5']/\Ex pw H H3/\H3 pw=some (.dK wk'')/\Wk G ns 0 wk''/\(∀m,aK wk'' (.inr m:Key)=some (.bl true)->aK wk (.inr m:Key)=some (.bl true)):=fun x3 h3 w3 k3=>⟨_,_,_,rfl,ex2.trans x3,h3,w3,fun m hm=>k' m (k3 m hm)⟩
  refine ⟨pe,_,rfl,SqT.of hpt,rfl,_,_,rfl,_,_,rfl,rfl,?_⟩
  cases x with
  | clip r cf cl =>
   obtain ⟨a,rfl,ha⟩:=fL tv2
   rw [hI] at hxh
   refine ⟨_,rfl,a,_,_,_,rfl,rfl,SqT.of ha,ad (j:=0) rfl,rfl,_,rfl,iteY (seq _) ?_⟩
   exact ⟨_,rfl,_,rfl,a,lr,prs,r,cf,cl,rfl,ha,A2.rl,A2.uq,hxh.2,fun H3 s3=>nxt (Ex.of s3) (s3 _ _ hk2) W' fun _ h=>h⟩
  | fade m =>
   obtain ⟨a,rfl,ha⟩:=fK tv2
   refine ⟨_,rfl,a,_,_,_,rfl,rfl,SqT.of ha,ad (j:=0) rfl,rfl,_,rfl,iteN sne ?_⟩
   refine ⟨_,rfl,a,_,_,_,rfl,rfl,SqT.of ha,ad (j:=0) rfl,rfl,_,rfl,iteY (seq _) ?_⟩
   exact ⟨_,rfl,_,rfl,p,xs,i,m,rfl,td2,wl,hx,fun H3 s3=>nxt (Ex.of s3) (s3 _ _ hk2) W' fun _ h=>h⟩
  | part n zs =>
   obtain ⟨a,rfl,ha⟩:=fJ tv2
   rw [hI] at hxh
   rw [dpI] at hdx
   refine ⟨_,rfl,a,_,_,_,rfl,rfl,SqT.of ha,ad (j:=0) rfl,rfl,_,rfl,iteN sne ?_⟩
   refine ⟨_,rfl,a,_,_,_,rfl,rfl,SqT.of ha,ad (j:=0) rfl,rfl,_,rfl,iteN sne ?_⟩
   refine ⟨_,rfl,a,_,_,_,rfl,rfl,SqT.of ha,ad (j:=0) rfl,rfl,_,rfl,iteY (seq _) ?_⟩
   exact ⟨_,rfl,a,_,_,_,rfl,rfl,SqT.of ha,ad (j:=1) rfl,_,rfl,_,rfl,_,rfl,n,pd,lr,pw,zs,G,ns,prs,wk',rfl,hxh.2,by omega,⟨A2.pr,A2.pa,A2.rl,A2.uq,hk2,A2.wo.mono hdx,A2.ne⟩,fun wk2 H3 x3 h3 w3 k3=>nxt x3 h3 w3 k3⟩
  | times m ys =>
   obtain ⟨a,b,rfl,ha,tb⟩:=d8 tv2
   rw [hI] at hxh
   rw [dpI] at hdx
   have wy:WL ys:=by
    rcases hxw with z | ⟨k,e⟩
    ·cases z with | times h1 h2 h3=>exact h3
    ·cases e
   refine ⟨_,rfl,a,_,_,_,rfl,rfl,SqT.of ha,ad (j:=0) rfl,rfl,_,rfl,iteN sne ?_⟩
   refine ⟨_,rfl,a,_,_,_,rfl,rfl,SqT.of ha,ad (j:=0) rfl,rfl,_,rfl,iteN sne ?_⟩
   refine ⟨_,rfl,a,_,_,_,rfl,rfl,SqT.of ha,ad (j:=0) rfl,rfl,_,rfl,iteN sne ?_⟩
   exact ⟨_,rfl,_,rfl,a,_,_,V.ref b,rfl,rfl,SqT.of ha,rfl,_,rfl,_,rfl,_,rfl,fh (by omega) ⟨b,pd,lr,pw,ys,G,ns,prs,wk',rfl,tb,wy,hxh,⟨A2.pr,A2.pa,A2.rl,A2.uq,hk2,A2.wo.mono (by omega),A2.ne⟩,by omega,fun wk2 H3 x3 h3 w3 k3=>nxt x3 h3 w3 k3⟩⟩
  | back ys =>
   obtain ⟨a,b,rfl,ha,tb⟩:=fM tv2
   rw [hI] at hxh
   rw [dpI] at hdx
   have wy:WL ys:=by
    rcases hxw with z | ⟨k,e⟩
    ·cases z with | back h3=>exact h3
    ·cases e
   refine ⟨_,rfl,a,_,_,_,rfl,rfl,SqT.of ha,ad (j:=0) rfl,rfl,_,rfl,iteN sne ?_⟩
   refine ⟨_,rfl,a,_,_,_,rfl,rfl,SqT.of ha,ad (j:=0) rfl,rfl,_,rfl,iteN sne ?_⟩
   refine ⟨_,rfl,a,_,_,_,rfl,rfl,SqT.of ha,ad (j:=0) rfl,rfl,_,rfl,iteN sne ?_⟩
   exact ⟨_,rfl,_,rfl,a,_,_,V.ref b,rfl,rfl,SqT.of ha,rfl,_,rfl,_,rfl,_,rfl,fh (by omega) ⟨b,pd,lr,pw,ys,G,ns,prs,wk',rfl,tb,wy,hxh,⟨A2.pr,A2.pa,A2.rl,A2.uq,hk2,A2.wo.mono (by omega),A2.ne⟩,by omega,fun wk2 H3 x3 h3 w3 k3=>nxt x3 h3 w3 k3⟩⟩
 ·rintro σ H' ⟨o4,o5,wk',rfl,ex,hk',W',k'⟩
  exact q wk' H' ex hk' W' k'
def jA (d:Nat):Sp:=fun vs H Q E=>∃(p pd lr:Addr) (xs:List IT.It) (G:Str->List IT.It->Prop) (ns:List Str) (prs:List (Addr×Reel)),vs=[.ref p,.ref pd,.ref lr]/\Td H (.ref p) (.tuple (dL xs))/\WL xs/\hL (Ck prs) G xs/\PR H pd G/\Pa (Ck prs) G ns/\RL H lr prs/\Uq prs/\dpL xs<=d/\∀H',Same H H'->Q (.ref p) H'
theorem jP {H H1 H2:Hp}{d:Addr}(s:Same H H1) (hd:H d=none) (e:Ex d H1 H2):Same H H2:=fun b o hb=>e b o (by rintro rfl; rw [hd] at hb; cases hb) (s _ _ hb)
theorem uW:aq ["items", "parts", "reels"] ["items", "parts", "reels"] (ak jR):=⟨rfl,rfl,rfl,by decide +kernel,rfl,by decide +kernel,by decide +kernel⟩
theorem sB {d:Nat}{f:Addr}{fd:FuncData}(F:Fun K "sound" "sound" jR f fd) (dLook:Def P w K mg base (CX1 P w) "look_through" (2*d+7) ["items", "parts", "reels", "within"] (hX d)):aG P w K mg base (CX1 P w) (2*d+8) f fd ["items", "parts", "reels"] (jA d):=by
 refine F.okX uW (fun vs H Q E h=>?_) (fun cdv A outer s H vs Q E hr h=>?_)
 ·obtain ⟨p,pd,lr,xs,G,ns,prs,rfl,_⟩:=h
  rfl
 obtain ⟨p,pd,lr,xs,G,ns,prs,rfl,td,wl,hl,pr,pa,rl,uq,hd,q⟩:=h
 refine aW (ag (aP (ao dLook hr bd (aa (e_v 0) (aa (e_v 1) (aa (e_v 2) (aa kl af)))) (hj:=by omega)))
  (aj (aB (e_v 0)))) ?_
 refine ⟨_,rfl,_,rfl,_,rfl,fun pw hpw=>?_⟩
 have s1:=Same.new hpw (.dK [])
 have ne:pd≠pw:=by
  obtain ⟨k,r,_⟩:=pr
  exact Ne.symm (rdn r hpw)
 refine ⟨p,pd,lr,pw,xs,G,ns,prs,[],rfl,td.tk (TK.of s1),wl,hl,⟨pr.same s1,pa,rl.same s1,uq,ac,⟨List.nodup_nil,(fun k hk=>nomatch hk),(fun n v e=>by cases e),fun n e=>by cases e⟩,ne⟩,hd,fun wk' H2 x2 hw W k=>?_⟩
 exact ⟨_,rfl,q H2 (jP s1 hpw x2)⟩
end
end K57
namespace L2
open PySem PySem.Spec PyProof.Rows
def Itw (K:PySem.W.Frag) (a:Addr) (xs:List V):It :=
 ⟨fun i H=>SqL K H a xs/\i<xs.length,fun i H x H'=>H'=H/\xs.reverse[i]?=some x,fun i H=>SqL K H a xs/\xs.length<=i⟩
theorem pb {P:Program}{w:World}{K:PySem.W.Frag}{tg:Expr}(a it:Addr) (xs:List V):kt P w K tg (Itw K a xs) [it] it (fun i h=>i<=xs.length/\h.IsRevIter it a ((xs.length:Int)-1-(i:Int))) where
 mem:=by simp
 obj:=fun i h st b hb=>by
  have e:b=it:=by simpa using hb
  subst e
  obtain ⟨_,o,e,c,d⟩:=st
  exact ⟨o,e,fun v z=>by rw [d] at z; cases z⟩
 keep:=fun i h h' st k=>⟨st.1,st.2.at fun o e=>k it (by simp) o e⟩
 item:=by
  intro X hP hw hK hc i pins s σ H E I hf st hg
  subst hP hw hK
  obtain ⟨hq,hx⟩:=hg
  obtain ⟨its,rv,p,hz⟩:=I.list hq
  have hl:=rv.length
  have hj:xs[xs.length-1-i]?=some (xs[xs.length-1-i]'(by omega)):=List.getElem?_eq_getElem (by omega)
  obtain ⟨u,hu,ru⟩:=rv.get hj
  obtain ⟨f0,f1,f2,f3,f4,f5⟩:=hf it (by simp)
  have e1:(xs.length:Int)-1-(i:Int)=((xs.length-1-i:Nat):Int):=by omega
  have st2:=st.2
  rw [e1] at st2
  refine wpAny_pyNext_rev_item st2 p.isList (x:=u) (by simpa using hu) fun h' st' sb=>?_
  have I1:Inv X pins σ H { s with heap:=h' }:=I.turned (t':=s.toks) (fun b o hb e=>(sb.2 b hb).trans e) f0 f1 f3 f4 f5
  have e2:((xs.length-1-i:Nat):Int)-1=(xs.length:Int)-1-((i+1:Nat):Int):=by omega
  rw [e2] at st'
  obtain ⟨o,e,c,d⟩:=id st'
  refine ⟨u,rfl,oE (s:={ s with heap:=h' }) e c d (by decide) ⟨xs[xs.length-1-i]'(by omega),H,I1,ru,⟨rfl,?_⟩,⟨hx,st'⟩,fun b hb=>(hf b hb).1⟩⟩
  rw [List.getElem?_reverse hx]
  exact hj
 done:=by
  intro X hP hw hK hc i pins s σ H E I hf st hg
  subst hP hw hK
  obtain ⟨hq,hx⟩:=hg
  obtain ⟨f0,f1,f2,f3,f4,f5⟩:=hf it (by simp)
  have hi:=st.1
  have e1:(xs.length:Int)-1-(i:Int)=-1:=by omega
  have st2:=st.2
  rw [e1] at st2
  exact wpAny_pyNext_rev_end (I.ok.hd hc) st2 fun h' eb=>⟨rfl,I.turned (t':=s.toks) (fun b o hb e=>eb b o hb e) f0 f1 f3 f4 f5⟩
 self:=fun _ _ _ _ _ st h=>wpAny_pyIter_revIter st.2 h
def xh (K:PySem.W.Frag) (ta:TA):TI:=fun σ H R=>ta σ H fun vs H1=>∃a xs,vs=[.ref a]/\SqL K H1 a xs/\R (Itw K a xs) H1
section
variable {X:Cx}
theorem vA {tg:Expr}{p pos:Pos}{a:Expr}{ta:TA}(hg:Gl X "reversed") (hm:X.mg "reversed"=none) (hbt:bootBuiltins "reversed"=some (.type "reversed")) (ha:PA X [a] ta) (hs:starEach [a] X.env=[(false,eval a X.env)]:=by rfl) :
  PI X tg (.Call (.Name "reversed" p) [a] [] pos) (xh X.K ta):=by
 intro pins s σ H R I h
 refine Call_ (bP I hg hm hbt (PyProof.Rows.callWith_type1 (thn (ha pos pins s σ H _ I h) fun us s1 ⟨vs,H1,I1,r1,q1⟩=>?_) hs rfl))
 obtain ⟨a,xs,rfl,hq,q⟩:=q1
 obtain ⟨u,rfl,ru⟩:=dY r1
 cases ru
 obtain ⟨its,rv,pl,hz⟩:=I1.list hq
 have hl:=rv.length
 refine call_reversed_list pl.isList ?_
 have e:((its.toArray.size:Nat):Int)-1=(xs.length:Int)-1-((0:Nat):Int):=by rw [List.size_toArray,<- hl]; omega
 rw [e]
 have it:(s1.heap.push (revObj a ((xs.length:Int)-1-((0:Nat):Int)))).IsRevIter s1.heap.objs.size a ((xs.length:Int)-1-((0:Nat):Int)):=⟨_,Heap.get?_push_size _ rfl,rfl,rfl⟩
 refine wpAny_pyIter_revIter it ?_
 refine ⟨s1.heap.objs.size,[s1.heap.objs.size],_,_,H1,rfl,I1.kept (t':=s1.toks) fun b o e=>Heap.get?_push_of_some _ e,pb a _ xs,⟨Nat.zero_le _,it⟩,fun b hb=>?_,q⟩
 have e:b=s1.heap.objs.size:=by simpa using hb
 subst e
 exact I1.fpOk (Nat.le_refl _) (I1.hok.fresh (Nat.le_refl _))
theorem yR {tg a:Expr}{t:TE}{p pos:Pos}(hm:X.mg "reversed"=none) (ha:QE X a t) (hg:X.env.kindOf "reversed"=some .globalImplicit:=by kernel_rfl) (hs:ax a=true:=by rfl):QI X tg (.Call (.Name "reversed" p) [a] [] pos) (xh X.K (cu t g9)) :=
 ⟨vA hg hm (by decide +kernel) (pa' ha.h cV hs) ((au hs).trans rfl)⟩
theorem uf {K:PySem.W.Frag}{a:Addr}{xs:List V}{g:TG}{tb:TS}{D:Ends}{σ:St}{H:Hp}(Pv:Nat->St->Hp->Prop) (h0:Pv 0 σ H) (hl:∀i σ H,i<=xs.length->Pv i σ H->SqL K H a xs)
  (hs:∀i x σ H,xs.reverse[i]?=some x->Pv i σ H->g x σ H fun σ2 H2=>tb { D with nx:=Pv (i+1),ct:=Pv (i+1),bk:=D.nx } σ2 H2) (hd:∀ σ H,Pv xs.length σ H->D.nx σ H) :
  ∃W:Nat->Nat->St->Hp->Prop,(∃m,W 0 m σ H)/\∀i m σ H,W i m σ H ->
   ((Itw K a xs).stop i H/\D.nx σ H)\/((Itw K a xs).go i H/\∃N:St->Hp->Prop,(∀ σ' H',N σ' H'->∃m',m'<m/\W (i+1) m' σ' H')/\∀x H',(Itw K a xs).yld i H x H'->g x σ H' fun σ2 H2=>tb { D with nx:=N,ct:=N,bk:=D.nx } σ2 H2):=by
 refine ⟨fun i m σ H=>m=xs.length-i/\i<=xs.length/\Pv i σ H,⟨xs.length,by simp,Nat.zero_le _,h0⟩,?_⟩
 rintro i m σ H ⟨rfl,hi,p⟩
 have q:=hl i σ H hi p
 by_cases hlt:i<xs.length
 ·refine .inr ⟨⟨q,hlt⟩,Pv (i+1),fun σ' H' p'=>⟨xs.length-(i+1),by omega,rfl,hlt,p'⟩,fun x H' y=>?_⟩
  obtain ⟨rfl,y⟩:=y
  exact hs i x σ _ y p
 ·have e:i=xs.length:=by omega
  subst e
  exact .inl ⟨⟨q,Nat.le_refl _⟩,hd σ H p⟩
end
def wO (J:It) (n:Nat) (cap:St) (g:TG) (te:TE) (Q:VK) (H1:Hp):Prop:=∀D,H1 D=none->∃W:Nat->Nat->List V->Hp->Prop,(∃m,W 0 m [] (upd H1 D (.lst [])))/\∀i m ys H2,W i m ys H2->H2 D=some (.lst ys) /\
 ((J.stop i H2/\Q (.ref D) H2)\/(J.go i H2/\∀x H3 (xo:St),xo.length=n->J.yld i H2 x H3->g x (xo++cap) H3 fun σ6 H6=>(∃xo':St,xo'.length=n/\σ6=xo'++cap)/\te σ6 H6 fun y H4=>H4 D=some (.lst ys)/\ys.length<sizeLine/\∃m',m'<m/\W (i+1) m' (ys++[y]) (upd H4 D (.lst (ys++[y])))))
def AA (wi:TI) (n:Nat) (js:List Nat) (g:TG) (te:TE):TE:=fun σ H Q=>wi σ H fun J H1=>wO J n (c_ σ js) g te Q H1
section
variable {X:Cx}{pos:Pos}{elt iter:Expr}{sc:Scope}{xs ys:List Str}{js:List Nat}{cl:List (Str×Addr)}
end
section
variable {X:Cx}
theorem lP:bN X (.builtin "sum") (fun xs H Q=>∃(a:Addr) (ns:List Int),xs=[.ref a]/\SqL X.K H a (ns.map V.int)/\X.calm=true/\Q (.int ns.sum) H):=by
 intro pins s σ H xs us Q I r h
 obtain ⟨a,ns,rfl,hS,hc,q⟩:=h
 obtain ⟨u,rfl,ru⟩:=dY r
 cases ru
 obtain ⟨its,rv,pl,hz⟩:=I.list hS
 have hlen:its.length=ns.length:=by rw [<- rv.length,List.length_map]
 refine PySem.call_sum_walkAnyS (wpAny_pyIter_list pl.isList ?_)
 have ne:a≠s.heap.objs.size:=by
  obtain ⟨o,e,_⟩:=pl.isList
  exact Nat.ne_of_lt (Heap.lt_size e)
 have hh:X.A.in1.handled=none:=I.ok.hd hc
 refine ⟨s.heap.objs.size,_,_,_,_,_,_,fun i=>ns.getD i 0,rfl,(Walks.list hh s.heap.objs.size a ne its.toArray).toS,⟨⟨_,Heap.get?_push_size _ rfl,rfl,rfl⟩,?_⟩,?_,?_,?_⟩
 ·obtain ⟨o,e,r⟩:=pl.isList
  exact ⟨o,Heap.get?_push_of_some _ e,r⟩
 ·intro b hb
  have hb:b=s.heap.objs.size\/b=a:=by simpa using hb
  show b<(s.heap.push _).objs.size
  rw [Heap.size_push]
  obtain ⟨o,e,r⟩:=pl.isList
  have:=Heap.lt_size e
  rcases hb with rfl | rfl
  ·exact Nat.lt_succ_self _
  ·exact Nat.lt_succ_of_lt this
 ·intro i v hv
  have hv':its[i]?=some v:=by simpa using hv
  have hi:i<its.length:=(List.getElem?_eq_some_iff.mp hv').1
  have hb:ns[i]?=some ns[i]:=List.getElem?_eq_getElem (by omega)
  obtain ⟨u,hu,ru⟩:=rv.get (i:=i) (x:=V.int ns[i]) (by rw [List.getElem?_map,hb]; rfl)
  rw [hv'] at hu
  cases hu
  obtain ⟨t,rfl⟩:=ru
  exact ⟨t,by show Value.int ns[i] t=Value.int (ns.getD i 0) t; rw [List.getD_eq_getElem?_getD,hb]; rfl⟩
 ·intro s' t' hm
  rw [preSum_getD,List.size_toArray,hlen,List.take_length]
  have kp:∀b o,s.heap.get? b=some o->s'.heap.get? b=some o:=fun b o e=>hm.heap b o (by
   rw [List.mem_singleton]
   exact Nat.ne_of_lt (Heap.lt_size e)) (Heap.get?_push_of_some _ e)
  rw [hm.eq_with]
  exact ⟨.int ns.sum,H,I.kept kp,⟨t',rfl⟩,q⟩
end
end L2
namespace K57
open PySem L2 G DT
open IT hiding It
theorem mR {K:PySem.W.Frag}{a:Addr}{xs:List V}{H:Hp}{cap:St}{te:TE}{Q:VK}(J:Nat->List V->Hp->Prop) (hJ:∀i zs H' H'',J i zs H'->TK H' H''->J i zs H'') (hS:SqL K H a xs) (hn:xs.length<=sizeLine) (j0:J 0 [] H)
  (el:∀(i:Nat) x zs H' (P:VK),Same H H'->xs[i]?=some x->J i zs H'->(∀y H'',Same H' H''->J (i+1) (zs++[y]) H''->P y H'')->te (some x :: cap) H' P)
  (fin:∀D zs H',Same H H'->H D=none->H' D=some (.lst zs)->zs.length=xs.length->J xs.length zs H'->Q (.ref D) H'):dX (Itl K a) cap te Q H:=by
 intro D hD
 refine ⟨fun i m zs H2=>m=xs.length-i/\i<=xs.length/\zs.length=i/\H2 D=some (.lst zs)/\Same H H2/\J i zs H2,⟨xs.length,rfl,Nat.zero_le _,rfl,ac,Same.new hD _,hJ _ _ _ _ j0 (TK.new hD _)⟩,?_⟩
 rintro i m zs H2 ⟨rfl,hi,hz,hDz,hS2,hj⟩
 refine ⟨hDz,?_⟩
 by_cases h:i<xs.length
 ·refine .inr ⟨⟨xs,xs[i],hS2.seq hS,List.getElem?_eq_getElem h⟩,?_⟩
  rintro x H3 ⟨rfl,hx⟩
  refine el i x zs H3 _ hS2 (hx xs (hS2.seq hS)) hj fun y H4 hS4 hj4=>⟨hS4 _ _ hDz,by omega,xs.length-(i+1),by omega,rfl,h,(by rw [List.length_append,hz]; rfl),ac,fun b u q=>?_,hJ _ _ _ _ hj4 (TK.lst (hS4 _ _ hDz))⟩
  rw [ah (ap q hD)]
  exact hS4 _ _ (hS2 _ _ q)
 ·have e:i=xs.length:=by omega
  subst e
  exact .inl ⟨⟨xs,hS2.seq hS,Nat.le_refl _⟩,fin D zs H2 hS2 hD hDz hz hj⟩
theorem gg {cs:List Cl}{i:Nat}{d:PyData}(h:(cs.map dC)[i]?=some d):∃c,cs[i]?=some c/\d=dC c:=by
 rw [List.getElem?_map] at h
 cases e:cs[i]? with
 | none=>rw [e] at h; cases h
 | some c=>rw [e] at h; exact ⟨c,rfl,(Option.some.inj h).symm⟩
def frC (c:Cl):Int:=(if c.l-c.f<0 then -(c.l-c.f) else c.l-c.f)+1
def frS (cs:List Cl):Int:=(cs.map frC).sum
def aA:Int->List Cl->Int
 | a,[]=>a
 | _,c :: r=>aA c.d r
theorem jc:∀(a:Int) (p:List Cl) (c:Cl),revA a (p++[c])=revA a p++[⟨c.r,c.l,c.f,aA a p⟩]
 | a,[],c=>rfl
 | a,x :: r,c=>by rw [List.cons_append,revA,revA,jc x.d r c,aA]; rfl
theorem oZ:∀(a:Int) (p:List Cl) (c:Cl),aA a (p++[c])=c.d
 | a,[],c=>rfl
 | a,x :: r,c=>by rw [List.cons_append,aA,oZ]
def fdA (cs:List Cl) (k:Nat):Int:=((cs.map Cl.d)++[0]).getD k 0
def bad (cs:List Cl) (k:Nat):Prop:=∃c,cs[k]?=some c/\frC c<fdA cs k+fdA cs (k+1)
theorem bh {α:Type}{l:List α}{i:Nat}{x:α}(h:l[i]?=some x):l.take (i+1)=l.take i++[x]:=by rw [List.take_add_one,h]; rfl
section
variable {P:Program}{w:World}{K:PySem.W.Frag}{mg:Str->Option Value}{base:Heap}
def h_:Sp:=fun vs H Q _=>∃(v:V) (c:Cl),vs=[v]/\Td H v (dC c)/\Q (.int (frC c)) H
theorem xK:aq ["clip"] ["clip"] (ak eA):=⟨rfl,rfl,rfl,by decide +kernel,rfl,by decide +kernel,by decide +kernel⟩
theorem vV {f:Addr}{fd:FuncData}(F:Fun K "frames_in" "frames_in" eA f fd) (n_abs:mg "abs"=none):aG P w K mg base CX0 1 f fd ["clip"] h_:=by
 refine F.ok xK (fun vs H Q E h=>?_) (fun cdv A outer s H vs Q E hr h=>?_)
 ·obtain ⟨v,c,rfl,_⟩:=h
  rfl
 obtain ⟨v,c,rfl,ht,q⟩:=h
 refine aW (aj (aB (az aR (e_b cL n_abs (by decide +kernel) (aa (az bw (ar am (e_v 0) ae) (ar am (e_v 0) ae)) af)) ae))) ?_
 obtain ⟨a,rfl,ha⟩:=eY ht
 exact ⟨_,rfl,a,_,_,_,rfl,rfl,SqT.of ha,ad (j:=2) rfl,_,rfl,a,_,_,_,rfl,rfl,SqT.of ha,ad (j:=1) rfl,_,_,rfl,rfl,_,rfl,_,_,rfl,rfl,q⟩
def jN:Sp:=fun vs H Q _=>∃(l:Addr) (cs:List Cl),vs=[.ref l]/\CL H l cs/\cs.length<=10000/\∀l' H',Same H H'->H l'=none->CL H' l' (rev cs)->Q (.ref l') H'
theorem scBackw:aq ["clips", "told", "ahead", "reel", "first", "last", "fade"] ["clips"] (ak eB):=⟨rfl,rfl,rfl,by decide +kernel,rfl,by decide +kernel,by decide +kernel⟩
theorem sV {f:Addr}{fd:FuncData}(F:Fun K "backwards" "backwards" eB f fd) (n_reversed:mg "reversed"=none):aG P w K mg base CX0 1 f fd ["clips"] jN:=by
 refine F.ok scBackw (fun vs H Q E h=>?_) (fun cdv A outer s H vs Q E hr h=>?_)
 ·obtain ⟨l,cs,rfl,_⟩:=h
  rfl
 obtain ⟨ls,cs,rfl,⟨us,hus,tus⟩,hlen,q⟩:=h
 refine aW (ag (aw (i:=1) scBackw.nd (ba af))
  (ag (aw (i:=2) scBackw.nd ae)
  (ag (bM PassesOwn.never rfl (yR n_reversed (e_v 0)) (f8 rfl (aS (aM (i:=3) scBackw.nd) (aS (aM (i:=4) scBackw.nd) (aS (aM (i:=5) scBackw.nd) (aS (aM (i:=6) scBackw.nd) dP)))))
   (ag (aP (bg (e_v 1) (aX (aa (e_v 3) (aa (e_v 5) (aa (e_v 4) (aa (e_v 2) af)))))))
   (aj (aw (i:=2) scBackw.nd (e_v 6)))))
  (aj (aB (e_v 1)))))) ?_
 have zl:sizeLine=16777216:=sizeLine_eq
 have lu:us.length=cs.length:=by rw [tus.len,List.length_map]
 refine ⟨(by show 0<=sizeLine; decide),fun pm hpm=>?_⟩
 have s0:=Same.new hpm (.lst [])
 refine ⟨_,rfl,ls,_,rfl,SqL.of (s0 _ _ hus),uf (K:=K) (a:=ls) (xs:=us) (fun i σ H'=>∃(o3 o4 o5 o6:Option V),σ=[some (.ref ls),some (.ref pm),some (.int (aA 0 (cs.reverse.take i))),o3,o4,o5,o6]/\CL H' pm (revA 0 (cs.reverse.take i))/\Same H H') ⟨none,none,none,none,rfl,⟨[],ac,by rw [List.take_zero]; exact .nil⟩,s0⟩ (fun i σ H' _ ⟨_,_,_,_,_,_,sm⟩=>SqL.of (sm _ _ hus)) ?_ ?_⟩
 ·rintro i v σ H' hv ⟨o3,o4,o5,o6,rfl,⟨ws,hws,tws⟩,sm⟩
  obtain ⟨dd,hd,tv⟩:=(tus.rev.tk (TK.of sm)).get hv
  rw [<- List.map_reverse] at hd
  obtain ⟨c,hc,rfl⟩:=gg hd
  obtain ⟨t,rfl,ht⟩:=eY tv
  have lw:ws.length=(revA 0 (cs.reverse.take i)).length:=by rw [tws.len,List.length_map]
  have lr:(revA 0 (cs.reverse.take i)).length<=cs.length:=by
   have key:∀(a:Int) (p:List Cl),(revA a p).length=p.length:=by
    intro a p
    induction p generalizing a with
    | nil=>rfl
    | cons x r ih=>rw [revA,List.length_cons,List.length_cons,ih]
   rw [key,List.length_take,List.length_reverse]
   omega
  refine ⟨t,_,rfl,SqT.of ht,rfl,_,_,rfl,_,_,rfl,_,_,rfl,_,_,rfl,rfl,?_⟩
  refine ⟨_,rfl,.inl ⟨rfl,_,SqL.of hws⟩,_,rfl,_,rfl,_,rfl,_,rfl,(by show 4<=sizeLine; decide),fun p1 hp1=>?_⟩
  have t1:=Same.new hp1 (.tup [.str c.r,.int c.l,.int c.f,.int (aA 0 (cs.reverse.take i))])
  refine ⟨pm,_,_,rfl,rfl,t1 _ _ hws,by omega,?_⟩
  refine ⟨_,rfl,_,_,_,_,(by rw [bh hc,oZ]; rfl),⟨ws++[.ref p1],ac,?_⟩,fun b ob hb=>?_⟩
  ·rw [bh hc,jc,List.map_append]
   exact ((tws.tk (TK.of t1)).app (Tds.one (kW (c:=⟨c.r,c.l,c.f,aA 0 (cs.reverse.take i)⟩) ac))).tk (TK.lst (t1 _ _ hws))
  ·rw [ah (ap hb hpm)]
   exact t1 _ _ (sm _ _ hb)
 ·rintro σ H' ⟨o3,o4,o5,o6,rfl,cl,sm⟩
  rw [lu,show cs.length=cs.reverse.length by rw [List.length_reverse],List.take_length] at cl
  exact ⟨_,rfl,q pm H' sm hpm cl⟩
def gp:Sp:=fun vs H Q _=>∃(l:Addr) (cs:List Cl) (m:Int),vs=[.ref l,.int m]/\CL H l cs/\cs.length<=10000/\∀l' H',Same H H'->H l'=none->CL H' l' (bL m cs)->Q (.ref l') H'
theorem pH:aq ["clips", "many"] ["clips", "many"] (ak fA):=⟨rfl,rfl,rfl,by decide +kernel,rfl,by decide +kernel,by decide +kernel⟩
theorem ml {f:Addr}{fd:FuncData}(F:Fun K "faded_in" "faded_in" fA f fd):aG P w K mg base CX0 1 f fd ["clips", "many"] gp:=by
 refine F.ok pH (fun vs H Q E h=>?_) (fun cdv A outer s H vs Q E hr h=>?_)
 ·obtain ⟨l,cs,m,rfl,_⟩:=h
  rfl
 obtain ⟨ls,cs,m,rfl,⟨us,hus,tus⟩,hlen,q⟩:=h
 refine aW (aj (aB (az ip (dU ["many"] [1] [("many",s.heap.objs.size+1)] rfl ⟨rfl,rfl,rfl,rfl,trivial⟩ ⟨rfl,trivial⟩ (bB (gM dr (e_v 0) cW (bG ae))) (fun _ _ _ _=>(az j7 (gM fR (e_n 0) cW (bG ae)) (aX (aa (e_n 1) af))))) (gM dr (e_v 0) (bG ae) cW)))) ?_
 have zl:sizeLine=16777216:=sizeLine_eq
 have lu:us.length=cs.length:=by rw [tus.len,List.length_map]
 refine ⟨_,rfl,_,rfl,ls,_,rfl,SqL.of hus,fun p1 hp1=>?_⟩
 rw [qz]
 have t1:=Same.new hp1 (.lst (us.take 1))
 have hp11:=ac (H:=H) (a:=p1) (o:=.lst (us.take 1))
 generalize upd H p1 (.lst (us.take 1))=H1 at t1 hp11 ⊢
 refine ⟨p1,rfl,⟨_,SqL.of hp11⟩,mR (K:=K) (fun i zs H'=>Tds H' zs ((bL m (cs.take i)).map dC)) (fun i zs H' H'' h k=>h.tk k) (SqL.of hp11) (by rw [List.length_take]; omega) (by rw [List.take_zero]; exact .nil) ?_ ?_⟩
 ·intro i x zs H' R sH hx hz hR
  have hi:i=0:=by
   have:=(List.getElem?_eq_some_iff.mp hx).1
   rw [List.length_take] at this
   omega
  subst hi
  rw [List.getElem?_take,if_pos (by decide)] at hx
  obtain ⟨dd,hd,tv⟩:=(tus.tk (TK.of (t1.trans sH))).get hx
  obtain ⟨c,hc,rfl⟩:=gg hd
  obtain ⟨t,rfl,ht⟩:=eY tv
  rw [List.take_zero] at hz
  cases hz
  refine ⟨_,rfl,_,rfl,t,_,rfl,ht,fun pt H2 s2 hpt=>?_⟩
  have ecut:bD [V.str c.r,.int c.f,.int c.l,.int c.d] none (some 3)=[.str c.r,.int c.f,.int c.l]:=rfl
  rw [ecut] at hpt
  refine ⟨_,rfl,(by show 1<=sizeLine; decide),fun pu hpu=>⟨pt,pu,_,_,rfl,rfl,Same.new hpu _ _ _ hpt,ac,(by show 4<=sizeLine; decide),fun pv H3 s3 hpv=>?_⟩⟩
  refine hR _ _ (s2.trans ((Same.new hpu _).trans s3)) ?_
  obtain ⟨c0,r,rfl⟩:∃c0 r,cs=c0 :: r:=by
   cases cs with
   | nil=>cases hc
   | cons a b=>exact ⟨a,b,rfl⟩
  cases hc
  exact Tds.one (kW (c:=⟨c.r,c.f,c.l,m⟩) hpv)
 ·intro D zs H2 s2 hD0 hD hzl hz
  refine ⟨_,rfl,_,rfl,ls,_,rfl,SqL.of ((t1.trans s2) _ _ hus),fun p2 hp2=>?_⟩
  have ec:bD us (some 1) none=us.drop 1:=lK us 1
  rw [ec]
  have t3:=Same.new hp2 (.lst (us.drop 1))
  refine ⟨D,p2,_,_,rfl,rfl,t3 _ _ hD,ac,(by rw [hzl,List.length_take,List.length_drop]; omega),fun p3 hp3=>?_⟩
  have t4:=Same.new hp3 (.lst (zs++us.drop 1))
  have S2:=t1.trans s2
  refine q p3 _ (S2.trans (t3.trans t4)) ((S2.trans t3).free hp3) ⟨_,ac,?_⟩
  have e:(bL m cs).map dC=(bL m (cs.take (us.take 1).length)).map dC++(cs.map dC).drop 1:=by
   cases cs with
   | nil=>rw [List.take_nil]; rfl
   | cons c r =>
    have:(us.take 1).length=1:=by rw [List.length_take,lu,List.length_cons]; omega
    rw [this]
    rfl
  rw [e]
  exact (hz.tk (TK.of (t3.trans t4))).app ((tus.drop 1).tk (TK.of (S2.trans (t3.trans t4))))
def fQ (CT:Addr):Sp:=fun vs H Q E=>∃n m:Int,vs=[.int n,.int m]/\(n<=m->Q .non H)/\(m<n->E (.ref CT) none H)
theorem uX:aq ["number", "most"] ["number", "most"] (ak cR):=⟨rfl,rfl,rfl,by decide +kernel,rfl,by decide +kernel,by decide +kernel⟩
theorem sC {f CT:Addr}{fd:FuncData}(F:Fun K "refuse_many" "refuse_many" cR f fd) (m_TooMany:mg "TooMany"=some (.ref CT)) (q_TooMany:PySem.W.excIn K CT bmVE "ValueError.__new__"=true):aG P w K mg base (CX1 P w) 1 f fd ["number", "most"] (fQ CT):=by
 refine F.okX uX (fun vs H Q E h=>?_) (fun cdv A outer s H vs Q E hr h=>?_)
 ·obtain ⟨n,m,rfl,_⟩:=h
  rfl
 obtain ⟨n,m,rfl,q,e⟩:=h
 refine aW (aj (bc (aN kN (e_v 0) (e_v 1))
   (aj (jS m_TooMany q_TooMany (aa aF af)))
   aL)) ?_
 refine ⟨_,rfl,_,rfl,_,_,rfl,rfl,_,rfl,cY (fun c=>⟨by decide,e ?_⟩) (fun c=>q ?_)⟩
 ·have:=of_decide_eq_true c
  omega
 ·have:¬ n > m:=fun z=>c (decide_eq_true z)
  omega
end
section
variable {P:Program}{w:World}{K:PySem.W.Frag}{mg:Str->Option Value}{base:Heap}
theorem u9:aq ["self", "number"] ["self", "number"] (ak bz):=⟨rfl,rfl,rfl,by decide +kernel,rfl,by decide +kernel,by decide +kernel⟩
theorem sR {f C:Addr}{fd:FuncData}(F:Fun K "__init__" "TooShort.__init__" bz f fd) (XC:mV K C) (XN:XNo K C "number"):aG P w K mg base CX0 1 f fd ["self", "number"] (h7 C "number"):=by
 refine F.ok u9 (fun vs H Q E h=>?_) (fun cdv A outer s0 H vs Q E hr h=>?_)
 ·obtain ⟨a,y,rfl,_⟩:=h
  rfl
 obtain ⟨a,y,rfl,hH,q⟩:=h
 refine aW (aj (jQ (e_v 0) (e_v 1))) ?_
 exact ⟨_,rfl,_,rfl,a,C,rfl,XC,XN,.inl ⟨hH,fun dx n1 n2=>q dx n1 n2⟩⟩
theorem xp {cs:List Cl}{k:Nat}(h:k<=cs.length):atI ((cs.map fun c=>V.int c.d)++[V.int 0]) ((k:Nat):Int)=some (.int (fdA cs k)):=by
 refine ad ?_
 have e:((cs.map fun c=>V.int c.d)++[V.int 0])=((cs.map Cl.d)++[0]).map V.int:=by rw [List.map_append,List.map_map]; rfl
 rw [e,List.getElem?_map]
 unfold fdA
 have hl:k<((cs.map Cl.d)++[0]).length:=by rw [List.length_append,List.length_map,List.length_singleton]; omega
 rw [List.getD_eq_getElem?_getD,List.getElem?_eq_getElem hl]
 rfl
def g_ (CS:Addr):Sp:=fun vs H Q E=>∃(l:Addr) (cs:List Cl),vs=[.ref l]/\CL H l cs/\cs.length<=10000/\(∀k,bad cs k->(∀j<k,¬ bad cs j)->∀H' dx,Same H H'->H' dx=some (xdO dx [("number",.int (k:Int))])->E (.ref CS) (some dx) H')/\((∀k,¬ bad cs k)->∀H',Same H H'->Q .non H')
theorem scRShort:aq ["clips", "fades", "number", "clip"] ["clips"] (ak cv):=⟨rfl,rfl,rfl,by decide +kernel,rfl,by decide +kernel,by decide +kernel⟩
theorem pS {f CS fI:Addr}{fd fdI:FuncData}(F:Fun K "refuse_short" "refuse_short" cv f fd) (dFrIn:Def P w K mg base CX0 "frames_in" 1 ["clip"] h_) (n_enumerate:mg "enumerate"=none)
  (m_TooShort:mg "TooShort"=some (.ref CS)) (R_TooShort:dW K CS fI) (G_TooShort:aG P w K mg base CX0 1 fI fdI ["self", "number"] (h7 CS "number")) (b_TooShort:Binds K fdI ["self", "number"] []):aG P w K mg base (CX1 P w) 3 f fd ["clips"] (g_ CS):=by
 refine F.okX scRShort (fun vs H Q E h=>?_) (fun cdv A outer s H vs Q E hr h=>?_)
 ·obtain ⟨l,cs,rfl,_⟩:=h
  rfl
 obtain ⟨ls,cs,rfl,⟨us,hus,tus⟩,hlen,e,q⟩:=h
 refine aW (ag (aw (i:=1) scRShort.nd (az ip (dU [] [] [] rfl trivial trivial (bB (e_v 0)) (fun _ _ _ _=>(ar (dN (K:=K) rfl) (e_n 0) ae))) (ba (aa ae af))))
  (aj (bM PassesOwn.leaving rfl (tU n_enumerate (e_v 0)) (f8 rfl (aS (aM (i:=2) scRShort.nd) (aS (aM (i:=3) scRShort.nd) dP)))
   (aj (bc (aN fU (ao dFrIn hr aE (aa (e_v 3) af)) (az aR (ar aJ (e_v 1) (e_v 2)) (ar aJ (e_v 1) (az aR (e_v 2) ae))))
    (aj (dh m_TooShort R_TooShort G_TooShort hr b_TooShort (aa (e_v 2) af)))
    aL))))) ?_
 have zl:sizeLine=16777216:=sizeLine_eq
 have lu:us.length=cs.length:=by rw [tus.len,List.length_map]
 refine ⟨_,rfl,ls,rfl,⟨_,SqL.of hus⟩,cq (K:=K) (cs.map fun c=>V.int c.d) (SqL.of hus) (by omega) (by rw [List.length_map,lu]) ?_ ?_⟩
 ·intro i x y H' R sH hx hy hR
  obtain ⟨dd,hd,tv⟩:=(tus.tk (TK.of sH)).get hx
  obtain ⟨c,hc,rfl⟩:=gg hd
  obtain ⟨t,rfl,ht⟩:=eY tv
  rw [List.getElem?_map,hc] at hy
  cases hy
  exact ⟨_,rfl,t,_,_,_,rfl,rfl,SqT.of ht,ad (j:=3) rfl,hR _ (Same.refl _)⟩
 intro p1 H1 s1 hp10 hp1
 refine ⟨(by show 1<=sizeLine; decide),fun p2 hp2=>?_⟩
 have t2:=Same.new hp2 (.lst [.int 0])
 refine ⟨p1,p2,_,_,rfl,rfl,t2 _ _ hp1,ac,(by show ((cs.map fun c=>V.int c.d)).length+1<=sizeLine; rw [List.length_map]; omega),fun p3 hp3=>?_⟩
 have t3:=Same.new hp3 (.lst ((cs.map fun c=>V.int c.d)++[V.int 0]))
 have S3:=s1.trans (t2.trans t3)
 have hp33:=ac (H:=upd H1 p2 (.lst [.int 0])) (a:=p3) (o:=.lst ((cs.map fun c=>V.int c.d)++[V.int 0]))
 generalize upd (upd H1 p2 (.lst [.int 0])) p3 (.lst ((cs.map fun c=>V.int c.d)++[V.int 0]))=H3 at S3 hp33 ⊢
 refine ⟨_,rfl,ls,rfl,⟨_,SqL.of (S3 _ _ hus)⟩,ll (K:=K) (a:=ls) (xs:=us) (fun i σ H'=>∃(o2 o3:Option V),σ=[some (.ref ls),some (.ref p3),o2,o3]/\Same H3 H'/\∀j<i,¬ bad cs j) ⟨none,none,rfl,Same.refl _,fun j hj=>absurd hj (Nat.not_lt_zero _)⟩ (fun i σ H' _ ⟨_,_,_,sm,_⟩=>SqL.of ((S3.trans sm) _ _ hus)) ?_ ?_⟩
 ·rintro i x σ H' pe hx ⟨o2,o3,rfl,sm,nb⟩ hpe
  have te:=Same.new hpe (.tup [.int (i:Int),x])
  have hi:i<us.length:=(List.getElem?_eq_some_iff.mp hx).1
  have S4:=sm.trans te
  obtain ⟨dd,hd,tv⟩:=(tus.tk (TK.of (S3.trans S4))).get hx
  obtain ⟨c,hc,rfl⟩:=gg hd
  have hp34:=S4 _ _ hp33
  refine ⟨pe,_,rfl,SqT.of ac,rfl,_,_,rfl,_,_,rfl,rfl,?_⟩
  generalize upd H' pe (.tup [.int (i:Int),x])=H4 at S4 tv hp34 ⊢
  refine ⟨_,rfl,x,c,rfl,tv,_,rfl,_,rfl,p3,_,_,_,rfl,rfl,SqL.of hp34,xp (by omega),_,rfl,_,rfl,_,_,rfl,rfl,p3,_,_,_,rfl,rfl,SqL.of hp34,(by show atI _ ((i:Int)+1)=_; rw [show ((i:Int)+1)=((i+1:Nat):Int) by omega]; exact xp (by omega)),_,_,rfl,rfl,_,_,rfl,rfl,_,rfl,cY (fun z=>?_) (fun z=>?_)⟩
  ·have hb:bad cs i:=⟨c,hc,of_decide_eq_true z⟩
   refine ⟨_,rfl,(by show 1<=sizeLine; decide),fun a ha=>⟨a,_,rfl,ac,fun dx n1 n2=>⟨rfl,some dx,ac,?_⟩⟩⟩
   obtain ⟨r1,r2⟩:=nK (x:=xdO dx [("number",V.int (i:Int))]) (o':=d7 a CS (some dx)) (S3.trans S4) ha n1 n2
   exact e i hb nb _ dx r1 r2
  ·refine ⟨_,_,rfl,S4,fun j hj=>?_⟩
   by_cases hji:j<i
   ·exact nb j hji
   ·have:j=i:=by omega
    subst this
    rintro ⟨c',hc',hb⟩
    rw [hc] at hc'
    cases hc'
    exact z (decide_eq_true hb)
 ·rintro σ H' ⟨o2,o3,rfl,sm,nb⟩
  refine q (fun k hk=>?_) H' (S3.trans sm)
  obtain ⟨c,hc,_⟩:=id hk
  exact nb k (by have:=(List.getElem?_eq_some_iff.mp hc).1; omega) hk
structure uM (CT CS:Addr) (cs:List Cl) (H:Hp) (E:XK) (R:Hp->Prop):Prop where
 many:100<cs.length\/2000<frS cs->∀H',Same H H'->E (.ref CT) none H'
 short:cs.length<=100->frS cs<=2000->∀k,bad cs k->(∀j<k,¬ bad cs j)->∀H' dx,Same H H'->H' dx=some (xdO dx [("number",.int (k:Int))])->E (.ref CS) (some dx) H'
 good:cs.length<=100->frS cs<=2000->(∀k,¬ bad cs k)->∀H',Same H H'->R H'
def jB (CT CS:Addr):Sp:=fun vs H Q E=>∃(l:Addr) (cs:List Cl),vs=[.ref l]/\CL H l cs/\cs.length<=10000/\uM CT CS cs H E (Q .non)
theorem uY:aq ["clips"] ["clips"] (ak cT):=⟨rfl,rfl,rfl,by decide +kernel,rfl,by decide +kernel,by decide +kernel⟩
theorem sE {f CT CS:Addr}{fd:FuncData}(F:Fun K "refuse_film" "refuse_film" cT f fd) (dRMany:Def P w K mg base (CX1 P w) "refuse_many" 1 ["number", "most"] (fQ CT)) (dRShort:Def P w K mg base (CX1 P w) "refuse_short" 3 ["clips"] (g_ CS)) (dFrIn:Def P w K mg base CX0 "frames_in" 1 ["clip"] h_) (n_len:mg "len"=none) (n_sum:mg "sum"=none)
  {tMC tMF:Tok}(mMC:mg "MOST_CLIPS"=some (.int 100 tMC)) (mMF:mg "MOST_FRAMES"=some (.int 2000 tMF)):aG P w K mg base (CX1 P w) 4 f fd ["clips"] (jB CT CS):=by
 refine F.okX uY (fun vs H Q E h=>?_) (fun cdv A outer s H vs Q E hr h=>?_)
 ·obtain ⟨l,cs,rfl,_⟩:=h
  rfl
 obtain ⟨ls,cs,rfl,cl,hlen,fq⟩:=h
 refine aW (ag (aP (ao dRMany hr bd (aa (e_b aT n_len PySem.boot_len (aa (e_v 0) af)) (aa (cg (v:=.int 100) mMC ⟨_,rfl⟩) af)) (hj:=by omega)))
  (ag (aP (ao dRMany hr bd (aa (e_b lP n_sum (by decide +kernel) (aa (dU [] [] [] rfl trivial trivial (bB (e_v 0)) (fun _ _ _ _=>(ao dFrIn hr aE (aa (e_n 0) af) (hj:=by omega)))) af)) (aa (cg (v:=.int 2000) mMF ⟨_,rfl⟩) af)) (hj:=by omega)))
  (aj (aP (ao dRShort hr bd (aa (e_v 0) af) (hj:=by omega)))))) ?_
 obtain ⟨us,hus,tus⟩:=id cl
 have zl:sizeLine=16777216:=sizeLine_eq
 have lu:us.length=cs.length:=by rw [tus.len,List.length_map]
 refine ⟨_,rfl,ls,_,rfl,.inl (SqL.of hus),_,_,rfl,fun h1=>?_,fun h1=>fq.many (.inl (by omega)) H (Same.refl _)⟩
 have c1:cs.length<=100:=by omega
 refine ⟨_,rfl,ls,rfl,⟨_,SqL.of hus⟩,cq (K:=K) ((cs.map frC).map V.int) (SqL.of hus) (by omega) (by rw [List.length_map,List.length_map,lu]) ?_ ?_⟩
 ·intro i x y H' R sH hx hy hR
  obtain ⟨dd,hd,tv⟩:=(tus.tk (TK.of sH)).get hx
  obtain ⟨c,hc,rfl⟩:=gg hd
  rw [List.getElem?_map,List.getElem?_map,hc] at hy
  cases hy
  exact ⟨_,rfl,x,c,rfl,tv,hR _ (Same.refl _)⟩
 intro p1 H1 s1 hp10 hp1
 refine ⟨p1,cs.map frC,rfl,SqL.of hp1,rfl,_,_,rfl,fun h2=>?_,fun h2=>fq.many (.inr h2) H1 s1⟩
 have cl1:CL H1 ls cs:=⟨us,s1 _ _ hus,tus.tk (TK.of s1)⟩
 exact ⟨_,rfl,ls,cs,rfl,cl1,hlen,fun k hb nb H' dx s' hdx=>fq.short c1 h2 k hb nb H' dx (s1.trans s') hdx,fun nb H' s'=>fq.good c1 h2 nb H' (s1.trans s')⟩
end
def AZ (x:IT.It) (m:Int):Int:=match x with
 | .fade k=>k
 | _=>m
section
variable {P:Program}{w:World}{K:PySem.W.Frag}{mg:Str->Option Value}{base:Heap}
def df (CT:Addr) (d:Nat):Sp:=fun vs H Q E=>∃(a pd:Addr) (xs:List IT.It) (T:Str->Int->Int->Prop) (G:Str->List IT.It->Prop) (ns:List Str),vs=[.ref a,.ref pd]/\Td H (.ref a) (.tuple (dL xs))/\PR H pd G/\Pa T G ns/\hL T G xs/\WL xs/\dpL xs<=d /\
 (cnL xs<=100->∀l H',Same H H'->H l=none->CL H' l (flL xs)->Q (.ref l) H')/\(100<cnL xs->∀H',Same H H'->E (.ref CT) none H')
def ia (CT:Addr):Nat->Sp
 | 0=>fun _ _ _ _=>False
 | d+1=>df CT d
theorem cQ {CT:Addr}{d:Nat}{vs:List V}{H:Hp}{Q:VK}{E:XK}(h:0<d) (z:df CT (d-1) vs H Q E):ia CT d vs H Q E:=by
 cases d with
 | zero=>exact absurd h (Nat.lt_irrefl _)
 | succ d=>exact z
def kH (CT:Addr) (d:Nat):Sp:=fun vs H Q E=>∃(v:V) (pd:Addr) (x:IT.It) (T:Str->Int->Int->Prop) (G:Str->List IT.It->Prop) (ns:List Str),vs=[v,.ref pd]/\Td H v (dI x)/\PR H pd G/\Pa T G ns/\hI T G x/\WI x/\dpI x<=d /\
 (cnI x<=100->∀l H',Same H H'->H l=none->CL H' l (flI x)->Q (.ref l) H')/\(100<cnI x->∀H',Same H H'->E (.ref CT) none H')
theorem scClipsI:aq ["item", "parts", "clips"] ["item", "parts"] (ak b_):=⟨rfl,rfl,rfl,by decide +kernel,rfl,by decide +kernel,by decide +kernel⟩
theorem jf {d:Nat}{f CT:Addr}{fd:FuncData}(F:Fun K "clips_of_item" "clips_of_item" b_ f fd) (dClipsOf:Def P w K mg base (CX1 P w) "clips_of" (2*d+1) ["items", "parts"] (ia CT d)) (dRMany:Def P w K mg base (CX1 P w) "refuse_many" 1 ["number", "most"] (fQ CT)) (dBackw:Def P w K mg base CX0 "backwards" 1 ["clips"] jN) (n_len:mg "len"=none)
  {tMC:Tok}(mMC:mg "MOST_CLIPS"=some (.int 100 tMC)):aG P w K mg base (CX1 P w) (2*d+2) f fd ["item", "parts"] (kH CT d):=by
 refine F.okX scClipsI (fun vs H Q E h=>?_) (fun cdv A outer s H vs Q E hr h=>?_)
 ·obtain ⟨v,pd,x,T,G,ns,rfl,_⟩:=h
  rfl
 obtain ⟨v,pd,x,T,G,ns,rfl,tv,pr,pa,hx,wx,hd,q,e⟩:=h
 refine aW (ag (bc (aN be (ar am (e_v 0) ae) aF)
   (aj (aB (ba (aa (aX (aa (ar am (e_v 0) ae) (aa (ar am (e_v 0) ae) (aa (ar am (e_v 0) ae) (aa ae af))))) af))))
   aL)
  (ag (bc (aN be (ar am (e_v 0) ae) aF)
   (aj (aB (ao dClipsOf hr bd (aa (mK (eJ hr) (e_v 1) (ar am (e_v 0) ae)) (aa (e_v 1) af)) (hj:=by omega))))
   aL)
  (ag (aw (i:=2) scClipsI.nd (ao dClipsOf hr bd (aa (ar am (e_v 0) (eW bv ae)) (aa (e_v 1) af)) (hj:=by omega)))
  (ag (bc (aN be (ar am (e_v 0) ae) aF)
   (aj (aB (ao dBackw hr aE (aa (e_v 2) af) (hj:=by omega))))
   aL)
  (ag (aP (ao dRMany hr bd (aa (az gu (e_b aT n_len PySem.boot_len (aa (e_v 2) af)) (ar am (e_v 0) ae)) (aa (cg (v:=.int 100) mMC ⟨_,rfl⟩) af)) (hj:=by omega)))
  (aj (aB (az sx (e_v 2) (ar am (e_v 0) ae))))))))) ?_
 have zl:sizeLine=16777216:=sizeLine_eq
 cases x with
 | fade m=>cases wx
 | clip r cf cl =>
  obtain ⟨a,rfl,ha⟩:=fL tv
  refine ⟨_,rfl,a,_,_,_,rfl,rfl,SqT.of ha,ad (j:=0) rfl,rfl,_,rfl,iteY (seq _) ?_⟩
  refine ⟨_,rfl,a,_,_,_,rfl,rfl,SqT.of ha,ad (j:=1) rfl,_,rfl,a,_,_,_,rfl,rfl,SqT.of ha,ad (j:=2) rfl,_,rfl,a,_,_,_,rfl,rfl,SqT.of ha,ad (j:=3) rfl,(by show 4<=sizeLine; decide),fun pt hpt=>⟨(by show 1<=sizeLine; decide),fun lm hlm=>?_⟩⟩
  have tt:=Same.new hpt (.tup [.str r,.int cf,.int cl,.int 0])
  have tl:=Same.new hlm (.lst [.ref pt])
  refine q (by rw [cnI]; decide) lm _ (tt.trans tl) (tt.free hlm) ⟨_,ac,?_⟩
  rw [flI]
  exact .one (kW (c:=⟨r,cf,cl,0⟩) (tl _ _ ac))
 | part n ys =>
  obtain ⟨a,rfl,ha⟩:=fJ tv
  rw [hI] at hx
  rw [dpI] at hd
  obtain ⟨b,hg,tb⟩:=pr.get hx.2
  refine ⟨_,rfl,a,_,_,_,rfl,rfl,SqT.of ha,ad (j:=0) rfl,rfl,_,rfl,iteN sne ?_⟩
  refine ⟨_,rfl,a,_,_,_,rfl,rfl,SqT.of ha,ad (j:=0) rfl,rfl,_,rfl,iteY (seq _) ?_⟩
  refine ⟨_,rfl,_,rfl,a,_,_,_,rfl,rfl,SqT.of ha,ad (j:=1) rfl,pd,_,rfl,hg,_,rfl,cQ (by omega) ⟨b,pd,ys,T,G,ns,rfl,tb,pr,pa,pa.ok n ys hx.2,pa.wl n ys hx.2,by omega,fun hc l H2 s2 hl cl=>?_,fun hc H2 s2=>?_⟩⟩
  ·rw [<- f_ n ys] at cl
   exact q (by rw [cnI]; exact hc) l H2 s2 hl cl
  ·exact e (by rw [cnI]; exact hc) H2 s2
 | times k ys =>
  obtain ⟨a,b,rfl,ha,tb⟩:=d8 tv
  rw [hI] at hx
  rw [dpI] at hd
  obtain ⟨k1,k2,wy⟩:1<=k/\k<=20/\WL ys:=by cases wx with | times h1 h2 h3=>exact ⟨h1,h2,h3⟩
  have cp:=eT wy
  have ck:1*cnL ys<=k*cnL ys:=Int.mul_le_mul_of_nonneg_right k1 (by omega)
  have lcn:=cO wy
  refine ⟨_,rfl,a,_,_,_,rfl,rfl,SqT.of ha,ad (j:=0) rfl,rfl,_,rfl,iteN sne ?_⟩
  refine ⟨_,rfl,a,_,_,_,rfl,rfl,SqT.of ha,ad (j:=0) rfl,rfl,_,rfl,iteN sne ?_⟩
  refine ⟨_,rfl,_,rfl,a,_,_,_,rfl,rfl,SqT.of ha,gz,_,rfl,cQ (by omega) ⟨b,pd,ys,T,G,ns,rfl,tb,pr,pa,hx,wy,by omega,fun hc l H2 s2 hl cl=>?_,fun hc H2 s2=>e (by rw [cnI]; omega) H2 s2⟩⟩
  obtain ⟨us,hus,tus⟩:=id cl
  have lu:us.length=(flL ys).length:=by rw [tus.len,List.length_map]
  have ha2:=s2 _ _ ha
  refine ⟨_,rfl,a,_,_,_,rfl,rfl,SqT.of ha2,ad (j:=0) rfl,rfl,_,rfl,iteN sne ?_⟩
  have emul:((us.length:Nat):Int)*k=k*cnL ys:=by rw [lu,lcn,Int.mul_comm]
  refine ⟨_,rfl,l,_,rfl,.inl (SqL.of hus),_,rfl,a,_,_,_,rfl,rfl,SqT.of ha2,ad (j:=1) rfl,_,_,rfl,rfl,.inr ⟨by omega,by omega⟩,_,_,rfl,fun h1=>?_,fun h1=>e (by rw [cnI]; omega) H2 s2⟩
  have hc2:k*cnL ys<=100:=by omega
  refine ⟨_,rfl,_,rfl,a,_,_,_,rfl,rfl,SqT.of ha2,ad (j:=1) rfl,l,k,us,rfl,rfl,hus,by omega,by omega,?_,fun p hp=>?_⟩
  ·have:((us.length*k.toNat:Nat):Int)=((us.length:Nat):Int)*k:=by rw [Int.natCast_mul,Int.toNat_of_nonneg (by omega)]
   omega
  ·have tp:=Same.new hp (.lst (List.replicate k.toNat us).flatten)
   refine q (by rw [cnI]; exact hc2) p _ (s2.trans tp) (s2.free hp) ⟨_,ac,?_⟩
   have e3:(flI (.times k ys)).map dC=(List.replicate k.toNat ((flL ys).map dC)).flatten:=by rw [eR,rep,List.map_flatten,List.map_replicate]
   rw [e3]
   exact (tus.rep k.toNat).tk (TK.of tp)
 | back ys =>
  obtain ⟨a,b,rfl,ha,tb⟩:=fM tv
  rw [hI] at hx
  rw [dpI] at hd
  have wy:WL ys:=by cases wx with | back h3=>exact h3
  have lcn:=cO wy
  refine ⟨_,rfl,a,_,_,_,rfl,rfl,SqT.of ha,ad (j:=0) rfl,rfl,_,rfl,iteN sne ?_⟩
  refine ⟨_,rfl,a,_,_,_,rfl,rfl,SqT.of ha,ad (j:=0) rfl,rfl,_,rfl,iteN sne ?_⟩
  refine ⟨_,rfl,_,rfl,a,_,_,_,rfl,rfl,SqT.of ha,gA,_,rfl,cQ (by omega) ⟨b,pd,ys,T,G,ns,rfl,tb,pr,pa,hx,wy,by omega,fun hc l H2 s2 hl cl=>?_,fun hc H2 s2=>e (by rw [cnI]; exact hc) H2 s2⟩⟩
  refine ⟨_,rfl,a,_,_,_,rfl,rfl,SqT.of (s2 _ _ ha),ad (j:=0) rfl,rfl,_,rfl,iteY (seq _) ?_⟩
  refine ⟨_,rfl,l,flL ys,rfl,cl,by omega,fun l3 H3 s3 hl3 cl3=>?_⟩
  rw [<- gc ys] at cl3
  exact q (by rw [cnI]; exact hc) l3 H3 (s2.trans s3) (s2.free hl3) cl3
theorem scClipsOf:aq ["items", "parts", "clips", "fade", "item"] ["items", "parts"] (ak fB):=⟨rfl,rfl,rfl,by decide +kernel,rfl,by decide +kernel,by decide +kernel⟩
theorem ir {d:Nat}{f CT:Addr}{fd:FuncData}(F:Fun K "clips_of" "clips_of" fB f fd) (dClipsI:Def P w K mg base (CX1 P w) "clips_of_item" (2*d+2) ["item", "parts"] (kH CT d)) (dRMany:Def P w K mg base (CX1 P w) "refuse_many" 1 ["number", "most"] (fQ CT)) (dFadedIn:Def P w K mg base CX0 "faded_in" 1 ["clips", "many"] gp) (n_len:mg "len"=none)
  {tMC:Tok}(mMC:mg "MOST_CLIPS"=some (.int 100 tMC)):aG P w K mg base (CX1 P w) (2*d+3) f fd ["items", "parts"] (df CT d):=by
 refine F.okX scClipsOf (fun vs H Q E h=>?_) (fun cdv A outer s H vs Q E hr h=>?_)
 ·obtain ⟨a,pd,xs,T,G,ns,rfl,_⟩:=h
  rfl
 obtain ⟨a,pd,xs,T,G,ns,rfl,ht,pr,pa,hl,hwl,hdp,q,e⟩:=h
 refine aW (ag (aw (i:=2) scClipsOf.nd (ba af))
  (ag (aw (i:=3) scClipsOf.nd ae)
  (ag (bM PassesOwn.leaving rfl (lj (e_v 0)) (aM (i:=4) scClipsOf.nd)
   (aj (bc (aN be (ar am (e_v 4) ae) aF)
    (aj (aw (i:=3) scClipsOf.nd (ar am (e_v 4) ae)))
    (ag (aP (ur (e_v 2) (ao dFadedIn hr aE (aa (ao dClipsI hr bd (aa (e_v 4) (aa (e_v 1) af)) (hj:=by omega)) (aa (e_v 3) af)) (hj:=by omega))))
    (ag (aP (ao dRMany hr bd (aa (e_b aT n_len PySem.boot_len (aa (e_v 2) af)) (aa (cg (v:=.int 100) mMC ⟨_,rfl⟩) af)) (hj:=by omega)))
    (aj (aw (i:=3) scClipsOf.nd ae)))))))
  (aj (aB (e_v 2)))))) ?_
 have zl:sizeLine=16777216:=sizeLine_eq
 obtain ⟨a',vs,z,ha,tds⟩:=ht.tinv
 cases z
 have lv:vs.length=xs.length:=by rw [tds.len,bo,List.length_map]
 have hall:=hwl.mem
 refine ⟨(by show 0<=sizeLine; decide),fun pf hpf=>?_⟩
 have s0:=Same.new hpf (.lst [])
 refine ⟨_,rfl,a,rfl,⟨_,SqT.of (s0 _ _ ha)⟩,gX (K:=K) (a:=a) (xs:=vs) (fun i σ H'=>∃(F:List Cl) (m:Int) (o4:Option V),σ=[some (.ref a),some (.ref pd),some (.ref pf),some (.int m),o4]/\IT.run (xs.take i) ([],0)=(F,m)/\CL H' pf F/\Same H H'/\cnL (xs.take i)<=100)
  ⟨[],0,none,rfl,(by rw [List.take_zero,IT.run]),⟨[],ac,.nil⟩,s0,(by rw [List.take_zero,cnL]; decide)⟩ (fun i σ H' _ ⟨_,_,_,_,_,_,sm,_⟩=>SqT.of (sm _ _ ha)) ?_ ?_⟩
 ·rintro i v σ H' hv ⟨F,m,o4,rfl,hrun,hF,sm,hcn⟩
  obtain ⟨dd,hd,tv⟩:=tds.get hv
  obtain ⟨x,hx,rfl⟩:=kn hd
  have hxm:x∈xs:=List.mem_of_getElem? hx
  have hxw:=hall x hxm
  have tv:=tv.tk (TK.of sm)
  have hxh:=mG hl hxm
  have hxc:=uE hall hxm
  have hxd:=dpL_le.mp hdp x hxm
  have lenF:(F.length:Int)=cnL (xs.take i):=by
   have:=nB (xs.take i) ([],0) fun y hy=>hall y (List.mem_of_mem_take hy)
   rw [hrun] at this
   simpa using this
  have hFi:=gf xs (i+1) hall
  have hsum:cnL (xs.take (i+1))=cnL (xs.take i)+cnI x:=by rw [bh hx,oS,cnL,cnL,Int.add_zero]
  have hrun1:IT.run (xs.take (i+1)) ([],0)=step x (flI x) (F,m):=by rw [bh hx,IT.run_app,hrun,IT.run,IT.run]
  obtain ⟨us,hus,tus⟩:=id hF
  have lu:us.length=F.length:=by rw [tus.len,List.length_map]
  rcases hxw with wx | ⟨k,rfl⟩
  ·have hflen:((flI x).length:Int)=cnI x:=iT wx
   have nf:=wx.nf
   obtain ⟨av,ws,rfl,hav⟩:=m_ tv
   have nk:decide (V.str (kd x)=V.str "fade")=false:=by rw [gW]; exact nf
   refine ⟨_,rfl,av,_,_,_,rfl,rfl,SqT.of hav,ad (j:=0) rfl,rfl,_,rfl,iteN nk ?_⟩
   refine ⟨_,rfl,.inl ⟨rfl,_,SqL.of hus⟩,_,rfl,_,rfl,_,pd,x,T,G,ns,rfl,tv,pr.same sm,pa,hxh,wx,hxd,fun hc l2 H2 s2 hl2 cl2=>?_,fun hc H2 s2=>e (by omega) H2 (sm.trans s2)⟩
   refine ⟨_,rfl,l2,flI x,m,rfl,cl2,by omega,fun l3 H3 s3 hl3 cl3=>?_⟩
   obtain ⟨ts,hts,tts⟩:=cl3
   have S3:=s2.trans s3
   have lt:ts.length=(flI x).length:=by rw [tts.len,List.length_map,ie]
   have hus3:=S3 _ _ hus
   refine ⟨pf,l3,_,_,rfl,rfl,hus3,hts,by omega,?_⟩
   have hcl:CL (upd H3 pf (.lst (us++ts))) pf (F++bL m (flI x)):=⟨us++ts,ac,by
    rw [List.map_append]
    exact ((tus.tk (TK.of S3)).app tts).tk (TK.lst hus3)⟩
   have sm3:Same H (upd H3 pf (.lst (us++ts))):=fun b ob hb=>by
    rw [ah (ap hb hpf)]
    exact S3 _ _ (sm _ _ hb)
   have hpf3:=ac (H:=H3) (a:=pf) (o:=.lst (us++ts))
   generalize upd H3 pf (.lst (us++ts))=H4 at hcl sm3 hpf3 ⊢
   have ln:(((us++ts).length:Nat):Int)=cnL (xs.take (i+1)):=by rw [List.length_append]; omega
   refine ⟨_,rfl,pf,_,rfl,.inl (SqL.of hpf3),_,_,rfl,fun h1=>?_,fun h1=>e (by omega) H4 sm3⟩
   refine ⟨F++bL m (flI x),0,_,rfl,?_,hcl,sm3,by omega⟩
   rw [hrun1,bx nf wx.h0.1]
  ·obtain ⟨av,rfl,hav⟩:=fK tv
   refine ⟨_,rfl,av,_,_,_,rfl,rfl,SqT.of hav,ad (j:=0) rfl,rfl,_,rfl,iteY (seq _) ?_⟩
   refine ⟨_,rfl,av,_,_,_,rfl,rfl,SqT.of hav,ad (j:=1) rfl,F,k,_,rfl,?_,hF,sm,?_⟩
   ·rw [hrun1]; rfl
   ·rw [hsum,cnI]; omega
 ·rintro σ H' ⟨F,m,o4,rfl,hrun,hF,sm,hcn⟩
  rw [lv,List.take_length] at hrun hcn
  have eF:flL xs=F:=by rw [flL,hrun]
  rw [<- eF] at hF
  exact ⟨_,rfl,q hcn pf H' sm hpf hF⟩
def hU (CT CS:Addr) (d:Nat):Sp:=fun vs H Q E=>∃(p pd lr:Addr) (xs:List IT.It) (G:Str->List IT.It->Prop) (ns:List Str) (prs:List (Addr×Reel)),vs=[.ref p,.ref pd,.ref lr]/\Td H (.ref p) (.tuple (dL xs))/\WL xs/\hL (Ck prs) G xs/\PR H pd G/\Pa (Ck prs) G ns/\RL H lr prs/\Uq prs/\dpL xs<=d /\
 uM CT CS (flL xs) H E (fun _=>True)/\((flL xs).length<=100->frS (flL xs)<=2000->(∀k,¬ bad (flL xs) k)->∀l H',Same H H'->H l=none->CL H' l (flL xs)->Q (.ref l) H')
theorem scPlayed:aq ["items", "parts", "reels", "clips"] ["items", "parts", "reels"] (ak ii):=⟨rfl,rfl,rfl,by decide +kernel,rfl,by decide +kernel,by decide +kernel⟩
theorem pT {d:Nat}{f CT CS:Addr}{fd:FuncData}(F:Fun K "played" "played" ii f fd) (dSound:Def P w K mg base (CX1 P w) "sound" (2*d+8) ["items", "parts", "reels"] (jA d)) (dClipsOf:Def P w K mg base (CX1 P w) "clips_of" (2*d+3) ["items", "parts"] (df CT d)) (dRFilm:Def P w K mg base (CX1 P w) "refuse_film" 4 ["clips"] (jB CT CS)):aG P w K mg base (CX1 P w) (2*d+9) f fd ["items", "parts", "reels"] (hU CT CS d):=by
 refine F.okX scPlayed (fun vs H Q E h=>?_) (fun cdv A outer s H vs Q E hr h=>?_)
 ·obtain ⟨p,pd,lr,xs,G,ns,prs,rfl,_⟩:=h
  rfl
 obtain ⟨p,pd,lr,xs,G,ns,prs,rfl,td,wl,hl,pr,pa,rl,uq,hd,fq,q⟩:=h
 refine aW (ag (aP (ao dSound hr bd (aa (e_v 0) (aa (e_v 1) (aa (e_v 2) af))) (hj:=by omega)))
  (ag (aw (i:=3) scPlayed.nd (ao dClipsOf hr bd (aa (e_v 0) (aa (e_v 1) af)) (hj:=by omega)))
  (ag (aP (ao dRFilm hr bd (aa (e_v 3) af) (hj:=by omega)))
  (aj (aB (e_v 3)))))) ?_
 have lcn:=cO wl
 refine ⟨_,rfl,_,rfl,_,rfl,p,pd,lr,xs,G,ns,prs,rfl,td,wl,hl,pr,pa,rl,uq,hd,fun H1 s1=>?_⟩
 refine ⟨_,rfl,_,rfl,p,pd,xs,_,G,ns,rfl,td.tk (TK.of s1),pr.same s1,pa,hl,wl,hd,fun hc l H2 s2 hl2 cl=>?_,fun hc H2 s2=>fq.many (.inl (by omega)) H2 (s1.trans s2)⟩
 have S2:=s1.trans s2
 refine ⟨_,rfl,l,flL xs,rfl,cl,by omega,⟨fun h H' s'=>fq.many h H' (S2.trans s'),fun h1 h2 k hb nb H' dx s' hdx=>fq.short h1 h2 k hb nb H' dx (S2.trans s') hdx,fun h1 h2 nb H' s'=>?_⟩⟩
 obtain ⟨us,hus,tus⟩:=cl
 exact ⟨_,rfl,q h1 h2 nb l H' (S2.trans s') (s1.free hl2) ⟨us,s' _ _ hus,tus.tk (TK.of s')⟩⟩
end
end K57
namespace KS
open PySem
structure Clip where
 reel:Str
 a:Int
 b:Int
 f:Int
def Clip.way (c:Clip):Int:=if c.b<c.a then -1 else 1
def Clip.cnt (c:Clip):Nat:=(c.b-c.a).natAbs+1
def Clip.nums (c:Clip):List Int:=(List.range c.cnt).map fun (m:Nat)=>c.a+(m:Int)*c.way
theorem Clip.nums_len (c:Clip):c.nums.length=c.cnt:=by
 unfold Clip.nums
 rw [List.length_map,List.length_range]
structure Mo where
 reel:Str
 n:Int
 f:Int
theorem Clip.nums_eq (c:Clip):c.nums=c.a :: ((List.range (c.cnt-1)).map fun (m:Nat)=>c.a+((m+1:Nat):Int)*c.way):=by
 unfold Clip.nums
 have e:c.cnt=c.cnt-1+1:=by unfold Clip.cnt; omega
 rw [e,List.range_succ_eq_map,List.map_cons,List.map_map]
 simp
def Clip.ms (c:Clip):List Mo:=match c.nums with
 | []=>[]
 | x :: r=>⟨c.reel,x,c.f⟩ :: r.map fun n=>⟨c.reel,n,0⟩
def moments (cs:List Clip):List Mo:=cs.flatMap Clip.ms
def iH (s:Clip) (n:Int):Prop:=if s.a=s.b then (n-s.b).natAbs=1 else n=s.b+s.way
instance (s:Clip) (n:Int):Decidable (iH s n):=by unfold iH; exact inferInstance
def can (s:Clip) (m:Mo):Prop:=s.reel=m.reel/\iH s m.n
instance (s:Clip) (m:Mo):Decidable (can s m):=by unfold can; exact inferInstance
def aU:List Clip->Mo->List Clip
 | [],m=>[⟨m.reel,m.n,m.n,m.f⟩]
 | s :: r,m=>if m.f<=0/\can s m then ⟨s.reel,s.a,m.n,s.f⟩ :: r else ⟨m.reel,m.n,m.n,m.f⟩ :: s :: r
theorem aZ (s:Clip) (r:List Clip) (m:Mo):aU (s :: r) m=if m.f<=0/\can s m then ⟨s.reel,s.a,m.n,s.f⟩ :: r else ⟨m.reel,m.n,m.n,m.f⟩ :: s :: r:=rfl
def stripsR (ms:List Mo):List Clip:=ms.foldl aU []
def strips (cs:List Clip):List Clip:=(stripsR (moments cs)).reverse
theorem wG {s:Clip}(h:s.a=s.b):s.cnt=1:=by unfold Clip.cnt; omega
theorem way_abs (s:Clip):s.way=1\/s.way=-1:=by unfold Clip.way; split <;> simp
theorem sZ {s:Clip}{n:Int}(h:iH s n):(⟨s.reel,s.a,n,s.f⟩:Clip).nums=s.nums++[n]:=by
 unfold iH at h
 have key:(⟨s.reel,s.a,n,s.f⟩:Clip).cnt=s.cnt+1/\((⟨s.reel,s.a,n,s.f⟩:Clip).way=s.way\/s.cnt=1)/\s.a+(s.cnt:Int)*(⟨s.reel,s.a,n,s.f⟩:Clip).way=n:=by
  unfold Clip.cnt Clip.way at *
  simp only at *
  split at h
  ·refine ⟨by omega,by omega,?_⟩
   split <;> omega
  ·split at h <;> (refine ⟨by omega,.inl (by split <;> omega),?_⟩; split <;> omega)
 obtain ⟨k1,k2,k3⟩:=key
 unfold Clip.nums
 rw [k1,List.range_succ,List.map_append,List.map_cons,List.map_nil]
 have k3':(⟨s.reel,s.a,n,s.f⟩:Clip).a+(s.cnt:Int)*(⟨s.reel,s.a,n,s.f⟩:Clip).way=n:=k3
 rw [k3']
 congr 1
 rcases k2 with e | e
 ·rw [e]
 ·rw [e]
  simp
theorem yI {s:Clip}{m:Mo}(h:can s m) (hf:m.f=0):(⟨s.reel,s.a,m.n,s.f⟩:Clip).ms=s.ms++[m]:=by
 have e:=sZ h.2
 unfold Clip.ms
 rw [e]
 cases hn:s.nums with
 | nil=>rw [Clip.nums_eq] at hn; cases hn
 | cons x r =>
  show _ :: List.map _ (r++[m.n])=(_ :: List.map _ r)++[m]
  rw [List.map_append,List.cons_append]
  have:m=⟨s.reel,m.n,0⟩:=by
   obtain ⟨mr,mn,mf⟩:=m
   have hf:mf=0:=hf
   have hr:s.reel=mr:=h.1
   rw [hf,hr]
  exact congrArg (fun y=>(⟨s.reel,x,s.f⟩:Mo) :: (List.map (fun n=>(⟨s.reel,n,0⟩:Mo)) r++[y])) this.symm
theorem tu (m:Mo):(⟨m.reel,m.n,m.n,m.f⟩:Clip).ms=[m]:=by
 have e:(⟨m.reel,m.n,m.n,m.f⟩:Clip).nums=[m.n]:=by
  rw [Clip.nums_eq,wG rfl]
  rfl
 unfold Clip.ms
 rw [e]
 rfl
theorem cN (a b:List Clip):moments (a++b)=moments a++moments b:=by unfold moments; rw [List.flatMap_append]
theorem pF {r:List Clip}{m:Mo}(hf:0<=m.f):moments (aU r m).reverse=moments r.reverse++[m]:=by
 cases r with
 | nil =>
  show moments [⟨m.reel,m.n,m.n,m.f⟩]=[m]
  unfold moments
  rw [List.flatMap_cons,List.flatMap_nil,tu,List.append_nil]
 | cons s r =>
  rw [aZ]
  split
  ·rename_i h
   rw [List.reverse_cons,List.reverse_cons,cN,cN,List.append_assoc]
   congr 1
   unfold moments
   rw [List.flatMap_cons,List.flatMap_cons,List.flatMap_nil,List.append_nil,List.append_nil]
   exact yI h.2 (by omega)
  ·rw [List.reverse_cons,cN]
   congr 1
   unfold moments
   rw [List.flatMap_cons,List.flatMap_nil,tu,List.append_nil]
theorem ja:∀(ms:List Mo) (r:List Clip),(∀m∈ms,0<=m.f)->moments (ms.foldl aU r).reverse=moments r.reverse++ms
 | [],r,_=>by rw [List.append_nil]; rfl
 | m :: ms,r,h=>by
  rw [List.foldl_cons,ja ms _ fun x hx=>h x (List.mem_cons_of_mem _ hx),pF (h m (List.mem_cons_self ..)),List.append_assoc]
  rfl
theorem AV {c:Clip}(h:0<=c.f):∀m∈c.ms,0<=m.f:=by
 intro m hm
 unfold Clip.ms at hm
 cases hn:c.nums with
 | nil=>rw [hn] at hm; cases hm
 | cons x r =>
  rw [hn] at hm
  rcases List.mem_cons.mp hm with rfl | hm
  ·exact h
  ·obtain ⟨y,_,rfl⟩:=List.mem_map.mp hm
   exact Int.le_refl 0
theorem p0 {cs:List Clip}(h:∀c∈cs,0<=c.f):∀m∈moments cs,0<=m.f:=by
 intro m hm
 unfold moments at hm
 obtain ⟨c,hc,hm⟩:=List.mem_flatMap.mp hm
 exact AV (h c hc) m hm
theorem kF {cs:List Clip}(h:∀c∈cs,0<=c.f):moments (strips cs)=moments cs:=by
 unfold strips stripsR
 rw [ja _ _ (p0 h)]
 rfl
def Ao:List Clip->Prop
 | []=>True
 | [_]=>True
 | s :: t :: r=>(s.f<=0->t.reel=s.reel->¬ iH t s.a)/\Ao (t :: r)
structure MOk (m:Mo):Prop where
 rl:m.reel.length<=100
 rf:PyData.strOk m.reel=true
 n0:0<=m.n
 n1:m.n<=1000000
 f0:0<=m.f
 f1:m.f<=1000000
structure SOk (c:Clip):Prop where
 rl:c.reel.length<=100
 rf:PyData.strOk c.reel=true
 a0:0<=c.a
 a1:c.a<=1000000
 b0:0<=c.b
 b1:c.b<=1000000
 f0:0<=c.f
 f1:c.f<=1000000
theorem tG (r:List Clip) (m:Mo):(aU r m).length<=r.length+1:=by
 cases r with
 | nil=>exact Nat.le_refl _
 | cons t r =>
  rw [aZ]
  split
  ·exact Nat.le_succ _
  ·exact Nat.le_refl _
theorem iB:∀(ms:List Mo) (r:List Clip),(ms.foldl aU r).length<=r.length+ms.length
 | [],r=>Nat.le_refl _
 | m :: ms,r=>by
  have h1:=iB ms (aU r m)
  have h2:=tG r m
  rw [List.foldl_cons,List.length_cons]
  omega
theorem tw (c:Clip):c.ms.length=c.cnt:=by
 have h:=c.nums_len
 unfold Clip.ms
 cases hn:c.nums with
 | nil=>rw [Clip.nums_eq] at hn; cases hn
 | cons x r =>
  rw [hn] at h
  rw [<- h]
  simp
theorem gE {m:Nat}:∀(cs:List Clip),(∀c∈cs,c.cnt<=m)->(moments cs).length<=m*cs.length
 | [],_=>Nat.zero_le _
 | c :: cs,h=>by
  have h1:=gE cs fun x hx=>h x (List.mem_cons_of_mem _ hx)
  have h2:=h c (List.mem_cons_self ..)
  unfold moments at h1 ⊢
  rw [List.flatMap_cons,List.length_append,tw,List.length_cons,Nat.mul_succ]
  omega
theorem bH (c:Clip) (cs:List Clip):moments (c :: cs)=c.ms++moments cs:=by unfold moments; rw [List.flatMap_cons]
theorem kT (c:Clip):moments [c]=c.ms:=by rw [bH]; exact List.append_nil _
theorem v3 {c:Clip}(h:c.f=0):c.ms=c.nums.map fun n=>⟨c.reel,n,0⟩:=by
 unfold Clip.ms
 cases hn:c.nums with
 | nil=>rfl
 | cons x r=>rw [h]; rfl
theorem fY (c:Clip):c.ms=⟨c.reel,c.a,c.f⟩ :: (c.nums.drop 1).map fun n=>⟨c.reel,n,0⟩:=by
 unfold Clip.ms
 rw [Clip.nums_eq]
 rfl
theorem pD {r:List Clip}{m:Mo}(h:0<m.f):aU r m=⟨m.reel,m.n,m.n,m.f⟩ :: r:=by
 cases r with
 | nil=>rfl
 | cons s r=>rw [aZ,if_neg (by omega)]
theorem pX (c:Clip):c.nums[0]?=some c.a:=by rw [Clip.nums_eq]; rfl
theorem sY {c:Clip}{k:Nat}(h:k<c.cnt):c.nums[k]?=some (c.a+(k:Int)*c.way):=by
 unfold Clip.nums
 rw [List.getElem?_map,List.getElem?_range h]
 rfl
theorem yH {c:Clip}{k:Nat}{n:Int}(h:c.nums[k]?=some n):c.ms[k]?=some ⟨c.reel,n,c.f*(if k=0 then 1 else 0)⟩:=by
 rw [fY]
 cases k with
 | zero =>
  rw [pX] at h
  cases h
  simp
 | succ k =>
  rw [List.getElem?_cons_succ,List.getElem?_map,List.getElem?_drop,Nat.add_comm,h]
  simp
end KS
namespace KS
open PySem L2 G
def Clip.vs (c:Clip):List V:=[.str c.reel,.int c.a,.int c.b,.int c.f]
theorem Clip.numsV (c:Clip):c.nums.map V.int=iZ c.a c.cnt c.way:=by
 unfold Clip.nums iZ
 rw [List.map_map]
 rfl
def Clip.d (c:Clip):PyData:=.tuple [.str c.reel,.int c.a,.int c.b,.int c.f]
structure Sm (c:Clip):Prop where
 a0:0<=c.a
 a1:c.a<=1000000
 b0:0<=c.b
 b1:c.b<=1000000
structure COk (m n:Nat) (c:Clip):Prop where
 rl:c.reel.length<=100
 rf:bK c.reel
 a0:0<=c.a
 a1:c.a<=n
 b0:0<=c.b
 b1:c.b<=n
 f0:0<=c.f
 f1:c.f<=c.cnt
 d:c.cnt<=m
theorem COk.sm {m n:Nat}{c:Clip}(h:COk m n c) (hn:n<=1000000):Sm c:=⟨h.a0,by have:=h.a1; omega,h.b0,by have:=h.b1; omega⟩
theorem Sm.cnt {c:Clip}(h:Sm c):c.cnt<=1000001:=by
 obtain ⟨h1,h2,h3,h4⟩:=h
 unfold Clip.cnt
 omega
theorem Clip.way_cnt (c:Clip):(c.way=1/\c.cnt=(c.b+c.way-c.a).toNat)\/(c.way=-1/\c.cnt=(c.a-(c.b+c.way)).toNat):=by
 unfold Clip.way Clip.cnt
 by_cases h:c.b<c.a
 ·right
  rw [if_pos h]
  exact ⟨rfl,by omega⟩
 ·left
  rw [if_neg h]
  exact ⟨rfl,by omega⟩
def CL (m n:Nat) (H:Hp) (p:Addr) (ps:List (Addr×Clip)):Prop:=H p=some (.lst (ps.map fun x=>V.ref x.1))/\∀x∈ps,H x.1=some (.tup x.2.vs)/\COk m n x.2
theorem uz {α:Type}(f:α->V) (ns:List α) (k:Nat):bD (ns.map f) (some (k:Int)) none=(ns.drop k).map f:=by
 unfold bD
 rw [HT.sIx_nat,HT.sIx_none,List.length_map,<- List.map_drop,<- List.map_take]
 congr 1
 by_cases h:k<=ns.length
 ·rw [Nat.min_eq_left h,List.take_of_length_le (by rw [List.length_drop]; omega)]
 ·rw [Nat.min_eq_right (by omega),Nat.sub_self,List.take_zero,List.drop_eq_nil_of_le (by omega)]
def Bt (p:Addr) (H H':Hp):Prop:=∀b o,b≠p->H b=some o->H' b=some o
theorem Bt.refl (p:Addr) (H:Hp):Bt p H H:=fun _ _ _ h=>h
theorem Bt.trans {p:Addr}{H H' H'':Hp}(a:Bt p H H') (b:Bt p H' H''):Bt p H H'':=fun c o hc h=>b c o hc (a c o hc h)
theorem Bt.of {p:Addr}{H H':Hp}(s:Same H H'):Bt p H H':=fun b o _ h=>s b o h
theorem Bt.upd {p:Addr}{H:Hp}{o:HO}:Bt p H (upd H p o):=fun b u hb h=>by rw [ah hb]; exact h
theorem Bt.same {p:Addr}{H H1 H':Hp}(s:Same H H1) (b:Bt p H1 H') (hp:H p=none):Same H H':=fun c o h=>b c o (ap h hp) (s c o h)
def SL (H:Hp) (p:Addr) (rs:List (Addr×Clip)):Prop:=H p=some (.lst (rs.reverse.map fun x=>V.ref x.1))/\∀x∈rs,H x.1=some (.tup x.2.vs)
theorem SL.nil {H:Hp}{p:Addr}(h:H p=some (.lst [])):SL H p []:=⟨h,fun x hx=>nomatch hx⟩
theorem SL.same {H H':Hp}{p:Addr}{rs:List (Addr×Clip)}(h:SL H p rs) (s:Same H H'):SL H' p rs:=⟨s _ _ h.1,fun x hx=>s _ _ (h.2 x hx)⟩
theorem SL.ne {H:Hp}{p a:Addr}{rs:List (Addr×Clip)}{xs:List V}(h:SL H p rs) (e:H a=some (.tup xs)):a≠p:=bn e h.1 (by intro z; cases z)
theorem SL.push {H:Hp}{p pt:Addr}{rs:List (Addr×Clip)}{c:Clip}(h:SL H p rs) (ht:H pt=some (.tup c.vs)):SL (upd H p (.lst ((rs.reverse.map fun x=>V.ref x.1)++[.ref pt]))) p ((pt,c) :: rs):=by
 refine ⟨by rw [ac,List.reverse_cons,List.map_append]; rfl,fun x hx=>?_⟩
 rcases List.mem_cons.mp hx with rfl | z
 ·show upd H p _ pt=_
  rw [ah (h.ne ht)]
  exact ht
 ·rw [ah (h.ne (h.2 x z))]
  exact h.2 x z
theorem SL.put {H:Hp}{p pt:Addr}{x0:Addr×Clip}{rs:List (Addr×Clip)}{c:Clip}(h:SL H p (x0 :: rs)) (ht:H pt=some (.tup c.vs)):SL (upd H p (.lst ((rs.reverse.map fun x=>V.ref x.1)++[.ref pt]))) p ((pt,c) :: rs):=by
 refine ⟨by rw [ac,List.reverse_cons,List.map_append]; rfl,fun x hx=>?_⟩
 rcases List.mem_cons.mp hx with rfl | z
 ·show upd H p _ pt=_
  rw [ah (h.ne ht)]
  exact ht
 ·have h2:=h.2 x (List.mem_cons_of_mem _ z)
  rw [ah (h.ne h2)]
  exact h2
theorem SL.last {H:Hp}{p:Addr}{x:Addr×Clip}{rs:List (Addr×Clip)}:atI ((x :: rs).reverse.map fun x=>V.ref x.1) (-1)=some (V.ref x.1):=by
 rw [List.reverse_cons,List.map_append]
 exact iV _ _
theorem iteN {c:Bool}{A B:Prop}(h:c=false) (b:B):if c=true then A else B:=by rw [h]; exact bQ b
theorem iteY {c:Bool}{A B:Prop}(h:c=true) (a:A):if c=true then A else B:=by rw [h]; exact cX a
end KS
namespace K57
open PySem L2 G KS
section
variable {P:Program}{w:World}{K:PySem.W.Frag}{mg:Str->Option Value}{base:Heap}
def nu:Sp:=fun vs H Q _=>∃(p:Addr) (c:Clip),vs=[.ref p]/\H p=some (.tup c.vs)/\Q (.int c.way) H
theorem zH:aq ["clip"] ["clip"] (ak ig):=⟨rfl,rfl,rfl,by decide +kernel,rfl,by decide +kernel,by decide +kernel⟩
theorem yx {f:Addr}{fd:FuncData}(F:Fun K "way_of" "way_of" ig f fd):aG P w K mg base CX0 1 f fd ["clip"] nu:=by
 refine F.ok zH (fun vs H Q E h=>?_) (fun cdv A outer s H vs Q E hr h=>?_)
 ·obtain ⟨p,c,rfl,_⟩:=h
  rfl
 obtain ⟨p,c,rfl,hp,q⟩:=h
 refine aW (aj (aB (A3 (aN fU (ar am (e_v 0) ae) (ar am (e_v 0) ae)) (eW bv ae) ae))) ?_
 refine ⟨_,rfl,p,_,_,.int c.b,rfl,rfl,SqT.of hp,ad (j:=2) rfl,_,rfl,p,_,_,.int c.a,rfl,rfl,SqT.of hp,ad (j:=1) rfl,_,_,rfl,rfl,_,rfl,?_⟩
 have q:Q (.int (if c.b<c.a then -1 else 1)) H:=q
 refine cY (fun z=>?_) (fun z=>?_)
 ·rw [if_pos (of_decide_eq_true z)] at q
  exact ⟨_,rfl,q⟩
 ·rw [if_neg fun y=>z (decide_eq_true y)] at q
  exact q
def xF:Sp:=fun vs H Q _=>∃(p:Addr) (c:Clip),vs=[.ref p]/\H p=some (.tup c.vs)/\Sm c/\∀l,H l=none->Q (.ref l) (upd H l (.lst (c.nums.map V.int)))
theorem scNos:aq ["clip", "way"] ["clip"] (ak dD):=⟨rfl,rfl,rfl,by decide +kernel,rfl,by decide +kernel,by decide +kernel⟩
theorem yC {f:Addr}{fd:FuncData}(F:Fun K "numbers_of" "numbers_of" dD f fd) (dWay:Def P w K mg base CX0 "way_of" 1 ["clip"] nu) (n_list:mg "list"=none) (n_range:mg "range"=none):aG P w K mg base CX0 2 f fd ["clip"] xF:=by
 refine F.ok scNos (fun vs H Q E h=>?_) (fun cdv A outer s H vs Q E hr h=>?_)
 ·obtain ⟨p,c,rfl,_⟩:=h
  rfl
 obtain ⟨p,c,rfl,hp,sm,q⟩:=h
 refine aW (ag (aw (i:=1) scNos.nd (ao dWay hr aE (aa (e_v 0) af)))
  (aj (aB (wz rfl n_list n_range (ar am (e_v 0) ae) (az aR (ar am (e_v 0) ae) (e_v 1)) (e_v 1))))) ?_
 refine ⟨_,rfl,p,c,rfl,hp,?_⟩
 obtain ⟨a0,a1,b0,b1⟩:=sm
 have cw:=c.way_cnt
 have cn:c.cnt<=1000001:=Sm.cnt ⟨a0,a1,b0,b1⟩
 refine ⟨_,rfl,p,_,_,.int c.a,rfl,rfl,SqT.of hp,ad (j:=1) rfl,_,rfl,p,_,_,.int c.b,rfl,rfl,SqT.of hp,ad (j:=2) rfl,_,rfl,_,_,rfl,rfl,_,rfl,_,_,_,rfl,⟨by omega,by omega⟩,⟨by omega,by omega⟩,c.cnt,cw,by omega,fun l hl=>?_⟩
 rw [<- c.numsV]
 exact q l hl
end
section
variable {P:Program}{w:World}{K:PySem.W.Frag}{mg:Str->Option Value}{base:Heap}
def q9:Sp:=fun vs H Q _=>∃(p:Addr) (c:Clip) (r:Str) (n:Int),vs=[.ref p,.str r,.int n]/\H p=some (.tup c.vs)/\Q (.bl (decide (can c ⟨r,n,0⟩))) H
theorem zL:aq ["strip", "reel", "number"] ["strip", "reel", "number"] (ak fD):=⟨rfl,rfl,rfl,by decide +kernel,rfl,by decide +kernel,by decide +kernel⟩
theorem yF {f:Addr}{fd:FuncData}(F:Fun K "can_have" "can_have" fD f fd) (dWay:Def P w K mg base CX0 "way_of" 1 ["clip"] nu) (n_abs:mg "abs"=none):aG P w K mg base CX0 2 f fd ["strip", "reel", "number"] q9:=by
 refine F.ok zL (fun vs H Q E h=>?_) (fun cdv A outer s H vs Q E hr h=>?_)
 ·obtain ⟨p,c,r,n,rfl,_⟩:=h
  rfl
 obtain ⟨p,c,r,n,rfl,hp,q⟩:=h
 refine aW (ag (bc (aN w_ (ar am (e_v 0) ae) (e_v 1))
   (aj (aB i8))
   aL)
  (ag (bc (aN be (ar am (e_v 0) ae) (ar am (e_v 0) ae))
   (aj (aB (eM be (e_b cL n_abs (by decide +kernel) (aa (az bw (e_v 2) (ar am (e_v 0) ae)) af)) ae)))
   aL)
  (aj (aB (eM be (e_v 2) (az aR (ar am (e_v 0) ae) (ao dWay hr aE (aa (e_v 0) af)))))))) ?_
 refine ⟨_,rfl,p,_,_,.str c.reel,rfl,rfl,SqT.of hp,ad (j:=0) rfl,_,rfl,rfl,_,rfl,?_⟩
 by_cases e:c.reel=r
 ·refine iteN (by rw [decide_eq_true (by rw [e])]; rfl) ?_
  refine ⟨_,rfl,p,_,_,.int c.a,rfl,rfl,SqT.of hp,ad (j:=1) rfl,_,rfl,p,_,_,.int c.b,rfl,rfl,SqT.of hp,ad (j:=2) rfl,rfl,_,rfl,?_⟩
  by_cases ab:c.a=c.b
  ·refine iteY (decide_eq_true (by rw [ab])) ?_
   refine ⟨_,rfl,_,rfl,p,_,_,.int c.b,rfl,rfl,SqT.of hp,ad (j:=2) rfl,_,_,rfl,rfl,_,rfl,rfl,?_⟩
   have z:decide (can c ⟨r,n,0⟩)=decide (V.int (if n-c.b<0 then -(n-c.b) else n-c.b)=V.int 1):=by
    rw [decide_eq_decide]
    unfold can iH
    rw [if_pos ab]
    simp only [V.int.injEq]
    constructor
    ·rintro ⟨_,h⟩
     split <;> omega
    ·intro h
     refine ⟨e,?_⟩
     split at h <;> omega
   rw [<- z]
   exact q
  ·refine iteN (decide_eq_false (by intro z; exact ab (V.int.inj z))) ?_
   refine ⟨_,rfl,_,rfl,p,_,_,.int c.b,rfl,rfl,SqT.of hp,ad (j:=2) rfl,_,rfl,p,c,rfl,hp,_,_,rfl,rfl,rfl,?_⟩
   have z:decide (can c ⟨r,n,0⟩)=decide (V.int n=V.int (c.b+c.way)):=by
    rw [decide_eq_decide]
    unfold can iH
    rw [if_neg ab]
    simp only [V.int.injEq]
    exact ⟨fun h=>h.2,fun h=>⟨e,h⟩⟩
   rw [<- z]
   exact q
 ·refine iteY (by rw [decide_eq_false (by intro z; exact e (V.str.inj z))]; rfl) ?_
  have z:decide (can c ⟨r,n,0⟩)=false:=decide_eq_false fun h=>e h.1
  rw [z] at q
  exact q
def l7:Sp:=fun vs H Q _=>∃(pl:Addr) (rs:List (Addr×Clip)) (r:Str) (n:Int),vs=[.ref pl,.str r,.int n]/\SL H pl rs/\rs.length<=1000000 /\
 ∀(rs':List (Addr×Clip)) (H':Hp),Bt pl H H'->SL H' pl rs'->rs'.map (·.2)=aU (rs.map (·.2)) ⟨r,n,0⟩->Q .non H'
theorem xH:aq ["strips", "reel", "number"] ["strips", "reel", "number"] (ak du):=⟨rfl,rfl,rfl,by decide +kernel,rfl,by decide +kernel,by decide +kernel⟩
theorem vQ {f:Addr}{fd:FuncData}(F:Fun K "take_frame" "take_frame" du f fd) (dCan:Def P w K mg base CX0 "can_have" 2 ["strip", "reel", "number"] q9):aG P w K mg base CX0 3 f fd ["strips", "reel", "number"] l7:=by
 refine F.ok xH (fun vs H Q E h=>?_) (fun cdv A outer s H vs Q E hr h=>?_)
 ·obtain ⟨pl,rs,r,n,rfl,_⟩:=h
  rfl
 obtain ⟨pl,rs,r,n,rfl,sl,hlen,q⟩:=h
 refine aW (aj (bc (t_w (g0 (zt (e_v 0)) (fg (d_ (ao dCan hr aE (aa (ar aJ (e_v 0) (eW bv ae)) (aa (e_v 1) (aa (e_v 2) af))))))))
   (aj (kI (az j7 (gM fR (ar aJ (e_v 0) (eW bv ae)) cW (bG ae)) (aX (aa (e_v 2) (aa (ar am (ar aJ (e_v 0) (eW bv ae)) ae) af)))) (ud (e_v 0) (eW bv ae))))
   (aj (aP (bg (e_v 0) (aX (aa (e_v 1) (aa (e_v 2) (aa (e_v 2) (aa ae af)))))))))) ?_
 have zl:sizeLine=16777216:=sizeLine_eq
 have push:∀{H1:Hp},SL H1 pl rs->Same H H1->aU (rs.map (·.2)) ⟨r,n,0⟩=⟨r,n,n,0⟩ :: rs.map (·.2)->∀pt,H1 pt=none->Q .non (upd (upd H1 pt (.tup (Clip.vs ⟨r,n,n,0⟩))) pl (.lst ((rs.reverse.map fun x=>V.ref x.1)++[.ref pt]))):=by
  intro H1 sl1 s1 e pt hpt
  have st:=Same.new hpt (.tup (Clip.vs ⟨r,n,n,0⟩))
  exact q _ _ ((Bt.of (s1.trans st)).trans Bt.upd) ((sl1.same st).push (c:=⟨r,n,n,0⟩) ac) e.symm
 cases rs with
 | nil =>
  refine ⟨_,rfl,false,?_,bQ ?_⟩
  ·exact .inl ⟨_,SqL.of sl.1,rfl⟩
  refine ⟨_,rfl,.inl ⟨rfl,_,SqL.of sl.1⟩,_,rfl,_,rfl,_,rfl,(by show 4<=sizeLine; decide),fun pt hpt=>?_⟩
  exact ⟨pl,_,_,rfl,rfl,Same.new hpt _ _ _ sl.1,(by decide),push sl (Same.refl _) rfl pt hpt⟩
 | cons x rs =>
  refine ⟨_,rfl,true,?_,cX ?_⟩
  ·refine .inl ⟨_,SqL.of sl.1,?_⟩
   rw [List.reverse_cons,List.map_append]
   simp
  have hx:=sl.2 x (List.mem_cons_self ..)
  refine ⟨_,rfl,_,rfl,pl,_,_,.ref x.1,rfl,rfl,SqL.of sl.1,SL.last (H:=H) (p:=pl),_,rfl,_,rfl,x.1,x.2,r,n,rfl,hx,_,rfl,?_⟩
  by_cases e:can x.2 ⟨r,n,0⟩
  ·refine iteY (decide_eq_true e) ?_
   refine ⟨_,rfl,_,rfl,pl,_,_,.ref x.1,rfl,rfl,SqL.of sl.1,SL.last (H:=H) (p:=pl),_,rfl,x.1,_,rfl,hx,fun p1 H1 s1 hp1=>?_⟩
   refine ⟨_,rfl,_,rfl,_,rfl,pl,_,_,.ref x.1,rfl,rfl,SqL.of (s1 _ _ sl.1),SL.last (H:=H) (p:=pl),x.1,_,_,.int x.2.f,rfl,rfl,SqT.of (s1 _ _ hx),ad (j:=3) rfl,(by show 2<=sizeLine; decide),fun p2 hp2=>?_⟩
   have s2:=Same.new hp2 (.tup [.int n,.int x.2.f])
   refine ⟨p1,p2,_,_,rfl,rfl,s2 _ _ hp1,ac,(by show 2+2<=sizeLine; decide),fun p3 H3 s3 hp3=>?_⟩
   have S3:=(s1.trans s2).trans s3
   have sl3:=sl.same S3
   have hl:(((x :: rs).reverse.map fun x=>V.ref x.1)).length=rs.length+1:=by rw [List.length_map,List.length_reverse]; rfl
   refine ⟨_,rfl,_,rfl,pl,_,_,rs.length,rfl,rfl,sl3.1,?_,?_⟩
   ·have:=tS (n:=(((x :: rs).reverse.map fun x=>V.ref x.1)).length) (by rw [hl]; exact Nat.succ_pos _)
    rw [hl] at this ⊢
    exact this
   ·have e2:(((x :: rs).reverse.map fun x=>V.ref x.1)).set rs.length (V.ref p3)=(rs.reverse.map fun x=>V.ref x.1)++[.ref p3]:=by
     rw [List.reverse_cons,List.map_append]
     have:rs.length=(rs.reverse.map fun x=>V.ref x.1).length:=by rw [List.length_map,List.length_reverse]
     rw [this,List.set_append_right _ _ (Nat.le_refl _),Nat.sub_self]
     rfl
    rw [e2]
    refine q ((p3,⟨x.2.reel,x.2.a,n,x.2.f⟩) :: rs) _ ((Bt.of S3).trans Bt.upd) (sl3.put (c:=⟨x.2.reel,x.2.a,n,x.2.f⟩) hp3) ?_
    rw [List.map_cons,List.map_cons,aZ,if_pos ⟨Int.le_refl 0,e⟩]
  ·refine iteN (decide_eq_false e) ?_
   refine ⟨_,rfl,.inl ⟨rfl,_,SqL.of sl.1⟩,_,rfl,_,rfl,_,rfl,(by show 4<=sizeLine; decide),fun pt hpt=>?_⟩
   refine ⟨pl,_,_,rfl,rfl,Same.new hpt _ _ _ sl.1,?_,push sl (Same.refl _) ?_ pt hpt⟩
   ·rw [List.length_map,List.length_reverse]
    omega
   ·rw [List.map_cons,aZ,if_neg fun z=>e z.2]
def fP:Sp:=fun vs H Q _=>∃(pc:Addr) (ps:List (Addr×Clip)) (n:Nat),vs=[.ref pc]/\CL 1000 n H pc ps/\n<=1000000/\ps.length<=100 /\
 ∀(l:Addr) (rs:List (Addr×Clip)) (H':Hp),Same H H'->H l=none->SL H' l rs->rs.map (·.2)=stripsR (moments (ps.map (·.2)))->Q (.ref l) H'
theorem scStrips:aq ["clips", "strips", "clip", "numbers", "number"] ["clips"] (ak ej):=⟨rfl,rfl,rfl,by decide +kernel,rfl,by decide +kernel,by decide +kernel⟩
theorem pR {f:Addr}{fd:FuncData}(F:Fun K "strips_of" "strips_of" ej f fd) (dNos:Def P w K mg base CX0 "numbers_of" 2 ["clip"] xF) (dTake:Def P w K mg base CX0 "take_frame" 3 ["strips", "reel", "number"] l7):aG P w K mg base CX0 4 f fd ["clips"] fP:=by
 refine F.ok scStrips (fun vs H Q E h=>?_) (fun cdv A outer s H vs Q E hr h=>?_)
 ·obtain ⟨pc,ps,n,rfl,_⟩:=h
  rfl
 obtain ⟨pc,ps,N,rfl,cl,hN,hpl,q⟩:=h
 refine aW (ag (aw (i:=1) scStrips.nd (ba af))
  (ag (bM PassesOwn.never rfl (bB (e_v 0)) (aM (i:=2) scStrips.nd)
   (ag (aw (i:=3) scStrips.nd (ao dNos hr aE (aa (e_v 2) af)))
   (ag (eZ (bc (aN kN (ar am (e_v 2) ae) ae)
    (ag (aP (bg (e_v 1) (aX (aa (ar am (e_v 2) ae) (aa (ar am (e_v 2) ae) (aa (ar am (e_v 2) ae) (aa (ar am (e_v 2) ae) af)))))))
    (aj (aw (i:=3) scStrips.nd (gM dr (e_v 3) (bG ae) cW))))
    aL))
   (aj (bM PassesOwn.never rfl (bB (e_v 3)) (aM (i:=4) scStrips.nd)
    (aj (aP (ao dTake hr aE (aa (e_v 1) (aa (ar am (e_v 2) ae) (aa (e_v 4) af)))))))))))
  (aj (aB (e_v 1))))) ?_
 have zl:sizeLine=16777216:=sizeLine_eq
 refine ⟨(by show 0<=sizeLine; decide),fun pl hp=>?_⟩
 have s0:=Same.new hp (.lst [])
 have bound:∀i,(stripsR (moments ((ps.take i).map (·.2)))).length<=100000:=by
  intro i
  have h1:=iB (moments ((ps.take i).map (·.2))) []
  have h2:=gE (m:=1000) ((ps.take i).map (·.2)) fun c hc=>by
   obtain ⟨x,hx,rfl⟩:=List.mem_map.mp hc
   exact (cl.2 x (List.mem_of_mem_take hx)).2.d
  rw [List.length_map,List.length_take] at h2
  have h3:1000*min i ps.length<=1000*100:=Nat.mul_le_mul_left _ (by omega)
  show (List.foldl aU [] _).length<=_
  rw [List.length_nil] at h1
  omega
 refine ⟨_,rfl,pc,rfl,⟨_,SqL.of (s0 _ _ cl.1)⟩,cK (xs:=ps.map fun x=>V.ref x.1) (fun i σ H'=>∃(rs:List (Addr×Clip)) (o2 o3 o4:Option V),σ=[some (.ref pc),some (.ref pl),o2,o3,o4]/\SL H' pl rs/\rs.map (·.2)=stripsR (moments ((ps.take i).map (·.2)))/\Same H H')
  ⟨[],none,none,none,rfl,SL.nil ac,rfl,s0⟩ ?_ ?_ ?_⟩
 ·rintro i σ H' hi ⟨rs,o2,o3,o4,rfl,sl,er,hS⟩
  exact SqL.of (hS _ _ cl.1)
 ·rintro i x σ H' hx ⟨rs,o2,o3,o4,rfl,sl,er,hS⟩
  rw [List.getElem?_map] at hx
  cases hz:ps[i]? with
  | none=>rw [hz] at hx; cases hx
  | some z =>
   rw [hz] at hx
   cases hx
   obtain ⟨hc,ok⟩:=cl.2 z (List.mem_of_getElem? hz)
   have hc:=hS _ _ hc
   have ek:stripsR (moments ((ps.take (i+1)).map (·.2)))=z.2.ms.foldl aU (rs.map (·.2)):=by
    rw [List.take_add_one,hz,List.map_append]
    show stripsR (moments (_++[z.2]))=_
    unfold stripsR at er ⊢
    rw [cN,kT,List.foldl_append,er]
   have hrl:rs.length<=100000:=by
    have:=bound i
    rw [<- er,List.length_map] at this
    exact this
   have hd:=ok.d
   refine ⟨_,rfl,z.1,z.2,rfl,hc,ok.sm hN,fun l1 hl1=>?_⟩
   have s1:=Same.new hl1 (.lst (z.2.nums.map V.int))
   have sl1:=sl.same s1
   refine ⟨fun σ' H1=>∃(rs1:List (Addr×Clip)) (ln:Addr) (xs:List Int) (o4:Option V),σ'=[some (.ref pc),some (.ref pl),some (.ref z.1),some (.ref ln),o4]/\SL H1 pl rs1/\H1 ln=some (.lst (xs.map V.int))/\ln≠pl/\rs1.length+xs.length<=102000/\z.2.ms.foldl aU (rs.map (·.2))=(xs.map fun n=>(⟨z.2.reel,n,0⟩:Mo)).foldl aU (rs1.map (·.2))/\Bt pl H' H1,?_,?_⟩
   ·refine ⟨_,rfl,z.1,_,_,.int z.2.f,rfl,rfl,SqT.of (s1 _ _ hc),ad (j:=3) rfl,_,_,rfl,rfl,_,rfl,?_⟩
    have nel:l1≠pl:=fun e=>by rw [e,sl.1] at hl1; cases hl1
    refine cY (fun y=>?_) (fun y=>?_)
    ·have y:=of_decide_eq_true y
     refine ⟨_,rfl,.inl ⟨rfl,_,SqL.of sl1.1⟩,_,rfl,z.1,_,_,.str z.2.reel,rfl,rfl,SqT.of (s1 _ _ hc),ad (j:=0) rfl,_,rfl,z.1,_,_,.int z.2.a,rfl,rfl,SqT.of (s1 _ _ hc),ad (j:=1) rfl,_,rfl,z.1,_,_,.int z.2.a,rfl,rfl,SqT.of (s1 _ _ hc),ad (j:=1) rfl,_,rfl,z.1,_,_,.int z.2.f,rfl,rfl,SqT.of (s1 _ _ hc),ad (j:=3) rfl,(by show 4<=sizeLine; decide),fun pt hpt=>?_⟩
     have s2:=Same.new hpt (.tup (Clip.vs ⟨z.2.reel,z.2.a,z.2.a,z.2.f⟩))
     refine ⟨pl,_,_,rfl,rfl,s2 _ _ sl1.1,by rw [List.length_map,List.length_reverse]; omega,?_⟩
     have hl2:upd (upd (upd H' l1 (.lst (z.2.nums.map V.int))) pt (.tup (Clip.vs ⟨z.2.reel,z.2.a,z.2.a,z.2.f⟩))) pl (.lst ((rs.reverse.map fun x=>V.ref x.1)++[.ref pt])) l1=some (.lst (z.2.nums.map V.int)):=by
      rw [ah nel]
      exact s2 _ _ ac
     refine ⟨_,rfl,_,rfl,l1,_,rfl,SqL.of hl2,fun l3 hl3=>?_⟩
     rw [show bD (z.2.nums.map V.int) (some 1) none=(z.2.nums.drop 1).map V.int from uz V.int z.2.nums 1] at *
     have s3:=Same.new hl3 (.lst ((z.2.nums.drop 1).map V.int))
     have slp:=((sl1.same s2).push (c:=⟨z.2.reel,z.2.a,z.2.a,z.2.f⟩) ac)
     refine ⟨_,l3,z.2.nums.drop 1,_,rfl,slp.same s3,ac,?_,?_,?_,?_⟩
     ·intro e
      rw [e,ac] at hl3
      cases hl3
     ·rw [List.length_cons,List.length_drop,Clip.nums_len]
      omega
     ·rw [fY,List.foldl_cons,pD y]
      rfl
     ·exact ((Bt.of (s1.trans s2)).trans Bt.upd).trans (Bt.of s3)
    ·have y:¬ 0<z.2.f:=fun k=>y (decide_eq_true k)
     have f0:=ok.f0
     exact ⟨rs,l1,z.2.nums,_,rfl,sl1,ac,nel,by rw [Clip.nums_len]; omega,by rw [v3 (by omega)],Bt.of s1⟩
   rintro σ H1 ⟨rs1,ln,xs,o4',rfl,sl1,hln,nel,hlen,ef,bt⟩
   have hc1:H1 z.1=some (.tup z.2.vs):=bt _ _ (sl.ne hc) hc
   refine ⟨_,rfl,ln,rfl,⟨_,SqL.of hln⟩,cK (xs:=xs.map V.int) (fun j σ H2=>∃(rs2:List (Addr×Clip)) (o4:Option V),σ=[some (.ref pc),some (.ref pl),some (.ref z.1),some (.ref ln),o4]/\SL H2 pl rs2/\H2 ln=some (.lst (xs.map V.int))/\rs2.map (·.2)=((xs.take j).map fun n=>(⟨z.2.reel,n,0⟩:Mo)).foldl aU (rs1.map (·.2))/\Bt pl H1 H2)
    ⟨rs1,_,rfl,sl1,hln,rfl,Bt.refl _ _⟩ ?_ ?_ ?_⟩
   ·rintro j σ H2 hj ⟨rs2,o4,rfl,sl2,hl2,er2,bt2⟩
    exact SqL.of hl2
   ·rintro j y σ H2 hy ⟨rs2,o4,rfl,sl2,hl2,er2,bt2⟩
    rw [List.getElem?_map] at hy
    cases hu:xs[j]? with
    | none=>rw [hu] at hy; cases hy
    | some u =>
     rw [hu] at hy
     cases hy
     have hc2:=bt2 _ _ (sl1.ne hc1) hc1
     have hrl2:rs2.length<=1000000:=by
      have e:=congrArg List.length er2
      rw [List.length_map] at e
      have h1:=iB ((xs.take j).map fun n=>(⟨z.2.reel,n,0⟩:Mo)) (rs1.map (·.2))
      rw [List.length_map,List.length_map,List.length_take] at h1
      omega
     refine ⟨_,rfl,_,rfl,z.1,_,_,.str z.2.reel,rfl,rfl,SqT.of hc2,ad (j:=0) rfl,_,rfl,pl,rs2,z.2.reel,u,rfl,sl2,hrl2,fun rs3 H3 b3 sl3 e3=>?_⟩
     refine ⟨rs3,_,rfl,sl3,b3 _ _ nel hl2,?_,bt2.trans b3⟩
     rw [e3,er2,List.take_add_one,hu,List.map_append,List.foldl_append]
     rfl
   ·rintro σ H2 ⟨rs2,o4,rfl,sl2,hl2,er2,bt2⟩
    rw [List.length_map,List.take_length] at er2
    exact ⟨rs2,_,_,_,rfl,sl2,by rw [ek,ef,er2],Bt.same hS (bt.trans bt2) hp⟩
 ·rintro σ H' ⟨rs,o2,o3,o4,rfl,sl,er,hS⟩
  rw [List.length_map,List.take_length] at er
  exact ⟨_,rfl,q pl rs H' hS hp sl er⟩
end
end K57
namespace K57
open PySem L2 G DT
open IT hiding It
def mkC (c:Cl):List IT.It:=if 0<c.d then [.fade c.d,.clip c.r c.f c.l] else [.clip c.r c.f c.l]
def mkL (cs:List Cl):List IT.It:=cs.flatMap mkC
theorem a_ (c:Cl) (r:List Cl):mkL (c :: r)=mkC c++mkL r:=List.flatMap_cons
theorem v7 (p q:List Cl):mkL (p++q)=mkL p++mkL q:=List.flatMap_append
theorem oh {cs:List Cl}{x:IT.It}(h:x∈mkL cs):∃c∈cs,x=.clip c.r c.f c.l\/(x=.fade c.d/\0<c.d):=by
 unfold mkL at h
 obtain ⟨c,hc,hx⟩:=List.mem_flatMap.mp h
 unfold mkC at hx
 refine ⟨c,hc,?_⟩
 split at hx
 ·rename_i hd
  simp only [List.mem_cons,List.not_mem_nil,or_false] at hx
  rcases hx with rfl | rfl
  ·exact .inr ⟨rfl,hd⟩
  ·exact .inl rfl
 ·exact .inl (List.mem_singleton.mp hx)
theorem kX:∀cs:List Cl,wL (mkL cs)<=2*cs.length
 | []=>Nat.le_refl _
 | c :: r=>by
  have:=kX r
  rw [a_,qM,List.length_cons]
  unfold mkC
  split <;> simp only [wL,wI] <;> omega
theorem j_ (cs:List Cl):dpL (mkL cs)<=0:=dpL_le.mpr fun x hx=>by
 obtain ⟨c,_,rfl | ⟨rfl,_⟩⟩:=oh hx <;> rw [dpI] <;> exact Nat.le_refl _
theorem tD:∀(r:List Cl) (c:Cl),WL (.clip c.r c.f c.l :: mkL r)
 | [],c=>.one .clip
 | e :: s,c=>by
  have ih:=tD s e
  rw [a_]
  unfold mkC
  split
  ·exact .fade .clip ih
  ·exact .cons .clip ih
theorem ix {cs:List Cl}{c:Cl}{r:List Cl}(h:cs=c :: r) (hd:c.d<=0):WL (mkL cs):=by
 subst h
 rw [a_]
 unfold mkC
 rw [if_neg (by omega)]
 exact tD r c
theorem og:∀(cs F:List Cl),(∀c∈cs,0<=c.d)->IT.run (mkL cs) (F,0)=(F++cs,0)
 | [],F,_=>by rw [List.append_nil]; rfl
 | c :: r,F,h=>by
  have hc:=h c List.mem_cons_self
  have ih:=og r (F++[c]) fun x hx=>h x (List.mem_cons_of_mem _ hx)
  rw [List.append_assoc] at ih
  rw [a_,run_app]
  have e:IT.run (mkC c) (F,0)=(F++[c],0):=by
   unfold mkC
   split
   ·rw [IT.run,IT.run,IT.run,flI,flI]
    rfl
   ·rw [IT.run,IT.run,flI]
    have z:c.d=0:=by omega
    show (F++[(⟨c.r,c.f,c.l,0⟩:Cl)],(0:Int))=_
    rw [<- z]
  rw [e]
  exact ih
theorem mq {cs:List Cl}(h:∀c∈cs,0<=c.d):flL (mkL cs)=cs:=by
 unfold flL
 rw [og cs [] h]
 rfl
theorem kY {T:Str->Int->Int->Prop}{G:Str->List IT.It->Prop}:∀{cs:List Cl},(∀c∈cs,bK c.r/\T c.r c.f c.l)->hL T G (mkL cs)
 | [],_=>by show hL T G []; rw [hL]; trivial
 | c :: r,h=>by
  have ih:=kY (G:=G) fun x hx=>h x (List.mem_cons_of_mem c hx)
  have hc:=h c List.mem_cons_self
  rw [a_]
  unfold mkC
  split
  ·show hL T G (_ :: _ :: mkL r)
   rw [hL,hL,hI,hI]
   exact ⟨by omega,hc,ih⟩
  ·show hL T G (_ :: mkL r)
   rw [hL,hI]
   exact ⟨hc,ih⟩
theorem gy:∀{cs:List Cl}{A B:List IT.It},mkL cs=A++B->(∀x,A.getLast?=some x->isF x=false)->∃p q,cs=p++q/\A=mkL p/\B=mkL q
 | cs,[],B,h,_=>⟨[],cs,rfl,rfl,by rw [List.nil_append] at h; exact h.symm⟩
 | [],x :: A,B,h,_=>by cases h
 | c :: r,x :: A,B,h,hl=>by
  rw [a_] at h
  by_cases hd:0<c.d
  ·have e:mkC c=[.fade c.d,.clip c.r c.f c.l]:=by unfold mkC; rw [if_pos hd]
   rw [e] at h
   cases A with
   | nil =>
    injection h with h1 h2
    subst h1
    have:=hl _ rfl
    cases this
   | cons y A =>
    injection h with h1 h2
    injection h2 with h2 h3
    subst h1 h2
    obtain ⟨p,q,e1,e2,e3⟩:=gy (cs:=r) (A:=A) (B:=B) h3 fun z hz=>hl z (by
     cases A with
     | nil=>cases hz
     | cons u v=>rw [List.getLast?_cons_cons,List.getLast?_cons_cons]; exact hz)
    refine ⟨c :: p,q,by rw [e1]; rfl,?_,e3⟩
    rw [a_,e,e2]
    rfl
  ·have e:mkC c=[.clip c.r c.f c.l]:=by unfold mkC; rw [if_neg hd]
   rw [e] at h
   injection h with h1 h2
   subst h1
   obtain ⟨p,q,e1,e2,e3⟩:=gy (cs:=r) (A:=A) (B:=B) h2 fun z hz=>hl z (by
    cases A with
    | nil=>cases hz
    | cons u v=>rw [List.getLast?_cons_cons]; exact hz)
   refine ⟨c :: p,q,by rw [e1]; rfl,?_,e3⟩
   rw [a_,e,e2]
   rfl
def Ft:List Cl->Prop
 | []=>True
 | [c]=>c.d<=frC c
 | c :: e :: r=>c.d+e.d<=frC c/\Ft (e :: r)
theorem Ft.tl {c:Cl}{r:List Cl}(h:Ft (c :: r)):Ft r:=by
 cases r with
 | nil=>trivial
 | cons e r=>exact h.2
theorem Ft.left:∀{A B:List Cl},(∀c∈B,0<=c.d)->Ft (A++B)->Ft A
 | [],_,_,_=>trivial
 | [c],[],_,h=>h
 | [c],e :: r,h0,h=>by
  have:=h0 e List.mem_cons_self
  have h:c.d+e.d<=frC c/\_:=h
  show c.d<=frC c
  omega
 | c :: e :: A,B,h0,h=>by
  have h:c.d+e.d<=frC c/\Ft (e :: A++B):=h
  exact ⟨h.1,Ft.left h0 h.2⟩
theorem Ft.right:∀{A B:List Cl},Ft (A++B)->Ft B
 | [],_,h=>h
 | c :: A,B,h=>Ft.right (A:=A) (Ft.tl h)
def H0' (A:List Cl):Prop:=∀c,A.head?=some c->c.d=0
theorem Ft.app:∀{A B:List Cl},Ft A->Ft B->H0' B->Ft (A++B)
 | [],_,_,h,_=>h
 | [c],[],h,_,_=>h
 | [c],e :: r,h,hB,h0=>by
  have:=h0 e rfl
  have h:c.d<=frC c:=h
  exact ⟨by omega,hB⟩
 | c :: e :: A,B,h,hB,h0=>⟨h.1,Ft.app (A:=e :: A) h.2 hB h0⟩
theorem oG (c:Cl) (a:Int):frC ⟨c.r,c.l,c.f,a⟩=frC c:=by
 unfold frC
 dsimp only
 split <;> split <;> omega
theorem Ft.revA:∀{A:List Cl}{a:Int},(∀c∈A,0<=c.d)->0<=a->Ft A.reverse->(∀c,A.head?=some c->c.d+a<=frC c)->Ft (IT.revA a A)
 | [],_,_,_,_,_=>trivial
 | [c],a,h0,ha,_,h=>by
  have:=h0 c List.mem_cons_self
  have:=h c rfl
  show a<=frC ⟨c.r,c.l,c.f,a⟩
  rw [oG]
  omega
 | c :: e :: r,a,h0,ha,hF,h=>by
  have hc:=h c rfl
  have d0:=h0 c List.mem_cons_self
  rw [List.reverse_cons] at hF
  have hl:Ft (e :: r).reverse:=Ft.left (fun x hx=>by rw [List.mem_singleton.mp hx]; exact d0) hF
  have hj:e.d+c.d<=frC e:=by
   rw [List.reverse_cons,List.append_assoc] at hF
   have:=Ft.right hF
   exact this.1
  refine ⟨?_,Ft.revA (fun x hx=>h0 x (List.mem_cons_of_mem _ hx)) d0 hl fun x hx=>by cases hx; exact hj⟩
  show a+c.d<=frC ⟨c.r,c.l,c.f,a⟩
  rw [oG]
  omega
theorem Ft.last:∀{A:List Cl}{c:Cl},Ft A->A.getLast?=some c->c.d<=frC c
 | [],_,_,h=>by cases h
 | [c],_,h,e=>by cases e; exact h
 | x :: e :: r,c,h,k=>Ft.last (A:=e :: r) h.2 (by rw [List.getLast?_cons_cons] at k; exact k)
theorem Ft.rev {A:List Cl}(h0:∀c∈A,0<=c.d) (h:Ft A):Ft (IT.rev A):=by
 refine Ft.revA (fun c hc=>h0 c (List.mem_reverse.mp hc)) (Int.le_refl 0) (by rw [List.reverse_reverse]; exact h) fun c hc=>?_
 rw [List.head?_reverse] at hc
 have:=h.last hc
 omega
theorem xT (A:List Cl):H0' (IT.rev A):=fun c hc=>by
 unfold IT.rev at hc
 cases e:A.reverse with
 | nil=>rw [e] at hc; cases hc
 | cons x r=>rw [e] at hc; cases hc; rfl
theorem Ft.good:∀{A:List Cl},Ft A->∀k,¬ bad A k
 | [],_,k,⟨c,h,_⟩=>by cases h
 | [x],h,0,⟨c,e,b⟩=>by
  obtain rfl:x=c:=Option.some.inj e
  have h:x.d<=frC x:=h
  have b:frC x<x.d+0:=b
  omega
 | [x],h,k+1,⟨c,e,b⟩=>by cases e
 | x :: y :: r,h,0,⟨c,e,b⟩=>by
  obtain rfl:x=c:=Option.some.inj e
  have h:=h.1
  have b:frC x<x.d+y.d:=b
  omega
 | x :: y :: r,h,k+1,⟨c,e,b⟩=>Ft.good (A:=y :: r) h.2 k ⟨c,e,b⟩
theorem ue:∀{A:List Cl}{m:Int},(∀c∈A,frC c<=m)->frS A<=m*A.length
 | [],m,_=>by show (0:Int)<=m*(0:Nat); simp
 | c :: r,m,h=>by
  have h1:=h c List.mem_cons_self
  have h2:=ue (A:=r) fun x hx=>h x (List.mem_cons_of_mem _ hx)
  show frC c+frS r<=m*((r.length+1:Nat):Int)
  rw [Int.natCast_add,Int.mul_add]
  omega
theorem nE:∀{A:List Cl}{a:Int}{c:Cl},c∈IT.revA a A->∃e∈A,c.r=e.r/\c.f=e.l/\c.l=e.f/\(c.d=a\/∃x∈A,c.d=x.d)
 | [],_,_,h=>by cases h
 | x :: r,a,c,h=>by
  rw [IT.revA] at h
  rcases List.mem_cons.mp h with rfl | h
  ·exact ⟨x,List.mem_cons_self,rfl,rfl,rfl,.inl rfl⟩
  ·obtain ⟨e,he,h1,h2,h3,h4⟩:=nE h
   refine ⟨e,List.mem_cons_of_mem _ he,h1,h2,h3,.inr ?_⟩
   rcases h4 with z | ⟨y,hy,z⟩
   ·exact ⟨x,List.mem_cons_self,z⟩
   ·exact ⟨y,List.mem_cons_of_mem _ hy,z⟩
structure Lc (c:Cl):Prop where
 f0:0<=c.f
 f1:c.f<300
 l0:0<=c.l
 l1:c.l<300
 d0:0<=c.d
 m:frC c<=9
structure Lcs (cs:List Cl):Prop where
 ok:∀c∈cs,Lc c
 ft:Ft cs
 h0:H0' cs
 len:cs.length<=20
def sh (r:Str) (k:Int) (c:Cl):Cl:=⟨r,c.f+k,c.l+k,c.d⟩
theorem jl (r:Str) (k:Int) (c:Cl):frC (sh r k c)=frC c:=by
 unfold frC sh
 dsimp only
 rw [show c.l+k-(c.f+k)=c.l-c.f by omega]
theorem oF (r:Str) (k:Int):∀{A:List Cl},Ft A->Ft (A.map (sh r k))
 | [],_=>trivial
 | [c],h=>by show c.d<=frC (sh r k c); rw [jl]; exact h
 | c :: e :: A,h=>⟨by show c.d+e.d<=frC (sh r k c); rw [jl]; exact h.1,oF r k (A:=e :: A) h.2⟩
theorem nF (r:Str) (k:Int):∀(a:Int) (A:List Cl),IT.revA a (A.map (sh r k))=(IT.revA a A).map (sh r k)
 | a,[]=>rfl
 | a,c :: A=>by rw [List.map_cons,IT.revA,IT.revA,List.map_cons]; exact congrArg _ (nF r k c.d A)
theorem xS (r:Str) (k:Int) (A:List Cl):IT.rev (A.map (sh r k))=(IT.rev A).map (sh r k):=by rw [IT.rev,IT.rev,<- List.map_reverse,nF]
mutual
def shI (r:Str) (k:Int):IT.It->IT.It
 | .clip _ f l=>.clip r (f+k) (l+k)
 | .times m xs=>.times m (shL r k xs)
 | .back xs=>.back (shL r k xs)
 | .part n xs=>.part n xs
 | .fade m=>.fade m
def shL (r:Str) (k:Int):List IT.It->List IT.It
 | []=>[]
 | x :: xs=>shI r k x :: shL r k xs
end
mutual
def thI (lo hi:Int):IT.It->Bool
 | .clip _ f l=>(decide (lo<=f)&&decide (f<hi))&&(decide (lo<=l)&&decide (l<hi))
 | .times _ xs=>thL lo hi xs
 | .back xs=>thL lo hi xs
 | .part _ _=>true
 | .fade _=>true
def thL (lo hi:Int):List IT.It->Bool
 | []=>true
 | x :: xs=>thI lo hi x&&thL lo hi xs
end
theorem nz (r:Str) (k:Int):∀p q:List IT.It,shL r k (p++q)=shL r k p++shL r k q
 | [],q=>by rw [shL]; rfl
 | x :: p,q=>by rw [List.cons_append,shL,shL,nz r k p q]; rfl
theorem gN (lo hi:Int):∀p q:List IT.It,thL lo hi (p++q)=(thL lo hi p&&thL lo hi q)
 | [],q=>by rw [thL]; rfl
 | x :: p,q=>by rw [List.cons_append,thL,thL,gN lo hi p q,Bool.and_assoc]
theorem tZ {T:Str->Int->Int->Prop}{G:Str->List IT.It->Prop}:∀{p q:List IT.It},hL T G p->hL T G q->hL T G (p++q)
 | [],q,_,h=>h
 | x :: p,q,h,h'=>by
  rw [hL] at h
  rw [List.cons_append,hL]
  exact ⟨h.1,tZ h.2 h'⟩
theorem ic (r:Str) (k:Int):∀cs:List Cl,shL r k (mkL cs)=mkL (cs.map (sh r k))
 | []=>by show shL r k []=[]; rw [shL]
 | c :: cs=>by
  rw [a_,nz,ic r k cs,List.map_cons,a_]
  congr 1
  unfold mkC
  show shL r k (if 0<c.d then _ else _)=if 0<c.d then _ else _
  split
  ·rw [shL,shL,shL,shI,shI]; rfl
  ·rw [shL,shL,shI]; rfl
section
variable {T T':Str->Int->Int->Prop}{G:Str->List IT.It->Prop}
mutual
theorem t_ (i:∀r f l,T r f l->T' r f l):∀{x:IT.It},hI T G x->hI T' G x
 | .clip r f l,h=>by rw [hI] at h ⊢; exact ⟨h.1,i r f l h.2⟩
 | .times m xs,h=>by rw [hI] at h ⊢; exact kg i h
 | .back xs,h=>by rw [hI] at h ⊢; exact kg i h
 | .part n xs,h=>by rw [hI] at h ⊢; exact h
 | .fade m,h=>by rw [hI] at h ⊢; exact h
theorem kg (i:∀r f l,T r f l->T' r f l):∀{xs:List IT.It},hL T G xs->hL T' G xs
 | [],_=>by rw [hL]; trivial
 | x :: xs,h=>by rw [hL] at h ⊢; exact ⟨t_ i h.1,kg i h.2⟩
end
mutual
theorem xl {lo hi:Int}:∀{x:IT.It},hI T G x->thI lo hi x=true->hI (fun r f l=>T r f l/\lo<=f/\f<hi/\lo<=l/\l<hi) G x
 | .clip r f l,h,t=>by
  rw [thI] at t
  simp only [Bool.and_eq_true,decide_eq_true_eq] at t
  rw [hI] at h ⊢
  exact ⟨h.1,h.2,t.1.1,t.1.2,t.2.1,t.2.2⟩
 | .times m xs,h,t=>by rw [hI] at h ⊢; rw [thI] at t; exact oA h t
 | .back xs,h,t=>by rw [hI] at h ⊢; rw [thI] at t; exact oA h t
 | .part n xs,h,_=>by rw [hI] at h ⊢; exact h
 | .fade m,h,_=>by rw [hI] at h ⊢; exact h
theorem oA {lo hi:Int}:∀{xs:List IT.It},hL T G xs->thL lo hi xs=true->hL (fun r f l=>T r f l/\lo<=f/\f<hi/\lo<=l/\l<hi) G xs
 | [],_,_=>by rw [hL]; trivial
 | x :: xs,h,t=>by
  rw [hL] at h ⊢
  rw [thL,Bool.and_eq_true] at t
  exact ⟨xl h.1 t.1,oA h.2 t.2⟩
end
mutual
theorem Ac {r:Str}{k:Int}(hf:bK r) (i:∀r' f l,T r' f l->T' r (f+k) (l+k)):∀{x:IT.It},hI T G x->hI T' G (shI r k x)
 | .clip r' f l,h=>by rw [hI] at h; rw [shI,hI]; exact ⟨hf,i r' f l h.2⟩
 | .times m xs,h=>by rw [hI] at h; rw [shI,hI]; exact oB hf i h
 | .back xs,h=>by rw [hI] at h; rw [shI,hI]; exact oB hf i h
 | .part n xs,h=>by rw [hI] at h; rw [shI,hI]; exact h
 | .fade m,h=>by rw [hI] at h; rw [shI,hI]; exact h
theorem oB {r:Str}{k:Int}(hf:bK r) (i:∀r' f l,T r' f l->T' r (f+k) (l+k)):∀{xs:List IT.It},hL T G xs->hL T' G (shL r k xs)
 | [],_=>by rw [shL,hL]; trivial
 | x :: xs,h=>by rw [hL] at h; rw [shL,hL]; exact ⟨Ac hf i h.1,oB hf i h.2⟩
end
mutual
theorem rg {r r':Str}{k k':Int}(e:k+k'=0) (i:∀r0 f l,T r0 f l->r0=r'):∀{x:IT.It},hI T G x->shI r' k' (shI r k x)=x
 | .clip r0 f l,h=>by
  rw [hI] at h
  have:=i r0 f l h.2
  subst this
  rw [shI,shI,show f+k+k'=f by omega,show l+k+k'=l by omega]
 | .times m xs,h=>by rw [hI] at h; rw [shI,shI,fS e i h]
 | .back xs,h=>by rw [hI] at h; rw [shI,shI,fS e i h]
 | .part n xs,_=>by rw [shI,shI]
 | .fade m,_=>by rw [shI,shI]
theorem fS {r r':Str}{k k':Int}(e:k+k'=0) (i:∀r0 f l,T r0 f l->r0=r'):∀{xs:List IT.It},hL T G xs->shL r' k' (shL r k xs)=xs
 | [],_=>by rw [shL,shL]
 | x :: xs,h=>by rw [hL] at h; rw [shL,shL,rg e i h.1,fS e i h.2]
end
def Bo (o t:Reel) (r:Str) (f l:Int):Prop:=r=o.name/\has o f/\has o l/\has t (f+(o.start-t.start))/\has t (l+(o.start-t.start))
def On (o:Reel) (r:Str) (f l:Int):Prop:=r=o.name/\has o f/\has o l
theorem j4 {o t:Reel}{f:Int}(el:o.letters=t.letters) (h:has o f) (h':has t (f+(o.start-t.start))):ovF o t f=.inr (f+(o.start-t.start)):=by
 unfold ovF
 unfold has at h'
 rw [if_pos h,if_pos ⟨el,by omega,by omega⟩]
 congr 1
 omega
theorem su {o t:Reel}{f:Int}(h:has o f) (h':¬ has t (f+(o.start-t.start))):ovF o t f=.inl (t.name,.non):=by
 unfold ovF
 unfold has at h'
 rw [if_pos h,if_neg fun z=>h' ⟨by have:=z.2.1; omega,by have:=z.2.2; omega⟩]
mutual
theorem nU {o t:Reel}(el:o.letters=t.letters):∀{x:IT.It},hI (Bo o t) G x->ovI o t x=.inr (shI t.name (o.start-t.start) x)
 | .clip r f l,h=>by
  rw [hI] at h
  obtain ⟨_,e,a,b,c,d⟩:=h
  rw [ovI,if_pos e,shI]
  unfold ovC
  rw [j4 el a c]
  dsimp only
  rw [j4 el b d]
 | .times m xs,h=>by rw [hI] at h; rw [ovI,dM el h,shI]
 | .back xs,h=>by rw [hI] at h; rw [ovI,dM el h,shI]
 | .part n xs,_=>by rw [ovI,shI]
 | .fade m,_=>by rw [ovI,shI]
theorem dM {o t:Reel}(el:o.letters=t.letters):∀{xs:List IT.It},hL (Bo o t) G xs->ovL o t xs=.inr (shL t.name (o.start-t.start) xs)
 | [],_=>by rw [ovL,shL]
 | x :: xs,h=>by
  rw [hL] at h
  rw [ovL,nU el h.1]
  dsimp only
  rw [dM el h.2,shL]
end
mutual
theorem yu {o t:Reel}{lo hi:Int}(el:o.letters=t.letters) (i:∀f:Int,(lo<=f/\f<hi)↔has t (f+(o.start-t.start))):∀{x:IT.It},hI (On o) G x->thI lo hi x=false->ovI o t x=.inl (t.name,.non)
 | .clip r f l,h,n=>by
  rw [hI] at h
  obtain ⟨_,e,a,b⟩:=h
  rw [thI] at n
  rw [ovI,if_pos e]
  unfold ovC
  by_cases c:has t (f+(o.start-t.start))
  ·rw [j4 el a c]
   dsimp only
   have c':=(i f).mpr c
   rw [decide_eq_true c'.1,decide_eq_true c'.2,Bool.and_self,Bool.true_and] at n
   rw [su b fun z=>by
    have:=(i l).mpr z
    rw [decide_eq_true this.1,decide_eq_true this.2] at n
    cases n]
  ·rw [su a c]
 | .times m xs,h,n=>by rw [hI] at h; rw [thI] at n; rw [ovI,j3 el i h n]
 | .back xs,h,n=>by rw [hI] at h; rw [thI] at n; rw [ovI,j3 el i h n]
 | .part _ xs,_,n=>by rw [thI] at n; cases n
 | .fade m,_,n=>by rw [thI] at n; cases n
theorem j3 {o t:Reel}{lo hi:Int}(el:o.letters=t.letters) (i:∀f:Int,(lo<=f/\f<hi)↔has t (f+(o.start-t.start))):∀{xs:List IT.It},hL (On o) G xs->thL lo hi xs=false->ovL o t xs=.inl (t.name,.non)
 | [],_,n=>by rw [thL] at n; cases n
 | x :: xs,h,n=>by
  rw [hL] at h
  rw [thL] at n
  rw [ovL]
  cases z:thI lo hi x with
  | false=>rw [yu el i h.1 z]
  | true =>
   rw [z,Bool.true_and] at n
   have hb:hI (Bo o t) G x:=t_ (fun r f l y=>⟨y.1.1,y.1.2.1,y.1.2.2,(i f).mp ⟨y.2.1,y.2.2.1⟩,(i l).mp ⟨y.2.2.2.1,y.2.2.2.2⟩⟩) (xl h.1 z)
   rw [nU el hb]
   dsimp only
   rw [j3 el i h.2 n]
end
end
theorem xu {o t:Reel}{lo hi:Int}{G:Str->List IT.It->Prop}(i:∀f:Int,(lo<=f/\f<hi)↔has t (f+(o.start-t.start))) {xs:List IT.It}(h:hL (On o) G xs) (z:thL lo hi xs=true):hL (Bo o t) G xs:=kg (fun r f l y=>⟨y.1.1,y.1.2.1,y.1.2.2,(i f).mp ⟨y.2.1,y.2.2.1⟩,(i l).mp ⟨y.2.2.2.1,y.2.2.2.2⟩⟩) (oA h z)
inductive Shp:List IT.It->List IT.It->List Cl->List Cl->Prop
 | plain (as:List Cl) (u:Cl):u.d=0->as≠[]->H0' as->Ft as->as.length<=20->Shp (mkL as) (mkL [u]) as (u :: as)
 | cut (p q:List Cl):p≠[]->q≠[]->H0' p->H0' q->Ft p->Ft q->p.length<=20->q.length<=20->Shp [.times 2 [.part "q" (mkL p)],.back (mkL q)] (mkL p) (p++p++IT.rev q) (p++q)
theorem uc {r:Str}{k:Int}{A:List Cl}(h:H0' A):H0' (A.map (sh r k)):=fun c hc=>by
 rw [List.head?_map] at hc
 cases e:A.head? with
 | none=>rw [e] at hc; cases hc
 | some x=>rw [e] at hc; cases hc; exact h x e
theorem gx {α β:Type}{f:α->β}{A:List α}(h:A≠[]):A.map f≠[]:=fun z=>h (List.map_eq_nil_iff.mp z)
theorem Shp.over {xs ys:List IT.It}{cs bs:List Cl}(r:Str) (k:Int) (h:Shp xs ys cs bs):∃xs',Shp xs' (shL r k ys) (cs.map (sh r k)) (bs.map (sh r k))/\dL xs'=dL (shL r k xs):=by
 cases h with
 | plain as u a b c d e =>
  refine ⟨shL r k (mkL cs),?_,rfl⟩
  rw [ic,ic,List.map_cons]
  exact .plain _ (sh r k u) a (gx b) (uc c) (oF r k d) (by rw [List.length_map]; exact e)
 | cut p q a b c d e f g i =>
  refine ⟨[.times 2 [.part "q" (mkL (p.map (sh r k)))],.back (mkL (q.map (sh r k)))],?_,?_⟩
  ·rw [ic,List.map_append,List.map_append,List.map_append,<- xS]
   exact .cut _ _ (gx a) (gx b) (uc c) (uc d) (oF r k e) (oF r k f) (by rw [List.length_map]; exact g) (by rw [List.length_map]; exact i)
  ·simp only [shL,shI,ic,dL,dI]
def Gq (ys:List IT.It) (n:Str) (zs:List IT.It):Prop:=n="q"/\zs=ys
theorem yW:bK "q":=by decide +kernel
theorem Shp.hx {T:Str->Int->Int->Prop}{xs ys:List IT.It}{cs bs:List Cl}(h:Shp xs ys cs bs) (t:∀c∈bs,bK c.r/\T c.r c.f c.l):hL T (Gq ys) xs/\∀G,hL T G ys:=by
 cases h with
 | plain as u a b c d e=>exact ⟨kY fun x hx=>t x (List.mem_cons_of_mem _ hx),fun G=>kY fun x hx=>t x (by rw [List.mem_singleton.mp hx]; exact List.mem_cons_self)⟩
 | cut p q a b c d e f g i =>
  refine ⟨?_,fun G=>kY fun x hx=>t x (List.mem_append_left _ hx)⟩
  rw [hL,hL,hL,hI,hI,hL,hL,hI]
  exact ⟨⟨⟨yW,rfl,rfl⟩,trivial⟩,kY fun x hx=>t x (List.mem_append_right _ hx),trivial⟩
theorem oz {A:List Cl}(h:A≠[]) (z:H0' A):∃c r,A=c :: r/\c.d<=0:=by
 cases A with
 | nil=>exact absurd rfl h
 | cons c r=>exact ⟨c,r,rfl,by rw [z c rfl]; exact Int.le_refl 0⟩
theorem Shp.wl {xs ys:List IT.It}{cs bs:List Cl}(h:Shp xs ys cs bs):WL xs/\WL ys/\dpL xs<=2/\dpL ys<=0/\wL xs<=100/\wL ys<=100:=by
 cases h with
 | plain as u a b c d e =>
  obtain ⟨x,r,e1,e2⟩:=oz b c
  have w1:=kX cs
  have w2:=kX [u]
  rw [List.length_singleton] at w2
  exact ⟨ix e1 e2,ix rfl (by omega),Nat.le_trans (j_ _) (by decide),j_ _,by omega,by omega⟩
 | cut p q a b c d e f g i =>
  obtain ⟨x,r,e1,e2⟩:=oz a c
  obtain ⟨y,s,e3,e4⟩:=oz b d
  have w1:=kX p
  have w2:=kX q
  have d1:=j_ p
  have d2:=j_ q
  refine ⟨.cons (.times (by decide) (by decide) (.one (.part (ix e1 e2)))) (.one (.back (ix e3 e4))),ix e1 e2,?_,d1,?_,by omega⟩
  ·simp only [dpL,dpI]; omega
  ·simp only [wL,wI]; omega
theorem Shp.fl {xs ys:List IT.It}{cs bs:List Cl}(h:Shp xs ys cs bs) (d0:∀c∈bs,0<=c.d):flL xs=cs:=by
 cases h with
 | plain as u a b c d e=>exact mq fun x hx=>d0 x (List.mem_cons_of_mem _ hx)
 | cut p q a b c d e f g i =>
  have e1:flL (mkL p)=p:=mq fun x hx=>d0 x (List.mem_append_left _ hx)
  have e2:flL (mkL q)=q:=mq fun x hx=>d0 x (List.mem_append_right _ hx)
  have s0:bL 0 p=p:=by
   obtain ⟨x,r,rfl,_⟩:=oz a c
   show (⟨x.r,x.f,x.l,0⟩:Cl) :: r=_
   have:x.d=0:=c x rfl
   rw [<- this]
  have e3:flL [.part "q" (mkL p)]=p:=by
   unfold flL
   rw [IT.run,IT.run,f_,e1,bx rfl a]
   show []++bL 0 p=p
   rw [s0]
   rfl
  have e4:flI (.times 2 [.part "q" (mkL p)])=p++p:=by
   rw [eR,e3]
   show IT.rep 2 p=_
   unfold IT.rep
   simp [List.replicate]
  have e5:flI (.back (mkL q))=IT.rev q:=by rw [gc,e2]
  unfold flL
  rw [IT.run,IT.run,IT.run,e4,e5,bx rfl (fun z=>a (List.append_eq_nil_iff.mp z).1),bx rfl (rq b)]
  show ([]++bL 0 (p++p))++bL 0 (IT.rev q)=_
  rw [ei a,s0,(rB b).2]
  rfl
theorem Shp.film {xs ys:List IT.It}{cs bs:List Cl}(h:Shp xs ys cs bs) (m:∀c∈bs,frC c<=9) (d0:∀c∈bs,0<=c.d):cs≠[]/\cs.length<=60/\Ft cs/\(∀c∈cs,(∃e∈bs,c.r=e.r/\((c.f=e.f/\c.l=e.l)\/(c.f=e.l/\c.l=e.f)))/\0<=c.d):=by
 cases h with
 | plain as u a b c d e=>exact ⟨b,by omega,d,fun x hx=>⟨⟨x,List.mem_cons_of_mem _ hx,rfl,.inl ⟨rfl,rfl⟩⟩,d0 x (List.mem_cons_of_mem _ hx)⟩⟩
 | cut p q a b c d e f g i =>
  refine ⟨fun z=>a (List.append_eq_nil_iff.mp (List.append_eq_nil_iff.mp z).1).1,?_,?_,fun x hx=>?_⟩
  ·rw [List.length_append,List.length_append,IT.rev_len]; omega
  ·exact (e.app e c).app (f.rev fun x hx=>d0 x (List.mem_append_right _ hx)) (xT q)
  ·rcases List.mem_append.mp hx with hx | hx
   ·have hx:x∈p:=by rcases List.mem_append.mp hx with z | z <;> exact z
    exact ⟨⟨x,List.mem_append_left _ hx,rfl,.inl ⟨rfl,rfl⟩⟩,d0 x (List.mem_append_left _ hx)⟩
   ·obtain ⟨y,hy,h1,h2,h3,h4⟩:=nE hx
    refine ⟨⟨y,List.mem_append_right _ (List.mem_reverse.mp hy),h1,.inr ⟨h2,h3⟩⟩,?_⟩
    rcases h4 with z | ⟨y,hy,z⟩
    ·omega
    ·rw [z]; exact d0 y (List.mem_append_right _ (List.mem_reverse.mp hy))
end K57
namespace KS
open PySem
structure Iv where
 reel:Str
 lo:Int
 hi:Int
def ivOf (spoil:Int) (c:Clip):Iv:=⟨c.reel,if c.b<c.a then c.b else c.a,(if c.a<c.b then c.b else c.a)+spoil⟩
def ff:List Int->Int->Nat
 | [],_=>0
 | e :: r,x=>if e<x then 0 else ff r x+1
def eG (es:List Int) (p:Nat) (e:Int):List Int:=if p=es.length then es++[e] else es.set p e
theorem lq:∀(es:List Int) (x:Int),ff es x<=es.length
 | [],_=>Nat.le_refl _
 | e :: r,x=>by
  unfold ff
  have:=lq r x
  split <;> simp <;> omega
theorem uh:∀{es:List Int}{x:Int}{e:Int},es[ff es x]?=some e->e<x
 | [],_,_,h=>by cases h
 | a :: r,x,e,h=>by
  unfold ff at h
  split at h
  ·cases h
   assumption
  ·rw [List.getElem?_cons_succ] at h
   exact uh h
theorem ui:∀{es:List Int}{x:Int}{q:Nat}{e:Int},q<ff es x->es[q]?=some e->x<=e
 | [],_,_,_,_,h=>by cases h
 | a :: r,x,q,e,hq,h=>by
  unfold ff at hq
  split at hq
  ·cases hq
  ·rename_i k
   cases q with
   | zero =>
    cases h
    omega
   | succ q =>
    rw [List.getElem?_cons_succ] at h
    exact ui (by omega) h
theorem rF (es:List Int) (p:Nat) (e:Int):(eG es p e).length=if p=es.length then es.length+1 else es.length:=by
 unfold eG
 split
 ·rw [List.length_append]; rfl
 ·rw [List.length_set]
theorem jY {es:List Int}{p:Nat}{e:Int}(h:p<=es.length):(eG es p e)[p]?=some e:=by
 unfold eG
 split
 ·rename_i k
  rw [k,List.getElem?_append_right (Nat.le_refl _),Nat.sub_self]
  rfl
 ·exact List.getElem?_set_self (by omega)
theorem nO {es:List Int}{p q:Nat}{e:Int}(h:p<=es.length) (hq:q≠p):(eG es p e)[q]?=es[q]?:=by
 unfold eG
 split
 ·rename_i k
  by_cases h2:q<es.length
  ·rw [List.getElem?_append_left h2]
  ·rw [List.getElem?_eq_none (by rw [List.length_append,List.length_singleton]; omega),List.getElem?_eq_none (by omega)]
 ·rw [List.getElem?_set_ne (Ne.symm hq)]
abbrev Ends:=Str->List Int
def Ends.put (f:Ends) (r:Str) (es:List Int):Ends:=fun x=>if x=r then es else f x
def dj:List Iv->Ends->List (Iv×Nat)
 | [],_=>[]
 | v :: r,f=>(v,ff (f v.reel) v.lo) :: dj r (f.put v.reel (eG (f v.reel) (ff (f v.reel) v.lo) v.hi))
def dn:List Iv->Ends->Ends
 | [],f=>f
 | v :: r,f=>dn r (f.put v.reel (eG (f v.reel) (ff (f v.reel) v.lo) v.hi))
structure Told (done:List (Iv×Nat)) (f:Ends):Prop where
 up:∀x∈done,∃e,(f x.1.reel)[x.2]?=some e/\x.1.hi<=e
 by':∀(r:Str) (p:Nat) e,(f r)[p]?=some e->∃x∈done,x.1.reel=r/\x.2=p/\x.1.hi=e
theorem Told.nil:Told [] (fun _=>[]):=⟨(fun x h=>by cases h),(fun r p e h=>by cases h)⟩
theorem Told.behind {done:List (Iv×Nat)}{f:Ends}{v:Iv}(T:Told done f):∀x∈done,x.1.reel=v.reel->x.2=ff (f v.reel) v.lo->x.1.hi<v.lo:=by
 intro x hx hr hp
 obtain ⟨e,h1,h2⟩:=T.up x hx
 rw [hr,hp] at h1
 have:=uh h1
 omega
theorem Told.ahead {done:List (Iv×Nat)}{f:Ends}{v:Iv}(T:Told done f) {q:Nat}(hq:q<ff (f v.reel) v.lo):∃x∈done,x.1.reel=v.reel/\x.2=q/\v.lo<=x.1.hi:=by
 have hl:=lq (f v.reel) v.lo
 have hx:(f v.reel)[q]?=some (f v.reel)[q]:=List.getElem?_eq_getElem (by omega)
 obtain ⟨x,h1,h2,h3,h4⟩:=T.by' v.reel q _ hx
 exact ⟨x,h1,h2,h3,by rw [h4]; exact ui hq hx⟩
theorem Told.put {done:List (Iv×Nat)}{f:Ends}{v:Iv}(T:Told done f) (hv:v.lo<=v.hi):Told (done++[(v,ff (f v.reel) v.lo)]) (f.put v.reel (eG (f v.reel) (ff (f v.reel) v.lo) v.hi)):=by
 have hl:=lq (f v.reel) v.lo
 refine ⟨fun x hx=>?_,fun r p e h=>?_⟩
 ·rcases List.mem_append.mp hx with hx | hx
  ·obtain ⟨e,h1,h2⟩:=T.up x hx
   by_cases hr:x.1.reel=v.reel
   ·unfold Ends.put
    rw [if_pos hr]
    by_cases hp:x.2=ff (f v.reel) v.lo
    ·have:=T.behind x hx hr hp
     rw [hp]
     exact ⟨v.hi,jY hl,by omega⟩
    ·rw [hr] at h1
     exact ⟨e,by rw [nO hl hp]; exact h1,h2⟩
   ·unfold Ends.put
    rw [if_neg hr]
    exact ⟨e,h1,h2⟩
  ·rw [List.mem_singleton.mp hx]
   unfold Ends.put
   show ∃e,(if v.reel=v.reel then _ else _)[_]?=some e/\v.hi<=e
   rw [if_pos rfl]
   exact ⟨v.hi,jY hl,Int.le_refl _⟩
 ·unfold Ends.put at h
  split at h
  ·rename_i hr
   by_cases hp:p=ff (f v.reel) v.lo
   ·rw [hp,jY hl] at h
    cases h
    exact ⟨_,List.mem_append_right _ (List.mem_singleton.mpr rfl),hr.symm,hp.symm,rfl⟩
   ·rw [nO hl hp] at h
    obtain ⟨x,h1,h2,h3,h4⟩:=T.by' v.reel p e h
    exact ⟨x,List.mem_append_left _ h1,h2.trans hr.symm,h3,h4⟩
  ·obtain ⟨x,h1,h2,h3,h4⟩:=T.by' r p e h
   exact ⟨x,List.mem_append_left _ h1,h2,h3,h4⟩
structure Fit (out:List (Iv×Nat)):Prop where
 apart:out.Pairwise fun x y=>x.1.reel=y.1.reel->x.2=y.2->x.1.hi<y.1.lo
 full:∀(i:Nat) y,out[i]?=some y->∀q,q<y.2->∃j x,j<i/\out[j]?=some x/\x.1.reel=y.1.reel/\x.2=q/\y.1.lo<=x.1.hi
theorem oK:∀(vs:List Iv) (done:List (Iv×Nat)) (f:Ends),(∀v∈vs,v.lo<=v.hi)->Told done f->Fit done->Fit (done++dj vs f)
 | [],done,f,_,_,F=>by unfold dj; rw [List.append_nil]; exact F
 | v :: r,done,f,h,T,F=>by
  have hv:=h v (List.mem_cons_self ..)
  have T2:=T.put hv
  have F2:Fit (done++[(v,ff (f v.reel) v.lo)]):=by
   refine ⟨?_,fun i y hy q hq=>?_⟩
   ·rw [List.pairwise_append]
    refine ⟨F.apart,List.pairwise_singleton _ _,fun x hx y hy hr hp=>?_⟩
    rw [List.mem_singleton.mp hy] at hr hp ⊢
    exact T.behind x hx hr hp
   ·by_cases hi:i<done.length
    ·rw [List.getElem?_append_left hi] at hy
     obtain ⟨j,x,h1,h2,h3⟩:=F.full i y hy q hq
     exact ⟨j,x,h1,by rw [List.getElem?_append_left (by omega)]; exact h2,h3⟩
    ·have hl:=(List.getElem?_eq_some_iff.mp hy).1
     rw [List.length_append,List.length_singleton] at hl
     rw [List.getElem?_append_right (by omega),show i-done.length=0 by omega] at hy
     cases hy
     obtain ⟨x,h1,h2,h3,h4⟩:=T.ahead hq
     obtain ⟨j,hj⟩:=List.getElem?_of_mem h1
     have hjl:=(List.getElem?_eq_some_iff.mp hj).1
     exact ⟨j,x,by omega,by rw [List.getElem?_append_left hjl]; exact hj,h2,h3,h4⟩
  have:=oK r _ _ (fun x hx=>h x (List.mem_cons_of_mem _ hx)) T2 F2
  rw [List.append_assoc] at this
  exact this
theorem wu {vs:List Iv}(h:∀v∈vs,v.lo<=v.hi):Fit (dj vs fun _=>[]):=by
 have:=oK vs [] (fun _=>[]) h Told.nil ⟨List.Pairwise.nil,fun i y hy=>by cases hy⟩
 exact this
theorem im:∀(vs:List Iv) (f:Ends),(dj vs f).map (·.1)=vs
 | [],_=>rfl
 | v :: r,f=>by unfold dj; rw [List.map_cons,im r]
theorem kJ:∀(vs us:List Iv) (f:Ends),dj (vs++us) f=dj vs f++dj us (dn vs f)
 | [],us,f=>rfl
 | v :: r,us,f=>by
  show (v,_) :: dj (r++us) _=(v,_) :: (dj r _++dj us (dn r _))
  rw [kJ r us]
structure PrOk (ivs:List Iv) (ps:List Nat):Prop where
 len:ps.length=ivs.length
 apart:∀(i j:Nat) u v p,ivs[i]?=some u->ivs[j]?=some v->ps[i]?=some p->ps[j]?=some p->i≠j->u.reel=v.reel->u.hi<v.lo\/v.hi<u.lo
 full:∀(j:Nat) v p,ivs[j]?=some v->ps[j]?=some p->∀q,q<p->∃(i:Nat) (u:Iv),ivs[i]?=some u/\ps[i]?=some q/\u.reel=v.reel/\u.lo<=v.lo/\v.lo<=u.hi
theorem gR {α:Type}{R:α->α->Prop}{l:List α}(h:l.Pairwise R) {i j:Nat}{x y:α}(hij:i<j) (hx:l[i]?=some x) (hy:l[j]?=some y):R x y:=by
 obtain ⟨h1,h2⟩:=List.getElem?_eq_some_iff.mp hx
 obtain ⟨h3,h4⟩:=List.getElem?_eq_some_iff.mp hy
 have:=(List.pairwise_iff_getElem.mp h) i j h1 h3 hij
 rw [h2,h4] at this
 exact this
theorem vw {ivs:List Iv}{ps js:List Nat}(hl:ps.length=ivs.length) (hv:∀v∈ivs,v.lo<=v.hi) (hp:js.Perm (List.range ivs.length)) (d:Iv) (hs:js.Pairwise fun a b=>(ivs.getD a d).lo<=(ivs.getD b d).lo)
  (hps:∀(i j:Nat) x,js[i]?=some j->(dj (js.map fun j=>ivs.getD j d) fun _=>[])[i]?=some x->ps[j]?=some x.2):PrOk ivs ps:=by
 have hmem:∀j∈js,j<ivs.length:=fun j hj=>List.mem_range.mp (hp.mem_iff.mp hj)
 have F:=wu (vs:=js.map fun j=>ivs.getD j d) fun v hv'=>by
  obtain ⟨j,hj,rfl⟩:=List.mem_map.mp hv'
  have:=hmem j hj
  rw [List.getD_eq_getElem?_getD,List.getElem?_eq_getElem this]
  exact hv _ (List.getElem_mem this)
 have fst:=im (js.map fun j=>ivs.getD j d) fun _=>[]
 have at':∀(j:Nat) v p,ivs[j]?=some v->ps[j]?=some p->∃i:Nat,js[i]?=some j/\(dj (js.map fun j=>ivs.getD j d) fun _=>[])[i]?=some (v,p):=by
  intro j v p h1 h2
  have hj:j<ivs.length:=(List.getElem?_eq_some_iff.mp h1).1
  obtain ⟨i,hi⟩:=List.getElem?_of_mem (hp.mem_iff.mpr (List.mem_range.mpr hj))
  refine ⟨i,hi,?_⟩
  have hx:((dj (js.map fun j=>ivs.getD j d) fun _=>[]).map (·.1))[i]?=some v:=by
   rw [fst,List.getElem?_map,hi]
   show some (ivs.getD j d)=some v
   rw [List.getD_eq_getElem?_getD,h1]
   rfl
  rw [List.getElem?_map] at hx
  cases hz:(dj (js.map fun j=>ivs.getD j d) fun _=>[])[i]? with
  | none=>rw [hz] at hx; cases hx
  | some x =>
   rw [hz] at hx
   have e1:x.1=v:=Option.some.inj hx
   have e2:=hps i j x hi hz
   rw [h2] at e2
   have e2:=Option.some.inj e2
   rw [<- e1,e2]
 have nd:js.Nodup:=hp.nodup_iff.mpr List.nodup_range
 have back:∀(i:Nat) x,(dj (js.map fun j=>ivs.getD j d) fun _=>[])[i]?=some x->∃j:Nat,js[i]?=some j/\ivs[j]?=some x.1/\ps[j]?=some x.2:=by
  intro i x hx
  have hl2:=congrArg List.length fst
  rw [List.length_map,List.length_map] at hl2
  have hi:=(List.getElem?_eq_some_iff.mp hx).1
  have hj:js[i]?=some js[i]:=List.getElem?_eq_getElem (by omega)
  refine ⟨_,hj,?_,hps i _ x hj hx⟩
  have hjl:=hmem _ (List.getElem_mem (l:=js) (n:=i) (by omega))
  have:=congrArg (fun l=>l[i]?) fst
  simp only [List.getElem?_map,hx,hj] at this
  have this:x.1=ivs.getD js[i] d:=Option.some.inj this
  rw [this,List.getD_eq_getElem?_getD,List.getElem?_eq_getElem hjl]
  rfl
 refine ⟨hl,fun i j u v p h1 h2 h3 h4 hne hr=>?_,fun j v p h1 h2 q hq=>?_⟩
 ·obtain ⟨a,ha,hoa⟩:=at' i u p h1 h3
  obtain ⟨b,hb,hob⟩:=at' j v p h2 h4
  rcases Nat.lt_trichotomy a b with k | k | k
  ·exact .inl (gR F.apart k hoa hob hr rfl)
  ·rw [k,hb] at ha
   exact absurd (Option.some.inj ha).symm hne
  ·exact .inr (gR F.apart k hob hoa hr.symm rfl)
 ·obtain ⟨b,hb,hob⟩:=at' j v p h1 h2
  obtain ⟨a,x,hab,hx,hr,hq2,hlo⟩:=F.full b (v,p) hob q hq
  obtain ⟨i,hi,h3,h4⟩:=back a x hx
  refine ⟨i,x.1,h3,by rw [<- hq2]; exact h4,hr,?_,hlo⟩
  have:=gR hs hab hi hb
  rw [List.getD_eq_getElem?_getD,h3,List.getD_eq_getElem?_getD,h1] at this
  exact this
theorem gU {α:Type} [DecidableEq α]:∀{l m:List α},l.Nodup->(∀x∈l,x∈m)->l.length<=m.length
 | [],_,_,_=>Nat.zero_le _
 | a :: l,m,hn,h=>by
  obtain ⟨h1,h2⟩:=List.nodup_cons.mp hn
  have ha:=h a (List.mem_cons_self ..)
  have:=gU (l:=l) (m:=m.erase a) h2 fun x hx=>by
   have hne:x≠a:=fun e=>h1 (e ▸ hx)
   exact (List.mem_erase_of_ne hne).mpr (h x (List.mem_cons_of_mem _ hx))
  rw [List.length_erase_of_mem ha] at this
  have hm:0<m.length:=List.length_pos_of_mem ha
  rw [List.length_cons]
  omega
def qJ (r:Str) (x:Int) (v:Iv):Bool:=decide (v.reel=r)&&(decide (v.lo<=x)&&decide (x<=v.hi))
def bE (ivs:List Iv) (r:Str) (x:Int):List Nat:=(List.range ivs.length).filter fun k=>match ivs[k]? with
 | some v=>qJ r x v
 | none=>false
theorem mem_wanting {ivs:List Iv}{r:Str}{x:Int}{k:Nat}:k∈bE ivs r x↔∃v,ivs[k]?=some v/\v.reel=r/\v.lo<=x/\x<=v.hi:=by
 unfold bE
 rw [List.mem_filter,List.mem_range]
 constructor
 ·rintro ⟨h1,h2⟩
  rw [List.getElem?_eq_getElem h1] at h2
  refine ⟨_,List.getElem?_eq_getElem h1,?_⟩
  unfold qJ at h2
  simpa using h2
 ·rintro ⟨v,h1,h2⟩
  refine ⟨(List.getElem?_eq_some_iff.mp h1).1,?_⟩
  rw [h1]
  unfold qJ
  simpa using h2
theorem eX (ivs:List Iv) (r:Str) (x:Int):(bE ivs r x).Nodup:=List.Pairwise.filter _ List.nodup_range
theorem PrOk.many {ivs:List Iv}{ps:List Nat}(P:PrOk ivs ps) {j:Nat}{v:Iv}{p:Nat}(hv:ivs[j]?=some v) (hp:ps[j]?=some p) (hl:v.lo<=v.hi):p+1<=(bE ivs v.reel v.lo).length:=by
 have h:∀q∈List.range (p+1),q∈(bE ivs v.reel v.lo).map fun k=>ps.getD k 0:=by
  intro q hq
  have hq:=List.mem_range.mp hq
  by_cases k:q=p
  ·refine List.mem_map.mpr ⟨j,mem_wanting.mpr ⟨v,hv,rfl,Int.le_refl _,hl⟩,?_⟩
   rw [List.getD_eq_getElem?_getD,hp,k]
   rfl
  ·obtain ⟨i,u,h1,h2,h3,h4,h5⟩:=P.full j v p hv hp q (by omega)
   refine List.mem_map.mpr ⟨i,mem_wanting.mpr ⟨u,h1,h3,h4,h5⟩,?_⟩
   rw [List.getD_eq_getElem?_getD,h2]
   rfl
 have:=gU List.nodup_range h
 rw [List.length_range,List.length_map] at this
 exact this
theorem PrOk.few {ivs:List Iv}{ps:List Nat}(P:PrOk ivs ps) {r:Str}{x:Int}{n:Nat}(hn:∀(k:Nat) v p,ivs[k]?=some v->ps[k]?=some p->v.reel=r->p<n):(bE ivs r x).length<=n:=by
 have get:∀k∈bE ivs r x,∃v p,ivs[k]?=some v/\ps[k]?=some p/\v.reel=r/\v.lo<=x/\x<=v.hi:=by
  intro k hk
  obtain ⟨v,h1,h2,h3,h4⟩:=mem_wanting.mp hk
  have hkl:=(List.getElem?_eq_some_iff.mp h1).1
  exact ⟨v,_,h1,List.getElem?_eq_getElem (by rw [P.len]; exact hkl),h2,h3,h4⟩
 have nd:((bE ivs r x).map fun k=>ps.getD k 0).Nodup:=by
  unfold List.Nodup
  rw [List.pairwise_map]
  refine List.Pairwise.imp_of_mem ?_ (eX ivs r x)
  intro a b ha hb hab e
  obtain ⟨u,p,h1,h2,h3,h4,h5⟩:=get a ha
  obtain ⟨v,q,g1,g2,g3,g4,g5⟩:=get b hb
  rw [List.getD_eq_getElem?_getD,h2,List.getD_eq_getElem?_getD,g2] at e
  have e:p=q:=e
  subst e
  rcases P.apart a b u v p h1 g1 h2 g2 hab (by rw [h3,g3]) with k | k <;> omega
 have:=gU nd (m:=List.range n) fun q hq=>by
  obtain ⟨k,hk,rfl⟩:=List.mem_map.mp hq
  obtain ⟨v,p,h1,h2,h3,_⟩:=get k hk
  rw [List.getD_eq_getElem?_getD,h2]
  exact List.mem_range.mpr (hn k v p h1 h2 h3)
 rw [List.length_map,List.length_range] at this
 exact this
structure Hd (c:Clip) (j:Nat) (s:Clip):Prop where
 re:s.reel=c.reel
 b:s.b=c.a+((j-1:Nat):Int)*c.way
 w:s.a=s.b\/s.way=c.way
theorem yT {c s:Clip}{j:Nat}(h:Hd c j s) (h1:1<=j):can s ⟨c.reel,c.a+(j:Int)*c.way,0⟩:=by
 refine ⟨h.re,?_⟩
 have e:c.a+(j:Int)*c.way=s.b+c.way:=by
  rw [h.b]
  rcases way_abs c with k | k <;> rw [k] <;> omega
 show iH s (c.a+(j:Int)*c.way)
 rw [e]
 unfold iH
 rcases h.w with k | k
 ·rw [if_pos k]
  rcases way_abs c with k | k <;> rw [k] <;> omega
 ·split
  ·rcases way_abs c with k | k <;> rw [k] <;> omega
  ·rw [k]
theorem yS {c s:Clip}{j:Nat}(h:Hd c j s) (h1:1<=j):Hd c (j+1) ⟨s.reel,s.a,c.a+(j:Int)*c.way,s.f⟩:=by
 have e:c.a+(j:Int)*c.way=s.b+c.way:=by
  rw [h.b]
  rcases way_abs c with k | k <;> rw [k] <;> omega
 refine ⟨h.re,rfl,.inr ?_⟩
 have wd:s.way=if s.b<s.a then -1 else 1:=rfl
 show (if c.a+(j:Int)*c.way<s.a then (-1:Int) else 1)=c.way
 rw [e]
 rcases way_abs c with k | k <;> rcases h.w with k2 | k2 <;> rw [k] at*<;> split <;> (try split at wd) <;> omega
theorem lN (c:Clip) (r:List Clip):∀j,1<=j->j<=c.cnt->((c.ms.take j).foldl aU r).length<=r.length\/(((c.ms.take j).foldl aU r).length=r.length+1/\∃s t,(c.ms.take j).foldl aU r=s :: t/\Hd c j s)
 | 0,h,_=>absurd h (by decide)
 | 1,_,hc=>by
  have e:c.ms.take 1=[⟨c.reel,c.a,c.f⟩]:=by rw [fY]; rfl
  rw [e]
  show (aU r ⟨c.reel,c.a,c.f⟩).length<=_\/_
  have hd:Hd c 1 ⟨c.reel,c.a,c.a,c.f⟩:=⟨rfl,by simp,.inl rfl⟩
  cases r with
  | nil=>exact .inr ⟨rfl,_,_,rfl,hd⟩
  | cons s t =>
   show (aU (s :: t) _).length<=_\/((aU (s :: t) _).length=_/\∃s' t',aU (s :: t) _=s' :: t'/\_)
   rw [aZ]
   split
   ·exact .inl (Nat.le_refl _)
   ·exact .inr ⟨rfl,_,_,rfl,hd⟩
 | j+2,_,hc=>by
  have hu:=sY (c:=c) (k:=j+1) (by omega)
  have e:c.ms.take (j+2)=c.ms.take (j+1)++[⟨c.reel,c.a+((j+1:Nat):Int)*c.way,0⟩]:=by
   rw [List.take_add_one (i:=j+1),yH hu]
   simp
  have ih:=lN c r (j+1) (by omega) (by omega)
  rw [e,List.foldl_append]
  show (aU _ _).length<=_\/((aU _ _).length=_/\∃s t,aU _ _=s :: t/\_)
  generalize hA:(c.ms.take (j+1)).foldl aU r=acc at ih
  rcases ih with ih | ⟨h1,s,t,h2,h3⟩
  ·have hd:Hd c (j+2) ⟨c.reel,c.a+((j+1:Nat):Int)*c.way,c.a+((j+1:Nat):Int)*c.way,0⟩:=⟨rfl,rfl,.inl rfl⟩
   cases acc with
   | nil =>
    by_cases k:r.length=0
    ·exact .inr ⟨by rw [k]; rfl,_,_,rfl,hd⟩
    ·exact .inl (by show 1<=r.length; omega)
   | cons s t =>
    rw [aZ]
    split
    ·exact .inl ih
    ·by_cases k:(s :: t).length=r.length
     ·exact .inr ⟨by rw [List.length_cons,k],_,_,rfl,hd⟩
     ·exact .inl (by rw [List.length_cons]; omega)
  ·rw [h2,aZ,if_pos ⟨Int.le_refl 0,yT h3 (by omega)⟩]
   rw [h2] at h1
   exact .inr ⟨h1,_,_,rfl,yS h3 (by omega)⟩
theorem tH (c:Clip) (r:List Clip):(c.ms.foldl aU r).length<=r.length+1:=by
 have h:=lN c r c.cnt (by unfold Clip.cnt; omega) (Nat.le_refl _)
 rw [<- tw,List.take_length] at h
 omega
theorem iA:∀(cs:List Clip) (r:List Clip),((moments cs).foldl aU r).length<=r.length+cs.length
 | [],r=>Nat.le_refl _
 | c :: cs,r=>by
  rw [bH,List.foldl_append,List.length_cons]
  have h1:=iA cs (c.ms.foldl aU r)
  have h2:=tH c r
  omega
end KS
namespace L2
open PySem PySem.Spec PyProof.Rows
section
variable {prog:Program}{w:World}{A:Around}{E:Value->Shared->Prop}{s:Shared}{a kS:Addr}{vs:List Value}{kz:List Int}{keys:Array Value}{e e1:Nat}{P:PySem.Fin->Shared->Prop}{Ψ:Shared->Prop}
def dq (Ψ:Shared->Prop) (c:Addr):Prop:=∀(s:Shared) (h':Heap),Ψ s->Heap.SameBut c s.heap h'->Ψ { s with heap:=h' }
theorem ny {st:SortSt}(I:Ψ s) (ok:dq Ψ kS) (oa:dq Ψ a) (nk:s.heap.get? kS=some (seqObj "list" keys e)) (na:s.heap.get? a=some (seqObj "list" #[] e1)) (hka:kS≠a)
  (hk:IntsAre keys.toList kz) (hlen:kz.length=vs.length) (h64:vs.length<64) (hp:(arrOf st).Perm (keys.zip vs.toArray)) (hs:SortedTo (arrOf st) (arrOf st).size) (hfl:failedOf st=none)
  (h:∀s' out c,Ψ s'->s'.heap.get? a=some (seqObj "list" out c)->KskOut false kz vs out.toList->P (.done (.ret .none)) s') :
  wpAny (model prog w) A (ksk_tail a false e1 (.ref kS) st) P E s:=by
 have hsz:keys.size=vs.length:=by
  have h1:=hk.length
  rw [Array.length_toList] at h1
  omega
 have hsz2:(arrOf st).size=vs.length:=by rw [hp.size_eq,Array.size_zip,hsz,List.size_toArray,Nat.min_self]
 have hout:(if false then ((arrOf st).map (·.2)).reverse else (arrOf st).map (·.2)).size=vs.length:=by
  simp only [Bool.false_eq_true,if_false,Array.size_map]; exact hsz2
 have s1:=Heap.SameBut.update s.heap kS (Obj.mapSeq fun _=>(#[]:Array Value))
 have na1:(s.heap.update kS (Obj.mapSeq fun _=>(#[]:Array Value))).get? a=some (seqObj "list" #[] e1):=(s1.2 a hka.symm).trans na
 have s2:=Heap.SameBut.update (s.heap.update kS (Obj.mapSeq fun _=>(#[]:Array Value))) a (Obj.mapSeq fun _=>if false then ((arrOf st).map (·.2)).reverse else (arrOf st).map (·.2))
 obtain ⟨c2,hc2⟩:∃c2,((s.heap.update kS (Obj.mapSeq fun _=>(#[]:Array Value))).update a (Obj.mapSeq fun _=>if false then ((arrOf st).map (·.2)).reverse else (arrOf st).map (·.2))).get? a=some (seqObj "list" (if false then ((arrOf st).map (·.2)).reverse else (arrOf st).map (·.2)) c2) :=
  ⟨_,get?_update_seq na1 fun _=>if false then ((arrOf st).map (·.2)).reverse else (arrOf st).map (·.2)⟩
 unfold ksk_tail
 try dsimp only
 refine wpAny_bind (listUpdate_at nk rfl ?_ (by rw [hsz,sizeLine_eq]; omega) (Nat.zero_le _))
 refine wpAny_bind (wpAny_letGo ?_)
 refine wpAny_bind (seqEpoch_at na1 rfl ?_)
 refine wpAny_bind (listUpdate_at na1 rfl ?_ (Nat.zero_le _) (Nat.le_trans (Nat.le_of_eq hout) (by rw [sizeLine_eq]; omega)))
 rw [hfl]
 simp only [bne_self_eq_false,Bool.false_eq_true,if_false]
 have I1:=ok s _ I s1
 have I2:=oa _ _ I1 s2
 exact wpAny_pure (h _ _ c2 I2 hc2 (ksk_out (b:=false) hk hp hs))
theorem xG (I:Ψ s) (ok:dq Ψ kS) (oa:dq Ψ a) (nk:s.heap.get? kS=some (seqObj "list" keys e)) (na:s.heap.get? a=some (seqObj "list" #[] e1)) (hka:kS≠a)
  (hk:IntsAre keys.toList kz) (hlen:kz.length=vs.length) (h64:vs.length<64)
  (h:∀s' out c,Ψ s'->s'.heap.get? a=some (seqObj "list" out c)->KskOut false kz vs out.toList->P (.done (.ret .none)) s') :
  wpAny (model prog w) A (ksk_end a false vs.toArray e1 (.ref kS) keys) P E s:=by
 have hsz:keys.size=vs.length:=by
  have h1:=hk.length
  rw [Array.length_toList] at h1
  omega
 have hzs:(keys.zip vs.toArray).size=vs.length:=by rw [Array.size_zip,hsz,List.size_toArray,Nat.min_self]
 unfold ksk_end
 try dsimp only
 simp only [Bool.false_eq_true,if_false]
 by_cases h2:vs.toArray.size<2
 ·rw [if_pos h2,if_pos h2]
  refine wpAny_bind (wpAny_pure ?_)
  rw [StateT.run_pure]
  refine wpAny_bind (wpAny_pure ?_)
  try dsimp only
  refine ny (st:=SortSt.mk' general' (keys.zip vs.toArray) #[] 7 none) I ok oa nk na hka hk hlen h64 (Array.Perm.refl _) ?_ rfl h
  intro i j hij hj
  have hj2:j<(keys.zip vs.toArray).size:=hj
  rw [hzs] at hj2
  rw [List.size_toArray] at h2
  have:i=j:=by omega
  subst this
  exact Int.le_refl _
 ·rw [if_neg h2,if_neg h2]
  rw [List.size_toArray] at h2
  rw [ksk_kind hk (by rw [hsz]; omega)]
  refine wpAny_bind (wpAny_pure ?_)
  refine wpAny_bind (wpAny_mono (wpS_sortRuns (a₀:=keys.zip vs.toArray) (st:=SortSt.mk' oneType' (keys.zip vs.toArray) #[] 7 none)
   (Q:=fun _ st'=>(arrOf st').Perm (keys.zip vs.toArray)/\failedOf st'=none/\SortedTo (arrOf st') (keys.zip vs.toArray).size)
   (ksk_intKeys hk) ⟨Array.Perm.refl _,rfl,rfl,rfl⟩ (by rw [hzs]; omega) (by rw [hzs]; exact h64) fun st' a1 a2 a3=>⟨a1,a2,a3⟩) ?_ fun _ _ e=>e)
  rintro ⟨⟨⟩,st'⟩ s' ⟨rfl,hp,hf,hs⟩
  try dsimp only
  exact ny I ok oa nk na hka hk hlen h64 hp (by rw [hp.size_eq]; exact hs) hf h
end
theorem qc {P:Program}{w:World}{K:PySem.W.Frag}{mg mb:Str->Option Value}{CX:CXT}{k:Nat}{fa a c T:Addr}{fd:FuncData}{x:Str}{sp:Sp}{s₁:Shared}{vs:List Value}{ns:List Int}
  (KX:K.In s₁.heap) (hns:s₁.heap.Ns mainGlobals mg) (hb:s₁.heap.Ns builtinsNs mb) (hbb:∀x:Str,x≠"__name__"->mb x=bootBuiltins x) (hlim:s₁.heap.NoLimit) (hg:s₁.gens=#[])
  (ha:s₁.heap.get? a=some { cls:=.type "list",data:=.seq vs.toArray }) (hi:IntsAre vs ns) (hl:ns.length<=sizeLine) (hr:Room k callerA)
  (hP:s₁.heap.get? T=some (PySem.W.tabObj #[])) (hKP:K.lookup T=none) (hC:PySem.W.CodeHd s₁.heap c T) (hB:s₁.heap.BuiltinsAt mg T)
  (F:∀base:Heap,K.In base->base.Ns mainGlobals mg->base.BuiltinsAt mg T->aG P w K mg base CX k fa fd [x] sp) (hbind:∀(s:Shared) (u:Value),BindsTo s fd ⟨[u],[]⟩ [(x,u)])
  (hsp:∀H:Hp,SqL K H a (ns.map V.int)->H T=some (.tbl #[])->sp [.ref a] H (fun v _=>v=.bl true) fun _ _ _=>False)
  (hCX:∀H e s',CX [] H s₁ (fun _ _ _=>False) e s'->False) :
  codeAny (model P w) callerA (.call (.ref fa) ⟨[.ref a],[]⟩) (fun r s'=>r=.ok (.ret (.bool true))/\OldK s₁.heap s'.heap/\s'.os=s₁.os/\AllBare s'.gens) s₁:=by
 have rv:=gj hi
 have lenV:=hi.length
 have haT:a≠T:=fun q=>by rw [q,hP] at ha; cases ha
 have core:∀H:Hp,SqL K H a (ns.map V.int)->HOk P w H s₁.heap->H T=some (.tbl #[])->(∀b,H b≠none->b=a\/b=T)->(∀u,H a=some u->∃ob xs,u=.frz ob (.lst xs))->(H a≠none->K.lookup a=none) ->
   codeAny (model P w) callerA (.call (.ref fa) ⟨[.ref a],[]⟩) (fun r s'=>r=.ok (.ret (.bool true))/\OldK s₁.heap s'.heap/\s'.os=s₁.os/\AllBare s'.gens) s₁:=by
  intro H hS hok hT hA hF hK
  have base_of:∀{b:Addr}{o:Obj},s₁.heap.get? b=some o->H b=none->(i6 s₁.heap H).get? b=some o:=fun e n=>tX e n
  have noA:∀{b:Addr}{o:Obj},s₁.heap.get? b=some o->(∀vs n,o.data≠.seq vs n)->(∀vs,o.data≠.fields vs)->H b=none:=fun {b o} e d1 d2=>by
   cases q:H b with
   | none=>rfl
   | some u =>
    rcases hA b (by rw [q]; simp) with e' | e'
    ·subst e'
     rw [ha] at e; cases e
     exact absurd rfl (d1 _ _)
    ·subst e'
     rw [hP] at e; cases e
     exact absurd rfl (d2 _)
  have nsK:∀{b:Addr}{m:Str->Option Value},s₁.heap.Ns b m->(i6 s₁.heap H).Ns b m:=fun {b m} ⟨o,es,ep,e,d,r⟩=>⟨o,es,ep,base_of e (noA e (fun _ _ z=>by rw [d] at z; cases z) fun _ z=>by rw [d] at z; cases z),d,r⟩
  have hKb:K.In (i6 s₁.heap H):=fun b o e=>base_of (KX b o e) (by
   cases q:H b with
   | none=>rfl
   | some u =>
    rcases hA b (by rw [q]; simp) with e' | e'
    ·subst e'
     rw [hK (by rw [q]; simp)] at e; cases e
    ·subst e'
     rw [hKP] at e; cases e)
  have hBb:(i6 s₁.heap H).BuiltinsAt mg T:=by
   obtain ⟨bm,o,b1,b2,b3,b4,b5,b6,b7,b8⟩:=hB
   exact ⟨bm,o,b1,b2,b3,b4,base_of b5 (noA b5 (fun _ _ z=>by rw [b8] at z; cases z) fun _ z=>by rw [b8] at z; cases z),b6,b7,b8⟩
  have hM:Mod K mg (i6 s₁.heap H):=⟨hKb,nsK hns,⟨mb,nsK hb,hbb⟩,let ⟨mc,h1,h2⟩:=hlim; ⟨mc,nsK h1,h2⟩⟩
  have e0:Env0 P w K mg (i6 s₁.heap H) callerA [] s₁ H:=⟨rfl,hM,fun b o e=>vX e,Nat.le_of_eq (qh _ _),trivial,fun b hb=>absurd (show b∈([]:List Addr) from hb) (by simp),hok,.of_eq hg⟩
  refine codeAny_mono ((F _ hKb (nsK hns) hBb).run callerA [] s₁ H ⟨[.ref a],[]⟩ [.ref a] [.ref a] _ _ hr e0 (hbind s₁ (.ref a)) (.cons rfl .nil) (hsp H hS hT)) fun r s' h=>?_
  cases r with
  | error e=>exact (hCX H e s' h).elim
  | ok fl =>
   cases fl with
   | next=>exact False.elim h
   | brk=>exact False.elim h
   | cont=>exact False.elim h
   | ret u =>
    obtain ⟨v,H',os,bare,un,hok',r',q⟩:=h
    have q':v=.bl true:=q
    subst q'
    obtain rfl:u=Value.bool true:=r'
    obtain ⟨more,hT'⟩:=un.tbls T #[] hT
    have gT:s'.heap.get? T=some (PySem.W.tabObj (#[]++more)):=hok' T _ hT'
    have all:∀b o,s₁.heap.get? b=some o->b≠T->s'.heap.get? b=some o:=fun b o e hb=>by
     cases q:H b with
     | none=>exact un.keep b o e q (by intro z; exact absurd (show b∈([]:List Addr) from z) (by simp)) (by simp)
     | some u =>
      rcases hA b (by rw [q]; simp) with e' | e'
      ·subst e'
       obtain ⟨ob,xs,rfl⟩:=hF u q
       have z2:=un.frzs b ob _ q
       obtain ⟨e1,_⟩:=hok b _ q
       obtain ⟨e2,_⟩:=hok' b _ z2
       rw [e] at e1; cases e1
       exact e2
      ·exact absurd e' hb
    refine ⟨rfl,⟨fun b o e=>?_,fun b o e=>?_⟩,os,bare⟩
    ·by_cases hb:b=T
     ·subst hb
      rw [hP] at e
      cases e
      obtain ⟨o,vs',file,tf,flags,tg,inF,text,tt,c1,c2,c3,c4,_⟩:=hC
      exact .inr (.inl ⟨⟨c,o,vs',c1,c2,c3,c4⟩,rfl,#[],more,rfl,gT⟩)
     ·exact .inl (all b o e hb)
    ·by_cases hb:b=T
     ·subst hb; exact ⟨_,gT⟩
     ·exact ⟨o,all b o e hb⟩
 have hTa:T≠a:=haT.symm
 cases hk:K.lookup a with
 | some o =>
  have e:=KX a o hk
  rw [ha] at e
  cases e
  refine core (fun b=>if b=T then some (.tbl #[]) else none) (.inr ⟨_,vs.toArray,_,hk,rfl,rfl,rfl,by rw [List.size_toArray,lenV]; exact hl,by simpa using rv⟩) (fun b u z=>?_) (if_pos rfl) (fun b z=>?_) (fun u z=>?_) fun z=>?_
  ·by_cases hb:b=T
   ·have z':=(if_pos hb).symm.trans z
    cases z'
    subst hb
    exact hP
   ·have z':=(if_neg hb).symm.trans z
    cases z'
  ·by_cases hb:b=T
   ·exact .inr hb
   ·exact absurd (if_neg hb) z
  ·have z':=(if_neg haT).symm.trans z
   cases z'
  ·exact absurd (if_neg haT) z
 | none =>
  refine core (fun b=>if b=T then some (.tbl #[]) else if b=a then some (.frz { cls:=.type "list",data:=.seq vs.toArray } (.lst (ns.map V.int))) else none)
   (.inl (.inr ⟨{ cls:=.type "list",data:=.seq vs.toArray },(if_neg haT).trans (if_pos rfl)⟩)) (fun b u z=>?_) (if_pos rfl) (fun b z=>?_) (fun u z=>?_) fun _=>hk
  ·by_cases hb:b=T
   ·have z':=(if_pos hb).symm.trans z
    cases z'
    subst hb
    exact hP
   ·have z':=(if_neg hb).symm.trans z
    by_cases hb2:b=a
    ·have z2:=(if_pos hb2).symm.trans z'
     cases z2
     subst hb2
     exact ⟨ha,by rw [List.length_map]; exact hl,vs,_,rv,ha⟩
    ·have z2:=(if_neg hb2).symm.trans z'
     cases z2
  ·by_cases hb:b=T
   ·exact .inr hb
   ·by_cases hb2:b=a
    ·exact .inl hb2
    ·exact absurd ((if_neg hb).trans (if_neg hb2)) z
  ·have z':=((if_neg haT).trans (if_pos rfl)).symm.trans z
   cases z'
   exact ⟨_,_,rfl⟩
theorem walk_ofT {l:PySem.W.OpenLaw}{n k:Nat}{c T:Addr}{q:Program}{loose:List Str}{XP:(Str->Option Value)->Heap->Prop}{YP:World->Heap->Prop}{d:DefRec}{K:Params->PySem.W.Frag}{CX:CXT}{sp:PySem.W.Frag->Sp}{x:Str}
  (hn:l.most=some n) (hn2:n<=sizeLine) (hdf:d.params.defaults=[]) (hr:Room k callerA)
  (hY:∀(w:World) (h:Heap),YP w h->(K w.params).In h/\h.get? T=some (PySem.W.tabObj #[])) (hKP:∀w:World,(K w.params).lookup T=none) (hC:∀w:World,PySem.W.codeHdIn (K w.params) c T=true)
  (F:∀(w:World) (mg:Str->Option Value) (fa:Addr) (h:Heap),(K w.params).In h->h.Ns mainGlobals mg->mg d.name=some (.ref fa) ->
   ∃fd:FuncData,(∀(s:Shared) (u:Value),BindsTo s fd ⟨[u],[]⟩ [(x,u)]) /\
    ∀base:Heap,(K w.params).In base->base.Ns mainGlobals mg->base.BuiltinsAt mg T->aG l.prog w (K w.params) mg base CX k fa fd [x] (sp (K w.params)))
  (hsp:∀(K:PySem.W.Frag) (H:Hp) (a:Addr) (ns:List Int),ns.length<=n->SqL K H a (ns.map V.int)->H T=some (.tbl #[])->sp K [.ref a] H (fun v _=>v=.bl true) fun _ _ _=>False)
  (hCX:∀(H:Hp) (s:Shared) (e:Value) (s':Shared),CX [] H s (fun _ _ _=>False) e s'->False) :
  PySem.W.WalkO q loose XP YP l.row.toRowW d [] (fun f vs=>PySem.call f vs):=by
 refine Att.attach_call hn hdf fun w s₀ s₁ mg mb fa o pm cd doc a vs ns G Y ho hd hcd hmg hobj hints hlen hg=>?_
 obtain ⟨KX,hP⟩:=hY w _ Y
 obtain ⟨fd,hb,hF⟩:=F w mg fa _ KX G.T.g hmg
 have hB:s₁.heap.BuiltinsAt mg T:=by
  obtain ⟨bm,ob,b1,b2,b3,b4,b5,b6⟩:=G.T.bmain
  refine ⟨bm,ob,b1,b2,fun z=>?_,fun z=>?_,b3,b4,b5,b6⟩
  ·obtain ⟨o',es,ep,e,hd',_⟩:=G.T.g
   rw [z,e] at b3; cases b3; rw [hd'] at b6; cases b6
  ·rw [z,hP] at b3; cases b3; cases b4
 exact qc KX G.T.g G.T.b G.T.builtins G.T.nolimit hg hobj hints (Nat.le_trans hlen hn2) hr hP (hKP w) (PySem.W.codeHd_of_K KX (hC w)) hB hF hb (fun H hS hT=>hsp (K w.params) H a ns hlen hS hT) fun H e s'=>hCX H s₁ e s'
end L2
namespace L2
open PySem PySem.Spec PyProof.Rows
open PySem.W (envX kla_obj kla_fn)
def fb (X:Cx) (A:Around) (qual:Str) (sc:Scope) (N':List Str) (cl:List (Str×Addr)) (s:Shared) (H:Hp) (f:Addr) (cd:Value):Cx :=
 { X with A:=A.deeper (envX qual sc s.heap.objs.size f cd cl),N:=N',s₀:=s,H₀:=H,env:=envX qual sc s.heap.objs.size f cd cl,outer:=X.stack,stack:=envX qual sc s.heap.objs.size f cd cl :: X.stack,ex:=[],fn:=fun _=>false,calm:=true,pn:=[],xe:=fun _ _=>False }
def LCaps (X:Cx) (sc:Scope) (cl:List (Str×Addr)):List Str->List Nat->Prop
 | [],[]=>True
 | y :: ys,j :: js=>X.N[j]?=some y/\X.env.kindOf y=some .cell/\cl.lookup y=X.env.cells.lookup y/\sc.names.lookup y=some .free/\LCaps X sc cl ys js
 | _,_=>False
theorem LCaps.get {X:Cx}{sc:Scope}{cl:List (Str×Addr)}:∀{ys:List Str}{js:List Nat}{i:Nat}{y:Str},LCaps X sc cl ys js->ys[i]?=some y ->
  ∃j,js[i]?=some j/\X.N[j]?=some y/\X.env.kindOf y=some .cell/\cl.lookup y=X.env.cells.lookup y/\sc.names.lookup y=some .free
 | [],[],i,y,_,e=>by simp at e
 | _ :: _,j :: _,0,y,h,e=>by
  simp at e
  subst e
  exact ⟨j,rfl,h.1,h.2.1,h.2.2.1,h.2.2.2.1⟩
 | _ :: _,_ :: _,i+1,y,h,e=>by
  have q:=LCaps.get (i:=i) (y:=y) h.2.2.2.2 (by simpa using e)
  simpa using q
 | [],_ :: _,_,_,h,_=>False.elim h
 | _ :: _,[],_,_,h,_=>False.elim h
theorem LCaps.len {X:Cx}{sc:Scope}{cl:List (Str×Addr)}:∀{ys:List Str}{js:List Nat},LCaps X sc cl ys js->ys.length=js.length
 | [],[],_=>rfl
 | _ :: _,_ :: _,h=>by simp [LCaps.len h.2.2.2.2]
 | [],_ :: _,h=>False.elim h
 | _ :: _,[],h=>False.elim h
section
variable {X:Cx}{A:Around}{qual x:Str}{sc:Scope}{ys:List Str}{js:List Nat}{cl:List (Str×Addr)}{f:Addr}{cd:Value}
theorem wc {pins:List (Addr×Obj)}{σ:St}{H:Hp}{s:Shared}{h₁:Heap}{m:Str->Option Value}{v:V}{u:Value}{tk:Nat}(I:Inv X pins σ H s) (hh:A.handled=none) (hf:A.frames=some X.stack)
  (hkind:sc.kind=.function) (hx:sc.names.lookup x=some .local) (hcap:LCaps X sc cl ys js) (hin:∀y c,cl.lookup y=some c->X.env.cells.lookup y=some c) (hhas:∀y,(sc.names.lookup y=some .cell\/sc.names.lookup y=some .free)->∃c,cl.lookup y=some c)
  (kp:∀b o,s.heap.get? b=some o->h₁.get? b=some o) (hn:h₁.Ns s.heap.objs.size m) (hm:m x=some u) (r:RelV v u) :
  Inv (fb X A qual sc (x :: ys) cl s H f cd) [] (some v :: c_ σ js) H { s with heap:=h₁,toks:=tk }:=by
 have noA:∀b:Addr,b ∉ (fb X A qual sc (x :: ys) cl s H f cd).ex:=fun b z=>absurd (show b∈([]:List Addr) from z) (by simp)
 refine ⟨⟨I.ok.mod,hkind,rfl,rfl,Nat.le_refl _,fun y z c h1 h2=>I.ok.inj y z c (hin y c h1) (hin z c h2),hhas,(fun _ _ z=>nomatch z),fun _=>hh,Around.frames_deeper hf,.inr ⟨rfl,rfl⟩,fun b z=>absurd z (noA b),I.bs,Nat.le_trans I.ok.bsz I.sz,fun b _ _=>noA b,fun b z=>absurd z (noA b),I.stack,I.stkFree⟩,
  rfl,I.bare,Un.kept kp,⟨m,hn,fun i y v' e1 e2 e3=>?_⟩,fun y c e=>?_,I.hok.fresh (Nat.le_refl _),fun y c e=>I.freeC y c (hin y c e),fun p hp=>?_,I.hok.kept kp,?_⟩
 ·cases i with
  | zero =>
   have z:some v=some v':=by simpa using e2
   cases z
   have z:x=y:=by simpa [fb] using e1
   subst z
   exact ⟨u,r,.inl ⟨hx,hm⟩⟩
  | succ i =>
   have e1':ys[i]?=some y:=by simpa [fb] using e1
   have e2':(c_ σ js)[i]?=some (some v'):=by simpa using e2
   obtain ⟨j,q1,q2,q3,q4,q5⟩:=hcap.get e1'
   unfold c_ at e2'
   rw [List.getElem?_map,q1] at e2'
   have e2'':(σ[j]?).join=some v':=by simpa using e2'
   have e3':σ[j]?=some (some v'):=by
    cases z:σ[j]? with
    | none=>rw [z] at e2''; cases e2''
    | some o =>
     cases o with
     | none=>rw [z] at e2''; cases e2''
     | some w'=>rw [z] at e2''; cases e2''; rfl
   obtain ⟨m0,_,hl⟩:=I.loc
   obtain ⟨u',r',l⟩:=hl j y v' q2 e3' (.inr (.inl q3))
   refine ⟨u',r',.inr ⟨.inr q5,?_⟩⟩
   rcases l with ⟨l1,_⟩ | ⟨_,c,l2,l3⟩
   ·rw [q3] at l1; cases l1
   ·obtain ⟨o,ho,hd⟩:=l3
    exact ⟨c,q4.trans l2,o,kp c o ho,hd⟩
 ·obtain ⟨v',o,ho,hd⟩:=I.cell y c (hin y c e)
  exact ⟨v',o,kp c o ho,hd⟩
 ·exact absurd (show p∈([]:List (Addr×Obj)) from hp) (by simp)
 ·show (some v :: c_ σ js).length=(x :: ys).length
  unfold c_
  rw [List.length_cons,List.length_cons,List.length_map,hcap.len]
theorem tM {name:Str}{params:Arguments}{body:Expr}{pm ctv:Value}{c':Addr}{te:TE}{pins:List (Addr×Obj)}{σ:St}{H:Hp}{s:Shared}{v:V}{u:Value}{Q:VK}{k:Nat}(I:Inv X pins σ H s) (hr:Room (k+1) A) (hf:A.frames=some X.stack)
  (ho:s.heap.get? f=some (kla_obj name qual params body sc cl pm c' ctv)) (hcd:s.heap.CodeRec (.ref c') qual)
  (hbind:bindArgs (kla_fn name qual params body sc cl pm (.ref c') ctv) ⟨[u],[]⟩=pure [(x,u)])
  (hco:sc.isCoroutine=false) (hgen:sc.isGenerator=false) (hkind:sc.kind=.function) (hcell:∀y∈sc.names,y.2≠.cell)
  (hx:sc.names.lookup x=some .local) (hcap:LCaps X sc cl ys js) (hin:∀y c,cl.lookup y=some c->X.env.cells.lookup y=some c) (hhas:∀y,(sc.names.lookup y=some .cell\/sc.names.lookup y=some .free)->∃c,cl.lookup y=some c)
  (he:Room k (fb X A qual sc (x :: ys) cl s H f (.ref c')).A->PE (fb X A qual sc (x :: ys) cl s H f (.ref c')) body te) (r:RelV v u) (h:te (some v :: c_ σ js) H Q) :
  wpAny (model X.prog X.w) A (call (.ref f) [u]) (EP X pins σ Q) (fun _ _=>False) s:=by
 refine wpAny_call ?_
 refine PySem.W.kla_callFunE hr.depth ho rfl hco hgen rfl hcd ?_
 rw [hbind]
 refine wpAny_pure (wpAny_newFunctionEnv hcell (fun y hy=>?_) (fun h₁ hns hsb=>?_) hkind)
 ·rcases List.mem_cons.mp hy with rfl | hy
  ·exact hx
  ·cases hy
 have kp:∀b o,s.heap.get? b=some o->h₁.get? b=some o:=fun b o e=>hsb.extBut b o (Nat.ne_of_lt (Heap.lt_size e)) (Heap.get?_push_of_some _ e)
 refine ⟨I.nolimit.keeps kp,?_⟩
 show codeAny _ _ (.expr body (envX qual sc s.heap.objs.size f (.ref c') cl)) _ _
 have J:=wc (qual:=qual) (f:=f) (cd:=.ref c') (tk:=s.toks+[(x,u)].length) I hr.hd hf hkind hx hcap hin hhas kp hns (by simp) r
 refine PySem.W.kla_codeExpr (wpAny_mono (he (hr.deeper _) [] _ _ _ _ J h) (fun u' s' hs=>?_) fun _ _ z=>False.elim z)
 obtain ⟨v',H',J',r',q⟩:=hs
 exact I.after (u:=u') ⟨v',H',J'.os,J'.bare,J'.base,J'.hok,r',q⟩
end
section
variable {prog:Program}{w:World}{A:Around}{E:Value->Shared->Prop}{s:Shared}
theorem lL {r:Addr}{a b c:Int}{t u v:Tok}{n:Nat}{Q:List Value->Shared->Prop}(hh:A.handled=none) (hr:IsRange s.heap r a b c t u v) (hsmall:Builtin.Range.small a b c=true) (hn:Builtin.Range.rangeSize a b c=n) (hlen:n<=2 ^ 24)
  (h:∀h' tk (acc:Array Value),(∀b o,s.heap.get? b=some o->h'.get? b=some o)->ItemsOf (fun i v=>∃t,v=.int (a+i*c) t) acc n->Q acc.toList { s with heap:=h',toks:=tk }) :
  wpAny (model prog w) A (collect (.ref r)) Q E s:=by
 unfold collect
 refine wpAny_bind (wpAny_runValue (codeAny_builtin PySem.F.entry_proto_collect ?_))
 rw [Around.under_plainId PySem.F.plain_proto_collect _]
 show wpAny _ A.in1 (newList [] >>= fun l=>again (.builtin "list.__iadd__" ⟨[l,.ref r],[]⟩)) _ _ s
 refine wpAny_bind (wpAny_newObj_type ?_)
 refine wpAny_pure ⟨plainId_quiet PySem.F.plain_list_iadd _,codeAny_builtin PySem.F.entry_list_iadd ?_⟩
 rw [Around.under_plainId PySem.F.plain_list_iadd _]
 show wpAny _ A.in1 (Builtin.List.listExtendWith (.ref s.heap.objs.size) (.ref r) (.ref s.heap.objs.size)) _ _ _
 have hS:(s.heap.push { cls:=.type "list",data:=.seq ([]:List Value).toArray }).get? s.heap.objs.size=some { cls:=.type "list",data:=.seq #[] 0 }:=Heap.get?_push_size _ rfl
 refine wpAny_extend_range (R:=fun r s'=>match r with
   | .ok (.ret v)=>wpAny (model prog w) A (match v with
    | .ref a=>(do
     let o <- load a
     match o.data with
     | .seq xs _=>pure xs.toList
     | _=>unsupported "internal:collect")
    | _=>unsupported "internal:collect") Q E s'
   | .ok _=>False
   | .error e=>E e s') (s:={ s with heap:=s.heap.push { cls:=.type "list",data:=.seq ([]:List Value).toArray } }) hh (Heap.get?_push_of_some _ hr) hsmall hn hlen s.heap.objs.size (.ref s.heap.objs.size) 0 hS fun h' tk acc' c' hk hS' hacc=>?_
 show wpAny (model prog w) A (do
   let o <- load s.heap.objs.size
   match o.data with
   | .seq xs _=>pure xs.toList
   | _=>unsupported "internal:collect") Q E { s with heap:=h',toks:=tk }
 refine wpAny_bind (wpAny_load hS' ?_)
 exact wpAny_pure (h h' tk acc' (fun b o e=>hk b o (Nat.ne_of_lt (Heap.lt_size e)) (Heap.get?_push_of_some _ e)) hacc)
end
def cod (c':Addr) (qual:Str):HO:=.ext fun h=>h.CodeRec (.ref c') qual
def uK (T:Addr) (pos:Pos) (qual:Str) (H:Hp) (c':Addr):Prop:=∃ps,H T=some (.tbl ps)/\TriplesOk ps.toList/\codeAmong pos ps.toList=some (.ref c')/\H c'=some (cod c' qual)
def TabOk (T:Addr) (pos:Pos) (qual:Str) (H:Hp):Prop:=(∃ps,H T=some (.tbl ps)/\TriplesOk ps.toList/\codeAmong pos ps.toList=none)\/∃c',uK T pos qual H c'
theorem TabOk.new {T:Addr}{pos:Pos}{qual:Str}{H:Hp}(h:H T=some (.tbl #[])):TabOk T pos qual H:=.inl ⟨#[],h,trivial,rfl⟩
theorem ze {P:Program}{w:World}{H:Hp}{h:Heap}{c':Addr}{qual:Str}(x:h.CodeRec (.ref c') qual):ObjOk P w H h c' (cod c' qual):=by
 refine ⟨x,?_,fun h1 h2 y k=>?_⟩
 ·obtain ⟨c,oc,vs,tq,e,ho,_⟩:=x
  cases e
  exact ⟨oc,ho⟩
 ·obtain ⟨c,oc,vs,tq,e,ho,r⟩:=y
  cases e
  exact ⟨c',oc,vs,tq,rfl,k oc ho,r⟩
section
variable {X:Cx}{pins:List (Addr×Obj)}{σ:St}{H:Hp}{s:Shared}
theorem Inv.trackU {a:Addr}{o:HO}(I:Inv X pins σ H s) (f:bJ X pins H a) (hx:X.s₀.heap.get? a=none) (new:ObjOk X.prog X.w (upd H a o) s.heap a o):Inv X pins σ (upd H a o) s:=by
 obtain ⟨f0,f1,f2,f3,f4,f5⟩:=f
 have ne0:∀b o,X.s₀.heap.get? b=some o->b≠a:=fun b o e z=>by rw [z,hx] at e; cases e
 have neH:∀b u,H b=some u->b≠a:=fun b u e z=>by rw [z,f0] at e; cases e
 refine ⟨I.ok,I.os,I.bare,⟨I.base.keep,I.base.slot,fun b o e n he=>?_,I.base.there,fun b xs e=>?_,fun b o u e=>?_,fun b ps e=>?_⟩,I.loc,I.cell,?_,fun x c e=>?_,fun p hp=>?_,fun b u e=>?_,I.len⟩
 ·rw [ah (ne0 b o e)]; exact I.base.free b o e n he
 ·have:=I.base.tups b xs e
  rw [ah (neH _ _ this)]; exact this
 ·have:=I.base.frzs b o u e
  rw [ah (neH _ _ this)]; exact this
 ·obtain ⟨more,q⟩:=I.base.tbls b ps e
  exact ⟨more,by rw [ah (neH _ _ q)]; exact q⟩
 ·rw [ah (Ne.symm f1)]; exact I.free
 ·rw [ah (f4 x c e)]; exact I.freeC x c e
 ·obtain ⟨q1,q2,q3⟩:=I.pin p hp
  exact ⟨q1,by rw [ah (f5 p hp)]; exact q2,q3⟩
 ·by_cases hb:b=a
  ·subst hb
   rw [ac] at e
   cases e
   exact new
  ·rw [ah hb] at e
   exact (I.hok b u e).stay (fun c v _ q=>q) (fun c q=>by rw [ah (neH _ _ q)]; exact q) fun c xs q=>by rw [ah (neH _ _ q)]; exact q
theorem Inv.grow {T c':Addr}{ps more:Array Value}{h':Heap}{t':Nat}{qual:Str}(I:Inv X pins σ H s) (hT:H T=some (.tbl ps)) (hx:Heap.ExtBut T s.heap h') (hc:s.heap.objs.size<=c') (hrec:h'.CodeRec (.ref c') qual) (hP:h'.get? T=some (PySem.W.tabObj (ps++more))) :
  Inv X pins σ (upd (upd H T (.tbl (ps++more))) c' (cod c' qual)) { s with heap:=h',toks:=t' }:=by
 have nc:H c'=none:=I.hok.fresh hc
 have hTc:T≠c':=fun z=>by rw [z,nc] at hT; cases hT
 have neT:∀b,H b=none->b≠T:=fun b n z=>by rw [z,hT] at n; cases n
 have up:∀b,b≠T->b≠c'->upd (upd H T (.tbl (ps++more))) c' (cod c' qual) b=H b:=fun b h1 h2=>by rw [ah h2,ah h1]
 have neH:∀b u,H b=some u->b≠c':=fun b u e z=>by rw [z,nc] at e; cases e
 have nes:∀b o,s.heap.get? b=some o->b≠c':=fun b o e=>Nat.ne_of_lt (Nat.lt_of_lt_of_le (Heap.lt_size e) hc)
 refine I.un ⟨fun b o e n _ _=>hx b o (neT b n) e,fun b o e n _ _=>⟨o.slots,hx b o (neT b n) e⟩,fun b o e n _=>?_,fun b o e _=>?_,fun b xs e=>?_,fun b o u e=>?_,fun b qs e=>?_⟩ fun b u e=>?_
 ·rw [up b (neT b n) (nes b o e)]; exact n
 ·by_cases hb:b=T
  ·rw [hb]; exact ⟨_,hP⟩
  ·exact ⟨o,hx b o hb e⟩
 ·have:b≠T:=fun z=>by rw [z,hT] at e; cases e
  rw [up b this (neH _ _ e)]; exact e
 ·have:b≠T:=fun z=>by rw [z,hT] at e; cases e
  rw [up b this (neH _ _ e)]; exact e
 ·by_cases hb:b=T
  ·subst hb
   rw [hT] at e
   cases e
   exact ⟨more,by rw [ah hTc,ac]⟩
  ·exact ⟨#[],by rw [up b hb (neH _ _ e),e]; simp⟩
 ·by_cases hb:b=c'
  ·subst hb
   rw [ac] at e
   cases e
   exact ze hrec
  ·by_cases hb2:b=T
   ·subst hb2
    rw [ah hTc,ac] at e
    cases e
    exact hP
   ·rw [up b hb2 hb] at e
    refine (I.hok b u e).stay (fun c v hc' q=>hx c v ?_ q) (fun c q=>?_) fun c xs q=>?_
    ·rintro rfl
     rcases hc' with z | z
     ·exact hb2 z.symm
     ·rw [hT] at z; cases z
    ·have:c≠T:=fun z=>by rw [z,hT] at q; cases q
     rw [up c this (neH _ _ q)]; exact q
    ·have:c≠T:=fun z=>by rw [z,hT] at q; cases q
     rw [up c this (neH _ _ q)]; exact q
theorem Inv.add {a:Addr}{o:Obj}(I:Inv X pins σ H s) (f:bJ X pins H a) (e:s.heap.get? a=some o) (hd:∀v,o.data≠.cell v):Inv X ((a,o) :: pins) σ H s :=
 I.pins_of fun p hp=>by
  rcases List.mem_cons.mp hp with rfl | hp
  ·exact ⟨e,f.1,f.2.1,f.2.2.1,hd⟩
  ·exact I.pin p (List.mem_append_right _ hp)
theorem Inv.sub {p:Addr×Obj}(I:Inv X (p :: pins) σ H s):Inv X pins σ H s:=I.pins_of fun q hq=>I.pin q (List.mem_append_right _ (List.mem_cons_of_mem _ hq))
theorem Inv.hd {p:Addr×Obj}(I:Inv X (p :: pins) σ H s):s.heap.get? p.1=some p.2/\H p.1=none:=let ⟨a,b,_⟩:=I.pin p (List.mem_append_right _ (List.mem_cons_self ..)); ⟨a,b⟩
theorem tK {c T:Addr}{params:Arguments}{body:Expr}{sc:Scope}{cl:List (Str×Addr)}{pos:Pos}{Q:Value->Shared->Prop}{E:Value->Shared->Prop}{A:Around}{M:Model}(I:Inv X pins σ H s) (hcode:X.env.code=.ref c) (C:PySem.W.CodeHd X.base c T) (hB:X.base.BuiltinsAt X.mg T)
  (hcl:closureFor sc X.env=pure cl) (hdef:defaultsOf params X.env=([],[])) (hT:TabOk T pos (X.env.qual++"<lambda>") H)
  (h:∀f c' ctv H' s',Inv X ((f,kla_obj "<lambda>" (X.env.qual++"<lambda>") params body sc cl ((X.mg "__name__").getD .none) c' ctv) :: pins) σ H' s'->uK T pos (X.env.qual++"<lambda>") H' c'->(∀b o,b≠T->H b=some o->H' b=some o)->Q (.ref f) s') :
  wpAny M A (eval (.Lambda params body sc pos) X.env) Q E s:=by
 refine PySem.W.kla_eval hdef ?_
 have hg:=I.mod.glob.keeps I.bk
 have hBs:s.heap.BuiltinsAt X.mg T:=by
  obtain ⟨bm,o,b1,b2,b3,b4,b5,r⟩:=hB
  exact ⟨bm,o,b1,b2,b3,b4,I.bk _ _ b5,r⟩
 rcases hT with ⟨ps,hT,ht,hnf⟩ | ⟨c',ps,hT,ht,hf,hc'⟩
 ·have hP:s.heap.get? T=some (PySem.W.tabObj ps):=I.hok T _ hT
  have hgP:mainGlobals≠T:=fun q=>by
   obtain ⟨o,es,ep,e,hd,_⟩:=hg
   rw [q,hP] at e; cases e; cases hd
  refine PySem.W.kla_makeFunction (mg:=X.mg) hcl I.ok.glob hg hcode (C.keeps I.bk) hP ht hnf hgP hBs fun c' ctv h' tk hx hge hlt hrec htb=>?_
  have I1:=I.grow (t':=tk) hT hx hge hrec htb
  have hle:s.heap.objs.size<=h'.objs.size:=Nat.le_of_lt (Nat.lt_of_le_of_lt hge hlt)
  have I2:Inv X pins σ _ { s with heap:=h'.push (kla_obj "<lambda>" (X.env.qual++"<lambda>") params body sc cl ((X.mg "__name__").getD .none) c' ctv),toks:=tk }:=I1.kept (t':=tk) fun b u e=>Heap.get?_push_of_some _ e
  have nf:=I1.hok.fresh (Nat.le_refl h'.objs.size)
  have hcT:T≠c':=fun z=>by rw [<- z] at hge; exact absurd (Heap.lt_size hP) (Nat.not_lt.mpr hge)
  refine h h'.objs.size c' ctv _ _ (I2.add (I1.fpOk (Nat.le_refl _) nf) (Heap.get?_push_size _ rfl) fun v z=>by cases z) ⟨_,by rw [ah hcT,ac],?_,?_,ac⟩ fun b o hb e=>?_
  ·have e1:(ps++#[rawInt pos.line,rawInt pos.col,Value.ref c']).toList=ps.toList++[rawInt pos.line,rawInt pos.col,Value.ref c']:=by simp
   rw [e1]
   exact TriplesOk_snoc _ _ _ _ ht
  ·have e1:(ps++#[rawInt pos.line,rawInt pos.col,Value.ref c']).toList=ps.toList++[rawInt pos.line,rawInt pos.col,Value.ref c']:=by simp
   rw [e1]
   exact codeAmong_snoc _ ht hnf
  ·have:b≠c':=fun z=>by rw [z,I.hok.fresh hge] at e; cases e
   rw [ah this,ah hb]; exact e
 ·have hP:s.heap.get? T=some (PySem.W.tabObj ps):=I.hok T _ hT
  refine PySem.W.kla_makeFunctionHit (mg:=X.mg) hcl I.ok.glob hg hcode (C.keeps I.bk) hP ht hf hBs fun ctv h' tk hk hsz=>?_
  have I1:Inv X pins σ H { s with heap:=h',toks:=tk }:=I.kept hk
  have I2:Inv X pins σ H { s with heap:=h'.push (kla_obj "<lambda>" (X.env.qual++"<lambda>") params body sc cl ((X.mg "__name__").getD .none) c' ctv),toks:=tk }:=I1.kept (t':=tk) fun b u e=>Heap.get?_push_of_some _ e
  exact h h'.objs.size c' ctv _ _ (I2.add (I1.fpOk (Nat.le_refl _) (I1.hok.fresh (Nat.le_refl _))) (Heap.get?_push_size _ rfl) fun v z=>by cases z) ⟨ps,hT,ht,hf,hc'⟩ fun b o _ e=>e
end
section
variable {prog:Program}{w:World}{A:Around}{E:Value->Shared->Prop}{s:Shared}{a kS:Addr}{vs:List Value}{kz:List Int}{keys:Array Value}{e e1:Nat}{P:PySem.Fin->Shared->Prop}{Ψ:Shared->Prop}
theorem q_ {f:Value}(I:Ψ s) (ok:dq Ψ kS) (oa:dq Ψ a) (nk:s.heap.get? kS=some (seqObj "list" #[] 0)) (na:s.heap.get? a=some (seqObj "list" #[] e1)) (hka:kS≠a) (hlen:kz.length=vs.length) (h64:vs.length<64)
  (turn:∀(i:Nat) (v:Value) (k:Int),vs[i]?=some v->kz[i]?=some k->∀(s:Shared) kA e,Ψ s->s.heap.get? kS=some (seqObj "list" kA e)->s.heap.get? a=some (seqObj "list" #[] e1) ->
   wpAny (model prog w) A (call f [v]) (fun u s'=>(∃t',u=.int k t')/\Ψ s'/\s'.heap.get? kS=some (seqObj "list" kA e)/\s'.heap.get? a=some (seqObj "list" #[] e1)) (fun _ _=>False) s)
  (h:∀s' out c,Ψ s'->s'.heap.get? a=some (seqObj "list" out c)->KskOut false kz vs out.toList->P (.done (.ret .none)) s') :
  wpAny (model prog w) A (ksk_rest a f false vs.toArray e1 (.ref kS)) P E s:=by
 unfold ksk_rest
 refine wpAny_bind (wpAny_rule ?_)
 first
  | rw [List.forIn_toArray]
  | (rw [<- Array.forIn_toList]; simp only [List.toList_toArray])
  | rw [<- Array.forIn_toList]
 refine wpAny_bind (ksk_fold (fun i s'=>∃kA e,Ψ s'/\s'.heap.get? kS=some (seqObj "list" kA e)/\s'.heap.get? a=some (seqObj "list" #[] e1)/\IntsAre kA.toList (kz.take i)) vs 0 s ⟨#[],0,I,nk,na,by simpa using IntsAre.nil⟩ ?step ?done)
 case step =>
  rintro j x s' hx ⟨kA,e,I',nk',na',hk⟩
  simp only [Nat.zero_add] at hk ⊢
  have hj:j<vs.length:=(List.getElem?_eq_some_iff.mp hx).1
  obtain ⟨k,hkj⟩:∃k,kz[j]?=some k:=⟨_,List.getElem?_eq_getElem (by omega)⟩
  have hz:kA.size<=vs.length:=by
   have h1:=hk.length
   rw [Array.length_toList,List.length_take] at h1
   omega
  refine wpAny_bind (wpAny_attempt (wpAny_mono (turn j x k hx hkj s' _ _ I' nk' na') (fun v s'' he=>?_) fun _ _ hF=>hF.elim))
  obtain ⟨⟨t2,rfl⟩,I2,nk2,na2⟩:=he
  try dsimp only
  have s1:=Heap.SameBut.update s''.heap kS (Obj.mapSeq (·.push (.int k t2)))
  obtain ⟨c2,hc2⟩:∃c2,(s''.heap.update kS (Obj.mapSeq (·.push (.int k t2)))).get? kS=some (seqObj "list" (kA.push (.int k t2)) c2):=⟨_,get?_update_seq nk2 (·.push (.int k t2))⟩
  have ek:kz.take (j+1)=kz.take j++[k]:=by rw [List.take_add_one,hkj]; simp
  have ea:(kA.push (Value.int k t2)).toList=kA.toList++[Value.int k t2]:=by simp
  refine wpAny_bind (listUpdate_at nk2 rfl ?_ (by rw [sizeLine_eq]; omega) (Nat.le_trans (Nat.le_of_eq (Array.size_push ..)) (by rw [sizeLine_eq]; omega)))
  exact wpAny_pure ⟨rfl,kA.push (.int k t2),c2,ok _ _ I2 s1,hc2,(s1.2 a hka.symm).trans na2,by rw [ea,ek]; exact ksk_snoc hk⟩
 case done =>
  rintro s' ⟨kA,e,I',nk',na',hk⟩
  have hk':IntsAre kA.toList kz:=by
   have e3:kz.take (0+vs.length)=kz:=List.take_of_length_le (by omega)
   rw [e3] at hk
   exact hk
  try dsimp only
  refine wpAny_bind (listItems_at nk' rfl ?_)
  exact xG I' ok oa nk' na' hka hk' hlen h64 h
end
theorem sw {vs out:List Value}{ns:List Int}{g:Int->Int}(hi:IntsAre vs ns) (ko:KskOut false (ns.map g) vs out):∃ns',IntsAre out ns'/\ns'.Perm ns/\ns'.Pairwise (fun x y=>g x<=g y):=by
 have hlen:=hi.length
 obtain ⟨ps,hp,ho,hs⟩:=ko
 have hrel:∀p,p∈(ns.map g).zip vs->p.1=g (numOf p.2)/\p.2∈vs:=by
  rw [<- hi.nums,List.map_map,List.zip_map_left]
  intro p hp
  obtain ⟨⟨u,v⟩,hq,rfl⟩:=List.mem_map.mp hp
  have h1:u=v/\u∈vs:=mem_zip_self hq
  refine ⟨?_,?_⟩
  ·show g (numOf u)=g (numOf v)
   rw [h1.1]
  ·show v∈vs
   rw [<- h1.1]
   exact h1.2
 have hI:IntsAre (ps.map Prod.snd) ((ps.map Prod.snd).map numOf):=intsAre_map _ fun v hv=>by
  obtain ⟨p,hp',rfl⟩:=List.mem_map.mp hv
  exact hi.all _ (hrel p (hp.mem_iff.mp hp')).2
 have hP:((ps.map Prod.snd).map numOf).Perm ns:=by
  have h1:=(hp.map Prod.snd).map numOf
  rw [List.map_snd_zip (by rw [List.length_map]; omega),hi.nums] at h1
  exact h1
 have hO:((ps.map Prod.snd).map numOf).Pairwise (fun x y=>g x<=g y):=by
  rw [List.pairwise_map,List.pairwise_map]
  refine hs.imp_of_mem fun {p q} hp' hq' hr=>?_
  have hr':p.1<=q.1:=hr
  rw [(hrel p (hp.mem_iff.mp hp')).1,(hrel q (hp.mem_iff.mp hq')).1] at hr'
  exact hr'
 rw [<- ho] at hI hP hO
 exact ⟨_,hI,hP,hO⟩
theorem li:∀(n:Nat) (us:List Value) (o:Nat),us.length=n->(∀(j:Nat) v,us[j]?=some v->∃t,v=.int ((o+j:Nat):Int) t)->IntsAre us ((List.range' o n).map fun (m:Nat)=>(m:Int))
 | 0,[],_,_,_=>.nil
 | n+1,u :: us,o,hl,h=>by
  rw [List.range'_succ,List.map_cons]
  obtain ⟨t,rfl⟩:=h 0 u rfl
  refine .cons _ t (li n us (o+1) (by simpa using hl) fun j v e=>?_)
  obtain ⟨t,rfl⟩:=h (j+1) v (by simpa using e)
  exact ⟨t,by rw [show o+1+j=o+(j+1) by omega]⟩
def fe (n:Nat):List Int:=(List.range n).map fun (m:Nat)=>(m:Int)
section
variable {X:Cx}{pins:List (Addr×Obj)}{σ:St}{H:Hp}{s:Shared}
theorem md {f R:Addr}{n:Nat}{fo:Obj}{t₁ t₂ t₃:Tok}{g:Int->Int}{Q E:Value->Shared->Prop}(hh:X.A.handled=none)
  (I:Inv X ((f,fo) :: (R,{ cls:=.type "range",data:=.fields #[.int 0 t₁,.int n t₂,.int 1 t₃] }) :: pins) σ H s) (h64:n<64)
  (turn:∀(k:Nat) (t:Tok) (H':Hp) (s':Shared) (pins':List (Addr×Obj)),k<n->Same H H'->Inv X ((f,fo) :: pins') σ H' s' ->
   wpAny (model X.prog X.w) X.A.in1.in1 (call (.ref f) [.int k t]) (EP X ((f,fo) :: pins') σ fun v H2=>v=.int (g k)/\Same H' H2) (fun _ _=>False) s')
  (h:∀(D:Addr) (H2:Hp) (s':Shared) (ns:List Int),Inv X pins σ H2 s'->H D=none->Same H H2->H2 D=some (.lst (ns.map V.int))->ns.Perm (fe n)->ns.Pairwise (fun x y=>g x<=g y)->Q (.ref D) s') :
  wpAny (model X.prog X.w) X.A (call (.builtin "sorted") [.ref R] [(Str.ofString "key",.ref f)]) Q E s:=by
 refine call_function_entry_kw kind_sorted plain_sorted entry_sorted (ksk_s1 _ _) ?_
 unfold Builtin.«sorted»
 refine wpAny_bind (m:=checkCount "sorted" 1 1 _) (wpAny_pure ?_)
 have hR:IsRange s.heap R 0 n 1 t₁ t₂ t₃:=I.sub.hd.1
 refine wpAny_bind (lL (A:=X.A.in1) (n:=n) hh hR (small_one (by omega) (by omega) (by omega) (by omega)) (by rw [PyProof.Rows.rangeSize_nat]; simp) (by omega) fun h1 tk1 acc hk hacc=>?_)
 have hal:acc.toList.length=n:=by rw [Array.length_toList]; exact hacc.1
 refine wpAny_bind (wpAny_newList ?_ (by rw [hal,sizeLine_eq]; omega))
 have hi:IntsAre acc.toList (fe n):=by
  unfold fe
  rw [List.range_eq_range']
  refine li n acc.toList 0 hal fun j v e=>?_
  obtain ⟨t,rfl⟩:=hacc.2 j v (by simpa using e)
  exact ⟨t,by simp⟩
 have I1:=I.kept (t':=tk1) hk
 have I2:=I1.kept (t':=tk1) fun b o e=>Heap.get?_push_of_some (seqObj "list" acc.toList.toArray 0) e
 have fa:=I1.fpOk (Nat.le_refl _) (I1.hok.fresh (Nat.le_refl _))
 have xa:X.s₀.heap.get? h1.objs.size=none:=Heap.get?_none_of_le I1.sz
 have ha:(h1.push (seqObj "list" acc.toList.toArray 0)).get? h1.objs.size=some (seqObj "list" acc.toList.toArray 0):=Heap.get?_push_size _ rfl
 refine wpAny_bind (wpAny_holding (wpAny_call_entry_kw slot_list_sort ⟨_,ha,rfl⟩ entry_list_sort ?body (ksk_l1 _ _)))
 case body =>
  show wpAny (model X.prog X.w) X.A.in1.in1 (Builtin.«list.sort» ⟨[.ref h1.objs.size],[(Str.ofString "key",.ref f)]⟩) _ _ { s with heap:=h1.push (seqObj "list" acc.toList.toArray 0),toks:=tk1 }
  rw [ksk_t1]
  have s1:=Heap.SameBut.update (h1.push (seqObj "list" acc.toList.toArray 0)) h1.objs.size (Obj.mapSeq fun _=>(#[]:Array Value))
  obtain ⟨e1,ho1⟩:∃e1,((h1.push (seqObj "list" acc.toList.toArray 0)).update h1.objs.size (Obj.mapSeq fun _=>(#[]:Array Value))).get? h1.objs.size=some (seqObj "list" #[] e1):=⟨_,get?_update_seq ha fun _=>#[]⟩
  have I3:=I2.but s1 fa xa
  have I4:=I3.kept (t':=tk1) fun b o e=>Heap.get?_push_of_some (seqObj "tuple" acc.toList.toArray 0) e
  have I5:=I4.kept (t':=tk1) fun b o e=>Heap.get?_push_of_some (seqObj "list" #[] 0) e
  have fk:=I4.fpOk (Nat.le_refl _) (I4.hok.fresh (Nat.le_refl _))
  have xk:=Heap.get?_none_of_le I4.sz
  unfold ksk_tree
  refine wpAny_bind (listItems_at ha rfl ?_)
  refine wpAny_bind (listUpdate_at ha rfl ?_ (by rw [List.size_toArray,sizeLine_eq,hal]; omega) (Nat.zero_le _))
  refine wpAny_bind (seqEpoch_at ho1 rfl ?_)
  refine wpAny_bind (wpAny_newTuple ?_ (by show acc.toList.length<=_; rw [sizeLine_eq,hal]; omega))
  refine wpAny_bind (wpAny_newList ?_ (Nat.zero_le _))
  refine wpAny_holding ?_
  have na:(((h1.push (seqObj "list" acc.toList.toArray 0)).update h1.objs.size (Obj.mapSeq fun _=>(#[]:Array Value))).push (seqObj "tuple" acc.toList.toArray 0)).get? h1.objs.size=some (seqObj "list" #[] e1):=Heap.get?_push_of_some _ ho1
  generalize hkS:(((h1.push (seqObj "list" acc.toList.toArray 0)).update h1.objs.size (Obj.mapSeq fun _=>(#[]:Array Value))).push (seqObj "tuple" acc.toList.toArray 0)).objs.size=kS at fk xk
  have hka:kS≠h1.objs.size:=fun z=>by
   have:=Heap.lt_size na
   rw [hkS,z] at this
   exact Nat.lt_irrefl _ this
  have nk:((((h1.push (seqObj "list" acc.toList.toArray 0)).update h1.objs.size (Obj.mapSeq fun _=>(#[]:Array Value))).push (seqObj "tuple" acc.toList.toArray 0)).push (seqObj "list" #[] 0)).get? kS=some (seqObj "list" #[] 0):=by
   rw [<- hkS]; exact Heap.get?_push_size _ rfl
  refine q_ (kz:=(fe n).map g) (Ψ:=fun s'=>∃H',Inv X ((f,fo) :: (R,{ cls:=.type "range",data:=.fields #[.int 0 t₁,.int n t₂,.int 1 t₃] }) :: pins) σ H' s'/\Same H H'/\H' kS=none/\H' h1.objs.size=none)
   ⟨H,I5,fun _ _ e=>e,fk.1,fa.1⟩ ?ok ?oa nk (Heap.get?_push_of_some _ na) hka (by rw [List.length_map,hi.length]) (by rw [hal]; exact h64) ?turn ?fin
  case ok =>
   rintro s' h' ⟨H',J,sm,z1,z2⟩ sb
   exact ⟨H',J.but sb ⟨z1,fk.2⟩ xk,sm,z1,z2⟩
  case oa =>
   rintro s' h' ⟨H',J,sm,z1,z2⟩ sb
   exact ⟨H',J.but sb ⟨z2,fa.2⟩ xa,sm,z1,z2⟩
  case turn =>
   rintro i v k hv hk s' kA e ⟨H',J,sm,z1,z2⟩ g1 g2
   have hin:i<n:=by rw [<- hal]; exact (List.getElem?_eq_some_iff.mp hv).1
   obtain ⟨t,rfl⟩:=hacc.2 i v (by simpa using hv)
   have hk':g i=k:=by
    unfold fe at hk
    rw [List.getElem?_map,List.getElem?_map,List.getElem?_range hin] at hk
    exact Option.some.inj hk
   subst hk'
   have e0:(0:Int)+(i:Int)*1=i:=by omega
   rw [e0]
   have J2:Inv X ((f,fo) :: (kS,seqObj "list" kA e) :: (h1.objs.size,seqObj "list" #[] e1) :: (R,{ cls:=.type "range",data:=.fields #[.int 0 t₁,.int n t₂,.int 1 t₃] }) :: pins) σ H' s':=by
    refine J.pins_of fun p hp=>?_
    rcases List.mem_cons.mp hp with rfl | hp
    ·exact J.pin _ (List.mem_append_right _ (List.mem_cons_self ..))
    rcases List.mem_cons.mp hp with rfl | hp
    ·exact ⟨g1,z1,fk.2.1,fk.2.2.1,fun _ z=>by cases z⟩
    rcases List.mem_cons.mp hp with rfl | hp
    ·exact ⟨g2,z2,fa.2.1,fa.2.2.1,fun _ z=>by cases z⟩
    ·exact J.pin p (List.mem_append_right _ (List.mem_cons_of_mem _ hp))
   refine wpAny_mono (turn i t H' s' _ hin sm J2) ?_ fun _ _ z=>z
   rintro u' s'' ⟨v',H2,K,rv,ev,sm2⟩
   subst ev
   have p1:=K.pin (kS,seqObj "list" kA e) (List.mem_append_right _ (by simp))
   have p2:=K.pin (h1.objs.size,seqObj "list" #[] e1) (List.mem_append_right _ (by simp))
   refine ⟨rv,⟨H2,K.pins_of fun p hp=>K.pin p (List.mem_append_right _ ?_),fun b o e=>sm2 b o (sm b o e),p1.2.1,p2.2.1⟩,p1.1,p2.1⟩
   rcases List.mem_cons.mp hp with rfl | hp
   ·exact List.mem_cons_self ..
   ·exact List.mem_cons_of_mem _ (List.mem_cons_of_mem _ (List.mem_cons_of_mem _ hp))
  case fin =>
   rintro s' out c ⟨H',J,sm,z1,z2⟩ ho ko
   obtain ⟨ns,hI,hP,hO⟩:=sw hi ko
   refine ⟨_,rfl,wpAny_pure ⟨_,rfl,?_⟩⟩
   have hln:ns.length=n:=by rw [hP.length_eq]; unfold fe; simp
   have J2:=J.trackU (o:=.lst (ns.map V.int)) ⟨z2,fa.2⟩ xa ⟨by rw [List.length_map,hln,sizeLine_eq]; omega,out.toList,c,gj hI,by simpa using ho⟩
   refine h h1.objs.size _ s' ns J2.sub.sub fa.1 (fun b o e=>?_) ac hP hO
   rw [ah (fun z=>by have:=sm b o e; rw [z,z2] at this; cases this)]
   exact sm b o e
end
def kE (T:Addr) (pos:Pos) (qual:Str) (js:List Nat) (ta:TA) (te:TE):TE:=fun σ H Q=>ta σ H fun vs H1=>∃n:Nat,vs=[.int n]/\n<64/\TabOk T pos qual H1/\∃g:Int->Int,
 (∀(k:Nat) (H':Hp),k<n->(∀b o,b≠T->H1 b=some o->H' b=some o)->te (some (.int k) :: c_ σ js) H' fun v H2=>v=.int (g k)/\Same H' H2) /\
 ∀(D:Addr) (H2:Hp) (ns:List Int),H1 D=none->(∀b o,b≠T->H1 b=some o->H2 b=some o)->(∃c',uK T pos qual H2 c')->H2 D=some (.lst (ns.map V.int))->ns.Perm (fe n)->ns.Pairwise (fun x y=>g x<=g y)->Q (.ref D) H2
section
variable {X:Cx}
theorem mi {c T:Addr}{k:Nat}{x:Str}{ys:List Str}{js:List Nat}{cl:List (Str×Addr)}{params:Arguments}{body:Expr}{sc:Scope}{a:Expr}{ta:TA}{te:TE}{p p' pos pos' lpos kpos:Pos}
  (hr:Room (k+3) X.A) (hgl:X.env.kindOf "sorted"=some .globalImplicit) (hml:X.mg "sorted"=none) (hg:X.env.kindOf "range"=some .globalImplicit) (hm:X.mg "range"=none) (ha:PA X [a] ta) (h1:ax a=true)
  (hcode:X.env.code=.ref c) (C:PySem.W.CodeHd X.base c T) (hB:X.base.BuiltinsAt X.mg T) (hcl:closureFor sc X.env=pure cl) (hdef:defaultsOf params X.env=([],[]))
  (hbind:∀(pm ctv u:Value) (c':Addr),bindArgs (kla_fn "<lambda>" (X.env.qual++"<lambda>") params body sc cl pm (.ref c') ctv) ⟨[u],[]⟩=pure [(x,u)])
  (hco:sc.isCoroutine=false) (hgen:sc.isGenerator=false) (hkind:sc.kind=.function) (hcell:∀y∈sc.names,y.2≠.cell)
  (hx:sc.names.lookup x=some .local) (hcap:LCaps X sc cl ys js) (hin:∀y c,cl.lookup y=some c->X.env.cells.lookup y=some c) (hhas:∀y,(sc.names.lookup y=some .cell\/sc.names.lookup y=some .free)->∃c,cl.lookup y=some c)
  (he:∀(A:Around) (s:Shared) (H:Hp) (f c':Addr),Room k (fb X A (X.env.qual++"<lambda>") sc (x :: ys) cl s H f (.ref c')).A->PE (fb X A (X.env.qual++"<lambda>") sc (x :: ys) cl s H f (.ref c')) body te) :
  PE X (.Call (.Name "sorted" p) [.Call (.Name "range" p') [a] [] pos'] [⟨some "key",.Lambda params body sc lpos,kpos⟩] pos) (kE T lpos (X.env.qual++"<lambda>") js ta te):=by
 intro pins s σ H Q I h
 refine wpAny_Call_Name_kw (bP (u:=.builtin "sorted") I hgl hml (by decide +kernel) ?_)
 refine callWith_kw (id:="sorted") ?_
 show wpAny _ _ (spliced ((false,eval (.Call (.Name "range" p') [a] [] pos') X.env) :: backTo pos (starEach [] X.env))) _ _ s
 refine Calls.spliced_cons (Call_ (bP I hg hm boot_range (PyProof.Rows.callWith_type1 (thn (ha pos' pins s σ H _ I h) fun us s1 ⟨vs,H1,I1,r1,q1⟩=>?_) (au h1) (bi (by simp)))))
 obtain ⟨n,e,h64,hT,g,hk,hq⟩:=q1
 subst e
 cases r1 with
 | cons r rr =>
  cases rr
  obtain ⟨t,rfl⟩:=r
  refine call_range_1 ?_
  refine Calls.spliced_nil ?_
  have I2:Inv X pins σ H1 { s1 with heap:=s1.heap.push { cls:=.type "range",data:=.fields #[.int 0 s1.toks,.int n t,.int 1 (s1.toks+1)] },toks:=s1.toks+1+1 }:=I1.kept fun b o e=>Heap.get?_push_of_some _ e
  have I3:=I2.add (I1.fpOk (Nat.le_refl _) (I1.hok.fresh (Nat.le_refl _))) (Heap.get?_push_size _ rfl) fun v z=>by cases z
  show wpAny _ _ (evalAll [(do let v <- eval (.Lambda params body sc lpos) X.env; standAt pos; pure v)]) _ _ _
  refine wpAny_evalAll_cons (wpAny_bind (tK I3 hcode C hB hcl hdef hT fun f c' ctv H' s' I4 tab sm=>wpAny_bind (wpAny_standAt (wpAny_pure (wpAny_evalAll_nil ?_)))))
  have nT:∀{H2:Hp},Same H' H2->∀b o,b≠T->H1 b=some o->H2 b=some o:=fun sm2 b o hb e=>sm2 b o (sm b o hb e)
  refine md (f:=f) (g:=g) hr.hd I4 h64 (fun k' t' H2 s2 pins' hk' sm2 J=>?_) fun D H2 s2 ns J hD sm2 hl hp ho=>?_
  ·obtain ⟨ps,_,_,_,hc'⟩:=tab
   have hrec:s2.heap.CodeRec (.ref c') (X.env.qual++"<lambda>"):=(J.hok c' _ (sm2 _ _ hc')).1
   exact tM (v:=.int k') (k:=k) J (A:=X.A.in1.in1) hr.in1.in1 J.ok.frames J.hd.1 hrec (hbind _ _ _ _) hco hgen hkind hcell hx hcap hin hhas (fun hr'=>he _ _ _ _ _ hr') ⟨t',rfl⟩ (hk k' H2 hk' (nT sm2))
  ·obtain ⟨ps,q1,q2,q3,q4⟩:=tab
   exact ⟨.ref D,H2,J,rfl,hq D H2 ns (by
    cases z:H1 D with
    | none=>rfl
    | some o =>
     by_cases hb:D=T
     ·subst hb; rw [q1] at hD; cases hD
     ·rw [sm D o hb z] at hD; cases hD) (nT sm2) ⟨c',ps,sm2 _ _ q1,q2,q3,sm2 _ _ q4⟩ hl hp ho⟩
end
section
variable {X:Cx}{A:Around}{E:Value->Shared->Prop}{pins:List (Addr×Obj)}{σ:St}{H:Hp}{s:Shared}{a:Addr}{kvs:List (Key×V)}{k:Key}{u:Value}
theorem y_ {z:V}{r:Value}{Q:Value->Shared->Prop}(I:Inv X pins σ H s) (e:H a=some (.dK kvs)) (hz:kvs.length<sizeLine) (ry:RelV (kV k) u) (rz:RelV z r)
  (h1:∀v w' s',aK kvs k=some v->Inv X pins σ H s'->RelV v w'->Q w' s') (h2:aK kvs k=none->∀s',Inv X pins σ (upd H a (.dK (bp kvs k z))) s'->Q r s') :
  wpAny (model X.prog X.w) A (call (.builtin "dict.setdefault") [.ref a,u,r]) Q E s:=by
 obtain ⟨z',hd,vs,rel,dd⟩:=lF I.hok e
 have val:=rel.val k
 refine call_meetsIn PySem.F.slot_dict_setdefault dd.typeIs PySem.F.entry_dict_setdefault (PySem.F.args_dict_setdefault_3 _ _ _) (kt_meets_setdefault (aI X.prog X.w) a (iE ry) hd r) ⟨vs,dd,by rw [<- rel.length]; exact z',fun w' hw=>?_,fun hn h' dd' hs=>?_⟩
 ·rw [hw] at val
  cases q:aK kvs k with
  | none=>rw [q] at val; exact False.elim val
  | some v=>rw [q] at val; exact h1 v w' _ q (I.tok _) val
 ·have hn':aK kvs k=none:=by
   rw [hn] at val
   cases q:aK kvs k with
   | none=>rfl
   | some v=>rw [q] at val; exact False.elim val
  refine h2 hn' _ ?_
  have he:∃q,h'.get? a=some q:=let ⟨q,_,_,hq,_⟩:=dd'; ⟨q,hq⟩
  refine gY I (by rw [e]; exact True.intro) hs he (mM ?_ hd (rel.put k rz) dd')
  have:=bX kvs k z
  omega
end
def qU (td ty tx:TE):TE:=fun σ H Q=>td σ H fun x H1=>∃a,x=.ref a/\IsD H1 a/\ty σ H1 fun y H2=>tx σ H2 fun z H3=>∃kvs k,H3 a=some (.dK kvs)/\kvs.length<sizeLine/\y=kV k /\
 (∀v,aK kvs k=some v->Q v H3)/\(aK kvs k=none->Q z (upd H3 a (.dK (bp kvs k z))))
section
variable {X:Cx}{o e f:Expr}{apos cpos:Pos}{td ty tx:TE}
theorem r6 (ho:PE X o td) (he:PE X e ty) (hf:PE X f tx) (m:M2 X o "setdefault" apos e f cpos):PE X (.Call (.Attribute o "setdefault" apos) [e,f] [] cpos) (qU td ty tx):=by
 intro pins s σ H Q I h
 refine wpAny_Call_method m.base m.few m.line PySem.F.plainAttrs_dict PySem.F.slot_dict_setdefault PySem.F.type_dict_setdefault (thn (ho pins s σ H _ I h) fun u s1 ⟨x,H1,I1,rx,a,ex,d,q1⟩=>?_)
 subst ex
 obtain rfl:u=Value.ref a:=rx
 obtain ⟨t1,t2,_⟩:=kf I1 d
 refine ⟨t1,t2,?_⟩
 rw [m.trees]
 refine Calls.callWith_builtin rfl (Calls.evalArgs_plain (Calls.spliced_cons (thn (he pins s1 σ H1 _ I1 q1) fun iv s2 ⟨y,H2,I2,ry,q2⟩ =>
  Calls.spliced_cons (thn (hf pins s2 σ H2 _ I2 q2) fun fv s3 ⟨z,H3,I3,rz,kvs,k,ea,hz,ey,g1,g2⟩=>Calls.spliced_nil ?_))))
 subst ey
 exact y_ I3 ea hz ry rz (fun v w' s4 hv I4 rw'=>⟨_,H3,I4,rw',g1 v hv⟩) fun hn s4 I4=>⟨_,_,I4,rz,g2 hn⟩
theorem wA (ho:QE X o td) (he:QE X e ty) (hf:QE X f tx) (h1:ax e=true:=by rfl) (h2:ax f=true:=by rfl) (hbase:attributeBase o "setdefault" X.env (eval o X.env)=eval o X.env:=by rfl) (hline:(apos.endLine == cpos.line)=true:=by rfl) :
  QE X (.Call (.Attribute o "setdefault" apos) [e,f] [] cpos) (qU td ty tx) :=
 ⟨r6 ho.h he.h hf.h ⟨hbase,by rw [au h1,au h2]; rfl,hline,by rw [au h1,au h2]; rfl⟩⟩
end
theorem e_f {X:Cx}(i:Nat) {x:Str}{pos:Pos}(hN:X.N[i]?=some x:=by kernel_rfl) (hv:X.env.scope.names.lookup x=some .free:=by kernel_rfl) (hd:(x == ("__debug__":Str))=false:=by kernel_rfl) (hcd:(x == ("__classdict__":Str))=false:=by kernel_rfl):QE X (.Name x pos) (lX i) :=
 ⟨j1 hN (.inr (.inr hv)) hd hcd⟩
theorem qv {X:Cx}{c T:Addr}{k:Nat}{x:Str}{params:Arguments}{body:Expr}{sc:Scope}{a:Expr}{t1 te:TE}{p p' pos pos' lpos kpos:Pos}(ys:List Str) (js:List Nat) (cl:List (Str×Addr))
  (hr:Room (k+3) X.A) (hml:X.mg "sorted"=none) (hm:X.mg "range"=none) (hcode:X.env.code=.ref c) (C:PySem.W.CodeHd X.base c T) (hB:X.base.BuiltinsAt X.mg T) (ha:QE X a t1)
  (hcl:closureFor sc X.env=pure cl) (hcap:LCaps X sc cl ys js) (hin:ClIn X.env cl)
  (he:∀(A:Around) (s:Shared) (H:Hp) (f c':Addr),Room k (fb X A (X.env.qual++"<lambda>") sc (x :: ys) cl s H f (.ref c')).A->QE (fb X A (X.env.qual++"<lambda>") sc (x :: ys) cl s H f (.ref c')) body te)
  (hx:sc.names.lookup x=some .local:=by rfl) (hgl:X.env.kindOf "sorted"=some .globalImplicit:=by kernel_rfl) (hg:X.env.kindOf "range"=some .globalImplicit:=by kernel_rfl) (h1:ax a=true:=by rfl)
  (hdef:defaultsOf params X.env=([],[]):=by rfl) (hbind:∀(pm ctv u:Value) (c':Addr),bindArgs (kla_fn "<lambda>" (X.env.qual++"<lambda>") params body sc cl pm (.ref c') ctv) ⟨[u],[]⟩=pure [(x,u)]:=by intros; rfl)
  (hco:sc.isCoroutine=false:=by rfl) (hgen:sc.isGenerator=false:=by rfl) (hkind:sc.kind=.function:=by rfl) (hcell:(sc.names.all fun p=>p.2 != NameKind.cell)=true:=by rfl)
  (hhas:(sc.names.all fun p=>p.2 == NameKind.local||p.2 == NameKind.globalImplicit||(cl.lookup p.1).isSome)=true:=by rfl) :
  QE X (.Call (.Name "sorted" p) [.Call (.Name "range" p') [a] [] pos'] [⟨some "key",.Lambda params body sc lpos,kpos⟩] pos) (kE T lpos (X.env.qual++"<lambda>") js (cu t1 g9) te):=by
 refine ⟨mi hr hgl hml hg hm (pa' ha.h cV h1) h1 hcode C hB hcl hdef hbind hco hgen hkind (fun y hy z=>?_) hx hcap (fun y c e=>hin.mem (PySem.mem_of_lookup e)) (fun y h=>?_) fun A s H f c' hr'=>(he A s H f c' hr').h⟩
 ·have:=List.all_eq_true.mp hcell y hy
  rw [z] at this
  exact absurd this (by decide)
 ·have hm:∃k,(y,k)∈sc.names/\(k=.cell\/k=.free):=by
   rcases h with h | h
   ·exact ⟨_,PySem.mem_of_lookup h,.inl rfl⟩
   ·exact ⟨_,PySem.mem_of_lookup h,.inr rfl⟩
  obtain ⟨k,hk,hz⟩:=hm
  have:=List.all_eq_true.mp hhas _ hk
  rcases hz with rfl | rfl
  ·exact Option.isSome_iff_exists.mp (by simpa using this)
  ·exact Option.isSome_iff_exists.mp (by simpa using this)
def zn (K:PySem.W.Frag) (x:Str) (st:Stmt) (c T:Addr):Prop:=PySem.W.codeHdIn K c T=true/\∃f fd,PySem.W.nsIn K mainGlobals x=some (some (.ref f))/\Fun K x x st f fd/\fd.code=.ref c
section
variable {P:Program}{w:World}{K:PySem.W.Frag}{mg:Str->Option Value}{base:Heap}
theorem Fun.okT {x qual:Str}{st:Stmt}{f c:Addr}{fd:FuncData}{N ps:List Str}{k:Nat}{sp:Sp}(F:Fun K x qual st f fd) (hc:fd.code=.ref c) (S:aq N ps (ak st)) (len:∀vs H Q E,sp vs H Q E->vs.length=ps.length)
  (hbody:∀(A:Around) (outer:List Env) (s:Shared) (H:Hp) (vs:List V) (Q:VK) (E:XK),Room k (A.deeper (envOfC qual (ak st) s.heap.objs.size f (.ref c)))->sp vs H Q E ->
   ∃t,PSs (bb CX0 P w K mg base N qual (ak st) f (.ref c) A outer s H E).nox (bq st) t/\t { nx:=fun _ H'=>Q .non H',rt:=Q } (start N vs) H):aG P w K mg base CX0 (k+1) f fd ps sp:=by
 obtain ⟨oc,od,kV,doc,pm,an,cdv,ct,osl,rfl,lk,hcd⟩:=F.ex
 have e:cdv=.ref c:=hc
 subst e
 refine ug lk hcd S len fun A outer s H vs Q E hr hsp=>?_
 obtain ⟨t,h,q⟩:=hbody A outer s H vs Q E hr hsp
 exact ⟨t,h.nox,q⟩
theorem Def.ofT {h:Heap}{CX:CXT}{x:Str}{c T:Addr}{k:Nat}{ps:List Str}{sp:Sp}{st:Stmt}(X:K.In h) (G:h.Ns mainGlobals mg) (FI:zn K x st c T)
  (ok:∀f fd,Fun K x x st f fd->fd.code=.ref c->aG P w K mg base CX k f fd ps sp)
  (hb:∀(kV doc pm:Value) (an:Option Addr) (cdv ct:Value) (us:List Value),us.length=ps.length->bindArgs (PySem.W.fnOf x x (bS st) (bq st) (ak st) .none kV doc pm an cdv ct) ⟨us,[]⟩=pure (ps.zip us)) :
  Def P w K mg base CX x k ps sp:=by
 obtain ⟨_,f,fd,a,F,hc⟩:=FI
 exact ⟨f,fd,ok f fd F hc,F.binds hb,F.kp,PySem.W.mg_of X G a⟩
end
end L2
namespace K57
open PySem L2 G KS
section
variable {P:Program}{w:World}{K:PySem.W.Frag}{mg:Str->Option Value}{base:Heap}
def eI (c:Clip):Int:=if c.b<c.a then c.b else c.a
def Ab (c:Clip):Int:=if c.a<c.b then c.b else c.a
def jG:Sp:=fun vs H Q _=>∃(p:Addr) (c:Clip),vs=[.ref p]/\H p=some (.tup c.vs)/\Q (.int (eI c)) H
theorem uZ:aq ["strip"] ["strip"] (ak jU):=⟨rfl,rfl,rfl,by decide +kernel,rfl,by decide +kernel,by decide +kernel⟩
theorem sN {f:Addr}{fd:FuncData}(F:Fun K "least" "least" jU f fd) (n_min:mg "min"=none):aG P w K mg base CX0 1 f fd ["strip"] jG:=by
 refine F.ok uZ (fun vs H Q E h=>?_) (fun cdv A outer s H vs Q E hr h=>?_)
 ·obtain ⟨p,c,rfl,_⟩:=h
  rfl
 obtain ⟨p,c,rfl,hp,q⟩:=h
 refine aW (aj (aB (e_b (jr rfl) n_min (by decide +kernel) (aa (ar am (e_v 0) ae) (aa (ar am (e_v 0) ae) af))))) ?_
 refine ⟨_,rfl,p,_,_,.int c.a,rfl,rfl,SqT.of hp,ad (j:=1) rfl,_,rfl,p,_,_,.int c.b,rfl,rfl,SqT.of hp,ad (j:=2) rfl,_,_,rfl,?_⟩
 exact q
def xE:Sp:=fun vs H Q _=>∃(p:Addr) (c:Clip),vs=[.ref p]/\H p=some (.tup c.vs)/\Q (.int (Ab c)) H
theorem AF:aq ["strip"] ["strip"] (ak fu):=⟨rfl,rfl,rfl,by decide +kernel,rfl,by decide +kernel,by decide +kernel⟩
theorem z0 {f:Addr}{fd:FuncData}(F:Fun K "greatest" "greatest" fu f fd) (n_max:mg "max"=none):aG P w K mg base CX0 1 f fd ["strip"] xE:=by
 refine F.ok AF (fun vs H Q E h=>?_) (fun cdv A outer s H vs Q E hr h=>?_)
 ·obtain ⟨p,c,rfl,_⟩:=h
  rfl
 obtain ⟨p,c,rfl,hp,q⟩:=h
 refine aW (aj (aB (e_b (eU rfl) n_max (by decide +kernel) (aa (ar am (e_v 0) ae) (aa (ar am (e_v 0) ae) af))))) ?_
 refine ⟨_,rfl,p,_,_,.int c.a,rfl,rfl,SqT.of hp,ad (j:=1) rfl,_,rfl,p,_,_,.int c.b,rfl,rfl,SqT.of hp,ad (j:=2) rfl,_,_,rfl,?_⟩
 exact q
def l9:Sp:=fun vs H Q _=>∃(l:Addr) (es:List Int) (x:Int),vs=[.ref l,.int x]/\H l=some (.lst (es.map V.int))/\es.length<=1000/\∀H',Same H H'->Q (.int ((ff es x:Nat):Int)) H'
theorem scFree:aq ["ends", "frame", "place", "end"] ["ends", "frame"] (ak dE):=⟨rfl,rfl,rfl,by decide +kernel,rfl,by decide +kernel,by decide +kernel⟩
theorem vU {f:Addr}{fd:FuncData}(F:Fun K "first_free" "first_free" dE f fd) (n_enumerate:mg "enumerate"=none) (n_len:mg "len"=none):aG P w K mg base CX0 1 f fd ["ends", "frame"] l9:=by
 refine F.ok scFree (fun vs H Q E h=>?_) (fun cdv A outer s H vs Q E hr h=>?_)
 ·obtain ⟨l,es,x,rfl,_⟩:=h
  rfl
 obtain ⟨l,es,x,rfl,hl,hn,q⟩:=h
 refine aW (ag (bM PassesOwn.never rfl (tU n_enumerate (e_v 0)) (f8 rfl (aS (aM (i:=2) scFree.nd) (aS (aM (i:=3) scFree.nd) dP)))
   (aj (bc (aN fU (e_v 3) (e_v 1))
    (aj (aB (e_v 2)))
    aL)))
  (aj (aB (e_b aT n_len PySem.boot_len (aa (e_v 0) af))))) ?_
 refine ⟨_,rfl,l,rfl,⟨_,SqL.of hl⟩,ll (K:=K) (a:=l) (xs:=es.map V.int) (fun i σ H'=>∃(o2 o3:Option V),σ=[some (.ref l),some (.int x),o2,o3]/\Same H H'/\i<=ff es x) ⟨none,none,rfl,fun _ _ h=>h,Nat.zero_le _⟩ ?_ ?_ ?_⟩
 ·rintro i σ H' _ ⟨o2,o3,rfl,hS,_⟩
  exact SqL.of (hS _ _ hl)
 ·rintro i v σ H' p hx ⟨o2,o3,rfl,hS,hi⟩ hp
  rw [List.getElem?_map] at hx
  cases hu:es[i]? with
  | none=>rw [hu] at hx; cases hx
  | some e =>
   rw [hu] at hx
   cases hx
   have s1:Same H (upd H' p (.tup [.int (i:Int),.int e])):=hS.trans (Same.new hp _)
   refine ⟨p,_,rfl,SqT.of ac,rfl,_,_,rfl,_,_,rfl,rfl,?_⟩
   refine ⟨_,rfl,_,rfl,_,_,rfl,rfl,_,rfl,?_⟩
   refine cY (fun z=>?_) (fun z=>?_)
   ·have z:=of_decide_eq_true z
    have e1:ff es x=i:=by
     rcases Nat.lt_or_ge i (ff es x) with h | h
     ·have:=ui h hu
      omega
     ·omega
    have q1:=q _ s1
    rw [e1] at q1
    exact ⟨_,rfl,q1⟩
   ·have z:¬ e<x:=fun y=>z (decide_eq_true y)
    refine ⟨_,_,rfl,s1,?_⟩
    rcases Nat.lt_or_ge i (ff es x) with h | h
    ·exact h
    ·have e1:ff es x=i:=by omega
     rw [<- e1] at hu
     exact absurd (uh hu) z
 ·rintro σ H' ⟨o2,o3,rfl,hS,hi⟩
  rw [List.length_map] at hi
  have e1:ff es x=es.length:=Nat.le_antisymm (lq es x) hi
  refine ⟨_,rfl,l,_,rfl,.inl (SqL.of (hS _ _ hl)),?_⟩
  rw [List.length_map,<- e1]
  exact q _ hS
def qZ:Sp:=fun vs H Q _=>∃(l:Addr) (es:List Int) (p:Nat) (e:Int),vs=[.ref l,.int (p:Int),.int e]/\H l=some (.lst (es.map V.int))/\p<=es.length/\es.length<1000/\Q .non (upd H l (.lst ((eG es p e).map V.int)))
theorem zI:aq ["ends", "place", "end"] ["ends", "place", "end"] (ak gq):=⟨rfl,rfl,rfl,by decide +kernel,rfl,by decide +kernel,by decide +kernel⟩
theorem yA {f:Addr}{fd:FuncData}(F:Fun K "put_end" "put_end" gq f fd) (n_len:mg "len"=none):aG P w K mg base CX0 1 f fd ["ends", "place", "end"] qZ:=by
 refine F.ok zI (fun vs H Q E h=>?_) (fun cdv A outer s H vs Q E hr h=>?_)
 ·obtain ⟨l,es,p,e,rfl,_⟩:=h
  rfl
 obtain ⟨l,es,p,e,rfl,hl,hp,hn,q⟩:=h
 refine aW (aj (bc (aN be (e_v 1) (e_b aT n_len PySem.boot_len (aa (e_v 0) af)))
   (aj (aP (bg (e_v 0) (e_v 2))))
   (aj (kI (e_v 2) (ud (e_v 0) (e_v 1)))))) ?_
 refine ⟨_,rfl,_,rfl,l,_,rfl,.inl (SqL.of hl),rfl,_,rfl,?_⟩
 rw [List.length_map]
 have zl:sizeLine=16777216:=sizeLine_eq
 by_cases e1:p=es.length
 ·refine iteY (decide_eq_true (by rw [e1])) ?_
  refine ⟨_,rfl,.inl ⟨rfl,_,SqL.of hl⟩,_,rfl,l,_,_,rfl,rfl,hl,by rw [List.length_map]; omega,?_⟩
  have e2:eG es p e=es++[e]:=by unfold eG; rw [if_pos e1]
  rw [e2,List.map_append] at q
  exact q
 ·refine iteN (decide_eq_false (by intro z; have:=V.int.inj z; omega)) ?_
  refine ⟨_,rfl,_,rfl,_,rfl,l,_,_,p,rfl,rfl,hl,by rw [List.length_map]; exact ow (by omega),?_⟩
  have e2:eG es p e=es.set p e:=by unfold eG; rw [if_neg e1]
  rw [e2,List.map_set] at q
  exact q
end
end K57
namespace L2
open PySem PySem.Spec PyProof.Rows
theorem none_of {H H':Hp}{b:Addr}(s:Same H H') (h:H' b=none):H b=none:=by
 cases e:H b with
 | none=>rfl
 | some o=>rw [s b o e] at h; cases h
theorem TabOk.same {T:Addr}{pos:Pos}{qual:Str}{H H':Hp}(h:TabOk T pos qual H) (s:Same H H'):TabOk T pos qual H':=by
 rcases h with ⟨ps,a,b,c⟩ | ⟨c',ps,a,b,c,d⟩
 ·exact .inl ⟨ps,s _ _ a,b,c⟩
 ·exact .inr ⟨c',ps,s _ _ a,b,c,s _ _ d⟩
theorem TabOk.at {T:Addr}{pos:Pos}{qual:Str}{H:Hp}(h:TabOk T pos qual H):∃ps,H T=some (.tbl ps):=by
 rcases h with ⟨ps,a,_⟩ | ⟨c',ps,a,_⟩
 ·exact ⟨ps,a⟩
 ·exact ⟨ps,a⟩
theorem TabOk.write {T a:Addr}{pos:Pos}{qual:Str}{H:Hp}{o u:HO}(h:TabOk T pos qual H) (e:H a=some u) (h1:∀ps,u≠.tbl ps) (h2:∀c q,u≠cod c q):TabOk T pos qual (upd H a o):=by
 rcases h with ⟨ps,x,b,c⟩ | ⟨c',ps,x,b,c,d⟩
 ·have n1:T≠a:=fun z=>by rw [z,e] at x; cases x; exact h1 _ rfl
  exact .inl ⟨ps,by rw [ah n1]; exact x,b,c⟩
 ·have n1:T≠a:=fun z=>by rw [z,e] at x; cases x; exact h1 _ rfl
  have n2:c'≠a:=fun z=>by
   rw [z,e] at d
   exact h2 _ _ (Option.some.inj d)
  exact .inr ⟨c',ps,by rw [ah n1]; exact x,b,c,by rw [ah n2]; exact d⟩
theorem nG:∀k:Nat,(List.replicate k [V.int 0]).flatten=(List.replicate k 0).map fun (p:Nat)=>V.int ((p:Nat):Int)
 | 0=>rfl
 | k+1=>by
  rw [List.replicate_succ,List.flatten_cons,nG k,List.replicate_succ,List.map_cons]
  rfl
theorem rW {ns:List Int}{n:Nat}(h:ns.Perm (fe n)):∃js:List Nat,ns=js.map (fun j=>((j:Nat):Int))/\js.Perm (List.range n):=by
 refine ⟨ns.map Int.toNat,?_,?_⟩
 ·rw [List.map_map]
  have:∀x∈ns,((fun j:Nat=>(j:Int)) ∘ Int.toNat) x=x:=fun x hx=>by
   have:=h.mem_iff.mp hx
   unfold fe at this
   obtain ⟨m,_,rfl⟩:=List.mem_map.mp this
   rfl
  conv=>lhs; rw [<- List.map_id ns]
  exact List.map_congr_left fun x hx=>(this x hx).symm
 ·have:=h.map Int.toNat
  unfold fe at this
  rw [List.map_map] at this
  have e:(List.range n).map (Int.toNat ∘ fun (m:Nat)=>(m:Int))=List.range n:=by
   conv=>rhs; rw [<- List.map_id (List.range n)]
   exact List.map_congr_left fun x _=>rfl
  rw [e] at this
  exact this
end L2
namespace KS
open PySem
theorem iM:∀(us:List Iv) (v:Iv) (f:Ends),dn (us++[v]) f=(dn us f).put v.reel (eG (dn us f v.reel) (ff (dn us f v.reel) v.lo) v.hi)
 | [],v,f=>rfl
 | u :: us,v,f=>by
  show dn (us++[v]) _=_
  rw [iM us v]
  rfl
theorem vg (f:Ends) (v:Iv) (n:Nat) (h:∀r,(f r).length<=n) (r:Str):(f.put v.reel (eG (f v.reel) (ff (f v.reel) v.lo) v.hi) r).length<=n+1:=by
 unfold Ends.put
 split
 ·have h1:=h v.reel
  rw [rF]
  split <;> omega
 ·have:=h r
  omega
theorem lD:∀(us:List Iv) (f:Ends) (n:Nat),(∀r,(f r).length<=n)->∀r,(dn us f r).length<=n+us.length
 | [],f,n,h,r=>h r
 | v :: us,f,n,h,r=>by
  have:=lD us _ (n+1) (vg f v n h) r
  rw [List.length_cons]
  show (dn us _ r).length<=_
  omega
theorem xR {vs:List Iv}{i:Nat}{v:Iv}(f:Ends) (h:vs[i]?=some v):(dj vs f)[i]?=some (v,ff (dn (vs.take i) f v.reel) v.lo):=by
 obtain ⟨hi,he⟩:=List.getElem?_eq_some_iff.mp h
 have e:vs=vs.take i++v :: vs.drop (i+1):=by
  rw [<- he,List.getElem_cons_drop hi,List.take_append_drop]
 have hl:(dj (vs.take i) f).length=i:=by
  have:=congrArg List.length (im (vs.take i) f)
  rw [List.length_map,List.length_take] at this
  omega
 conv=>lhs; rw [e,kJ]
 rw [List.getElem?_append_right (by omega),hl,Nat.sub_self]
 rfl
end KS
namespace K57
open PySem L2 G KS
section
variable {P:Program}{w:World}{K:PySem.W.Frag}{mg:Str->Option Value}{base:Heap}
def ke:Pos:=⟨177,49,177,75⟩
def kc:Str:="prints_for"++".<locals>."++"<lambda>"
def d0:Clip:=⟨"",0,0,0⟩
def i0:Iv:=⟨"",0,0⟩
def zj (H₀ H:Hp) (pp D:Addr) (kvs:List (Key×V)) (f:KS.Ends):Prop :=
 (∀r:Str,aK kvs (.inr r)=none->f r=[])/\(∀(r:Str) v,aK kvs (.inr r)=some v->∃l,v=.ref l/\H l=some (.lst ((f r).map V.int))/\H₀ l=none/\l≠pp/\l≠D) /\
 ∀(r r':Str) l,aK kvs (.inr r)=some (.ref l)->aK kvs (.inr r')=some (.ref l)->r=r'
def SLs (H:Hp) (p:Addr) (ps:List (Addr×Clip)):Prop:=H p=some (.lst (ps.map fun x=>V.ref x.1))/\∀x∈ps,H x.1=some (.tup x.2.vs)
def xC (T:Addr):Sp:=fun vs H Q _=>∃(pl:Addr) (ps:List (Addr×Clip)) (spoil:Int),vs=[.ref pl,.int spoil]/\SLs H pl ps/\ps.length<64/\0<=spoil/\TabOk T ke kc H /\
 ∀(l:Addr) (prs:List Nat) (H':Hp),H l=none->Bt T H H'->TabOk T ke kc H'->H' l=some (.lst (prs.map fun p=>V.int ((p:Nat):Int)))->PrOk (ps.map fun x=>ivOf spoil x.2) prs->Q (.ref l) H'
theorem scPr:aq ["strips", "spoil", "prints", "taken", "number", "strip", "ends"] ["strips", "spoil"] (ak dA):=⟨rfl,rfl,rfl,by decide +kernel,rfl,by decide +kernel,by decide +kernel⟩
theorem zZ {f c T:Addr}{fd:FuncData}(F:Fun K "prints_for" "prints_for" dA f fd) (hc:fd.code=.ref c) (C:PySem.W.CodeHd base c T) (hB:base.BuiltinsAt mg T) (dLeast:Def P w K mg base CX0 "least" 1 ["strip"] jG) (dGr:Def P w K mg base CX0 "greatest" 1 ["strip"] xE)
  (dFree:Def P w K mg base CX0 "first_free" 1 ["ends", "frame"] l9) (dPut:Def P w K mg base CX0 "put_end" 1 ["ends", "place", "end"] qZ) (n_len:mg "len"=none) (n_sorted:mg "sorted"=none) (n_range:mg "range"=none):aG P w K mg base CX0 5 f fd ["strips", "spoil"] (xC T):=by
 refine F.okT (k:=4) hc scPr (fun vs H Q E h=>?_) (fun A outer s H vs Q E hr h=>?_)
 ·obtain ⟨pl,ps,spoil,rfl,_⟩:=h
  rfl
 obtain ⟨pl,ps,spoil,rfl,sl,hn,h0,tab,q⟩:=h
 have hr:Room (1+3) _:=hr
 refine aW (ag (aw (i:=2) scPr.nd (az sx (ba (aa ae af)) (e_b aT n_len PySem.boot_len (aa (e_c 0) af))))
  (ag (aw (i:=3) scPr.nd kl)
  (ag (bM PassesOwn.never rfl (bB (qv (x:="k") ["strips"] [0] [("strips",s.heap.objs.size+1)] hr n_sorted n_range rfl C hB (e_b aT n_len PySem.boot_len (aa (e_c 0) af)) rfl ⟨rfl,rfl,rfl,rfl,trivial⟩ ⟨rfl,trivial⟩ (fun _ _ _ _ _ hr=>(ao dLeast hr aE (aa (ar (tR (K:=K) rfl) (e_f 1) (e_v 0)) af))))) (aM (i:=4) scPr.nd)
   (ag (aw (i:=5) scPr.nd (ar aJ (e_c 0) (e_v 4)))
   (ag (eZ (aw (i:=6) scPr.nd (wA (e_v 3) (ar am (e_v 5) ae) (ba af))))
   (ag (kI (ao dFree hr aE (aa (e_v 6) (aa (ao dLeast hr aE (aa (e_v 5) af)) af))) (ud (e_v 2) (e_v 4)))
   (aj (aP (ao dPut hr aE (aa (e_v 6) (aa (ar aJ (e_v 2) (e_v 4)) (aa (az aR (ao dGr hr aE (aa (e_v 5) af)) (e_v 1)) af))))))))))
  (aj (aB (e_v 2)))))) ?_
 have zl:sizeLine=16777216:=sizeLine_eq
 refine ⟨(by show 1<=sizeLine; decide),fun pz hpz=>?_⟩
 have s1:=Same.new hpz (.lst [V.int 0])
 refine ⟨_,rfl,pl,_,rfl,.inl (SqL.of (s1 _ _ sl.1)),pz,_,_,rfl,rfl,ac,by omega,by rw [List.length_map]; omega,by rw [List.length_map]; show 1*_<=sizeLine; omega,fun pp hpp=>?_⟩
 have s2:=s1.trans (Same.new hpp (.lst (List.replicate ((ps.map fun x=>V.ref x.1).length:Int).toNat [V.int 0]).flatten))
 refine fun pt hpt=>?_
 have s3:=s2.trans (Same.new hpt (.dK []))
 obtain ⟨tps,hT⟩:=tab.at
 have nT:∀{b:Addr},H b=none->b≠T:=fun hb z=>by rw [z,hT] at hb; cases hb
 have hpp0:H pp=none:=none_of s1 hpp
 have hpt0:H pt=none:=none_of s2 hpt
 have f1:upd (upd (upd H pz (.lst [V.int 0])) pp (.lst (List.replicate ((ps.map fun x=>V.ref x.1).length:Int).toNat [V.int 0]).flatten)) pt (.dK []) pp=some (.lst ((List.replicate ps.length 0).map fun (p:Nat)=>V.int ((p:Nat):Int))):=by
  have e1:((ps.map fun x=>V.ref x.1).length:Int).toNat=ps.length:=by rw [List.length_map]; rfl
  rw [ah (ap ac hpt),ac,e1,nG]
 have nzt:∀ps',some (HO.tbl ps')≠H pl:=fun ps' z=>by rw [sl.1] at z; cases z
 refine ⟨_,rfl,pl,_,rfl,.inl (SqL.of (s3 _ _ sl.1)),ps.length,by rw [List.length_map],hn,tab.same s3,fun k=>eI ((ps.map (·.2)).getD k.toNat d0),fun k H' hk hb=>?_,fun D H2 ns hD hb tab2 hl hp ho=>?_⟩
 ·have hT':pl≠T:=bn sl.1 hT (by intro z; cases z)
  have hz:=List.getElem?_eq_getElem hk
  have hm:=List.getElem_mem hk
  have hzT:ps[k].1≠T:=bn (sl.2 _ hm) hT (by intro z; cases z)
  refine ⟨_,rfl,_,rfl,pl,_,_,.ref ps[k].1,rfl,rfl,SqL.of (hb _ _ hT' (s3 _ _ sl.1)),ad (j:=k) (by rw [List.getElem?_map,hz]; rfl),ps[k].1,ps[k].2,rfl,hb _ _ hzT (s3 _ _ (sl.2 _ hm)),?_,fun _ _ h=>h⟩
  have:(ps.map (·.2)).getD k d0=ps[k].2:=by rw [List.getD_eq_getElem?_getD,List.getElem?_map,hz]; rfl
  show V.int _=V.int (eI ((ps.map (·.2)).getD ((k:Int).toNat) d0))
  rw [show ((k:Int).toNat)=k from rfl,this]
 obtain ⟨js,rfl,hjs⟩:=rW hp
 have hpT:pl≠T:=bn sl.1 hT (by intro z; cases z)
 have hD0:H D=none:=none_of s3 hD
 have nppD:pp≠D:=ap f1 hD
 have nptD:pt≠D:=ap ac hD
 have nppt:pp≠pt:=fun z=>by rw [z,ac] at f1; cases f1
 have tk0:zj H H2 pp D [] (fun _=>[]):=⟨fun _ _=>rfl,fun r v z=>(by cases z),fun r r' l z=>(by cases z)⟩
 refine ⟨D,rfl,⟨_,SqL.of hl⟩,cK (K:=K) (a:=D) (xs:=(js.map fun (j:Nat)=>((j:Nat):Int)).map V.int) (fun i σ H'=>∃(prs:List Nat) (kvs:List (Key×V)) (o4 o5 o6:Option V),σ=[some (.ref pl),some (.int spoil),some (.ref pp),some (.ref pt),o4,o5,o6] /\
   H' pp=some (.lst (prs.map fun p=>V.int ((p:Nat):Int)))/\prs.length=ps.length/\H' pt=some (.dK kvs)/\kvs.length<=i/\zj H H' pp D kvs (dn ((js.map fun j=>(ps.map fun (x:Addr×Clip)=>ivOf spoil x.2).getD j i0).take i) fun _=>[]) /\
   (∀(i' j:Nat) x,i'<i->js[i']?=some j->(dj (js.map fun j=>(ps.map fun (x:Addr×Clip)=>ivOf spoil x.2).getD j i0) fun _=>[])[i']?=some x->prs[j]?=some x.2)/\Bt T H H'/\TabOk T ke kc H'/\H' D=some (.lst ((js.map fun (j:Nat)=>((j:Nat):Int)).map V.int)))
  ⟨_,[],none,none,none,rfl,hb _ _ (nT hpp0) f1,List.length_replicate,hb _ _ (nT hpt0) ac,Nat.le_refl _,tk0,fun i' _ _ z=>by omega,fun b o h1 h2=>hb b o h1 (s3 b o h2),.inr tab2,hl⟩ ?_ ?_ ?_⟩
 ·rintro i σ H' _ ⟨prs,kvs,o4,o5,o6,rfl,_,_,_,_,_,_,_,_,hD'⟩
  exact SqL.of hD'
 ·rintro i x σ H' hx ⟨prs,kvs,o4,o5,o6,rfl,hpp',hpl',hpt',hkl,⟨t1,t2,t3⟩,hdone,bt,tab',hD'⟩
  rw [List.getElem?_map,List.getElem?_map] at hx
  cases hj:js[i]? with
  | none=>rw [hj] at hx; cases hx
  | some j =>
   rw [hj] at hx
   cases hx
   have hjn:j<ps.length:=List.mem_range.mp (hjs.mem_iff.mp (List.mem_of_getElem? hj))
   have hil:i<ps.length:=by
    have:=(List.getElem?_eq_some_iff.mp hj).1
    have:=hjs.length_eq
    rw [List.length_range] at this
    omega
   have hz:=List.getElem?_eq_getElem hjn
   have hm:=List.getElem_mem hjn
   generalize ps[j]=z at hz hm
   have hzT:z.1≠T:=bn (sl.2 _ hm) hT (by intro y; cases y)
   have hzt:=bt _ _ hzT (sl.2 _ hm)
   have hiv:(ps.map fun (x:Addr×Clip)=>ivOf spoil x.2).getD j i0=ivOf spoil z.2:=by rw [List.getD_eq_getElem?_getD,List.getElem?_map,hz]; rfl
   have hvi:(js.map fun j=>(ps.map fun (x:Addr×Clip)=>ivOf spoil x.2).getD j i0)[i]?=some (ivOf spoil z.2):=by rw [List.getElem?_map,hj]; exact congrArg some hiv
   have hrun:=xR (fun _=>[]) hvi
   have hend:=iM ((js.map fun j=>(ps.map fun (x:Addr×Clip)=>ivOf spoil x.2).getD j i0).take i) (ivOf spoil z.2) (fun _=>[])
   rw [<- bh hvi] at hend
   have hlen:=lD ((js.map fun j=>(ps.map fun (x:Addr×Clip)=>ivOf spoil x.2).getD j i0).take i) (fun _=>[]) 0 (fun _=>Nat.le_refl _) z.2.reel
   rw [List.length_take] at hlen
   generalize dn ((js.map fun j=>(ps.map fun (x:Addr×Clip)=>ivOf spoil x.2).getD j i0).take i) (fun _=>[])=fE at t1 t2 t3 hrun hend hlen
   refine ⟨_,rfl,_,rfl,pl,_,_,.ref z.1,rfl,rfl,SqL.of (bt _ _ hpT sl.1),ad (j:=j) (by rw [List.getElem?_map,hz]; rfl),?_⟩
   refine ⟨fun σ1 H1=>∃(l:Addr) (kvs':List (Key×V)),σ1=[some (.ref pl),some (.int spoil),some (.ref pp),some (.ref pt),some (.int ((j:Nat):Int)),some (.ref z.1),some (.ref l)]/\H1 pp=some (.lst (prs.map fun p=>V.int ((p:Nat):Int)))/\H1 pt=some (.dK kvs')/\kvs'.length<=i+1 /\
    zj H H1 pp D kvs' fE/\aK kvs' (.inr z.2.reel)=some (.ref l)/\Bt T H H1/\TabOk T ke kc H1/\H1 D=some (.lst ((js.map fun (j:Nat)=>((j:Nat):Int)).map V.int)),?_,?_⟩
   ·refine ⟨_,rfl,pt,rfl,.inl ⟨kvs,Rd.of hpt'⟩,_,rfl,z.1,_,_,.str z.2.reel,rfl,rfl,SqT.of hzt,ad (j:=0) rfl,(by show 0<=sizeLine; decide),fun pe hpe=>?_⟩
    have se:=Same.new hpe (.lst [])
    refine ⟨kvs,.inr z.2.reel,se _ _ hpt',by omega,rfl,fun v hv=>?_,fun hv=>?_⟩
    ·obtain ⟨l,rfl,hl1,hl0,hl2,hl3⟩:=t2 _ _ hv
     refine ⟨l,kvs,rfl,se _ _ hpp',se _ _ hpt',by omega,⟨t1,fun r v h=>?_,t3⟩,hv,fun b o h1 h2=>se _ _ (bt b o h1 h2),tab'.same se,se _ _ hD'⟩
     obtain ⟨l',e,h1,h2⟩:=t2 r v h
     exact ⟨l',e,se _ _ h1,h2⟩
    ·have npe:pt≠pe:=ap hpt' hpe
     have hpe0:H pe=none:=by
      cases e:H pe with
      | none=>rfl
      | some o =>
       by_cases hb:pe=T
       ·obtain ⟨qs,hq⟩:=tab'.at
        rw [hb,hq] at hpe; cases hpe
       ·rw [bt _ _ hb e] at hpe; cases hpe
     have np:pp≠pe:=ap hpp' hpe
     have nD:D≠pe:=ap hD' hpe
     refine ⟨pe,bp kvs (.inr z.2.reel) (.ref pe),rfl,?_,ac,?_,⟨fun r h=>?_,fun r v h=>?_,fun r r' l h h'=>?_⟩,?_,fun b o h1 h2=>?_,?_,?_⟩
     ·rw [ah nppt,ah np]; exact hpp'
     ·have:=bX kvs (.inr z.2.reel) (.ref pe)
      omega
     ·rw [bV] at h
      split at h
      ·cases h
      ·exact t1 r h
     ·rw [bV] at h
      split at h
      ·rename_i e
       cases h
       have e:r=z.2.reel:=Sum.inr.inj e
       rw [e,t1 _ hv]
       exact ⟨pe,rfl,by rw [ah (Ne.symm npe)]; exact ac,hpe0,Ne.symm np,Ne.symm nD⟩
      ·obtain ⟨l',e,h1,h2⟩:=t2 r v h
       refine ⟨l',e,?_,h2⟩
       rw [ah (bn h1 hpt' (by intro y; cases y))]
       exact se _ _ h1
     ·rw [bV] at h h'
      split at h
      ·rename_i e
       split at h'
       ·rename_i e'
        exact Sum.inr.inj (e.trans e'.symm)
       ·obtain ⟨l',e2,h1,_⟩:=t2 r' _ h'
        cases h
        cases e2
        rw [hpe] at h1; cases h1
      ·split at h'
       ·obtain ⟨l',e2,h1,_⟩:=t2 r _ h
        cases h'
        cases e2
        rw [hpe] at h1; cases h1
       ·exact t3 r r' l h h'
     ·rw [bV,if_pos rfl]
     ·rw [ah (ap h2 hpt0)]
      exact se _ _ (bt b o h1 h2)
     ·exact (tab'.same se).write (se _ _ hpt') (fun _ y=>by cases y) fun _ _ y=>by cases y
     ·rw [ah (Ne.symm nptD)]
      exact se _ _ hD'
   ·rintro σ1 H1 ⟨l,kvs',rfl,hpp1,hpt1,hkl1,⟨u1,u2,u3⟩,hv1,bt1,tab1,hD1⟩
    obtain ⟨l',e,hl1,hl0,hl2,hl3⟩:=u2 _ _ hv1
    cases e
    have hz1:=bt1 _ _ hzT (sl.2 _ hm)
    have nlpp:=hl2
    refine ⟨_,rfl,_,rfl,z.1,z.2,rfl,hz1,l,fE z.2.reel,_,rfl,hl1,by omega,fun H3 s3'=>?_⟩
    have hpp3:=s3' _ _ hpp1
    refine ⟨_,rfl,_,rfl,pp,_,_,j,rfl,rfl,hpp3,by rw [List.length_map,hpl']; exact ow hjn,?_⟩
    have hl3':=s3' _ _ hl1
    have hz3:=s3' _ _ hz1
    have nzp:z.1≠pp:=bn hz3 hpp3 (by intro y; cases y)
    have npr:((prs.map fun p=>V.int ((p:Nat):Int)).set j (.int ((ff (fE z.2.reel) (eI z.2):Nat):Int)))=(prs.set j (ff (fE z.2.reel) (eI z.2))).map fun p=>V.int ((p:Nat):Int):=by rw [List.map_set]
    rw [npr]
    have hpl2:(prs.set j (ff (fE z.2.reel) (eI z.2))).length=ps.length:=by rw [List.length_set]; exact hpl'
    have hat:(prs.set j (ff (fE z.2.reel) (eI z.2)))[j]?=some (ff (fE z.2.reel) (eI z.2)):=by rw [List.getElem?_set_self (by rw [hpl']; exact hjn)]
    refine ⟨_,rfl,_,rfl,_,rfl,pp,_,_,.int ((ff (fE z.2.reel) (eI z.2):Nat):Int),rfl,rfl,SqL.of ac,ad (j:=j) (by rw [List.getElem?_map,hat]; rfl),_,rfl,z.1,z.2,rfl,by rw [ah nzp]; exact hz3,_,rfl,_,_,rfl,rfl,
     l,fE z.2.reel,ff (fE z.2.reel) (eI z.2),_,rfl,by rw [ah nlpp]; exact hl3',lq _ _,by omega,?_⟩
    have up:∀b,b≠l->b≠pp->upd (upd H3 pp (.lst ((prs.set j (ff (fE z.2.reel) (eI z.2))).map fun p=>V.int ((p:Nat):Int)))) l (.lst ((eG (fE z.2.reel) (ff (fE z.2.reel) (eI z.2)) (Ab z.2+spoil)).map V.int)) b=H3 b:=fun b h1 h2=>by rw [ah h1,ah h2]
    refine ⟨prs.set j (ff (fE z.2.reel) (eI z.2)),kvs',_,_,_,rfl,by rw [ah (Ne.symm nlpp)]; exact ac,hpl2,?_,hkl1,⟨fun r h=>?_,fun r v h=>?_,u3⟩,?_,fun b o h1 h2=>?_,?_,?_⟩
    ·rw [up _ (bn hpt1 hl1 (by intro y; cases y)) (bn hpt1 hpp1 (by intro y; cases y))]
     exact s3' _ _ hpt1
    ·rw [hend]
     show (if r=z.2.reel then _ else fE r)=_
     rw [if_neg (fun e=>by rw [e,hv1] at h; cases h)]
     exact u1 r h
    ·obtain ⟨l',e,h1,h2,h3,h4⟩:=u2 r v h
     refine ⟨l',e,?_,h2,h3,h4⟩
     rw [hend]
     show _=some (HO.lst ((if r=z.2.reel then _ else fE r).map V.int))
     by_cases er:r=z.2.reel
     ·rw [if_pos er]
      rw [er,hv1] at h
      have e:=(Option.some.inj h).trans e
      cases e
      exact ac
     ·rw [if_neg er,up l' (fun y=>er (u3 r z.2.reel l (by rw [h,e,y]) hv1)) h3]
      exact s3' _ _ h1
    ·intro i' j' x' hi' hj' hx'
     rcases Nat.lt_or_ge i' i with hlt | hge
     ·have h5:=hdone i' j' x' hlt hj' hx'
      have nj:j≠j':=fun e=>by
       have nd:js.Nodup:=hjs.nodup_iff.mpr List.nodup_range
       exact gR nd hlt hj' hj e.symm
      rw [List.getElem?_set_ne nj]
      exact h5
     ·have e:i'=i:=by omega
      subst e
      rw [hj] at hj'
      cases hj'
      rw [hrun] at hx'
      cases hx'
      exact hat
    ·rw [up b (ap h2 hl0) (ap h2 hpp0)]
     exact s3' _ _ (bt1 b o h1 h2)
    ·have w1:=(tab1.same s3').write (o:=.lst ((prs.set j (ff (fE z.2.reel) (eI z.2))).map fun p=>V.int ((p:Nat):Int))) hpp3 (fun _ y=>by cases y) fun _ _ y=>by cases y
     exact w1.write (by rw [ah nlpp]; exact hl3') (fun _ y=>by cases y) fun _ _ y=>by cases y
    ·rw [up D (Ne.symm hl3) (Ne.symm nppD)]
     exact s3' _ _ hD1
 ·rintro σ H' ⟨prs,kvs,o4,o5,o6,rfl,hpp',hpl',hpt',hkl,tk,hdone,bt,tab',hD'⟩
  refine ⟨_,rfl,q pp prs H' hpp0 bt tab' hpp' ?_⟩
  refine vw (js:=js) (by rw [hpl',List.length_map]) (fun v hv=>?_) (by rw [List.length_map]; exact hjs) i0 ?_ (fun i j x h1 h2=>hdone i j x ?_ h1 h2)
  ·obtain ⟨x,_,rfl⟩:=List.mem_map.mp hv
   unfold ivOf
   show (if x.2.b<x.2.a then x.2.b else x.2.a)<=(if x.2.a<x.2.b then x.2.b else x.2.a)+spoil
   split <;> split <;> omega
  ·rw [List.pairwise_map] at ho
   refine ho.imp_of_mem fun {a b} ha hb h=>?_
   have ka:=List.mem_range.mp (hjs.mem_iff.mp ha)
   have kb:=List.mem_range.mp (hjs.mem_iff.mp hb)
   have h':eI ((ps.map (·.2)).getD a d0)<=eI ((ps.map (·.2)).getD b d0):=h
   have eq:∀k,k<ps.length->((ps.map fun (x:Addr×Clip)=>ivOf spoil x.2).getD k i0).lo=eI ((ps.map (·.2)).getD k d0):=fun k hk=>by
    rw [List.getD_eq_getElem?_getD,List.getD_eq_getElem?_getD,List.getElem?_map,List.getElem?_map,List.getElem?_eq_getElem hk]
    rfl
   rw [eq a ka,eq b kb]
   exact h'
  ·rw [List.length_map,List.length_map]
   exact (List.getElem?_eq_some_iff.mp h1).1
end
end K57
namespace L2
open PySem PySem.Spec PyProof.Rows
section
variable {X:Cx}{pins:List (Addr×Obj)}{σ:St}{H:Hp}{s:Shared}
theorem me {A:Around}{E:Value->Shared->Prop}{a:Addr}{vs:List Value}{n:Nat}{P:PySem.Fin->Shared->Prop}(I:Inv X pins σ H s) (fa:bJ X pins H a) (xa:X.s₀.heap.get? a=none) (ha:s.heap.get? a=some (seqObj "list" vs.toArray n)) (h2:vs.length<2)
  (h:∀h' c,Inv X pins σ H { s with heap:=h' }->h'.get? a=some (seqObj "list" vs.toArray c)->P (.done (.ret .none)) { s with heap:=h' }) :
  wpAny (model X.prog X.w) A (Builtin.«list.sort» ⟨[.ref a],[]⟩) P E s:=by
 rw [list_sort_plain]
 have s1:=Heap.SameBut.update s.heap a (Obj.mapSeq fun _=>(#[]:Array Value))
 obtain ⟨e1,ho1⟩:∃e1,(s.heap.update a (Obj.mapSeq fun _=>(#[]:Array Value))).get? a=some (seqObj "list" #[] e1):=⟨_,get?_update_seq ha fun _=>#[]⟩
 have I3:=I.but s1 fa xa
 have I4:=I3.kept (t':=s.toks) fun b o e=>Heap.get?_push_of_some (seqObj "tuple" vs.toArray 0) e
 have I5:=I4.kept (t':=s.toks) fun b o e=>Heap.get?_push_of_some (seqObj "list" #[] 0) e
 have na:(((s.heap.update a (Obj.mapSeq fun _=>(#[]:Array Value))).push (seqObj "tuple" vs.toArray 0)).push (seqObj "list" #[] 0)).get? a=some (seqObj "list" #[] e1):=Heap.get?_push_of_some _ (Heap.get?_push_of_some _ ho1)
 refine wpAny_bind (listItems_at ha rfl ?_)
 refine wpAny_bind (listUpdate_at ha rfl ?_ (by rw [List.size_toArray,sizeLine_eq]; omega) (Nat.zero_le _))
 refine wpAny_bind (seqEpoch_at ho1 rfl ?_)
 refine wpAny_bind (wpAny_newTuple ?_ (by show vs.length<=_; rw [sizeLine_eq]; omega))
 refine wpAny_bind (wpAny_newList ?_ (Nat.zero_le _))
 refine wpAny_holding ?_
 have hn2:vs.toArray.size<2:=by rw [List.size_toArray]; exact h2
 dsimp only
 rw [if_pos hn2,if_pos hn2]
 refine wpAny_bind (wpAny_pure ?_)
 rw [StateT.run_pure]
 refine wpAny_bind (wpAny_pure ?_)
 dsimp only
 have hout:(arrOf (SortSt.mk' general' (vs.toArray.zip vs.toArray) #[] 7 none)).map (·.2)=vs.toArray:=by
  show (vs.toArray.zip vs.toArray).map (·.2)=vs.toArray
  apply Array.toList_inj.mp
  rw [Array.toList_map,Array.toList_zip]
  exact List.map_snd_zip (Nat.le_refl _)
 rw [hout]
 have s6:=Heap.SameBut.update (((s.heap.update a (Obj.mapSeq fun _=>(#[]:Array Value))).push (seqObj "tuple" vs.toArray 0)).push (seqObj "list" #[] 0)) a (Obj.mapSeq fun _=>vs.toArray)
 obtain ⟨c2,hc2⟩:∃c2,((((s.heap.update a (Obj.mapSeq fun _=>(#[]:Array Value))).push (seqObj "tuple" vs.toArray 0)).push (seqObj "list" #[] 0)).update a (Obj.mapSeq fun _=>vs.toArray)).get? a=some (seqObj "list" vs.toArray c2):=⟨_,get?_update_seq na fun _=>vs.toArray⟩
 refine wpAny_bind (seqEpoch_at na rfl ?_)
 refine wpAny_bind (listUpdate_at na rfl ?_ (Nat.zero_le _) (by rw [List.size_toArray,sizeLine_eq]; omega))
 simp only [bne_self_eq_false,Bool.false_eq_true,if_false]
 have I6:=I5.but s6 fa xa
 exact wpAny_pure (h _ c2 I6 hc2)
end
def g8 (to:TE):TE:=fun σ H Q=>to σ H fun x H1=>∃d k v,x=.ref d/\H1 d=some (.dK [(k,v)])/\∀t D,H1 t=none->H1 D=none->t≠D->Q (.ref D) (upd (upd H1 t (.tup [kV k,v])) D (.lst [.ref t]))
section
variable {X:Cx}
theorem z8 {k:Key}{u:Value}{P:Program}{w:World}(h:(aI P w).is k u=true):RelV (kV k) u:=by
 rcases aV h with ⟨i,t,rfl,rfl⟩ | ⟨x,t,rfl,rfl⟩
 ·exact ⟨t,rfl⟩
 ·exact ⟨t,rfl⟩
theorem j2 {o:Expr}{to:TE}{p pos apos cpos:Pos}(hc:X.calm=true) (hgl:X.env.kindOf "sorted"=some .globalImplicit) (hml:X.mg "sorted"=none) (ho:PE X o to)
  (hbase:attributeBase o "items" X.env (eval o X.env)=eval o X.env) (hline:(apos.endLine == cpos.line)=true):PE X (.Call (.Name "sorted" p) [.Call (.Attribute o "items" apos) [] [] cpos] [] pos) (g8 to):=by
 intro pins s σ H Q I h
 refine Call_ (bP (u:=.builtin "sorted") I hgl hml (by decide +kernel) (PyProof.Rows.callWith_builtin1 ?_ rfl rfl))
 show wpAny _ _ (spliced ((false,eval (.Call (.Attribute o "items" apos) [] [] cpos) X.env) :: backTo pos (starEach [] X.env))) _ _ s
 refine Calls.spliced_cons (wpAny_Call_method0_late hbase hline (thn (ho pins s σ H _ I h) fun v s1 ⟨x,H1,I1,r1,d,k,y,ex,hd,q1⟩=>?_))
 subst ex
 obtain rfl:v=Value.ref d:=r1
 obtain ⟨t1,t2,lo⟩:=kf I1 (.inl ⟨_,Rd.of hd⟩)
 refine ⟨"dict", "dict.items",PySem.F.plainAttrs_dict,PySem.F.slot_dict_items,PySem.F.type_dict_items,t1,t2,Calls.callWith_builtin rfl (PySem.evalArgs_none ?_)⟩
 obtain ⟨z,hd0,vs,rel,dd⟩:=lF I1.hok hd
 refine call_meetsIn PySem.F.slot_dict_items dd.typeIs PySem.F.entry_dict_items (PySem.F.args_dict_items_1 _) (meets_dict_items (aI X.prog X.w) d lo) ⟨⟨vs,dd⟩,?_⟩
 refine Calls.spliced_nil ?_
 have I2:Inv X pins σ H1 { s1 with heap:=s1.heap.push { cls:=.type "dict_items",data:=.fields #[.ref d] } }:=I1.kept (t':=s1.toks) fun b o e=>Heap.get?_push_of_some _ e
 refine Calls.call_function_entry kind_sorted plain_sorted entry_sorted (args_sorted1 _) ?_
 unfold Builtin.«sorted»
 refine wpAny_bind (m:=checkCount "sorted" 1 1 _) (wpAny_pure ?_)
 obtain ⟨z2,hd2,vs2,rel2,dd2⟩:=lF I2.hok hd
 obtain ⟨ep,dat⟩:=dd2.dictAt
 have hvl:vs2.length=1:=by rw [<- rel2.length]; rfl
 refine wpAny_bind (PySem.W.kdx_collect (A:=X.A.in1) (knd:=aI X.prog X.w) (kvs:=vs2) (ep:=ep) (I.ok.hd hc) ⟨_,Heap.get?_push_size _ rfl,rfl,rfl⟩ dat (by rw [hvl,sizeLine_eq]; omega) fun h' tk as hk hl hG=>?_)
 rw [hvl] at hl
 obtain ⟨t,rfl⟩:∃t,as=[t]:=by
  cases as with
  | nil=>cases hl
  | cons t r =>
   cases r with
   | nil=>exact ⟨t,rfl⟩
   | cons _ _=>cases hl
 obtain ⟨key,k',x',hkv,hkey,hobj⟩:=hG.pairs 0 t rfl
 have I3:Inv X pins σ H1 { s1 with heap:=h',toks:=tk }:=I2.kept hk
 have hts:s1.heap.objs.size<=t:=by
  have:=hG.above t (List.mem_cons_self ..)
  have e:(s1.heap.push { cls:=.type "dict_items",data:=.fields #[.ref d] }).objs.size=s1.heap.objs.size+1:=by rw [Heap.size_push]
  rw [e] at this
  exact Nat.le_of_lt (Nat.lt_of_le_of_lt (Nat.le_succ _) this)
 have ft:=I1.fpOk hts (I1.hok.fresh hts)
 have xt:X.s₀.heap.get? t=none:=Heap.get?_none_of_le (Nat.le_trans I1.sz hts)
 have rk:RelV (kV k) key/\RelV y x':=by
  cases rel2 with
  | cons h0 r0 =>
   cases r0
   rw [List.getElem?_cons_zero] at hkv
   obtain ⟨e1,e2⟩:=h0
   have e3:=Option.some.inj hkv
   subst e3
   have e1:k=k':=e1
   subst e1
   exact ⟨z8 hkey,e2⟩
 have I4:=I3.trackU (o:=.tup [kV k,y]) ft xt ⟨by show 2<=sizeLine; decide,[key,x'],.cons rk.1 (.cons rk.2 .nil),_,hobj,rfl,_,rfl⟩
 refine wpAny_bind (wpAny_newList ?_ (by show 1<=sizeLine; decide))
 have I5:=I4.kept (t':=tk) fun b o e=>Heap.get?_push_of_some (seqObj "list" [Value.ref t].toArray 0) e
 have fa:=I4.fpOk (Nat.le_refl _) (I4.hok.fresh (Nat.le_refl _))
 have xa:X.s₀.heap.get? h'.objs.size=none:=Heap.get?_none_of_le I4.sz
 have ha:(h'.push (seqObj "list" [Value.ref t].toArray 0)).get? h'.objs.size=some (seqObj "list" [Value.ref t].toArray 0):=Heap.get?_push_size _ rfl
 refine wpAny_bind (wpAny_holding (wpAny_call_entry slot_list_sort ⟨_,ha,rfl⟩ entry_list_sort (me I5 fa xa ha (by show 1<2; decide) fun h2 c J hc=>⟨.none,rfl,?_⟩) (args_list_sort _)))
 have J2:=J.trackU (o:=.lst [.ref t]) fa xa ⟨by show 1<=sizeLine; decide,[Value.ref t],c,.cons rfl .nil,hc⟩
 have ntD:t≠h'.objs.size:=Nat.ne_of_lt (Heap.lt_size hobj)
 have hD1:H1 h'.objs.size=none:=by
  have:=fa.1
  rw [ah (Ne.symm ntD)] at this
  exact this
 exact wpAny_pure ⟨_,rfl,.ref h'.objs.size,_,J2,rfl,q1 t h'.objs.size ft.1 hD1 ntD⟩
theorem lE {o:Expr}{to:TE}{p pos apos cpos:Pos}(hml:X.mg "sorted"=none) (ho:QE X o to) (hc:X.calm=true:=by rfl) (hgl:X.env.kindOf "sorted"=some .globalImplicit:=by kernel_rfl)
  (hbase:attributeBase o "items" X.env (eval o X.env)=eval o X.env:=by rfl) (hline:(apos.endLine == cpos.line)=true:=by rfl):QE X (.Call (.Name "sorted" p) [.Call (.Attribute o "items" apos) [] [] cpos] [] pos) (g8 to):=⟨j2 hc hgl hml ho.h hbase hline⟩
end
end L2
namespace K57
open PySem L2 G KS
section
variable {P:Program}{w:World}{K:PySem.W.Frag}{mg:Str->Option Value}{base:Heap}
def jE (T:Addr):Sp:=fun vs H Q _=>∃(pl:Addr) (ps:List (Addr×Clip)) (spoil:Int) (r:Str),vs=[.ref pl,.int spoil]/\SLs H pl ps/\ps.length<64/\ps≠[]/\(∀x∈ps,x.2.reel=r)/\0<=spoil/\TabOk T ke kc H /\
 ∀(D t:Addr) (prs:List Nat) (m:Nat) (H':Hp),Bt T H H'->TabOk T ke kc H'->H' D=some (.lst [.ref t])->H' t=some (.tup [.str r,.int ((m:Nat):Int)])->PrOk (ps.map fun x=>ivOf spoil x.2) prs->(∃p∈prs,m=p+1)->(∀p∈prs,p<m)->Q (.ref D) H'
theorem scNeeds:aq ["strips", "spoil", "many", "strip", "place"] ["strips", "spoil"] (ak jT):=⟨rfl,rfl,rfl,by decide +kernel,rfl,by decide +kernel,by decide +kernel⟩
theorem sJ {f T:Addr}{fd:FuncData}(F:Fun K "needs" "needs" jT f fd) (dPr:Def P w K mg base CX0 "prints_for" 5 ["strips", "spoil"] (xC T)) (n_zip:mg "zip"=none) (n_max:mg "max"=none) (n_sorted:mg "sorted"=none):aG P w K mg base CX0 6 f fd ["strips", "spoil"] (jE T):=by
 refine F.ok scNeeds (fun vs H Q E h=>?_) (fun cdv A outer s H vs Q E hr h=>?_)
 ·obtain ⟨pl,ps,spoil,r,rfl,_⟩:=h
  rfl
 obtain ⟨pl,ps,spoil,r,rfl,sl,hn,hne,hrl,h0,tab,q⟩:=h
 refine aW (ag (aw (i:=2) scNeeds.nd kl)
  (ag (bM PassesOwn.never rfl (z9 n_zip (e_v 0) (ao dPr hr aE (aa (e_v 0) (aa (e_v 1) af)))) (f8 rfl (aS (aM (i:=3) scNeeds.nd) (aS (aM (i:=4) scNeeds.nd) dP)))
   (aj (jW (eJ hr) (e_v 2) (ar am (e_v 3) ae) (e_b (eU rfl) n_max (by decide +kernel) (aa (oN (eJ hr) (e_v 2) (ar am (e_v 3) ae) ae) (aa (az aR (e_v 4) ae) af))))))
  (aj (aB (lE n_sorted (e_v 2)))))) ?_
 have zl:sizeLine=16777216:=sizeLine_eq
 refine fun pm hpm=>?_
 have s1:=Same.new hpm (.dK [])
 obtain ⟨tps,hT⟩:=tab.at
 have nT:pm≠T:=fun z=>by rw [z,hT] at hpm; cases hpm
 have hpT:pl≠T:=bn sl.1 hT (by intro z; cases z)
 have hzT:∀x∈ps,x.1≠T:=fun x hx=>bn (sl.2 x hx) hT (by intro z; cases z)
 refine ⟨_,rfl,_,rfl,_,rfl,pl,ps,spoil,rfl,⟨s1 _ _ sl.1,fun x hx=>s1 _ _ (sl.2 x hx)⟩,hn,h0,tab.same s1,fun lp prs H1 hlp bt tab1 hl1 pr=>?_⟩
 have hpl1:=bt _ _ hpT (s1 _ _ sl.1)
 have hpm1:=bt _ _ nT ac
 have nlp:lp≠pm:=fun z=>by rw [z,ac] at hlp; cases hlp
 have hlen:prs.length=ps.length:=by have:=pr.len; rwa [List.length_map] at this
 refine ⟨pl,lp,rfl,⟨_,SqL.of hpl1⟩,⟨_,SqL.of hl1⟩,wp (K:=K) (a:=pl) (b:=lp) (xs:=ps.map fun x=>V.ref x.1) (ys:=prs.map fun p=>V.int ((p:Nat):Int)) (fun i σ H'=>∃(kvs:List (Key×V)) (o3 o4:Option V),σ=[some (.ref pl),some (.int spoil),some (.ref pm),o3,o4]/\H' pm=some (.dK kvs)/\Bt pm H1 H'/\TabOk T ke kc H' /\
   ((i=0/\kvs=[])\/∃m p:Nat,kvs=[(.inr r,.int ((m:Nat):Int))]/\p∈prs/\m=p+1/\∀(j p':Nat),j<i->prs[j]?=some p'->p'<m)) (by rw [List.length_map,List.length_map,hlen]) ⟨[],none,none,rfl,hpm1,Bt.refl _ _,tab1,.inl ⟨rfl,rfl⟩⟩ ?_ ?_ ?_⟩
 ·rintro i σ H' _ ⟨kvs,o3,o4,rfl,hm',bt',_,_⟩
  exact ⟨SqL.of (bt' _ _ (bn hpl1 hpm1 (by intro z; cases z)) hpl1),SqL.of (bt' _ _ nlp hl1)⟩
 ·rintro i x y σ H' pt hx hy ⟨kvs,o3,o4,rfl,hm',bt',tab',hk⟩ hpt
  rw [List.getElem?_map] at hx hy
  cases hz:ps[i]? with
  | none=>rw [hz] at hx; cases hx
  | some z =>
   cases hp:prs[i]? with
   | none=>rw [hp] at hy; cases hy
   | some p =>
    rw [hz] at hx
    rw [hp] at hy
    cases hx
    cases hy
    have hzm:=List.mem_of_getElem? hz
    have st:=Same.new hpt (.tup [.ref z.1,.int ((p:Nat):Int)])
    have hz1:=bt _ _ (hzT z hzm) (s1 _ _ (sl.2 z hzm))
    have hz2:=st _ _ (bt' _ _ (bn hz1 hpm1 (by intro y; cases y)) hz1)
    have hm2:=st _ _ hm'
    refine ⟨pt,_,rfl,SqT.of ac,rfl,_,_,rfl,_,_,rfl,rfl,?_⟩
    refine ⟨_,rfl,pm,rfl,.inl ⟨kvs,Rd.of hm2⟩,_,rfl,z.1,_,_,.str z.2.reel,rfl,rfl,SqT.of hz2,ad (j:=0) rfl,aK kvs (.inr z.2.reel),.inl ⟨kvs,.inr z.2.reel,Rd.of hm2,rfl,rfl⟩,?_⟩
    have hrz:z.2.reel=r:=hrl z hzm
    have hpm':=List.mem_of_getElem? hp
    have fin:∀(v:Nat) (kv':List (Key×V)),kv'=[(.inr r,.int ((v:Nat):Int))]->(∃p∈prs,v=p+1)->(∀(j p':Nat),j<i+1->prs[j]?=some p'->p'<v)->∃(kvs:List (Key×V)) (o3 o4:Option V),[some (V.ref pl),some (V.int spoil),some (V.ref pm),some (V.ref z.1),some (V.int ((p:Nat):Int))]=[some (V.ref pl),some (V.int spoil),some (V.ref pm),o3,o4] /\
      upd (upd H' pt (.tup [.ref z.1,.int ((p:Nat):Int)])) pm (.dK kv') pm=some (.dK kvs)/\Bt pm H1 (upd (upd H' pt (.tup [.ref z.1,.int ((p:Nat):Int)])) pm (.dK kv'))/\TabOk T ke kc (upd (upd H' pt (.tup [.ref z.1,.int ((p:Nat):Int)])) pm (.dK kv')) /\
      ((i+1=0/\kvs=[])\/∃m p:Nat,kvs=[(.inr r,.int ((m:Nat):Int))]/\p∈prs/\m=p+1/\∀(j p':Nat),j<i+1->prs[j]?=some p'->p'<m):=by
     rintro v kv' rfl ⟨p',h1,h2⟩ h3
     exact ⟨_,_,_,rfl,ac,(bt'.trans (Bt.of st)).trans Bt.upd,(tab'.same st).write hm2 (fun _ y=>by cases y) (fun _ _ y=>by cases y),.inr ⟨v,p',rfl,h1,h2,h3⟩⟩
    rcases hk with ⟨hi0,rfl⟩ | ⟨m,p',rfl,hp',rfl,hall⟩
    ·refine ⟨_,rfl,_,_,rfl,rfl,_,_,rfl,?_⟩
     refine ⟨_,rfl,_,rfl,z.1,_,_,.str z.2.reel,rfl,rfl,SqT.of hz2,ad (j:=0) rfl,pm,_,rfl,.inl ⟨[],.inr z.2.reel,hm2,rfl,by show 0<sizeLine; decide,rfl⟩,?_⟩
     refine fin (p+1) _ ?_ ⟨p,hpm',rfl⟩ (fun j p2 hj hj2=>?_)
     ·rw [hrz,if_pos (by omega)]
      rfl
     ·rw [show j=i by omega,hp] at hj2
      cases hj2
      omega
    ·have e1:aK [((Sum.inr r:Key),V.int ((p'+1:Nat):Int))] (.inr z.2.reel)=some (V.int ((p'+1:Nat):Int)):=by rw [hrz]; simp [aK]
     rw [e1]
     refine ⟨_,rfl,_,_,rfl,rfl,_,_,rfl,?_⟩
     refine ⟨_,rfl,_,rfl,z.1,_,_,.str z.2.reel,rfl,rfl,SqT.of hz2,ad (j:=0) rfl,pm,_,rfl,.inl ⟨_,.inr z.2.reel,hm2,rfl,by show 1<sizeLine; decide,rfl⟩,?_⟩
     have e2:∀x:V,bp [((Sum.inr r:Key),V.int ((p'+1:Nat):Int))] (.inr z.2.reel) x=[(.inr r,x)]:=fun x=>by rw [hrz]; simp [bp]
     rw [e2]
     by_cases hlt:((p'+1:Nat):Int)<((p:Nat):Int)+1
     ·refine fin (p+1) _ ?_ ⟨p,hpm',rfl⟩ (fun j p2 hj hj2=>?_)
      ·rw [if_pos hlt]
       rfl
      ·by_cases e:j=i
       ·rw [e,hp] at hj2
        cases hj2
        omega
       ·have:=hall j p2 (by omega) hj2
        omega
     ·refine fin (p'+1) _ ?_ ⟨p',hp',rfl⟩ (fun j p2 hj hj2=>?_)
      ·rw [if_neg hlt]
      ·by_cases e:j=i
       ·rw [e,hp] at hj2
        cases hj2
        omega
       ·have:=hall j p2 (by omega) hj2
        omega
 ·rintro σ H' ⟨kvs,o3,o4,rfl,hm',bt',tab',hk⟩
  rcases hk with ⟨h1,_⟩ | ⟨m,p,rfl,hp,hm,hall⟩
  ·rw [List.length_map] at h1
   exact absurd (List.length_eq_zero_iff.mp h1) hne
  ·refine ⟨_,rfl,pm,_,_,rfl,hm',fun t D ht hD htD=>?_⟩
   have st:=(Same.new ht (.tup [.str r,.int ((m:Nat):Int)]))
   have hD':upd H' t (.tup [.str r,.int ((m:Nat):Int)]) D=none:=by rw [ah (Ne.symm htD)]; exact hD
   have sD:=st.trans (Same.new hD' (.lst [.ref t]))
   refine q D t prs m _ (fun b o h1 h2=>sD _ _ (bt' _ _ (ap h2 hpm) (bt _ _ h1 (s1 _ _ h2)))) (tab'.same sD) ac (by rw [ah htD]; exact ac) pr ⟨p,hp,hm⟩ fun p2 hp2=>?_
   obtain ⟨j,hj⟩:=List.getElem?_of_mem hp2
   have hjl:=(List.getElem?_eq_some_iff.mp hj).1
   exact hall j p2 (by rw [List.length_map]; omega) hj
end
section
variable {P:Program}{w:World}{K:PySem.W.Frag}{mg:Str->Option Value}{base:Heap}
def yP (n:Nat):Int:=if (0:Int) > (n:Int)-1 then 0 else (n:Int)-1
def jJ:Sp:=fun vs H Q _=>∃(pc:Addr) (ps:List (Addr×Clip)) (n:Nat),vs=[.ref pc]/\CL 1000 n H pc ps/\n<=1000000/\ps.length<=100 /\
 ∀(H':Hp),Same H H'->Q (.int (yP (stripsR (moments (ps.map (·.2)))).length)) H'
theorem u8:aq ["clips"] ["clips"] (ak jV):=⟨rfl,rfl,rfl,by decide +kernel,rfl,by decide +kernel,by decide +kernel⟩
theorem sQ {f:Addr}{fd:FuncData}(F:Fun K "joins" "joins" jV f fd) (dStrips:Def P w K mg base CX0 "strips_of" 4 ["clips"] fP) (n_len:mg "len"=none) (n_max:mg "max"=none):aG P w K mg base CX0 5 f fd ["clips"] jJ:=by
 refine F.ok u8 (fun vs H Q E h=>?_) (fun cdv A outer s H vs Q E hr h=>?_)
 ·obtain ⟨pc,ps,n,rfl,_⟩:=h
  rfl
 obtain ⟨pc,ps,n,rfl,cl,hn,hpl,q⟩:=h
 refine aW (aj (aB (e_b (eU rfl) n_max (by decide +kernel) (aa (az bw (e_b aT n_len PySem.boot_len (aa (ao dStrips hr aE (aa (e_v 0) af)) af)) ae) (aa ae af))))) ?_
 refine ⟨_,rfl,pc,ps,n,rfl,cl,hn,hpl,fun l rs H1 s1 hl sl er=>?_⟩
 refine ⟨l,_,rfl,.inl (SqL.of sl.1),_,_,rfl,rfl,_,_,rfl,?_⟩
 have e:((rs.reverse.map fun x=>V.ref x.1).length:Int)=((stripsR (moments (ps.map (·.2)))).length:Int):=by rw [List.length_map,List.length_reverse,<- er,List.length_map]
 rw [e]
 exact q H1 s1
end
end K57
namespace K57
open PySem L2 G DT
open IT hiding It
section
variable {P:Program}{w:World}{K:PySem.W.Frag}{mg:Str->Option Value}{base:Heap}
def qa (cs:List Cl):Int:=(cs.map fun c=>frC c-c.d).sum
def hZ:Sp:=fun vs H Q _=>∃(l:Addr) (cs:List Cl),vs=[.ref l]/\CL H l cs/\cs.length<=10000/\∀H',Same H H'->Q (.int (qa cs)) H'
theorem zJ:aq ["clips"] ["clips"] (ak ij):=⟨rfl,rfl,rfl,by decide +kernel,rfl,by decide +kernel,by decide +kernel⟩
theorem pU {f:Addr}{fd:FuncData}(F:Fun K "length" "length" ij f fd) (dFrIn:Def P w K mg base CX0 "frames_in" 1 ["clip"] h_) (n_sum:mg "sum"=none):aG P w K mg base CX0 2 f fd ["clips"] hZ:=by
 refine F.ok zJ (fun vs H Q E h=>?_) (fun cdv A outer s H vs Q E hr h=>?_)
 ·obtain ⟨l,cs,rfl,_⟩:=h
  rfl
 obtain ⟨l,cs,rfl,cl,hlen,q⟩:=h
 refine aW (aj (aB (e_b lP n_sum (by decide +kernel) (aa (dU [] [] [] rfl trivial trivial (bB (e_v 0)) (fun _ _ _ _=>(az bw (ao dFrIn hr aE (aa (e_n 0) af)) (ar (dN (K:=K) rfl) (e_n 0) ae)))) af)))) ?_
 have zl:sizeLine=16777216:=sizeLine_eq
 obtain ⟨us,hus,tus⟩:=id cl
 have lu:us.length=cs.length:=by rw [tus.len,List.length_map]
 refine ⟨_,rfl,l,rfl,⟨_,SqL.of hus⟩,cq (K:=K) ((cs.map fun c=>frC c-c.d).map V.int) (SqL.of hus) (by omega) (by rw [List.length_map,List.length_map,lu]) ?_ ?_⟩
 ·intro i x y H' R sH hx hy hR
  obtain ⟨dd,hd,tv⟩:=(tus.tk (TK.of sH)).get hx
  obtain ⟨c,hc,rfl⟩:=gg hd
  rw [List.getElem?_map,List.getElem?_map,hc] at hy
  cases hy
  obtain ⟨a,rfl,ha⟩:=eY tv
  exact ⟨_,rfl,.ref a,c,rfl,tv,_,rfl,a,_,_,.int c.d,rfl,rfl,SqT.of ha,ad (j:=3) rfl,_,_,rfl,rfl,hR H' (Same.refl _)⟩
 intro D H1 s1 hD0 hD
 exact ⟨D,cs.map fun c=>frC c-c.d,rfl,SqL.of hD,rfl,q H1 s1⟩
end
end K57
namespace K57
open PySem L2 G DT
open IT hiding It
open KS hiding CL
def toK (c:Cl):Clip:=⟨c.r,c.f,c.l,c.d⟩
def shK (r:Str) (k:Int) (c:Clip):Clip:=⟨r,c.a+k,c.b+k,c.f⟩
def shM (r:Str) (k:Int) (m:Mo):Mo:=⟨r,m.n+k,m.f⟩
theorem xB (r:Str) (k:Int) (c:Cl):toK (sh r k c)=shK r k (toK c):=rfl
theorem qI (r:Str) (k:Int) (c:Clip):(shK r k c).way=c.way:=by
 unfold Clip.way shK
 dsimp only
 split <;> split <;> omega
theorem zf (r:Str) (k:Int) (c:Clip):(shK r k c).cnt=c.cnt:=by
 unfold Clip.cnt shK
 dsimp only
 omega
theorem nZ (r:Str) (k:Int) (c:Clip):(shK r k c).nums=c.nums.map (·+k):=by
 unfold Clip.nums
 rw [zf,qI,List.map_map]
 refine List.map_congr_left fun m _=>?_
 show c.a+k+m*c.way=c.a+m*c.way+k
 omega
theorem z6 (r:Str) (k:Int) (c:Clip):(shK r k c).ms=c.ms.map (shM r k):=by
 unfold Clip.ms
 rw [nZ]
 cases c.nums with
 | nil=>rfl
 | cons x l =>
  show (⟨r,x+k,c.f⟩:Mo) :: _=shM r k ⟨c.reel,x,c.f⟩ :: _
  rw [List.map_map,List.map_map]
  rfl
theorem iw (r:Str) (k:Int):∀cs:List Clip,moments (cs.map (shK r k))=(moments cs).map (shM r k)
 | []=>rfl
 | c :: cs=>by rw [List.map_cons,bH,bH,iw r k cs,z6,List.map_append]
theorem uH {r r0:Str}{k:Int}{s:Clip}{m:Mo}(h:s.reel=r0) (h':m.reel=r0):can (shK r k s) (shM r k m)↔can s m:=by
 unfold can iH
 have e1:(shK r k s).reel=(shM r k m).reel:=rfl
 have e2:s.reel=m.reel:=h.trans h'.symm
 rw [qI]
 show (_/\if s.a+k=s.b+k then (m.n+k-(s.b+k)).natAbs=1 else m.n+k=s.b+k+s.way)↔_
 constructor
 ·rintro ⟨_,h⟩
  refine ⟨e2,?_⟩
  split <;> rename_i z
  ·rw [if_pos (by omega)] at h; omega
  ·rw [if_neg (by omega)] at h; omega
 ·rintro ⟨_,h⟩
  refine ⟨e1,?_⟩
  split <;> rename_i z
  ·rw [if_pos (by omega)] at h; omega
  ·rw [if_neg (by omega)] at h; omega
theorem uS {r r0:Str}{k:Int}{acc:List Clip}{m:Mo}(h:∀s∈acc,s.reel=r0) (h':m.reel=r0):aU (acc.map (shK r k)) (shM r k m)=(aU acc m).map (shK r k)/\∀s∈aU acc m,s.reel=r0:=by
 cases acc with
 | nil=>exact ⟨rfl,fun s hs=>by rw [List.mem_singleton.mp hs]; exact h'⟩
 | cons s acc =>
  have hs:=h s List.mem_cons_self
  rw [List.map_cons,aZ,aZ]
  by_cases c:m.f<=0/\can s m
  ·rw [if_pos c,if_pos ⟨c.1,(uH hs h').mpr c.2⟩]
   refine ⟨rfl,fun x hx=>?_⟩
   rcases List.mem_cons.mp hx with rfl | hx
   ·exact hs
   ·exact h x (List.mem_cons_of_mem _ hx)
  ·rw [if_neg c,if_neg fun z=>c ⟨z.1,(uH hs h').mp z.2⟩]
   refine ⟨rfl,fun x hx=>?_⟩
   rcases List.mem_cons.mp hx with rfl | hx
   ·exact h'
   ·exact h x hx
theorem oI {r r0:Str}{k:Int}:∀{ms:List Mo}{acc:List Clip},(∀s∈acc,s.reel=r0)->(∀m∈ms,m.reel=r0)->(ms.map (shM r k)).foldl aU (acc.map (shK r k))=(ms.foldl aU acc).map (shK r k)/\∀s∈ms.foldl aU acc,s.reel=r0
 | [],acc,h,_=>⟨rfl,h⟩
 | m :: ms,acc,h,h'=>by
  obtain ⟨e,h2⟩:=uS (r:=r) (k:=k) h (h' m List.mem_cons_self)
  rw [List.map_cons,List.foldl_cons,List.foldl_cons,e]
  exact oI h2 fun x hx=>h' x (List.mem_cons_of_mem _ hx)
theorem v4 {r0:Str}{cs:List Clip}(h:∀c∈cs,c.reel=r0):∀m∈moments cs,m.reel=r0:=fun m hm=>by
 unfold moments at hm
 obtain ⟨c,hc,hm⟩:=List.mem_flatMap.mp hm
 rw [fY] at hm
 rcases List.mem_cons.mp hm with rfl | hm
 ·exact h c hc
 ·obtain ⟨x,_,rfl⟩:=List.mem_map.mp hm
  exact h c hc
theorem pB {r r0:Str}{k:Int}{cs:List Clip}(h:∀c∈cs,c.reel=r0):stripsR (moments (cs.map (shK r k)))=(stripsR (moments cs)).map (shK r k)/\∀s∈stripsR (moments cs),s.reel=r0:=by
 rw [iw]
 exact oI (acc:=[]) (fun s hs=>nomatch hs) (v4 h)
theorem pC {cs:List Clip}(h:cs≠[]) (hf:∀c∈cs,0<=c.f):stripsR (moments cs)≠[]:=fun z=>by
 have h1:=kF hf
 unfold strips at h1
 rw [z] at h1
 cases cs with
 | nil=>exact h rfl
 | cons c cs =>
  rw [bH,fY] at h1
  cases h1
theorem lZ (cs:List Clip):(stripsR (moments cs)).length<=cs.length:=by
 have:=iA cs []
 rw [List.length_nil,Nat.zero_add] at this
 exact this
theorem xb (sp:Int) (c:Clip) (h:0<=sp):(ivOf sp c).lo<=(ivOf sp c).hi:=by
 unfold ivOf
 dsimp only
 split <;> split <;> omega
theorem n6 {ivs ivs':List Iv}{prs prs':List Nat}{m m':Nat}{r r':Str}{k:Int}(P:PrOk ivs prs) (P':PrOk ivs' prs') (hl:∀v∈ivs,v.lo<=v.hi) (hr:∀v∈ivs,v.reel=r)
  (e:∀(j:Nat) v,ivs[j]?=some v->∃v',ivs'[j]?=some v'/\v'.reel=r'/\v'.lo=v.lo+k/\v'.hi=v.hi+k) (hm:∃p∈prs,m=p+1) (hm':∀p∈prs',p<m'):m<=m':=by
 obtain ⟨p,hp,rfl⟩:=hm
 obtain ⟨j,hj⟩:=List.getElem?_of_mem hp
 have hjl:=(List.getElem?_eq_some_iff.mp hj).1
 have hv:ivs[j]?=some (ivs[j]'(by rw [<- P.len]; exact hjl)):=List.getElem?_eq_getElem _
 generalize ivs[j]'(by rw [<- P.len]; exact hjl)=v at hv
 have hvm:=List.mem_of_getElem? hv
 have h1:=P.many hv hj (hl v hvm)
 have h2:(bE ivs' r' (v.lo+k)).length<=m':=P'.few fun i u q _ hq _=>hm' q (List.mem_of_getElem? hq)
 have h3:(bE ivs v.reel v.lo).length<=(bE ivs' r' (v.lo+k)).length:=gU (eX ..) fun i hi=>by
  obtain ⟨u,a,b,c,d⟩:=mem_wanting.mp hi
  obtain ⟨u',a',b',c',d'⟩:=e i u a
  exact mem_wanting.mpr ⟨u',a',b',by omega,by omega⟩
 omega
theorem lh (sp:Int) (r:Str) (k:Int) (c:Clip):ivOf sp (shK r k c)=⟨r,(ivOf sp c).lo+k,(ivOf sp c).hi+k⟩:=by
 unfold ivOf shK
 dsimp only
 congr 1 <;> split <;> split <;> omega
theorem vY {S:List Clip}{r r0:Str}{k sp:Int}{prs prs':List Nat}{m m':Nat}(h0:0<=sp) (hr:∀c∈S,c.reel=r0) (P:PrOk (S.map (ivOf sp)) prs) (P':PrOk ((S.map (shK r k)).map (ivOf sp)) prs')
  (hm:∃p∈prs,m=p+1) (hx:∀p∈prs,p<m) (hm':∃p∈prs',m'=p+1) (hx':∀p∈prs',p<m'):m=m':=by
 refine Nat.le_antisymm (n6 (r:=r0) (r':=r) (k:=k) P P' ?_ ?_ ?_ hm hx') (n6 (r:=r) (r':=r0) (k:=-k) P' P ?_ ?_ ?_ hm' hx)
 ·intro v hv
  obtain ⟨c,_,rfl⟩:=List.mem_map.mp hv
  exact xb sp c h0
 ·intro v hv
  obtain ⟨c,hc,rfl⟩:=List.mem_map.mp hv
  exact hr c hc
 ·intro j v hv
  rw [List.getElem?_map] at hv
  rw [List.getElem?_map,List.getElem?_map]
  cases z:S[j]? with
  | none=>rw [z] at hv; cases hv
  | some c =>
   rw [z] at hv
   cases hv
   exact ⟨_,rfl,by show (ivOf sp (shK r k c)).reel=r; rw [lh],by show (ivOf sp (shK r k c)).lo=_; rw [lh],by show (ivOf sp (shK r k c)).hi=_; rw [lh]⟩
 ·intro v hv
  obtain ⟨c,_,rfl⟩:=List.mem_map.mp hv
  exact xb sp c h0
 ·intro v hv
  obtain ⟨c,hc,rfl⟩:=List.mem_map.mp hv
  obtain ⟨x,_,rfl⟩:=List.mem_map.mp hc
  rfl
 ·intro j v hv
  rw [List.getElem?_map,List.getElem?_map] at hv
  rw [List.getElem?_map]
  cases z:S[j]? with
  | none=>rw [z] at hv; cases hv
  | some c =>
   rw [z] at hv
   cases hv
   refine ⟨_,rfl,hr c (List.mem_of_getElem? z),?_,?_⟩
   ·show _=(ivOf sp (shK r k c)).lo+-k; rw [lh]; dsimp only; omega
   ·show _=(ivOf sp (shK r k c)).hi+-k; rw [lh]; dsimp only; omega
theorem yJ (r:Str) (k:Int) (cs:List Cl):qa (cs.map (sh r k))=qa cs:=by
 unfold qa
 rw [List.map_map]
 congr 1
 refine List.map_congr_left fun c _=>?_
 show frC (sh r k c)-c.d=_
 rw [jl]
theorem oV {H:Hp}{l:Addr}{cs:List Cl}{m n:Nat}(h:DT.CL H l cs) (ok:∀c∈cs,COk m n (toK c)):∃ps,KS.CL m n H l ps/\ps.map (·.2)=cs.map toK:=by
 obtain ⟨vs,hl,tds⟩:=h
 have key:∀{vs:List V}{cs:List Cl},Tds H vs (cs.map dC)->(∀c∈cs,COk m n (toK c))->∃ps:List (Addr×Clip),vs=ps.map (fun x=>V.ref x.1)/\ps.map (·.2)=cs.map toK/\∀x∈ps,H x.1=some (.tup x.2.vs)/\COk m n x.2:=by
  intro vs cs
  induction cs generalizing vs with
  | nil=>intro t _; cases t; exact ⟨[],rfl,rfl,fun x hx=>nomatch hx⟩
  | cons c cs ih =>
   intro t ok
   rw [List.map_cons] at t
   cases t with
   | cons t1 t2 =>
    obtain ⟨a,rfl,ha⟩:=eY t1
    obtain ⟨ps,rfl,e2,e3⟩:=ih t2 fun x hx=>ok x (List.mem_cons_of_mem _ hx)
    refine ⟨(a,toK c) :: ps,rfl,by rw [List.map_cons,List.map_cons,e2],fun x hx=>?_⟩
    rcases List.mem_cons.mp hx with rfl | hx
    ·exact ⟨ha,ok c List.mem_cons_self⟩
    ·exact e3 x hx
 obtain ⟨ps,rfl,e2,e3⟩:=key tds ok
 exact ⟨ps,⟨hl,e3⟩,e2⟩
end K57
namespace K57
open PySem L2 G DT
open IT hiding It
structure Lb (n:Int) (c:Cl):Prop where
 f0:0<=c.f
 f1:c.f<=n
 l0:0<=c.l
 l1:c.l<=n
 d0:0<=c.d
 m:frC c<=9
 rf:bK c.r
theorem Ft.snoc:∀{A:List Cl}{c:Cl},Ft A->(∀e,A.getLast?=some e->e.d+c.d<=frC e)->c.d<=frC c->Ft (A++[c])
 | [],c,_,_,h=>h
 | [x],c,_,h,h'=>⟨h x rfl,h'⟩
 | x :: y :: r,c,hA,h,h'=>⟨hA.1,Ft.snoc (A:=y :: r) hA.2 (fun e he=>h e (by rw [List.getLast?_cons_cons]; exact he)) h'⟩
structure Lv (cs:List Cl) (fr:Int):Prop where
 ok:∀c∈cs,Lb (31+9*(cs.length:Int)) c
 ft:Ft cs
 h0:H0' cs
 fr0:0<=fr
 fr:∀c,cs.getLast?=some c->c.d+fr<=frC c
theorem Lv.nil:Lv [] 0:=⟨(fun c hc=>nomatch hc),trivial,(fun c hc=>by cases hc),Int.le_refl 0,(fun c hc=>by cases hc)⟩
theorem Lv.push {cs:List Cl}{fr:Int}{c:Cl}(h:Lv cs fr) (b:Lb (31+9*((cs.length:Int)+1)) c) (h1:cs=[]->c.d=0) (h2:c.d<=fr\/c.d=0) (h3:c.d<=frC c):Lv (cs++[c]) (frC c-c.d):=by
 have f0:=h.fr0
 refine ⟨fun x hx=>?_,h.ft.snoc (fun e he=>?_) h3,fun x hx=>?_,by omega,fun x hx=>?_⟩
 ·rw [List.length_append,List.length_singleton,Int.natCast_add]
  rcases List.mem_append.mp hx with hx | hx
  ·have:=h.ok x hx
   exact ⟨this.f0,by have:=this.f1; omega,this.l0,by have:=this.l1; omega,this.d0,this.m,this.rf⟩
  ·rw [List.mem_singleton.mp hx]
   exact b
 ·have:=h.fr e he
  omega
 ·cases cs with
  | nil=>cases hx; exact h1 rfl
  | cons y r=>exact h.h0 x (by cases hx; rfl)
 ·rw [List.getLast?_concat] at hx
  cases hx
  omega
theorem oq:∀{cs:List Cl},(∀c∈cs,bK c.r)->PyData.canLayAll0 (cs.map dC)=true
 | [],_=>rfl
 | c :: r,h=>by
  have h1:PyData.strOk c.r=true:=h c List.mem_cons_self
  simp [PyData.canLayAll0,PyData.canLay0,dC,h1,oq fun x hx=>h x (List.mem_cons_of_mem c hx)]
theorem iC {cs:List Cl}(h:∀c∈cs,bK c.r):(PyData.list (cs.map dC)).canLay0=true:=by rw [PyData.canLay0]; exact oq h
theorem mS {K:PySem.W.Frag}{H:Hp}{l:Addr}{cs:List Cl}(h:CL H l cs):Den K H (.ref l) (.list (cs.map dC)):=by
 obtain ⟨vs,h1,h2⟩:=h
 exact .lst (SqL.of h1) h2.den
theorem aO {H H':Hp}{l:Addr}{cs:List Cl}(h:CL H l cs) (s:Same H H'):CL H' l cs:=by
 obtain ⟨vs,h1,h2⟩:=h
 exact ⟨vs,s _ _ h1,h2.tk (TK.of s)⟩
theorem wH {H:Hp}{l:Addr}{cs:List Cl}(h:CL H l cs) (hn:cs≠[]):∃us a c,H l=some (.lst us)/\atI us (-1)=some (.ref a)/\cs.getLast?=some c/\c∈cs/\H a=some (.tup [.str c.r,.int c.f,.int c.l,.int c.d]):=by
 obtain ⟨vs,h1,h2⟩:=h
 obtain ⟨A,c,rfl⟩:∃A c,cs=A++[c]:=⟨_,_,(List.dropLast_concat_getLast hn).symm⟩
 rw [List.map_append] at h2
 have hl:=h2.len
 rw [List.length_append,List.length_map] at hl
 have hk:vs[A.length]?=some (vs[A.length]'(by rw [hl]; simp)):=List.getElem?_eq_getElem _
 obtain ⟨d,hd,tv⟩:=h2.get hk
 rw [List.getElem?_append_right (by rw [List.length_map]; exact Nat.le_refl _),List.length_map,Nat.sub_self] at hd
 cases hd
 obtain ⟨a,ea,ha⟩:=eY tv
 refine ⟨vs,a,c,h1,?_,by rw [List.getLast?_concat],List.mem_append_right _ (List.mem_singleton.mpr rfl),ha⟩
 have e:vs=vs.take A.length++[vs[A.length]'(by rw [hl]; simp)]:=by
  rw [<- bh hk,List.take_of_length_le]
  rw [hl]; simp
 rw [e,ea]
 exact iV _ _
theorem Al (ns:List Int):∃ms:List Int,bD (ns.map V.int) (some 2) (some 22)=ms.map V.int/\ms.length<=20:=by
 unfold bD
 refine ⟨_,by rw [<- List.map_drop,<- List.map_take],?_⟩
 rw [List.length_take,List.length_drop,show (some (2:Int))=some ((2:Nat):Int) from rfl,show (some (22:Int))=some ((22:Nat):Int) from rfl,HT.sIx_nat,HT.sIx_nat]
 omega
section
variable {P:Program}{w:World}{K:PySem.W.Frag}{mg:Str->Option Value}{base:Heap}
def jL (K:PySem.W.Frag):Sp:=fun vs H Q _=>∃(a:Addr) (ns:List Int),vs=[.ref a,.int 20]/\SqL K H a (ns.map V.int) /\
 ∀(l:Addr) (cs:List Cl) (H':Hp),Same H H'->H l=none->CL H' l cs->Lcs cs->(∀c∈cs,bK c.r)->Q (.ref l) H'
theorem scClips:aq ["_law_script", "_law_most", "_law_found", "_law_free", "_law_cell_here", "_law_xs", "_law_many", "_law_first", "_law_reel", "_law_way", "_law_last", "_law_fade"] ["_law_script", "_law_most"] (ak dH):=⟨rfl,rfl,rfl,by decide +kernel,rfl,by decide +kernel,by decide +kernel⟩
theorem sT {f:Addr}{fd:FuncData}(F:Fun K "_law_clips" "_law_clips" dH f fd) (dNum:Def P w K mg base CX0 "_law_numbers" 1 ["_law_cell_here", "_law_many"] q0) (n_max:mg "max"=none) (n_min:mg "min"=none) (n_abs:mg "abs"=none):aG P w K mg base CX0 2 f fd ["_law_script", "_law_most"] (jL K):=by
 refine F.ok scClips (fun vs H Q E h=>?_) (fun cdv A outer s H vs Q E hr h=>?_)
 ·obtain ⟨a,ns,rfl,_⟩:=h
  rfl
 obtain ⟨a,ns,rfl,hS,q⟩:=h
 refine aW (ag (aw (i:=2) scClips.nd (ba af))
  (ag (aw (i:=3) scClips.nd ae)
  (ag (bM PassesOwn.never rfl (bB (gM dr (e_v 0) (bG ae) (bG (az aR ae (e_v 1))))) (aM (i:=4) scClips.nd)
   (ag (aw (i:=5) scClips.nd (ao dNum hr aE (aa (e_v 4) (aa ae af))))
   (ag (aw (i:=6) scClips.nd (az aR ae (az bj (ar aJ (e_v 5) ae) (ar aJ (ba (aa ae (aa ae (aa ae (aa ae af))))) (az bj (ar aJ (e_v 5) ae) ae)))))
   (ag (aw (i:=7) scClips.nd (az aR (az bj (ar aJ (e_v 5) ae) ae) (e_v 6)))
   (ag (aw (i:=8) scClips.nd (ar aJ (ba (aa aF (aa aF af))) (az bj (az fV (ar aJ (e_v 5) ae) ae) ae)))
   (ag (aw (i:=9) scClips.nd (ar aJ (ba (aa ae (aa (eW bv ae) af))) (az bj (ar aJ (e_v 5) ae) ae)))
   (ag (eZ (bc (t_w (g0 (aN (j6 hr) (e_v 2) (ba af)) (fg (aN kN (az bj (ar aJ (e_v 5) ae) ae) ae))))
    (ag (aw (i:=8) scClips.nd (ar am (ar aJ (e_v 2) (eW bv ae)) ae))
    (aj (aw (i:=7) scClips.nd (e_b (eU rfl) n_max (by decide +kernel) (aa ae (aa (az aR (ar am (ar aJ (e_v 2) (eW bv ae)) ae) (ar aJ (ba (aa ae (aa (eW bv ae) (aa ae (aa ae af))))) (az bj (ar aJ (e_v 5) ae) ae))) af))))))
    aL))
   (ag (aw (i:=10) scClips.nd (az aR (e_v 7) (az gu (az bw (e_v 6) ae) (e_v 9))))
   (ag (eZ (bc (aN fU (e_v 10) ae)
    (aj (aw (i:=10) scClips.nd (az bw (az aR (e_v 7) (e_v 6)) ae)))
    aL))
   (ag (aw (i:=11) scClips.nd ae)
   (ag (eZ (bc (t_w (g0 (aN (j6 hr) (e_v 2) (ba af)) (fg (aN be (az bj (ar aJ (e_v 5) ae) ae) ae))))
    (aj (aw (i:=11) scClips.nd (az bj (az fV (ar aJ (e_v 5) ae) ae) (az aR (e_b (jr rfl) n_min (by decide +kernel) (aa (e_v 3) (aa (az aR (e_b cL n_abs (by decide +kernel) (aa (az bw (e_v 10) (e_v 7)) af)) ae) af))) ae))))
    aL))
   (ag (aP (bg (e_v 2) (aX (aa (e_v 8) (aa (e_v 7) (aa (e_v 10) (aa (e_v 11) af)))))))
   (aj (aw (i:=3) scClips.nd (az bw (az aR (e_b cL n_abs (by decide +kernel) (aa (az bw (e_v 10) (e_v 7)) af)) ae) (e_v 11))))))))))))))))
  (aj (aB (e_v 2)))))) ?_
 have zl:sizeLine=16777216:=sizeLine_eq
 refine ⟨(by show 0<=sizeLine; decide),fun pf hpf=>?_⟩
 have s0:=Same.new hpf (.lst [])
 obtain ⟨ms,em,lm⟩:=Al ns
 refine ⟨_,rfl,_,rfl,_,rfl,_,_,rfl,rfl,_,rfl,a,_,rfl,s0.seq hS,fun pm hpm=>?_⟩
 have em':bD (ns.map V.int) (some 2) (some (2+20))=ms.map V.int:=em
 rw [em']
 have s1:=Same.new hpm (.lst (ms.map V.int))
 have S1:=s0.trans s1
 refine ⟨pm,rfl,⟨_,SqL.of ac⟩,cK (K:=K) (a:=pm) (xs:=ms.map V.int) (fun i σ H'=>∃(cs:List Cl) (fr:Int) (o4 o5 o6 o7 o8 o9 o10 o11:Option V),σ=[some (.ref a),some (.int 20),some (.ref pf),some (.int fr),o4,o5,o6,o7,o8,o9,o10,o11]/\CL H' pf cs/\Lv cs fr/\cs.length=i/\Same H H'/\H' pm=some (.lst (ms.map V.int)))
  ⟨[],0,none,none,none,none,none,none,none,none,rfl,⟨[],s1 _ _ ac,.nil⟩,Lv.nil,rfl,S1,ac⟩ ?_ ?_ ?_⟩
 ·rintro i σ H' _ ⟨cs,fr,_,_,_,_,_,_,_,_,rfl,_,_,_,_,hm⟩
  exact SqL.of hm
 ·rintro i x σ H' hx ⟨cs,fr,o4,o5,o6,o7,o8,o9,o10,o11,rfl,cl,lv,hlen,sm,hm⟩
  have hi:i<ms.length:=by
   have:=(List.getElem?_eq_some_iff.mp hx).1
   rwa [List.length_map] at this
  rw [List.getElem?_map] at hx
  cases hz:ms[i]? with
  | none=>rw [hz] at hx; cases hx
  | some z =>
   rw [hz] at hx
   cases hx
   refine ⟨_,rfl,z,7,rfl,by decide,fun px xs H1 s1 hxl hpx0 hpx=>?_⟩
   obtain ⟨x0,x1,x2,x3,x4,x5,x6,rfl⟩:∃x0 x1 x2 x3 x4 x5 x6,xs=[x0,x1,x2,x3,x4,x5,x6]:=by
    match xs,hxl with
    | [x0,x1,x2,x3,x4,x5,x6],_=>exact ⟨_,_,_,_,_,_,_,rfl⟩
   obtain ⟨dv,hdv,dm⟩:=gi (xs:=[V.int 1,.int 4,.int 9,.int 2]) (i:=x1 % 4) (by omega) (by show _<(4:Int); omega)
   obtain ⟨d,rfl,d1,d9⟩:∃d:Int,dv=.int d/\1<=d/\d<=9:=by
    simp only [List.mem_cons,List.not_mem_nil,or_false] at dm
    rcases dm with rfl | rfl | rfl | rfl <;> exact ⟨_,rfl,by decide,by decide⟩
   refine ⟨_,rfl,px,_,_,.int x0,rfl,rfl,SqL.of hpx,ad (j:=0) rfl,(by show 4<=sizeLine; decide),fun p1 hp1=>?_⟩
   have t1:=Same.new hp1 (.lst [V.int 1,.int 4,.int 9,.int 2])
   refine ⟨_,rfl,px,_,_,.int x1,rfl,rfl,SqL.of (t1 _ _ hpx),ad (j:=1) rfl,_,_,rfl,rfl,(by show (0:Int)<4; decide),p1,_,_,.int d,rfl,rfl,SqL.of ac,hdv,_,_,rfl,rfl,(by omega:(0:Int)<d),_,_,rfl,rfl,?_⟩
   have hpx1:=t1 _ _ hpx
   have S2:=s1.trans t1
   generalize upd H1 p1 (.lst [V.int 1,.int 4,.int 9,.int 2])=H2 at t1 hpx1 S2 ⊢
   have m1:1<=1+x0 % d:=by have:=Int.emod_nonneg x0 (show d≠0 by omega); omega
   have m9:1+x0 % d<=9:=by have:=Int.emod_lt_of_pos x0 (show 0<d by omega); omega
   obtain ⟨mm,hmm⟩:∃mm,1+x0 % d=mm:=⟨_,rfl⟩
   rw [hmm] at m1 m9
   refine ⟨_,rfl,px,_,_,.int x2,rfl,rfl,SqL.of hpx1,ad (j:=2) rfl,_,_,rfl,rfl,(by show (0:Int)<24; decide),_,rfl,_,_,rfl,rfl,?_⟩
   refine ⟨(by show 2<=sizeLine; decide),fun p2 hp2=>?_⟩
   have t2:=Same.new hp2 (.lst [V.str "a",.str "ab"])
   obtain ⟨rv,hrv,rm⟩:=gi (xs:=[V.str "a",.str "ab"]) (i:=x1 / 4 % 2) (by omega) (by show _<(2:Int); omega)
   obtain ⟨r,rfl,rf⟩:∃r:Str,rv=.str r/\bK r:=by
    simp only [List.mem_cons,List.not_mem_nil,or_false] at rm
    rcases rm with rfl | rfl <;> exact ⟨_,rfl,by decide +kernel⟩
   refine ⟨_,rfl,px,_,_,.int x1,rfl,rfl,SqL.of (t2 _ _ hpx1),ad (j:=1) rfl,_,_,rfl,rfl,⟨by decide,by decide⟩,_,_,rfl,rfl,(by show (0:Int)<2; decide),p2,_,_,.str r,rfl,rfl,SqL.of ac,hrv,?_⟩
   have hpx2:=t2 _ _ hpx1
   have S3:=S2.trans t2
   generalize upd H2 p2 (.lst [V.str "a",.str "ab"])=H3 at t2 hpx2 S3 ⊢
   obtain ⟨wv,hwv,wm⟩:=gi (xs:=[V.int 1,.int (-1)]) (i:=x3 % 2) (by omega) (by show _<(2:Int); omega)
   obtain ⟨wy,rfl,wy1⟩:∃wy:Int,wv=.int wy/\(wy=1\/wy=-1):=by
    simp only [List.mem_cons,List.not_mem_nil,or_false] at wm
    rcases wm with rfl | rfl
    ·exact ⟨_,rfl,.inl rfl⟩
    ·exact ⟨_,rfl,.inr rfl⟩
   refine ⟨_,rfl,(by show 2<=sizeLine; decide),fun p3 hp3=>?_⟩
   have t3:=Same.new hp3 (.lst [V.int 1,.int (-1)])
   refine ⟨_,rfl,px,_,_,.int x3,rfl,rfl,SqL.of (t3 _ _ hpx2),ad (j:=3) rfl,_,_,rfl,rfl,(by show (0:Int)<2; decide),p3,_,_,.int wy,rfl,rfl,SqL.of ac,hwv,?_⟩
   have hpx3:=t3 _ _ hpx2
   have S4:=S3.trans t3
   have ff:=fun c hc=>(lv.ok c hc).rf
   generalize upd H3 p3 (.lst [V.int 1,.int (-1)])=H4 at t3 hpx3 S4 ⊢
   refine ⟨fun σ' H5=>∃(fi:Int) (re:Str),σ'=[some (.ref a),some (.int 20),some (.ref pf),some (.int fr),some (.int z),some (.ref px),some (.int mm),some (.int fi),some (.str re),some (.int wy),o10,o11]/\0<=fi/\fi<=32+9*(cs.length:Int)/\bK re/\Same H4 H5,?_,?_⟩
   ·refine ⟨_,rfl,(by show 0<=sizeLine; decide),fun p4 hp4=>?_⟩
    have t4:=Same.new hp4 (.lst [])
    refine ⟨_,_,mS (aO cl (S4.trans t4)),.lst (SqL.of ac) .nil,iC ff,rfl,Nat.le_trans (Nat.min_le_right _ _) (by decide),_,rfl,?_⟩
    have base':0<=x2 % 24+mm/\x2 % 24+mm<=32+9*(cs.length:Int):=⟨by omega,by omega⟩
    cases hcs:cs with
    | nil =>
     refine iteN (by rw [List.map_nil,PySem.SeqAt.eqv_refl _ rfl]; rfl) (bQ ?_)
     rw [<- hcs]
     exact ⟨_,_,(by rw [<- hmm]; rfl),base'.1,base'.2,rf,t4⟩
    | cons c0 cr =>
     refine iteY rfl ?_
     rw [<- hcs]
     refine ⟨_,rfl,px,_,_,.int x5,rfl,rfl,SqL.of (t4 _ _ hpx3),ad (j:=5) rfl,_,_,rfl,rfl,(by show (0:Int)<3; decide),_,_,rfl,rfl,_,rfl,cY (fun _=>?_) (fun _=>?_)⟩
     ·obtain ⟨us,ca,c,hus,hat,hgl,hcm,hca⟩:=wH (aO cl (S4.trans t4)) (by rw [hcs]; exact List.cons_ne_nil _ _)
      have lb:=lv.ok c hcm
      obtain ⟨sv,hsv,sm'⟩:=gi (xs:=[V.int 1,.int (-1),.int 1,.int 0]) (i:=x6 % 4) (by omega) (by show _<(4:Int); omega)
      obtain ⟨st,rfl,st1⟩:∃st:Int,sv=.int st/\st<=1:=by
       simp only [List.mem_cons,List.not_mem_nil,or_false] at sm'
       rcases sm' with rfl | rfl | rfl | rfl <;> exact ⟨_,rfl,by decide⟩
      refine ⟨_,rfl,_,rfl,pf,_,_,.ref ca,rfl,rfl,SqL.of hus,hat,ca,_,_,.str c.r,rfl,rfl,SqT.of hca,ad (j:=0) rfl,?_⟩
      refine ⟨_,rfl,_,rfl,pf,_,_,.ref ca,rfl,rfl,SqL.of hus,hat,ca,_,_,.int c.l,rfl,rfl,SqT.of hca,ad (j:=2) rfl,_,rfl,(by show 4<=sizeLine; decide),fun p5 hp5=>?_⟩
      have t5:=Same.new hp5 (.lst [V.int 1,.int (-1),.int 1,.int 0])
      refine ⟨_,rfl,px,_,_,.int x6,rfl,rfl,SqL.of (t5 _ _ (t4 _ _ hpx3)),ad (j:=6) rfl,_,_,rfl,rfl,(by show (0:Int)<4; decide),p5,_,_,.int st,rfl,rfl,SqL.of ac,hsv,_,_,rfl,rfl,_,_,rfl,(if c.l+st > 0 then c.l+st else 0),c.r,(by rw [<- hmm]; rfl),?_,?_,lb.rf,t4.trans t5⟩
      ·split <;> omega
      ·have:=lb.l1
       split <;> omega
     ·exact ⟨_,_,(by rw [<- hmm]; rfl),base'.1,base'.2,rf,t4⟩
   rintro σ H5 ⟨fi,re,rfl,f0,f1,ref,s5⟩
   refine ⟨_,rfl,_,rfl,_,_,rfl,rfl,_,rfl,_,_,rfl,rfl,.inl ⟨by omega,by omega⟩,_,_,rfl,rfl,?_⟩
   refine ⟨fun σ' H6=>∃la:Int,σ'=[some (.ref a),some (.int 20),some (.ref pf),some (.int fr),some (.int z),some (.ref px),some (.int mm),some (.int fi),some (.str re),some (.int wy),some (.int la),o11]/\0<=la/\la<=fi+8/\frC ⟨re,fi,la,0⟩=mm/\Same H5 H6,?_,?_⟩
   ·refine ⟨_,rfl,_,_,rfl,rfl,_,rfl,cY (fun y=>?_) (fun y=>?_)⟩
    ·refine ⟨_,rfl,_,rfl,_,_,rfl,rfl,_,_,rfl,rfl,_,rfl,by omega,by omega,?_,Same.refl _⟩
     unfold frC
     dsimp only
     split <;> omega
    ·have y:¬ fi+(mm-1)*wy<0:=fun k=>y (decide_eq_true k)
     refine ⟨_,rfl,by omega,?_,?_,Same.refl _⟩
     ·rcases wy1 with rfl | rfl <;> omega
     ·unfold frC
      dsimp only
      rcases wy1 with rfl | rfl <;> split <;> omega
   rintro σ H6 ⟨la,rfl,l0,l1,hfr,s6⟩
   have S6:=S4.trans (s5.trans s6)
   have hpx6:=(s5.trans s6) _ _ hpx3
   refine ⟨fun σ' H7=>∃fd:Int,σ'=[some (.ref a),some (.int 20),some (.ref pf),some (.int fr),some (.int z),some (.ref px),some (.int mm),some (.int fi),some (.str re),some (.int wy),some (.int la),some (.int fd)]/\0<=fd/\(cs=[]->fd=0)/\(fd<=fr\/fd=0)/\fd<=frC ⟨re,fi,la,0⟩/\Same H6 H7,?_,?_⟩
   ·refine ⟨_,rfl,(by show 0<=sizeLine; decide),fun p7 hp7=>?_⟩
    have t7:=Same.new hp7 (.lst [])
    refine ⟨_,_,mS (aO cl (S6.trans t7)),.lst (SqL.of ac) .nil,iC ff,rfl,Nat.le_trans (Nat.min_le_right _ _) (by decide),_,rfl,?_⟩
    cases hcs:cs with
    | nil =>
     refine iteN (by rw [List.map_nil,PySem.SeqAt.eqv_refl _ rfl]; rfl) (bQ ?_)
     exact ⟨0,rfl,Int.le_refl 0,fun _=>rfl,.inr rfl,by omega,t7⟩
    | cons c0 cr =>
     refine iteY rfl ?_
     refine ⟨_,rfl,px,_,_,.int x4,rfl,rfl,SqL.of (t7 _ _ hpx6),ad (j:=4) rfl,_,_,rfl,rfl,(by show (0:Int)<5; decide),rfl,_,rfl,cY (fun _=>?_) (fun _=>?_)⟩
     ·have ea:(if la-fi<0 then -(la-fi) else la-fi)+1=mm:=hfr
      have fr0:=lv.fr0
      refine ⟨_,rfl,px,_,_,.int x4,rfl,rfl,SqL.of (t7 _ _ hpx6),ad (j:=4) rfl,_,_,rfl,rfl,⟨by decide,by decide⟩,_,rfl,_,rfl,_,rfl,_,_,rfl,rfl,_,rfl,_,_,rfl,rfl,_,_,rfl,_,_,rfl,rfl,_,_,rfl,rfl,?_,_,rfl,?_,(fun z=>absurd z (List.cons_ne_nil _ _)),.inl ?_,?_,t7⟩
      ·rw [ea]
       show (0:Int)<(if mm<fr then mm else fr)+1
       split <;> omega
      ·refine Int.emod_nonneg _ ?_
       rw [ea]
       split <;> omega
      ·rw [ea]
       have hp:(0:Int)<(if mm<fr then mm else fr)+1:=by split <;> omega
       have:=Int.emod_lt_of_pos (x4 / 5) hp
       split at this <;> split <;> omega
      ·rw [ea,hfr]
       have hp:(0:Int)<(if mm<fr then mm else fr)+1:=by split <;> omega
       have:=Int.emod_lt_of_pos (x4 / 5) hp
       split at this <;> split <;> omega
     ·exact ⟨0,rfl,Int.le_refl 0,fun _=>rfl,.inr rfl,by omega,t7⟩
   rintro σ H7 ⟨fd,rfl,d0,e0,e1,e2,s7⟩
   have S7:=S6.trans s7
   obtain ⟨us,hus,tus⟩:=aO cl S7
   have lu:us.length=cs.length:=by rw [tus.len,List.length_map]
   refine ⟨_,rfl,.inl ⟨rfl,_,SqL.of hus⟩,_,rfl,_,rfl,_,rfl,_,rfl,(by show 4<=sizeLine; decide),fun pt hpt=>?_⟩
   have t8:=Same.new hpt (.tup [.str re,.int fi,.int la,.int fd])
   have hus8:=t8 _ _ hus
   refine ⟨pf,_,_,rfl,rfl,hus8,by omega,?_⟩
   have hfr':(if la-fi<0 then -(la-fi) else la-fi)+1=mm:=hfr
   refine ⟨_,rfl,_,rfl,_,_,rfl,rfl,_,rfl,_,_,rfl,rfl,_,rfl,_,_,rfl,rfl,?_⟩
   have npm:pm≠pf:=fun z=>by rw [z,ac] at hpm; cases hpm
   refine ⟨cs++[⟨re,fi,la,fd⟩],_,_,_,_,_,_,_,_,_,rfl,⟨_,ac,?_⟩,lv.push (c:=⟨re,fi,la,fd⟩) ⟨f0,?_,l0,?_,d0,?_,ref⟩ e0 e1 e2,?_,fun b ob hb=>?_,?_⟩
   ·rw [List.map_append]
    exact ((tus.tk (TK.of t8)).app (.one (kW (c:=⟨re,fi,la,fd⟩) ac))).tk (TK.lst hus8)
   ·show fi<=_; omega
   ·show la<=_; omega
   ·show frC ⟨re,fi,la,fd⟩<=9
    have:frC ⟨re,fi,la,fd⟩=mm:=hfr
    omega
   ·rw [List.length_append,hlen]; rfl
   ·rw [ah (ap hb hpf)]
    exact t8 _ _ (S7 _ _ (sm _ _ hb))
   ·rw [ah npm]
    exact t8 _ _ (S7 _ _ hm)
 ·rintro σ H' ⟨cs,fr,o4,o5,o6,o7,o8,o9,o10,o11,rfl,cl,lv,hlen,sm,hm⟩
  rw [List.length_map] at hlen
  refine ⟨_,rfl,q pf cs H' sm hpf cl ⟨fun c hc=>?_,lv.ft,lv.h0,by omega⟩ fun c hc=>(lv.ok c hc).rf⟩
  have h:=lv.ok c hc
  exact ⟨h.f0,by have:=h.f1; omega,h.l0,by have:=h.l1; omega,h.d0,h.m⟩
end
end K57
namespace L2
open PySem PySem.Spec PyProof.Rows
def wP (J:It) (cap:St) (tc:TT) (te:TE) (Q:VK) (H1:Hp):Prop:=∀D,H1 D=none->∃W:Nat->Nat->List V->Hp->Prop,(∃m,W 0 m [] (upd H1 D (.lst [])))/\∀i m ys H2,W i m ys H2->H2 D=some (.lst ys) /\
 ((J.stop i H2/\Q (.ref D) H2)\/(J.go i H2/\∀x H3,J.yld i H2 x H3->tc (some x :: cap) H3 fun b H4=>if b=true then te (some x :: cap) H4 fun y H5=>H5 D=some (.lst ys)/\ys.length<sizeLine/\∃m',m'<m/\W (i+1) m' (ys++[y]) (upd H5 D (.lst (ys++[y]))) else ∃m',m'<m/\W (i+1) m' ys H4))
def AC (wi:TI) (js:List Nat) (tc:TT) (te:TE):TE:=fun σ H Q=>wi σ H fun J H1=>wP J (c_ σ js) tc te Q H1
section
variable {X:Cx}{x:Str}{px pos:Pos}{elt iter cnd:Expr}{sc:Scope}{ys:List Str}{js:List Nat}{cl:List (Str×Addr)}
end
theorem wn {X:Cx}{i:Nat}{x:Str}{pos:Pos}(hN:X.N.Nodup) (hfn:X.fn x=true:=by rfl) (hi:X.N[i]?=some x:=by kernel_rfl) (hx:X.env.scope.names.lookup x=some .cell:=by kernel_rfl):QG X (.Name x pos) (bZ i):=⟨nQ hN hi (.inr hx) (.inl hfn)⟩
end L2
namespace K57
open PySem L2 G DT
open IT hiding It
section
variable {P:Program}{w:World}{K:PySem.W.Frag}{mg:Str->Option Value}{base:Heap}
def h9:Sp:=fun vs H Q _=>∃(p:Addr) (c:Cl),vs=[.ref p]/\H p=some (.tup [.str c.r,.int c.f,.int c.l,.int c.d])/\frC c<=10000/\∀D H',Same H H'->H D=none->H' D=some (.lst ((toK c).nums.map V.int))->Q (.ref D) H'
theorem scFrames:aq ["_law_clip", "_law_way"] ["_law_clip"] (ak cU):=⟨rfl,rfl,rfl,by decide +kernel,rfl,by decide +kernel,by decide +kernel⟩
theorem pV {f:Addr}{fd:FuncData}(F:Fun K "_law_frames" "_law_frames" cU f fd) (n_range:mg "range"=none) (n_abs:mg "abs"=none):aG P w K mg base CX0 1 f fd ["_law_clip"] h9:=by
 refine F.ok scFrames (fun vs H Q E h=>?_) (fun cdv A outer s H vs Q E hr h=>?_)
 ·obtain ⟨p,c,rfl,_⟩:=h
  rfl
 obtain ⟨p,c,rfl,hp,hm,q⟩:=h
 refine aW (ag (rj (i:=1) scFrames.nd ae)
  (ag (eZ (bc (aN fU (ar am (e_c 0) ae) (ar am (e_c 0) ae))
   (aj (rj (i:=1) scFrames.nd (eW bv ae)))
   aL))
  (aj (aB (dU ["_law_clip", "_law_way"] [0,1] [("_law_way",s.heap.objs.size+2),("_law_clip",s.heap.objs.size+1)] rfl ⟨rfl,rfl,rfl,rfl,⟨rfl,rfl,rfl,rfl,trivial⟩⟩ ⟨rfl,⟨rfl,trivial⟩⟩ (mF n_range (az aR (e_b cL n_abs (by decide +kernel) (aa (az bw (ar am (e_c 0) ae) (ar am (e_c 0) ae)) af)) ae)) (fun _ _ _ _=>(az aR (ar (dN (K:=K) rfl) (e_n 1) ae) (az gu (e_n 2) (e_n 0))))))))) ?_
 have zl:sizeLine=16777216:=sizeLine_eq
 have wy:=KS.way_abs (toK c)
 refine ⟨fun σ' H1=>σ'=[some (.ref p),some (.int (toK c).way)]/\H1=H,?_,?_⟩
 ·refine ⟨_,rfl,p,_,_,.int c.l,rfl,rfl,SqT.of hp,ad (j:=2) rfl,_,rfl,p,_,_,.int c.f,rfl,rfl,SqT.of hp,ad (j:=1) rfl,_,_,rfl,rfl,_,rfl,cY (fun y=>?_) (fun y=>?_)⟩
  ·have y:c.l<c.f:=of_decide_eq_true y
   have e:(toK c).way=-1:=if_pos y
   rw [e]
   exact ⟨_,rfl,rfl,rfl⟩
  ·have y:¬ c.l<c.f:=fun z=>y (decide_eq_true z)
   have e:(toK c).way=1:=if_neg y
   rw [e]
   exact ⟨rfl,rfl⟩
 rintro σ H1 ⟨rfl,rfl⟩
 have ecn:(((toK c).cnt:Nat):Int)=frC c:=by
  unfold KS.Clip.cnt toK frC
  dsimp only
  split <;> omega
 refine ⟨_,rfl,p,_,_,.int c.l,rfl,rfl,SqT.of hp,ad (j:=2) rfl,_,rfl,p,_,_,.int c.f,rfl,rfl,SqT.of hp,ad (j:=1) rfl,_,_,rfl,rfl,_,rfl,_,_,rfl,rfl,frC c,rfl,?_,?_,?_⟩
 ·omega
 ·omega
 have e:(frC c).toNat=(toK c).cnt:=by omega
 rw [e]
 refine uA (lo:=0) (n:=(toK c).cnt) (fun i=>V.int ((toK c).a+(i:Int)*(toK c).way)) (by omega) ?_ ?_
 ·intro i H' R hi sm hR
  have e2:c.f+(toK c).way*(0+(i:Int))=(toK c).a+(i:Int)*(toK c).way:=by
   show c.f+(toK c).way*(0+(i:Int))=c.f+(i:Int)*(toK c).way
   rw [Int.zero_add,Int.mul_comm]
  refine ⟨_,rfl,p,_,_,.int c.f,rfl,rfl,SqT.of (sm _ _ hp),ad (j:=1) rfl,_,rfl,_,rfl,_,_,rfl,rfl,.inl ?_,_,_,rfl,rfl,?_⟩
  ·rcases wy with z | z <;> rw [z] <;> exact ⟨by decide,by decide⟩
  ·show R (.int (c.f+(toK c).way*(0+(i:Int)))) H'
   rw [e2]
   exact hR H' (Same.refl _)
 ·intro D H' sm hD hD'
  refine q D H' sm hD ?_
  rw [hD']
  unfold KS.Clip.nums
  rw [List.map_map]
  rfl
def kD (k:Str×Int):PyData:=.tuple [.str k.1,.int k.2]
def Kl (H:Hp) (l:Addr) (ks:List (Str×Int)):Prop:=∃rs:List Addr,H l=some (.lst (rs.map V.ref))/\rs.length=ks.length/\∀(i:Nat) r k,rs[i]?=some r->ks[i]?=some k->H r=some (.tup [.str k.1,.int k.2])
theorem Kl.bt {H H':Hp}{p l:Addr}{ks:List (Str×Int)}{us:List V}(h:Kl H l ks) (hp:H p=some (.lst us)) (ne:l≠p) (b:KS.Bt p H H'):Kl H' l ks:=by
 obtain ⟨rs,h1,h2,h3⟩:=h
 exact ⟨rs,b _ _ ne h1,h2,fun i r k hr hk=>b _ _ (bn (h3 i r k hr hk) hp (by intro z; cases z)) (h3 i r k hr hk)⟩
theorem Kl.same {H H':Hp}{l:Addr}{ks:List (Str×Int)}(h:Kl H l ks) (s:Same H H'):Kl H' l ks:=by
 obtain ⟨rs,h1,h2,h3⟩:=h
 exact ⟨rs,s _ _ h1,h2,fun i r k hr hk=>s _ _ (h3 i r k hr hk)⟩
theorem tO {H:Hp}:∀{rs:List Addr}{ks:List (Str×Int)},rs.length=ks.length->(∀(i:Nat) r k,rs[i]?=some r->ks[i]?=some k->H r=some (.tup [.str k.1,.int k.2]))->DenAll K H (rs.map V.ref) (ks.map kD)
 | [],[],_,_=>.nil
 | r :: rs,k :: ks,hl,h=>.cons (.tup (SqT.of (h 0 r k rfl rfl)) (.cons (.str _) (.cons (.int _) .nil))) (tO (Nat.succ.inj hl) fun i r' k' h1 h2=>h (i+1) r' k' h1 h2)
theorem Kl.den {H:Hp}{l:Addr}{ks:List (Str×Int)}(h:Kl H l ks):Den K H (.ref l) (.list (ks.map kD)):=by
 obtain ⟨rs,h1,h2,h3⟩:=h
 exact .lst (SqL.of h1) (tO h2 h3)
def Kll (H:Hp) (p:Addr) (kss:List (List (Str×Int))):Prop:=∃ls:List Addr,H p=some (.lst (ls.map V.ref))/\ls.length=kss.length/\∀(i:Nat) l ks,ls[i]?=some l->kss[i]?=some ks->l≠p/\Kl H l ks
theorem Kll.same {H H':Hp}{p:Addr}{kss:List (List (Str×Int))}(h:Kll H p kss) (s:Same H H'):Kll H' p kss:=by
 obtain ⟨ls,h1,h2,h3⟩:=h
 exact ⟨ls,s _ _ h1,h2,fun i l ks a b=>⟨(h3 i l ks a b).1,(h3 i l ks a b).2.same s⟩⟩
theorem ot {H:Hp}:∀{ls:List Addr}{kss:List (List (Str×Int))},ls.length=kss.length->(∀(i:Nat) l ks,ls[i]?=some l->kss[i]?=some ks->Kl H l ks)->DenAll K H (ls.map V.ref) (kss.map fun ks=>.list (ks.map kD))
 | [],[],_,_=>.nil
 | r :: rs,k :: ks,hl,h=>.cons (h 0 r k rfl rfl).den (ot (Nat.succ.inj hl) fun i r' k' h1 h2=>h (i+1) r' k' h1 h2)
theorem Kll.den {H:Hp}{p:Addr}{kss:List (List (Str×Int))}(h:Kll H p kss):Den K H (.ref p) (.list (kss.map fun ks=>.list (ks.map kD))):=by
 obtain ⟨ls,h1,h2,h3⟩:=h
 exact .lst (SqL.of h1) (ot h2 fun i l ks a b=>(h3 i l ks a b).2)
theorem Kll.push {H:Hp}{p l:Addr}{kss:List (List (Str×Int))}{ks:List (Str×Int)}{ls:List Addr}(h1:H p=some (.lst (ls.map V.ref))) (h2:ls.length=kss.length) (h3:∀(i:Nat) l ks,ls[i]?=some l->kss[i]?=some ks->l≠p/\Kl H l ks) (ne:l≠p) (k:Kl H l ks):Kll (upd H p (.lst (ls.map V.ref++[.ref l]))) p (kss++[ks]):=by
 refine ⟨ls++[l],by rw [ac,List.map_append]; rfl,by rw [List.length_append,List.length_append,h2]; rfl,fun i l' ks' a b=>?_⟩
 by_cases hi:i<ls.length
 ·rw [List.getElem?_append_left hi] at a
  rw [List.getElem?_append_left (by omega)] at b
  exact ⟨(h3 i l' ks' a b).1,(h3 i l' ks' a b).2.bt h1 (h3 i l' ks' a b).1 KS.Bt.upd⟩
 ·rw [List.getElem?_append_right (by omega)] at a
  rw [List.getElem?_append_right (by omega)] at b
  have hz:i-ls.length=0:=by
   have:=(List.getElem?_eq_some_iff.mp a).1
   rw [List.length_singleton] at this
   omega
  have hz':i-kss.length=0:=by omega
  rw [hz] at a
  rw [hz'] at b
  cases a
  cases b
  exact ⟨ne,k.bt h1 ne KS.Bt.upd⟩
def bA (o:Reel) (c:Cl):List (Str×Int):=(toK c).nums.map fun n=>(o.letters,o.start+n)
def jK:Sp:=fun vs H Q _=>∃(lr l:Addr) (prs:List (Addr×Reel)) (o:Addr×Reel) (cs:List Cl),vs=[.ref lr,.ref l]/\RL H lr prs/\Uq prs/\o∈prs/\CL H l cs/\cs.length<=1000/\(∀c∈cs,c.r=o.2.name/\has o.2 c.f/\has o.2 c.l/\frC c<=10000) /\
 ∀p H',Same H H'->H p=none->Kll H' p (cs.map (bA o.2))->Q (.ref p) H'
theorem sW {o:Reel}{c:Cl}(h1:has o c.f) (h2:has o c.l):∀n∈(toK c).nums,has o n:=fun n hn=>by
 unfold KS.Clip.nums at hn
 obtain ⟨m,hm,rfl⟩:=List.mem_map.mp hn
 have hm:=List.mem_range.mp hm
 unfold KS.Clip.cnt KS.Clip.way at *
 unfold toK at *
 dsimp only at *
 unfold has at *
 split <;> omega
theorem scEdges:aq ["_law_reels", "_law_clips_here", "_law_found", "_law_clip"] ["_law_reels", "_law_clips_here"] (ak dG):=⟨rfl,rfl,rfl,by decide +kernel,rfl,by decide +kernel,by decide +kernel⟩
theorem sS {f CN CF:Addr}{fd:FuncData}(F:Fun K "_law_edges" "_law_edges" dG f fd) (dFrames:Def P w K mg base CX0 "_law_frames" 1 ["_law_clip"] h9) (dKeyOf:Def P w K mg base (CX1 P w) "key_of" 4 ["reels", "name", "frame"] (gP CN CF)):aG P w K mg base CX0 5 f fd ["_law_reels", "_law_clips_here"] jK:=by
 refine F.ok scEdges (fun vs H Q E h=>?_) (fun cdv A outer s H vs Q E hr h=>?_)
 ·obtain ⟨lr,l,prs,o,cs,rfl,_⟩:=h
  rfl
 obtain ⟨lr,l,prs,o,cs,rfl,rl,uq,ho,cl,hlen,hok,q⟩:=h
 refine aW (ag (aw (i:=2) scEdges.nd (ba af))
  (ag (bM PassesOwn.never rfl (bB (e_v 1)) (wn (i:=3) scEdges.nd)
   (aj (aP (bg (e_v 2) (dU ["_law_clip", "_law_reels"] [3,0] [("_law_reels",s.heap.objs.size+1),("_law_clip",s.heap.objs.size+2)] rfl ⟨rfl,rfl,rfl,rfl,⟨rfl,rfl,rfl,rfl,trivial⟩⟩ ⟨rfl,⟨rfl,trivial⟩⟩ (bB (ao dFrames hr aE (aa (e_c 3) af))) (fun _ _ _ _=>(ao dKeyOf hr kM (aa (e_n 2) (aa (ar (dN (K:=K) rfl) (e_n 1) ae) (aa (e_n 0) af))))))))))
  (aj (aB (e_v 2))))) ?_
 have zl:sizeLine=16777216:=sizeLine_eq
 obtain ⟨us,hus,tus⟩:=id cl
 have lu:us.length=cs.length:=by rw [tus.len,List.length_map]
 refine ⟨(by show 0<=sizeLine; decide),fun pf hpf=>?_⟩
 have s0:=Same.new hpf (.lst [])
 refine ⟨_,rfl,l,rfl,⟨_,SqL.of (s0 _ _ hus)⟩,cK (K:=K) (a:=l) (xs:=us) (fun i σ H'=>∃o3:Option V,σ=[some (.ref lr),some (.ref l),some (.ref pf),o3]/\Kll H' pf ((cs.take i).map (bA o.2))/\Same H H') ⟨none,rfl,⟨[],ac,rfl,fun i l ks a=>by cases a⟩,s0⟩ (fun i σ H' _ ⟨_,_,_,sm⟩=>SqL.of (sm _ _ hus)) ?_ ?_⟩
 ·rintro i v σ H' hv ⟨o3,rfl,⟨ls,k1,k2,k3⟩,sm⟩
  obtain ⟨dd,hd,tv⟩:=(tus.tk (TK.of sm)).get hv
  obtain ⟨c,hc,rfl⟩:=gg hd
  obtain ⟨a,rfl,ha⟩:=eY tv
  obtain ⟨cr,cf,cl',cm⟩:=hok c (List.mem_of_getElem? hc)
  have lt:=List.length_take_le' i cs
  have lk:ls.length<=1000:=by rw [k2,List.length_map]; omega
  refine ⟨_,rfl,.inl ⟨rfl,_,SqL.of k1⟩,_,rfl,a,c,rfl,ha,cm,fun D H1 s1 hD0 hD=>?_⟩
  have cnl:(toK c).nums.length<=10000:=by
   rw [KS.Clip.nums_len]
   have:(((toK c).cnt:Nat):Int)=frC c:=by
    unfold KS.Clip.cnt toK frC
    dsimp only
    split <;> omega
   omega
  refine ⟨D,rfl,⟨_,SqL.of hD⟩,uB (K:=K) (fun j=>[.str o.2.letters,.int (o.2.start+(toK c).nums.getD j 0)]) (SqL.of hD) (by rw [List.length_map]; omega) ?_ ?_⟩
  ·intro j x H2 R s2 hx hR
   rw [List.getElem?_map] at hx
   cases hn:(toK c).nums[j]? with
   | none=>rw [hn] at hx; cases hx
   | some n =>
    rw [hn] at hx
    cases hx
    have hnm:=sW cf cl' n (List.mem_of_getElem? hn)
    have S2:=s1.trans s2
    refine ⟨_,rfl,_,rfl,a,_,_,.str c.r,rfl,rfl,SqT.of (S2 _ _ ha),ad (j:=0) rfl,_,rfl,lr,prs,c.r,n,rfl,(rl.same sm).same S2,fun x hx xn xf t H3 s3 ht=>?_,fun x hx xn xf=>?_,fun no=>absurd cr.symm (no o ho)⟩
    ·have e:=uq x hx o ho (xn.trans cr)
     subst e
     refine hR t H3 s3 ?_
     rw [List.getD_eq_getElem?_getD,hn]
     exact ht
    ·have e:=uq x hx o ho (xn.trans cr)
     subst e
     exact absurd hnm xf
  ·intro D2 H2 rs s2 hD20 hD2 hrl hrs
   have S2:=s1.trans s2
   have nD:D2≠pf:=fun z=>by
    rw [z,s1 _ _ k1] at hD20
    cases hD20
   refine ⟨pf,_,_,rfl,rfl,S2 _ _ k1,by rw [List.length_map]; omega,_,rfl,?_,fun b ob hb=>?_⟩
   ·rw [bh hc,List.map_append]
    refine Kll.push (S2 _ _ k1) k2 (fun i l ks a b=>⟨(k3 i l ks a b).1,(k3 i l ks a b).2.same S2⟩) nD ⟨rs,hD2,?_,fun j r k hr hk=>?_⟩
    ·unfold bA
     rw [hrl,List.length_map,List.length_map]
    ·rw [hrs j r hr]
     unfold bA at hk
     rw [List.getElem?_map] at hk
     cases hn:(toK c).nums[j]? with
     | none=>rw [hn] at hk; cases hk
     | some n =>
      rw [hn] at hk
      cases hk
      rw [List.getD_eq_getElem?_getD,hn]
      rfl
   ·rw [ah (ap hb hpf)]
    exact S2 _ _ (sm _ _ hb)
 ·rintro σ H' ⟨o3,rfl,k,sm⟩
  rw [lu,List.take_length] at k
  exact ⟨_,rfl,q pf H' sm hpf k⟩
def fO (d:Nat):Sp:=fun vs H Q _=>∃(a:Addr) (xs:List IT.It) (lo hi:Int),vs=[.ref a,.int lo,.int hi]/\Td H (.ref a) (.tuple (dL xs))/\dpL xs<=d/\∀H',Same H H'->Q (.bl (thL lo hi xs)) H'
def kG:Nat->Sp
 | 0=>fun _ _ _ _=>False
 | d+1=>fO d
theorem gD {d:Nat}{vs:List V}{H:Hp}{Q:VK}{E:XK}(h:0<d) (z:fO (d-1) vs H Q E):kG d vs H Q E:=by
 cases d with
 | zero=>exact absurd h (Nat.lt_irrefl _)
 | succ d=>exact z
theorem uP {lo hi:Int}{xs:List IT.It}{x:IT.It}(hx:x∈xs) (h:thI lo hi x=false):thL lo hi xs=false:=by
 induction xs with
 | nil=>cases hx
 | cons y r ih =>
  rw [thL]
  rcases List.mem_cons.mp hx with rfl | hx
  ·rw [h]; rfl
  ·rw [ih hx,Bool.and_false]
theorem uQ {lo hi:Int}{xs:List IT.It}{i:Nat}{x:IT.It}(hx:xs[i]?=some x) (h:thL lo hi (xs.take i)=true) (hi':thI lo hi x=true):thL lo hi (xs.take (i+1))=true:=by
 rw [bh hx,gN,h,thL,hi',thL]
 rfl
theorem scThere:aq ["_law_items", "_law_low", "_law_high", "_law_item"] ["_law_items", "_law_low", "_law_high"] (ak dF):=⟨rfl,rfl,rfl,by decide +kernel,rfl,by decide +kernel,by decide +kernel⟩
theorem kO {d:Nat}{f:Addr}{fd:FuncData}(F:Fun K "_law_there" "_law_there" dF f fd) (dThere:Def P w K mg base CX0 "_law_there" d ["_law_items", "_law_low", "_law_high"] (kG d)):aG P w K mg base CX0 (d+1) f fd ["_law_items", "_law_low", "_law_high"] (fO d):=by
 refine F.ok scThere (fun vs H Q E h=>?_) (fun cdv A outer s H vs Q E hr h=>?_)
 ·obtain ⟨a,xs,lo,hi,rfl,_⟩:=h
  rfl
 obtain ⟨a,xs,lo,hi,rfl,td,hd,q⟩:=h
 refine aW (ag (bM PassesOwn.never rfl (lj (e_v 0)) (aM (i:=3) scThere.nd)
   (ag (bc (t_w (g0 (aN be (ar am (e_v 3) ae) aF) (fg (g7 (t_w (g0 (ng sy fU (e_v 1) (ar am (e_v 3) ae) (e_v 2)) (fg (ng sy fU (e_v 1) (ar am (e_v 3) ae) (e_v 2)))))))))
    (aj (aB i8))
    aL)
   (aj (bc (t_w (g0 (aN je (ar am (e_v 3) ae) (ba (aa aF (aa aF af)))) (fg (g7 (d_ (ao dThere hr aE (aa (ar am (e_v 3) (eW bv ae)) (aa (e_v 1) (aa (e_v 2) af))) (hj:=by omega)))))))
    (aj (aB i8))
    aL))))
  (aj (aB i8))) ?_
 obtain ⟨a0,vs,hva,hap,hvs⟩:=td.tinv
 cases hva
 have hxl:vs.length=xs.length:=by rw [hvs.len,bo,List.length_map]
 refine ⟨_,rfl,a,rfl,⟨_,SqT.of hap⟩,gX (K:=K) (a:=a) (xs:=vs) (fun i σ H'=>∃o3:Option V,σ=[some (.ref a),some (.int lo),some (.int hi),o3]/\thL lo hi (xs.take i)=true/\Same H H') ⟨none,rfl,(by rw [List.take_zero,thL]),Same.refl _⟩ (fun i σ H' _ ⟨_,_,_,sm⟩=>SqT.of (sm _ _ hap)) ?_ ?_⟩
 ·rintro i v σ H' hv ⟨o3,rfl,hth,sm⟩
  obtain ⟨d',hd',tdv⟩:=(hvs.tk (TK.of sm)).get hv
  obtain ⟨x,hx,rfl⟩:=kn hd'
  have hxm:x∈xs:=List.mem_of_getElem? hx
  have hdx:dpI x<=d:=dpL_le.mp hd x hxm
  have stop:∀H2,Same H' H2->thI lo hi x=false->Q (.bl false) H2:=fun H2 s2 h=>by
   have:=q H2 (sm.trans s2)
   rwa [uP hxm h] at this
  have nxt:∀H2,Same H' H2->thI lo hi x=true->∃o3:Option V,[some (V.ref a),some (.int lo),some (.int hi),some v]=[some (.ref a),some (.int lo),some (.int hi),o3]/\thL lo hi (xs.take (i+1))=true/\Same H H2:=fun H2 s2 h=>⟨_,rfl,uQ hx hth h,sm.trans s2⟩
  cases x with
  | clip r f l =>
   obtain ⟨b,rfl,hb⟩:=fL tdv
   have e0:thI lo hi (.clip r f l)=((decide (lo<=f)&&decide (f<hi))&&(decide (lo<=l)&&decide (l<hi))):=by rw [thI]
   refine ⟨_,rfl,b,_,_,_,rfl,rfl,SqT.of hb,ad (j:=0) rfl,rfl,_,rfl,iteY (seq _) ?_⟩
   refine ⟨_,rfl,_,rfl,b,_,_,.int f,rfl,rfl,SqT.of hb,ad (j:=2) rfl,_,_,rfl,rfl,_,rfl,cY (fun c1=>?_) (fun c1=>?_)⟩
   ·refine ⟨_,rfl,_,_,rfl,rfl,_,rfl,cY (fun c2=>?_) (fun c2=>?_)⟩
    ·refine ⟨_,rfl,_,rfl,b,_,_,.int l,rfl,rfl,SqT.of hb,ad (j:=3) rfl,_,_,rfl,rfl,_,rfl,cY (fun c3=>?_) (fun c3=>?_)⟩
     ·refine ⟨_,rfl,_,_,rfl,rfl,_,rfl,?_⟩
      by_cases c4:l<hi
      ·refine iteN (by rw [decide_eq_true c4]; rfl) ?_
       refine ⟨_,rfl,b,_,_,_,rfl,rfl,SqT.of hb,ad (j:=0) rfl,(by show 2<=sizeLine; decide),fun pt hpt=>⟨pt,_,rfl,.inl (SqL.of ac),rfl,rfl,_,rfl,iteN (by decide +kernel) (bQ ?_)⟩⟩
       exact nxt _ (Same.new hpt _) (by rw [e0,c1,c2,c3,decide_eq_true c4]; rfl)
      ·exact iteY (by rw [decide_eq_false c4]; rfl) (stop H' (Same.refl _) (by rw [e0,decide_eq_false c4,Bool.and_false,Bool.and_false]))
     ·exact ⟨_,rfl,cX (stop H' (Same.refl _) (by rw [e0,Bool.eq_false_iff.mpr c3,Bool.false_and,Bool.and_false]))⟩
    ·exact cX (stop H' (Same.refl _) (by rw [e0,Bool.eq_false_iff.mpr c2,Bool.and_false,Bool.false_and]))
   ·exact ⟨_,rfl,bQ (cX (stop H' (Same.refl _) (by rw [e0,Bool.eq_false_iff.mpr c1,Bool.false_and,Bool.false_and])))⟩
  | times m zs =>
   obtain ⟨b,c,rfl,hb,hc⟩:=d8 tdv
   refine ⟨_,rfl,b,_,_,_,rfl,rfl,SqT.of hb,ad (j:=0) rfl,rfl,_,rfl,iteN sne (bQ ?_)⟩
   refine ⟨_,rfl,b,_,_,_,rfl,rfl,SqT.of hb,ad (j:=0) rfl,(by show 2<=sizeLine; decide),fun pt hpt=>⟨pt,_,rfl,.inl (SqL.of ac),rfl,rfl,_,rfl,iteY (by decide +kernel) ?_⟩⟩
   have st:=Same.new hpt (.lst [.str "times",.str "back"])
   rw [dpI] at hdx
   refine ⟨_,rfl,_,rfl,b,_,_,_,rfl,rfl,SqT.of (st _ _ hb),gz,_,rfl,_,rfl,gD (by omega) ⟨c,zs,lo,hi,rfl,hc.tk (TK.of st),by omega,fun H2 s2=>⟨_,rfl,?_⟩⟩⟩
   have e0:thI lo hi (.times m zs)=thL lo hi zs:=by rw [thI]
   cases hz:thL lo hi zs with
   | true=>exact bQ (nxt H2 (st.trans s2) (by rw [e0,hz]))
   | false=>exact cX (stop H2 (st.trans s2) (by rw [e0,hz]))
  | back zs =>
   obtain ⟨b,c,rfl,hb,hc⟩:=fM tdv
   refine ⟨_,rfl,b,_,_,_,rfl,rfl,SqT.of hb,ad (j:=0) rfl,rfl,_,rfl,iteN sne (bQ ?_)⟩
   refine ⟨_,rfl,b,_,_,_,rfl,rfl,SqT.of hb,ad (j:=0) rfl,(by show 2<=sizeLine; decide),fun pt hpt=>⟨pt,_,rfl,.inl (SqL.of ac),rfl,rfl,_,rfl,iteY (by decide +kernel) ?_⟩⟩
   have st:=Same.new hpt (.lst [.str "times",.str "back"])
   rw [dpI] at hdx
   refine ⟨_,rfl,_,rfl,b,_,_,_,rfl,rfl,SqT.of (st _ _ hb),gA,_,rfl,_,rfl,gD (by omega) ⟨c,zs,lo,hi,rfl,hc.tk (TK.of st),by omega,fun H2 s2=>⟨_,rfl,?_⟩⟩⟩
   have e0:thI lo hi (.back zs)=thL lo hi zs:=by rw [thI]
   cases hz:thL lo hi zs with
   | true=>exact bQ (nxt H2 (st.trans s2) (by rw [e0,hz]))
   | false=>exact cX (stop H2 (st.trans s2) (by rw [e0,hz]))
  | part n zs =>
   obtain ⟨b,rfl,hb⟩:=fJ tdv
   refine ⟨_,rfl,b,_,_,_,rfl,rfl,SqT.of hb,ad (j:=0) rfl,rfl,_,rfl,iteN sne (bQ ?_)⟩
   refine ⟨_,rfl,b,_,_,_,rfl,rfl,SqT.of hb,ad (j:=0) rfl,(by show 2<=sizeLine; decide),fun pt hpt=>⟨pt,_,rfl,.inl (SqL.of ac),rfl,rfl,_,rfl,iteN (by decide +kernel) (bQ ?_)⟩⟩
   exact nxt _ (Same.new hpt _) (by rw [thI])
  | fade m =>
   obtain ⟨b,rfl,hb⟩:=fK tdv
   refine ⟨_,rfl,b,_,_,_,rfl,rfl,SqT.of hb,ad (j:=0) rfl,rfl,_,rfl,iteN sne (bQ ?_)⟩
   refine ⟨_,rfl,b,_,_,_,rfl,rfl,SqT.of hb,ad (j:=0) rfl,(by show 2<=sizeLine; decide),fun pt hpt=>⟨pt,_,rfl,.inl (SqL.of ac),rfl,rfl,_,rfl,iteN (by decide +kernel) (bQ ?_)⟩⟩
   exact nxt _ (Same.new hpt _) (by rw [thI])
 ·rintro σ H' ⟨o3,rfl,hth,sm⟩
  rw [hxl,List.take_length] at hth
  have:=q H' sm
  rw [hth] at this
  exact this
end
structure Cs where
 s:Addr
 c0:Addr
 c1:Addr
 c2:Addr
 c3:Addr
 c4:Addr
 c5:Addr
 c6:Addr
 c7:Addr
 c8:Addr
 c9:Addr
structure zp (K:PySem.W.Frag) (mg:Str->Option Value) (c:Cs) (n:Addr) (b:Nat->Bool):Prop where
 ms:mg "SpliceError"=some (.ref c.s)
 m0:mg "NoKey"=some (.ref c.c0)
 m1:mg "NoReel"=some (.ref c.c1)
 m2:mg "NoFrame"=some (.ref c.c2)
 m3:mg "NoName"=some (.ref c.c3)
 m4:mg "NoList"=some (.ref c.c4)
 m5:mg "NoFade"=some (.ref c.c5)
 m6:mg "TooMany"=some (.ref c.c6)
 m7:mg "TooShort"=some (.ref c.c7)
 m8:mg "NoPlace"=some (.ref c.c8)
 m9:mg "NoRow"=some (.ref c.c9)
 ks:PySem.W.kitOne K (.ref n) (.ref c.s)=some true
 kv:PySem.W.kitOne K (.ref n) (.type "ValueError")=some true
 k0:PySem.W.kitOne K (.ref n) (.ref c.c0)=some (b 0)
 k1:PySem.W.kitOne K (.ref n) (.ref c.c1)=some (b 1)
 k2:PySem.W.kitOne K (.ref n) (.ref c.c2)=some (b 2)
 k3:PySem.W.kitOne K (.ref n) (.ref c.c3)=some (b 3)
 k4:PySem.W.kitOne K (.ref n) (.ref c.c4)=some (b 4)
 k5:PySem.W.kitOne K (.ref n) (.ref c.c5)=some (b 5)
 k6:PySem.W.kitOne K (.ref n) (.ref c.c6)=some (b 6)
 k7:PySem.W.kitOne K (.ref n) (.ref c.c7)=some (b 7)
 k8:PySem.W.kitOne K (.ref n) (.ref c.c8)=some (b 8)
 k9:PySem.W.kitOne K (.ref n) (.ref c.c9)=some (b 9)
 ex:iW K n
theorem iP {K:PySem.W.Frag}{H:Hp}:∀bs:List Bool,DenAll K H (bs.map V.bl) (bs.map PyData.bool)
 | []=>.nil
 | b :: r=>.cons (.bl b) (iP r)
theorem lg:∀bs:List Bool,PyData.canLayAll0 (bs.map PyData.bool)=true
 | []=>rfl
 | b :: r=>by simp [PyData.canLayAll0,PyData.canLay0,lg r]
theorem lI:∀bs:List Bool,PyData.depthAll (bs.map PyData.bool)=0
 | []=>by simp [PyData.depthAll]
 | b :: r=>by simp [PyData.depthAll,PyData.depth,lI r]
section
variable {P:Program}{w:World}{K:PySem.W.Frag}{mg:Str->Option Value}{base:Heap}
def isK (k:Nat) (i:Nat):Bool:=decide (i=k)
theorem wb:∀k j:Fin 10,PyData.eqv (.list ([isK k.1 0,isK k.1 1,isK k.1 2,isK k.1 3,isK k.1 4,isK k.1 5,isK k.1 6,isK k.1 7,isK k.1 8,isK k.1 9].map PyData.bool)) (.list ([isK j.1 0,isK j.1 1,isK j.1 2,isK j.1 3,isK j.1 4,isK j.1 5,isK j.1 6,isK j.1 7,isK j.1 8,isK j.1 9].map PyData.bool))=decide (k=j):=by decide +kernel
theorem yQ (k j:Nat) (hk:k<10) (hj:j<10):PyData.eqv (.list ([isK k 0,isK k 1,isK k 2,isK k 3,isK k 4,isK k 5,isK k 6,isK k 7,isK k 8,isK k 9].map PyData.bool)) (.list ([isK j 0,isK j 1,isK j 2,isK j 3,isK j 4,isK j 5,isK j 6,isK j 7,isK j 8,isK j 9].map PyData.bool))=decide (k=j):=by
 have:=wb ⟨k,hk⟩ ⟨j,hj⟩
 rw [this]
 exact decide_eq_decide.mpr ⟨fun z=>congrArg Fin.val z,fun z=>Fin.ext z⟩
def xD (n:Addr) (k:Nat):Sp:=fun vs H Q _=>∃(a:Addr) (d:Option Addr) (j:Nat),vs=[.ref a,.int (j:Int)]/\H a=some (iK a (.ref n) d)/\(d=none\/∃dx fs,d=some dx/\H dx=some (xdO dx fs))/\k<10/\j<10/\∀H',Same H H'->Q (.bl (decide (k=j))) H'
theorem scOnly:aq ["_law_e", "_law_at", "_law_kinds"] ["_law_e", "_law_at"] (ak eC):=⟨rfl,rfl,rfl,by decide +kernel,rfl,by decide +kernel,by decide +kernel⟩
def jC (R:Addr->Nat->Prop):Sp:=fun vs H Q E=>∃n k,R n k/\xD n k vs H Q E
theorem vR {f:Addr}{fd:FuncData}{c:Cs}{n0:Addr}{k0:Nat}{R:Addr->Nat->Prop}(F:Fun K "_law_only" "_law_only" eC f fd) (C:zp K mg c n0 (isK k0)) (CR:∀n k,R n k->zp K mg c n (isK k)) (n_isinstance:mg "isinstance"=none) (n_range:mg "range"=none) (n_ValueError:mg "ValueError"=none) :
  aG P w K mg base CX0 2 f fd ["_law_e", "_law_at"] (jC R):=by
 refine F.ok scOnly (fun vs H Q E h=>?_) (fun cdv A outer s H vs Q E hr h=>?_)
 ·obtain ⟨n,k,_,a,d,j,rfl,_⟩:=h
  rfl
 obtain ⟨n,k,hR,a,d,j,rfl,hH,hd,hk10,hj10,q⟩:=h
 refine aW (ag (aw (i:=2) scOnly.nd (ba (aa (e_b aH n_isinstance PyProof.Rows.boot_isinstance (aa (e_v 0) (aa (cg (v:=.ref c.c0) C.m0 rfl) af))) (aa (e_b aH n_isinstance PyProof.Rows.boot_isinstance (aa (e_v 0) (aa (cg (v:=.ref c.c1) C.m1 rfl) af))) (aa (e_b aH n_isinstance PyProof.Rows.boot_isinstance (aa (e_v 0) (aa (cg (v:=.ref c.c2) C.m2 rfl) af))) (aa (e_b aH n_isinstance PyProof.Rows.boot_isinstance (aa (e_v 0) (aa (cg (v:=.ref c.c3) C.m3 rfl) af))) af))))))
  (ag (aw (i:=2) scOnly.nd (az ip (e_v 2) (ba (aa (e_b aH n_isinstance PyProof.Rows.boot_isinstance (aa (e_v 0) (aa (cg (v:=.ref c.c4) C.m4 rfl) af))) (aa (e_b aH n_isinstance PyProof.Rows.boot_isinstance (aa (e_v 0) (aa (cg (v:=.ref c.c5) C.m5 rfl) af))) (aa (e_b aH n_isinstance PyProof.Rows.boot_isinstance (aa (e_v 0) (aa (cg (v:=.ref c.c6) C.m6 rfl) af))) (aa (e_b aH n_isinstance PyProof.Rows.boot_isinstance (aa (e_v 0) (aa (cg (v:=.ref c.c7) C.m7 rfl) af))) af)))))))
  (ag (aw (i:=2) scOnly.nd (az ip (e_v 2) (ba (aa (e_b aH n_isinstance PyProof.Rows.boot_isinstance (aa (e_v 0) (aa (cg (v:=.ref c.c8) C.m8 rfl) af))) (aa (e_b aH n_isinstance PyProof.Rows.boot_isinstance (aa (e_v 0) (aa (cg (v:=.ref c.c9) C.m9 rfl) af))) af)))))
  (aj (aB (fc (e_b aH n_isinstance PyProof.Rows.boot_isinstance (aa (e_v 0) (aa (cg (v:=.ref c.s) C.ms rfl) af))) (fc (e_b aH n_isinstance PyProof.Rows.boot_isinstance (aa (e_v 0) (aa (y7 (v:=.ty "ValueError") n_ValueError (by decide +kernel) rfl) af))) (jn (eM (io hr) (e_v 2) (dU ["_law_at"] [1] [("_law_at",s.heap.objs.size+1)] rfl ⟨rfl,rfl,rfl,rfl,trivial⟩ ⟨rfl,trivial⟩ (mF n_range ae) (fun _ _ _ _=>(eM be (e_n 0) (e_n 1))))))))))))) ?_
 replace C:=CR n k hR
 have xs:∀{H':Hp},Same H H'->uJ H' d:=fun s=>by
  rcases hd with z | ⟨dx,fs,z,y⟩
  ·exact .inl z
  ·exact .inr ⟨dx,fs,z,s _ _ y⟩
 have x0:=xs (Same.refl _)
 have z4:4<=sizeLine:=by decide
 refine ⟨_,rfl,a,n,d,_,_,rfl,hH,x0,C.ex,.inl rfl,C.k0,_,rfl,a,n,d,_,_,rfl,hH,x0,C.ex,.inl rfl,C.k1,_,rfl,a,n,d,_,_,rfl,hH,x0,C.ex,.inl rfl,C.k2,_,rfl,a,n,d,_,_,rfl,hH,x0,C.ex,.inl rfl,C.k3,z4,fun p hp=>?_⟩
 have s1:=Same.new hp (.lst [.bl (isK k 0),.bl (isK k 1),.bl (isK k 2),.bl (isK k 3)])
 have h1:=s1 _ _ hH
 have x1:=xs s1
 refine ⟨_,rfl,_,rfl,a,n,d,_,_,rfl,h1,x1,C.ex,.inl rfl,C.k4,_,rfl,a,n,d,_,_,rfl,h1,x1,C.ex,.inl rfl,C.k5,_,rfl,a,n,d,_,_,rfl,h1,x1,C.ex,.inl rfl,C.k6,_,rfl,a,n,d,_,_,rfl,h1,x1,C.ex,.inl rfl,C.k7,z4,fun p2 hp2=>?_⟩
 have s2:=Same.new hp2 (.lst [.bl (isK k 4),.bl (isK k 5),.bl (isK k 6),.bl (isK k 7)])
 refine ⟨p,p2,_,_,rfl,rfl,s2 _ _ ac,ac,(by show 8<=sizeLine; decide),fun p3 hp3=>?_⟩
 have s3:=Same.new hp3 (.lst ([.bl (isK k 0),.bl (isK k 1),.bl (isK k 2),.bl (isK k 3)]++[.bl (isK k 4),.bl (isK k 5),.bl (isK k 6),.bl (isK k 7)]))
 have S3:=(s1.trans s2).trans s3
 have h3:=S3 _ _ hH
 have x3:=xs S3
 refine ⟨_,rfl,_,rfl,a,n,d,_,_,rfl,h3,x3,C.ex,.inl rfl,C.k8,_,rfl,a,n,d,_,_,rfl,h3,x3,C.ex,.inl rfl,C.k9,(by show 2<=sizeLine; decide),fun p4 hp4=>?_⟩
 have s4:=Same.new hp4 (.lst [.bl (isK k 8),.bl (isK k 9)])
 refine ⟨p3,p4,_,_,rfl,rfl,s4 _ _ ac,ac,(by show 10<=sizeLine; decide),fun p5 hp5=>?_⟩
 have s5:=Same.new hp5 (.lst (([.bl (isK k 0),.bl (isK k 1),.bl (isK k 2),.bl (isK k 3)]++[.bl (isK k 4),.bl (isK k 5),.bl (isK k 6),.bl (isK k 7)])++[.bl (isK k 8),.bl (isK k 9)]))
 have S5:=(S3.trans s4).trans s5
 have h5:=S5 _ _ hH
 have x5:=xs S5
 refine ⟨_,rfl,a,n,d,_,true,rfl,h5,x5,C.ex,.inl rfl,C.ks,true,rfl,cX ?_⟩
 refine ⟨_,rfl,a,n,d,_,true,rfl,h5,x5,C.ex,.inr ⟨_,rfl⟩,C.kv,true,rfl,cX ?_⟩
 refine ⟨_,rfl,10,rfl,by decide,by decide,mP (fun i=>V.bl (decide (V.int (0+(i:Int))=V.int (j:Int)))) (by decide) (fun i H' R hi hS hR=>?_) (fun D H' hS hD=>?_)⟩
 ·exact ⟨_,rfl,_,rfl,rfl,hR H' (Same.refl _)⟩
 ·have ed:∀i:Nat,decide (V.int (0+(i:Int))=V.int (j:Int))=isK j i:=fun i=>by
   unfold isK
   rw [km]
   by_cases z:i=j
   ·subst z; simp
   ·rw [decide_eq_false z]
    exact beq_eq_false_iff_ne.mpr (by omega)
  have hD':H' D=some (.lst ([isK j 0,isK j 1,isK j 2,isK j 3,isK j 4,isK j 5,isK j 6,isK j 7,isK j 8,isK j 9].map V.bl)):=by
   rw [hD]
   simp only [ed]
   rfl
  have d1:Den K H' (.ref p5) (.list ([isK k 0,isK k 1,isK k 2,isK k 3,isK k 4,isK k 5,isK k 6,isK k 7,isK k 8,isK k 9].map PyData.bool)):=.lst (SqL.of (hS _ _ ac)) (iP [isK k 0,isK k 1,isK k 2,isK k 3,isK k 4,isK k 5,isK k 6,isK k 7,isK k 8,isK k 9])
  have d2:Den K H' (.ref D) (.list ([isK j 0,isK j 1,isK j 2,isK j 3,isK j 4,isK j 5,isK j 6,isK j 7,isK j 8,isK j 9].map PyData.bool)):=.lst (SqL.of hD') (iP _)
  have lay:∀k:Nat,(PyData.list ([isK k 0,isK k 1,isK k 2,isK k 3,isK k 4,isK k 5,isK k 6,isK k 7,isK k 8,isK k 9].map PyData.bool)).canLay0=true:=fun k=>by
   rw [PyData.canLay0]
   exact lg _
  refine ⟨_,_,d1,d2,lay k,lay j,Nat.le_trans (Nat.min_le_left _ _) (by rw [PyData.depth,lI]; decide),?_⟩
  rw [show PyData.eqv (.list ([isK k 0,isK k 1,isK k 2,isK k 3,isK k 4,isK k 5,isK k 6,isK k 7,isK k 8,isK k 9].map PyData.bool)) (.list ([isK j 0,isK j 1,isK j 2,isK j 3,isK j 4,isK j 5,isK j 6,isK j 7,isK j 8,isK j 9].map PyData.bool))=decide (k=j) from yQ k j hk10 hj10]
  exact q H' (S5.trans hS)
end
end K57
namespace L2
open PySem PySem.Spec PyProof.Rows PySem.W
inductive DD (K:PySem.W.Frag) (H:Hp):List (Key×V)->List (Str×PyData)->Prop
 | nil:DD K H [] []
 | cons {k:Str}{v:V}{d:PyData}{kvs:List (Key×V)}{ds:List (Str×PyData)}:Den K H v d->d.canLay0=true->d.depth<=50->DD K H kvs ds->DD K H ((.inr k,v) :: kvs) ((k,d) :: ds)
def iR (db:List (Str×PyData)):List (Str×PyData)->Bool
 | []=>true
 | (k,d) :: r=>match db.lookup k with
  | none=>false
  | some e=>PyData.eqv d e&&iR db r
def dEq (da db:List (Str×PyData)):Bool:=(da.length == db.length)&&iR db da
section
variable {K:PySem.W.Frag}{H:Hp}
theorem DD.len:∀{kvs:List (Key×V)}{ds:List (Str×PyData)},DD K H kvs ds->kvs.length=ds.length
 | _,_,.nil=>rfl
 | _,_,.cons _ _ _ r=>by rw [List.length_cons,List.length_cons,r.len]
theorem DD.none:∀{kvs:List (Key×V)}{ds:List (Str×PyData)}{k:Str},DD K H kvs ds->ds.lookup k=none->aK kvs (.inr k)=none
 | _,_,_,.nil,_=>rfl
 | _,_,k,.cons (k:=k') _ _ _ r,h=>by
  rw [List.lookup_cons] at h
  by_cases e:k=k'
  ·subst e
   rw [beq_self_eq_true] at h
   cases h
  ·rw [beq_eq_false_iff_ne.mpr e] at h
   rw [aY (fun z=>e (Sum.inr.inj z).symm)]
   exact r.none h
theorem DD.some:∀{kvs:List (Key×V)}{ds:List (Str×PyData)}{k:Str}{d:PyData},DD K H kvs ds->ds.lookup k=some d->∃v,aK kvs (.inr k)=some v/\Den K H v d/\d.canLay0=true/\d.depth<=50
 | _,_,_,_,.nil,h=>by cases h
 | _,_,k,d,.cons (k:=k') (v:=v) (d:=d') a b c r,h=>by
  rw [List.lookup_cons] at h
  by_cases e:k=k'
  ·subst e
   rw [beq_self_eq_true] at h
   cases h
   exact ⟨v,bf rfl,a,b,c⟩
  ·rw [beq_eq_false_iff_ne.mpr e] at h
   rw [aY (fun z=>e (Sum.inr.inj z).symm)]
   exact r.some h
end
section
variable {X:Cx}{pins:List (Addr×Obj)}{σ:St}{H:Hp}{s:Shared}
theorem wC {A:Around}(I:Inv X pins σ H s) (hu:A.units+50<cLine) {kb:List (Key×V)}{db:List (Str×PyData)}{vb:List (Key×Value)}(hb:KV kb vb) (ddb:DD X.K H kb db) :
  ∀{ka:List (Key×V)}{da:List (Str×PyData)}{va:List (Key×Value)},KV ka va->DD X.K H ka da->KeqHits A s vb va (iR db da):=by
 intro ka da va ha dda
 induction dda generalizing va with
 | nil=>cases ha; exact .nil
 | @cons k v d kvs ds h1 h2 h3 r ih =>
  cases ha with
  | cons h0 r0 =>
   rename_i v' va
   obtain ⟨e1,e2⟩:=h0
   obtain ⟨kk,vv⟩:=v'
   have e1:(Sum.inr k:Key)=kk:=e1
   subst e1
   have e2:RelV v vv:=e2
   have hv:=hb.val (.inr k)
   unfold iR
   cases hl:db.lookup k with
   | none =>
    rw [ddb.none hl] at hv
    cases hy:valueAt vb (.inr k) with
    | none=>exact .miss hy
    | some y=>rw [hy] at hv; exact hv.elim
   | some e =>
    obtain ⟨w',hw,g1,g2,g3⟩:=ddb.some hl
    rw [hw] at hv
    cases hy:valueAt vb (.inr k) with
    | none=>rw [hy] at hv; exact hv.elim
    | some y =>
     rw [hy] at hv
     have hv:RelV w' y:=hv
     obtain ⟨as,ra⟩:=h1.reads I e2
     obtain ⟨bs,rb⟩:=g1.reads I hv
     exact .hit hy (SeqAt.eqAt_reads _ _ _ _ _ _ _ _ ra rb h2 g2 (by have:=Nat.min_le_left d.depth e.depth; omega)) (ih r0)
end
section
variable {X:Cx}
def rDE (K:PySem.W.Frag) (f:Bool->Bool):R2:=fun x y H Q=>∃a b ka kb da db,x=.ref a/\y=.ref b/\Rd H a (.dK ka)/\Rd H b (.dK kb)/\DD K H ka da/\DD K H kb db/\Q (.bl (f (dEq da db))) H
end
end L2
namespace L2
open PySem PySem.Spec PyProof.Rows PySem.W
open AutoSeq1 (wpAny_loadPart')
def EqIn (prog:Program) (w:World) (A:Around) (s:Shared) (y x:Value) (b:Bool):Prop:=∀(E:Value->Shared->Prop) (Q:Bool->Shared->Prop),Q b s->wpAny (model prog w) A (eqBool y x) Q E s
theorem zF {prog:Program}{w:World}{A:Around}{E:Value->Shared->Prop}{Q:Value->Shared->Prop}{s:Shared}{l b:Addr}{v1 v2 u1 u2:Value}{e1 e2:Bool}(hl:s.heap.IsTuple l #[v1,v2]) (hb:s.heap.IsTuple b #[u1,u2]) (hu:A.units<cLine)
  (h1:EqIn prog w A.in1 s v1 u1 e1) (h2:EqIn prog w A.in1 s v2 u2 e2) (q:Q (.bool (!(e1&&e2))) s):wpAny (model prog w) A (compareOp .NotEq (.ref l) (.ref b)) Q E s:=by
 obtain ⟨hp,g,d,tk,os⟩:=s
 obtain ⟨⟨cls,dd,data,sl⟩,ho,hc,n,hd⟩:=id hl
 obtain ⟨⟨cls2,dd2,data2,sl2⟩,ho2,hc2,n2,hd2⟩:=id hb
 simp only at hc hd hc2 hd2
 subst hc hd hc2 hd2
 have f2:=AutoSeq1.sub_tuple_tuple
 refine wpAny_richCompare_same_room (op:=.NotEq) ⟨_,ho,rfl⟩ ⟨_,ho2,rfl⟩ F.slot_tuple_ne (wpAny_call_entry F.slot_tuple_ne ⟨_,ho,rfl⟩ F.entry_tuple_ne ?_ (F.args_tuple_ne_2 _ _)) hu
 have r1:∀{E:Value->Shared->Prop}{Q:Bool->Shared->Prop},Q e1 ⟨hp,g,d,tk,os⟩->wpAny (model prog w) A.in1 (eqBool v1 u1) Q E ⟨hp,g,d,tk,os⟩:=fun q=>h1 _ _ q
 have r2:∀{E:Value->Shared->Prop}{Q:Bool->Shared->Prop},Q e2 ⟨hp,g,d,tk,os⟩->wpAny (model prog w) A.in1 (eqBool v2 u2) Q E ⟨hp,g,d,tk,os⟩:=fun q=>h2 _ _ q
 cases e1 <;> cases e2 <;> wp_walk using wpAny_loadPart' ho,wpAny_loadPart' ho2,r1,r2
 all_goals exact ⟨_,rfl,(fun x=>nomatch x),q⟩
inductive Cmp (K:PySem.W.Frag) (H:Hp):V->V->Bool->Prop
 | den {v u:V}{da db:PyData}:Den K H v da->Den K H u db->da.canLay0=true->db.canLay0=true->min da.depth db.depth<=50->Cmp K H v u (PyData.eqv da db)
 | dic {a b:Addr}{ka kb:List (Key×V)}{da db:List (Str×PyData)}:a≠b->Rd H a (.dK ka)->Rd H b (.dK kb)->DD K H ka da->DD K H kb db->Cmp K H (.ref a) (.ref b) (dEq da db)
section
variable {X:Cx}{pins:List (Addr×Obj)}{σ:St}{H:Hp}{s:Shared}
theorem EqIn.refs {prog:Program}{w:World}{A:Around}{s:Shared}{l b:Addr}{k:Bool}(hne:l≠b) (h:∀(E:Value->Shared->Prop) (Q:Value->Shared->Prop),Q (.bool k) s->wpAny (model prog w) A (compareOp .Eq (.ref l) (.ref b)) Q E s):EqIn prog w A s (.ref l) (.ref b) k:=fun E Q hq=>by
 unfold eqBool
 refine wpAny_holding (wpAny_ite_split (fun z=>absurd (by have:=eq_of_beq z; injection this) hne) fun _=>?_)
 exact wpAny_bind (h E _ (wpAny_truthy_bool hq))
theorem Cmp.at' {A:Around}{v u:V}{v' u':Value}{e:Bool}(I:Inv X pins σ H s) (c:Cmp X.K H v u e) (r1:RelV v v') (r2:RelV u u') (hu:A.units+60<cLine):EqIn X.prog X.w A s v' u' e:=by
 cases c with
 | den a b ca cb d =>
  obtain ⟨as,ra⟩:=a.reads I r1
  obtain ⟨bs,rb⟩:=b.reads I r2
  exact fun E Q q=>SeqAt.eqAt_reads _ _ _ _ _ _ _ _ ra rb ca cb (by omega) X.prog X.w E Q q
 | @dic a b ka kb da db ne ha hb dda ddb =>
  obtain rfl:v'=Value.ref a:=r1
  obtain rfl:u'=Value.ref b:=r2
  obtain ⟨za,sa,va,kva,ga⟩:=ge I.hok ha
  obtain ⟨zb,sb,vb,kvb,gb⟩:=ge I.hok hb
  refine EqIn.refs ne fun E Q q=>?_
  refine PySem.W.keq_eq sa sb ga gb (by omega) (r:=iR db da) (fun _=>wC I (by show A.units+1+50<cLine; omega) kvb ddb kva dda) ?_
  rw [<- kva.length,<- kvb.length,dda.len,ddb.len]
  exact q
end
section
variable {X:Cx}
def rT2 (K:PySem.W.Frag) (f:Bool->Bool):R2:=fun x y H Q=>∃a b v1 v2 u1 u2 e1 e2,x=.ref a/\y=.ref b/\SqT K H a [v1,v2]/\SqT K H b [u1,u2]/\Cmp K H v1 u1 e1/\Cmp K H v2 u2 e2/\Q (.bl (f (e1&&e2))) H
theorem nW {k:Nat}(hr:Room k X.A):OpR X (compareOp .NotEq) (rT2 X.K not):=by
 intro pins s σ H x y v u Q I rx ry h
 obtain ⟨a,b,v1,v2,u1,u2,e1,e2,rfl,rfl,ha,hb,c1,c2,q⟩:=h
 obtain rfl:v=Value.ref a:=rx
 obtain rfl:u=Value.ref b:=ry
 obtain ⟨its,rv,p,hz⟩:=I.tuple ha
 obtain ⟨jts,rw',p',hz'⟩:=I.tuple hb
 obtain ⟨w1,w2,rfl,r1,r2⟩:=i9 rv
 obtain ⟨x1,x2,rfl,t1,t2⟩:=i9 rw'
 have hu:=hr.units
 exact zF p p' (by omega) (c1.at' I r1 t1 (by show X.A.units+1+60<cLine; omega)) (c2.at' I r2 t2 (by show X.A.units+1+60<cLine; omega)) ⟨.bl (!(e1&&e2)),H,I,rfl,q⟩
end
end L2
namespace L2
open PySem PySem.Spec PyProof.Rows
theorem oM {X:Cx}{k1 v1:Expr}{a1 b1:TE}{pos:Pos}(h1:QE X k1 a1) (g1:QE X v1 b1):QE X (.Dict [some k1] [v1] pos) (wY [(a1,b1)]):=⟨vG (rO h1.h g1.h vx) rfl rfl (by intro z; cases z) (by show 1<=15; decide)⟩
end L2
namespace L2
open PySem PySem.Spec PyProof.Rows PySem.W
section
variable {X:Cx}
def Itd (d:Addr) (ob:Obj) (kvs:List (Key×V)):It:=⟨fun i H=>H d=some (.frz ob (.dK kvs))/\i<kvs.length,fun i H x H'=>H'=H/\∃k v,kvs[i]?=some (k,v)/\x=kV k,fun i H=>H d=some (.frz ob (.dK kvs))/\kvs.length<=i⟩
def Bu (tl:TE):TI:=fun σ H R=>tl σ H fun x H1=>∃d kvs,x=.ref d/\Rd H1 d (.dK kvs)/\∀ob H2,H2 d=some (.frz ob (.dK kvs))->(∀b,b≠d->H2 b=H1 b)->R (Itd d ob kvs) H2
end
section
variable {X:Cx}
def A_ (X:Cx) (t:TE):TE:=fun σ H Q=>t σ H fun v H1=>∃d ob kvs,H1 d=some (.frz ob (.dK kvs))/\(∀o u,X.H₀ d≠some (.frz o u))/\Q v (upd H1 d (.dK kvs))
end
section
variable {X:Cx}
theorem zM {pins:List (Addr×Obj)}{σ:St}{H:Hp}{s:Shared}{d:Addr}{kvs:List (Key×V)}(I:Inv X pins σ H s) (h:Rd H d (.dK kvs)):ObjOk X.prog X.w H s.heap d (.dK kvs):=by
 rcases h with h | ⟨o,h⟩
 ·exact I.hok _ _ h
 ·exact (show ObjOk X.prog X.w H s.heap d (.frz o (.dK kvs)) from I.hok _ _ h).2
theorem cP:bN X (.type "dict") (fun xs H Q=>∃(a:Addr) (kvs:List (Key×V)),xs=[.ref a]/\Rd H a (.dK kvs)/\∀D,H D=none->Q (.ref D) (upd H D (.dK kvs))):=by
 intro pins s σ H xs us Q I r h
 obtain ⟨a,kvs,rfl,ha,q⟩:=h
 obtain ⟨u,rfl,ru⟩:=dY r
 cases ru
 obtain ⟨z,hs,vs,kv,hd⟩:=zM I ha
 refine PySem.kt_call_dict hs hd (by rw [<- kv.length]; exact z) fun h' hd' sb=>?_
 have kp:∀b o,s.heap.get? b=some o->h'.get? b=some o:=fun b o e=>(sb.2 b (Nat.ne_of_lt (Heap.lt_size e))).trans (Heap.get?_push_of_some _ e)
 have I1:Inv X pins σ H { s with heap:=h' }:=I.kept (t':=s.toks) kp
 have fa:=I.fpOk (Nat.le_refl _) (I.hok.fresh (Nat.le_refl s.heap.objs.size))
 have xa:X.s₀.heap.get? s.heap.objs.size=none:=Heap.get?_none_of_le I.sz
 have hsm:(s.heap.objs.size == sysModules)=false:=beq_eq_false_iff_ne.mpr (Nat.ne_of_gt I.big)
 have I2:=I1.trackV (o:=.dK kvs) fa xa ⟨z,hsm,vs,kv,hd'⟩
 exact ⟨.ref s.heap.objs.size,_,I2,rfl,q _ fa.1⟩
end
end L2
namespace K57
open PySem L2 G DT
open IT hiding It
theorem ol {x:Str}(h:bK x):(PyData.str x).canLay0=true:=by simpa [PyData.canLay0] using h
theorem oo (i:Int):(PyData.int i).canLay0=true:=by simp [PyData.canLay0]
theorem eK {x:Str}(h:PyData.strOk x=true:=by decide +kernel):(PyData.str x).canLay0=true:=by simpa [PyData.canLay0] using h
mutual
theorem z7 {T:Str->Int->Int->Prop}{G:Str->List IT.It->Prop}:∀{x:IT.It},hI T G x->(dI x).canLay0=true
 | .clip r f l,h=>by
  rw [hI] at h
  rw [dI,PyData.canLay0]
  simp only [PyData.canLayAll0,eK (x:="clip"),ol h.1,oo,Bool.and_self]
 | .times m xs,h=>by
  rw [hI] at h
  rw [dI,PyData.canLay0]
  have e:(PyData.tuple (dL xs)).canLay0=true:=by rw [PyData.canLay0]; exact iD h
  simp only [PyData.canLayAll0,eK (x:="times"),oo,e,Bool.and_self]
 | .back xs,h=>by
  rw [hI] at h
  rw [dI,PyData.canLay0]
  have e:(PyData.tuple (dL xs)).canLay0=true:=by rw [PyData.canLay0]; exact iD h
  simp only [PyData.canLayAll0,eK (x:="back"),e,Bool.and_self]
 | .part n _,h=>by
  rw [hI] at h
  rw [dI,PyData.canLay0]
  simp only [PyData.canLayAll0,eK (x:="part"),ol h.1,Bool.and_self]
 | .fade m,h=>by
  rw [dI,PyData.canLay0]
  simp only [PyData.canLayAll0,eK (x:="fade"),oo,Bool.and_self]
theorem iD {T:Str->Int->Int->Prop}{G:Str->List IT.It->Prop}:∀{xs:List IT.It},hL T G xs->PyData.canLayAll0 (dL xs)=true
 | [],_=>by rw [dL,PyData.canLayAll0]
 | x :: r,h=>by
  rw [hL] at h
  rw [dL,PyData.canLayAll0,z7 h.1,iD h.2]
  rfl
end
mutual
theorem Ak:∀x:IT.It,(dI x).depth<=2*dpI x+2
 | .clip _ _ _=>by rw [dI]; simp [PyData.depth,PyData.depthAll]
 | .times _ xs=>by have:=iO xs; rw [dI,dpI]; simp only [PyData.depth,PyData.depthAll]; omega
 | .back xs=>by have:=iO xs; rw [dI,dpI]; simp only [PyData.depth,PyData.depthAll]; omega
 | .part _ _=>by rw [dI]; simp [PyData.depth,PyData.depthAll]
 | .fade _=>by rw [dI]; simp [PyData.depth,PyData.depthAll]
theorem iO:∀xs:List IT.It,PyData.depthAll (dL xs)<=2*dpL xs+2
 | []=>by rw [dL]; simp [PyData.depthAll]
 | x :: r=>by have:=Ak x; have:=iO r; rw [dL,dpL,PyData.depthAll]; omega
end
def mL (ps:List Pt):List (Str×PyData):=ps.map fun x=>(x.1,.tuple (dL x.2.2))
theorem uw {K:PySem.W.Frag}{H:Hp}{T:Str->Int->Int->Prop}{G:Str->List IT.It->Prop}:∀{ps:List Pt},(∀x∈ps,Td H (.ref x.2.1) (.tuple (dL x.2.2))/\hL T G x.2.2/\dpL x.2.2<=6)->DD K H (bu ps) (mL ps)
 | [],_=>.nil
 | x :: r,h=>by
  obtain ⟨h1,h2,h3⟩:=h x (List.mem_cons_self ..)
  exact .cons h1.den (by rw [PyData.canLay0]; exact iD h2) (by rw [PyData.depth]; have:=iO x.2.2; omega) (uw fun y hy=>h y (List.mem_cons_of_mem _ hy))
theorem oj:∀{ds:List (Str×PyData)}{k:Str}{d:PyData},(ds.map (·.1)).Nodup->(k,d)∈ds->ds.lookup k=some d
 | (k',d') :: r,k,d,nd,h=>by
  rw [List.map_cons,List.nodup_cons] at nd
  rcases List.mem_cons.mp h with e | e
  ·cases e
   rw [List.lookup_cons,beq_self_eq_true]
  ·have ne:k≠k':=by
    rintro rfl
    exact nd.1 (List.mem_map.mpr ⟨(k,d),e,rfl⟩)
   rw [List.lookup_cons,beq_eq_false_iff_ne.mpr ne]
   exact oj nd.2 e
theorem jk {db:List (Str×PyData)}(nd:(db.map (·.1)).Nodup) (lay:∀x∈db,x.2.canLay0=true):∀{da:List (Str×PyData)},(∀x∈da,x∈db)->iR db da=true
 | [],_=>rfl
 | (k,d) :: r,h=>by
  have hm:=h (k,d) (List.mem_cons_self ..)
  rw [iR,oj nd hm]
  dsimp only
  rw [PySem.SeqAt.eqv_refl _ (lay _ hm),Bool.true_and]
  exact jk nd lay fun x hx=>h x (List.mem_cons_of_mem _ hx)
theorem ux {ds:List (Str×PyData)}(nd:(ds.map (·.1)).Nodup) (lay:∀x∈ds,x.2.canLay0=true):dEq ds ds=true:=by
 unfold dEq
 rw [beq_self_eq_true,Bool.true_and]
 exact jk nd lay fun _ h=>h
def dR (r:Reel):PyData:=.tuple [.str r.name,.str r.letters,.int r.start,.int r.many]
theorem kB {H:Hp}:∀{prs:List (Addr×Reel)},(∀x∈prs,H x.1=some (.tup x.2.vs))->Tds H (prs.map fun x=>V.ref x.1) (prs.map fun x=>dR x.2)
 | [],_=>.nil
 | x :: r,h=>.cons (.tup (h x (List.mem_cons_self ..)) (.cons (.str _) (.cons (.str _) (.cons (.int _) (.cons (.int _) .nil))))) (kB fun y hy=>h y (List.mem_cons_of_mem _ hy))
theorem jh:∀{prs:List (Addr×Reel)},(∀x∈prs,ROk x.2)->PyData.canLayAll0 (prs.map fun x=>dR x.2)=true
 | [],_=>rfl
 | x :: r,h=>by
  have hx:=h x (List.mem_cons_self ..)
  have e:(dR x.2).canLay0=true:=by
   unfold dR
   rw [PyData.canLay0]
   simp only [PyData.canLayAll0,ol hx.nf,ol hx.lf,oo,Bool.and_self]
  rw [List.map_cons,PyData.canLayAll0,e,jh fun y hy=>h y (List.mem_cons_of_mem _ hy)]
  rfl
theorem jp:∀prs:List (Addr×Reel),PyData.depthAll (prs.map fun x=>dR x.2)<=5
 | []=>by simp [PyData.depthAll]
 | x :: r=>by
  have:=jp r
  rw [List.map_cons,PyData.depthAll]
  simp only [dR,PyData.depth,PyData.depthAll] at this ⊢
  omega
theorem qC {K:PySem.W.Frag}{H:Hp}{a b:Addr}{prs:List (Addr×Reel)}(ha:RL H a prs) (hb:RL H b prs):Cmp K H (.ref a) (.ref b) true:=by
 have l:(PyData.list (prs.map fun x=>dR x.2)).canLay0=true:=by rw [PyData.canLay0]; exact jh fun x hx=>(ha.2 x hx).2
 have d:∀c,RL H c prs->Den K H (.ref c) (.list (prs.map fun x=>dR x.2)):=fun c hc=>.lst (SqL.of hc.1) (kB fun x hx=>(hc.2 x hx).1).den
 have z:Cmp K H (.ref a) (.ref b) (PyData.eqv (.list (prs.map fun x=>dR x.2)) (.list (prs.map fun x=>dR x.2))):=.den (d a ha) (d b hb) l l (Nat.le_trans (Nat.min_le_left _ _) (by rw [PyData.depth]; have:=jp prs; omega))
 rw [PySem.SeqAt.eqv_refl _ l] at z
 exact z
theorem mD {T:Str->Int->Int->Prop}{G:Str->List IT.It->Prop}{xs:List IT.It}(h:hL T G xs):(PyData.tuple (dL xs)).canLay0=true:=by rw [PyData.canLay0]; exact iD h
theorem y9 {xs:List IT.It}(h:dpL xs<=6):(PyData.tuple (dL xs)).depth<=20:=by rw [PyData.depth]; have:=iO xs; omega
theorem uF {K:PySem.W.Frag}{H:Hp}{T:Str->Int->Int->Prop}{G:Str->List IT.It->Prop}{a b:Addr}{xs:List IT.It}(h:hL T G xs) (d:dpL xs<=6) (ha:Td H (.ref a) (.tuple (dL xs))) (hb:Td H (.ref b) (.tuple (dL xs))):Cmp K H (.ref a) (.ref b) true:=by
 have l:=mD h
 have z:Cmp K H (.ref a) (.ref b) (PyData.eqv (.tuple (dL xs)) (.tuple (dL xs))):=.den ha.den hb.den l l (Nat.le_trans (Nat.min_le_left _ _) (Nat.le_trans (y9 d) (by decide)))
 rw [PySem.SeqAt.eqv_refl _ l] at z
 exact z
theorem lM {K:PySem.W.Frag}{H:Hp}{T:Str->Int->Int->Prop}{G:Str->List IT.It->Prop}{a b c d:Addr}{n:Str}{ys:List IT.It}(h:hL T G ys) (dp:dpL ys<=6) (ne:a≠b) (ha:Rd H a (.dK [(.inr n,.ref c)])) (hb:Rd H b (.dK [(.inr n,.ref d)])) (hc:Td H (.ref c) (.tuple (dL ys))) (hd:Td H (.ref d) (.tuple (dL ys))):Cmp K H (.ref a) (.ref b) true:=by
 have q1:DD K H (bu [(n,c,ys)]) (mL [(n,c,ys)]):=uw (T:=T) (G:=G) fun x hx=>by rw [List.mem_singleton.mp hx]; exact ⟨hc,h,dp⟩
 have q2:DD K H (bu [(n,d,ys)]) (mL [(n,d,ys)]):=uw (T:=T) (G:=G) fun x hx=>by rw [List.mem_singleton.mp hx]; exact ⟨hd,h,dp⟩
 have z:Cmp K H (.ref a) (.ref b) (dEq (mL [(n,c,ys)]) (mL [(n,c,ys)])):=.dic ne ha hb q1 q2
 rw [ux (by unfold mL; simp) (fun y hy=>by
  unfold mL at hy
  obtain ⟨x,hx,rfl⟩:=List.mem_map.mp hy
  rw [List.mem_singleton.mp hx]
  exact mD h)] at z
 exact z
def toA (c:Cl):Cl:=⟨"a",c.f,c.l,c.d⟩
theorem mI:∀{A:List Cl},Ft A->Ft (A.map toA)
 | [],_=>trivial
 | [c],h=>h
 | c :: e :: A,h=>⟨h.1,mI (A:=e :: A) h.2⟩
theorem ua {A:List Cl}(h:H0' A):H0' (A.map toA):=fun c hc=>by
 rw [List.head?_map] at hc
 cases e:A.head? with
 | none=>rw [e] at hc; cases hc
 | some x=>rw [e] at hc; cases hc; exact h x e
theorem uU {cs:List Cl}{A B:List IT.It}(lc:Lcs cs) (e:mkL (cs.map toA)=A++B) (hA:A≠[]) (hB:B≠[]) (h1:∀x,A.getLast?=some x->isF x=false) (h2:∀x,B.head?=some x->isF x=false) :
  ∃fs bs,Shp [.times 2 [.part "q" A],.back B] A fs bs/\∀c∈bs,∃x∈cs,c=toA x:=by
 obtain ⟨p,q,e1,rfl,rfl⟩:=gy e h1
 have pn:p≠[]:=fun z=>hA (by rw [z]; rfl)
 have qn:q≠[]:=fun z=>hB (by rw [z]; rfl)
 have ft:=mI lc.ft
 have h0:=ua lc.h0
 have hl:(cs.map toA).length<=20:=by rw [List.length_map]; exact lc.len
 have mem:∀c∈p++q,∃x∈cs,c=toA x:=fun c hc=>by
  rw [<- e1] at hc
  obtain ⟨x,hx,rfl⟩:=List.mem_map.mp hc
  exact ⟨x,hx,rfl⟩
 rw [e1] at ft h0 hl
 rw [List.length_append] at hl
 have d0:∀c∈q,0<=c.d:=fun c hc=>by
  obtain ⟨x,hx,rfl⟩:=mem c (List.mem_append_right _ hc)
  exact (lc.ok x hx).d0
 refine ⟨_,_,.cut p q pn qn (fun c hc=>h0 c ?_) (fun c hc=>?_) (ft.left d0) ft.right (by omega) (by omega),mem⟩
 ·cases p with
  | nil=>exact absurd rfl pn
  | cons x r=>exact hc
 ·cases q with
  | nil=>exact absurd rfl qn
  | cons x r =>
   cases hc
   have z:=d0 c List.mem_cons_self
   by_cases y:0<c.d
   ·have:=h2 (.fade c.d) (by rw [a_]; unfold mkC; rw [if_pos y]; rfl)
    cases this
   ·omega
theorem pE {cs:List Cl}(lc:Lcs cs) (hn:cs≠[]):Shp (mkL (cs.map toA)) (mkL [⟨"a",1,1,0⟩]) (cs.map toA) (⟨"a",1,1,0⟩ :: cs.map toA):=.plain _ ⟨"a",1,1,0⟩ rfl (gx hn) (ua lc.h0) (mI lc.ft) (by rw [List.length_map]; exact lc.len)
theorem wE:∀(k:Nat) (xs:List IT.It),(dL xs).take k=dL (xs.take k)
 | k,xs=>by rw [bo,bo,List.map_take]
theorem wF:∀(k:Nat) (xs:List IT.It),(dL xs).drop k=dL (xs.drop k)
 | k,xs=>by rw [bo,bo,List.map_drop]
theorem uy (vs:List V) (k:Nat):bD vs none (some (k:Int))=vs.take k:=by
 unfold bD
 rw [HT.sIx_nat,HT.sIx_none,List.drop_zero,Nat.sub_zero,List.take_eq_take_min (i:=k),Nat.min_comm]
theorem Tds.take {H:Hp}:∀{vs:List V}{ds:List PyData}(k:Nat),Tds H vs ds->Tds H (vs.take k) (ds.take k)
 | _,_,0,_=>by rw [List.take_zero,List.take_zero]; exact .nil
 | _,_,k+1,.nil=>by rw [List.take_nil,List.take_nil]; exact .nil
 | _,_,k+1,.cons h t=>.cons h (Tds.take k t)
theorem Tds.drop {H:Hp}:∀{vs:List V}{ds:List PyData}(k:Nat),Tds H vs ds->Tds H (vs.drop k) (ds.drop k)
 | _,_,0,h=>h
 | _,_,k+1,.nil=>by rw [List.drop_nil,List.drop_nil]; exact .nil
 | _,_,k+1,.cons h t=>Tds.drop k t
section
variable {P:Program}{w:World}{K:PySem.W.Frag}{mg:Str->Option Value}{base:Heap}
def l8:Sp:=fun vs H Q _=>∃(l:Addr) (k:Int) (cs:List Cl),vs=[.ref l,.int k]/\CL H l cs/\Lcs cs/\cs≠[] /\
 ∀(q a d b:Addr) (xs ys:List IT.It) (fs bs:List Cl) (H':Hp),Same H H'->H d=none->H' q=some (.tup [.ref a,.ref d])->H' d=some (.dK [(.inr "q",.ref b)])->Td H' (.ref a) (.tuple (dL xs))->Td H' (.ref b) (.tuple (dL ys))->Shp xs ys fs bs->(∀c∈bs,c.r="a"/\Lc c)->Q (.ref q) H'
theorem tJ {c:Cl}(h:Lc c):(toA c).r="a"/\Lc (toA c):=⟨rfl,h.f0,h.f1,h.l0,h.l1,h.d0,h.m⟩
theorem tz (cs:List Cl) {A:List IT.It}(h:∀x∈A,x∈mkL (cs.map toA)):(PyData.tuple (dL A)).canLay0=true:=by
 refine mD (T:=fun _ _ _=>True) (G:=fun _ _=>True) ?_
 induction A with
 | nil=>rw [hL]; trivial
 | cons x r ih =>
  rw [hL]
  refine ⟨?_,ih fun y hy=>h y (List.mem_cons_of_mem _ hy)⟩
  obtain ⟨c,hc,e | ⟨e,e'⟩⟩:=oh (h x List.mem_cons_self)
  ·obtain ⟨y,_,rfl⟩:=List.mem_map.mp hc
   rw [e,hI]
   exact ⟨by show bK "a"; decide +kernel,trivial⟩
  ·rw [e,hI]
   omega
theorem j5 {b:Bool}{A:Hp->Prop}{B T:Prop}{H0 H:Hp}(hA:∀G,Same H0 G->A G) (s:Same H0 H) (hT:b=false->(∀G,Same H0 G->A G)->T):if b=true then (if true=true then A H else B) else T:=by
 cases b with
 | true=>exact cX (cX (hA H s))
 | false=>exact bQ (hT rfl hA)
theorem mY (ds:List PyData):PyData.eqv (.tuple ds) (.tuple [])=decide (ds=[]):=by cases ds <;> rfl
theorem qQ {H:Hp}{vs:List V}{xs:List IT.It}(h:Tds H vs (dL xs)) (hn:xs≠[]):∃a ws x,atI vs (-1)=some (.ref a)/\H a=some (.tup (.str (kd x) :: ws))/\xs.getLast?=some x:=by
 obtain ⟨A,x,rfl⟩:∃A x,xs=A++[x]:=⟨_,_,(List.dropLast_concat_getLast hn).symm⟩
 have hl:vs.length=A.length+1:=by rw [h.len,bo,List.length_map,List.length_append]; rfl
 have hk:vs[A.length]?=some (vs[A.length]'(by omega)):=List.getElem?_eq_getElem _
 obtain ⟨d,hd,tv⟩:=h.get hk
 rw [bo,List.getElem?_map,List.getElem?_append_right (Nat.le_refl _),Nat.sub_self] at hd
 cases hd
 obtain ⟨a,ws,ea,ha⟩:=m_ tv
 refine ⟨a,ws,x,?_,ha,by rw [List.getLast?_concat]⟩
 have e:vs=vs.take A.length++[vs[A.length]'(by omega)]:=by
  rw [<- bh hk,List.take_of_length_le]
  omega
 rw [e,ea]
 exact iV _ _
theorem qR {H:Hp}{vs:List V}{xs:List IT.It}(h:Tds H vs (dL xs)) (hn:xs≠[]):∃a ws x,vs[0]?=some (.ref a)/\H a=some (.tup (.str (kd x) :: ws))/\xs.head?=some x:=by
 cases xs with
 | nil=>exact absurd rfl hn
 | cons x r =>
  rw [dL] at h
  cases h with
  | cons t _ =>
   obtain ⟨a,ws,rfl,ha⟩:=m_ t
   exact ⟨a,ws,x,rfl,ha,rfl⟩
theorem scList:aq ["_law_clips_here", "_law_cell_here", "_law_found", "_law_reel", "_law_first", "_law_last", "_law_fade", "_law_cut", "_law_head", "_law_rest"] ["_law_clips_here", "_law_cell_here"] (ak eD):=⟨rfl,rfl,rfl,by decide +kernel,rfl,by decide +kernel,by decide +kernel⟩
theorem vS {f:Addr}{fd:FuncData}(F:Fun K "_law_list" "_law_list" eD f fd) (n_len:mg "len"=none) (n_tuple:mg "tuple"=none):aG P w K mg base CX0 1 f fd ["_law_clips_here", "_law_cell_here"] l8:=by
 refine F.ok scList (fun vs H Q E h=>?_) (fun cdv A outer s H vs Q E hr h=>?_)
 ·obtain ⟨l,k,cs,rfl,_⟩:=h
  rfl
 obtain ⟨l,k,cs,rfl,cl,lc,hne,q⟩:=h
 refine aW (ag (aw (i:=2) scList.nd (ba af))
  (ag (bM PassesOwn.never rfl (bB (e_v 0)) (f8 rfl (aS (aM (i:=3) scList.nd) (aS (aM (i:=4) scList.nd) (aS (aM (i:=5) scList.nd) (aS (aM (i:=6) scList.nd) dP)))))
   (ag (eZ (bc (aN kN (e_v 6) ae)
    (aj (aP (bg (e_v 2) (aX (aa aF (aa (e_v 6) af))))))
    aL))
   (aj (aP (bg (e_v 2) (aX (aa aF (aa aF (aa (e_v 4) (aa (e_v 5) af))))))))))
  (ag (aw (i:=7) scList.nd (az bj (e_v 1) (az aR (e_b aT n_len PySem.boot_len (aa (e_v 2) af)) ae)))
  (ag (aw (i:=8) scList.nd (e_t bU n_tuple (by decide +kernel) (aa (gM dr (e_v 2) cW (bG (e_v 7))) af)))
  (ag (aw (i:=9) scList.nd (e_t bU n_tuple (by decide +kernel) (aa (gM dr (e_v 2) (bG (e_v 7)) cW) af)))
  (ag (bc (t_w (iX (aN (io hr) (e_v 8) (aX af)) (iX (aN (io hr) (e_v 9) (aX af)) (iX (aN be (ar am (ar am (e_v 8) (eW bv ae)) ae) aF) (gB (aN be (ar am (ar am (e_v 9) ae) ae) aF))))))
   (aj (aB (aX (aa (e_t bU n_tuple (by decide +kernel) (aa (e_v 2) af)) (aa (oM aF (aX (aa (aX (aa aF (aa aF (aa ae (aa ae af))))) af))) af)))))
   aL)
  (aj (aB (aX (aa (aX (aa (aX (aa aF (aa ae (aa (aX (aa (aX (aa aF (aa aF af))) af)) af)))) (aa (aX (aa aF (aa (e_v 9) af))) af))) (aa (oM aF (e_v 8)) af))))))))))) ?_
 have zl:sizeLine=16777216:=sizeLine_eq
 obtain ⟨us,hus,tus⟩:=id cl
 have lu:us.length=cs.length:=by rw [tus.len,List.length_map]
 have l20:=lc.len
 refine ⟨(by show 0<=sizeLine; decide),fun pf hpf=>?_⟩
 have s0:=Same.new hpf (.lst [])
 refine ⟨_,rfl,l,rfl,⟨_,SqL.of (s0 _ _ hus)⟩,cK (K:=K) (a:=l) (xs:=us) (fun i σ H'=>∃(fs:List V) (o3 o4 o5 o6:Option V),σ=[some (.ref l),some (.int k),some (.ref pf),o3,o4,o5,o6,none,none,none]/\H' pf=some (.lst fs)/\Tds H' fs (dL (mkL ((cs.take i).map toA)))/\fs.length<=2*i/\Same H H')
  ⟨[],none,none,none,none,rfl,ac,(by rw [List.take_zero]; show Tds _ [] (dL []); rw [dL]; exact .nil),by decide,s0⟩ (fun i σ H' _ ⟨_,_,_,_,_,_,_,_,_,sm⟩=>SqL.of (sm _ _ hus)) ?_ ?_⟩
 ·rintro i v σ H' hv ⟨fs,o3,o4,o5,o6,rfl,hfs,tfs,hlen,sm⟩
  have hi:i<us.length:=(List.getElem?_eq_some_iff.mp hv).1
  obtain ⟨dd,hd,tv⟩:=(tus.tk (TK.of sm)).get hv
  obtain ⟨c,hc,rfl⟩:=gg hd
  obtain ⟨t,rfl,ht⟩:=eY tv
  refine ⟨t,_,rfl,SqT.of ht,rfl,_,_,rfl,_,_,rfl,_,_,rfl,_,_,rfl,rfl,?_⟩
  refine ⟨fun σ' H1=>∃gs:List V,σ'=[some (.ref l),some (.int k),some (.ref pf),some (.str c.r),some (.int c.f),some (.int c.l),some (.int c.d),none,none,none]/\H1 pf=some (.lst gs)/\Tds H1 gs (dL (mkL ((cs.take i).map toA)++(if 0<c.d then [.fade c.d] else [])))/\gs.length<=2*i+1/\Same H H1,?_,?_⟩
  ·refine ⟨_,rfl,_,_,rfl,rfl,_,rfl,cY (fun y=>?_) (fun y=>?_)⟩
   ·have y:0<c.d:=of_decide_eq_true y
    refine ⟨_,rfl,.inl ⟨rfl,_,SqL.of hfs⟩,_,rfl,(by show 2<=sizeLine; decide),fun p1 hp1=>?_⟩
    have t1:=Same.new hp1 (.tup [.str "fade",.int c.d])
    refine ⟨pf,_,_,rfl,rfl,t1 _ _ hfs,by omega,fs++[.ref p1],rfl,ac,?_,?_,fun b ob hb=>?_⟩
    ·rw [if_pos y,mO,show dL [IT.It.fade c.d]=[dI (.fade c.d)] by rw [dL,dL]]
     exact ((tfs.tk (TK.of t1)).app (Tds.one (v6 ac))).tk (TK.lst (t1 _ _ hfs))
    ·rw [List.length_append,List.length_singleton]; omega
    ·rw [ah (ap hb hpf)]
     exact t1 _ _ (sm _ _ hb)
   ·have y:¬ 0<c.d:=fun z=>y (decide_eq_true z)
    exact ⟨fs,rfl,hfs,by rw [if_neg y,List.append_nil]; exact tfs,by omega,sm⟩
  rintro σ H1 ⟨gs,rfl,hgs,tgs,hgl,s1⟩
  refine ⟨_,rfl,.inl ⟨rfl,_,SqL.of hgs⟩,_,rfl,_,rfl,(by show 4<=sizeLine; decide),fun p2 hp2=>?_⟩
  have t2:=Same.new hp2 (.tup [.str "clip",.str "a",.int c.f,.int c.l])
  refine ⟨pf,_,_,rfl,rfl,t2 _ _ hgs,by omega,gs++[.ref p2],_,_,_,_,rfl,ac,?_,?_,fun b ob hb=>?_⟩
  ·have e:mkL ((cs.take (i+1)).map toA)=(mkL ((cs.take i).map toA)++(if 0<c.d then [.fade c.d] else []))++[.clip "a" c.f c.l]:=by
    rw [bh hc,List.map_append,v7,List.append_assoc]
    congr 1
    show mkL [toA c]=_
    rw [a_]
    unfold mkC
    show (if 0<c.d then _ else _)++[]=(if 0<c.d then _ else _)++_
    split <;> rfl
   rw [e,mO,show dL [IT.It.clip "a" c.f c.l]=[dI (.clip "a" c.f c.l)] by rw [dL,dL]]
   exact ((tgs.tk (TK.of t2)).app (Tds.one (j9 ac))).tk (TK.lst (t2 _ _ hgs))
  ·rw [List.length_append,List.length_singleton]; omega
  ·rw [ah (ap hb hpf)]
   exact t2 _ _ (s1 _ _ hb)
 ·rintro σ H' ⟨fs,o3,o4,o5,o6,rfl,hfs,tfs,hlen,sm⟩
  rw [lu,List.take_length] at tfs
  have lfs:fs.length=(mkL (cs.map toA)).length:=by rw [tfs.len,bo,List.length_map]
  obtain ⟨n,hn,hnl⟩:∃n:Nat,k % ((fs.length:Int)+1)=(n:Int)/\n<=fs.length:=by
   have a1:=Int.emod_nonneg k (show ((fs.length:Int)+1)≠0 by omega)
   have a2:=Int.emod_lt_of_pos k (show 0<(fs.length:Int)+1 by omega)
   exact ⟨(k % ((fs.length:Int)+1)).toNat,by omega,by omega⟩
  refine ⟨_,rfl,_,rfl,pf,_,rfl,.inl (SqL.of hfs),_,_,rfl,rfl,_,_,rfl,rfl,(by show (0:Int)<(fs.length:Int)+1; omega),?_⟩
  have e1:bD fs none (some (k % ((fs.length:Int)+1)))=fs.take n:=by rw [hn]; exact uy fs n
  have e2:bD fs (some (k % ((fs.length:Int)+1))) none=fs.drop n:=by rw [hn]; exact lK fs n
  refine ⟨_,rfl,_,rfl,_,rfl,pf,_,rfl,SqL.of hfs,fun p1 hp1=>?_⟩
  rw [e1]
  have t1:=Same.new hp1 (.lst (fs.take n))
  refine ⟨p1,_,rfl,.inl ⟨SqL.of ac,fun p2 hp2=>?_⟩⟩
  have t2:=t1.trans (Same.new hp2 (.tup (fs.take n)))
  have h2:=ac (H:=upd H' p1 (.lst (fs.take n))) (a:=p2) (o:=.tup (fs.take n))
  generalize upd (upd H' p1 (.lst (fs.take n))) p2 (.tup (fs.take n))=H2 at t2 h2 ⊢
  refine ⟨_,rfl,_,rfl,_,rfl,pf,_,rfl,SqL.of (t2 _ _ hfs),fun p3 hp3=>?_⟩
  rw [e2]
  have t3:=Same.new hp3 (.lst (fs.drop n))
  refine ⟨p3,_,rfl,.inl ⟨SqL.of ac,fun p4 hp4=>?_⟩⟩
  have t4:=t3.trans (Same.new hp4 (.tup (fs.drop n)))
  have h4:=ac (H:=upd H2 p3 (.lst (fs.drop n))) (a:=p4) (o:=.tup (fs.drop n))
  have h24:=t4 _ _ h2
  have hf4:=t4 _ _ (t2 _ _ hfs)
  have S4:=sm.trans (t2.trans t4)
  have tfs:=tfs.tk (TK.of (t2.trans t4))
  generalize upd (upd H2 p3 (.lst (fs.drop n))) p4 (.tup (fs.drop n))=H4 at t4 h4 h24 hf4 S4 tfs ⊢
  have tA:Tds H4 (fs.take n) (dL ((mkL (cs.map toA)).take n)):=by rw [<- wE]; exact Tds.take n tfs
  have tB:Tds H4 (fs.drop n) (dL ((mkL (cs.map toA)).drop n)):=by rw [<- wF]; exact Tds.drop n tfs
  have eAB:mkL (cs.map toA)=(mkL (cs.map toA)).take n++(mkL (cs.map toA)).drop n:=(List.take_append_drop n _).symm
  have lA:=tz cs (A:=(mkL (cs.map toA)).take n) fun x hx=>List.mem_of_mem_take hx
  have lB:=tz cs (A:=(mkL (cs.map toA)).drop n) fun x hx=>List.mem_of_mem_drop hx
  have nd:∀(A:List IT.It),decide (dL A=[])=false->A≠[]:=fun A h z=>by
   subst z
   have:=of_decide_eq_false h
   exact this (by rw [dL])
  refine ⟨_,rfl,(by show 0<=sizeLine; decide),fun p5 hp5=>?_⟩
  have t5:=Same.new hp5 (.tup [])
  have h5:=ac (H:=H4) (a:=p5) (o:=.tup [])
  generalize upd H4 p5 (.tup [])=H5 at t5 h5 ⊢
  refine ⟨_,_,.tup (SqT.of (t5 _ _ h24)) (tA.tk (TK.of t5)).den,.tup (SqT.of h5) .nil,lA,rfl,Nat.le_trans (Nat.min_le_right _ _) (by decide),_,rfl,j5 (H0:=H4) ?pl t5 fun c1 hpl=>?t1⟩
  case pl =>
   intro G sG
   refine ⟨_,rfl,pf,_,rfl,.inl ⟨SqL.of (sG _ _ hf4),fun p6 hp6=>fun pd hpd=>?_⟩⟩
   have t6:=sG.trans (Same.new hp6 (.tup fs))
   have h6:=ac (H:=G) (a:=p6) (o:=.tup fs)
   generalize upd G p6 (.tup fs)=G6 at t6 h6 hpd ⊢
   have t7:=Same.new hpd (.dK [])
   refine ⟨(by show 4<=sizeLine; decide),fun p7 hp7=>⟨(by show 1<=sizeLine; decide),fun p8 hp8=>?_⟩⟩
   have t8:=Same.new hp7 (.tup [.str "clip",.str "a",.int 1,.int 1])
   have t9:=Same.new hp8 (.tup [.ref p7])
   have hpd9:=t9 _ _ (t8 _ _ (ac (H:=G6) (a:=pd) (o:=.dK [])))
   refine ⟨hpd9,[(.inr "q",.ref p8)],rfl,by show 1<=15; decide,(by show 2<=sizeLine; decide),fun p9 hp9=>?_⟩
   have T9:=(t7.trans t8).trans t9
   have tc:Td (upd (upd (upd G6 pd (.dK [])) p7 (.tup [.str "clip",.str "a",.int 1,.int 1])) p8 (.tup [.ref p7])) (.ref p8) (.tuple (dL (mkL [⟨"a",1,1,0⟩]))):=by
    have e:dL (mkL [(⟨"a",1,1,0⟩:Cl)])=[dI (.clip "a" 1 1)]:=by
     rw [a_]
     unfold mkC
     rw [if_neg (by decide)]
     show dL [IT.It.clip "a" 1 1]=_
     rw [dL,dL]
    rw [e]
    exact .tup ac (Tds.one ((j9 ac).tk (TK.of t9)))
   generalize upd (upd (upd G6 pd (.dK [])) p7 (.tup [.str "clip",.str "a",.int 1,.int 1])) p8 (.tup [.ref p7])=G9 at T9 hpd9 tc hp9 ⊢
   have tk9:TK G9 (upd G9 pd (.dK (fG [] [(.inr "q",.ref p8)]))):=TK.dk hpd9
   have t10:=Same.new hp9 (.tup [.ref p6,.ref pd])
   have pdn:H pd=none:=(S4.trans t6).free hpd
   refine q p9 p6 pd p8 (mkL (cs.map toA)) (mkL [⟨"a",1,1,0⟩]) (cs.map toA) (⟨"a",1,1,0⟩ :: cs.map toA) _ (fun b ob hb=>t10 _ _ ?_) pdn ac (t10 _ _ ac) ?_ ((tc.tk tk9).tk (TK.of t10)) (pE lc hne) fun c hc=>?_
   ·rw [ah (ap hb pdn)]
    exact T9 _ _ (t6 _ _ (S4 _ _ hb))
   ·exact (((Td.tup h6 (tfs.tk (TK.of t6))).tk (TK.of T9)).tk tk9).tk (TK.of t10)
   ·rcases List.mem_cons.mp hc with rfl | hc
    ·exact ⟨rfl,by decide,by decide,by decide,by decide,by decide,by decide⟩
    ·obtain ⟨x,hx,rfl⟩:=List.mem_map.mp hc
     exact tJ (lc.ok x hx)
  rw [mY] at c1
  have hA:=nd _ c1
  refine ⟨_,rfl,(by show 0<=sizeLine; decide),fun p6 hp6=>?_⟩
  have t6:=t5.trans (Same.new hp6 (.tup []))
  have h6:=ac (H:=H5) (a:=p6) (o:=.tup [])
  generalize upd H5 p6 (.tup [])=H6 at t6 h6 ⊢
  refine ⟨_,_,.tup (SqT.of (t6 _ _ h4)) (tB.tk (TK.of t6)).den,.tup (SqT.of h6) .nil,lB,rfl,Nat.le_trans (Nat.min_le_right _ _) (by decide),_,rfl,j5 (H0:=H4) hpl t6 fun c2 hpl=>?_⟩
  rw [mY] at c2
  have hB:=nd _ c2
  obtain ⟨la,lw,lx,l1,l2,l3⟩:=qQ (tA.tk (TK.of t6)) hA
  obtain ⟨fa,fw,fx,f1,f2,f3⟩:=qR (tB.tk (TK.of t6)) hB
  refine ⟨_,rfl,_,rfl,p2,_,_,.ref la,rfl,rfl,SqT.of (t6 _ _ h24),l1,la,_,_,.str (kd lx),rfl,rfl,SqT.of l2,ad (j:=0) rfl,rfl,_,rfl,j5 (H0:=H4) hpl t6 fun c3 hpl=>?_⟩
  rw [gW] at c3
  refine ⟨_,rfl,p4,_,_,.ref fa,rfl,rfl,SqT.of (t6 _ _ h4),ad (j:=0) f1,fa,_,_,.str (kd fx),rfl,rfl,SqT.of f2,ad (j:=0) rfl,rfl,_,rfl,cY (fun _=>hpl H6 t6) fun c4=>?_⟩
  have c4:isF fx=false:=by
   rw [<- gW]
   exact Bool.eq_false_iff.mpr c4
  obtain ⟨gs,bs,shp,hbs⟩:=uU lc eAB hA hB (fun x hx=>by rw [l3] at hx; cases hx; exact c3) (fun x hx=>by rw [f3] at hx; cases hx; exact c4)
  refine ⟨(by show 2<=sizeLine; decide),fun q1 hq1=>⟨(by show 1<=sizeLine; decide),fun q2 hq2=>⟨(by show 3<=sizeLine; decide),fun q3 hq3=>⟨_,rfl,(by show 2<=sizeLine; decide),fun q4 hq4=>⟨(by show 2<=sizeLine; decide),fun q5 hq5=>fun pd hpd=>?_⟩⟩⟩⟩⟩
  have u1:=Same.new hq1 (.tup [.str "part",.str "q"])
  have u2:=Same.new hq2 (.tup [.ref q1])
  have u3:=Same.new hq3 (.tup [.str "times",.int 2,.ref q2])
  have u4:=Same.new hq4 (.tup [.str "back",.ref p4])
  have u5:=Same.new hq5 (.tup [.ref q3,.ref q4])
  have U5:=t6.trans ((((u1.trans u2).trans u3).trans u4).trans u5)
  have tds:Td (upd (upd (upd (upd (upd H6 q1 (.tup [.str "part",.str "q"])) q2 (.tup [.ref q1])) q3 (.tup [.str "times",.int 2,.ref q2])) q4 (.tup [.str "back",.ref p4])) q5 (.tup [.ref q3,.ref q4])) (.ref q5) (.tuple (dL [.times 2 [.part "q" ((mkL (cs.map toA)).take n)],.back ((mkL (cs.map toA)).drop n)])):=by
   have b1:Td _ (.ref q3) (dI (.times 2 [.part "q" ((mkL (cs.map toA)).take n)])):=kU (ac (H:=upd (upd H6 q1 (.tup [.str "part",.str "q"])) q2 (.tup [.ref q1])) (a:=q3) (o:=.tup [.str "times",.int 2,.ref q2])) (by
    rw [show dL [IT.It.part "q" ((mkL (cs.map toA)).take n)]=[dI (.part "q" ((mkL (cs.map toA)).take n))] by rw [dL,dL]]
    exact (Td.tup ac (Tds.one ((v5 ac).tk (TK.of u2)))).tk (TK.of u3))
   have b2:Td _ (.ref q4) (dI (.back ((mkL (cs.map toA)).drop n))):=n_ (ac (H:=upd (upd (upd H6 q1 (.tup [.str "part",.str "q"])) q2 (.tup [.ref q1])) q3 (.tup [.str "times",.int 2,.ref q2])) (a:=q4) (o:=.tup [.str "back",.ref p4])) ((Td.tup h4 tB).tk (TK.of (t6.trans (((u1.trans u2).trans u3).trans u4))))
   rw [show dL [IT.It.times 2 [.part "q" ((mkL (cs.map toA)).take n)],.back ((mkL (cs.map toA)).drop n)]=[dI (.times 2 [.part "q" ((mkL (cs.map toA)).take n)]),dI (.back ((mkL (cs.map toA)).drop n))] by rw [dL,dL,dL]]
   exact .tup ac (.cons ((b1.tk (TK.of u4)).tk (TK.of u5)) (.cons (b2.tk (TK.of u5)) .nil))
  generalize upd (upd (upd (upd (upd H6 q1 (.tup [.str "part",.str "q"])) q2 (.tup [.ref q1])) q3 (.tup [.str "times",.int 2,.ref q2])) q4 (.tup [.str "back",.ref p4])) q5 (.tup [.ref q3,.ref q4])=G at U5 tds hpd ⊢
  refine ⟨_,rfl,ac,[(.inr "q",.ref p2)],rfl,by show 1<=15; decide,(by show 2<=sizeLine; decide),fun p9 hp9=>?_⟩
  have v1:=Same.new hpd (.dK [])
  have tk9:TK G (upd (upd G pd (.dK [])) pd (.dK (fG [] [(.inr "q",.ref p2)]))):=(TK.of v1).trans (TK.dk ac)
  have t10:=Same.new hp9 (.tup [.ref q5,.ref pd])
  have pdn:H pd=none:=(S4.trans U5).free hpd
  refine q p9 q5 pd p2 _ _ gs bs _ (fun b ob hb=>t10 _ _ ?_) pdn ac (t10 _ _ ac) ((tds.tk tk9).tk (TK.of t10)) ((((Td.tup h24 tA).tk (TK.of U5)).tk tk9).tk (TK.of t10)) shp fun c hc=>?_
  ·rw [ah (ap hb pdn)]
   exact v1 _ _ (U5 _ _ (S4 _ _ hb))
  ·obtain ⟨x,hx,rfl⟩:=hbs c hc
   exact tJ (lc.ok x hx)
end
section
variable {P:Program}{w:World}{K:PySem.W.Frag}{mg:Str->Option Value}{base:Heap}
def RF (CF:Addr):Addr->Nat->Prop:=fun n k=>n=CF/\k=2
def qY:Sp:=fun vs H Q _=>∃(a d p:Addr) (prs:List (Addr×Reel)) (ps:List Pt) (o t:Addr×Reel) (xs:List IT.It),vs=[.ref a,.ref d,.ref p]/\o.2.name="a"/\t.2.name="b"/\RL H p prs/\Uq prs/\o∈prs/\t∈prs/\Td H (.ref a) (.tuple (dL xs))/\dpL xs<=5/\wL xs<=1000/\PD H d ps/\(ps.map (·.1)).Nodup/\ps.length<=10 /\
 ovL o.2 t.2 (dZ xs ps)=.inl ("b",.non)/\(∀ys ps',ovL o.2 t.2 xs=.inr ys->¬ OvP o.2 t.2 ps ps')/\∀H',Q (.bl true) H'
theorem scRef:aq ["_law_items", "_law_parts", "_law_reels", "_law_refused_here", "_law_e"] ["_law_items", "_law_parts", "_law_reels"] (ak cD):=⟨rfl,rfl,rfl,by decide +kernel,rfl,by decide +kernel,by decide +kernel⟩
theorem yz {f CN CF S:Addr}{fd:FuncData}{bmS bmF:List Value}{idS idF:String}(F:Fun K "_law_refused" "_law_refused" cD f fd) (dBr:Def P w K mg base (CX1 P w) "brought_over" 12 ["items", "parts", "reels", "one", "other"] (uT CN CF)) (dOnly:Def P w K mg base CX0 "_law_only" 2 ["_law_e", "_law_at"] (jC (RF CF)))
  (m_SpliceError:mg "SpliceError"=some (.ref S)) (c_SpliceError:ExcC K S bmS idS) (hb_SpliceError:bmS.contains (.type "BaseException")=true) (cF:ExcC K CF bmF idF) (hSF:(Value.ref CF :: bmF).contains (.ref S)=true) (EK:iW K CF) (XC:mV K CF) (XN1:XNo K CF "reel") (XN2:XNo K CF "frame"):aG P w K mg base CX0 13 f fd ["_law_items", "_law_parts", "_law_reels"] qY:=by
 refine F.ok scRef (fun vs H Q E h=>?_) (fun cdv A outer s H vs Q E hr h=>?_)
 ·obtain ⟨a,d,p,prs,ps,o,t,xs,rfl,_⟩:=h
  rfl
 obtain ⟨a,d,p,prs,ps,o,t,xs,rfl,on,tn,rl,uq,ho,ht,ha,hd4,hw,pd,nd,hpl,he,hno,q⟩:=h
 refine aW (ag (aw (i:=3) scRef.nd xq)
  (ag (xM (j:=4) scRef.nd m_SpliceError c_SpliceError hb_SpliceError (xw dBr hr (aa (e_v 0) (aa (e_v 1) (aa (e_v 2) (aa aF (aa aF af)))))) (fun a=>(aj (aw (i:=3) scRef.nd (e_v 4)))))
  (aj (aB (fc (yZ (e_v 3)) (fc (ao dOnly hr aE (aa (e_v 3) (aa ae af)) (hj:=by omega)) (fc (eM (io hr) (Ag (e_v 3)) aF) (jn (Ai (Ag (e_v 3))))))))))) ?_
 refine ⟨_,rfl,_,rfl,_,rfl,a,d,p,prs,ps, "a", "b",xs,rfl,rl,uq,ha,hd4,hw,pd,nd,hpl,fun hn=>absurd on (hn o ho),fun _ _ _ hn=>absurd tn (hn t ht),?_⟩
 intro o' ho' hoe t' ht' hte
 have eo:=uq o' ho' o ho (hoe.trans on.symm)
 have et:=uq t' ht' t ht (hte.trans tn.symm)
 subst eo et
 refine ⟨fun e he' H1 dx x1 r1 hdx=>?_,fun ys ps' hys hop q a' d' H1 x1 r1 hd0 hd1 hq hta htp=>absurd hop (hno ys ps' hys)⟩
 rw [he] at he'
 cases he'
 refine ⟨CF,bmF,idF,rfl,cF,hSF,fun ea hea=>?_⟩
 have te:=Same.new hea (iK ea (.ref CF) (some dx))
 refine ⟨_,rfl,?_⟩
 refine ⟨_,rfl,_,rfl,cX ?_⟩
 refine ⟨_,rfl,CF,2,⟨rfl,rfl⟩,ea,some dx,2,rfl,ac,.inr ⟨dx,_,rfl,te _ _ hdx⟩,by decide,by decide,fun H3 s3=>?_⟩
 refine ⟨_,rfl,cX ?_⟩
 refine ⟨_,rfl,ea,CF,dx,_,_,rfl,s3 _ _ ac,s3 _ _ (te _ _ hdx),EK,XC,XN1,rfl,?_⟩
 have lb:(PyData.str "b").canLay0=true:=by decide +kernel
 refine ⟨.str "b",.str "b",.str _,.str _,lb,lb,by simp [PyData.depth],_,rfl,iteY (PySem.SeqAt.eqv_refl _ lb) ?_⟩
 exact ⟨_,rfl,ea,CF,dx,_,_,rfl,s3 _ _ ac,s3 _ _ (te _ _ hdx),EK,XC,XN2,rfl,q H3⟩
end
mutual
theorem y8 (r:Str) (k:Int):∀x:IT.It,dpI (shI r k x)=dpI x
 | .clip _ _ _=>by rw [shI,dpI,dpI]
 | .times m xs=>by rw [shI,dpI,dpI,iN r k xs]
 | .back xs=>by rw [shI,dpI,dpI,iN r k xs]
 | .part n xs=>by rw [shI]
 | .fade m=>by rw [shI]
theorem iN (r:Str) (k:Int):∀xs:List IT.It,dpL (shL r k xs)=dpL xs
 | []=>by rw [shL]
 | x :: xs=>by rw [shL,dpL,dpL,y8 r k x,iN r k xs]
end
mutual
theorem zq (r:Str) (k:Int):∀x:IT.It,wI (shI r k x)=wI x
 | .clip _ _ _=>by rw [shI,wI,wI]
 | .times m xs=>by rw [shI,wI,wI,ku r k xs]
 | .back xs=>by rw [shI,wI,wI,ku r k xs]
 | .part n xs=>by rw [shI]
 | .fade m=>by rw [shI]
theorem ku (r:Str) (k:Int):∀xs:List IT.It,wL (shL r k xs)=wL xs
 | []=>by rw [shL]
 | x :: xs=>by rw [shL,wL,wL,zq r k x,ku r k xs]
end
theorem xr {o t:Reel}{G:Str->List IT.It->Prop}(hf:bK t.name) {xs:List IT.It}(h:hL (Bo o t) G xs):hL (Bo t o) G (shL t.name (o.start-t.start) xs):=oB hf (fun r f l ⟨_,a,b,c,d⟩=>⟨rfl,c,d,(by unfold has at *; omega),(by unfold has at *; omega)⟩) h
theorem nR {o t:Reel}{n:Str}{b:Addr}{ys zs:List IT.It}{ps':List Pt}(h:OvP o t [(n,b,ys)] ps') (e:ovL o t ys=.inr zs):∃b',ps'=[(n,b',zs)]:=by
 obtain ⟨h1,h2⟩:=h
 obtain ⟨y,hy,e1,e2⟩:=h2 0 _ rfl
 match ps',h1 with
 | [x],_ =>
  cases hy
  have e1:y.1=n:=e1
  have e2:ovL o t ys=.inr y.2.2:=e2
  rw [e] at e2
  cases e2
  obtain ⟨y1,y2,y3⟩:=y
  cases e1
  exact ⟨y2,rfl⟩
theorem Ft.mem:∀{A:List Cl},Ft A->(∀c∈A,0<=c.d)->∀c∈A,c.d<=frC c
 | [c],h,_,x,hx=>by rw [List.mem_singleton.mp hx]; exact h
 | c :: e :: A,h,h0,x,hx=>by
  rcases List.mem_cons.mp hx with rfl | hx
  ·have:=h.1
   have:=h0 e (List.mem_cons_of_mem _ List.mem_cons_self)
   omega
  ·exact Ft.mem (A:=e :: A) h.2 (fun y hy=>h0 y (List.mem_cons_of_mem _ hy)) x hx
theorem oH {c e:Cl}(h:(c.f=e.f/\c.l=e.l)\/(c.f=e.l/\c.l=e.f)):frC c=frC e:=by
 unfold frC
 rcases h with ⟨h1,h2⟩ | ⟨h1,h2⟩ <;> rw [h1,h2] <;> split <;> split <;> omega
structure Pls (prs:List (Addr×Reel)) (xs ys:List IT.It) (fs:List Cl):Prop where
 wl:WL xs
 hl:hL (Ck prs) (Gq ys) xs
 pa:Pa (Ck prs) (Gq ys) ["q"]
 dp:dpL xs<=5
 fl:flL xs=fs
 fq:∀(CT CS:Addr) (H:Hp) (E:XK),uM CT CS (flL xs) H E (fun _=>True)
theorem zR {H:Hp}{pd b:Addr}{ys:List IT.It}(rd:Rd H pd (.dK [(.inr "q",.ref b)])) (tb:Td H (.ref b) (.tuple (dL ys))):PR H pd (Gq ys):=⟨_,rd,by
 rintro n zs ⟨rfl,rfl⟩
 exact ⟨b,rfl,tb⟩⟩
theorem Shp.plays {prs:List (Addr×Reel)}{xs ys:List IT.It}{fs bs:List Cl}(h:Shp xs ys fs bs) (ok:∀c∈bs,bK c.r/\Ck prs c.r c.f c.l) (ok2:∀c∈bs,frC c<=9/\0<=c.d):Pls prs xs ys fs:=by
 obtain ⟨wx,wy,dx,dy,w1,w2⟩:=h.wl
 have hx:=h.hx (T:=Ck prs) ok
 have fl:=h.fl fun c hc=>(ok2 c hc).2
 obtain ⟨ne,len,ft,mem⟩:=h.film (fun c hc=>(ok2 c hc).1) fun c hc=>(ok2 c hc).2
 have hfr:frS fs<=2000:=by
  have:=ue (A:=fs) (m:=9) fun c hc=>by
   obtain ⟨⟨e,he,_,k⟩,_⟩:=mem c hc
   rw [oH k]
   exact (ok2 e he).1
  omega
 refine ⟨wx,hx.1,⟨?_,?_,by decide,?_,?_⟩,by omega,fl,?_⟩
 ·rintro n zs zs' ⟨_,rfl⟩ ⟨_,rfl⟩
  rfl
 ·rintro n zs ⟨rfl,_⟩
  exact List.mem_singleton.mpr rfl
 ·rintro n zs ⟨_,rfl⟩
  exact wy
 ·rintro n zs ⟨_,rfl⟩
  exact hx.2 _
 ·intro CT CS H E
  rw [fl]
  refine ⟨fun z=>?_,fun _ _ k hb=>absurd hb (ft.good k),fun _ _ _ _ _=>trivial⟩
  omega
theorem lW {lo hi:Int}:∀{xs:List IT.It},thL lo hi xs=true->∀x∈xs,thI lo hi x=true
 | [],_,x,h=>nomatch h
 | y :: r,h,x,hx=>by
  rw [thL,Bool.and_eq_true] at h
  rcases List.mem_cons.mp hx with rfl | hx
  ·exact h.1
  ·exact lW h.2 x hx
theorem mZ {lo hi:Int}{cs:List Cl}(h:thL lo hi (mkL cs)=true):∀c∈cs,(lo<=c.f/\c.f<hi)/\lo<=c.l/\c.l<hi:=fun c hc=>by
 have hm:IT.It.clip c.r c.f c.l∈mkL cs:=by
  unfold mkL
  refine List.mem_flatMap.mpr ⟨c,hc,?_⟩
  unfold mkC
  split
  ·exact List.mem_cons_of_mem _ List.mem_cons_self
  ·exact List.mem_cons_self
 have:=lW h _ hm
 rw [thI] at this
 simpa only [Bool.and_eq_true,decide_eq_true_eq] using this
theorem Shp.th {lo hi:Int}{xs ys:List IT.It}{fs bs:List Cl}(h:Shp xs ys fs bs) (hx:thL lo hi xs=true) (hy:thL lo hi ys=true):∀c∈bs,(lo<=c.f/\c.f<hi)/\lo<=c.l/\c.l<hi:=by
 cases h with
 | plain as u a b c d e =>
  intro x hx'
  rcases List.mem_cons.mp hx' with rfl | hx'
  ·exact mZ hy x List.mem_cons_self
  ·exact mZ hx x hx'
 | cut p q a b c d e f g i =>
  intro x hx'
  rcases List.mem_append.mp hx' with hx' | hx'
  ·exact mZ hy x hx'
  ·have:=lW hx (.back (mkL q)) (List.mem_cons_of_mem _ List.mem_cons_self)
   rw [thI] at this
   exact mZ this x hx'
def reA:Reel:=⟨"a", "AB",1000,300⟩
def reB (far:Int):Reel:=⟨"b", "AB",1000+far,300⟩
theorem kh:bK "a":=by decide +kernel
theorem iJ:bK "b":=by decide +kernel
theorem ki:bK "AB":=by decide +kernel
theorem xW:ROk reA:=⟨by decide,kh,ki,by decide,by decide⟩
theorem xV (far:Int):ROk (reB far):=⟨by show ("b":Str).length<=100; decide,iJ,ki,by show (1:Int)<=300; decide,by show (300:Int)<=160000; decide⟩
theorem pj (far:Int):∀f:Int,(far<=f/\f<far+300)↔has (reB far) (f+(reA.start-(reB far).start)):=fun f=>by
 show _↔0<=f+(1000-(1000+far))/\f+(1000-(1000+far))<300
 omega
theorem zr {r1 r2:Addr}{far:Int}:Uq [(r1,reA),(r2,reB far)]:=by
 intro x hx y hy e
 simp only [List.mem_cons,List.not_mem_nil,or_false] at hx hy
 rcases hx with rfl | rfl <;> rcases hy with rfl | rfl
 ·rfl
 ·exact absurd (show ("a":Str)="b" from e) (by decide)
 ·exact absurd (show ("b":Str)="a" from e) (by decide)
 ·rfl
theorem AT {xs ys:List IT.It}{fs bs:List Cl}(h:Shp xs ys fs bs) (ok:∀c∈bs,c.r="a"/\Lc c):hL (On reA) (Gq ys) xs/\∀G,hL (On reA) G ys:=h.hx fun c hc=>by
 obtain ⟨e,l⟩:=ok c hc
 rw [e]
 exact ⟨kh,rfl,⟨l.f0,l.f1⟩,l.l0,l.l1⟩
structure Fm (fs:List Cl):Prop where
 ne:fs≠[]
 len:fs.length<=60
 r:∀c∈fs,c.r="a"
 f:∀c∈fs,has reA c.f/\has reA c.l
 d0:∀c∈fs,0<=c.d
 d1:∀c∈fs,c.d<=frC c
 m:∀c∈fs,frC c<=9
theorem Shp.fm {xs ys:List IT.It}{fs bs:List Cl}(h:Shp xs ys fs bs) (ok:∀c∈bs,c.r="a"/\Lc c):Fm fs:=by
 obtain ⟨ne,len,ft,mem⟩:=h.film (fun c hc=>(ok c hc).2.m) fun c hc=>(ok c hc).2.d0
 refine ⟨ne,len,fun c hc=>?_,fun c hc=>?_,fun c hc=>(mem c hc).2,ft.mem fun c hc=>(mem c hc).2,fun c hc=>?_⟩
 ·obtain ⟨⟨e,he,k,_⟩,_⟩:=mem c hc
  rw [k]
  exact (ok e he).1
 ·obtain ⟨⟨e,he,_,k⟩,_⟩:=mem c hc
  have l:=(ok e he).2
  have a:has reA e.f:=⟨l.f0,l.f1⟩
  have b:has reA e.l:=⟨l.l0,l.l1⟩
  rcases k with ⟨h1,h2⟩ | ⟨h1,h2⟩ <;> rw [h1,h2]
  ·exact ⟨a,b⟩
  ·exact ⟨b,a⟩
 ·obtain ⟨⟨e,he,_,k⟩,_⟩:=mem c hc
  rw [oH k]
  exact (ok e he).2.m
theorem zg (c:Cl):(((toK c).cnt:Nat):Int)=frC c:=by
 unfold KS.Clip.cnt toK frC
 dsimp only
 split <;> omega
theorem uC {c:Cl}{far:Int}{r:Str}{k:Int}(hr:r.length<=100) (hf:bK r) (a:0<=c.f+k/\c.f+k<1000) (b:0<=c.l+k/\c.l+k<1000) (d0:0<=c.d) (d1:c.d<=frC c) (m:frC c<=9):KS.COk 1000 1000 (toK (sh r k c)):=by
 have e:(((toK (sh r k c)).cnt:Nat):Int)=frC c:=by rw [zg,jl]
 refine ⟨hr,hf,a.1,?_,b.1,?_,d0,?_,by omega⟩
 ·show c.f+k<=_; omega
 ·show c.l+k<=_; omega
 ·show c.d<=_; omega
theorem wa (far:Int) (c:Cl):bA (reB far) (sh "b" (reA.start-(reB far).start) c)=bA reA c:=by
 unfold bA
 rw [xB,nZ,List.map_map]
 refine List.map_congr_left fun n _=>?_
 show ((reB far).letters,1000+far+(n+(1000-(1000+far))))=(reA.letters,1000+n)
 rw [show 1000+far+(n+(1000-(1000+far)))=1000+n by omega]
 rfl
theorem oW {T:Addr}{H H':Hp}{l:Addr}{cs:List Cl}{ps:Array Value}(h:CL H l cs) (hT:H T=some (.tbl ps)) (b:KS.Bt T H H'):CL H' l cs:=by
 obtain ⟨vs,h1,h2⟩:=h
 exact ⟨vs,b _ _ (bn h1 hT (by intro z; cases z)) h1,h2.tk fun a xs ha=>b _ _ (bn ha hT (by intro z; cases z)) ha⟩
theorem om:∀kss:List (List (Str×Int)),(∀ks∈kss,∀k∈ks,bK k.1)->PyData.canLayAll0 (kss.map fun ks=>.list (ks.map kD))=true
 | [],_=>rfl
 | ks :: r,h=>by
  have h1:PyData.canLayAll0 (ks.map kD)=true:=by
   have:=h ks List.mem_cons_self
   induction ks with
   | nil=>rfl
   | cons k l ih =>
    have e:PyData.strOk k.1=true:=this k List.mem_cons_self
    simp only [List.map_cons,PyData.canLayAll0,kD,PyData.canLay0,e,Bool.and_true,Bool.true_and]
    exact ih (fun x hx=>by
     rcases List.mem_cons.mp hx with rfl | hx
     ·exact fun k hk=>this k (List.mem_cons_of_mem _ hk)
     ·exact h x (List.mem_cons_of_mem _ hx)) fun k hk=>this k (List.mem_cons_of_mem _ hk)
  simp only [List.map_cons,PyData.canLayAll0,PyData.canLay0,h1,Bool.true_and]
  exact om r fun x hx=>h x (List.mem_cons_of_mem _ hx)
theorem oO:∀kss:List (List (Str×Int)),PyData.depthAll (kss.map fun ks=>.list (ks.map kD))<=10
 | []=>by simp [PyData.depthAll]
 | ks :: r=>by
  have h1:PyData.depthAll (ks.map kD)<=5:=by
   induction ks with
   | nil=>simp [PyData.depthAll]
   | cons k l ih =>
    simp only [List.map_cons,PyData.depthAll,kD,PyData.depth] at ih ⊢
    omega
  have h2:=oO r
  simp only [List.map_cons,PyData.depthAll,PyData.depth]
  omega
theorem AX:Lcs [⟨"a",3,5,0⟩]:=⟨fun c hc=>by
 rw [List.mem_singleton.mp hc]
 exact ⟨by decide,by decide,by decide,by decide,by decide,by decide⟩,by show (0:Int)<=frC _; decide,(fun c hc=>by cases hc; rfl),by decide⟩
theorem mT (xs ys:List IT.It) (b:Addr):dZ xs [("q",b,ys)]=xs++ys:=by
 unfold dZ
 simp
theorem qG (n:Nat):(List.replicate n false).any id=false:=by
 induction n with
 | zero=>rfl
 | succ n ih=>rw [List.replicate_succ,List.any_cons,ih]; rfl
theorem shm (fs:List Cl) (r:Str) (k:Int):(fs.map (sh r k)).map toK=(fs.map toK).map (shK r k):=by
 rw [List.map_map,List.map_map]
 rfl
theorem rA {sp:Int}{rs:List (Addr×KS.Clip)}{S:List KS.Clip}(h:rs.map (·.2)=S):(rs.reverse.map fun x=>KS.ivOf sp x.2)=S.reverse.map (KS.ivOf sp):=by
 subst h
 rw [<- List.map_reverse,List.map_map]
 rfl
section
variable {P:Program}{w:World}{K:PySem.W.Frag}{mg:Str->Option Value}{base:Heap}
def spLaw (T:Addr) (K:PySem.W.Frag):Sp:=fun vs H Q _=>∃(a:Addr) (ns:List Int),vs=[.ref a]/\SqL K H a (ns.map V.int)/\ns.length<=63/\H T=some (.tbl #[])/\∀H',Q (.bl true) H'
theorem scLaw:aq ["_law_script", "_law_clips_here", "_law_far", "_law_reels", "_law_items", "_law_parts", "_law_handed", "_law_over", "_law_others", "_law_one", "_law_two", "_law_spoil", "_law_many"] ["_law_script"] (ak rn):=⟨rfl,rfl,rfl,by decide +kernel,rfl,by decide +kernel,by decide +kernel⟩
theorem yD {f T CN CF CT CS:Addr}{fd:FuncData}(F:Fun K "law" "law" rn f fd) (dClips:Def P w K mg base CX0 "_law_clips" 2 ["_law_script", "_law_most"] (jL K)) (dCell:Def P w K mg base CX0 "_law_cell" 1 ["_law_script", "_law_k"] (l_ K))
  (dList:Def P w K mg base CX0 "_law_list" 1 ["_law_clips_here", "_law_cell_here"] l8) (dThere:Def P w K mg base CX0 "_law_there" 6 ["_law_items", "_law_low", "_law_high"] (fO 5)) (dRef:Def P w K mg base CX0 "_law_refused" 13 ["_law_items", "_law_parts", "_law_reels"] qY)
  (dBr:Def P w K mg base (CX1 P w) "brought_over" 12 ["items", "parts", "reels", "one", "other"] (uT CN CF)) (dPlayed:Def P w K mg base (CX1 P w) "played" 19 ["items", "parts", "reels"] (hU CT CS 5)) (dEdges:Def P w K mg base CX0 "_law_edges" 5 ["_law_reels", "_law_clips_here"] jK)
  (dStrips:Def P w K mg base CX0 "strips_of" 4 ["clips"] fP) (dNeeds:Def P w K mg base CX0 "needs" 6 ["strips", "spoil"] (jE T)) (dJoins:Def P w K mg base CX0 "joins" 5 ["clips"] jJ) (dLen:Def P w K mg base CX0 "length" 2 ["clips"] hZ)
  (n_list:mg "list"=none) (n_dict:mg "dict"=none) (n_any:mg "any"=none) (n_abs:mg "abs"=none):aG P w K mg base CX0 20 f fd ["_law_script"] (spLaw T K):=by
 refine F.ok scLaw (fun vs H Q E h=>?_) (fun cdv A outer s H vs Q E hr h=>?_)
 ·obtain ⟨a,ns,rfl,_⟩:=h
  rfl
 obtain ⟨a,ns,rfl,hS,hn63,hT,q⟩:=h
 refine aW (ag (aw (i:=1) scLaw.nd (ao dClips hr aE (aa (e_v 0) (aa ae af))))
  (ag (eZ (bc (aN (io hr) (e_v 1) (ba af))
   (aj (aw (i:=1) scLaw.nd (ba (aa (aX (aa aF (aa ae (aa ae (aa ae af))))) af))))
   aL))
  (ag (aw (i:=2) scLaw.nd (az bw (az bj (ao dCell hr aE (aa (e_v 0) (aa ae af))) ae) ae))
  (ag (eZ (bc (aN be (az bj (az fV (ao dCell hr aE (aa (e_v 0) (aa ae af))) ae) ae) ae)
   (aj (aw (i:=2) scLaw.nd (az bw ae (e_b cL n_abs (by decide +kernel) (aa (e_v 2) af)))))
   aL))
  (ag (aw (i:=3) scLaw.nd (ba (aa (aX (aa aF (aa aF (aa ae (aa ae af))))) (aa (aX (aa aF (aa aF (aa (az aR ae (e_v 2)) (aa ae af))))) af))))
  (ag (kI (ao dList hr aE (aa (e_v 1) (aa (az fV (ao dCell hr aE (aa (e_v 0) (aa ae af))) ae) af))) (f8 rfl (aS (aM (i:=4) scLaw.nd) (aS (aM (i:=5) scLaw.nd) dP))))
  (ag (aw (i:=6) scLaw.nd (aX (aa (e_t cP n_dict (by decide +kernel) (aa (e_v 5) af)) (aa (e_t cj n_list (by decide +kernel) (aa (e_v 3) af)) af))))
  (ag (bc (t_w (iX (g7 (d_ (ao dThere hr aE (aa (e_v 4) (aa (e_v 2) (aa (az aR (e_v 2) ae) af)))))) (gB (g7 (d_ (ao dThere hr aE (aa (mK (eJ hr) (e_v 5) aF) (aa (e_v 2) (aa (az aR (e_v 2) ae) af)))))))))
   (aj (aB (ao dRef hr aE (aa (e_v 4) (aa (ar am (e_v 6) ae) (aa (ar am (e_v 6) ae) af))))))
   aL)
  (ag (kI (ao dBr hr kM (aa (e_v 4) (aa (ar am (e_v 6) ae) (aa (ar am (e_v 6) ae) (aa aF (aa aF af)))))) (f8 rfl (aS (aM (i:=7) scLaw.nd) (aS (aM (i:=8) scLaw.nd) dP))))
  (ag (bc (t_w (iX (aN (nW hr) (e_v 6) (aX (aa (e_v 5) (aa (e_v 3) af)))) (gB (aN (nW hr) (ao dBr hr kM (aa (e_v 7) (aa (e_t cP n_dict (by decide +kernel) (aa (e_v 8) af)) (aa (e_t cj n_list (by decide +kernel) (aa (e_v 3) af)) (aa aF (aa aF af)))))) (aX (aa (e_v 4) (aa (e_v 5) af)))))))
   (aj (aB i8))
   aL)
  (ag (aw (i:=9) scLaw.nd (ao dPlayed hr kM (aa (e_v 4) (aa (e_t cP n_dict (by decide +kernel) (aa (e_v 5) af)) (aa (e_t cj n_list (by decide +kernel) (aa (e_v 3) af)) af)))))
  (ag (aw (i:=10) scLaw.nd (ao dPlayed hr kM (aa (e_v 7) (aa (e_t cP n_dict (by decide +kernel) (aa (e_v 8) af)) (aa (e_t cj n_list (by decide +kernel) (aa (e_v 3) af)) af)))))
  (ag (bc (t_w (iX (d_ (e_b uI n_any (by decide +kernel) (aa (dU [] [] [] rfl trivial trivial (bB (e_v 10)) (fun _ _ _ _=>(eM w_ (ar (dN (K:=K) rfl) (e_n 0) ae) aF))) af))) (gB (aN (j6 hr) (ao dEdges hr aE (aa (e_v 3) (aa (e_v 9) af))) (ao dEdges hr aE (aa (e_v 3) (aa (e_v 10) af)))))))
   (aj (aB i8))
   aL)
  (ag (aw (i:=11) scLaw.nd (az bj (ao dCell hr aE (aa (e_v 0) (aa ae af))) ae))
  (ag (xN (i:=12) scLaw.nd [] [] [] rfl trivial trivial (bB (ao dNeeds hr aE (aa (ao dStrips hr aE (aa (e_v 9) af)) (aa (e_v 11) af)))) (fun _ _ _ _=>(ar (dN (K:=K) rfl) (e_n 0) ae)))
  (ag (bc (aN (j6 hr) (e_v 12) (dU [] [] [] rfl trivial trivial (bB (ao dNeeds hr aE (aa (ao dStrips hr aE (aa (e_v 10) af)) (aa (e_v 11) af)))) (fun _ _ _ _=>(ar (dN (K:=K) rfl) (e_n 0) ae))))
   (aj (aB i8))
   aL)
  (aj (aB (fc (eM be (ao dJoins hr aE (aa (e_v 9) af)) (ao dJoins hr aE (aa (e_v 10) af))) (jn (eM be (ao dLen hr aE (aa (e_v 9) af)) (ao dLen hr aE (aa (e_v 10) af))))))))))))))))))))))) ?_
 have zl:sizeLine=16777216:=sizeLine_eq
 refine ⟨_,rfl,a,ns,rfl,hS,fun l0 cs0 H1 s1 hl0 cl0 lc0 ff0=>?_⟩
 refine ⟨fun σ' H2=>∃(l:Addr) (cs:List Cl),σ'=[some (.ref a),some (.ref l),none,none,none,none,none,none,none,none,none,none,none]/\CL H2 l cs/\Lcs cs/\cs≠[]/\Same H H2,?_,?_⟩
 ·refine ⟨_,rfl,(by show 0<=sizeLine; decide),fun p hp=>?_⟩
  have t:=Same.new hp (.lst [])
  refine ⟨_,_,mS (aO cl0 t),.lst (SqL.of ac) .nil,iC ff0,rfl,Nat.le_trans (Nat.min_le_right _ _) (by decide),_,rfl,?_⟩
  cases hcs:cs0 with
  | nil =>
   refine iteY (by rw [List.map_nil,PySem.SeqAt.eqv_refl _ rfl]) ⟨(by show 4<=sizeLine; decide),fun p1 hp1=>⟨(by show 1<=sizeLine; decide),fun p2 hp2=>?_⟩⟩
   have t1:=Same.new hp1 (.tup [.str "a",.int 3,.int 5,.int 0])
   have t2:=Same.new hp2 (.lst [.ref p1])
   exact ⟨p2,[⟨"a",3,5,0⟩],rfl,⟨[.ref p1],ac,.one (kW (c:=⟨"a",3,5,0⟩) (t2 _ _ ac))⟩,AX,List.cons_ne_nil _ _,((s1.trans t).trans t1).trans t2⟩
  | cons c r =>
   rw [hcs] at cl0 lc0
   exact iteN rfl ⟨l0,c :: r,rfl,aO cl0 t,lc0,List.cons_ne_nil _ _,s1.trans t⟩
 rintro σ H2 ⟨l,cs,rfl,cl,lc,hne,s2⟩
 refine ⟨_,rfl,a,ns,1,rfl,s2.seq hS,fun H3 s3=>⟨_,_,rfl,rfl,(by show (0:Int)<121; decide),_,_,rfl,rfl,?_⟩⟩
 refine ⟨fun σ' H4=>∃far:Int,σ'=[some (.ref a),some (.ref l),some (.int far),none,none,none,none,none,none,none,none,none,none]/\-60<=far/\far<=60/\Same H3 H4,?_,?_⟩
 ·refine ⟨_,rfl,a,ns,0,rfl,(s2.trans s3).seq hS,fun H4 s4=>⟨_,_,rfl,rfl,⟨by decide,by decide⟩,_,_,rfl,rfl,(by show (0:Int)<2; decide),rfl,_,rfl,cY (fun _=>?_) (fun _=>?_)⟩⟩
  ·refine ⟨_,rfl,_,rfl,_,_,rfl,rfl,_,rfl,?_,?_,s4⟩ <;> split <;> omega
  ·exact ⟨_,rfl,by omega,by omega,s4⟩
 rintro σ H4 ⟨far,rfl,far0,far1,s4⟩
 refine ⟨(by show 4<=sizeLine; decide),fun r1 hr1=>⟨_,rfl,_,_,rfl,rfl,(by show 4<=sizeLine; decide),fun r2 hr2=>⟨(by show 2<=sizeLine; decide),fun lr hlr=>?_⟩⟩⟩
 have t1:=Same.new hr1 (.tup reA.vs)
 have t2:=Same.new hr2 (.tup (reB far).vs)
 have t3:=Same.new hlr (.lst [.ref r1,.ref r2])
 have rl:RL (upd (upd (upd H4 r1 (.tup reA.vs)) r2 (.tup (reB far).vs)) lr (.lst [.ref r1,.ref r2])) lr [(r1,reA),(r2,reB far)]:=⟨ac,fun x hx=>by
  simp only [List.mem_cons,List.not_mem_nil,or_false] at hx
  rcases hx with rfl | rfl
  ·exact ⟨t3 _ _ (t2 _ _ ac),xW⟩
  ·exact ⟨t3 _ _ ac,xV far⟩⟩
 have S5:=((s2.trans s3).trans s4).trans ((t1.trans t2).trans t3)
 have cl5:=aO cl ((s3.trans s4).trans ((t1.trans t2).trans t3))
 have uq:Uq [(r1,reA),(r2,reB far)]:=zr
 have ho:(r1,reA)∈[(r1,reA),(r2,reB far)]:=List.mem_cons_self
 have ht:(r2,reB far)∈[(r1,reA),(r2,reB far)]:=List.mem_cons_of_mem _ List.mem_cons_self
 refine ⟨_,rfl,_,rfl,a,ns,0,rfl,S5.seq hS,fun H6 s6=>⟨_,_,rfl,rfl,⟨by decide,by decide⟩,l,_,cs,rfl,aO cl5 s6,lc,hne,fun q1 ai d b xs ys fs bs H7 s7 hd0 hq1 hd ta tb shp ok=>?_⟩⟩
 have S7:=S5.trans (s6.trans s7)
 have rl7:=rl.same (s6.trans s7)
 refine ⟨q1,_,rfl,SqT.of hq1,rfl,_,_,rfl,_,_,rfl,rfl,?_⟩
 obtain ⟨wx,wy,dx,dy,w1,w2⟩:=shp.wl
 obtain ⟨onx,ony⟩:=AT shp ok
 have fm:=shp.fm ok
 have ti:=pj far
 refine ⟨_,rfl,d,_,rfl,.inl hd,fun d1 hd1=>⟨_,rfl,lr,_,rfl,.inl (SqL.of (Same.new hd1 (.dK [(.inr "q",.ref b)]) _ _ rl7.1)),fun lr2 hlr2=>⟨(by show 2<=sizeLine; decide),fun hh hhh=>?_⟩⟩⟩
 have u1:=Same.new hd1 (.dK [(.inr "q",.ref b)])
 have u2:=Same.new hlr2 (.lst ([(r1,reA),(r2,reB far)].map fun x=>V.ref x.1))
 have u3:=Same.new hhh (.tup [.ref d1,.ref lr2])
 have U8:=(u1.trans u2).trans u3
 have hd18:=u3 _ _ (u2 _ _ (ac (H:=H7) (a:=d1) (o:=.dK [(.inr "q",.ref b)])))
 have hlr8:=u3 _ _ (ac (H:=upd H7 d1 (.dK [(.inr "q",.ref b)])) (a:=lr2) (o:=.lst ([(r1,reA),(r2,reB far)].map fun x=>V.ref x.1)))
 have hhh8:=ac (H:=upd (upd H7 d1 (.dK [(.inr "q",.ref b)])) lr2 (.lst ([(r1,reA),(r2,reB far)].map fun x=>V.ref x.1))) (a:=hh) (o:=.tup [.ref d1,.ref lr2])
 have rl8:=rl7.same U8
 have rl28:RL _ lr2 [(r1,reA),(r2,reB far)]:=⟨hlr8,rl8.2⟩
 generalize upd (upd (upd H7 d1 (.dK [(.inr "q",.ref b)])) lr2 (.lst ([(r1,reA),(r2,reB far)].map fun x=>V.ref x.1))) hh (.tup [.ref d1,.ref lr2])=H8 at U8 hd18 hlr8 hhh8 rl8 rl28 ⊢
 have pd8:∀{G:Hp},Same H8 G->PD G d1 [("q",b,ys)]:=fun sG=>⟨.inl (sG _ _ hd18),fun x hx=>by
  rw [List.mem_singleton.mp hx]
  exact ⟨tb.tk (TK.of (U8.trans sG)),by show dpL ys<=5; omega,by show wL ys<=1000; omega⟩⟩
 have nd1:(([("q",b,ys)]:List Pt).map (·.1)).Nodup:=List.pairwise_singleton _ _
 have hdG:∀{G:Hp},Same H8 G->DGet G d (.str "q") (some (.ref b)):=fun sG=>.inl ⟨[(.inr "q",.ref b)],.inr "q",.inl ((U8.trans sG) _ _ hd),rfl,rfl⟩
 by_cases all:(thL far (far+300) xs&&thL far (far+300) ys)=true
 case neg =>
  have all:thL far (far+300) (xs++ys)=false:=by rw [gN]; exact Bool.eq_false_iff.mpr all
  have hno:=j3 (o:=reA) (t:=reB far) (G:=Gq ys) rfl ti (tZ onx (ony _)) all
  refine ⟨_,rfl,_,rfl,_,rfl,_,_,rfl,rfl,ai,xs,far,_,rfl,ta.tk (TK.of U8),by omega,fun H9 s9=>⟨_,rfl,j5 (H0:=H8) ?pl s9 fun c1 hpl=>?_⟩⟩
  case pl =>
   intro G sG
   refine ⟨_,rfl,_,rfl,hh,_,_,.ref d1,rfl,rfl,SqT.of (sG _ _ hhh8),ad (j:=0) rfl,_,rfl,hh,_,_,.ref lr2,rfl,rfl,SqT.of (sG _ _ hhh8),ad (j:=1) rfl,ai,d1,lr2,_,[("q",b,ys)],(r1,reA),(r2,reB far),xs,rfl,rfl,rfl,rl28.same sG,uq,ho,ht,ta.tk (TK.of (U8.trans sG)),by omega,by omega,pd8 sG,nd1,by show 1<=10; decide,by rw [mT]; exact hno,fun zs ps' hzs hop=>?_,q⟩
   obtain ⟨y,_,_,hy⟩:=hop.2 0 _ rfl
   have hy:ovL reA (reB far) ys=.inr y.2.2:=hy
   rw [cM _ _ hzs,hy] at hno
   cases hno
  have c1:thL far (far+300) xs=true:=by simpa using c1
  have c2:thL far (far+300) ys=false:=by rw [gN,c1,Bool.true_and] at all; exact all
  exact ⟨_,rfl,d,_,rfl,hdG s9,_,rfl,_,rfl,_,_,rfl,rfl,b,ys,far,_,rfl,tb.tk (TK.of (U8.trans s9)),by omega,fun H10 s10=>⟨_,rfl,iteY (by rw [c2]; rfl) (hpl H10 (s9.trans s10))⟩⟩
 obtain ⟨c1,c2⟩:=Bool.and_eq_true _ _ |>.mp all
 have box:=xu ti onx c1
 have boy:∀G,hL (Bo reA (reB far)) G ys:=fun G=>xu ti (ony G) c2
 refine ⟨_,rfl,_,rfl,_,rfl,_,_,rfl,rfl,ai,xs,far,_,rfl,ta.tk (TK.of U8),by omega,fun H9 s9=>⟨_,rfl,iteN (by rw [c1]; rfl) ⟨_,rfl,d,_,rfl,hdG s9,_,rfl,_,rfl,_,_,rfl,rfl,b,ys,far,_,rfl,tb.tk (TK.of (U8.trans s9)),by omega,fun H10 s10=>⟨_,rfl,iteN (by rw [c2]; rfl) ?_⟩⟩⟩⟩
 have S10:=s9.trans s10
 have U10:=U8.trans S10
 have oy:=dM (o:=reA) (t:=reB far) (G:=fun _ _=>True) rfl (boy _)
 have ox:=dM (o:=reA) (t:=reB far) rfl box
 refine ⟨_,rfl,_,rfl,hh,_,_,.ref d1,rfl,rfl,SqT.of (S10 _ _ hhh8),ad (j:=0) rfl,_,rfl,hh,_,_,.ref lr2,rfl,rfl,SqT.of (S10 _ _ hhh8),ad (j:=1) rfl,ai,d1,lr2,_,[("q",b,ys)], "a", "b",xs,rfl,rl28.same S10,uq,ta.tk (TK.of U10),by omega,by omega,pd8 S10,nd1,by show 1<=10; decide,fun hn=>absurd rfl (hn _ ho),fun _ _ _ hn=>absurd rfl (hn _ ht),?_⟩
 intro o' ho' hoe t' ht' hte
 have eo:=uq o' ho' (r1,reA) ho hoe
 have et:=uq t' ht' (r2,reB far) ht hte
 subst eo et
 refine ⟨fun e he=>?_,fun xs2 ps' hxs2 hop qo a2 d2 H11 x11 rd11 hd20 hd2 hqo ta2 tp2=>?_⟩
 ·exfalso
  rw [mT,cM _ _ ox,oy] at he
  cases he
 have hxs2:ovL reA (reB far) xs=.inr xs2:=hxs2
 rw [ox] at hxs2
 cases hxs2
 obtain ⟨b2,rfl⟩:=nR hop oy
 have hd2:H11 d2=some (.dK [(.inr "q",.ref b2)]):=hd2
 have tb2:Td H11 (.ref b2) (.tuple (dL (shL (reB far).name (reA.start-(reB far).start) ys))):=tp2 _ (List.mem_singleton.mpr rfl)
 have S11:Same H7 H11:=jP U10 hd1 x11
 have nhh:hh≠d1:=bn hhh8 hd18 (by intro z; cases z)
 have nlr2:lr2≠d1:=bn hlr8 hd18 (by intro z; cases z)
 have hhh11:=x11 _ _ nhh (S10 _ _ hhh8)
 have rl11:=rl7.same S11
 have rl211:RL H11 lr2 [(r1,reA),(r2,reB far)]:=⟨x11 _ _ nlr2 (S10 _ _ hlr8),rl11.2⟩
 have ndd:d1≠d:=fun z=>by rw [z,hd] at hd1; cases hd1
 refine ⟨qo,_,rfl,SqT.of hqo,rfl,_,_,rfl,_,_,rfl,rfl,?_⟩
 refine ⟨_,rfl,_,rfl,_,rfl,(by show 2<=sizeLine; decide),fun h2 hh2=>?_⟩
 have v1:=Same.new hh2 (.tup [.ref d,.ref lr])
 have V1:=S11.trans v1
 refine ⟨hh,h2,_,_,_,_,true,true,rfl,rfl,SqT.of (v1 _ _ hhh11),SqT.of ac,lM (ony (fun _ _=>True)) (by omega) ndd (rds rd11 v1) (.inl (V1 _ _ hd)) (tb.tk (TK.of V1)) (tb.tk (TK.of V1)),qC (rl211.same v1) (rl11.same v1),_,rfl,iteN rfl ?_⟩
 have hd2v:=v1 _ _ hd2
 have ta2v:=ta2.tk (TK.of v1)
 have tb2v:=tb2.tk (TK.of v1)
 have rlv:=rl11.same v1
 generalize upd H11 h2 (.tup [.ref d,.ref lr])=H12 at v1 V1 hd2v ta2v tb2v rlv ⊢
 refine ⟨_,rfl,_,rfl,d2,_,rfl,.inl hd2v,fun d3 hd3=>⟨_,rfl,lr,_,rfl,.inl (SqL.of (Same.new hd3 (.dK [(.inr "q",.ref b2)]) _ _ rlv.1)),fun lr3 hlr3=>?_⟩⟩
 have w1':=Same.new hd3 (.dK [(.inr "q",.ref b2)])
 have w2':=Same.new hlr3 (.lst ([(r1,reA),(r2,reB far)].map fun x=>V.ref x.1))
 have W2:=w1'.trans w2'
 have rl3:RL _ lr3 [(r1,reA),(r2,reB far)]:=⟨ac (H:=upd H12 d3 (.dK [(.inr "q",.ref b2)])) (a:=lr3) (o:=.lst ([(r1,reA),(r2,reB far)].map fun x=>V.ref x.1)),(rlv.same W2).2⟩
 have pd3:PD (upd (upd H12 d3 (.dK [(.inr "q",.ref b2)])) lr3 (.lst ([(r1,reA),(r2,reB far)].map fun x=>V.ref x.1))) d3 [("q",b2,shL (reB far).name (reA.start-(reB far).start) ys)]:=⟨.inl (w2' _ _ ac),fun x hx=>by
  rw [List.mem_singleton.mp hx]
  exact ⟨tb2v.tk (TK.of W2),by show dpL _<=5; rw [iN]; omega,by show wL _<=1000; rw [ku]; omega⟩⟩
 have ta3:=ta2v.tk (TK.of W2)
 have W3:∀{G:Hp},Ex d3 (upd (upd H12 d3 (.dK [(.inr "q",.ref b2)])) lr3 (.lst ([(r1,reA),(r2,reB far)].map fun x=>V.ref x.1))) G->Same H12 G:=fun x=>jP W2 hd3 x
 generalize upd (upd H12 d3 (.dK [(.inr "q",.ref b2)])) lr3 (.lst ([(r1,reA),(r2,reB far)].map fun x=>V.ref x.1))=H13 at W2 W3 rl3 pd3 ta3 ⊢
 have bx2:=xr iJ box
 have by2:=xr iJ (boy fun _ _=>True)
 have ox2:=dM (o:=reB far) (t:=reA) rfl bx2
 have oy2:=dM (o:=reB far) (t:=reA) rfl by2
 have eback:∀{G:Str->List IT.It->Prop}{zs:List IT.It},hL (On reA) G zs->shL reA.name ((reB far).start-reA.start) (shL (reB far).name (reA.start-(reB far).start) zs)=zs:=fun hz=>fS (by omega) (fun r0 f l z=>z.1) hz
 rw [eback onx] at ox2
 rw [eback (ony fun _ _=>True)] at oy2
 refine ⟨a2,d3,lr3,_,[("q",b2,_)], "b", "a",_,rfl,rl3,uq,ta3,by rw [iN]; omega,by rw [ku]; omega,pd3,List.pairwise_singleton _ _,by show 1<=10; decide,fun hn=>absurd rfl (hn _ ht),fun _ _ _ hn=>absurd rfl (hn _ ho),?_⟩
 intro o' ho' hoe t' ht' hte
 have eo:=uq o' ho' (r2,reB far) ht hoe
 have et:=uq t' ht' (r1,reA) ho hte
 subst eo et
 refine ⟨fun e he=>?_,fun xs3 ps3 hxs3 hop3 q3 a3 d4 H14 x14 rd14 hd40 hd4 hq3 ta4 tp4=>?_⟩
 ·exfalso
  rw [mT,cM _ _ ox2,oy2] at he
  cases he
 have hxs3:ovL (reB far) reA _=.inr xs3:=hxs3
 rw [ox2] at hxs3
 cases hxs3
 obtain ⟨b4,rfl⟩:=nR hop3 oy2
 have hd4:H14 d4=some (.dK [(.inr "q",.ref b4)]):=hd4
 have tb4:Td H14 (.ref b4) (.tuple (dL ys)):=tp4 _ (List.mem_singleton.mpr rfl)
 have S14:=W3 x14
 have S14':=V1.trans S14
 refine ⟨_,rfl,_,rfl,(by show 2<=sizeLine; decide),fun h3 hh3=>?_⟩
 have y1:=Same.new hh3 (.tup [.ref ai,.ref d])
 have Y1:=S14'.trans y1
 have nd4:d4≠d:=fun z=>by
  have:=W2 _ _ (V1 _ _ hd)
  rw [<- z,hd40] at this
  cases this
 refine ⟨q3,h3,_,_,_,_,true,true,rfl,rfl,SqT.of (y1 _ _ hq3),SqT.of ac,uF onx (by omega) (ta4.tk (TK.of y1)) (ta.tk (TK.of Y1)),lM (ony (fun _ _=>True)) (by omega) nd4 (.inl (y1 _ _ hd4)) (.inl (Y1 _ _ hd)) (tb4.tk (TK.of y1)) (tb.tk (TK.of Y1)),_,rfl,iteN rfl ?_⟩
 have Z1:=S14.trans y1
 generalize upd H14 h3 (.tup [.ref ai,.ref d])=H15 at Y1 Z1 ⊢
 have rl15:=rl7.same Y1
 have okA:∀c∈bs,bK c.r/\Ck [(r1,reA),(r2,reB far)] c.r c.f c.l:=fun c hc=>by
  obtain ⟨e,l⟩:=ok c hc
  rw [e]
  exact ⟨kh,_,ho,rfl,l.f0,l.f1,l.l0,l.l1⟩
 have ok2:∀c∈bs,frC c<=9/\0<=c.d:=fun c hc=>⟨(ok c hc).2.m,(ok c hc).2.d0⟩
 refine ⟨_,rfl,_,rfl,d,_,rfl,.inl (Y1 _ _ hd),fun d5 hd5=>⟨_,rfl,lr,_,rfl,.inl (SqL.of (Same.new hd5 (.dK [(.inr "q",.ref b)]) _ _ rl15.1)),fun lr5 hlr5=>?_⟩⟩
 have a1':=Same.new hd5 (.dK [(.inr "q",.ref b)])
 have a2':=Same.new hlr5 (.lst ([(r1,reA),(r2,reB far)].map fun x=>V.ref x.1))
 have A2:=a1'.trans a2'
 have pl:=shp.plays okA ok2
 refine ⟨ai,d5,lr5,xs,Gq ys,["q"],_,rfl,ta.tk (TK.of (Y1.trans A2)),pl.wl,pl.hl,zR (.inl (a2' _ _ ac)) (tb.tk (TK.of (Y1.trans A2))),pl.pa,⟨ac,(rl15.same A2).2⟩,uq,pl.dp,pl.fq _ _ _ _,fun _ _ _ l1 H16 s16 hl10 cl1=>?_⟩
 rw [pl.fl] at cl1
 have S16:=A2.trans s16
 have Z16:=Z1.trans S16
 obtain ⟨xs',shp',exs⟩:=shp.over "b" (reA.start-(reB far).start)
 have thB:∀c∈bs,has (reB far) (c.f+(reA.start-(reB far).start))/\has (reB far) (c.l+(reA.start-(reB far).start)):=fun c hc=>by
  obtain ⟨h1,h2⟩:=shp.th c1 c2 c hc
  exact ⟨(ti _).mp h1,(ti _).mp h2⟩
 have ok':∀c∈bs.map (sh "b" (reA.start-(reB far).start)),bK c.r/\Ck [(r1,reA),(r2,reB far)] c.r c.f c.l:=fun c hc=>by
  obtain ⟨x,hx,rfl⟩:=List.mem_map.mp hc
  obtain ⟨h1,h2⟩:=thB x hx
  exact ⟨iJ,_,ht,rfl,h1.1,h1.2,h2.1,h2.2⟩
 have ok2':∀c∈bs.map (sh "b" (reA.start-(reB far).start)),frC c<=9/\0<=c.d:=fun c hc=>by
  obtain ⟨x,hx,rfl⟩:=List.mem_map.mp hc
  rw [jl]
  exact ok2 x hx
 have pl':=shp'.plays ok' ok2'
 have ta16:Td H16 (.ref a2) (.tuple (dL xs')):=by rw [exs]; exact ta2v.tk (TK.of Z16)
 have rl16:=rl15.same S16
 refine ⟨_,rfl,_,rfl,d2,_,rfl,.inl (Z16 _ _ hd2v),fun d6 hd6=>⟨_,rfl,lr,_,rfl,.inl (SqL.of (Same.new hd6 (.dK [(.inr "q",.ref b2)]) _ _ rl16.1)),fun lr6 hlr6=>?_⟩⟩
 have b1':=Same.new hd6 (.dK [(.inr "q",.ref b2)])
 have b2':=Same.new hlr6 (.lst ([(r1,reA),(r2,reB far)].map fun x=>V.ref x.1))
 have B2:=b1'.trans b2'
 refine ⟨a2,d6,lr6,xs',Gq _,["q"],_,rfl,ta16.tk (TK.of B2),pl'.wl,pl'.hl,zR (.inl (b2' _ _ ac)) (tb2v.tk (TK.of (Z16.trans B2))),pl'.pa,⟨ac,(rl16.same B2).2⟩,uq,pl'.dp,pl'.fq _ _ _ _,fun _ _ _ l2 H17 s17 hl20 cl2=>?_⟩
 rw [pl'.fl] at cl2
 have S17:=B2.trans s17
 have cl1:=aO cl1 S17
 have rl17:=rl16.same S17
 have S17':Same H H17:=S7.trans (Y1.trans (S16.trans S17))
 have tab17:TabOk T ke kc H17:=(TabOk.new hT).same S17'
 have hfB:∀c∈fs,has (reB far) (c.f+(reA.start-(reB far).start))/\has (reB far) (c.l+(reA.start-(reB far).start)):=fun c hc=>by
  obtain ⟨⟨e,he,_,k⟩,_⟩:=(shp.film (fun c hc=>(ok2 c hc).1) fun c hc=>(ok2 c hc).2).2.2.2 c hc
  obtain ⟨h1,h2⟩:=thB e he
  rcases k with ⟨k1,k2⟩ | ⟨k1,k2⟩ <;> rw [k1,k2]
  ·exact ⟨h1,h2⟩
  ·exact ⟨h2,h1⟩
 obtain ⟨us2,hus2,tus2⟩:=id cl2
 have lu2:us2.length=fs.length:=by rw [tus2.len,List.length_map,List.length_map]
 have fl60:=fm.len
 refine ⟨_,rfl,l2,rfl,⟨_,SqL.of hus2⟩,cq (K:=K) (List.replicate fs.length (V.bl false)) (SqL.of hus2) (by omega) (by rw [List.length_replicate,lu2]) ?_ ?_⟩
 ·intro i x y G R sG hx hy hR
  obtain ⟨dd,hdd,tv⟩:=(tus2.tk (TK.of sG)).get hx
  obtain ⟨c,hc,rfl⟩:=gg hdd
  obtain ⟨ca,rfl,hca⟩:=eY tv
  have hcr:c.r="b":=by
   rw [List.getElem?_map] at hc
   cases z:fs[i]? with
   | none=>rw [z] at hc; cases hc
   | some x=>rw [z] at hc; cases hc; rfl
  obtain rfl:y=V.bl false:=(List.mem_replicate.mp (List.mem_of_getElem? hy)).2
  refine ⟨_,rfl,ca,_,_,.str c.r,rfl,rfl,SqT.of hca,ad (j:=0) rfl,rfl,?_⟩
  have e:(!decide (V.str c.r=V.str "b"))=false:=by rw [hcr]; simp
  show R (.bl (!decide (V.str c.r=V.str "b"))) G
  rw [e]
  exact hR G (Same.refl _)
 intro D H18 s18 hD0 hD
 refine ⟨D,List.replicate fs.length false,rfl,SqL.of (by rw [List.map_replicate]; exact hD),rfl,_,rfl,iteN (qG _) ?_⟩
 have rl18:=rl17.same s18
 refine ⟨_,rfl,_,rfl,lr,l1,_,(r1,reA),fs,rfl,rl18,uq,ho,aO cl1 s18,by omega,fun c hc=>⟨fm.r c hc,(fm.f c hc).1,(fm.f c hc).2,by have:=fm.m c hc; omega⟩,fun e1 H19 s19 he10 k1=>?_⟩
 refine ⟨_,rfl,_,rfl,lr,l2,_,(r2,reB far),_,rfl,rl18.same s19,uq,ht,aO cl2 (s18.trans s19),by rw [List.length_map]; omega,fun c hc=>?_,fun e2 H20 s20 he20 k2=>?_⟩
 ·obtain ⟨x,hx,rfl⟩:=List.mem_map.mp hc
  exact ⟨rfl,(hfB x hx).1,(hfB x hx).2,by rw [jl]; have:=fm.m x hx; omega⟩
 have ek:(fs.map (sh "b" (reA.start-(reB far).start))).map (bA (reB far))=fs.map (bA reA):=by
  rw [List.map_map]
  exact List.map_congr_left fun c _=>wa far c
 have k2:Kll H20 e2 (fs.map (bA reA)):=by rw [<- ek]; exact k2
 have lk:(PyData.list ((fs.map (bA reA)).map fun ks=>.list (ks.map kD))).canLay0=true:=by
  rw [PyData.canLay0]
  refine om _ fun ks hks k hk=>?_
  obtain ⟨c,_,rfl⟩:=List.mem_map.mp hks
  unfold bA at hk
  obtain ⟨n,_,rfl⟩:=List.mem_map.mp hk
  exact ki
 refine ⟨.list ((fs.map (bA reA)).map fun ks=>.list (ks.map kD)),.list ((fs.map (bA reA)).map fun ks=>.list (ks.map kD)),(k1.same s20).den,k2.den,lk,lk,Nat.le_trans (Nat.min_le_left _ _) (by rw [PyData.depth]; have:=oO (fs.map (bA reA)); omega),_,rfl,iteN (by rw [PySem.SeqAt.eqv_refl _ lk]; rfl) ?_⟩
 have T20:=(s18.trans s19).trans s20
 refine ⟨_,rfl,a,ns,0,rfl,(S17'.trans T20).seq hS,fun H21 s21=>⟨_,_,rfl,rfl,(by show (0:Int)<6; decide),?_⟩⟩
 have T21:=T20.trans s21
 have sp0:0<=bI ns 0 % 6:=Int.emod_nonneg _ (by decide)
 have okK:∀c∈fs,KS.COk 1000 1000 (toK c):=fun c hc=>by
  have h:=uC (c:=c) (far:=far) (r:="a") (k:=0) (by decide) kh (by have:=(fm.f c hc).1; unfold has at this; have e:reA.many=300:=rfl; omega) (by have:=(fm.f c hc).2; unfold has at this; have e:reA.many=300:=rfl; omega) (fm.d0 c hc) (fm.d1 c hc) (fm.m c hc)
  have e:sh "a" 0 c=c:=by
   show (⟨"a",c.f+0,c.l+0,c.d⟩:Cl)=c
   rw [Int.add_zero,Int.add_zero,<- fm.r c hc]
  rw [e] at h
  exact h
 have okK':∀c∈fs.map (sh "b" (reA.start-(reB far).start)),KS.COk 1000 1000 (toK c):=fun c hc=>by
  obtain ⟨x,hx,rfl⟩:=List.mem_map.mp hc
  exact uC (far:=far) (by decide) iJ (by have:=(hfB x hx).1; unfold has at this; have e:(reB far).many=300:=rfl; omega) (by have:=(hfB x hx).2; unfold has at this; have e:(reB far).many=300:=rfl; omega) (fm.d0 x hx) (fm.d1 x hx) (fm.m x hx)
 generalize hsp:bI ns 0 % 6=spo at sp0
 have tab21:=tab17.same T21
 have cl121:=aO cl1 T21
 have cl221:=aO cl2 T21
 obtain ⟨ps1,kc1,ep1⟩:=oV cl121 okK
 have lp1:ps1.length=fs.length:=by have:=congrArg List.length ep1; rwa [List.length_map,List.length_map] at this
 have hfr:∀c∈fs.map toK,c.reel="a":=fun c hc=>by
  obtain ⟨x,hx,rfl⟩:=List.mem_map.mp hc
  exact fm.r x hx
 have hff:∀c∈fs.map toK,0<=c.f:=fun c hc=>by
  obtain ⟨x,hx,rfl⟩:=List.mem_map.mp hc
  exact fm.d0 x hx
 obtain ⟨esh,erl⟩:=pB (r:="b") (k:=reA.start-(reB far).start) hfr
 have sne:=pC (gx fm.ne) hff
 have sln:=lZ (fs.map toK)
 rw [List.length_map] at sln
 refine ⟨_,rfl,l1,ps1,1000,rfl,kc1,by decide,by omega,fun ls1 rs1 H22 s22 hls10 sl1 er1=>?_⟩
 rw [ep1] at er1
 have lr1:rs1.length=(KS.stripsR (KS.moments (fs.map toK))).length:=by rw [<- er1,List.length_map]
 have mr1:∀x∈rs1,x.2.reel="a":=fun x hx=>erl _ (by rw [<- er1]; exact List.mem_map_of_mem hx)
 refine ⟨_,rfl,ls1,rs1.reverse,_, "a",rfl,⟨sl1.1,fun x hx=>sl1.2 x (List.mem_reverse.mp hx)⟩,by rw [List.length_reverse]; omega,?_,fun x hx=>mr1 x (List.mem_reverse.mp hx),(by show 0<=bI ns 0 % 6; rw [hsp]; exact sp0),tab21.same s22,fun D1 t1 pr1 m1 H23 bt23 tab23 hD1 ht1 pk1 hm1 hx1=>?_⟩
 ·intro z
  rw [List.reverse_eq_nil_iff.mp z] at er1
  exact sne er1.symm
 obtain ⟨tp22,hT22⟩:=(tab21.same s22).at
 refine ⟨D1,rfl,⟨_,SqL.of hD1⟩,cq (K:=K) [V.int ((m1:Nat):Int)] (SqL.of hD1) (by show 1<=sizeLine; decide) rfl ?_ ?_⟩
 ·intro i x y G R sG hx hy hR
  match i,hx,hy with
  | 0,hx,hy =>
   cases hx
   cases hy
   exact ⟨_,rfl,t1,_,_,_,rfl,rfl,SqT.of (sG _ _ ht1),ad (j:=1) rfl,hR G (Same.refl _)⟩
 intro M1 H24 s24 hM10 hM1
 have cl124:=aO (oW (aO cl121 s22) hT22 bt23) s24
 have cl224:=aO (oW (aO cl221 s22) hT22 bt23) s24
 have tab24:=tab23.same s24
 obtain ⟨ps2,kc2,ep2⟩:=oV cl224 okK'
 have lp2:ps2.length=fs.length:=by have:=congrArg List.length ep2; rwa [List.length_map,List.length_map,List.length_map] at this
 refine ⟨_,rfl,_,rfl,l2,ps2,1000,rfl,kc2,by decide,by omega,fun ls2 rs2 H25 s25 hls20 sl2 er2=>?_⟩
 rw [ep2,shm,esh] at er2
 have lr2':rs2.length=(KS.stripsR (KS.moments (fs.map toK))).length:=by have:=congrArg List.length er2; rwa [List.length_map,List.length_map] at this
 have mr2:∀x∈rs2,x.2.reel="b":=fun x hx=>by
  have hm:x.2∈(KS.stripsR (KS.moments (fs.map toK))).map (shK "b" (reA.start-(reB far).start)):=by rw [<- er2]; exact List.mem_map_of_mem hx
  obtain ⟨c,_,e⟩:=List.mem_map.mp hm
  rw [<- e]
  rfl
 refine ⟨_,rfl,ls2,rs2.reverse,_, "b",rfl,⟨sl2.1,fun x hx=>sl2.2 x (List.mem_reverse.mp hx)⟩,by rw [List.length_reverse]; omega,?_,fun x hx=>mr2 x (List.mem_reverse.mp hx),(by show 0<=bI ns 0 % 6; rw [hsp]; exact sp0),tab24.same s25,fun D2 t2 pr2 m2 H26 bt26 tab26 hD2 ht2 pk2 hm2 hx2=>?_⟩
 ·intro z
  rw [List.reverse_eq_nil_iff.mp z] at er2
  exact gx sne er2.symm
 obtain ⟨tp25,hT25⟩:=(tab24.same s25).at
 have em:m1=m2:=by
  have e1:=rA (sp:=bI ns 0 % 6) er1
  have e2:=rA (sp:=bI ns 0 % 6) er2
  rw [<- List.map_reverse] at e2
  have pk1:KS.PrOk (rs1.reverse.map fun x=>KS.ivOf (bI ns 0 % 6) x.2) pr1:=pk1
  have pk2:KS.PrOk (rs2.reverse.map fun x=>KS.ivOf (bI ns 0 % 6) x.2) pr2:=pk2
  rw [e1] at pk1
  rw [e2] at pk2
  exact vY (r0:="a") (by rw [hsp]; exact sp0) (fun c hc=>erl c (List.mem_reverse.mp hc)) pk1 pk2 hm1 hx1 hm2 hx2
 refine ⟨D2,rfl,⟨_,SqL.of hD2⟩,cq (K:=K) [V.int ((m2:Nat):Int)] (SqL.of hD2) (by show 1<=sizeLine; decide) rfl ?_ ?_⟩
 ·intro i x y G R sG hx hy hR
  match i,hx,hy with
  | 0,hx,hy =>
   cases hx
   cases hy
   exact ⟨_,rfl,t2,_,_,_,rfl,rfl,SqT.of (sG _ _ ht2),ad (j:=1) rfl,hR G (Same.refl _)⟩
 intro M2 H27 s27 hM20 hM2
 subst em
 have hM127:H27 M1=some (.lst [.int ((m1:Nat):Int)]):=by
  have h25:=s25 _ _ hM1
  exact s27 _ _ (bt26 _ _ (bn h25 hT25 (by intro z; cases z)) h25)
 have lm:(PyData.list [.int ((m1:Nat):Int)]).canLay0=true:=by simp [PyData.canLay0,PyData.canLayAll0]
 refine ⟨.list [.int ((m1:Nat):Int)],.list [.int ((m1:Nat):Int)],.lst (SqL.of hM127) (.cons (.int _) .nil),.lst (SqL.of hM2) (.cons (.int _) .nil),lm,lm,by simp [PyData.depth,PyData.depthAll],_,rfl,iteN (by rw [PySem.SeqAt.eqv_refl _ lm]; rfl) ?_⟩
 have cl127:=aO (oW (aO cl124 s25) hT25 bt26) s27
 have cl227:=aO (oW (aO cl224 s25) hT25 bt26) s27
 obtain ⟨ps3,kc3,ep3⟩:=oV cl127 okK
 have lp3:ps3.length=fs.length:=by have:=congrArg List.length ep3; rwa [List.length_map,List.length_map] at this
 refine ⟨_,rfl,l1,ps3,1000,rfl,kc3,by decide,by omega,fun H28 s28=>?_⟩
 obtain ⟨ps4,kc4,ep4⟩:=oV (aO cl227 s28) okK'
 have lp4:ps4.length=fs.length:=by have:=congrArg List.length ep4; rwa [List.length_map,List.length_map,List.length_map] at this
 refine ⟨_,rfl,l2,ps4,1000,rfl,kc4,by decide,by omega,fun H29 s29=>⟨rfl,_,rfl,iteY ?_ ?_⟩⟩
 ·rw [ep3,ep4,shm,esh,List.length_map]
  exact decide_eq_true rfl
 refine ⟨_,rfl,l1,fs,rfl,aO cl127 (s28.trans s29),by omega,fun H30 s30=>⟨_,rfl,l2,_,rfl,aO cl227 ((s28.trans s29).trans s30),by rw [List.length_map]; omega,fun H31 s31=>⟨rfl,?_⟩⟩⟩
 rw [yJ]
 have e:decide (V.int (qa fs)=V.int (qa fs))=true:=decide_eq_true rfl
 rw [e]
 exact q H31
end
end K57
namespace L2
open PySem PySem.Spec PyProof.Rows
structure fH (K:PySem.W.Frag) (C:Addr) (qual:Str) (st:Stmt):Prop where
 ex:∃fI fd,dW K C fI/\Fun K "__init__" qual st fI fd
 xc:mV K C
 ek:iW K C
 ec:∃bm id,ExcC K C bm id
theorem initIn_mk {K:PySem.W.Frag}{C fI:Addr}{qual:Str}{st:Stmt}{oc:Value}{od an:Option Addr}{osl:Array (Option Value)}{kV doc pm cdv ct:Value}{cd:ClassData}
  {bm bs sub:List Value}{NN:Addr}{nm qn:Str}{hd ab:Bool}{sn:List Str}{col:Option Bool}{dd:Option Addr}{k0 k1 k2 k3 k5:Option Value}
  (hi:PySem.W.findIn K (.ref C) "__init__"=some (some (.ref fI))) (ht:PySem.W.typeIn K (.ref fI)=some (.type "function"))
  (l:K.lookup fI=some ⟨oc,od,.func (PySem.W.fnOf "__init__" qual (bS st) (bq st) (ak st) .none kV doc pm an cdv ct),osl⟩) (cc:PySem.W.codeIn K cdv qual=true) (kk:PySem.W.keepIn K (.ref fI)=true)
  (lC:K.lookup C=some (excClassObj nm qn C NN bs bm hd sn sub ab col dd k0 k1 k2 k3 k5 "ValueError.__new__")) (tl:PySem.W.tailIn K bmVE bm=true)
  (hcd:PySem.W.clsIn K C=some cd) (ho:cG cd.mro=true) (hdd:cd.hasDict=true) (sa:PySem.W.findIn K (.ref C) "__setattr__"=some (some (.builtin "object.__setattr__")))
  (hm:PySem.W.mroIn K C (.type "BaseException")=some true) (hmo:PySem.W.mroIn K C (.type "object")=some true) (hga:PySem.W.findIn K (.ref C) "__getattribute__"=some (some (.builtin "BaseException.__getattribute__"))) (hgn:PySem.W.findIn K (.ref C) "__getattr__"=some none)
  (hc:(PySem.W.clsIn K C).isSome=true) (ha:PySem.W.findIn K (.ref C) "__class__"=some (some (.builtin "object.__class__"))) (hn:PySem.W.specialIn K (.builtin "object.__class__") "__get__"=some (some (.builtin "getset_descriptor.__get__")))
  (htk:PySem.W.takesIn K (.builtin "object.__class__")=some true):fH K C qual st :=
 ⟨⟨fI,_,⟨⟨nm,qn,NN,bs,bm,hd,sn,sub,ab,col,dd,k0,k1,k2,k3,k5,lC,tl⟩,hi,ht⟩,mH l cc kk⟩,⟨⟨cd,hcd,ho,hdd⟩,sa⟩,⟨hm,hmo,hga,hgn,hc,ha,hn,htk⟩,⟨bm,_,.mk lC⟩⟩
theorem funT_of {K:PySem.W.Frag}{x:Str}{st:Stmt}{f c T:Addr}{oc:Value}{od an:Option Addr}{osl:Array (Option Value)}{kV doc pm cdv ct:Value}(a:PySem.W.nsIn K mainGlobals x=some (some (.ref f)))
  (l:K.lookup f=some ⟨oc,od,.func (PySem.W.fnOf x x (bS st) (bq st) (ak st) .none kV doc pm an cdv ct),osl⟩) (cI:PySem.W.codeIn K cdv x=true) (k:PySem.W.keepIn K (.ref f)=true) (e:cdv=.ref c) (h:PySem.W.codeHdIn K c T=true):zn K x st c T :=
 ⟨h,f,_,a,mH l cI k,e⟩
end L2
namespace K57
open PySem L2 G
structure CsIn (K:PySem.W.Frag) (c:Cs) (n:Addr) (b:Nat->Bool):Prop where
 ms:PySem.W.nsIn K mainGlobals "SpliceError"=some (some (.ref c.s))
 m0:PySem.W.nsIn K mainGlobals "NoKey"=some (some (.ref c.c0))
 m1:PySem.W.nsIn K mainGlobals "NoReel"=some (some (.ref c.c1))
 m2:PySem.W.nsIn K mainGlobals "NoFrame"=some (some (.ref c.c2))
 m3:PySem.W.nsIn K mainGlobals "NoName"=some (some (.ref c.c3))
 m4:PySem.W.nsIn K mainGlobals "NoList"=some (some (.ref c.c4))
 m5:PySem.W.nsIn K mainGlobals "NoFade"=some (some (.ref c.c5))
 m6:PySem.W.nsIn K mainGlobals "TooMany"=some (some (.ref c.c6))
 m7:PySem.W.nsIn K mainGlobals "TooShort"=some (some (.ref c.c7))
 m8:PySem.W.nsIn K mainGlobals "NoPlace"=some (some (.ref c.c8))
 m9:PySem.W.nsIn K mainGlobals "NoRow"=some (some (.ref c.c9))
 ks:PySem.W.kitOne K (.ref n) (.ref c.s)=some true
 kv:PySem.W.kitOne K (.ref n) (.type "ValueError")=some true
 k0:PySem.W.kitOne K (.ref n) (.ref c.c0)=some (b 0)
 k1:PySem.W.kitOne K (.ref n) (.ref c.c1)=some (b 1)
 k2:PySem.W.kitOne K (.ref n) (.ref c.c2)=some (b 2)
 k3:PySem.W.kitOne K (.ref n) (.ref c.c3)=some (b 3)
 k4:PySem.W.kitOne K (.ref n) (.ref c.c4)=some (b 4)
 k5:PySem.W.kitOne K (.ref n) (.ref c.c5)=some (b 5)
 k6:PySem.W.kitOne K (.ref n) (.ref c.c6)=some (b 6)
 k7:PySem.W.kitOne K (.ref n) (.ref c.c7)=some (b 7)
 k8:PySem.W.kitOne K (.ref n) (.ref c.c8)=some (b 8)
 k9:PySem.W.kitOne K (.ref n) (.ref c.c9)=some (b 9)
theorem CsIn.ok {K:PySem.W.Frag}{c:Cs}{n:Addr}{b:Nat->Bool}{h:Heap}{mg:Str->Option Value}(X:K.In h) (G:h.Ns mainGlobals mg) (C:CsIn K c n b) (ex:iW K n):zp K mg c n b :=
 ⟨PySem.W.mg_of X G C.ms,PySem.W.mg_of X G C.m0,PySem.W.mg_of X G C.m1,PySem.W.mg_of X G C.m2,PySem.W.mg_of X G C.m3,PySem.W.mg_of X G C.m4,PySem.W.mg_of X G C.m5,PySem.W.mg_of X G C.m6,PySem.W.mg_of X G C.m7,PySem.W.mg_of X G C.m8,PySem.W.mg_of X G C.m9,C.ks,C.kv,C.k0,C.k1,C.k2,C.k3,C.k4,C.k5,C.k6,C.k7,C.k8,C.k9,ex⟩
structure CAll (K:PySem.W.Frag) (c:Cs):Prop where
 C2:CsIn K c c.c2 (isK 2)
 eS:∃bmS idS,ExcC K c.s bmS idS/\bmS.contains (.type "BaseException")=true
 e2:∃bm id,ExcC K c.c2 bm id/\(Value.ref c.c2 :: bm).contains (.ref c.s)=true
 e3:∃bm id,ExcC K c.c3 bm id/\(Value.ref c.c3 :: bm).contains (.ref c.s)=true
 e5:∃bm id,ExcC K c.c5 bm id/\(Value.ref c.c5 :: bm).contains (.ref c.s)=true
 e6:∃bm id,ExcC K c.c6 bm id/\(Value.ref c.c6 :: bm).contains (.ref c.s)=true
 e7:∃bm id,ExcC K c.c7 bm id/\(Value.ref c.c7 :: bm).contains (.ref c.s)=true
 i2:fH K c.c2 "NoFrame.__init__" bF
 i3:fH K c.c3 "NoName.__init__" bR
 i7:fH K c.c7 "TooShort.__init__" bz
 x2_reel:XNo K c.c2 "reel"
 x2_frame:XNo K c.c2 "frame"
 x3_name:XNo K c.c3 "name"
 x7_number:XNo K c.c7 "number"
 kx5:iW K c.c5
 kq5:PySem.W.excIn K c.c5 bmVE "ValueError.__new__"=true
 kx6:iW K c.c6
 kq6:PySem.W.excIn K c.c6 bmVE "ValueError.__new__"=true
theorem cs_mk {K:PySem.W.Frag}{s c0 c1 c2 c3 c4 c5 c6 c7 c8 c9:Addr}(ms:PySem.W.nsIn K mainGlobals "SpliceError"=some (some (.ref s))) (m0:PySem.W.nsIn K mainGlobals "NoKey"=some (some (.ref c0))) (m1:PySem.W.nsIn K mainGlobals "NoReel"=some (some (.ref c1))) (m2:PySem.W.nsIn K mainGlobals "NoFrame"=some (some (.ref c2))) (m3:PySem.W.nsIn K mainGlobals "NoName"=some (some (.ref c3))) (m4:PySem.W.nsIn K mainGlobals "NoList"=some (some (.ref c4))) (m5:PySem.W.nsIn K mainGlobals "NoFade"=some (some (.ref c5))) (m6:PySem.W.nsIn K mainGlobals "TooMany"=some (some (.ref c6))) (m7:PySem.W.nsIn K mainGlobals "TooShort"=some (some (.ref c7))) (m8:PySem.W.nsIn K mainGlobals "NoPlace"=some (some (.ref c8))) (m9:PySem.W.nsIn K mainGlobals "NoRow"=some (some (.ref c9)))
  (k2s:PySem.W.kitOne K (.ref c2) (.ref s)=some true) (k2v:PySem.W.kitOne K (.ref c2) (.type "ValueError")=some true) (k20:PySem.W.kitOne K (.ref c2) (.ref c0)=some false) (k21:PySem.W.kitOne K (.ref c2) (.ref c1)=some false) (k22:PySem.W.kitOne K (.ref c2) (.ref c2)=some true) (k23:PySem.W.kitOne K (.ref c2) (.ref c3)=some false) (k24:PySem.W.kitOne K (.ref c2) (.ref c4)=some false) (k25:PySem.W.kitOne K (.ref c2) (.ref c5)=some false) (k26:PySem.W.kitOne K (.ref c2) (.ref c6)=some false) (k27:PySem.W.kitOne K (.ref c2) (.ref c7)=some false) (k28:PySem.W.kitOne K (.ref c2) (.ref c8)=some false) (k29:PySem.W.kitOne K (.ref c2) (.ref c9)=some false)
  {bmS bsS subS:List Value}{idS:String}{NS:Addr}{nmS qnS:Str}{hdS abS:Bool}{snS:List Str}{colS:Option Bool}{ddS:Option Addr}{aS0 aS1 aS2 aS3 aS5:Option Value}
  {bmQ2 bsQ2 subQ2:List Value}{idQ2:String}{NQ2:Addr}{nmQ2 qnQ2:Str}{hdQ2 abQ2:Bool}{snQ2:List Str}{colQ2:Option Bool}{ddQ2:Option Addr}{aQ20 aQ21 aQ22 aQ23 aQ25:Option Value}
  {bmQ3 bsQ3 subQ3:List Value}{idQ3:String}{NQ3:Addr}{nmQ3 qnQ3:Str}{hdQ3 abQ3:Bool}{snQ3:List Str}{colQ3:Option Bool}{ddQ3:Option Addr}{aQ30 aQ31 aQ32 aQ33 aQ35:Option Value}
  {bmQ5 bsQ5 subQ5:List Value}{idQ5:String}{NQ5:Addr}{nmQ5 qnQ5:Str}{hdQ5 abQ5:Bool}{snQ5:List Str}{colQ5:Option Bool}{ddQ5:Option Addr}{aQ50 aQ51 aQ52 aQ53 aQ55:Option Value}
  {bmQ6 bsQ6 subQ6:List Value}{idQ6:String}{NQ6:Addr}{nmQ6 qnQ6:Str}{hdQ6 abQ6:Bool}{snQ6:List Str}{colQ6:Option Bool}{ddQ6:Option Addr}{aQ60 aQ61 aQ62 aQ63 aQ65:Option Value}
  {bmQ7 bsQ7 subQ7:List Value}{idQ7:String}{NQ7:Addr}{nmQ7 qnQ7:Str}{hdQ7 abQ7:Bool}{snQ7:List Str}{colQ7:Option Bool}{ddQ7:Option Addr}{aQ70 aQ71 aQ72 aQ73 aQ75:Option Value}
  (lS:K.lookup s=some (excClassObj nmS qnS s NS bsS bmS hdS snS subS abS colS ddS aS0 aS1 aS2 aS3 aS5 idS))
  (lQ2:K.lookup c2=some (excClassObj nmQ2 qnQ2 c2 NQ2 bsQ2 bmQ2 hdQ2 snQ2 subQ2 abQ2 colQ2 ddQ2 aQ20 aQ21 aQ22 aQ23 aQ25 idQ2))
  (lQ3:K.lookup c3=some (excClassObj nmQ3 qnQ3 c3 NQ3 bsQ3 bmQ3 hdQ3 snQ3 subQ3 abQ3 colQ3 ddQ3 aQ30 aQ31 aQ32 aQ33 aQ35 idQ3))
  (lQ5:K.lookup c5=some (excClassObj nmQ5 qnQ5 c5 NQ5 bsQ5 bmQ5 hdQ5 snQ5 subQ5 abQ5 colQ5 ddQ5 aQ50 aQ51 aQ52 aQ53 aQ55 idQ5))
  (lQ6:K.lookup c6=some (excClassObj nmQ6 qnQ6 c6 NQ6 bsQ6 bmQ6 hdQ6 snQ6 subQ6 abQ6 colQ6 ddQ6 aQ60 aQ61 aQ62 aQ63 aQ65 idQ6))
  (lQ7:K.lookup c7=some (excClassObj nmQ7 qnQ7 c7 NQ7 bsQ7 bmQ7 hdQ7 snQ7 subQ7 abQ7 colQ7 ddQ7 aQ70 aQ71 aQ72 aQ73 aQ75 idQ7))
  (hbS:bmS.contains (.type "BaseException")=true) (hup2:(Value.ref c2 :: bmQ2).contains (.ref s)=true) (hup3:(Value.ref c3 :: bmQ3).contains (.ref s)=true) (hup5:(Value.ref c5 :: bmQ5).contains (.ref s)=true) (hup6:(Value.ref c6 :: bmQ6).contains (.ref s)=true) (hup7:(Value.ref c7 :: bmQ7).contains (.ref s)=true) (I2:fH K c2 "NoFrame.__init__" bF) (I3:fH K c3 "NoName.__init__" bR) (I7:fH K c7 "TooShort.__init__" bz) (x2_reel:PySem.W.findIn K (.ref c2) "reel"=some none) (x2_frame:PySem.W.findIn K (.ref c2) "frame"=some none) (x3_name:PySem.W.findIn K (.ref c3) "name"=some none) (x7_number:PySem.W.findIn K (.ref c7) "number"=some none) (kx5:iW K c5) (kq5:PySem.W.excIn K c5 bmVE "ValueError.__new__"=true) (kx6:iW K c6) (kq6:PySem.W.excIn K c6 bmVE "ValueError.__new__"=true):∃c:Cs,CAll K c :=
 ⟨⟨s,c0,c1,c2,c3,c4,c5,c6,c7,c8,c9⟩,⟨ms,m0,m1,m2,m3,m4,m5,m6,m7,m8,m9,k2s,k2v,k20,k21,k22,k23,k24,k25,k26,k27,k28,k29⟩,⟨bmS,idS,.mk lS,hbS⟩,⟨bmQ2,idQ2,.mk lQ2,hup2⟩,⟨bmQ3,idQ3,.mk lQ3,hup3⟩,⟨bmQ5,idQ5,.mk lQ5,hup5⟩,⟨bmQ6,idQ6,.mk lQ6,hup6⟩,⟨bmQ7,idQ7,.mk lQ7,hup7⟩,I2,I3,I7,x2_reel,x2_frame,x3_name,x7_number,kx5,kq5,kx6,kq6⟩
structure DsIn (K:PySem.W.Frag) (c T:Addr):Prop where
 whole:aC K "is_whole" fj
 named:aC K "reel_named" dz
 hasF:aC K "has_frame" ez
 bears:aC K "bears" jX
 keyOf:aC K "key_of" ik
 frameOf:aC K "frame_of" fz
 br:aC K "brought_over" cB
 over:aC K "over_items" dB
 oclip:aC K "over_clip" eu
 sound:aC K "sound" jR
 look:aC K "look_through" cx
 lclip:aC K "look_at_clip" cA
 lfade:aC K "look_at_fade" cz
 isF:aC K "is_fade" gt
 lpart:aC K "look_at_part" cy
 played:aC K "played" ii
 clipsOf:aC K "clips_of" fB
 clipsI:aC K "clips_of_item" b_
 fadedIn:aC K "faded_in" fA
 backw:aC K "backwards" eB
 frIn:aC K "frames_in" eA
 rfilm:aC K "refuse_film" cT
 rmany:aC K "refuse_many" cR
 rshort:aC K "refuse_short" cv
 least:aC K "least" jU
 gr:aC K "greatest" fu
 pr:zn K "prints_for" dA c T
 free:aC K "first_free" dE
 put:aC K "put_end" gq
 needs:aC K "needs" jT
 way:aC K "way_of" ig
 nos:aC K "numbers_of" dD
 len:aC K "length" ij
 strips:aC K "strips_of" ej
 take:aC K "take_frame" du
 can:aC K "can_have" fD
 joins:aC K "joins" jV
 cell:aC K "_law_cell" eE
 num:aC K "_law_numbers" cE
 only:aC K "_law_only" eC
 clips:aC K "_law_clips" dH
 frames:aC K "_law_frames" cU
 list':aC K "_law_list" eD
 edges:aC K "_law_edges" dG
 there:aC K "_law_there" dF
 ref:aC K "_law_refused" cD
 law:aC K "law" rn
structure NsIn (K:PySem.W.Frag) (t:Nat->Tok):Prop where
 na:PySem.W.nsIn K mainGlobals "NAME"=some (some (.int 0 (t 0)))
 le:PySem.W.nsIn K mainGlobals "LETTERS"=some (some (.int 1 (t 1)))
 st:PySem.W.nsIn K mainGlobals "START"=some (some (.int 2 (t 2)))
 ma:PySem.W.nsIn K mainGlobals "MANY"=some (some (.int 3 (t 3)))
 mc:PySem.W.nsIn K mainGlobals "MOST_CLIPS"=some (some (.int 100 (t 4)))
 mf:PySem.W.nsIn K mainGlobals "MOST_FRAMES"=some (some (.int 2000 (t 5)))
 zisi:PySem.W.nsIn K mainGlobals "isinstance"=some none
 zlen:PySem.W.nsIn K mainGlobals "len"=some none
 zint:PySem.W.nsIn K mainGlobals "int"=some none
 zbool:PySem.W.nsIn K mainGlobals "bool"=some none
 ztup:PySem.W.nsIn K mainGlobals "tuple"=some none
 zrng:PySem.W.nsIn K mainGlobals "range"=some none
 zabs:PySem.W.nsIn K mainGlobals "abs"=some none
 zmin:PySem.W.nsIn K mainGlobals "min"=some none
 zmax:PySem.W.nsIn K mainGlobals "max"=some none
 zlst:PySem.W.nsIn K mainGlobals "list"=some none
 zdic:PySem.W.nsIn K mainGlobals "dict"=some none
 zenu:PySem.W.nsIn K mainGlobals "enumerate"=some none
 zrev:PySem.W.nsIn K mainGlobals "reversed"=some none
 zsum:PySem.W.nsIn K mainGlobals "sum"=some none
 zzip:PySem.W.nsIn K mainGlobals "zip"=some none
 zsort:PySem.W.nsIn K mainGlobals "sorted"=some none
 zany:PySem.W.nsIn K mainGlobals "any"=some none
 zval:PySem.W.nsIn K mainGlobals "ValueError"=some none
theorem ns_mk {K:PySem.W.Frag}{t0:Tok}{i0:Int}{t1:Tok}{i1:Int}{t2:Tok}{i2:Int}{t3:Tok}{i3:Int}{t4:Tok}{i4:Int}{t5:Tok}{i5:Int}(a0:PySem.W.nsIn K mainGlobals "NAME"=some (some (.int i0 t0))) (a1:PySem.W.nsIn K mainGlobals "LETTERS"=some (some (.int i1 t1))) (a2:PySem.W.nsIn K mainGlobals "START"=some (some (.int i2 t2))) (a3:PySem.W.nsIn K mainGlobals "MANY"=some (some (.int i3 t3))) (a4:PySem.W.nsIn K mainGlobals "MOST_CLIPS"=some (some (.int i4 t4))) (a5:PySem.W.nsIn K mainGlobals "MOST_FRAMES"=some (some (.int i5 t5))) (e0:i0=0) (e1:i1=1) (e2:i2=2) (e3:i3=3) (e4:i4=100) (e5:i5=2000)
  (b0:PySem.W.nsIn K mainGlobals "isinstance"=some none) (b1:PySem.W.nsIn K mainGlobals "len"=some none) (b2:PySem.W.nsIn K mainGlobals "int"=some none) (b3:PySem.W.nsIn K mainGlobals "bool"=some none) (b4:PySem.W.nsIn K mainGlobals "tuple"=some none) (b5:PySem.W.nsIn K mainGlobals "range"=some none) (b6:PySem.W.nsIn K mainGlobals "abs"=some none) (b7:PySem.W.nsIn K mainGlobals "min"=some none) (b8:PySem.W.nsIn K mainGlobals "max"=some none) (b9:PySem.W.nsIn K mainGlobals "list"=some none) (b10:PySem.W.nsIn K mainGlobals "dict"=some none) (b11:PySem.W.nsIn K mainGlobals "enumerate"=some none) (b12:PySem.W.nsIn K mainGlobals "reversed"=some none) (b13:PySem.W.nsIn K mainGlobals "sum"=some none) (b14:PySem.W.nsIn K mainGlobals "zip"=some none) (b15:PySem.W.nsIn K mainGlobals "sorted"=some none) (b16:PySem.W.nsIn K mainGlobals "any"=some none) (b17:PySem.W.nsIn K mainGlobals "ValueError"=some none):∃t,NsIn K t:=by
 subst e0 e1 e2 e3 e4 e5
 exact ⟨fun i=>[t0,t1,t2,t3,t4,t5].getD i 0,a0,a1,a2,a3,a4,a5,b0,b1,b2,b3,b4,b5,b6,b7,b8,b9,b10,b11,b12,b13,b14,b15,b16,b17⟩
theorem all_mk {l:PySem.W.OpenLaw}{w:World}{K:PySem.W.Frag}{h:Heap}{mg:Str->Option Value}{fa:Addr}(X:K.In h) (G:h.Ns mainGlobals mg) (hfa:mg "law"=some (.ref fa)) {t:Nat->Tok}{c T:Addr}(D:DsIn K c T) (Z:NsIn K t) (CC:∃c:Cs,CAll K c) :
  ∃fd:FuncData,(∀(s:Shared) (v:Value),BindsTo s fd ⟨[v],[]⟩ [("_law_script",v)])/\∀base:Heap,K.In base->base.Ns mainGlobals mg->base.BuiltinsAt mg T->aG l.prog w K mg base CX0 20 fa fd ["_law_script"] (spLaw T K):=by
 obtain ⟨c,C2,⟨bmS,idS,cS,hbS⟩,⟨bm2,id2,c2,up2⟩,⟨bm3,id3,c3,up3⟩,⟨bm5,id5,c5,up5⟩,⟨bm6,id6,c6,up6⟩,⟨bm7,id7,c7,up7⟩,I2,I3,I7,x2_reel,x2_frame,x3_name,x7_number,kx5,kq5,kx6,kq6⟩:=CC
 have O2:=C2.ok X G I2.ek
 have mna:=PySem.W.mg_of X G Z.na
 have mle:=PySem.W.mg_of X G Z.le
 have mst:=PySem.W.mg_of X G Z.st
 have mma:=PySem.W.mg_of X G Z.ma
 have mmc:=PySem.W.mg_of X G Z.mc
 have mmf:=PySem.W.mg_of X G Z.mf
 have nisi:=PySem.W.mg_none_of X G Z.zisi
 have nlen:=PySem.W.mg_none_of X G Z.zlen
 have nint:=PySem.W.mg_none_of X G Z.zint
 have nbool:=PySem.W.mg_none_of X G Z.zbool
 have ntup:=PySem.W.mg_none_of X G Z.ztup
 have nrng:=PySem.W.mg_none_of X G Z.zrng
 have nabs:=PySem.W.mg_none_of X G Z.zabs
 have nmin:=PySem.W.mg_none_of X G Z.zmin
 have nmax:=PySem.W.mg_none_of X G Z.zmax
 have nlst:=PySem.W.mg_none_of X G Z.zlst
 have ndic:=PySem.W.mg_none_of X G Z.zdic
 have nenu:=PySem.W.mg_none_of X G Z.zenu
 have nrev:=PySem.W.mg_none_of X G Z.zrev
 have nsum:=PySem.W.mg_none_of X G Z.zsum
 have nzip:=PySem.W.mg_none_of X G Z.zzip
 have nsort:=PySem.W.mg_none_of X G Z.zsort
 have nany:=PySem.W.mg_none_of X G Z.zany
 have nval:=PySem.W.mg_none_of X G Z.zval
 obtain ⟨fl,fdl,al,FL⟩:=D.law
 have e:=hfa.symm.trans (PySem.W.mg_of X G al)
 cases e
 refine ⟨fdl,fun s v=>?_,fun base kb _ hB=>?_⟩
 ·obtain ⟨oc,od,kV,doc,pm,an,cdv,ct,osl,rfl,lk,hcd⟩:=FL.ex
  exact .of_eq rfl
 have C:=PySem.W.codeHd_of_K kb D.pr.1
 obtain ⟨f2,fd2,R2,F2⟩:=I2.ex
 have b2:=F2.binds (ps:=["self", "reel", "frame"]) fun _ _ _ _ _ _ us hl=>match us,hl with | [_,_,_],_=>rfl
 obtain ⟨f3,fd3,R3,F3⟩:=I3.ex
 have b3:=F3.binds (ps:=["self", "name"]) fun _ _ _ _ _ _ us hl=>match us,hl with | [_,_],_=>rfl
 obtain ⟨f7,fd7,R7,F7⟩:=I7.ex
 have b7:=F7.binds (ps:=["self", "number"]) fun _ _ _ _ _ _ us hl=>match us,hl with | [_,_],_=>rfl
 have dCell:Def l.prog w K mg base CX0 "_law_cell" 1 ["_law_script", "_law_k"] (l_ K):=Def.of X G D.cell (fun f fd F=>vW F) fun _ _ _ _ _ _ us hl=>match us,hl with | [_,_],_=>rfl
 have dNum:Def l.prog w K mg base CX0 "_law_numbers" 1 ["_law_cell_here", "_law_many"] q0:=Def.of X G D.num (fun f fd F=>yB F nabs nrng nint) fun _ _ _ _ _ _ us hl=>match us,hl with | [_,_],_=>rfl
 have dWh:Def l.prog w K mg base CX0 "is_whole" 1 ["value"] gO:=Def.of X G D.whole (fun f fd F=>sA F nisi nint nbool) fun _ _ _ _ _ _ us hl=>match us,hl with | [_],_=>rfl
 have dHasF:Def l.prog w K mg base CX0 "has_frame" 2 ["reel", "frame"] h8:=Def.of X G D.hasF (fun f fd F=>vT F dWh mma) fun _ _ _ _ _ _ us hl=>match us,hl with | [_,_],_=>rfl
 have dBears:Def l.prog w K mg base CX0 "bears" 3 ["reel", "key"] jM:=Def.of X G D.bears (fun f fd F=>sU F dWh dHasF mle mst) fun _ _ _ _ _ _ us hl=>match us,hl with | [_,_],_=>rfl
 have dNamed:Def l.prog w K mg base (CX1 l.prog w) "reel_named" 3 ["reels", "name"] (eN c.c3):=Def.of X G D.named (fun f fd F=>sK F mna O2.m3 R3 (j8 F3 I3.xc x3_name) b3) fun _ _ _ _ _ _ us hl=>match us,hl with | [_,_],_=>rfl
 have dKeyOf:Def l.prog w K mg base (CX1 l.prog w) "key_of" 4 ["reels", "name", "frame"] (gP c.c3 c.c2):=Def.of X G D.keyOf (fun f fd F=>sP F dNamed dHasF mna mle mst O2.m2 R2 (iq F2 I2.xc x2_reel x2_frame) b2) fun _ _ _ _ _ _ us hl=>match us,hl with | [_,_,_],_=>rfl
 have dFrameOf:Def l.prog w K mg base (CX1 l.prog w) "frame_of" 4 ["reels", "name", "key"] (gm c.c3 c.c2):=Def.of X G D.frameOf (fun f fd F=>mj F dNamed dBears mna mst O2.m2 R2 (iq F2 I2.xc x2_reel x2_frame) b2) fun _ _ _ _ _ _ us hl=>match us,hl with | [_,_,_],_=>rfl
 have dOClip:Def l.prog w K mg base (CX1 l.prog w) "over_clip" 5 ["clip", "reels", "one", "other"] (jD c.c2):=Def.of X G D.oclip (fun f fd F=>sF F dKeyOf dFrameOf) fun _ _ _ _ _ _ us hl=>match us,hl with | [_,_,_,_],_=>rfl
 have rOver:∀d:Nat,Def l.prog w K mg base (CX1 l.prog w) "over_items" (d+6) ["items", "reels", "one", "other"] (hW c.c2 d):=by
  intro d
  induction d with
  | zero=>exact Def.of X G D.over (fun f fd F=>nX (d:=0) F dOClip (Def.never X G D.over (fun _ _ _ _ _ _ us hl=>match us,hl with | [_,_,_,_],_=>rfl)) ntup) (fun _ _ _ _ _ _ us hl=>match us,hl with | [_,_,_,_],_=>rfl)
  | succ d ih=>exact Def.of X G D.over (fun f fd F=>nX (d:=(d+1)) F dOClip ih ntup) (fun _ _ _ _ _ _ us hl=>match us,hl with | [_,_,_,_],_=>rfl)
 have dBr:Def l.prog w K mg base (CX1 l.prog w) "brought_over" 12 ["items", "parts", "reels", "one", "other"] (uT c.c3 c.c2):=Def.of X G D.br (fun f fd F=>z5 F dNamed (rOver 5)) fun _ _ _ _ _ _ us hl=>match us,hl with | [_,_,_,_,_],_=>rfl
 have dIsF:Def l.prog w K mg base CX0 "is_fade" 1 ["item"] q8:=Def.of X G D.isF (fun f fd F=>yE F) fun _ _ _ _ _ _ us hl=>match us,hl with | [_],_=>rfl
 have dLClip:Def l.prog w K mg base (CX1 l.prog w) "look_at_clip" 4 ["clip", "reels"] jI:=Def.of X G D.lclip (fun f fd F=>sO F dNamed dHasF O2.m2 R2 (iq F2 I2.xc x2_reel x2_frame) b2) fun _ _ _ _ _ _ us hl=>match us,hl with | [_,_],_=>rfl
 have dLFade:Def l.prog w K mg base (CX1 l.prog w) "look_at_fade" 3 ["items", "place"] jH:=Def.of X G D.lfade (fun f fd F=>sM F dIsF nlen O2.m5 kq5) fun _ _ _ _ _ _ us hl=>match us,hl with | [_,_],_=>rfl
 have rLook:∀d:Nat,Def l.prog w K mg base (CX1 l.prog w) "look_through" (2*d+7) ["items", "parts", "reels", "within"] (hX d):=by
  intro d
  induction d with
  | zero=>exact Def.of X G D.look (fun f fd F=>nY (d:=0) F (Def.never X G D.look (fun _ _ _ _ _ _ us hl=>match us,hl with | [_,_,_,_],_=>rfl)) (Def.of X G D.lpart (fun f fd F=>kP (d:=0) F (Def.never X G D.look (fun _ _ _ _ _ _ us hl=>match us,hl with | [_,_,_,_],_=>rfl)) O2.m3 R3 (j8 F3 I3.xc x3_name) b3) (fun _ _ _ _ _ _ us hl=>match us,hl with | [_,_,_,_],_=>rfl)) dLClip dLFade nenu) (fun _ _ _ _ _ _ us hl=>match us,hl with | [_,_,_,_],_=>rfl)
  | succ d ih=>exact Def.of X G D.look (fun f fd F=>nY (d:=(d+1)) F ih (Def.of X G D.lpart (fun f fd F=>kP (d:=(d+1)) F ih O2.m3 R3 (j8 F3 I3.xc x3_name) b3) (fun _ _ _ _ _ _ us hl=>match us,hl with | [_,_,_,_],_=>rfl)) dLClip dLFade nenu) (fun _ _ _ _ _ _ us hl=>match us,hl with | [_,_,_,_],_=>rfl)
 have dSound:Def l.prog w K mg base (CX1 l.prog w) "sound" 18 ["items", "parts", "reels"] (jA 5):=Def.of X G D.sound (fun f fd F=>sB (d:=5) F (rLook 5)) fun _ _ _ _ _ _ us hl=>match us,hl with | [_,_,_],_=>rfl
 have dFrIn:Def l.prog w K mg base CX0 "frames_in" 1 ["clip"] h_:=Def.of X G D.frIn (fun f fd F=>vV F nabs) fun _ _ _ _ _ _ us hl=>match us,hl with | [_],_=>rfl
 have dBackw:Def l.prog w K mg base CX0 "backwards" 1 ["clips"] jN:=Def.of X G D.backw (fun f fd F=>sV F nrev) fun _ _ _ _ _ _ us hl=>match us,hl with | [_],_=>rfl
 have dFadedIn:Def l.prog w K mg base CX0 "faded_in" 1 ["clips", "many"] gp:=Def.of X G D.fadedIn (fun f fd F=>ml F) fun _ _ _ _ _ _ us hl=>match us,hl with | [_,_],_=>rfl
 have dRMany:Def l.prog w K mg base (CX1 l.prog w) "refuse_many" 1 ["number", "most"] (fQ c.c6):=Def.of X G D.rmany (fun f fd F=>sC F O2.m6 kq6) fun _ _ _ _ _ _ us hl=>match us,hl with | [_,_],_=>rfl
 have dRShort:Def l.prog w K mg base (CX1 l.prog w) "refuse_short" 3 ["clips"] (g_ c.c7):=Def.of X G D.rshort (fun f fd F=>pS F dFrIn nenu O2.m7 R7 (sR F7 I7.xc x7_number) b7) fun _ _ _ _ _ _ us hl=>match us,hl with | [_],_=>rfl
 have dRFilm:Def l.prog w K mg base (CX1 l.prog w) "refuse_film" 4 ["clips"] (jB c.c6 c.c7):=Def.of X G D.rfilm (fun f fd F=>sE F dRMany dRShort dFrIn nlen nsum mmc mmf) fun _ _ _ _ _ _ us hl=>match us,hl with | [_],_=>rfl
 have rClips:∀d:Nat,Def l.prog w K mg base (CX1 l.prog w) "clips_of" (2*d+3) ["items", "parts"] (df c.c6 d):=by
  intro d
  induction d with
  | zero=>exact Def.of X G D.clipsOf (fun f fd F=>ir (d:=0) F (Def.of X G D.clipsI (fun f fd F=>jf (d:=0) F (Def.never X G D.clipsOf (fun _ _ _ _ _ _ us hl=>match us,hl with | [_,_],_=>rfl)) dRMany dBackw nlen mmc) (fun _ _ _ _ _ _ us hl=>match us,hl with | [_,_],_=>rfl)) dRMany dFadedIn nlen mmc) (fun _ _ _ _ _ _ us hl=>match us,hl with | [_,_],_=>rfl)
  | succ d ih=>exact Def.of X G D.clipsOf (fun f fd F=>ir (d:=(d+1)) F (Def.of X G D.clipsI (fun f fd F=>jf (d:=(d+1)) F ih dRMany dBackw nlen mmc) (fun _ _ _ _ _ _ us hl=>match us,hl with | [_,_],_=>rfl)) dRMany dFadedIn nlen mmc) (fun _ _ _ _ _ _ us hl=>match us,hl with | [_,_],_=>rfl)
 have dPlayed:Def l.prog w K mg base (CX1 l.prog w) "played" 19 ["items", "parts", "reels"] (hU c.c6 c.c7 5):=Def.of X G D.played (fun f fd F=>pT (d:=5) F dSound (rClips 5) dRFilm) fun _ _ _ _ _ _ us hl=>match us,hl with | [_,_,_],_=>rfl
 have dWay:Def l.prog w K mg base CX0 "way_of" 1 ["clip"] nu:=Def.of X G D.way (fun f fd F=>yx F) fun _ _ _ _ _ _ us hl=>match us,hl with | [_],_=>rfl
 have dNos:Def l.prog w K mg base CX0 "numbers_of" 2 ["clip"] xF:=Def.of X G D.nos (fun f fd F=>yC F dWay nlst nrng) fun _ _ _ _ _ _ us hl=>match us,hl with | [_],_=>rfl
 have dCan:Def l.prog w K mg base CX0 "can_have" 2 ["strip", "reel", "number"] q9:=Def.of X G D.can (fun f fd F=>yF F dWay nabs) fun _ _ _ _ _ _ us hl=>match us,hl with | [_,_,_],_=>rfl
 have dTake:Def l.prog w K mg base CX0 "take_frame" 3 ["strips", "reel", "number"] l7:=Def.of X G D.take (fun f fd F=>vQ F dCan) fun _ _ _ _ _ _ us hl=>match us,hl with | [_,_,_],_=>rfl
 have dStrips:Def l.prog w K mg base CX0 "strips_of" 4 ["clips"] fP:=Def.of X G D.strips (fun f fd F=>pR F dNos dTake) fun _ _ _ _ _ _ us hl=>match us,hl with | [_],_=>rfl
 have dLeast:Def l.prog w K mg base CX0 "least" 1 ["strip"] jG:=Def.of X G D.least (fun f fd F=>sN F nmin) fun _ _ _ _ _ _ us hl=>match us,hl with | [_],_=>rfl
 have dGr:Def l.prog w K mg base CX0 "greatest" 1 ["strip"] xE:=Def.of X G D.gr (fun f fd F=>z0 F nmax) fun _ _ _ _ _ _ us hl=>match us,hl with | [_],_=>rfl
 have dFree:Def l.prog w K mg base CX0 "first_free" 1 ["ends", "frame"] l9:=Def.of X G D.free (fun f fd F=>vU F nenu nlen) fun _ _ _ _ _ _ us hl=>match us,hl with | [_,_],_=>rfl
 have dPut:Def l.prog w K mg base CX0 "put_end" 1 ["ends", "place", "end"] qZ:=Def.of X G D.put (fun f fd F=>yA F nlen) fun _ _ _ _ _ _ us hl=>match us,hl with | [_,_,_],_=>rfl
 have dPr:Def l.prog w K mg base CX0 "prints_for" 5 ["strips", "spoil"] (xC T):=Def.ofT X G D.pr (fun f fd F hc=>zZ F hc C hB dLeast dGr dFree dPut nlen nsort nrng) fun _ _ _ _ _ _ us hl=>match us,hl with | [_,_],_=>rfl
 have dNeeds:Def l.prog w K mg base CX0 "needs" 6 ["strips", "spoil"] (jE T):=Def.of X G D.needs (fun f fd F=>sJ F dPr nzip nmax nsort) fun _ _ _ _ _ _ us hl=>match us,hl with | [_,_],_=>rfl
 have dJoins:Def l.prog w K mg base CX0 "joins" 5 ["clips"] jJ:=Def.of X G D.joins (fun f fd F=>sQ F dStrips nlen nmax) fun _ _ _ _ _ _ us hl=>match us,hl with | [_],_=>rfl
 have dLen:Def l.prog w K mg base CX0 "length" 2 ["clips"] hZ:=Def.of X G D.len (fun f fd F=>pU F dFrIn nsum) fun _ _ _ _ _ _ us hl=>match us,hl with | [_],_=>rfl
 have dClips:Def l.prog w K mg base CX0 "_law_clips" 2 ["_law_script", "_law_most"] (jL K):=Def.of X G D.clips (fun f fd F=>sT F dNum nmax nmin nabs) fun _ _ _ _ _ _ us hl=>match us,hl with | [_,_],_=>rfl
 have dFrames:Def l.prog w K mg base CX0 "_law_frames" 1 ["_law_clip"] h9:=Def.of X G D.frames (fun f fd F=>pV F nrng nabs) fun _ _ _ _ _ _ us hl=>match us,hl with | [_],_=>rfl
 have dEdges:Def l.prog w K mg base CX0 "_law_edges" 5 ["_law_reels", "_law_clips_here"] jK:=Def.of X G D.edges (fun f fd F=>sS F dFrames dKeyOf) fun _ _ _ _ _ _ us hl=>match us,hl with | [_,_],_=>rfl
 have rThere:∀d:Nat,Def l.prog w K mg base CX0 "_law_there" (d+1) ["_law_items", "_law_low", "_law_high"] (fO d):=by
  intro d
  induction d with
  | zero=>exact Def.of X G D.there (fun f fd F=>kO (d:=0) F (Def.never X G D.there (fun _ _ _ _ _ _ us hl=>match us,hl with | [_,_,_],_=>rfl))) (fun _ _ _ _ _ _ us hl=>match us,hl with | [_,_,_],_=>rfl)
  | succ d ih=>exact Def.of X G D.there (fun f fd F=>kO (d:=(d+1)) F ih) (fun _ _ _ _ _ _ us hl=>match us,hl with | [_,_,_],_=>rfl)
 have dList:Def l.prog w K mg base CX0 "_law_list" 1 ["_law_clips_here", "_law_cell_here"] l8:=Def.of X G D.list' (fun f fd F=>vS F nlen ntup) fun _ _ _ _ _ _ us hl=>match us,hl with | [_,_],_=>rfl
 have dOnly:Def l.prog w K mg base CX0 "_law_only" 2 ["_law_e", "_law_at"] (jC (RF c.c2)):=Def.of X G D.only (fun f fd F=>vR F O2 (fun n k h=>by obtain ⟨rfl,rfl⟩:=h; exact O2) nisi nrng nval) fun _ _ _ _ _ _ us hl=>match us,hl with | [_,_],_=>rfl
 have dRef:Def l.prog w K mg base CX0 "_law_refused" 13 ["_law_items", "_law_parts", "_law_reels"] qY:=Def.of X G D.ref (fun f fd F=>yz F dBr dOnly O2.ms cS hbS c2 up2 I2.ek I2.xc x2_reel x2_frame) fun _ _ _ _ _ _ us hl=>match us,hl with | [_,_,_],_=>rfl
 exact yD FL dClips dCell dList (rThere 5) dRef dBr dPlayed dEdges dStrips dNeeds dJoins dLen nlst ndic nany nabs
end K57
open PySem PySem.W PyProof.Rows
local macro_rules | `(tactic| walk_at "own def")=>`(tactic| (dsimp only [L2.KOf]; (first | (refine' L2.funIn_mk ?a ?l ?c ?k; (case a=>k_is); (case l=>k_is); (case c=>k_is); (case k=>k_is)) | (refine' L2.funT_of ?a ?l ?c ?k ?e ?h; (case a=>k_is); (case l=>k_is); (case c=>k_is); (case k=>k_is); (case e=>exact rfl); (case h=>kernel_rfl)))))
set_option maxRecDepth 100000 in
set_option maxHeartbeats 0 in
theorem PySem.Challenge.cw_leadersplice_k57_whole_over_and_back_holds : PySem.Challenge.rw_leadersplice_k57_whole_over_and_back.Holds := by
 refine Hd.all.2 (show Hd.all.1 from ?_)
 delta Hd.all
 dsimp only
 k_fill
 refine L2.walk_ofT (c:=362) (T:=358) (l:=PySem.Challenge.rw_leadersplice_k57_whole_over_and_back) (n:=63) (k:=20) (x:="_law_script") (CX:=L2.CX0) (sp:=K57.spLaw 358) rfl (by decide) rfl ⟨rfl,by decide,by decide⟩ (fun w h Y=>⟨PySem.W.km_in_of Y,PySem.W.km_tabs_of Y 358 (List.mem_cons_self ..)⟩) ?P ?C ?F (fun K H a ns hl hS hT=>⟨a,ns,rfl,hS,hl,hT,fun _=>rfl⟩) (fun _ _ _ _ z=>z)
 case P=>exact fun w=>by kernel_rfl
 case C=>exact fun w=>by kernel_rfl
 case F =>
  intro w mg fa h KX G hmg
  have D:K57.DsIn (L2.KOf KX) 362 358:=by
   refine ⟨?_,?_,?_,?_,?_,?_,?_,?_,?_,?_,?_,?_,?_,?_,?_,?_,?_,?_,?_,?_,?_,?_,?_,?_,?_,?_,?_,?_,?_,?_,?_,?_,?_,?_,?_,?_,?_,?_,?_,?_,?_,?_,?_,?_,?_,?_,?_⟩ <;> walk_at "own def"
  have Z:∃t,K57.NsIn (L2.KOf KX) t:=by
   dsimp only [L2.KOf]
   refine' K57.ns_mk ?a0 ?a1 ?a2 ?a3 ?a4 ?a5 ?e0 ?e1 ?e2 ?e3 ?e4 ?e5 ?b0 ?b1 ?b2 ?b3 ?b4 ?b5 ?b6 ?b7 ?b8 ?b9 ?b10 ?b11 ?b12 ?b13 ?b14 ?b15 ?b16 ?b17
   (case a0=>k_is); (case a1=>k_is); (case a2=>k_is); (case a3=>k_is); (case a4=>k_is); (case a5=>k_is); (case e0=>kernel_rfl); (case e1=>kernel_rfl); (case e2=>kernel_rfl); (case e3=>kernel_rfl); (case e4=>kernel_rfl); (case e5=>kernel_rfl); (case b0=>k_is); (case b1=>k_is); (case b2=>k_is); (case b3=>k_is); (case b4=>k_is); (case b5=>k_is); (case b6=>k_is); (case b7=>k_is); (case b8=>k_is); (case b9=>k_is); (case b10=>k_is); (case b11=>k_is); (case b12=>k_is); (case b13=>k_is); (case b14=>k_is); (case b15=>k_is); (case b16=>k_is); (case b17=>k_is)
  have CC:∃c:K57.Cs,K57.CAll (L2.KOf KX) c:=by
   dsimp only [L2.KOf]
   refine' K57.cs_mk ?xms ?xm0 ?xm1 ?xm2 ?xm3 ?xm4 ?xm5 ?xm6 ?xm7 ?xm8 ?xm9 ?xk2s ?xk2v ?xk20 ?xk21 ?xk22 ?xk23 ?xk24 ?xk25 ?xk26 ?xk27 ?xk28 ?xk29 ?xlS ?xlQ2 ?xlQ3 ?xlQ5 ?xlQ6 ?xlQ7 ?xhbS ?xhup2 ?xhup3 ?xhup5 ?xhup6 ?xhup7 ?xI2 ?xI3 ?xI7 ?xx2_reel ?xx2_frame ?xx3_name ?xx7_number ?xkx5 ?xkq5 ?xkx6 ?xkq6
   (case xms=>k_is); (case xm0=>k_is); (case xm1=>k_is); (case xm2=>k_is); (case xm3=>k_is); (case xm4=>k_is); (case xm5=>k_is); (case xm6=>k_is); (case xm7=>k_is); (case xm8=>k_is); (case xm9=>k_is); (case xk2s=>kernel_rfl); (case xk2v=>kernel_rfl); (case xk20=>kernel_rfl); (case xk21=>kernel_rfl); (case xk22=>kernel_rfl); (case xk23=>kernel_rfl); (case xk24=>kernel_rfl); (case xk25=>kernel_rfl); (case xk26=>kernel_rfl); (case xk27=>kernel_rfl); (case xk28=>kernel_rfl); (case xk29=>kernel_rfl); (case xlS=>k_is); (case xlQ2=>k_is); (case xlQ3=>k_is); (case xlQ5=>k_is); (case xlQ6=>k_is); (case xlQ7=>k_is); (case xhbS=>kernel_rfl); (case xhup2=>kernel_rfl); (case xhup3=>kernel_rfl); (case xhup5=>kernel_rfl); (case xhup6=>kernel_rfl); (case xhup7=>kernel_rfl); (case xx2_reel=>k_is); (case xx2_frame=>k_is); (case xx3_name=>k_is); (case xx7_number=>k_is); (case xkx5=>refine' ⟨?ea,?eb,?ec,?ed,?ee,?ef,?eg,?eh⟩; (case ea=>k_is); (case eb=>k_is); (case ec=>k_is); (case ed=>k_is); (case ee=>kernel_rfl); (case ef=>k_is); (case eg=>k_is); (case eh=>k_is)); (case xkq5=>k_exc); (case xkx6=>refine' ⟨?ea,?eb,?ec,?ed,?ee,?ef,?eg,?eh⟩; (case ea=>k_is); (case eb=>k_is); (case ec=>k_is); (case ed=>k_is); (case ee=>kernel_rfl); (case ef=>k_is); (case eg=>k_is); (case eh=>k_is)); (case xkq6=>k_exc)
   case xI2 =>
    refine' L2.initIn_mk ?yhi ?yht ?yl ?ycc ?ykk ?ylC ?ytl ?yhcd ?yho ?yhdd ?ysa ?yhm ?yhmo ?yhga ?yhgn ?yhc ?yha ?yhn ?yhtk
    (case yhi=>k_is); (case yht=>k_is); (case yl=>k_is); (case ycc=>k_is); (case ykk=>k_is); (case ylC=>k_is); (case ytl=>kernel_rfl); (case yhcd=>k_is); (case yho=>kernel_rfl); (case yhdd=>kernel_rfl); (case ysa=>k_is); (case yhm=>k_is); (case yhmo=>k_is); (case yhga=>k_is); (case yhgn=>k_is); (case yhc=>kernel_rfl); (case yha=>k_is); (case yhn=>k_is); (case yhtk=>k_is)
   case xI3 =>
    refine' L2.initIn_mk ?zhi ?zht ?zl ?zcc ?zkk ?zlC ?ztl ?zhcd ?zho ?zhdd ?zsa ?zhm ?zhmo ?zhga ?zhgn ?zhc ?zha ?zhn ?zhtk
    (case zhi=>k_is); (case zht=>k_is); (case zl=>k_is); (case zcc=>k_is); (case zkk=>k_is); (case zlC=>k_is); (case ztl=>kernel_rfl); (case zhcd=>k_is); (case zho=>kernel_rfl); (case zhdd=>kernel_rfl); (case zsa=>k_is); (case zhm=>k_is); (case zhmo=>k_is); (case zhga=>k_is); (case zhgn=>k_is); (case zhc=>kernel_rfl); (case zha=>k_is); (case zhn=>k_is); (case zhtk=>k_is)
   case xI7 =>
    refine' L2.initIn_mk ?uhi ?uht ?ul ?ucc ?ukk ?ulC ?utl ?uhcd ?uho ?uhdd ?usa ?uhm ?uhmo ?uhga ?uhgn ?uhc ?uha ?uhn ?uhtk
    (case uhi=>k_is); (case uht=>k_is); (case ul=>k_is); (case ucc=>k_is); (case ukk=>k_is); (case ulC=>k_is); (case utl=>kernel_rfl); (case uhcd=>k_is); (case uho=>kernel_rfl); (case uhdd=>kernel_rfl); (case usa=>k_is); (case uhm=>k_is); (case uhmo=>k_is); (case uhga=>k_is); (case uhgn=>k_is); (case uhc=>kernel_rfl); (case uha=>k_is); (case uhn=>k_is); (case uhtk=>k_is)
  obtain ⟨t,Z⟩:=Z
  exact K57.all_mk KX G hmg D Z CC
