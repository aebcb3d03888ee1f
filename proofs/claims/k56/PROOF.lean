import PyProof.Rows.All
import Wide.All
import OpenK.AllK
import Wide.FinOn
import Lean
import PyProof.EqAt
import PyProof.EqKinds
import PyProof.TupleCall
import PyProof.StationsW
import PyProof.CompFree
import PyProof.CompUse
import OpenK.KCls
import OpenK.KDescr
import OpenK.KWalk
import PyProof.ExcAttrAll.ValueError
import OpenK.KMake
import PyProof.InstStoreFacts
import PyProof.ExcClass3
import PyProof.ListRange
import PyProof.Rows.Range3
import KE.KStateDown
import PyProof.MaxThree
import PyProof.ZipIter
import PyProof.StrBlockI
import PyProof.StrBlock2
import PyProof.StrLawsIn
import PyProof.StrLawsIdx
import PyProof.Rows.ReprOcc
import KE.IntTextLaws
import PyProof.ListNew
import PyProof.WalksMore
import PyProof.ReprLoop
import KE.KRevIter
import PySem.PyData
import PyProof.TupleIter
import PyProof.Draws
import PyProof.EnumMake
import KE.KxText
import PyProof.AttrMiss
import PyProof.IsiH_list
import KE.KDictOf
import PyProof.DictItems
import KE.KPairComp
import PyProof.SumAny
import PyProof.Rows.SumGenD
import PyProof.Claim2
import KE.KSortKey
import KE.KLam
import KE.KNestM
import KE.KDictLaws
import KE.KItemsList
import KE.KSortAsk
import PyProof.SetKind
import PyProof.CollectWalk
import PyProof.DictStraight
import PyProof.FactsAll.set_1
import PyProof.Seq
import PyProof.Walks
import PyProof.FactsAll.set_2
import PyProof.FactsAll.set_0
import PyProof.SetNew
import PyProof.FactsAll.set_3
import PyProof.Rows.SortStr
import KE.KDictSum
import PyProof.Rows.StrInSeq
import PyProof.Rows.SetFrom
import PyProof.SetRoads
import KE.KEqDict
import KE.KDictList
import KE.KRevSl
import PySem.Challenge.RW_leadersplice_k56_whole_the_other_way
set_option maxHeartbeats 4000000
local macro_rules | `(tactic| omega) => `(tactic| lia)
open List renaming length_map->AH,getElem?_eq_getElem->AN,mem_cons_of_mem->AO,mem_cons_self->AQ,getElem?_map->AR,getElem?_eq_some_iff->AS,getD_eq_getElem?_getD->AT,size_toArray->AU,length_append->AW,mem_cons->AX,length_cons->AZ,length_reverse->A7,map_append->A8,mem_append_right->Bb,reverse_cons->Bd,mem_map->Be,mem_of_getElem?->Bh,mem_singleton->Bi,map_cons->Br,replicate->Bs,append_assoc->Bu,length_take->BA,getElem?_reverse->BD,take_length->BJ,append_nil->BK,getElem?_eq_none->BL,range->BP,getElem?_append_right->BR,take_zero->BS,length_singleton->BU,getLast?_cons_cons->BV,getElem_mem->BX,replicate_succ->B4,map_map->B5,nil_append->B6,mem_range->B7,filter_cons->B8,getElem?_append_left->Ca,cons_append->Ce,not_mem_nil->Cf,flatten_cons->Ch,length_drop->Cq,take_of_length_le->Cr,mem_reverse->Ct,reverse_append->Cv,take_add_one->Cy,mem_append->CG,nodup_cons->CH,mem_append_left->CO,pairwise_map->CY,map_congr_left->C0,length->C1,find?_cons->C3,any_eq_true->C6,cons_ne_nil->C7,reverse_reverse->Da,length_range->Dc,flatMap_cons->Dd,getElem?_cons_succ->De,getElem?_range->Df,length_nil->Dp,foldl_append->Dw,flatten_append->DF,all_eq_true->DI,map_reverse->DJ,lookup->DL,getElem?_set_self->DO,drop_eq_nil_of_le->DQ,toArray->DS,foldl_cons->DV,getElem?_set_ne->D3,map_nil->D9,filterMap_cons->Ed,any_cons->Ef,mem_filterMap->Em,pairwise_singleton->Ey,range_succ_eq_map->EH,append_eq_nil_iff->EI,ext_getElem?->EL,cons_lt_cons_iff->EO,mem_flatMap->EU,nodup_range->EV,take_nil->EZ,map_drop->E1,map_take->E2,mem_filter->E9,length_set->Fb
open PySem renaming wpAny_bind->AI,Shared->AL,wpAny_pure->AV,mainGlobals->AY,wpAny->A6,sizeLine_eq->A9,model->Bf,FuncData->Bg,World->Bj,Around->Bk,wpAny_mono->Bw,starEach->Bz,wpAny_newObj_type->BE,mem_of_lookup->BO,wpAny_field->B0,bootBuiltins->B2,PassesOwn->B9,boot_len->Cc,wpAny_holding->Cd,wpAny_callSpecial?_slot->Ci,rawInt->Cp,excClassObj->Cw,compareOp->CP,wpAny_call_entry->CQ,wpAny_truthy_bool->CV,sysModules->Di,wpAny_setField->Dk,backTo->Dx,behindInMarks->Dy,assignEach->Dz,wpAny_standAt->DA,attributeBase->DB,wpAny_of_eq->DN,binaryOp->DU,builtinLookup_eq_fast->DX,foldedSetIterable->DY,wpAny_loadPart_at->D0,NameKind->D4,letOwnedTupleGo->Ei,wpAny_passesOwn->Ej,wpAny_pyIter_tuple->El,wpAny_Call_Name_kw->En,tupleKind_room_in1->Eo,swapsWith->Es,sliceBounds->Ev,getItem->ED,ExcBaseFacts->EF,wpAny_pyIter_enum->EG,codeAny->EX,wpAny_newList->E3,GenState->E4,wpAny_specialOf->Fc,typeLookup_type->Fd,holding->Ff,bindArgs->Fh,IsPart->Fi,closureFor->Fj,firstArgMember->Fk
open PySem.Heap renaming get?_push_of_some->AJ,lt_size->A3,get?_push_size->A5,SameBut->By,get?_update_other->Cb,get?_update_self->Cz,get?_none_of_le->CM,size_push->D7,ExtBut->E5
open PySem.W renaming Frag->AK,nsIn->A4,mg_none_of->Bx,findIn->BN,kia_one->Cn,mg_of->CB,fnOf->CW,excIn->C8,kitOne->DG,keepIn->DH,codeIn->D5,tabObj->D8,boot_heap->Er,CodeHd->EK,mroIn->EW,hideAll->E8,kas_rev->Fg
open Nat renaming le_refl->AM,ne_of_lt->Bl,le_trans->Bm,zero_le->Bo,lt_of_lt_of_le->Bp,lt_irrefl->Cm,min_le_right->Dh,sub_self->Dv,le_succ->DM,min_eq_left->DW,le_of_eq->Ea,le_add_right->Eb,le_of_lt->Ez,ne_of_gt->EA,lt_succ_of_lt->EE,min_eq_right->ES
open Option.some renaming inj->Ba
open PySem.Value renaming ref->Bc,none->BY,int->EQ,type->ER
open Bool renaming false_ne_true->Bq,and_eq_true->BG,false_eq_true->DR,eq_false_iff->EJ,eq_iff_iff->Fa
open PyProof.Rows renaming seqObj->Bv,callWith_type1->BC,slot_tuple_getitem->BI,envOfC->CJ,get?_update_seq->Dr,listUpdate_at->DE,IntsAre->DZ,AllBare->Eh,arrOf->EN,subscriptTail->EY,seqEpoch_at->E6,IsTup->Fe
open False renaming elim->BB
open PySem.Obj renaming mapSeq->BF,data_mapFields->CK,isFreed_of_fields->C4,mapFields->DD
open Int renaming le_refl->BH,natCast_add->Dq,emod_nonneg->Ek,emod_lt_of_pos->Ep,toNat_natCast->EC
open PySem.PassesOwn renaming never->BM
open PySem.PyData renaming depthAll->BQ,canLayAll0->CZ,strOk->C9,canLay0->DK,depth->Ec,list->E7
open PySem.Builtin.Slice renaming slicePlaces->BW,sliceAdjust->Cu,sliceApplied->Dj
open PySem.Builtin.Tuple renaming tupleExact->BZ,tupleItemsOf->D6
open Array renaming length_toList->B3,getElem?_eq_some_iff->Cj,getD_eq_getD_getElem?->CU
open Ne renaming symm->Cg
open Sum renaming inr->Co
open Option renaming isSome_iff_exists->CA,map_eq_some_iff->Dg,map_some->Eg
open PySem.Calls renaming spliced_cons->CI,spliced_nil->Ds,evalArgs_plain->Du,callWith_builtin->DP
open True renaming intro->C5
open PySem.SeqAt renaming eqv_refl->Db
open PySem.F renaming excBase_ValueError->Dl,slot_tuple_iterator_next->Dm,args_tuple_add_2->Ee,entry_tuple_add->Eu,plainAttrs_dict->Ew,slot_tuple_add->EB,slot_dict_get->EM
open PySem.Builtin.SmallTypes renaming nextOf->Do
open PySem.Str renaming ofString->Dt
open PySem.Builtin.List renaming listTooLong->DC
open PySem.Builtin.Range renaming rangeSize->Et
open PyProof.Rows.SortSt renaming mk'->Fl
set_option Elab.async false
set_option linter.all false
set_option maxRecDepth 100000
namespace Hd
open PySem PySem.W PyProof.Rows
def run (tb:String->Option Builtin) (p:Program) (w:Bj) (m:Nat) (ann:Option Value):Nat->SharedT->Thread->Option SharedT
 | 0,_,_=>none
 | n+1,s,t=>match through t with
  | true=>some s
  | false=>match stepOk m ann t with
   | false=>none
   | true=>match stepT (denote tb) p w s t with
    | none=>none
    | some x=>run tb p w m ann n x.1 x.2
theorem xR {tb:String->Option Builtin}{p:Program}{w:Bj}{m:Nat}{ann:Option Value}{r:SharedT} :
  ∀(n:Nat) (s:SharedT) (t:Thread),run tb p w m ann n s t=some r->topRun tb p w m ann n s.abs t=some r.abs:=by
 intro n
 induction n with
 | zero=>intro s t h; cases h
 | succ n ih =>
  intro s t h
  simp only [run] at h
  simp only [topRun]
  cases a:through t
  ·simp only [a] at h ⊢
   cases b:stepOk m ann t
   ·simp only [b] at h; cases h
   ·simp only [b] at h ⊢
    cases c:stepT (denote tb) p w s t with
    | none=>simp only [c] at h; cases h
    | some x =>
     simp only [c] at h
     rw [stepT_spec (s':=x.1) (t':=x.2) c]
     exact ih _ _ h
  ·simp only [a] at h ⊢
   cases h; rfl
noncomputable def bt (P:Params):BT :=
 .node (boot_o_0 P)
  (.node (boot_o_1 P) (.node (boot_o_3 P) (.node (boot_o_7 P) .nil .nil) .nil) (.node (boot_o_5 P) (.node (boot_o_9 P) .nil .nil) .nil))
  (.node (boot_o_2 P) (.node (boot_o_4 P) (.node (boot_o_8 P) .nil .nil) .nil) (.node (boot_o_6 P) (.node (boot_o_10 P) .nil .nil) .nil))
theorem qw (w:Bj):((Er w.params).isNs AY&&(#[]:Array E4).size == 0,(Er w.params).objs.size,(Er w.params).nsMap AY "__annotations__")=(true,11,some (.ref 6)):=by kernel_rfl
noncomputable def wR (p:Program) (w:Bj) (s:AL):Bool :=
 staticsOk (importedModules p.main.body) (Er w.params) s.heap&&namesBound p s.heap&&gensDone s&&laidKept (Er w.params) s.heap
noncomputable def look (p q:Program) (loose:List Str) (Xt:AL->Bool) (N:Nat) (w:Bj) (os:OsState) :=
 (run treeTable p w 11 (some (.ref 6)) N ⟨bt w.params,11,(Er w.params).life,#[],boot_drawn,boot_toks,os⟩ (topStub p)).map fun s =>
  (wR p w s.abs,openSeen q loose (importedModules p.main.body) Xt true s.abs,s.abs)
theorem v6 {p q:Program}{loose:List Str}{Xt:AL->Bool}{α:Type}{Yf:AL->α}{Ya:Bj->α}{N:Nat}
  (e:opening p=plainProg p.main.scope.names) (hN:Nat.ble 600 N=true) (f:∀s,fenceModules? p s=some s)
  (h:∀w,(fun os=>(look p q loose Xt N w os).map fun x=>(x.1,x.2.1,Yf x.2.2))=fun _=>some (true,openGood q loose,Ya w)):LeftO p q loose Xt Yf Ya N true:=by
 intro w
 have o:=boot_open e hN f w
 obtain ⟨⟨hp,gs,d,k,os⟩,e1,e2⟩:=Dg.mp o
 simp only [Prod.mk.injEq] at e2
 obtain ⟨rfl,rfl,rfl,rfl⟩:=e2
 have z:=qw w
 simp only [Prod.mk.injEq] at z
 obtain ⟨z1,z2,z3⟩:=z
 obtain ⟨x,l1,l2⟩:=Dg.mp (congrFun (h w) os)
 unfold look at l1
 obtain ⟨s,r,rfl⟩:=Dg.mp l1
 simp only [Prod.mk.injEq] at l2
 obtain ⟨t1,t2,t3⟩:=l2
 have R:=xR _ _ _ r
 have E:SharedT.abs ⟨bt w.params,11,(Er w.params).life,#[],boot_drawn,boot_toks,os⟩=⟨Er w.params,#[],boot_drawn,boot_toks,os⟩:=rfl
 rw [E] at R
 have T:topFrom treeTable p w N ⟨Er w.params,#[],boot_drawn,boot_toks,os⟩=some s.abs:=by
  unfold topFrom
  simp only [z1,z2,z3,R,Option.bind_some]
  unfold wR at t1
  simp only [t1]
 show (openEnds treeTable p w N).map _=_
 unfold openEnds
 rw [e1]
 simp only [Option.bind_some,T,Eg,t2,t3]
def yes {α β:Type}(_:α) (_:β):Bool:=true
theorem left_tw {p q:Program}{loose:List Str}{Xt:AL->Bool}{α:Type}{Yf:AL->α}{Ya:Bj->α}{N:Nat}{L:Bj->OsState->Option _}{g:_}
  (hl:look p q loose Xt N=L) (hg:openGood q loose=g) (e:opening p=plainProg p.main.scope.names) (hN:Nat.ble 600 N=true) (f:∀s,fenceModules? p s=some s)
  (h:∀w,(fun os=>(L w os).map fun x=>(x.1,x.2.1,Yf x.2.2))=fun _=>some (true,g,Ya w)):LeftO p q loose Xt Yf Ya N true:=by
 subst hl hg
 exact v6 e hN f h
noncomputable def q:Program:=view PySem.Challenge.pw_leadersplice_k56_whole_the_other_way [1,2,3,4,5,6,8,10,11,12,13,15,16,17,18,19,20,21,22,23,24,25,27,28,29,30,31,32,33,34,35,36,37,39,40,41,42,43,44,46,47,48,49,50,52,53,54,55,57,58,59,60,61,62]
noncomputable def lk:=look PySem.Challenge.pw_leadersplice_k56_whole_the_other_way q [] (fun s=>xlAt q [] s&&recOk [] s) 5814
noncomputable def gd:=openGood q []
set_option maxHeartbeats 0 in
theorem AG:yes lk gd=true:=by k_qdec
set_option maxHeartbeats 0 in
theorem lookA:∀w,(fun os=>(PySem.W.Fast.tw11159589718668676419 w os).map fun x=>x.1)=fun _=>some true:=fun w=>by kernel_rfl
set_option maxHeartbeats 0 in
theorem lookB:∀w,(fun os=>(PySem.W.Fast.tw11159589718668676419 w os).map fun x=>x.2.1.1)=fun _=>some (Prod.fst PySem.W.Fast.tw15256597767800516470):=fun w=>by kernel_rfl
set_option maxHeartbeats 0 in
theorem lookC:∀w,(fun os=>(PySem.W.Fast.tw11159589718668676419 w os).map fun x=>x.2.1.2)=fun _=>some (Prod.snd PySem.W.Fast.tw15256597767800516470):=fun w=>by kernel_rfl
theorem look3 {α β δ γ:Type}{L:Bj->OsState->Option (Bool×(β×δ)×γ)}{g:β×δ}{Yf:γ->α}{Ya:Bj->α}(a:∀w,(fun os=>(L w os).map fun x=>x.1)=fun _=>some true) (b:∀w,(fun os=>(L w os).map fun x=>x.2.1.1)=fun _=>some g.1) (b':∀w,(fun os=>(L w os).map fun x=>x.2.1.2)=fun _=>some g.2) (c:∀w,(fun os=>(L w os).map fun x=>Yf x.2.2)=fun _=>some (Ya w)) :
  ∀w,(fun os=>(L w os).map fun x=>(x.1,x.2.1,Yf x.2.2))=fun _=>some (true,g,Ya w):=fun w=>funext fun os=>by
 have a:=congrFun (a w) os
 have b:=congrFun (b w) os
 have b':=congrFun (b' w) os
 have c:=congrFun (c w) os
 revert a b b' c
 cases L w os with
 | none=>intro a; cases a
 | some x =>
  intro a b b' c
  have a:x.1=true:=Ba a
  have b:x.2.1.1=g.1:=Ba b
  have b':x.2.1.2=g.2:=Ba b'
  have c:Yf x.2.2=Ya w:=Ba c
  show some (x.1,x.2.1,Yf x.2.2)=some (true,g,Ya w)
  rw [a,c,show x.2.1=g from Prod.ext b b']
end Hd
section
open PySem PySem.W PyProof.Rows
local macro_rules | `(tactic| o_head $H)=>`(tactic| (
 refine holds_open (q:=Hd.q) (loose:=[]) (Xt:=fun s=>xlAt Hd.q [] s&&recOk [] s) (XP:=XL Hd.q [])
  (Yf:=Hook.obs $H) (Ya:=Hook.val $H) (YP:=Hook.says $H) (N:=5814)
  (Hd.left_tw PySem.W.Fast.te11159589718668676419 PySem.W.Fast.te15256597767800516470 rfl rfl (fun _=>rfl) (Hd.look3 Hd.lookA Hd.lookB Hd.lookC (fun w=>by kernel_rfl)))
  (Hook.of $H) (Hook.keeps $H) (fun s e=>xl_of s (Bool.and_eq_true_iff.mp e).1) XL.keeps (by rfl) (by rfl) (by rfl)
  (fun s e=>recFacts_of (Bool.and_eq_true_iff.mp e).2) rfl (by assumption) ?h4 ⟨rfl,rfl,rfl,rfl,rfl,?h5⟩ ?hw ?hc
 (case h4=>decide +kernel)
 (case h5=>decide +kernel)
 (case hw=>w_witness2)
 (rename_i z; clear z)))
set_option maxHeartbeats 0 in
noncomputable def Hd.all:{ W:Prop // W->PySem.Challenge.rw_leadersplice_k56_whole_the_other_way.Holds }:=by
 refine' ⟨_,fun hwalk=>_⟩
 rotate_left
 w_on; o_law; k_head
 exact hwalk
end
namespace L2
open PySem PySem.Spec PyProof.Rows
abbrev Key:=Sum Int Str
def ir:Key->Value->Bool
 | .inl k,v=>Value.isInt k v
 | .inr x,v=>Value.isStrOf x v
def Av (w:Bj):Key->Int
 | .inl k=>hashInt k
 | .inr x=>hashStr w x
theorem aY:∀{k:Key}{v:Value},ir k v=true->(∃i t,k=Sum.inl i/\v=EQ i t)\/(∃x t,k=Co x/\v=Value.str x t)
 | .inl i,v,h=>by
  obtain ⟨t,e⟩:=Value.isInt_shape (k:=i) (v:=v) h
  exact .inl ⟨i,t,rfl,e⟩
 | .inr x,v,h=>by
  obtain ⟨t,e⟩:=Value.isStrOf_shape (x:=x) (v:=v) h
  exact .inr ⟨x,t,rfl,e⟩
theorem qd (i:Int) (t:Tok):ir (.inl i) (.int i t)=true:=by simp [ir,Value.isInt]
theorem qc (x:Str) (t:Tok):ir (.inr x) (.str x t)=true:=by simp [ir,Value.isStrOf]
theorem yO (a b:Int):decide ((Sum.inl a:Key)=Sum.inl b)=(a == b):=by
 by_cases e:a=b
 ·subst e; simp
 ·have h:¬ (Sum.inl a:Key)=Sum.inl b:=fun q=>e (Sum.inl.inj q)
  rw [decide_eq_false h]
  exact (beq_eq_false_iff_ne.mpr e).symm
theorem yL (a b:Str):decide ((Co a:Key)=Co b)=decide (a=b):=by
 by_cases e:a=b
 ·subst e; simp
 ·have h:¬ (Co a:Key)=Co b:=fun q=>e (Co.inj q)
  rw [decide_eq_false h,decide_eq_false e]
theorem yN (a:Int) (b:Str):decide ((Sum.inl a:Key)=Co b)=false:=decide_eq_false (fun q=>nomatch q)
theorem yM (a:Str) (b:Int):decide ((Co a:Key)=Sum.inl b)=false:=decide_eq_false (fun q=>nomatch q)
def aQ (prog:Program) (w:Bj):PySem.KeyKind prog w Key where
 is:=ir
 hash:=Av w
 inj:=fun v a b ha hb=>by
  rcases aY ha with ⟨i,t,rfl,rfl⟩ | ⟨x,t,rfl,rfl⟩
  ·rcases aY hb with ⟨j,u,rfl,e⟩ | ⟨y,u,rfl,e⟩
   ·injection e with e1 _; rw [e1]
   ·exact nomatch e
  ·rcases aY hb with ⟨j,u,rfl,e⟩ | ⟨y,u,rfl,e⟩
   ·exact nomatch e
   ·injection e with e1 _; rw [e1]
 byValue:=fun k v h=>by
  rcases aY h with ⟨i,t,rfl,rfl⟩ | ⟨x,t,rfl,rfl⟩ <;> rfl
 pyHash:=fun hv h=>by
  rcases aY hv with ⟨i,t,rfl,rfl⟩ | ⟨x,t,rfl,rfl⟩
  ·exact wpAny_pyHash_int h
  ·exact wpAny_pyHash_str h
 eqBool:=fun hu hv h=>by
  rcases aY hu with ⟨i,t,rfl,rfl⟩ | ⟨x,t,rfl,rfl⟩
  ·rcases aY hv with ⟨j,u,rfl,rfl⟩ | ⟨y,u,rfl,rfl⟩
   ·rw [yO] at h; exact wpAny_eqBool_int h
   ·rw [yN] at h; exact SeqAt.EqAt.int_str i t y u _ _ _ _ h
  ·rcases aY hv with ⟨j,u,rfl,rfl⟩ | ⟨y,u,rfl,rfl⟩
   ·rw [yM] at h; exact SeqAt.EqAt.str_int x t j u _ _ _ _ h
   ·rw [yL] at h; exact wpAny_eqBool_str h
 «strs»:=fun k x t v h=>by
  rcases aY h with ⟨i,u,rfl,e⟩ | ⟨y,u,rfl,e⟩
  ·exact nomatch e
  ·injection e with e1 _
   subst e1
   cases v <;> rfl
theorem k4 (prog:Program) (w:Bj) (i:Int) (t:Tok):(aQ prog w).is (.inl i) (.int i t)=true:=qd i t
theorem kZ (prog:Program) (w:Bj) (x:Str) (t:Tok):(aQ prog w).is (.inr x) (.str x t)=true:=qc x t
inductive V where
 | non | bl (b:Bool) | int (i:Int) | str (x:Str) | byt (b:Array UInt8) | flt (b:UInt64) | ref (a:Addr) | ty (n:String)
 deriving DecidableEq
def RelV:V->Value->Prop
 | .non,u=>u=BY
 | .bl b,u=>u=Value.bool b
 | .int i,u=>∃t,u=EQ i t
 | .str x,u=>∃t,u=Value.str x t
 | .byt b,u=>∃t,u=Value.bytes b t
 | .flt b,u=>∃t,u=Value.float b t
 | .ref a,u=>u=Bc a
 | .ty n,u=>u=ER n
abbrev Vals:List V->List Value->Prop:=Paired RelV
theorem Vals.length {xs:List V}{us:List Value}(r:Vals xs us):xs.length=us.length:=Paired.length r
theorem Vals.get:∀{xs:List V}{us:List Value}{i:Nat}{x:V},Vals xs us->xs[i]?=some x->∃u,us[i]?=some u/\RelV x u
 | _,_,_,_,.nil,e=>by simp at e
 | _,_,0,_,.cons r _,e=>by simp at e; subst e; exact ⟨_,rfl,r⟩
 | _,_,i+1,x,.cons _ t,e=>by
  obtain ⟨u,h1,h2⟩:=Vals.get (i:=i) (x:=x) t (by simpa using e)
  exact ⟨u,by simpa using h1,h2⟩
theorem Vals.set {x:V}{u:Value}(r:RelV x u):∀{xs:List V}{us:List Value}(i:Nat),Vals xs us->Vals (xs.set i x) (us.set i u)
 | _,_,_,.nil=>.nil
 | _,_,0,.cons _ t=>.cons r t
 | _,_,i+1,.cons q t=>.cons q (Vals.set r i t)
theorem Vals.append:∀{xs ys:List V}{us ws:List Value},Vals xs us->Vals ys ws->Vals (xs++ys) (us++ws)
 | _,_,_,_,.nil,s=>s
 | _,_,_,_,.cons r t,s=>.cons r (Vals.append t s)
theorem Vals.take:∀{xs:List V}{us:List Value}(n:Nat),Vals xs us->Vals (xs.take n) (us.take n)
 | _,_,0,_=>.nil
 | _,_,_+1,.nil=>.nil
 | _,_,n+1,.cons r t=>.cons r (Vals.take n t)
theorem Vals.drop:∀{xs:List V}{us:List Value}(n:Nat),Vals xs us->Vals (xs.drop n) (us.drop n)
 | _,_,0,r=>r
 | _,_,_+1,.nil=>.nil
 | _,_,n+1,.cons _ t=>Vals.drop n t
def RelO:Option V->Option Value->Prop
 | some v,some u=>RelV v u
 | none,none=>True
 | _,_=>False
def KV {κ:Type}:List (κ×V)->List (κ×Value)->Prop:=Paired fun (p:κ×V) (q:κ×Value)=>p.1=q.1/\RelV p.2 q.2
def kV:Key->V
 | .inl i=>.int i
 | .inr x=>.str x
inductive HO where
  | lst (xs:List V)
  | tup (xs:List V)
  | dK (kvs:List (Key×V)) | dT (kvs:List (List Key×V))
  | set (S:Int->Bool) (n:Nat)
  | ins (C dx:Addr) (fs:List (Str×V))
  | own (x:Addr)
  | xd (fs:List (Str×V))
  | met (f x:Addr)
  | rng (lo hi:Int)
  | frz (o:Obj) (u:HO)
  | tbl (ps:Array Value)
  | ext (φ:Heap->Prop)
abbrev Hp:=Addr->Option HO
def upd (H:Hp) (a:Addr) (o:HO):Hp:=fun b=>if b=a then some o else H b
theorem ac {H:Hp}{a:Addr}{o:HO}:upd H a o a=some o:=by unfold upd; rw [if_pos rfl]
theorem aj {H:Hp}{a b:Addr}{o:HO}(h:b≠a):upd H a o b=H b:=by unfold upd; rw [if_neg h]
theorem bJ {H:Hp}{a b:Addr}{o u:HO}(h:H a=some o) (h':H b=some u) (d:o≠u):a≠b:=by
 intro e; subst e; rw [h] at h'; exact d (Ba h')
theorem am {H:Hp}{a b:Addr}{o:HO}(h:H a=some o) (h':H b=none):a≠b:=by
 intro e; subst e; rw [h] at h'; cases h'
section
variable (P:Program) (w:Bj)
def ObjOk (H:Hp) (h:Heap) (a:Addr):HO->Prop
 | .lst xs=>xs.length<=sizeLine/\∃(its:List Value) (n:Nat),Vals xs its/\h.get? a=some { cls:=.type "list",data:=.seq its.toArray n }
 | .tup xs=>xs.length<=sizeLine/\∃its:List Value,Vals xs its/\Fe h a its.toArray
 | .dK kvs=>kvs.length<=sizeLine/\(a == Di)=false/\∃vs,KV kvs vs/\h.DictOf (aQ P w) a vs
 | .dT kvs=>kvs.length<=sizeLine/\(a == Di)=false/\∃xs:List (List Key×Addr×Value),
   Paired (fun (p:List Key×V) (q:List Key×Addr×Value)=>p.1=q.1/\H q.2.1=some (.tup (p.1.map kV))/\RelV p.2 q.2.2) kvs xs /\
   ∃o es ep,h.get? a=some o/\o.ExactDict/\o.data=.dict es ep/\es.toList=xs.map (entryOfKey (tupleKind (aQ P w)))/\(xs.map (·.1)).Nodup
 | .set S n=>h.SetOf (intKind P w) a S n
 | .ins C dx fs=>H dx=some (.own a)/\fs.length<=1000/\dx≠a/\h.get? a=some (PySem.W.instObj C dx) /\
   ∃mA,h.Ns1 dx mA/\(∀f,RelO (fs.lookup f) (mA f))/\PySem.Within mA (fs.map (·.1))
 | .own _=>∃o,h.get? a=some o
 | .xd fs=>∃mA,h.Ns1 a mA/\∀f,RelO (fs.lookup f) (mA f)
 | .rng lo hi=>∃t u v,h.get? a=some { cls:=.type "range",data:=.fields #[.int lo t,.int hi u,.int 1 v] }
 | .frz o u=>h.get? a=some o/\ObjOk H h a u
 | .tbl ps=>h.get? a=some { cls:=.none,data:=.fields ps }
 | .met f x=>h.get? a=some (PySem.W.methodObj (.ref f) (.ref x))
 | .ext φ=>φ h/\(∃o,h.get? a=some o)/\∀h1 h2:Heap,φ h1->(∀o,h1.get? a=some o->h2.get? a=some o)->φ h2
def HOk (H:Hp) (h:Heap):Prop:=∀a o,H a=some o->ObjOk P w H h a o
end
section
variable {P:Program}{w:Bj}{H H':Hp}{h h':Heap}{a:Addr}{o:HO}
theorem ObjOk.lt (x:ObjOk P w H h a o):a<h.objs.size:=by
 cases o with
 | lst xs=>obtain ⟨_,_,_,_,e⟩:=x; exact A3 e
 | tup xs=>obtain ⟨_,_,_,p⟩:=x; exact p.lt
 | dK kvs=>obtain ⟨_,_,_,_,o,_,_,e,_⟩:=x; exact A3 e
 | dT kvs=>obtain ⟨_,_,_,_,o,_,_,e,_⟩:=x; exact A3 e
 | set S n=>obtain ⟨o,_,_,_,e,_⟩:=x; exact A3 e
 | ins C dx fs=>obtain ⟨_,_,_,e,_⟩:=x; exact A3 e
 | own y=>obtain ⟨_,e⟩:=x; exact A3 e
 | xd fs=>obtain ⟨_,⟨_,_,_,e,_⟩,_⟩:=x; exact A3 e
 | rng lo hi=>obtain ⟨_,_,_,e⟩:=x; exact A3 e
 | frz ob u=>obtain ⟨e,_⟩:=x; exact A3 e
 | tbl ps=>exact A3 (show h.get? a=some _ from x)
 | met f y=>exact A3 (show h.get? a=some _ from x)
 | ext φ=>obtain ⟨_,⟨_,e⟩,_⟩:=x; exact A3 e
theorem Paired.mapP {α β:Type}{F G:α->β->Prop}:∀{l₁:List α}{l₂:List β},Paired F l₁ l₂->(∀a b,F a b->G a b)->Paired G l₁ l₂
 | _,_,.nil,_=>.nil
 | _,_,.cons r t,f=>.cons (f _ _ r) (Paired.mapP t f)
theorem ObjOk.stay (x:ObjOk P w H h a o) (k:∀b u,(b=a\/H b=some (.own a))->h.get? b=some u->h'.get? b=some u)
  (ho:∀b,H b=some (.own a)->H' b=some (.own a)) (ht:∀b xs,H b=some (.tup xs)->H' b=some (.tup xs)):ObjOk P w H' h' a o:=by
 induction o with
 | lst xs=>obtain ⟨z,its,n,r,e⟩:=x; exact ⟨z,its,n,r,k _ _ (.inl rfl) e⟩
 | tup xs=>obtain ⟨z,its,r,ob,e,c⟩:=x; exact ⟨z,its,r,ob,k _ _ (.inl rfl) e,c⟩
 | dK kvs=>obtain ⟨z,y,vs,r,ob,es,ep,e,c⟩:=x; exact ⟨z,y,vs,r,ob,es,ep,k _ _ (.inl rfl) e,c⟩
 | dT kvs =>
  obtain ⟨z,y,xs,r,ob,es,ep,e,c⟩:=x
  exact ⟨z,y,xs,Paired.mapP r fun p q z=>⟨z.1,ht _ _ z.2.1,z.2.2⟩,ob,es,ep,k _ _ (.inl rfl) e,c⟩
 | set S n=>obtain ⟨ob,es,ep,t,e,c⟩:=x; exact ⟨ob,es,ep,t,k _ _ (.inl rfl) e,c⟩
 | ins C dx fs =>
  obtain ⟨d,z,ne,e,mA,⟨od,es,ep,e2,c⟩,r⟩:=x
  exact ⟨ho _ d,z,ne,k _ _ (.inl rfl) e,mA,⟨od,es,ep,k _ _ (.inr d) e2,c⟩,r⟩
 | own y=>obtain ⟨ob,e⟩:=x; exact ⟨ob,k _ _ (.inl rfl) e⟩
 | xd fs=>obtain ⟨mA,⟨od,es,ep,e,c⟩,r⟩:=x; exact ⟨mA,⟨od,es,ep,k _ _ (.inl rfl) e,c⟩,r⟩
 | rng lo hi=>obtain ⟨t,u,v,e⟩:=x; exact ⟨t,u,v,k _ _ (.inl rfl) e⟩
 | frz ob u ih=>obtain ⟨e,q⟩:=x; exact ⟨k _ _ (.inl rfl) e,ih q⟩
 | tbl ps =>
  have e:h.get? a=some { cls:=.none,data:=.fields ps }:=x
  show h'.get? a=some { cls:=.none,data:=.fields ps }
  exact k a _ (.inl rfl) e
 | met f y =>
  have e:h.get? a=some (PySem.W.methodObj (.ref f) (.ref y)):=x
  show h'.get? a=some (PySem.W.methodObj (.ref f) (.ref y))
  exact k a _ (.inl rfl) e
 | ext φ=>obtain ⟨p,⟨o,e⟩,st⟩:=x; exact ⟨st _ _ p fun o q=>k _ _ (.inl rfl) q,⟨o,k _ _ (.inl rfl) e⟩,st⟩
theorem HOk.lt (x:HOk P w H h) (e:H a=some o):a<h.objs.size:=(x a o e).lt
theorem HOk.fresh (x:HOk P w H h) (e:h.objs.size<=a):H a=none:=by
 cases q:H a with
 | none=>rfl
 | some u=>exact absurd (Bp (x.lt q) e) (Cm _)
theorem HOk.kept (x:HOk P w H h) (k:∀b u,h.get? b=some u->h'.get? b=some u):HOk P w H h':=fun a o e =>
 (x a o e).stay (fun b u _ q=>k b u q) (fun _ q=>q) fun _ _ q=>q
theorem HOk.laid (x:HOk P w H h) (k:∀b u,h.get? b=some u->h'.get? b=some u) (hp:h.objs.size<=a) (new:ObjOk P w (upd H a o) h' a o):HOk P w (upd H a o) h':=fun b u e=>by
 have hn:=x.fresh hp
 by_cases hb:b=a
 ·subst hb; rw [ac] at e; cases e; exact new
 ·rw [aj hb] at e
  exact (x b u e).stay (fun c v _ q=>k c v q) (fun c q=>by rw [aj (am q hn)]; exact q) fun c xs q=>by rw [aj (am q hn)]; exact q
end
def Rd (H:Hp) (a:Addr) (u:HO):Prop:=H a=some u\/∃o,H a=some (.frz o u)
theorem Rd.of {H:Hp}{a:Addr}{u:HO}(h:H a=some u):Rd H a u:=.inl h
theorem Rd.ok {P:Program}{w:Bj}{H:Hp}{h:Heap}{a:Addr}{u:HO}(r:Rd H a u) (x:HOk P w H h):ObjOk P w H h a u:=by
 rcases r with r | ⟨o,r⟩
 ·exact x a u r
 ·obtain ⟨_,q⟩:=x a _ r
  exact q
def Mut:Option HO->Prop
 | some (.lst _)=>True
 | some (.dK _)=>True
 | some (.dT _)=>True
 | some (.set _ _)=>True
 | some (.ins _ _ _)=>True
 | some (.ext _)=>True
 | _=>False
section
variable {P:Program}{w:Bj}{H:Hp}{h h':Heap}{x e:Addr}{o':HO}
theorem HOk.write (ok:HOk P w H h) (mu:Mut (H x)) (he:e=x\/H e=some (.own x)) (k:∀b u,b≠e->h.get? b=some u->h'.get? b=some u) (heo:∃u,h'.get? e=some u)
  (new:ObjOk P w (upd H x o') h' x o'):HOk P w (upd H x o') h':=fun b u q=>by
 have nown:∀c y,H c=some (.own y)->c≠x:=fun c y r z=>by subst z; rw [r] at mu; exact mu
 have ntup:∀c xs,H c=some (.tup xs)->c≠x:=fun c xs r z=>by subst z; rw [r] at mu; exact mu
 by_cases hb:b=x
 ·subst hb; rw [ac] at q; cases q; exact new
 ·rw [aj hb] at q
  by_cases hbe:b=e
  ·have q':H b=some (.own x):=by
    rcases he with z | z
    ·exact absurd (hbe.trans z) hb
    ·rw [hbe]; exact z
   rw [q] at q'; cases q'
   obtain ⟨v,hv⟩:=heo
   exact ⟨v,by rw [hbe]; exact hv⟩
  ·refine (ok b u q).stay (fun c v hc r=>k c v ?_ r) (fun c r=>by rw [aj (nown c b r)]; exact r) fun c xs r=>by rw [aj (ntup c xs r)]; exact r
   rcases hc with rfl | hc
   ·exact hbe
   ·rintro rfl
    rcases he with z | z
    ·exact nown c b hc z
    ·rw [hc] at z; cases z; exact hb rfl
end
structure Un (fs ex:List Addr) (H H':Hp) (h h':Heap):Prop where
 keep:∀b o,h.get? b=some o->H b=none->b ∉ fs->b ∉ ex->h'.get? b=some o
 slot:∀b o,h.get? b=some o->H b=none->b∈fs->b ∉ ex->∃sl,h'.get? b=some { o with slots:=sl }
 free:∀b o,h.get? b=some o->H b=none->b ∉ ex->H' b=none
 there:∀b o,h.get? b=some o->b ∉ ex->∃o',h'.get? b=some o'
 tups:∀b xs,H b=some (.tup xs)->H' b=some (.tup xs)
 frzs:∀b o u,H b=some (.frz o u)->H' b=some (.frz o u)
 tbls:∀b ps,H b=some (.tbl ps)->∃more,H' b=some (.tbl (ps++more))
section
variable {fs fs' ex ex':List Addr}{H H1 H2:Hp}{h h1 h2 h':Heap}{a x e:Addr}{o:HO}
theorem Un.any (u:Un fs ex H H1 h h1) {b:Addr}{ob:Obj}(q:h.get? b=some ob) (n:H b=none) (hx:b ∉ ex):∃sl,h1.get? b=some { ob with slots:=sl }:=by
 by_cases hb:b∈fs
 ·exact u.slot b ob q n hb hx
 ·exact ⟨ob.slots,u.keep b ob q n hb hx⟩
theorem Un.kept (k:∀b u,h.get? b=some u->h'.get? b=some u):Un fs ex H H h h' :=
 ⟨fun b ob q _ _ _=>k b ob q,fun b ob q _ _ _=>⟨ob.slots,k b ob q⟩,fun _ _ _ n _=>n,fun b ob q _=>⟨ob,k b ob q⟩,fun _ _ q=>q,fun _ _ _ q=>q,fun _ ps q=>⟨#[],by rw [q]; simp⟩⟩
theorem Un.refl:Un fs ex H H h h:=Un.kept fun _ _ q=>q
theorem Un.laid (k:∀b u,h.get? b=some u->h'.get? b=some u) (hp:h.objs.size<=a) (hn:H a=none):Un fs ex H (upd H a o) h h' where
 keep:=fun b u q _ _ _=>k b u q
 slot:=fun b u q _ _ _=>⟨u.slots,k b u q⟩
 free:=fun b u q n _=>by rw [aj (Bl (Bp (A3 q) hp))]; exact n
 there:=fun b u q _=>⟨u,k b u q⟩
 tups:=fun b xs q=>by rw [aj (am q hn)]; exact q
 frzs:=fun b u xs q=>by rw [aj (am q hn)]; exact q
 tbls:=fun b ps q=>⟨#[],by rw [aj (am q hn),q]; simp⟩
theorem Un.write (mu:Mut (H x)) (he:e=x\/H e=some (.own x)) (k:∀b u,b≠e->h.get? b=some u->h'.get? b=some u) (heo:∃u,h'.get? e=some u):Un fs ex H (upd H x o) h h':=by
 have hx:∀b,H b=none->b≠x:=fun b n z=>by subst z; rw [n] at mu; exact mu
 have hb:∀b,H b=none->b≠e:=fun b n z=>by
  subst z
  rcases he with r | r
  ·exact hx b n r
  ·rw [n] at r; cases r
 have hm:∀b u,H b=some u->¬ Mut (some u)->b≠x:=fun b u q nm z=>by subst z; rw [q] at mu; exact nm mu
 refine ⟨fun b u q n _ _=>k b u (hb b n) q,fun b u q n _ _=>⟨u.slots,k b u (hb b n) q⟩,fun b u q n _=>by rw [aj (hx b n)]; exact n,fun b u q _=>?_,
  fun b xs q=>by rw [aj (hm b _ q fun z=>z)]; exact q,fun b u xs q=>by rw [aj (hm b _ q fun z=>z)]; exact q,fun b ps q=>⟨#[],by rw [aj (hm b _ q fun z=>z),q]; simp⟩⟩
 by_cases hbe:b=e
 ·subst hbe; exact heo
 ·exact ⟨u,k b u hbe q⟩
end
def trk (h:Heap) (H:Hp):List Addr:=(BP h.objs.size).filter fun a=>(H a).isSome
def iR (h:Heap) (H:Hp):Heap:=E8 h (trk h H)
theorem qh (h:Heap) (H:Hp):(iR h H).objs.size=h.objs.size:=PySem.W.hideAll_size _ _
theorem tS {h:Heap}{H:Hp}{b:Addr}{o:Obj}(e:h.get? b=some o) (n:H b=none):(iR h H).get? b=some o :=
 PySem.W.hideAll_get _ e fun hm=>by
  have q:(H b).isSome=true:=(E9.mp hm).2
  rw [n] at q; simp at q
theorem vP {h:Heap}{H:Hp}{b:Addr}{o:Obj}(e:(iR h H).get? b=some o):h.get? b=some o/\H b=none:=by
 have e':h.get? b=some o:=PySem.W.of_hideAll (trk h H) e
 refine ⟨e',?_⟩
 cases q:H b with
 | none=>rfl
 | some x =>
  have hm:b∈trk h H:=E9.mpr ⟨B7.mpr (A3 e'),by simp [q]⟩
  have z:(iR h H).get? b=none:=PySem.W.hideAll_none (trk h H) hm
  rw [z] at e; cases e
structure Mod (K:AK) (mg:Str->Option Value) (base:Heap):Prop where
 kin:K.In base
 glob:base.Ns AY mg
 blt:∃mb,base.Ns builtinsNs mb/\∀x:Str,x≠"__name__"->mb x=B2 x
 nolimit:base.NoLimit
structure Cx where
 prog:Program
 w:Bj
 K:AK
 mg:Str->Option Value
 base:Heap
 A:Bk
 N:List Str
 s₀:AL
 H₀:Hp
 env:Env
 outer:List Env
 stack:List Env
 ex:List Addr
 fn:Str->Bool
 calm:Bool
 pn:List (Addr×Obj)
 xe:Value->AL->Prop
def frs (l:List Env):List Addr:=l.filterMap (·.frame)
abbrev Cx.fs (X:Cx):List Addr:=frs X.outer
def Vis (sc:Scope) (x:Str):Prop:=sc.names.lookup x=some .local\/sc.names.lookup x=some .cell\/sc.names.lookup x=some .free
def Loc (sc:Scope) (x:Str):Prop:=sc.names.lookup x=some .local\/sc.names.lookup x=some .cell
def AC (env:Env) (h:Heap) (m:Str->Option Value) (x:Str) (u:Value):Prop :=
 (env.kindOf x=some .local/\m x=some u)\/((env.kindOf x=some .cell\/env.kindOf x=some .free)/\∃c,env.cells.lookup x=some c/\h.IsCell c (some u))
structure Cx.Ok (X:Cx):Prop where
 mod:Mod X.K X.mg X.base
 kind:X.env.scope.kind=.function
 glob:X.env.globals=AY
 blt:X.env.builtins=builtinsNs
 above:X.s₀.heap.objs.size<=X.env.locals
 inj:∀x y c,X.env.cells.lookup x=some c->X.env.cells.lookup y=some c->x=y
 has:∀x,(X.env.kindOf x=some .cell\/X.env.kindOf x=some .free)->∃c,X.env.cells.lookup x=some c
 cab:∀x c,X.fn x=true->X.env.cells.lookup x=some c->X.s₀.heap.objs.size<=c
 hd:X.calm=true->X.A.handled=none
 frames:X.A.frames=some X.stack
 stk:X.stack=X.outer\/(X.stack=X.env :: X.outer/\X.env.frame=some X.env.locals)
 exf:∀b∈X.ex,b≠X.env.locals/\∀x c,X.env.cells.lookup x=some c->c≠b
 bs:∀b o,X.base.get? b=some o->X.s₀.heap.get? b=some o/\X.H₀ b=none
 bsz:X.base.objs.size<=X.s₀.heap.objs.size
 noex:∀b o,X.base.get? b=some o->b ∉ X.ex
 exfs:∀b∈X.ex,b ∉ X.fs
 funs:X.s₀.heap.FunFrames X.base X.outer
 frf:∀b∈X.fs,X.H₀ b=none
structure Inv (X:Cx) (pins:List (Addr×Obj)) (σ:List (Option V)) (H:Hp) (s:AL):Prop where
 ok:X.Ok
 os:s.os=X.s₀.os
 bare:Eh s.gens
 base:Un X.fs X.ex X.H₀ H X.s₀.heap s.heap
 loc:∃m,s.heap.Ns X.env.locals m/\∀(i:Nat) (x:Str) (v:V),X.N[i]?=some x->σ[i]?=some (some v)->Vis X.env.scope x->∃u,RelV v u/\AC X.env s.heap m x u
 cell:∀x c,X.env.cells.lookup x=some c->∃v,s.heap.IsCell c v
 free:H X.env.locals=none
 freeC:∀x c,X.env.cells.lookup x=some c->H c=none
 pin:∀p∈X.pn++pins,s.heap.get? p.1=some p.2/\H p.1=none/\p.1≠X.env.locals/\p.1 ∉ X.fs/\∀v,p.2.data≠.cell v
 hok:HOk X.prog X.w H s.heap
 len:σ.length=X.N.length
section
variable {X:Cx}{pins:List (Addr×Obj)}{σ:List (Option V)}{H H':Hp}{s:AL}{h':Heap}
theorem Cx.Ok.nofr (ok:X.Ok) {b:Addr}{o:Obj}(e:X.base.get? b=some o):b ∉ X.fs:=fun hb=>by
 have:=(ok.funs.mem hb).1
 rw [e] at this; cases this
theorem Inv.bs (I:Inv X pins σ H s):∀b o,X.base.get? b=some o->s.heap.get? b=some o/\H b=none:=fun b o e =>
 ⟨I.base.keep b o (I.ok.bs b o e).1 (I.ok.bs b o e).2 (I.ok.nofr e) (I.ok.noex b o e),I.base.free b o (I.ok.bs b o e).1 (I.ok.bs b o e).2 (I.ok.noex b o e)⟩
theorem Inv.bk (I:Inv X pins σ H s):∀b o,X.base.get? b=some o->s.heap.get? b=some o:=fun b o e=>(I.bs b o e).1
theorem Inv.mod (I:Inv X pins σ H s):Mod X.K X.mg X.base:=I.ok.mod
theorem Inv.kIn (I:Inv X pins σ H s):X.K.In s.heap:=I.ok.mod.kin.keeps I.bk
theorem Inv.nolimit (I:Inv X pins σ H s):s.heap.NoLimit:=I.ok.mod.nolimit.keeps I.bk
theorem Inv.lt (I:Inv X pins σ H s):X.env.locals<s.heap.objs.size:=let ⟨_,hn,_⟩:=I.loc; hn.lt
theorem Inv.sz (I:Inv X pins σ H s):X.s₀.heap.objs.size<=s.heap.objs.size:=Bm I.ok.above (Ez I.lt)
theorem Inv.nofs (I:Inv X pins σ H s) {a:Addr}(h:s.heap.objs.size<=a):a ∉ X.fs:=fun hb=>by
 obtain ⟨_,o,ho,_⟩:=I.ok.funs.mem hb
 exact absurd (Bp (A3 ho) (Bm I.sz h)) (Cm _)
theorem Inv.cne (I:Inv X pins σ H s):∀x c,X.env.cells.lookup x=some c->c≠X.env.locals:=fun x c e z=>by
 obtain ⟨v,o,ho,hd⟩:=I.cell x c e
 obtain ⟨m,⟨o',es,ep,ho',hd',_⟩,_⟩:=I.loc
 rw [z,ho'] at ho; cases ho; rw [hd'] at hd; cases hd
theorem Inv.funs (I:Inv X pins σ H s):s.heap.FunFrames X.base X.outer:=by
 have all:∀(l:List Env),(∀b∈frs l,b∈X.fs)->X.s₀.heap.FunFrames X.base l->s.heap.FunFrames X.base l:=by
  intro l
  induction l with
  | nil=>intro _ _; trivial
  | cons env r ih =>
   intro hs hl
   obtain ⟨hk,⟨L,o,hf,hn,ho,hd⟩,hr⟩:=hl
   have hL:L∈X.fs:=hs L (by unfold frs; rw [Ed,hf]; exact AQ)
   obtain ⟨sl,e⟩:=I.base.slot L o ho (I.ok.frf L hL) hL fun z=>I.ok.exfs L z hL
   exact ⟨hk,⟨L,_,hf,hn,e,hd⟩,ih (fun b hb=>hs b (by unfold frs; rw [Ed,hf]; exact AO _ hb)) hr⟩
 exact all X.outer (fun _ hb=>hb) I.ok.funs
theorem Inv.stack (I:Inv X pins σ H s):s.heap.FunFrames X.base X.stack:=by
 rcases I.ok.stk with e | ⟨e,hf⟩
 ·rw [e]; exact I.funs
 ·rw [e]
  obtain ⟨m,hn,_⟩:=I.loc
  refine .cons (by rw [I.ok.kind]; decide) hf hn ?_ I.funs
  exact CM (Bm I.ok.bsz I.ok.above)
theorem Inv.stkSub (I:Inv X pins σ H s):∀b∈frs X.stack,b∈X.env.locals :: X.fs:=fun b hb=>by
 rcases I.ok.stk with e | ⟨e,hf⟩
 ·rw [e] at hb; exact AO _ hb
 ·rw [e] at hb
  unfold frs at hb
  rw [Ed,hf] at hb
  exact hb
theorem Inv.stkFree (I:Inv X pins σ H s):∀b∈frs X.stack,H b=none:=fun b hb=>by
 rcases AX.mp (I.stkSub b hb) with e | hb
 ·rw [e]; exact I.free
 ·obtain ⟨_,o,ho,_⟩:=I.ok.funs.mem hb
  exact I.base.free b o ho (I.ok.frf b hb) fun z=>I.ok.exfs b z hb
/-- THE STEP: the untracked objects but the frame and the records at ch are kept (the callers' frames up to slots),the frame's map is kept,the new abstract heap is held -/
theorem Inv.step {g':Array E4}{t':Nat}{d':Drawn}{ch:List Addr}(I:Inv X pins σ H s)
  (hch:∀b∈ch,(b∈X.ex\/X.s₀.heap.objs.size<=b)/\b≠X.env.locals/\(∀x c,X.env.cells.lookup x=some c->c≠b)/\∀p∈X.pn++pins,p.1≠b)
  (keep:∀b o,b≠X.env.locals->b ∉ X.fs->b ∉ ch->s.heap.get? b=some o->H b=none->h'.get? b=some o)
  (slot:∀b o,b≠X.env.locals->b∈X.fs->b ∉ ch->s.heap.get? b=some o->H b=none->∃sl,h'.get? b=some { o with slots:=sl }) (free:∀b o,b ∉ ch->s.heap.get? b=some o->H b=none->H' b=none)
  (there:∀b o,b ∉ ch->s.heap.get? b=some o->∃o',h'.get? b=some o')
  (tups:∀b xs,H b=some (.tup xs)->H' b=some (.tup xs)) (frzs:∀b o u,H b=some (.frz o u)->H' b=some (.frz o u)) (tbls:∀b ps,H b=some (.tbl ps)->∃more,H' b=some (.tbl (ps++more)))
  (ns:∀m,s.heap.Ns X.env.locals m->h'.Ns X.env.locals m) (hok:HOk X.prog X.w H' h') (hg:Eh g') :
  Inv X pins σ H' { s with heap:=h',gens:=g',drawn:=d',toks:=t' }:=by
 have neL:∀b o,X.s₀.heap.get? b=some o->b≠X.env.locals:=fun b o e=>Bl (Bp (A3 e) I.ok.above)
 have neC:∀b o,X.s₀.heap.get? b=some o->b ∉ X.ex->b ∉ ch:=fun b o e hx hb=>by
  rcases (hch b hb).1 with z | z
  ·exact hx z
  ·exact absurd (Bp (A3 e) z) (Cm _)
 have cellK:∀x c,X.env.cells.lookup x=some c->∀v,s.heap.IsCell c v->h'.IsCell c v:=fun x c e v ⟨o,ho,hd⟩=>by
  have nch:c ∉ ch:=fun z=>(hch c z).2.2.1 x c e rfl
  by_cases hc:c∈X.fs
  ·obtain ⟨sl,q⟩:=slot c o (I.cne x c e) hc nch ho (I.freeC x c e)
   exact ⟨_,q,hd⟩
  ·exact ⟨o,keep c o (I.cne x c e) hc nch ho (I.freeC x c e),hd⟩
 refine ⟨I.ok,I.os,hg,⟨fun b o e n hb hx=>?_,fun b o e n hb hx=>?_,fun b o e n hx=>?_,fun b o e hx=>?_,fun b xs e=>tups b xs (I.base.tups b xs e),fun b o xs e=>frzs b o xs (I.base.frzs b o xs e),fun b ps e=>?_⟩,?_,fun x c e=>?_,?_,fun x c e=>?_,fun p hp=>?_,hok,I.len⟩
 ·exact keep b o (neL b o e) hb (neC b o e hx) (I.base.keep b o e n hb hx) (I.base.free b o e n hx)
 ·obtain ⟨sl,e1⟩:=I.base.slot b o e n hb hx
  obtain ⟨sl',e2⟩:=slot b _ (neL b o e) hb (neC b o e hx) e1 (I.base.free b o e n hx)
  exact ⟨sl',e2⟩
 ·obtain ⟨o',e1⟩:=I.base.there b o e hx
  exact free b o' (neC b o e hx) e1 (I.base.free b o e n hx)
 ·obtain ⟨o',e1⟩:=I.base.there b o e hx
  exact there b o' (neC b o e hx) e1
 ·obtain ⟨m1,e1⟩:=I.base.tbls b ps e
  obtain ⟨m2,e2⟩:=tbls b _ e1
  exact ⟨m1++m2,by rw [e2,Array.append_assoc]⟩
 ·obtain ⟨m,hn,hl⟩:=I.loc
  refine ⟨m,ns m hn,fun i x v e1 e2 e3=>?_⟩
  obtain ⟨u,r,l⟩:=hl i x v e1 e2 e3
  refine ⟨u,r,?_⟩
  rcases l with l | ⟨k,c,e,z⟩
  ·exact .inl l
  ·exact .inr ⟨k,c,e,cellK x c e _ z⟩
 ·obtain ⟨v,z⟩:=I.cell x c e
  exact ⟨v,cellK x c e v z⟩
 ·obtain ⟨m,⟨o,_,_,ho,_⟩,_⟩:=I.loc
  exact free _ o (fun z=>(hch _ z).2.1 rfl) ho I.free
 ·obtain ⟨v,o,ho,hd⟩:=I.cell x c e
  exact free c o (fun z=>(hch c z).2.2.1 x c e rfl) ho (I.freeC x c e)
 ·obtain ⟨e,n,ne,nf,d⟩:=I.pin p hp
  have nch:p.1 ∉ ch:=fun z=>(hch p.1 z).2.2.2 p hp rfl
  exact ⟨keep p.1 p.2 ne nf nch e n,free p.1 p.2 nch e n,ne,nf,d⟩
theorem Inv.un {t':Nat}(I:Inv X pins σ H s) (u:Un X.fs [] H H' s.heap h') (hok:HOk X.prog X.w H' h'):Inv X pins σ H' { s with heap:=h',toks:=t' }:=by
 obtain ⟨m,⟨o,es,ep,ho,r⟩,_⟩:=id I.loc
 obtain ⟨sl,hL⟩:=u.any ho I.free (by simp)
 exact I.step (g':=s.gens) (d':=s.drawn) (ch:=[]) (fun _ z=>nomatch z) (fun b o _ hb _ e n=>u.keep b o e n hb (by simp)) (fun b o _ hb _ e n=>u.slot b o e n hb (by simp)) (fun b o _ e n=>u.free b o e n (by simp)) (fun b o _ e=>u.there b o e (by simp)) u.tups u.frzs u.tbls (fun m' hm=>by
  obtain ⟨o',es',ep',ho',r'⟩:=hm
  rw [ho] at ho'; cases ho'
  exact ⟨_,es',ep',hL,r'⟩) hok I.bare
theorem Inv.call {g':Array E4}{t':Nat}{d':Drawn}{ch:List Addr}(I:Inv X pins σ H s) (u:Un (frs X.stack) ch H H' s.heap h') (hok:HOk X.prog X.w H' h') (hg:Eh g')
  (hch:∀b∈ch,(b∈X.ex\/X.s₀.heap.objs.size<=b)/\b≠X.env.locals/\(∀x c,X.env.cells.lookup x=some c->c≠b)/\∀p∈X.pn++pins,p.1≠b) :
  Inv X pins σ H' { s with heap:=h',gens:=g',drawn:=d',toks:=t' }:=by
 obtain ⟨m,⟨o,es,ep,ho,r⟩,_⟩:=id I.loc
 obtain ⟨sl,hL⟩:=u.any ho I.free fun z=>(hch _ z).2.1 rfl
 exact I.step (ch:=ch) hch (fun b o hL hb hc e n=>u.keep b o e n (fun z=>(AX.mp (I.stkSub b z)).elim hL hb) hc) (fun b o _ _ hc e n=>u.any e n hc) (fun b o hc e n=>u.free b o e n hc) (fun b o hc e=>u.there b o e hc) u.tups u.frzs u.tbls (fun m' hm=>by
  obtain ⟨o',es',ep',ho',r'⟩:=hm
  rw [ho] at ho'; cases ho'
  exact ⟨_,es',ep',hL,r'⟩) hok hg
theorem Inv.turned {t':Nat}{it:Addr}(I:Inv X pins σ H s) (k:∀b o,b≠it->s.heap.get? b=some o->h'.get? b=some o) (hn:H it=none) (hL:it≠X.env.locals)
  (h1:it∈X.ex\/X.s₀.heap.objs.size<=it) (h2:∀x c,X.env.cells.lookup x=some c->c≠it) (h3:∀p∈X.pn++pins,p.1≠it):Inv X pins σ H { s with heap:=h',toks:=t' }:=by
 have nit:∀b u,H b=some u->b≠it:=fun b u e z=>by rw [z,hn] at e; cases e
 refine I.step (g':=s.gens) (d':=s.drawn) (ch:=[it]) (fun b hb=>?_) (fun b o _ _ hc e _=>k b o (fun z=>hc (by simp [z])) e) (fun b o _ _ hc e _=>⟨o.slots,k b o (fun z=>hc (by simp [z])) e⟩) (fun _ _ _ _ n=>n)
  (fun b o hc e=>⟨o,k b o (fun z=>hc (by simp [z])) e⟩) (fun _ _ e=>e) (fun _ _ _ e=>e) (fun b ps e=>⟨#[],by rw [e]; simp⟩) (fun m hm=>?_) (fun b u e=>?_) I.bare
 ·have e:b=it:=by simpa using hb
  subst e
  exact ⟨h1,hL,h2,h3⟩
 ·obtain ⟨o,es,ep,ho,r⟩:=hm
  exact ⟨o,es,ep,k _ o (Cg hL) ho,r⟩
 ·refine (I.hok b u e).stay (fun c v hc q=>k c v ?_ q) (fun _ q=>q) fun _ _ q=>q
  rcases hc with z | z
  ·rw [z]; exact nit b u e
  ·exact nit c _ z
theorem Inv.tok (I:Inv X pins σ H s) (t:Nat):Inv X pins σ H { s with toks:=t }:=I.un (h':=s.heap) (t':=t) Un.refl I.hok
theorem Inv.kept {t':Nat}(I:Inv X pins σ H s) (k:∀b u,s.heap.get? b=some u->h'.get? b=some u):Inv X pins σ H { s with heap:=h',toks:=t' }:=I.un (Un.kept k) (I.hok.kept k)
theorem Inv.laid {a:Addr}{o:HO}{t':Nat}(I:Inv X pins σ H s) (k:∀b u,s.heap.get? b=some u->h'.get? b=some u) (hp:s.heap.objs.size<=a) (new:ObjOk X.prog X.w (upd H a o) h' a o) :
  Inv X pins σ (upd H a o) { s with heap:=h',toks:=t' }:=I.un (Un.laid k hp (I.hok.fresh hp)) (I.hok.laid k hp new)
theorem Inv.write {x e:Addr}{o:HO}{t':Nat}(I:Inv X pins σ H s) (mu:Mut (H x)) (he:e=x\/H e=some (.own x)) (k:∀b u,b≠e->s.heap.get? b=some u->h'.get? b=some u) (heo:∃u,h'.get? e=some u)
  (new:ObjOk X.prog X.w (upd H x o) h' x o):Inv X pins σ (upd H x o) { s with heap:=h',toks:=t' }:=I.un (Un.write mu he k heo) (I.hok.write mu he k heo new)
theorem Inv.pins_of {pins':List (Addr×Obj)}(I:Inv X pins σ H s) (h:∀p∈pins',s.heap.get? p.1=some p.2/\H p.1=none/\p.1≠X.env.locals/\p.1 ∉ X.fs/\∀v,p.2.data≠.cell v):Inv X pins' σ H s :=
 ⟨I.ok,I.os,I.bare,I.base,I.loc,I.cell,I.free,I.freeC,fun p hp=>(CG.mp hp).elim (fun z=>I.pin p (CO _ z)) (h p),I.hok,I.len⟩
theorem kX {N:List Str}(hN:N.Nodup) {i j:Nat}{x:Str}(a:N[i]?=some x) (b:N[j]?=some x):i=j:=by
 obtain ⟨h1,e1⟩:=AS.mp a
 obtain ⟨h2,e2⟩:=AS.mp b
 exact (List.getElem_inj hN).mp (e1.trans e2.symm)
theorem pB {M:Model}{A:Bk}{E:Value->AL->Prop}{i:Nat}{x:Str}{v:V}{u:Value}{Q:Unit->AL->Prop}(I:Inv X pins σ H s) (hN:X.N.Nodup) (hi:X.N[i]?=some x) (hx:Loc X.env.scope x) (r:RelV v u)
  (h:∀s',Inv X pins (σ.set i (some v)) H s'->(∃a,By a s.heap s'.heap/\(a=X.env.locals\/X.env.cells.lookup x=some a))->Q () s') (hf:X.fn x=true\/X.env.scope.names.lookup x=some .local:=by first | exact .inl rfl | exact .inr rfl | assumption):A6 M A (storeName X.env x u) Q E s:=by
 obtain ⟨m,hn,hl⟩:=id I.loc
 have hcls:(X.env.scope.kind == .class||(X.env.scope.kind == .module&&X.env.locals != X.env.globals))=false:=by rw [I.ok.kind]; rfl
 have hiσ:i<σ.length:=by rw [I.len]; exact (AS.mp hi).1
 have cne:=I.cne
 have tracked:∀{a:Addr}{h':Heap},(∃o,s.heap.get? a=some o/\H a=none)->By a s.heap h'->HOk X.prog X.w H h':=fun {a h'} ha hs b ob e=>by
  obtain ⟨_,_,hfree⟩:=ha
  refine (I.hok b ob e).stay (fun c w' hc q=>(hs.2 c ?_).trans q) (fun _ q=>q) fun _ _ q=>q
  rintro rfl
  rcases hc with rfl | hc
  ·rw [hfree] at e; cases e
  ·rw [hfree] at hc; cases hc
 rcases hx with hk | hk
 ·refine wpAny_storeName_local hk hn (fun h' hn' hs=>?_) hcls
  obtain ⟨oL,_,_,hoL,_⟩:=id hn
  refine h _ ⟨I.ok,I.os,I.bare,⟨fun b o e n hb hx=>?_,fun b o e n hb hx=>?_,I.base.free,fun b o e hx=>?_,I.base.tups,I.base.frzs,I.base.tbls⟩,⟨_,hn',fun j y v' e1 e2 e3=>?_⟩,fun y c e=>?_,I.free,I.freeC,fun p hp=>?_,tracked ⟨oL,hoL,I.free⟩ hs,by simpa using I.len⟩ ⟨_,hs,.inl rfl⟩
  ·exact (hs.2 b (Bl (Bp (A3 e) I.ok.above))).trans (I.base.keep b o e n hb hx)
  ·obtain ⟨sl,e1⟩:=I.base.slot b o e n hb hx
   exact ⟨sl,(hs.2 b (Bl (Bp (A3 e) I.ok.above))).trans e1⟩
  ·obtain ⟨o',e1⟩:=I.base.there b o e hx
   exact ⟨o',(hs.2 b (Bl (Bp (A3 e) I.ok.above))).trans e1⟩
  ·by_cases hj:j=i
   ·subst hj
    rw [hi] at e1; cases e1
    rw [DO hiσ] at e2
    cases e2
    exact ⟨u,r,.inl ⟨hk,by simp⟩⟩
   ·rw [D3 (Cg hj)] at e2
    obtain ⟨u',r',q⟩:=hl j y v' e1 e2 e3
    refine ⟨u',r',?_⟩
    rcases q with ⟨k,e⟩ | ⟨k,c,e,z⟩
    ·refine .inl ⟨k,?_⟩
     have:y≠x:=fun e=>hj (kX hN e1 (e ▸ hi))
     simp [this,e]
    ·exact .inr ⟨k,c,e,z.sameBut hs (cne y c e)⟩
  ·obtain ⟨w',z⟩:=I.cell y c e
   exact ⟨w',z.sameBut hs (cne y c e)⟩
  ·obtain ⟨e,n,ne,nf,d⟩:=I.pin p hp
   exact ⟨(hs.2 p.1 ne).trans e,n,ne,nf,d⟩
 ·have hfn:X.fn x=true:=by
   rcases hf with z | z
   ·exact z
   ·rw [z] at hk; cases hk
  obtain ⟨c,hc⟩:=I.ok.has x (.inl hk)
  obtain ⟨w',z⟩:=I.cell x c hc
  refine wpAny_storeName_cell I.ok.kind hk hc z (fun h' hc' hs=>?_)
  obtain ⟨oc,hoc,hocd⟩:=id z
  refine h { s with heap:=h' } ⟨I.ok,I.os,I.bare,⟨fun b o e n hb hx=>?_,fun b o e n hb hx=>?_,I.base.free,fun b o e hx=>?_,I.base.tups,I.base.frzs,I.base.tbls⟩,⟨m,hn.sameBut hs (Cg (cne x c hc)),fun j y v' e1 e2 e3=>?_⟩,fun y c' e=>?_,I.free,I.freeC,fun p hp=>?_,tracked ⟨oc,hoc,I.freeC x c hc⟩ hs,by simpa using I.len⟩ ⟨c,hs,.inr hc⟩
  ·exact (hs.2 b (Bl (Bp (A3 e) (I.ok.cab x c hfn hc)))).trans (I.base.keep b o e n hb hx)
  ·obtain ⟨sl,e1⟩:=I.base.slot b o e n hb hx
   exact ⟨sl,(hs.2 b (Bl (Bp (A3 e) (I.ok.cab x c hfn hc)))).trans e1⟩
  ·obtain ⟨o',e1⟩:=I.base.there b o e hx
   exact ⟨o',(hs.2 b (Bl (Bp (A3 e) (I.ok.cab x c hfn hc)))).trans e1⟩
  ·by_cases hj:j=i
   ·subst hj
    rw [hi] at e1; cases e1
    rw [DO hiσ] at e2
    cases e2
    exact ⟨u,r,.inr ⟨.inl hk,c,hc,hc'⟩⟩
   ·rw [D3 (Cg hj)] at e2
    obtain ⟨u',r',q⟩:=hl j y v' e1 e2 e3
    refine ⟨u',r',?_⟩
    rcases q with q | ⟨k,c',e,z'⟩
    ·exact .inl q
    ·refine .inr ⟨k,c',e,z'.sameBut hs ?_⟩
     rintro rfl
     exact hj (kX hN e1 (I.ok.inj _ _ _ e hc ▸ hi))
  ·by_cases hcc:c'=c
   ·subst hcc; exact ⟨_,hc'⟩
   ·obtain ⟨w2,z2⟩:=I.cell y c' e
    exact ⟨w2,z2.sameBut hs hcc⟩
  ·obtain ⟨e,n,ne,nf,d⟩:=I.pin p hp
   refine ⟨(hs.2 p.1 ?_).trans e,n,ne,nf,d⟩
   intro q
   rw [q,hoc] at e
   have q':oc=p.2:=Ba e
   exact d w' (by rw [<- q']; exact hocd)
theorem kG {M:Model}{A:Bk}{E:Value->AL->Prop}{i:Nat}{x:Str}{v:V}{u:Value}{Q:Unit->AL->Prop}(I:Inv X pins σ H s) (hN:X.N.Nodup) (hi:X.N[i]?=some x) (hx:Loc X.env.scope x) (r:RelV v u)
  (h:∀s',Inv X pins (σ.set i (some v)) H s'->Q () s') (hf:X.fn x=true\/X.env.scope.names.lookup x=some .local:=by first | exact .inl rfl | exact .inr rfl | assumption):A6 M A (storeName X.env x u) Q E s :=
 pB I hN hi hx r (fun s' I' _=>h s' I') hf
theorem Inv.call' {s':AL}{ch:List Addr}(I:Inv X pins σ H s) (ho:s'.os=s.os) (u:Un (frs X.stack) ch H H' s.heap s'.heap) (hok:HOk X.prog X.w H' s'.heap) (hg:Eh s'.gens)
  (hch:∀b∈ch,(b∈X.ex\/X.s₀.heap.objs.size<=b)/\b≠X.env.locals/\(∀x c,X.env.cells.lookup x=some c->c≠b)/\∀p∈X.pn++pins,p.1≠b):Inv X pins σ H' s':=by
 obtain ⟨h',g',d',t',o'⟩:=s'
 have e:o'=s.os:=ho
 subst e
 exact I.call (g':=g') (t':=t') (d':=d') u hok hg hch
end
abbrev XK:=Value->Option Addr->Hp->Prop
abbrev St:=List (Option V)
abbrev VK:=V->Hp->Prop
abbrev TE:=St->Hp->VK->Prop
abbrev TT:=St->Hp->(Bool->Hp->Prop)->Prop
abbrev TA:=St->Hp->(List V->Hp->Prop)->Prop
structure Ends where
 nx:St->Hp->Prop
 rt:VK
 bk:St->Hp->Prop:=fun _ _=>False
 ct:St->Hp->Prop:=fun _ _=>False
abbrev TS:=Ends->St->Hp->Prop
def EP (X:Cx) (pins:List (Addr×Obj)) (σ:St) (Q:VK) (u:Value) (s':AL):Prop:=∃v H',Inv X pins σ H' s'/\RelV v u/\Q v H'
def TP (X:Cx) (pins:List (Addr×Obj)) (σ:St) (Q:Bool->Hp->Prop) (b:Bool) (s':AL):Prop:=∃H',Inv X pins σ H' s'/\Q b H'
def AP (X:Cx) (pins:List (Addr×Obj)) (σ:St) (Q:List V->Hp->Prop) (us:List Value) (s':AL):Prop:=∃vs H',Inv X pins σ H' s'/\Vals vs us/\Q vs H'
def SP (X:Cx) (pins:List (Addr×Obj)) (D:Ends) (f:Flow) (s':AL):Prop :=
 match f with
 | .next=>∃ σ' H',Inv X pins σ' H' s'/\D.nx σ' H'
 | .brk=>∃ σ' H',Inv X pins σ' H' s'/\D.bk σ' H'
 | .cont=>∃ σ' H',Inv X pins σ' H' s'/\D.ct σ' H'
 | .ret u=>∃v σ' H',Inv X pins σ' H' s'/\RelV v u/\D.rt v H'
def PE (X:Cx) (e:Expr) (t:TE):Prop :=
 ∀(pins:List (Addr×Obj)) (s:AL) (σ:St) (H:Hp) (Q:VK),Inv X pins σ H s->t σ H Q->A6 (Bf X.prog X.w) X.A (eval e X.env) (EP X pins σ Q) X.xe s
def PT (X:Cx) (e:Expr) (t:TT):Prop :=
 ∀(pins:List (Addr×Obj)) (s:AL) (σ:St) (H:Hp) (Q:Bool->Hp->Prop),Inv X pins σ H s->t σ H Q->A6 (Bf X.prog X.w) X.A (isTrue e X.env (eval e X.env)) (TP X pins σ Q) X.xe s
def PW (X:Cx) (e:Expr) (t:TT):Prop :=
 ∀(whole:Sem Value) (pins:List (Addr×Obj)) (s:AL) (σ:St) (H:Hp) (Q:Bool->Hp->Prop),Inv X pins σ H s->t σ H Q->A6 (Bf X.prog X.w) X.A (isTrue e X.env whole) (TP X pins σ Q) X.xe s
theorem PW.pt {X:Cx}{e:Expr}{t:TT}(h:PW X e t):PT X e t:=h _
def PA (X:Cx) (es:List Expr) (t:TA):Prop :=
 ∀(pos:Pos) (pins:List (Addr×Obj)) (s:AL) (σ:St) (H:Hp) (Q:List V->Hp->Prop),Inv X pins σ H s->t σ H Q->A6 (Bf X.prog X.w) X.A (spliced (Dx pos (Bz es X.env))) (AP X pins σ Q) X.xe s
def PS (X:Cx) (st:Stmt) (t:TS):Prop :=
 ∀(pins:List (Addr×Obj)) (s:AL) (σ:St) (H:Hp) (D:Ends),Inv X pins σ H s->t D σ H->A6 (Bf X.prog X.w) X.A (exec st X.env) (SP X pins D) X.xe s
def PSs (X:Cx) (st:List Stmt) (t:TS):Prop :=
 ∀(pins:List (Addr×Obj)) (s:AL) (σ:St) (H:Hp) (D:Ends),Inv X pins σ H s->t D σ H->A6 (Bf X.prog X.w) X.A (execs st X.env) (SP X pins D) X.xe s
theorem thn {α:Type}{t:Sem α}{Q Q':α->AL->Prop}{M:Model}{A:Bk}{E:Value->AL->Prop}{s:AL}(h:A6 M A t Q E s) (hQ:∀a s,Q a s->Q' a s):A6 M A t Q' E s:=Bw h hQ fun _ _ x=>x
section
variable {X:Cx}
def lN (i:Nat):TE:=fun σ H Q=>∃v,σ[i]?=some (some v)/\Q v H
def tC (v:V):TE:=fun _ H Q=>Q v H
theorem jV {i:Nat}{x:Str}{pos:Pos}(hN:X.N[i]?=some x) (hv:Vis X.env.scope x) (hd:(x == ("__debug__":Str))=false:=by decide) (hcd:(x == ("__classdict__":Str))=false:=by decide):PE X (.Name x pos) (lN i):=by
 intro pins s σ H Q I h
 obtain ⟨v,e,h⟩:=h
 obtain ⟨m,hn,hl⟩:=I.loc
 obtain ⟨u,r,l⟩:=hl i x v hN e hv
 have fin:EP X pins σ Q u s:=⟨v,H,I,r,h⟩
 rcases l with ⟨hk,hm⟩ | ⟨hk,c,hc,hcell⟩
 ·exact wpAny_Name (wpAny_loadName_local I.ok.kind hk hn hm fin) hd
 ·rcases hk with hk | hk
  ·exact wpAny_Name (wpAny_loadName_cell I.ok.kind hk hc hcell fin) hd
  ·exact wpAny_Name (wpAny_loadName_free I.ok.kind hk hc hcell fin hcd) hd
theorem yp {i j pos}:PE X (.Constant (.int i) j pos) (tC (.int i)):=fun _ _ _ H _ I h=>wpAny_Constant_int ⟨.int i,H,I.tok _,⟨_,rfl⟩,h⟩
theorem zR {b j pos}:PE X (.Constant (.bool b) j pos) (tC (.bl b)):=fun _ _ _ H _ I h=>Constant_bool ⟨.bl b,H,I,rfl,h⟩
theorem yj {x j pos}:PE X (.Constant (.str x) j pos) (tC (.str x)):=fun _ _ _ H _ I h=>Calls.Constant_str ⟨.str x,H,I.tok _,⟨_,rfl⟩,h⟩
def Gl (X:Cx) (x:Str):Prop:=X.env.kindOf x=some .globalImplicit
theorem gM {E:Value->AL->Prop}{pins:List (Addr×Obj)}{s:AL}{σ:St}{H:Hp}{x:Str}{u:Value}{pos:Pos}{Q:Value->AL->Prop}(I:Inv X pins σ H s) (hg:Gl X x) (hm:X.mg x=some u) (h:Q u s)
  (hd:(x == ("__debug__":Str))=false:=by decide):A6 (Bf X.prog X.w) X.A (eval (.Name x pos) X.env) Q E s :=
 Calls.Name_function_global I.ok.kind hg (Calls.loadGlobal_global (by rw [I.ok.glob]; exact I.mod.glob.keeps I.bk) hm h) hd
theorem bG {E:Value->AL->Prop}{pins:List (Addr×Obj)}{s:AL}{σ:St}{H:Hp}{x:Str}{u:Value}{pos:Pos}{Q:Value->AL->Prop}(I:Inv X pins σ H s) (hg:Gl X x) (hm:X.mg x=none) (hv:B2 x=some u) (h:Q u s)
  (hn:x≠"__name__":=by decide) (hd:(x == ("__debug__":Str))=false:=by decide):A6 (Bf X.prog X.w) X.A (eval (.Name x pos) X.env) Q E s:=by
 obtain ⟨mb,h1,h2⟩:=I.mod.blt
 exact Calls.Name_function_global I.ok.kind hg (Calls.loadGlobal_builtin (by rw [I.ok.glob]; exact I.mod.glob.keeps I.bk) hm (by rw [I.ok.blt]; exact h1.keeps I.bk) ((h2 x hn).trans hv) h) hd
theorem vB {x:Str}{v:V}{u:Value}{pos:Pos}(hg:Gl X x) (hm:X.mg x=some u) (r:RelV v u) (hd:(x == ("__debug__":Str))=false:=by decide):PE X (.Name x pos) (tC v) :=
 fun _ _ _ H _ I h=>gM I hg hm ⟨v,H,I,r,h⟩ hd
theorem vG {x:Str}{v:V}{u:Value}{pos:Pos}(hg:Gl X x) (hm:X.mg x=none) (hv:B2 x=some u) (r:RelV v u) (hn:x≠"__name__":=by decide) (hd:(x == ("__debug__":Str))=false:=by decide):PE X (.Name x pos) (tC v) :=
 fun _ _ _ H _ I h=>bG I hg hm hv ⟨v,H,I,r,h⟩ hn hd
variable {a b:Expr}{ta tb:TE}{pos:Pos}
def PC (X:Cx) (op:CmpOp) (a b:Expr) (t:TE):Prop :=
 ∀(pins:List (Addr×Obj)) (s:AL) (σ:St) (H:Hp) (Q:VK),Inv X pins σ H s->t σ H Q ->
  A6 (Bf X.prog X.w) X.A (eval a X.env) (fun v s₁=>A6 (Bf X.prog X.w) X.A (eval b X.env) (fun u s₂=>A6 (Bf X.prog X.w) X.A (CP op v u) (EP X pins σ Q) X.xe s₂) X.xe s₁) X.xe s
def tB (t:TE):TT:=fun σ H Q=>t σ H fun x H1=>∃c,x=.bl c/\Q c H1
theorem x9 {op:CmpOp}{t:TE}(h:PC X op a b t) (h1:Dy op b=false:=by first | exact nobehind _ (by decide) (by decide) | rfl):PT X (.Compare a [op] [b] pos) (tB t):=by
 intro pins s σ H Q I hw
 refine wpAny_isTrue_Compare1 (thn (h pins s σ H _ I hw) fun v s1 h1=>thn h1 fun u s2 h2=>thn h2 fun c s3 ⟨x,H1,I1,r1,q1⟩=>?_) h1
 obtain ⟨d,rfl,q⟩:=q1
 cases r1
 exact CV ⟨H1,I1,q⟩
theorem xZ {e:Expr}{t:TE}(h:PE X e t) (he:∀whole,isTrue e X.env whole=(do let v <- whole; standAt e.pos; Ff [v] (truthy v)):=by intro _; rfl):PT X e (tB t):=by
 intro pins s σ H Q I hw
 refine isTrue_plain (thn (h pins s σ H _ I hw) fun v s1 ⟨x,H1,I1,r1,q1⟩=>?_) (he _)
 obtain ⟨d,rfl,q⟩:=q1
 cases r1
 exact CV ⟨H1,I1,q⟩
variable {tA tB':TT}{rest:List Expr}
def zy (t u:TT):TT:=fun σ H Q=>t σ H fun c H1=>if c=true then u σ H1 Q else Q false H1
def tOr (t u:TT):TT:=fun σ H Q=>t σ H fun c H1=>if c=true then Q true H1 else u σ H1 Q
def zr (t:TT):TT:=fun σ H Q=>t σ H fun c H1=>Q (!c) H1
theorem vc (ha:PT X a tA):PW X (.BoolOp .And [a] pos) tA:=by
 intro wh pins s σ H Q I h
 refine isTrue_and (thn (ha pins s σ H Q I h) fun c s1 e=>?_)
 cases c with
 | true=>exact isTrue_and_nil e
 | false=>exact e
theorem xX (ha:PT X a tA):PW X (.BoolOp .Or [a] pos) tA:=by
 intro wh pins s σ H Q I h
 refine isTrue_or (thn (ha pins s σ H Q I h) fun c s1 e=>?_)
 cases c with
 | false=>exact isTrue_or_nil e
 | true=>exact e
theorem xY (ha:PT X a tA) (hb:PW X (.BoolOp .And (b :: rest) pos) tB'):PW X (.BoolOp .And (a :: b :: rest) pos) (zy tA tB'):=by
 intro wh pins s σ H Q I h
 refine isTrue_and (thn (ha pins s σ H _ I h) fun c s1 ⟨H1,I1,q1⟩=>?_)
 cases c with
 | true=>exact hb wh pins s1 σ H1 Q I1 q1
 | false=>exact ⟨H1,I1,q1⟩
theorem zM (ha:PT X a tA) (hb:PW X (.BoolOp .Or (b :: rest) pos) tB'):PW X (.BoolOp .Or (a :: b :: rest) pos) (tOr tA tB'):=by
 intro wh pins s σ H Q I h
 refine isTrue_or (thn (ha pins s σ H _ I h) fun c s1 ⟨H1,I1,q1⟩=>?_)
 cases c with
 | true=>exact ⟨H1,I1,q1⟩
 | false=>exact hb wh pins s1 σ H1 Q I1 q1
theorem x8 (ha:PT X a tA):PT X (.UnaryOp .Not a pos) (zr tA):=by
 intro pins s σ H Q I h
 exact isTrue_not (ha pins s σ H (fun c H1=>Q (!c) H1) I h)
def w4 (ta tb:TE):TE:=fun σ H Q=>ta σ H fun x H1=>∃c,x=.bl c/\if c=true then tb σ H1 Q else Q (.bl false) H1
def wU (ta:TE):TE:=fun σ H Q=>ta σ H fun x H1=>∃c,x=.bl c/\Q (.bl (!c)) H1
theorem ym {op} {t:TE}(h:PE X a t):PE X (.BoolOp op [a] pos) t:=fun pins s σ H Q I hw=>BoolOp_one (h pins s σ H Q I hw)
theorem yq (ha:PE X a ta) (hb:PE X (.BoolOp .And (b :: rest) pos) tb):PE X (.BoolOp .And (a :: b :: rest) pos) (w4 ta tb):=by
 intro pins s σ H Q I h
 refine BoolOp_and (thn (ha pins s σ H _ I h) fun v s1 ⟨x,H1,I1,r1,q1⟩=>?_)
 obtain ⟨c,rfl,q1⟩:=q1
 cases r1
 refine CV ?_
 cases c with
 | true=>exact hb pins s1 σ H1 Q I1 q1
 | false=>exact ⟨.bl false,H1,I1,rfl,q1⟩
theorem yn (ha:PE X a ta):PE X (.UnaryOp .Not a pos) (wU ta):=by
 intro pins s σ H Q I h
 refine UnaryOp_ (thn (ha pins s σ H _ I h) fun v s1 ⟨x,H1,I1,r1,q1⟩=>?_)
 obtain ⟨c,rfl,q1⟩:=q1
 cases r1
 exact not_of (CV ⟨.bl (!c),H1,I1,rfl,q1⟩)
def tIf (t:TT) (ta tb:TE):TE:=fun σ H Q=>t σ H fun c H1=>if c=true then ta σ H1 Q else tb σ H1 Q
theorem rW {c:Expr}(hc:PT X c tA) (ha:PE X a ta) (hb:PE X b tb):PE X (.IfExp c a b pos) (tIf tA ta tb):=by
 intro pins s σ H Q I h
 refine wpAny_IfExp (thn (hc pins s σ H _ I h) fun d s1 ⟨H1,I1,q1⟩=>?_)
 cases d with
 | true=>exact ha pins s1 σ H1 Q I1 q1
 | false=>exact hb pins s1 σ H1 Q I1 q1
end
def SqL (K:AK) (H:Hp) (a:Addr) (xs:List V):Prop :=
 Rd H a (.lst xs) \/
  ∃(o:Obj) (its:Array Value) (n:Nat),K.lookup a=some o/\o.cls=.type "list"/\o.dict=none/\o.data=.seq its n/\its.size<=sizeLine/\Vals xs its.toList
def SqT (K:AK) (H:Hp) (a:Addr) (xs:List V):Prop :=
 Rd H a (.tup xs) \/
  ∃(o:Obj) (its:Array Value) (n:Nat),K.lookup a=some o/\o.cls=.type "tuple"/\o.data=.seq its n/\its.size<=sizeLine/\Vals xs its.toList
def Az:Value->Option V
 | .none=>some .non
 | .bool b=>some (.bl b)
 | .int i _=>some (.int i)
 | .str x _=>some (.str x)
 | .bytes b _=>some (.byt b)
 | .float b _=>some (.flt b)
 | .ref a=>some (.ref a)
 | .type n=>some (.ty n)
 | _=>none
theorem RelV.abs {x:V}{u:Value}(r:RelV x u):Az u=some x:=by
 cases x with
 | non=>cases r; rfl
 | bl _=>cases r; rfl
 | int _=>obtain ⟨t,rfl⟩:=r; rfl
 | str _=>obtain ⟨t,rfl⟩:=r; rfl
 | byt _=>obtain ⟨t,rfl⟩:=r; rfl
 | flt _=>obtain ⟨t,rfl⟩:=r; rfl
 | ref _=>cases r; rfl
 | ty _=>cases r; rfl
theorem RelV.inj {x y:V}{u:Value}(r:RelV x u) (q:RelV y u):x=y:=Ba (r.abs.symm.trans q.abs)
theorem Vals.inj:∀{xs ys:List V}{us:List Value},Vals xs us->Vals ys us->xs=ys
 | _,_,_,.nil,.nil=>rfl
 | _,_,_,.cons r t,.cons r' t'=>by rw [r.inj r',Vals.inj t t']
section
variable {X:Cx}{pins:List (Addr×Obj)}{σ:St}{H:Hp}{s:AL}{a:Addr}{xs ys:List V}
theorem SqL.of {K:AK}(h:H a=some (.lst xs)):SqL K H a xs:=.inl (.inl h)
theorem SqT.of {K:AK}(h:H a=some (.tup xs)):SqT K H a xs:=.inl (.inl h)
theorem Inv.list (I:Inv X pins σ H s) (h:SqL X.K H a xs):∃its:List Value,Vals xs its/\PlainL s.heap a its.toArray/\xs.length<=sizeLine:=by
 rcases h with h | ⟨o,its,n,hk,hc,hd,hs,hz,r⟩
 ·obtain ⟨z,its,n,r,e⟩:=h.ok I.hok
  exact ⟨its,r,⟨_,n,e,rfl,rfl,rfl⟩,z⟩
 ·refine ⟨its.toList,r,⟨o,n,I.kIn a o hk,hc,hd,by simpa using hs⟩,?_⟩
  have e:=r.length
  simp only [B3] at e
  omega
theorem Inv.tuple (I:Inv X pins σ H s) (h:SqT X.K H a xs):∃its:List Value,Vals xs its/\Fe s.heap a its.toArray/\xs.length<=sizeLine:=by
 rcases h with h | ⟨o,its,n,hk,hc,hs,hz,r⟩
 ·obtain ⟨z,its,r,p⟩:=h.ok I.hok
  exact ⟨its,r,p,z⟩
 ·refine ⟨its.toList,r,⟨o,I.kIn a o hk,hc,n,by simpa using hs⟩,?_⟩
  have e:=r.length
  simp only [B3] at e
  omega
theorem Inv.list_inj (I:Inv X pins σ H s) (h:SqL X.K H a xs) (h':SqL X.K H a ys):xs=ys:=by
 obtain ⟨its,r,⟨o,n,e,_,_,d⟩,_⟩:=I.list h
 obtain ⟨its',r',⟨o',n',e',_,_,d'⟩,_⟩:=I.list h'
 rw [e] at e'; cases e'
 rw [d] at d'
 injection d' with d1 _
 have:its=its':=by simpa using congrArg Array.toList d1
 subst this
 exact r.inj r'
theorem Inv.tuple_inj (I:Inv X pins σ H s) (h:SqT X.K H a xs) (h':SqT X.K H a ys):xs=ys:=by
 obtain ⟨its,r,⟨o,e,_,n,d⟩,_⟩:=I.tuple h
 obtain ⟨its',r',⟨o',e',_,n',d'⟩,_⟩:=I.tuple h'
 rw [e] at e'; cases e'
 rw [d] at d'
 injection d' with d1 _
 have:its=its':=by simpa using congrArg Array.toList d1
 subst this
 exact r.inj r'
end
abbrev Cx.wish (X:Cx) (E:Value->AL->Prop):Cx:={ X with xe:=E }
abbrev Cx.nox (X:Cx):Cx:=X.wish fun _ _=>False
theorem Cx.Ok.wish {X:Cx}(ok:X.Ok) (E:Value->AL->Prop):(X.wish E).Ok :=
 ⟨ok.mod,ok.kind,ok.glob,ok.blt,ok.above,ok.inj,ok.has,ok.cab,ok.hd,ok.frames,ok.stk,ok.exf,ok.bs,ok.bsz,ok.noex,ok.exfs,ok.funs,ok.frf⟩
theorem Cx.Ok.unwish {X:Cx}{E:Value->AL->Prop}(ok:(X.wish E).Ok):X.Ok :=
 ⟨ok.mod,ok.kind,ok.glob,ok.blt,ok.above,ok.inj,ok.has,ok.cab,ok.hd,ok.frames,ok.stk,ok.exf,ok.bs,ok.bsz,ok.noex,ok.exfs,ok.funs,ok.frf⟩
section
variable {X:Cx}{pins:List (Addr×Obj)}{σ:St}{H:Hp}{s:AL}{E:Value->AL->Prop}
theorem Inv.wish (I:Inv X pins σ H s) (E:Value->AL->Prop):Inv (X.wish E) pins σ H s:=⟨I.ok.wish E,I.os,I.bare,I.base,I.loc,I.cell,I.free,I.freeC,I.pin,I.hok,I.len⟩
theorem Inv.unwish (I:Inv (X.wish E) pins σ H s):Inv X pins σ H s:=⟨I.ok.unwish,I.os,I.bare,I.base,I.loc,I.cell,I.free,I.freeC,I.pin,I.hok,I.len⟩
theorem SP.unwish {D:Ends}{f:Flow}{s':AL}(h:SP (X.wish E) pins D f s'):SP X pins D f s':=by
 cases f with
 | next=>obtain ⟨σ',H',I,q⟩:=h; exact ⟨σ',H',I.unwish,q⟩
 | brk=>obtain ⟨σ',H',I,q⟩:=h; exact ⟨σ',H',I.unwish,q⟩
 | cont=>obtain ⟨σ',H',I,q⟩:=h; exact ⟨σ',H',I.unwish,q⟩
 | ret u=>obtain ⟨v,σ',H',I,r,q⟩:=h; exact ⟨v,σ',H',I.unwish,r,q⟩
theorem PSs.nox {st:List Stmt}{t:TS}(h:PSs X.nox st t):PSs X st t:=fun pins s σ H D I hw =>
 Bw (h pins s σ H D (I.wish _) hw) (fun _ _ q=>q.unwish) fun _ _ z=>BB z
end
section
variable {X:Cx}{st:Stmt}{rest:List Stmt}{t u:TS}{e:Expr}{te:TE}{pos:Pos}
def wV:TS:=fun D σ H=>D.nx σ H
def aX (t u:TS):TS:=fun D σ H=>t { D with nx:=u D } σ H
theorem vi:PSs X [] wV:=fun _ _ σ H _ I h=>wpAny_execs_nil ⟨σ,H,I,h⟩
theorem rK (h1:PS X st t) (h2:PSs X rest u):PSs X (st :: rest) (aX t u):=by
 intro pins s σ H D I h
 refine wpAny_execs_cons (thn (h1 pins s σ H { D with nx:=u D } I h) fun f s1 q=>?_)
 cases f with
 | next =>
  obtain ⟨σ',H',I',q⟩:=q
  exact h2 pins s1 σ' H' D I' q
 | ret v=>exact q
 | brk=>exact q
 | cont=>exact q
theorem vh (h1:PS X st t):PSs X [st] t:=by
 intro pins s σ H D I h
 refine wpAny_execs_cons (thn (h1 pins s σ H D I h) fun f s1 q=>?_)
 cases f with
 | next=>exact wpAny_execs_nil q
 | ret v=>exact q
 | brk=>exact q
 | cont=>exact q
theorem Inv.quiet {pins:List (Addr×Obj)}{σ:St}{H:Hp}{s:AL}(I:Inv X pins σ H s):interactive X.env=false:=by simp [interactive,I.ok.kind]
def wX (te:TE):TS:=fun D σ H=>te σ H fun _ H1=>D.nx σ H1
theorem vn (he:PE X e te) (hs:Es e none pos.line X.env=pure false:=by rfl):PS X (.Expr e pos) (wX te):=by
 intro pins s σ H D I h
 exact wpAny_Expr_any (thn (he pins s σ H _ I h) fun v s1 ⟨x,H1,I1,r1,q1⟩=>⟨σ,H1,I1,q1⟩) I.quiet hs
def zq (te:TE):TS:=fun D σ H=>te σ H D.rt
theorem ya (he:PE X e te):PS X (.Return (some e) pos) (zq te):=by
 intro pins s σ H D I h
 exact wpAny_Return_some (thn (he pins s σ H _ I h) fun v s1 ⟨x,H1,I1,r1,q1⟩=>⟨x,σ,H1,I1,r1,q1⟩)
def zu (c:TT) (t u:TS):TS:=fun D σ H=>c σ H fun b H1=>if b=true then t D σ H1 else u D σ H1
theorem zN {c:Expr}{a b:List Stmt}{tc:TT}(hc:PT X c tc) (ha:PSs X a t) (hb:PSs X b u):PS X (.If c a b pos) (zu tc t u):=by
 intro pins s σ H D I h
 refine wpAny_If (thn (hc pins s σ H _ I h) fun d s1 ⟨H1,I1,q1⟩=>?_)
 cases d with
 | true=>exact ha pins s1 σ H1 D I1 q1
 | false=>exact hb pins s1 σ H1 D I1 q1
end
abbrev TG:=V->St->Hp->(St->Hp->Prop)->Prop
abbrev TGs:=List V->St->Hp->(St->Hp->Prop)->Prop
def PG (X:Cx) (target:Expr) (t:TG):Prop :=
 ∀(pins:List (Addr×Obj)) (s:AL) (σ:St) (H:Hp) (v:V) (u:Value) (Q:St->Hp->Prop),Inv X pins σ H s->RelV v u->t v σ H Q ->
  A6 (Bf X.prog X.w) X.A (assign target X.env u) (fun _ s'=>∃ σ' H',Inv X pins σ' H' s'/\Q σ' H') X.xe s
def PGs (X:Cx) (ts:List Expr) (t:TGs):Prop :=
 ∀(pins:List (Addr×Obj)) (s:AL) (σ:St) (H:Hp) (vs:List V) (us:List Value) (Q:St->Hp->Prop),Inv X pins σ H s->Vals vs us->t vs σ H Q ->
  A6 (Bf X.prog X.w) X.A (assignInOrder ((Dz ts X.env).map (·.2)) us) (fun _ s'=>∃ σ' H',Inv X pins σ' H' s'/\Q σ' H') X.xe s
abbrev ze:=V->V->V->Hp->(Hp->Prop)->Prop
def Al (X:Cx) (t:ze):Prop :=
 ∀(pins:List (Addr×Obj)) (s:AL) (σ:St) (H:Hp) (o i v:V) (ov iv u:Value) (Q:Hp->Prop),Inv X pins σ H s->RelV o ov->RelV i iv->RelV v u->t o i v H Q ->
  A6 (Bf X.prog X.w) X.A (setItem ov iv u) (fun _ s'=>∃H',Inv X pins σ H' s'/\Q H') X.xe s
section
variable {X:Cx}{pos:Pos}
def iz (i:Nat):TG:=fun v σ H Q=>Q (σ.set i (some v)) H
theorem nQ {i:Nat}{x:Str}(hN:X.N.Nodup) (hi:X.N[i]?=some x) (hx:Loc X.env.scope x) (hf:X.fn x=true\/X.env.scope.names.lookup x=some .local:=by first | exact .inl rfl | exact .inr rfl | assumption):PG X (.Name x pos) (iz i):=by
 intro pins s σ H v u Q I r h
 exact wpAny_assign_Name (kG I hN hi hx r (fun s' I'=>⟨_,H,I',h⟩) hf)
def z9:TGs:=fun vs σ H Q=>vs=[]/\Q σ H
def xu (t:TG) (u:TGs):TGs:=fun vs σ H Q=>∃v r,vs=v :: r/\t v σ H fun σ' H'=>u r σ' H' Q
theorem vA:PGs X [] z9:=by
 intro pins s σ H vs us Q I r h
 obtain ⟨e,h⟩:=h
 subst e
 cases r
 exact assignInOrder_nil ⟨σ,H,I,h⟩
theorem rQ {e:Expr}{es:List Expr}{t:TG}{u:TGs}(h1:PG X e t) (h2:PGs X es u)
  (hs:(Dz (e :: es) X.env).map (·.2)=assign e X.env :: (Dz es X.env).map (·.2):=by rfl):PGs X (e :: es) (xu t u):=by
 intro pins s σ H vs us Q I r h
 obtain ⟨v,vr,e1,h⟩:=h
 subst e1
 cases r with
 | cons r rr =>
  rw [hs]
  refine assignInOrder_cons (thn (h1 pins s σ H _ _ _ I r h) fun _ s1 ⟨σ1,H1,I1,q1⟩=>?_)
  exact h2 pins s1 σ1 H1 _ _ Q I1 rr q1
def z7 (K:AK) (n:Nat) (t:TGs):TG:=fun v σ H Q=>∃a xs,v=.ref a/\SqT K H a xs/\xs.length=n/\t xs σ H Q
theorem yg {es:List Expr}{k:Nat}{t:TGs}{n:Nat}(hc:X.calm=true) (h:PGs X es t)
  (hn:(Dz es X.env).length=n:=by rfl) (hst:(Dz es X.env).findIdx? (·.1)=none:=by rfl):PG X (.Tuple es k pos) (z7 X.K n t):=by
 intro pins s σ H v u Q I r hw
 obtain ⟨a,xs,e1,hq,hl,hw⟩:=hw
 subst e1
 cases r
 obtain ⟨its,rv,ht,hz⟩:=I.tuple hq
 refine assign_Tuple_tuple (I.ok.hd hc) ht (by simp [hn,<- hl,rv.length]) hst fun h' hx=>?_
 have I1:Inv X pins σ H { s with heap:=h' }:=I.kept (t':=s.toks) fun b o e=>hx b o (Bl (A3 e)) e
 exact h pins _ σ H xs _ Q I1 (by simpa using rv) hw
def z8 (to ti:TE) (t:ze):TG:=fun v σ H Q=>to σ H fun o H1=>ti σ H1 fun i H2=>t o i v H2 fun H3=>Q σ H3
theorem yh {o i:Expr}{to ti:TE}{t:ze}(ho:PE X o to) (hi:PE X i ti) (hs:Al X t)
  (ha:∀v,assign (.Subscript o i pos) X.env v=(do
   let ov <- Ff [v] (eval o X.env)
   let iv <- Ff [v,ov] (eval i X.env)
   standAt pos
   Ff [v,ov,iv] (setItem ov iv v)
   release [v,ov,iv] []):=by intro _; rfl):PG X (.Subscript o i pos) (z8 to ti t):=by
 intro pins s σ H v u Q I r h
 rw [ha]
 refine AI (Cd (thn (ho pins s σ H _ I h) fun ov s1 ⟨x,H1,I1,r1,q1⟩=>?_))
 refine AI (Cd (thn (hi pins s1 σ H1 _ I1 q1) fun iv s2 ⟨y,H2,I2,r2,q2⟩=>?_))
 refine AI (DA (AI (Cd (thn (hs pins s2 σ H2 x y v ov iv u _ I2 r1 r2 r q2) fun _ s3 ⟨H3,I3,q3⟩=>?_))))
 exact wpAny_release ⟨σ,H3,I3,q3⟩
def qT (te:TE) (g:TG):TS:=fun D σ H=>te σ H fun x H1=>g x σ H1 D.nx
theorem yd {tg e:Expr}{te:TE}{g:TG}(he:PE X e te) (hg:PG X tg g) (hs:swapsWithSole [tg] e pos.line X.env=pure false:=by rfl) (hw:swappedStores [tg] e X.env=pure none:=by rfl)
  (h1:(Dz [tg] X.env).map (·.2)=[assign tg X.env]:=by rfl):PS X (.Assign [tg] e pos) (qT te g):=by
 intro pins s σ H D I h
 refine wpAny_Assign_stores (thn (he pins s σ H _ I h) fun v s1 ⟨x,H1,I1,r1,q1⟩=>?_) hs hw
 rw [h1]
 exact thn (hg pins s1 σ H1 x v _ I1 r1 q1) fun _ s2 q=>q
theorem x_ {i:Nat}{x:Str}{e:Expr}{te:TE}{pos':Pos}(hN:X.N.Nodup) (hi:X.N[i]?=some x) (hx:Loc X.env.scope x) (he:PE X e te) (hs:Es e (some (.Name x pos')) pos.line X.env=pure false:=by rfl) (hf:X.fn x=true\/X.env.scope.names.lookup x=some .local:=by first | exact .inl rfl | exact .inr rfl | assumption) :
  PS X (.Assign [.Name x pos'] e pos) (qT te (iz i)):=by
 intro pins s σ H D I h
 refine wpAny_Assign_Name (thn (he pins s σ H _ I h) fun v s1 ⟨y,H1,I1,r1,q1⟩=>?_) hs
 exact kG I1 hN hi hx r1 (fun s2 I2=>⟨_,H1,I2,q1⟩) hf
end
section
variable {X:Cx}{pos:Pos}
end
structure It where
 go:Nat->Hp->Prop
 yld:Nat->Hp->V->Hp->Prop
 stop:Nat->Hp->Prop
def cH (X:Cx) (pins:List (Addr×Obj)) (H:Hp) (b:Addr):Prop :=
 H b=none/\b≠X.env.locals/\b ∉ X.fs/\(b∈X.ex\/X.s₀.heap.objs.size<=b)/\(∀x c,X.env.cells.lookup x=some c->c≠b)/\∀p∈X.pn++pins,p.1≠b
theorem Inv.fpOk {X:Cx}{pins:List (Addr×Obj)}{σ:St}{H H':Hp}{s:AL}{b:Addr}(I:Inv X pins σ H s) (hb:s.heap.objs.size<=b) (hn:H' b=none):cH X pins H' b:=by
 refine ⟨hn,EA (Bp I.lt hb),I.nofs hb,.inr (Bm I.sz hb),fun x c e z=>?_,fun p hp z=>?_⟩
 ·obtain ⟨v,q⟩:=I.cell x c e
  exact absurd (Bp q.lt (by rw [z]; exact hb)) (Cm _)
 ·exact absurd (Bp (A3 (I.pin p hp).1) (by rw [z]; exact hb)) (Cm _)
structure kn (P:Program) (w:Bj) (K:AK) (tg:Expr) (J:It) (fp:List Addr) (it:Addr) (tn:Nat->Heap->Prop):Prop where
 mem:it∈fp
 obj:∀i h,tn i h->∀b∈fp,∃o,h.get? b=some o/\∀v,o.data≠.cell v
 keep:∀i h h',tn i h->(∀b∈fp,∀o,h.get? b=some o->h'.get? b=some o)->tn i h'
 item:∀(X:Cx),X.prog=P->X.w=w->X.K=K->X.calm=true->∀(i:Nat) (pins:List (Addr×Obj)) (s:AL) (σ:St) (H:Hp) (E:Value->AL->Prop),Inv X pins σ H s->(∀b∈fp,cH X pins H b)->tn i s.heap->J.go i H ->
  A6 (Bf P w) X.A (pyNext (.ref it)) (fun r s1=>∃u,r=some u /\
   A6 (Bf P w) X.A (Ei tg (.ref it) u) (fun _ s2=>∃x H',Inv X pins σ H' s2/\RelV x u/\J.yld i H x H'/\tn (i+1) s2.heap/\∀b∈fp,H' b=none) E s1) E s
 done:∀(X:Cx),X.prog=P->X.w=w->X.K=K->X.calm=true->∀(i:Nat) (pins:List (Addr×Obj)) (s:AL) (σ:St) (H:Hp) (E:Value->AL->Prop),Inv X pins σ H s->(∀b∈fp,cH X pins H b)->tn i s.heap->J.stop i H ->
  A6 (Bf P w) X.A (pyNext (.ref it)) (fun r s1=>r=none/\Inv X pins σ H s1) E s
 self:∀(A:Bk) (i:Nat) (s:AL) (Q:Value->AL->Prop) (E:Value->AL->Prop),tn i s.heap->Q (.ref it) s->A6 (Bf P w) A (pyIter (.ref it)) Q E s
abbrev TI:=St->Hp->(It->Hp->Prop)->Prop
def PIE (X:Cx) (pins:List (Addr×Obj)) (σ:St) (tg:Expr) (R:It->Hp->Prop) (itv:Value) (s2:AL):Prop :=
 ∃(it:Addr) (fp:List Addr) (tn:Nat->Heap->Prop) (J:It) (H':Hp),itv=.ref it/\Inv X pins σ H' s2/\kn X.prog X.w X.K tg J fp it tn/\tn 0 s2.heap/\(∀b∈fp,cH X pins H' b)/\R J H'
def PI (X:Cx) (tg iter:Expr) (wi:TI):Prop :=
 ∀(pins:List (Addr×Obj)) (s:AL) (σ:St) (H:Hp) (R:It->Hp->Prop),Inv X pins σ H s->wi σ H R ->
  A6 (Bf X.prog X.w) X.A (eval iter X.env) (fun v s1=>A6 (Bf X.prog X.w) X.A (pyIter v) (PIE X pins σ tg R) X.xe s1) X.xe s
theorem lh {M:Model}{A:Bk}{E:Value->AL->Prop}{s:AL}{tg:Expr}{it:Addr}{u:Value}{o:Obj}{n:String}{vs:Array Value}{Q:Unit->AL->Prop}(ho:s.heap.get? it=some o) (hc:o.cls=.type n) (hd:o.data=.fields vs)
    (hn:["enumerate", "zip", "dict_itemiterator", "dict_reverseitemiterator", "odict_iterator", "itertools.zip_longest", "itertools.pairwise"].contains n=false) (hQ:Q () s):A6 M A (Ei tg (.ref it) u) Q E s:=by
  unfold Ei
  cases tg <;> first
    | exact AV hQ
    | (cases u <;> first
        | exact AV hQ
        | (refine AI (wpAny_load ho ?_)
           rw [hc,hd]
           show A6 M A (if (["enumerate", "zip", "dict_itemiterator", "dict_reverseitemiterator", "odict_iterator", "itertools.zip_longest", "itertools.pairwise"].contains n&&vs[0]? == some (Cp _))=true then _ else _) Q E s
           rw [if_neg (by intro h; rw [hn,Bool.false_and] at h; cases h)]
           exact AV hQ))
def Itl (K:AK) (a:Addr):It :=
 ⟨fun i H=>∃xs x,SqL K H a xs/\xs[i]?=some x,fun i H x H'=>H'=H/\∀xs,SqL K H a xs->xs[i]?=some x,fun i H=>∃xs,SqL K H a xs/\xs.length<=i⟩
def Itt (K:AK) (a:Addr):It :=
 ⟨fun i H=>∃xs x,SqT K H a xs/\xs[i]?=some x,fun i H x H'=>H'=H/\∀xs,SqT K H a xs->xs[i]?=some x,fun i H=>∃xs,SqT K H a xs/\xs.length<=i⟩
def Itr (lo:Int) (n:Nat):It:=⟨fun i _=>i<n,fun i H x H'=>H'=H/\x=.int (lo+i),fun i _=>n<=i⟩
theorem py {P:Program}{w:Bj}{K:AK}{tg:Expr}(a it:Addr):kn P w K tg (Itl K a) [it] it (fun i h=>h.IsListIter it a i) where
 mem:=by simp
 obj:=fun i h st b hb=>by
  have e:b=it:=by simpa using hb
  subst e
  obtain ⟨o,e,c,d⟩:=st
  exact ⟨o,e,fun v z=>by rw [d] at z; cases z⟩
 keep:=fun i h h' st k=>st.at fun o e=>k it (by simp) o e
 item:=by
  intro X hP hw hK hc i pins s σ H E I hf st hg
  subst hP hw hK
  obtain ⟨xs,x,hq,hx⟩:=hg
  obtain ⟨its,rv,p,hz⟩:=I.list hq
  obtain ⟨u,hu,ru⟩:=rv.get hx
  obtain ⟨f0,f1,f2,f3,f4,f5⟩:=hf it (by simp)
  refine wpAny_pyNext_list_item st p.isList (x:=u) (by simpa using hu) fun h' st' sb=>?_
  have I1:Inv X pins σ H { s with heap:=h' }:=I.turned (t':=s.toks) (fun b o hb e=>(sb.2 b hb).trans e) f0 f1 f3 f4 f5
  obtain ⟨o,e,c,d⟩:=id st'
  exact ⟨u,rfl,lh (s:={ s with heap:=h' }) e c d (by decide) ⟨x,H,I1,ru,⟨rfl,fun ys hy=>by rw [I.list_inj hy hq]; exact hx⟩,st',fun b hb=>(hf b hb).1⟩⟩
 done:=by
  intro X hP hw hK hc i pins s σ H E I hf st hg
  subst hP hw hK
  obtain ⟨xs,hq,hx⟩:=hg
  obtain ⟨its,rv,p,hz⟩:=I.list hq
  obtain ⟨f0,f1,f2,f3,f4,f5⟩:=hf it (by simp)
  have hl:=rv.length
  exact wpAny_pyNext_list_end (I.ok.hd hc) st p.isList (by simp; omega) fun h' eb=>⟨rfl,I.turned (t':=s.toks) (fun b o hb e=>eb b o hb e) f0 f1 f3 f4 f5⟩
 self:=fun _ _ _ _ _ st h=>wpAny_pyIter_listiter st h
theorem lK {P:Program}{w:Bj}{K:AK}{tg:Expr}(a it:Addr):kn P w K tg (Itt K a) [it] it (fun i h=>h.IsTupleIter it a i) where
 mem:=by simp
 obj:=fun i h st b hb=>by
  have e:b=it:=by simpa using hb
  subst e
  obtain ⟨o,e,c,d⟩:=st
  exact ⟨o,e,fun v z=>by rw [d] at z; cases z⟩
 keep:=fun i h h' st k=>st.at fun o e=>k it (by simp) o e
 item:=by
  intro X hP hw hK hc i pins s σ H E I hf st hg
  subst hP hw hK
  obtain ⟨xs,x,hq,hx⟩:=hg
  obtain ⟨its,rv,p,hz⟩:=I.tuple hq
  obtain ⟨u,hu,ru⟩:=rv.get hx
  obtain ⟨f0,f1,f2,f3,f4,f5⟩:=hf it (by simp)
  refine wpAny_pyNext_tuple_item st (show s.heap.IsTuple a its.toArray from p) (x:=u) (by simpa using hu) fun h' st' sb=>?_
  have I1:Inv X pins σ H { s with heap:=h' }:=I.turned (t':=s.toks) (fun b o hb e=>(sb.2 b hb).trans e) f0 f1 f3 f4 f5
  obtain ⟨o,e,c,d⟩:=id st'
  exact ⟨u,rfl,lh (s:={ s with heap:=h' }) e c d (by decide) ⟨x,H,I1,ru,⟨rfl,fun ys hy=>by rw [I.tuple_inj hy hq]; exact hx⟩,st',fun b hb=>(hf b hb).1⟩⟩
 done:=by
  intro X hP hw hK hc i pins s σ H E I hf st hg
  subst hP hw hK
  obtain ⟨xs,hq,hx⟩:=hg
  obtain ⟨its,rv,p,hz⟩:=I.tuple hq
  obtain ⟨f0,f1,f2,f3,f4,f5⟩:=hf it (by simp)
  have hl:=rv.length
  exact wpAny_pyNext_tuple_end (I.ok.hd hc) st (show s.heap.IsTuple a its.toArray from p) (by simp; omega) fun h' eb=>⟨rfl,I.turned (t':=s.toks) (fun b o hb e=>eb b o hb e) f0 f1 f3 f4 f5⟩
 self:=fun _ _ _ _ _ st h=>wpAny_pyIter_tupleiter st h
theorem lL {P:Program}{w:Bj}{K:AK}{tg:Expr}(it:Addr) (lo:Int) (n:Nat):kn P w K tg (Itr lo n) [it] it (fun i h=>IsRangeIter h it (lo+(i:Nat)*1) ((n:Int)-(i:Nat)) 1) where
 mem:=by simp
 obj:=fun i h st b hb=>by
  have e:b=it:=by simpa using hb
  subst e
  exact ⟨_,st,fun v z=>by
   have z':Data.fields _=Data.cell v:=z
   cases z'⟩
 keep:=fun i h h' st k=>k it (by simp) _ st
 item:=by
  intro X hP hw hK hc i pins s σ H E I hf st hg
  subst hP hw hK
  obtain ⟨f0,f1,f2,f3,f4,f5⟩:=hf it (by simp)
  have W:=Walks.range (prog:=X.prog) (w:=X.w) (I.ok.hd hc) it lo 1 n
  refine W.item i s _ _ hg st fun v h' tk hv st' kk=>?_
  obtain ⟨t,rfl⟩:=hv
  have I1:Inv X pins σ H { s with heap:=h',toks:=tk }:=I.turned (fun b o hb e=>kk b o (by simpa using hb) e) f0 f1 f3 f4 f5
  refine ⟨_,rfl,lh (s:={ s with heap:=h',toks:=tk }) (n:="range_iterator") st' rfl rfl (by decide) ⟨.int (lo+i),H,I1,⟨t,?_⟩,⟨rfl,rfl⟩,st',fun b hb=>(hf b hb).1⟩⟩
  rw [Int.mul_one]
 done:=by
  intro X hP hw hK hc i pins s σ H E I hf st hg
  subst hP hw hK
  obtain ⟨f0,f1,f2,f3,f4,f5⟩:=hf it (by simp)
  exact wpAny_pyNext_range_end (I.ok.hd hc) st (by have:n<=i:=hg; omega) fun h' eb=>⟨rfl,I.turned (t':=s.toks) (fun b o hb e=>eb b o hb e) f0 f1 f3 f4 f5⟩
 self:=fun _ _ _ _ _ st h=>wpAny_pyIter_rangeiter st h
section
variable {X:Cx}{tg:Expr}
def xr (K:AK) (tl:TE):TI:=fun σ H R=>tl σ H fun x H1=>∃a,x=.ref a/\(∃xs,SqL K H1 a xs)/\R (Itl K a) H1
def z4 (K:AK) (tl:TE):TI:=fun σ H R=>tl σ H fun x H1=>∃a,x=.ref a/\(∃xs,SqT K H1 a xs)/\R (Itt K a) H1
theorem vy {l:Expr}{tl:TE}(hl:PE X l tl):PI X tg l (xr X.K tl):=by
 intro pins s σ H R I h
 refine thn (hl pins s σ H _ I h) fun v s1 ⟨x,H1,I1,r1,q1⟩=>?_
 obtain ⟨a,e,⟨xs,hq⟩,q⟩:=q1
 subst e
 cases r1
 obtain ⟨its,rv,p,hz⟩:=I1.list hq
 refine wpAny_pyIter_list p.isList ?_
 refine ⟨s1.heap.objs.size,[s1.heap.objs.size],_,_,H1,rfl,I1.kept (t':=s1.toks) fun b o e=>AJ _ e,py a _,⟨_,A5 _ rfl,rfl,rfl⟩,fun b hb=>?_,q⟩
 have e:b=s1.heap.objs.size:=by simpa using hb
 subst e
 exact I1.fpOk (AM _) (I1.hok.fresh (AM _))
theorem yf {l:Expr}{tl:TE}(hl:PE X l tl):PI X tg l (z4 X.K tl):=by
 intro pins s σ H R I h
 refine thn (hl pins s σ H _ I h) fun v s1 ⟨x,H1,I1,r1,q1⟩=>?_
 obtain ⟨a,e,⟨xs,hq⟩,q⟩:=q1
 subst e
 cases r1
 obtain ⟨its,rv,p,hz⟩:=I1.tuple hq
 refine El (show s1.heap.IsTuple a its.toArray from p) ?_
 refine ⟨s1.heap.objs.size,[s1.heap.objs.size],_,_,H1,rfl,I1.kept (t':=s1.toks) fun b o e=>AJ _ e,lK a _,⟨_,A5 _ rfl,rfl,rfl⟩,fun b hb=>?_,q⟩
 have e:b=s1.heap.objs.size:=by simpa using hb
 subst e
 exact I1.fpOk (AM _) (I1.hok.fresh (AM _))
theorem rE {pins:List (Addr×Obj)}{σ:St}{H:Hp}{s:AL}{R:It->Hp->Prop}{E:Value->AL->Prop}{lo hi:Int}{t u v:Tok}{tk:Nat}(I:Inv X pins σ H s) (h1:-(2 ^ 62)<=lo) (h2:lo<2 ^ 62) (h3:-(2 ^ 62)<=hi) (h4:hi<2 ^ 62)
  (q:R (Itr lo (hi-lo).toNat) H):A6 (Bf X.prog X.w) X.A (pyIter (.ref s.heap.objs.size)) (PIE X pins σ tg R) E { s with heap:=s.heap.push { cls:=.type "range",data:=.fields #[.int lo t,.int hi u,.int 1 v] },toks:=tk }:=by
 refine wpAny_pyIter_range (IsRange.new ..) (small_one h1 h2 h3 h4) ?_
 have I1:Inv X pins σ H { s with heap:=s.heap.push { cls:=.type "range",data:=.fields #[.int lo t,.int hi u,.int 1 v] },toks:=tk }:=I.kept fun b o e=>AJ _ e
 refine ⟨(s.heap.push { cls:=.type "range",data:=.fields #[.int lo t,.int hi u,.int 1 v] }).objs.size,[(s.heap.push { cls:=.type "range",data:=.fields #[.int lo t,.int hi u,.int 1 v] }).objs.size],_,_,H,rfl,
  I1.kept (t':=tk) fun b o e=>AJ _ e,lL _ lo (hi-lo).toNat,?_,fun b hb=>?_,q⟩
 ·have e1:lo+((0:Nat):Int)*1=lo:=by simp
  have e2:(((hi-lo).toNat:Nat):Int)-((0:Nat):Int)=Et lo hi 1:=by rw [rangeSize_one]; split <;> omega
  show IsRangeIter _ _ (lo+((0:Nat):Int)*1) ((((hi-lo).toNat:Nat):Int)-((0:Nat):Int)) 1
  rw [e1,e2]
  exact A5 _ rfl
 ·have e:b=(s.heap.push { cls:=.type "range",data:=.fields #[.int lo t,.int hi u,.int 1 v] }).objs.size:=by simpa using hb
  subst e
  exact I1.fpOk (AM _) (I1.hok.fresh (AM _))
def xn (ta:TA):TI:=fun σ H R=>ta σ H fun vs H1=>∃j:Int,vs=[.int j]/\-(2 ^ 62)<=j/\j<2 ^ 62/\R (Itr 0 j.toNat) H1
theorem pQ {a:Expr}{ta:TA}{p pos:Pos}(hg:Gl X "range") (hm:X.mg "range"=none) (ha:PA X [a] ta) (hs:Bz [a] X.env=[(false,eval a X.env)]:=by rfl):PI X tg (.Call (.Name "range" p) [a] [] pos) (xn ta):=by
 intro pins s σ H R I h
 refine Call_ (bG I hg hm boot_range (BC (thn (ha pos pins s σ H _ I h) fun us s1 ⟨vs,H1,I1,r1,q1⟩=>?_) hs rfl))
 obtain ⟨j,e,q1,q2,q⟩:=q1
 subst e
 cases r1 with
 | cons r rr =>
  cases rr
  obtain ⟨t,rfl⟩:=r
  exact call_range_1 (rE I1 (by omega) (by omega) q1 q2 (by simpa using q))
def zv (wi:TI) (g:TG) (tb:TS):TS:=fun D σ H=>wi σ H fun J H1=>∃W:Nat->Nat->St->Hp->Prop,(∃m,W 0 m σ H1)/\∀i m σ H,W i m σ H ->
 (J.stop i H/\D.nx σ H)\/(J.go i H/\∃N:St->Hp->Prop,(∀ σ' H',N σ' H'->∃m',m'<m/\W (i+1) m' σ' H')/\∀x H',J.yld i H x H'->g x σ H' fun σ2 H2=>tb { D with nx:=N,ct:=N,bk:=D.nx } σ2 H2)
def jU (fp:List Addr) (h:Heap):List (Addr×Obj):=fp.filterMap fun b=>(h.get? b).map fun o=>(b,o)
theorem dz {fp:List Addr}{h:Heap}{b:Addr}{o:Obj}(hb:b∈fp) (e:h.get? b=some o):(b,o)∈jU fp h:=Em.mpr ⟨b,hb,by rw [e]; rfl⟩
theorem pX {fp:List Addr}{h:Heap}{p:Addr×Obj}(hp:p∈jU fp h):p.1∈fp/\h.get? p.1=some p.2:=by
 obtain ⟨b,hb,e⟩:=Em.mp hp
 cases q:h.get? b with
 | none=>rw [q] at e; cases e
 | some o =>
  rw [q] at e
  have e':(b,o)=p:=Ba e
  subst e'
  exact ⟨hb,q⟩
theorem Inv.pinned {pins:List (Addr×Obj)}{σ:St}{H:Hp}{s:AL}{fp:List Addr}(I:Inv X pins σ H s) (hf:∀b∈fp,cH X pins H b) (ho:∀b∈fp,∃o,s.heap.get? b=some o/\∀v,o.data≠.cell v):Inv X (pins++jU fp s.heap) σ H s :=
 I.pins_of fun p hp=>(CG.mp hp).elim (fun z=>I.pin p (Bb _ z)) fun z=>by
  obtain ⟨hb,e⟩:=pX z
  obtain ⟨f0,f1,f2,_⟩:=hf p.1 hb
  obtain ⟨o,e',d⟩:=ho p.1 hb
  rw [e] at e'; cases e'
  exact ⟨e,f0,f1,f2,d⟩
theorem Inv.unpinned {pins pl:List (Addr×Obj)}{σ:St}{H:Hp}{s:AL}(I:Inv X (pins++pl) σ H s):Inv X pins σ H s:=I.pins_of fun p hp=>I.pin p (Bb _ (CO _ hp))
theorem yb {iter:Expr}{body:List Stmt}{wi:TI}{g:TG}{tb:TS}{pos:Pos}(hp:B9 (Bf X.prog X.w) X.A X.env X.xe) (hc:X.calm=true) (hi:PI X tg iter wi) (hg:PG X tg g) (hb:PSs X body tb)
  (hs:∀x,DY iter X.env x=pure x:=by intro _; rfl):PS X (.For tg iter body [] pos) (zv wi g tb):=by
 intro pins s σ H D I h
 refine wpAny_For (thn (hi pins s σ H _ I h) fun v s1 h1=>thn h1 fun itv s2 h2=>?_) hs
 obtain ⟨it,fp,tn,J,H2,e,I2,T,st2,f2,W,⟨m0,w0⟩,turn⟩:=h2
 subst e
 have stat:∀{H':Hp},(∀b∈fp,H' b=none)->∀b∈fp,cH X pins H' b:=fun hn b hb=>⟨hn b hb,(f2 b hb).2⟩
 refine codeAny_forLoop_any (fun n s'=>∃i σ' H',Inv X pins σ' H' s'/\tn i s'.heap/\(∀b∈fp,H' b=none)/\W i n σ' H') ?_ m0 ⟨0,σ,H2,I2,st2,fun b hb=>(f2 b hb).1,w0⟩
 rintro n s3 ⟨i,σ3,H3,I3,st3,fr3,w3⟩
 rcases turn i n σ3 H3 w3 with ⟨stop,qn⟩ | ⟨go,N,hN,step⟩
 ·refine Ej hp (thn (T.done X rfl rfl rfl hc i pins s3 σ3 H3 X.xe I3 (stat fr3) st3 stop) fun r s4 ⟨hr,I4⟩=>?_)
  subst hr
  exact wpAny_execs_nil ⟨σ3,H3,I4,qn⟩
 ·refine Ej hp (thn (T.item X rfl rfl rfl hc i pins s3 σ3 H3 X.xe I3 (stat fr3) st3 go) fun r s4 ⟨u,hr,h4⟩=>?_)
  subst hr
  refine Ej hp (thn h4 fun _ s5 ⟨x,H5,I5,r5,y5,st5,fr5⟩=>?_)
  have I5':=I5.pinned (stat fr5) (T.obj _ _ st5)
  refine Ej hp (thn (hg _ s5 σ3 H5 x u _ I5' r5 (step x H5 y5)) fun _ s6 ⟨σ6,H6,I6,q6⟩=>?_)
  refine Ej hp (thn (hb _ s6 σ6 H6 _ I6 q6) fun f s7 q7=>?_)
  have again:∀{σ7:St}{H7:Hp},Inv X (pins++jU fp s5.heap) σ7 H7 s7->N σ7 H7->∃m,m<n/\∃i σ' H',Inv X pins σ' H' s7/\tn i s7.heap/\(∀b∈fp,H' b=none)/\W i m σ' H':=fun {σ7 H7} I7 n7=>by
   obtain ⟨m',hm,w7⟩:=hN σ7 H7 n7
   refine ⟨m',hm,i+1,σ7,H7,I7.unpinned,T.keep _ _ _ st5 fun b hb o e=>(I7.pin (b,o) (Bb _ (Bb _ (dz hb e)))).1,fun b hb=>?_,w7⟩
   obtain ⟨o,e,d⟩:=T.obj _ _ st5 b hb
   exact (I7.pin (b,o) (Bb _ (Bb _ (dz hb e)))).2.1
  cases f with
  | next=>obtain ⟨σ7,H7,I7,n7⟩:=q7; exact again I7 n7
  | cont=>obtain ⟨σ7,H7,I7,n7⟩:=q7; exact again I7 n7
  | brk=>obtain ⟨σ7,H7,I7,q7⟩:=q7; exact ⟨σ7,H7,I7.unpinned,q7⟩
  | ret v=>obtain ⟨x7,σ7,H7,I7,r7,q7⟩:=q7; exact ⟨x7,σ7,H7,I7.unpinned,r7,q7⟩
end
theorem bU {K:AK}{a:Addr}{xs:List V}{g:TG}{tb:TS}{D:Ends}{σ:St}{H:Hp}(Pv:Nat->St->Hp->Prop) (h0:Pv 0 σ H) (hl:∀i σ H,i<=xs.length->Pv i σ H->SqL K H a xs)
  (hs:∀i x σ H,xs[i]?=some x->Pv i σ H->g x σ H fun σ2 H2=>tb { D with nx:=Pv (i+1),ct:=Pv (i+1),bk:=D.nx } σ2 H2) (hd:∀ σ H,Pv xs.length σ H->D.nx σ H) :
  ∃W:Nat->Nat->St->Hp->Prop,(∃m,W 0 m σ H)/\∀i m σ H,W i m σ H ->
   ((Itl K a).stop i H/\D.nx σ H)\/((Itl K a).go i H/\∃N:St->Hp->Prop,(∀ σ' H',N σ' H'->∃m',m'<m/\W (i+1) m' σ' H')/\∀x H',(Itl K a).yld i H x H'->g x σ H' fun σ2 H2=>tb { D with nx:=N,ct:=N,bk:=D.nx } σ2 H2):=by
 refine ⟨fun i m σ H=>m=xs.length-i/\i<=xs.length/\Pv i σ H,⟨xs.length,by simp,Bo _,h0⟩,?_⟩
 rintro i m σ H ⟨rfl,hi,p⟩
 have q:=hl i σ H hi p
 by_cases hlt:i<xs.length
 ·refine .inr ⟨⟨xs,xs[i],q,by simp [hlt]⟩,Pv (i+1),fun σ' H' p'=>⟨xs.length-(i+1),by omega,rfl,hlt,p'⟩,fun x H' y=>?_⟩
  obtain ⟨e,y⟩:=y
  subst e
  exact hs i x σ _ (y xs q) p
 ·have e:i=xs.length:=by omega
  subst e
  exact .inl ⟨⟨xs,q,AM _⟩,hd σ H p⟩
theorem gN {K:AK}{a:Addr}{xs:List V}{g:TG}{tb:TS}{D:Ends}{σ:St}{H:Hp}(Pv:Nat->St->Hp->Prop) (h0:Pv 0 σ H) (hl:∀i σ H,i<=xs.length->Pv i σ H->SqT K H a xs)
  (hs:∀i x σ H,xs[i]?=some x->Pv i σ H->g x σ H fun σ2 H2=>tb { D with nx:=Pv (i+1),ct:=Pv (i+1),bk:=D.nx } σ2 H2) (hd:∀ σ H,Pv xs.length σ H->D.nx σ H) :
  ∃W:Nat->Nat->St->Hp->Prop,(∃m,W 0 m σ H)/\∀i m σ H,W i m σ H ->
   ((Itt K a).stop i H/\D.nx σ H)\/((Itt K a).go i H/\∃N:St->Hp->Prop,(∀ σ' H',N σ' H'->∃m',m'<m/\W (i+1) m' σ' H')/\∀x H',(Itt K a).yld i H x H'->g x σ H' fun σ2 H2=>tb { D with nx:=N,ct:=N,bk:=D.nx } σ2 H2):=by
 refine ⟨fun i m σ H=>m=xs.length-i/\i<=xs.length/\Pv i σ H,⟨xs.length,by simp,Bo _,h0⟩,?_⟩
 rintro i m σ H ⟨rfl,hi,p⟩
 have q:=hl i σ H hi p
 by_cases hlt:i<xs.length
 ·refine .inr ⟨⟨xs,xs[i],q,by simp [hlt]⟩,Pv (i+1),fun σ' H' p'=>⟨xs.length-(i+1),by omega,rfl,hlt,p'⟩,fun x H' y=>?_⟩
  obtain ⟨e,y⟩:=y
  subst e
  exact hs i x σ _ (y xs q) p
 ·have e:i=xs.length:=by omega
  subst e
  exact .inl ⟨⟨xs,q,AM _⟩,hd σ H p⟩
theorem jp {lo:Int}{n:Nat}{g:TG}{tb:TS}{D:Ends}{σ:St}{H:Hp}(Pv:Nat->St->Hp->Prop) (h0:Pv 0 σ H)
  (hs:∀i σ H,i<n->Pv i σ H->g (.int (lo+i)) σ H fun σ2 H2=>tb { D with nx:=Pv (i+1),ct:=Pv (i+1),bk:=D.nx } σ2 H2) (hd:∀ σ H,Pv n σ H->D.nx σ H) :
  ∃W:Nat->Nat->St->Hp->Prop,(∃m,W 0 m σ H)/\∀i m σ H,W i m σ H ->
   ((Itr lo n).stop i H/\D.nx σ H)\/((Itr lo n).go i H/\∃N:St->Hp->Prop,(∀ σ' H',N σ' H'->∃m',m'<m/\W (i+1) m' σ' H')/\∀x H',(Itr lo n).yld i H x H'->g x σ H' fun σ2 H2=>tb { D with nx:=N,ct:=N,bk:=D.nx } σ2 H2):=by
 refine ⟨fun i m σ H=>m=n-i/\i<=n/\Pv i σ H,⟨n,by simp,Bo _,h0⟩,?_⟩
 rintro i m σ H ⟨rfl,hi,p⟩
 by_cases hlt:i<n
 ·refine .inr ⟨hlt,Pv (i+1),fun σ' H' p'=>⟨n-(i+1),by omega,rfl,hlt,p'⟩,fun x H' y=>?_⟩
  obtain ⟨e,y⟩:=y
  subst e y
  exact hs i σ _ hlt p
 ·have e:i=n:=by omega
  subst e
  exact .inl ⟨AM _,hd σ H p⟩
abbrev R2:=V->V->Hp->VK->Prop
def OpR (X:Cx) (f:Value->Value->Sem Value) (r:R2):Prop :=
 ∀(pins:List (Addr×Obj)) (s:AL) (σ:St) (H:Hp) (x y:V) (v u:Value) (Q:VK),Inv X pins σ H s->RelV x v->RelV y u->r x y H Q ->
  A6 (Bf X.prog X.w) X.A (f v u) (EP X pins σ Q) X.xe s
def UnR (X:Cx) (f:Value->Sem Value) (r:V->Hp->VK->Prop):Prop :=
 ∀(pins:List (Addr×Obj)) (s:AL) (σ:St) (H:Hp) (x:V) (v:Value) (Q:VK),Inv X pins σ H s->RelV x v->r x H Q ->
  A6 (Bf X.prog X.w) X.A (f v) (EP X pins σ Q) X.xe s
def bV (X:Cx) (f:Value) (r:List V->Hp->VK->Prop):Prop :=
 ∀(pins:List (Addr×Obj)) (s:AL) (σ:St) (H:Hp) (xs:List V) (us:List Value) (Q:VK),Inv X pins σ H s->Vals xs us->r xs H Q ->
  A6 (Bf X.prog X.w) X.A (call f us) (EP X pins σ Q) X.xe s
def AA (X:Cx) (r:V->Hp->(Bool->Hp->Prop)->Prop):Prop :=
 ∀(pins:List (Addr×Obj)) (s:AL) (σ:St) (H:Hp) (x:V) (v:Value) (Q:Bool->Hp->Prop),Inv X pins σ H s->RelV x v->r x H Q ->
  A6 (Bf X.prog X.w) X.A (truthy v) (TP X pins σ Q) X.xe s
def tOp (r:R2) (ta tb:TE):TE:=fun σ H Q=>ta σ H fun x H1=>tb σ H1 fun y H2=>r x y H2 Q
def tUn (r:V->Hp->VK->Prop) (ta:TE):TE:=fun σ H Q=>ta σ H fun x H1=>r x H1 Q
def rI (C:Int->Int->Prop) (g:Int->Int->V):R2:=fun x y H Q=>∃i j,x=.int i/\y=.int j/\C i j/\Q (g i j) H
def rI0 (g:Int->Int->V):R2:=fun x y H Q=>∃i j,x=.int i/\y=.int j/\Q (g i j) H
def rU (g:Int->V):V->Hp->VK->Prop:=fun x H Q=>∃i,x=.int i/\Q (g i) H
section
variable {X:Cx}{a b c:Expr}{ta tb tc:TE}{pos:Pos}
theorem zb (ha:PE X a ta) (hb:PE X b tb) {pins:List (Addr×Obj)}{s:AL}{σ:St}{H:Hp}{R:V->V->Hp->Prop}(I:Inv X pins σ H s)
  (h:ta σ H fun x H1=>tb σ H1 fun y H2=>R x y H2) {Q:Value->AL->Prop}{f:Value->Value->Sem Value}
  (hf:∀v u s2 x y H2,Inv X pins σ H2 s2->RelV x v->RelV y u->R x y H2->A6 (Bf X.prog X.w) X.A (f v u) Q X.xe s2) :
  A6 (Bf X.prog X.w) X.A (eval a X.env) (fun v s₁=>A6 (Bf X.prog X.w) X.A (eval b X.env) (fun u s₂=>A6 (Bf X.prog X.w) X.A (f v u) Q X.xe s₂) X.xe s₁) X.xe s:=by
 refine thn (ha pins s σ H _ I h) fun v s1 ⟨x,H1,I1,r1,q1⟩=>?_
 refine thn (hb pins s1 σ H1 _ I1 q1) fun u s2 ⟨y,H2,I2,r2,q2⟩=>?_
 exact hf v u s2 x y H2 I2 r1 r2 q2
theorem zP {op:Operator}{r:R2}(ho:OpR X (DU op) r) (ha:PE X a ta) (hb:PE X b tb):PE X (.BinOp a op b pos) (tOp r ta tb):=by
 intro pins s σ H Q I h
 exact wpAny_BinOp (zb ha hb I h fun v u s2 x y H2 I2 rx ry q=>ho pins s2 σ H2 x y v u Q I2 rx ry q)
theorem zO {op:UnaryOp}{r:V->Hp->VK->Prop}(ho:UnR X (unaryOp op) r) (ha:PE X a ta):PE X (.UnaryOp op a pos) (tUn r ta):=by
 intro pins s σ H Q I h
 exact UnaryOp_ (thn (ha pins s σ H _ I h) fun v s1 ⟨x,H1,I1,r1,q1⟩=>ho pins s1 σ H1 x v Q I1 r1 q1)
theorem opI {f:Value->Value->Sem Value}{C:Int->Int->Prop}{g:Int->Int->Int}
  (rule:∀(i j:Int) (t u:Tok) (s:AL) (Q:Value->AL->Prop) (E:Value->AL->Prop),C i j->Q (.int (g i j) s.toks) { s with toks:=s.toks+1 }->A6 (Bf X.prog X.w) X.A (f (.int i t) (.int j u)) Q E s) :
  OpR X f (rI C fun i j=>.int (g i j)):=by
 intro pins s σ H x y v u Q I rx ry h
 obtain ⟨i,j,rfl,rfl,hc,q⟩:=h
 obtain ⟨t,rfl⟩:=rx
 obtain ⟨t',rfl⟩:=ry
 exact rule i j t t' s _ _ hc ⟨.int (g i j),H,I.tok _,⟨_,rfl⟩,q⟩
theorem zU {f:Value->Value->Sem Value}{g:Int->Int->Int}
  (rule:∀(i j:Int) (t u:Tok) (s:AL) (Q:Value->AL->Prop) (E:Value->AL->Prop),Q (.int (g i j) s.toks) { s with toks:=s.toks+1 }->A6 (Bf X.prog X.w) X.A (f (.int i t) (.int j u)) Q E s) :
  OpR X f (rI0 fun i j=>.int (g i j)):=by
 intro pins s σ H x y v u Q I rx ry h
 obtain ⟨i,j,rfl,rfl,q⟩:=h
 obtain ⟨t,rfl⟩:=rx
 obtain ⟨t',rfl⟩:=ry
 exact rule i j t t' s _ _ ⟨.int (g i j),H,I.tok _,⟨_,rfl⟩,q⟩
theorem vI {f:Value->Value->Sem Value}{g:Int->Int->Bool}
  (rule:∀(i j:Int) (t u:Tok) (s:AL) (Q:Value->AL->Prop) (E:Value->AL->Prop),Q (.bool (g i j)) s->A6 (Bf X.prog X.w) X.A (f (.int i t) (.int j u)) Q E s) :
  OpR X f (rI0 fun i j=>.bl (g i j)):=by
 intro pins s σ H x y v u Q I rx ry h
 obtain ⟨i,j,rfl,rfl,q⟩:=h
 obtain ⟨t,rfl⟩:=rx
 obtain ⟨t',rfl⟩:=ry
 exact rule i j t t' s _ _ ⟨.bl (g i j),H,I,rfl,q⟩
def AF (i j:Int):Prop:=0<j/\j<1073741824
def AE (i j:Int):Prop:=0<=j/\j<=1000000/\i.natAbs<2 ^ 64
def CMul (i j:Int):Prop:=(-(2 ^ 64)<i/\i<2 ^ 64)\/(-(2 ^ 64)<j/\j<2 ^ 64)
theorem CMul.ok {i j:Int}(h:CMul i j):IntMulOk i j:=by
 rcases h with ⟨h1,h2⟩ | ⟨h1,h2⟩
 ·exact .of_left (intBits_le_64 h1 h2)
 ·exact .of_right (intBits_le_64 h1 h2)
theorem aV:OpR X (DU .Add) (rI0 fun i j=>.int (i+j)):=zU fun _ _ _ _ _ _ _ q=>add_int q
theorem bL:OpR X (DU .Sub) (rI0 fun i j=>.int (i-j)):=zU fun _ _ _ _ _ _ _ q=>sub_int q
theorem f6:OpR X (DU .Mult) (rI CMul fun i j=>.int (i*j)):=opI fun _ _ _ _ _ _ _ hc q=>mul_int q hc.ok
theorem jW:OpR X (DU .FloorDiv) (rI AF fun i j=>.int (i / j)):=opI fun i j _ _ _ _ _ hc q=>by
 have h1:(0:Int)<j:=hc.1
 have h2:j<1073741824:=hc.2
 exact floordiv_int (by omega) (by rw [Int.fdiv_eq_ediv_of_nonneg i (by omega)]; exact q) (.inl (PyProof.noPylong_small (by omega)))
theorem bu:OpR X (DU .Mod) (rI (fun _ j=>0<j) fun i j=>.int (i % j)):=opI fun i j _ _ _ _ _ hc q=>by
 have h1:(0:Int)<j:=hc
 exact mod_int' (by omega) (by rw [Int.fmod_eq_emod_of_nonneg i (by omega)]; exact q)
theorem yr:OpR X (DU .Pow) (rI AE fun i j=>.int (i ^ j.toNat)):=opI fun _ _ _ _ _ _ _ hc q=>pow_int_small hc.1 hc.2.1 hc.2.2 q
theorem unI {f:Value->Sem Value}{g:Int->Int}
  (rule:∀(i:Int) (t:Tok) (s:AL) (Q:Value->AL->Prop) (E:Value->AL->Prop),Q (.int (g i) s.toks) { s with toks:=s.toks+1 }->A6 (Bf X.prog X.w) X.A (f (.int i t)) Q E s) :
  UnR X f (rU fun i=>.int (g i)):=by
 intro pins s σ H x v Q I rx h
 obtain ⟨i,rfl,q⟩:=h
 obtain ⟨t,rfl⟩:=rx
 exact rule i t s _ _ ⟨.int (g i),H,I.tok _,⟨_,rfl⟩,q⟩
theorem bD:UnR X (unaryOp .USub) (rU fun i=>.int (-i)):=unI fun _ _ _ _ _ q=>neg_int q
end
def zC:V->V->Bool
 | .non,.non=>true | .non,.int _=>true | .int _,.non=>true | .non,.bl _=>true | .bl _,.non=>true | .non,.str _=>true | .str _,.non=>true
 | .int _,.int _=>true | .bl _,.bl _=>true | .str _,.str _=>true | .byt _,.byt _=>true
 | .int _,.str _=>true | .str _,.int _=>true | .bl _,.str _=>true | .str _,.bl _=>true
 | _,_=>false
def rEq:R2:=fun x y H Q=>zC x y=true/\Q (.bl (decide (x=y))) H
def rNe:R2:=fun x y H Q=>zC x y=true/\Q (.bl (!decide (x=y))) H
theorem oO {i j:Int}:decide (V.int i=V.int j)=(i == j):=by
 rw [Fa]
 simp
theorem ut {i j:Bool}:decide (V.bl i=V.bl j)=(i == j):=by
 rw [Fa]
 simp
theorem oN {i j:Str}:decide (V.str i=V.str j)=(i == j):=by
 rw [Fa]
 simp
theorem oP {i j:Array UInt8}:decide (V.byt i=V.byt j)=(i.toList == j.toList):=by
 rw [Fa]
 cases i
 cases j
 simp
section
variable {X:Cx}{a b c:Expr}{ta tb tc:TE}{pos:Pos}
theorem aP {pins:List (Addr×Obj)}{σ:St}{H:Hp}{s:AL}{Q:VK}{k k':Bool}(I:Inv X pins σ H s) (q:Q (.bl k) H) (e:k=k'):EP X pins σ Q (.bool k') s:=by
 subst e
 exact ⟨.bl k,H,I,rfl,q⟩
theorem bf:OpR X (CP .Eq) rEq:=by
 intro pins s σ H x y v u Q I rx ry h
 obtain ⟨hs,q⟩:=h
 cases x with
 | non =>
  cases rx
  cases y with
  | non=>cases ry; exact PySem.EqNone.eq_none_none (aP I q (by simp))
  | bl j=>cases ry; exact PySem.EqNone.eq_none_bool (aP I q (by simp))
  | int j=>obtain ⟨t',rfl⟩:=ry; exact PySem.EqNone.eq_none_int (aP I q (by simp))
  | str j=>obtain ⟨t',rfl⟩:=ry; exact PySem.EqNone.eq_none_str (aP I q (by simp))
  | _=>exact absurd (show false=true from hs) Bq
 | bl i =>
  cases rx
  cases y with
  | non=>cases ry; exact PySem.EqNone.eq_bool_none (aP I q (by simp))
  | bl j=>cases ry; exact eq_bool (aP I q ut)
  | str j=>obtain ⟨t',rfl⟩:=ry; exact PySem.EqMixed.eq_bool_str (aP I q (by simp))
  | _=>exact absurd (show false=true from hs) Bq
 | int i =>
  obtain ⟨t,rfl⟩:=rx
  cases y with
  | non=>cases ry; exact PySem.EqNone.eq_int_none (aP I q (by simp))
  | int j=>obtain ⟨t',rfl⟩:=ry; exact eq_int (aP I q oO)
  | str j=>obtain ⟨t',rfl⟩:=ry; exact PySem.EqMixed.eq_int_str (aP I q (by simp))
  | _=>exact absurd (show false=true from hs) Bq
 | str i =>
  obtain ⟨t,rfl⟩:=rx
  cases y with
  | non=>cases ry; exact PySem.EqNone.eq_str_none (aP I q (by simp))
  | bl j=>cases ry; exact PySem.EqMixed.eq_str_bool (aP I q (by simp))
  | int j=>obtain ⟨t',rfl⟩:=ry; exact PySem.EqMixed.eq_str_int (aP I q (by simp))
  | str j=>obtain ⟨t',rfl⟩:=ry; exact eq_str (aP I q oN)
  | _=>exact absurd (show false=true from hs) Bq
 | byt i =>
  obtain ⟨t,rfl⟩:=rx
  cases y with
  | byt j=>obtain ⟨t',rfl⟩:=ry; exact PySem.W.eq_bytes (aP I q oP)
  | _=>exact absurd (show false=true from hs) Bq
 | _=>cases y <;> exact absurd (show false=true from hs) Bq
theorem xj:OpR X (CP .NotEq) rNe:=by
 intro pins s σ H x y v u Q I rx ry h
 obtain ⟨hs,q⟩:=h
 cases x with
 | non =>
  cases rx
  cases y with
  | non=>cases ry; exact PySem.EqNone.ne_none_none (aP I q (by simp))
  | bl j=>cases ry; exact PySem.EqNone.ne_none_bool (aP I q (by simp))
  | int j=>obtain ⟨t',rfl⟩:=ry; exact PySem.EqNone.ne_none_int (aP I q (by simp))
  | str j=>obtain ⟨t',rfl⟩:=ry; exact PySem.EqNone.ne_none_str (aP I q (by simp))
  | _=>exact absurd (show false=true from hs) Bq
 | bl i =>
  cases rx
  cases y with
  | non=>cases ry; exact PySem.EqNone.ne_bool_none (aP I q (by simp))
  | bl j=>cases ry; exact ne_bool (aP I q (congrArg not ut))
  | str j=>obtain ⟨t',rfl⟩:=ry; exact PySem.EqMixed.ne_bool_str (aP I q (by simp))
  | _=>exact absurd (show false=true from hs) Bq
 | int i =>
  obtain ⟨t,rfl⟩:=rx
  cases y with
  | non=>cases ry; exact PySem.EqNone.ne_int_none (aP I q (by simp))
  | int j=>obtain ⟨t',rfl⟩:=ry; exact ne_int (aP I q (congrArg not oO))
  | str j=>obtain ⟨t',rfl⟩:=ry; exact PySem.EqMixed.ne_int_str (aP I q (by simp))
  | _=>exact absurd (show false=true from hs) Bq
 | str i =>
  obtain ⟨t,rfl⟩:=rx
  cases y with
  | non=>cases ry; exact PySem.EqNone.ne_str_none (aP I q (by simp))
  | bl j=>cases ry; exact PySem.EqMixed.ne_str_bool (aP I q (by simp))
  | int j=>obtain ⟨t',rfl⟩:=ry; exact PySem.EqMixed.ne_str_int (aP I q (by simp))
  | str j=>obtain ⟨t',rfl⟩:=ry; exact ne_str (aP I q (congrArg not oN))
  | _=>exact absurd (show false=true from hs) Bq
 | byt i =>
  obtain ⟨t,rfl⟩:=rx
  cases y with
  | byt j=>obtain ⟨t',rfl⟩:=ry; exact PySem.W.ne_bytes (aP I q (congrArg not oP))
  | _=>exact absurd (show false=true from hs) Bq
 | _=>cases y <;> exact absurd (show false=true from hs) Bq
theorem gk:OpR X (CP .Lt) (rI0 fun i j=>.bl (decide (i<j))):=vI fun _ _ _ _ _ _ _ q=>lt_int q
theorem zS:OpR X (CP .LtE) (rI0 fun i j=>.bl (decide (i<=j))):=vI fun _ _ _ _ _ _ _ q=>le_int q
theorem i_:OpR X (CP .Gt) (rI0 fun i j=>.bl (decide (j<i))):=vI fun _ _ _ _ _ _ _ q=>gt_int q
theorem zT:OpR X (CP .GtE) (rI0 fun i j=>.bl (decide (j<=i))):=vI fun _ _ _ _ _ _ _ q=>ge_int q
theorem sT (b:Expr) {op:CmpOp}(h:op≠.In:=by decide) (h2:op≠.NotIn:=by decide):Dy op b=false:=by
 have e1:(op == CmpOp.In)=false:=by cases op <;> first | rfl | exact absurd rfl h
 have e2:(op == CmpOp.NotIn)=false:=by cases op <;> first | rfl | exact absurd rfl h2
 cases b <;> simp [Dy,e1,e2]
theorem vE {op:CmpOp}{r:R2}(ho:OpR X (CP op) r) (ha:PE X a ta) (hb:PE X b tb) (hm:Dy op b=false):PE X (.Compare a [op] [b] pos) (tOp r ta tb):=by
 intro pins s σ H Q I h
 exact wpAny_Compare1 (zb ha hb I h fun v u s2 x y H2 I2 rx ry q=>ho pins s2 σ H2 x y v u Q I2 rx ry q) hm
def wS (t:TE):TT:=fun σ H Q=>t σ H fun x H'=>∃k,x=.bl k/\Q k H'
theorem vg {op:CmpOp}{r:R2}(ho:OpR X (CP op) r) (ha:PE X a ta) (hb:PE X b tb) (hm:Dy op b=false):PT X (.Compare a [op] [b] pos) (wS (tOp r ta tb)):=by
 intro pins s σ H Q I h
 refine wpAny_isTrue_Compare1 (thn (ha pins s σ H _ I h) fun v s1 ⟨x,H1,I1,r1,q1⟩=>thn (hb pins s1 σ H1 _ I1 q1) fun u s2 ⟨y,H2,I2,r2,q2⟩ =>
  thn (ho pins s2 σ H2 x y v u _ I2 r1 r2 q2) fun c s3 ⟨z,H3,I3,r3,k,e,q3⟩=>?_) hm
 subst e
 cases r3
 exact CV ⟨H3,I3,q3⟩
def qS (r r':R2) (ta tb tc:TE):TE:=fun σ H Q=>ta σ H fun x H1=>tb σ H1 fun y H2=>r x y H2 fun z H3=>∃k,z=.bl k /\
 (if k=true then tc σ H3 fun w' H4=>r' y w' H4 Q else Q (.bl false) H3)
theorem r_ {op op':CmpOp}{r r':R2}(ho:OpR X (CP op) r) (ho':OpR X (CP op') r') (ha:PE X a ta) (hb:PE X b tb) (hc:PE X c tc)
  (hm:lastMarks [op,op'] [b,c]=false:=by with_unfolding_all rfl):PE X (.Compare a [op,op'] [b,c] pos) (qS r r' ta tb tc):=by
 intro pins s σ H Q I h
 refine Compare_chain (thn (ha pins s σ H _ I h) fun v s1 ⟨x,H1,I1,r1,q1⟩=>chain_link (thn (hb pins s1 σ H1 _ I1 q1) fun u s2 ⟨y,H2,I2,r2,q2⟩ =>
  thn (ho pins s2 σ H2 x y v u _ I2 r1 r2 q2) fun d s3 ⟨z,H3,I3,r3,k,e,q3⟩=>?_)) hm
 subst e
 cases r3
 refine CV ?_
 cases k with
 | false=>exact ite_ff ⟨.bl false,H3,I3,rfl,q3⟩
 | true=>exact ite_tt (chain_last (thn (hc pins s3 σ H3 _ I3 q3) fun w' s4 ⟨z',H4,I4,r4,q4⟩=>ho' pins s4 σ H4 y z' u w' Q I4 r2 r4 q4))
def zc (K:AK) (x:V) (H:Hp) (k:Bool):Prop :=
 match x with
 | .non=>k=false
 | .bl b=>k=b
 | .int i=>k=(i != 0)
 | .str y=>y.length<=sizeLine/\k=((y.length:Int) != 0)
 | .byt y=>y.size<=sizeLine/\k=((y.size:Int) != 0)
 | .ref p=>(∃xs,SqL K H p xs/\k=!xs.isEmpty)\/(∃xs,SqT K H p xs/\k=!xs.isEmpty)\/∃kvs,H p=some (.dK kvs)/\k=!kvs.isEmpty
 | _=>False
theorem mz {κ:Type}{kvs:List (κ×V)}{vs:List (κ×Value)}(r:KV kvs vs):(!vs.isEmpty)=!kvs.isEmpty:=by
 cases r <;> rfl
theorem iw {xs:List V}{its:List Value}(r:Vals xs its):(!its.toArray.isEmpty)=!xs.isEmpty:=by
 cases r <;> simp
theorem im:(sizeLine:Nat)<2 ^ 63:=by rw [A9]; decide
theorem xF:AA X (fun x H Q=>∃k,zc X.K x H k/\Q k H):=by
 intro pins s σ H x v Q I rx h
 obtain ⟨k,e,q⟩:=h
 have hl:=im
 have hs:sizeLine=16777216:=A9
 cases x with
 | non =>
  cases rx
  have e':k=false:=e
  subst e'
  exact truthy_none ⟨H,I,q⟩
 | bl b =>
  cases rx
  have e':k=b:=e
  subst e'
  exact CV ⟨H,I,q⟩
 | int i =>
  obtain ⟨t,rfl⟩:=rx
  have e':k=(i != 0):=e
  subst e'
  exact PySem.P.truthy_int ⟨H,I,q⟩
 | str y =>
  obtain ⟨t,rfl⟩:=rx
  obtain ⟨hy,e'⟩:y.length<=sizeLine/\k=((y.length:Int) != 0):=e
  subst e'
  exact PySem.P.truthy_str (by omega) ⟨H,I.tok _,q⟩
 | byt y =>
  obtain ⟨t,rfl⟩:=rx
  obtain ⟨hy,e'⟩:y.size<=sizeLine/\k=((y.size:Int) != 0):=e
  subst e'
  exact PySem.W.truthy_bytes (by omega) ⟨H,I.tok _,q⟩
 | ref p =>
  cases rx
  have e':(∃xs,SqL X.K H p xs/\k=!xs.isEmpty)\/(∃xs,SqT X.K H p xs/\k=!xs.isEmpty)\/∃kvs,H p=some (.dK kvs)/\k=!kvs.isEmpty:=e
  rcases e' with ⟨xs,hx,e'⟩ | ⟨xs,hx,e'⟩ | ⟨kvs,hx,e'⟩
  ·subst e'
   obtain ⟨its,r,pl,hz⟩:=I.list hx
   have hlen:=r.length
   exact wpAny_truthy_list pl.isList (by simp only [AU]; omega) ⟨H,I.tok _,by rw [iw r]; exact q⟩
  ·subst e'
   obtain ⟨its,r,pl,hz⟩:=I.tuple hx
   have hlen:=r.length
   exact truthy_tuple pl (by simp only [AU]; omega) ⟨H,I.tok _,by rw [iw r]; exact q⟩
  ·subst e'
   obtain ⟨hz,hS,vs,r,m⟩:kvs.length<=sizeLine/\(p == Di)=false/\∃vs,KV kvs vs/\s.heap.DictOf (aQ X.prog X.w) p vs:=I.hok p _ hx
   have hlen:kvs.length=vs.length:=Paired.length r
   exact wpAny_truthy_dict hS m (by omega) ⟨H,I.tok _,by rw [mz r]; exact q⟩
 | _=>exact (show False from e).elim
theorem rJ (ha:PE X a ta) (he:∀whole,isTrue a X.env whole=(do let v <- whole; standAt a.pos; Ff [v] (truthy v))) :
  PT X a (fun σ H Q=>ta σ H fun x H'=>∃k,zc X.K x H' k/\Q k H'):=by
 intro pins s σ H Q I h
 exact isTrue_plain (thn (ha pins s σ H _ I h) fun v s1 ⟨x,H1,I1,r1,q1⟩=>xF pins s1 σ H1 x v Q I1 r1 q1) (he _)
theorem cT {x:V}{us:List Value}(r:Vals [x] us):∃u,us=[u]/\RelV x u:=by
 cases r with
 | cons r1 r2=>cases r2; exact ⟨_,rfl,r1⟩
theorem qF {x y:V}{us:List Value}(r:Vals [x,y] us):∃u w',us=[u,w']/\RelV x u/\RelV y w':=by
 cases r with
 | cons r1 r2 =>
  cases r2 with
  | cons r3 r4=>cases r4; exact ⟨_,_,rfl,r1,r3⟩
theorem d7:bV X (.builtin "abs") (fun xs H Q=>∃i,xs=[.int i]/\Q (.int (if i<0 then -i else i)) H):=by
 intro pins s σ H xs us Q I r h
 obtain ⟨i,rfl,q⟩:=h
 obtain ⟨u,rfl,t,rfl⟩:=cT r
 exact call_abs_int fun u tk=>⟨.int (if i<0 then -i else i),H,I.tok _,⟨_,rfl⟩,q⟩
theorem eC (hc:X.calm=true):bV X (.builtin "max") (fun xs H Q=>∃i j,xs=[.int i,.int j]/\Q (.int (if j > i then j else i)) H):=by
 intro pins s σ H xs us Q I r h
 obtain ⟨i,j,rfl,q⟩:=h
 obtain ⟨u,w',rfl,⟨t,rfl⟩,⟨t',rfl⟩⟩:=qF r
 refine max_two_ints (I.ok.hd hc) fun h' tk k=>⟨_,H,I.kept k,?_,q⟩
 by_cases hj:j > i
 ·rw [if_pos hj,if_pos hj]; exact ⟨_,rfl⟩
 ·rw [if_neg hj,if_neg hj]; exact ⟨_,rfl⟩
theorem jv (hc:X.calm=true):bV X (.builtin "min") (fun xs H Q=>∃i j,xs=[.int i,.int j]/\Q (.int (if j<i then j else i)) H):=by
 intro pins s σ H xs us Q I r h
 obtain ⟨i,j,rfl,q⟩:=h
 obtain ⟨u,w',rfl,⟨t,rfl⟩,⟨t',rfl⟩⟩:=qF r
 refine min_two_ints (I.ok.hd hc) fun h' tk k=>⟨_,H,I.kept k,?_,q⟩
 by_cases hj:j<i
 ·rw [if_pos hj,if_pos hj]; exact ⟨_,rfl⟩
 ·rw [if_neg hj,if_neg hj]; exact ⟨_,rfl⟩
theorem qu:bV X (.type "int") (fun xs H Q=>(∃i,xs=[.int i]/\Q (.int i) H)\/∃k,xs=[.bl k]/\Q (.int (if k then 1 else 0)) H):=by
 intro pins s σ H xs us Q I r h
 rcases h with ⟨i,rfl,q⟩ | ⟨k,rfl,q⟩
 ·obtain ⟨u,rfl,t,rfl⟩:=cT r
  exact call_int_int ⟨.int i,H,I,⟨_,rfl⟩,q⟩
 ·obtain ⟨u,rfl,r1⟩:=cT r
  cases r1
  exact call_int_bool ⟨.int (if k then 1 else 0),H,I.tok _,⟨_,rfl⟩,q⟩
end
structure ObjM (h:Heap) (x dx C:Addr) (mA:Str->Option Value):Prop where
 obj:h.get? x=some (PySem.W.instObj C dx)
 ns:h.Ns1 dx mA
 ne:dx≠x
theorem qa {h:Heap}{dx:Addr}{mA:Str->Option Value}(n:h.Ns1 dx mA):∃od,h.get? dx=some od/\∀name,PySem.W.lookIn name od=some (mA name):=by
 obtain ⟨o,es,ep,ho,hd,hk,_,hm⟩:=n
 refine ⟨o,ho,fun name=>?_⟩
 have e:=hm name
 unfold nsFind findBy at e
 rw [<- Array.find?_toList] at e
 unfold PySem.W.lookIn
 rw [hd]
 dsimp only
 split
 ·rename_i y q
  rw [q] at e
  exact congrArg some e
 ·rename_i q
  rw [q] at e
  have a:es.toList.any (·.refKey)=false:=by
   rw [List.any_eq_false]
   intro y hy
   obtain ⟨z,t,hkey⟩:=hk y (Array.mem_toList_iff.mp hy)
   simp [DictEntry.refKey,hkey]
  have a':¬ es.toList.any (·.refKey)=true:=by rw [a]; exact Bq
  rw [if_neg a']
  exact congrArg some e
theorem ObjM.look {h:Heap}{x dx C:Addr}{mA:Str->Option Value}(I:ObjM h x dx C mA):∃od,PySem.W.InstAt h x (PySem.W.instObj C dx) C (some od)/\∀name,PySem.W.lookIn name od=some (mA name) :=
 let ⟨od,ho,hl⟩:=qa I.ns
 ⟨od,⟨I.obj,rfl,rfl,ho⟩,hl⟩
section
variable {prog:Program}{w:Bj}{A:Bk}{E:Value->AL->Prop}{s:AL}{K:AK}{x dx C f:Addr}{mA:Str->Option Value}{name:Str}{v:Value}
end
def putF (f:Str) (v:V):List (Str×V)->List (Str×V)
 | []=>[(f,v)]
 | (g,x) :: r=>if g=f then (g,v) :: r else (g,x) :: putF f v r
theorem gq (f g:Str) (v:V):∀fs:List (Str×V),(putF f v fs).lookup g=if g=f then some v else fs.lookup g
 | []=>by
  show DL g [(f,v)]=_
  by_cases h:g=f
  ·have hb:(g == f)=true:=beq_iff_eq.mpr h
   simp only [DL,hb,if_pos h]
  ·have hb:(g == f)=false:=beq_eq_false_iff_ne.mpr h
   simp only [DL,hb,if_neg h]
 | (k,x) :: r=>by
  have ih:=gq f g v r
  rw [show putF f v ((k,x) :: r)=(if k=f then (k,v) :: r else (k,x) :: putF f v r) from rfl]
  by_cases hk:k=f
  ·rw [if_pos hk]
   by_cases h:g=k
   ·have hb:(g == k)=true:=beq_iff_eq.mpr h
    simp only [DL,hb,if_pos (h.trans hk)]
   ·have hb:(g == k)=false:=beq_eq_false_iff_ne.mpr h
    simp only [DL,hb,if_neg (fun e:g=f=>h (e.trans hk.symm))]
  ·rw [if_neg hk]
   by_cases h:g=k
   ·have hb:(g == k)=true:=beq_iff_eq.mpr h
    simp only [DL,hb,if_neg (fun e:g=f=>hk (h.symm.trans e))]
   ·have hb:(g == k)=false:=beq_eq_false_iff_ne.mpr h
    simp only [DL,hb]
    exact ih
theorem RelO.some_of {v:V}{o:Option Value}(r:RelO (some v) o):∃u,o=some u/\RelV v u:=by
 cases o with
 | none=>exact (show False from r).elim
 | some u=>exact ⟨u,rfl,r⟩
theorem RelO.none_of {o:Option Value}(r:RelO none o):o=none:=by
 cases o with
 | none=>rfl
 | some u=>exact (show False from r).elim
section
variable {P:Program}{w:Bj}{H H':Hp}{h h':Heap}{a C dx:Addr}{fs fs':List (Str×V)}
theorem wb (hok:HOk P w H h) (e:H a=some (.ins C dx fs)):∃mA,ObjM h a dx C mA/\(∀f,RelO (fs.lookup f) (mA f))/\PySem.Within mA (fs.map (·.1))/\fs.length<=1000/\H dx=some (.own a):=by
 obtain ⟨d,z,ne,ob,mA,n,r,q⟩:=(show ObjOk P w H h a (.ins C dx fs) from hok a _ e)
 exact ⟨mA,⟨ob,n,ne⟩,r,q,z,d⟩
end
structure Cls (K:AK) (C:Addr):Prop where
 pg:PySem.W.plainGet K C Str.empty=true
 hd:PySem.W.hasDictIn K C=true
 po:PySem.W.plainOver K C=true
 sa:BN K (.ref C) "__setattr__"=some (some (.builtin "object.__setattr__"))
theorem Cls.get {K:AK}{C:Addr}(c:Cls K C) (f:Str):PySem.W.plainGet K C f=true:=c.pg
section
variable {X:Cx}{pins:List (Addr×Obj)}{σ:St}{H:Hp}{s:AL}{a C dx:Addr}{fs:List (Str×V)}{f:Str}{v:V}{A:Bk}{E:Value->AL->Prop}
end
section
variable {X:Cx}{o e value:Expr}{f:Str}{pos pos' tpos:Pos}{ta tv:TE}
end
section
variable {X:Cx}{pins:List (Addr×Obj)}{σ:St}{H:Hp}{s:AL}{A:Bk}{E:Value->AL->Prop}{Q:Value->AL->Prop}{c:Value}{b:Bool}
inductive TyOf (K:AK) (H:Hp):V->Value->Prop where
 | non:TyOf K H .non (.type "NoneType")
 | bl (x:Bool):TyOf K H (.bl x) (.type "bool")
 | int (i:Int):TyOf K H (.int i) (.type "int")
 | str (x:Str):TyOf K H (.str x) (.type "str")
 | flt (x:UInt64):TyOf K H (.flt x) (.type "float")
 | lst {a:Addr}{xs:List V}(e:H a=some (.lst xs)):TyOf K H (.ref a) (.type "list")
 | frz {a:Addr}{o:Obj}{xs:List V}(e:H a=some (.frz o (.lst xs))):TyOf K H (.ref a) (.type "list")
 | tup {a:Addr}{xs:List V}(e:H a=some (.tup xs)):TyOf K H (.ref a) (.type "tuple")
 | dK {a:Addr}{kvs:List (Key×V)}(e:H a=some (.dK kvs)):TyOf K H (.ref a) (.type "dict")
 | dT {a:Addr}{kvs:List (List Key×V)}(e:H a=some (.dT kvs)):TyOf K H (.ref a) (.type "dict")
 | ins {a C dx:Addr}{fs:List (Str×V)}(e:H a=some (.ins C dx fs)) (cl:Cls K C) (ha:BN K (.ref C) "__class__"=some (some (.builtin "object.__class__")))
   (hn:PySem.W.specialIn K (.builtin "object.__class__") "__get__"=some (some (.builtin "getset_descriptor.__get__"))) (htk:PySem.W.takesIn K (.builtin "object.__class__")=some true)
   (hm:EW K C (.type "object")=some true):TyOf K H (.ref a) (.ref C)
theorem qe {x:V}{u t:Value}(I:Inv X pins σ H s) (rx:RelV x u) (ty:TyOf X.K H x t) (e:DG X.K t c=some b) (h:∀tk,Q (.bool b) { s with toks:=tk }) :
  A6 (Bf X.prog X.w) A (call (.builtin "isinstance") [u,c]) Q E s:=by
 cases ty with
 | non=>cases (show u=BY from rx); exact Cn PySem.W.kitx_none I.kIn C5 e (fun z=>nomatch z) h
 | bl y=>cases (show u=Value.bool y from rx); exact Cn PySem.W.kitx_bool I.kIn C5 e (fun z=>nomatch z) h
 | int i=>obtain ⟨t,q⟩:=(show ∃t,u=EQ i t from rx); cases q; exact Cn PySem.W.kitx_int I.kIn C5 e (fun z=>nomatch z) h
 | str y=>obtain ⟨t,q⟩:=(show ∃t,u=Value.str y t from rx); cases q; exact Cn PySem.W.kitx_str I.kIn C5 e (fun z=>nomatch z) h
 | flt y=>obtain ⟨t,q⟩:=(show ∃t,u=Value.float y t from rx); cases q; exact Cn PySem.W.kitx_float I.kIn C5 e (fun z=>nomatch z) h
 | @lst a xs ea =>
  cases (show u=Bc a from rx)
  obtain ⟨_,_,n,_,h1⟩:=(show ObjOk X.prog X.w H s.heap a (.lst xs) from I.hok a _ ea)
  exact Cn PySem.W.kitx_list I.kIn ⟨_,h1,rfl⟩ e (fun z=>nomatch z) h
 | @frz a ob xs ea =>
  cases (show u=Bc a from rx)
  obtain ⟨_,_,_,n,_,h1⟩:=(show ObjOk X.prog X.w H s.heap a (.frz ob (.lst xs)) from I.hok a _ ea)
  exact Cn PySem.W.kitx_list I.kIn ⟨_,h1,rfl⟩ e (fun z=>nomatch z) h
 | @tup a xs ea =>
  cases (show u=Bc a from rx)
  obtain ⟨_,_,_,p⟩:=(show ObjOk X.prog X.w H s.heap a (.tup xs) from I.hok a _ ea)
  obtain ⟨o,h1,h2,_⟩:=p
  exact Cn PySem.W.kitx_tuple I.kIn ⟨o,h1,h2⟩ e (fun z=>nomatch z) h
 | @dK a kvs ea =>
  cases (show u=Bc a from rx)
  obtain ⟨_,_,vs,_,p⟩:=(show ObjOk X.prog X.w H s.heap a (.dK kvs) from I.hok a _ ea)
  obtain ⟨o,es,ep,h1,h2,_⟩:=p
  exact Cn PySem.W.kitx_dict I.kIn ⟨o,h1,h2.1⟩ e (fun z=>nomatch z) h
 | @dT a kvs ea =>
  cases (show u=Bc a from rx)
  obtain ⟨_,_,xs,_,o,es,ep,h1,h2,_⟩:=(show ObjOk X.prog X.w H s.heap a (.dT kvs) from I.hok a _ ea)
  exact Cn PySem.W.kitx_dict I.kIn ⟨o,h1,h2.1⟩ e (fun z=>nomatch z) h
 | @ins a C dx fs ea cl ha hn htk hm =>
  cases (show u=Bc a from rx)
  obtain ⟨mA,O,_⟩:=wb I.hok ea
  obtain ⟨od,J,_⟩:=O.look
  exact Cn (PySem.W.kitx_own (cl.get _) cl.hd ha hn htk hm) I.kIn J e (fun z=>nomatch z) h
end
structure Room (k:Nat) (A:Bk):Prop where
 hd:A.handled=none
 dp:A.depth+3*k+5<recursionLimit
 un:A.units+16*k+200<cLine
theorem Room.mono {j k:Nat}{A:Bk}(r:Room k A) (h:j<=k):Room j A:=⟨r.hd,by have:=r.dp; omega,by have:=r.un; omega⟩
theorem Room.deeper {k:Nat}{A:Bk}(r:Room (k+1) A) (env:Env):Room k (A.deeper env) :=
 ⟨r.hd,by have:=r.dp; show A.depth+1+3*k+5<_; omega,by have:=r.un; show A.units+3+16*k+200<_; omega⟩
theorem Room.in1 {k:Nat}{A:Bk}(r:Room (k+1) A):Room k A.in1 :=
 ⟨r.hd,by have:=r.dp; show A.depth+3*k+5<_; omega,by have:=r.un; show A.units+1+16*k+200<_; omega⟩
theorem mj {A:Bk}{C:Addr}{us:List Value}{kw:List (Str×Value)}:(A.under (.builtin "type.__call__" ⟨.ref C :: us,kw⟩)).depth=A.depth+1:=by
 first | rfl | simp [Bk.under,Code.weight,Code.isCreation,Code.isGuard,Code.isCaller,Code.frames,Code.isFrame,guardIds]
theorem mi {A:Bk}{C:Addr}{us:List Value}{kw:List (Str×Value)}:(A.under (.builtin "type.__call__" ⟨.ref C :: us,kw⟩)).units=A.units+1:=by
 first | rfl | simp [Bk.under,Code.cUnits,Code.frames,Code.isFrame]
theorem Room.make {k:Nat}{A:Bk}(r:Room (k+1) A) (C:Addr) (us:List Value) (kw:List (Str×Value)):Room k (A.under (.builtin "type.__call__" ⟨.ref C :: us,kw⟩)) :=
 ⟨r.hd,by have:=r.dp; rw [mj]; omega,by have:=r.un; rw [mi]; omega⟩
theorem Room.depth {k:Nat}{A:Bk}(r:Room k A):A.depth<recursionLimit:=by have:=r.dp; omega
theorem Room.units {k:Nat}{A:Bk}(r:Room k A):A.units+64<cLine:=by have:=r.un; omega
def gB:TA:=fun _ H Q=>Q [] H
def bZ (ta:TE) (tr:TA):TA:=fun σ H Q=>ta σ H fun x H1=>tr σ H1 fun xs H2=>Q (x :: xs) H2
section
variable {X:Cx}{e:Expr}{es:List Expr}{te:TE}{t:TA}{pos:Pos}
theorem cz:PA X [] gB:=fun _ _ _ _ H Q I h=>Ds ⟨[],H,I,.nil,h⟩
theorem vH (ha:PE X e te) (hr:PA X es t) (hs:Bz (e :: es) X.env=(false,eval e X.env) :: Bz es X.env:=by rfl):PA X (e :: es) (bZ te t):=by
 intro pos pins s σ H Q I h
 rw [hs]
 show A6 _ _ (spliced ((false,eval e X.env) :: Dx pos (Bz es X.env))) _ _ s
 refine CI (thn (ha pins s σ H _ I h) fun u s1 ⟨x,H1,I1,r1,q1⟩=>?_)
 exact thn (hr pos pins s1 σ H1 _ I1 q1) fun us s2 ⟨xs,H2,I2,r2,q2⟩=>⟨x :: xs,H2,I2,.cons r1 r2,q2⟩
def zn (t:TA):TE:=fun σ H Q=>t σ H fun xs H1=>xs.length<=sizeLine/\∀p,H1 p=none->Q (.ref p) (upd H1 p (.tup xs))
def zt (t:TA):TE:=fun σ H Q=>t σ H fun xs H1=>xs.length<=sizeLine/\∀p,H1 p=none->Q (.ref p) (upd H1 p (.lst xs))
theorem yi {x1} (h:PA X es t):PE X (.Tuple es x1 pos) (zn t):=by
 intro pins s σ H Q I hq
 refine wpAny_Tuple_spliced (thn (h pos pins s σ H _ I hq) fun us s1 ⟨xs,H1,I1,r,z,q⟩=>⟨by rw [<- r.length]; exact z,?_⟩)
 have hf:H1 s1.heap.objs.size=none:=I1.hok.fresh (AM _)
 refine ⟨.ref s1.heap.objs.size,upd H1 s1.heap.objs.size (.tup xs),I1.laid (t':=s1.toks) (fun b u e=>AJ _ e) (AM _) ?_,rfl,q _ hf⟩
 exact ⟨z,us,r,⟨_,A5 _ rfl,rfl,_,rfl⟩⟩
theorem yo (h:PA X es t):PE X (.List es pos) (zt t):=by
 intro pins s σ H Q I hq
 refine wpAny_List_spliced (thn (h pos pins s σ H _ I hq) fun us s1 ⟨xs,H1,I1,r,z,q⟩=>⟨by rw [<- r.length]; exact z,?_⟩)
 have hf:H1 s1.heap.objs.size=none:=I1.hok.fresh (AM _)
 refine ⟨.ref s1.heap.objs.size,upd H1 s1.heap.objs.size (.lst xs),I1.laid (t':=s1.toks) (fun b u e=>AJ _ e) (AM _) ?_,rfl,q _ hf⟩
 exact ⟨z,us,0,r,A5 _ rfl⟩
end
abbrev Sp:=List V->Hp->VK->XK->Prop
abbrev CXT:=List Env->Hp->AL->XK->Value->AL->Prop
structure Env0 (P:Program) (w:Bj) (K:AK) (mg:Str->Option Value) (base:Heap) (A:Bk) (outer:List Env) (s:AL) (H:Hp):Prop where
 frames:A.frames=some outer
 mod:Mod K mg base
 bs:∀b o,base.get? b=some o->s.heap.get? b=some o/\H b=none
 bsz:base.objs.size<=s.heap.objs.size
 funs:s.heap.FunFrames base outer
 frf:∀b∈frs outer,H b=none
 hok:HOk P w H s.heap
 bare:Eh s.gens
def CE (outer:List Env) (P:Program) (w:Bj) (H:Hp) (s:AL) (Q:VK) (u:Value) (s':AL):Prop :=
 ∃v H',s'.os=s.os/\Eh s'.gens/\Un (frs outer) [] H H' s.heap s'.heap/\HOk P w H' s'.heap/\RelV v u/\Q v H'
def CR (CX:CXT) (outer:List Env) (P:Program) (w:Bj) (H:Hp) (s:AL) (Q:VK) (E:XK) (r:Result) (s':AL):Prop :=
 match r with
 | .ok (.ret u)=>CE outer P w H s Q u s'
 | .ok _=>False
 | .error e=>CX outer H s E e s'
structure aJ (P:Program) (w:Bj) (K:AK) (mg:Str->Option Value) (base:Heap) (CX:CXT) (k:Nat) (f:Addr) (fd:Bg) (ps:List Str) (sp:Sp):Prop where
 len:∀vs H Q E,sp vs H Q E->vs.length=ps.length
 run:∀(A:Bk) (outer:List Env) (s:AL) (H:Hp) (args:Args) (us:List Value) (vs:List V) (Q:VK) (E:XK),Room k A->Env0 P w K mg base A outer s H->BindsTo s fd args (ps.zip us)->Vals vs us->sp vs H Q E ->
  EX (Bf P w) A (.call (.ref f) args) (CR CX outer P w H s Q E) s
theorem Env0.make {P:Program}{w:Bj}{K:AK}{mg:Str->Option Value}{base:Heap}{A:Bk}{outer:List Env}{s:AL}{H:Hp}(e:Env0 P w K mg base A outer s H) (C:Addr) (us:List Value) (kw:List (Str×Value)) :
  Env0 P w K mg base (A.under (.builtin "type.__call__" ⟨.ref C :: us,kw⟩)) outer s H:=⟨by first | exact e.frames | (simpa [Bk.under,Code.envs,Code.isFrame,pushEnvs] using e.frames),e.mod,e.bs,e.bsz,e.funs,e.frf,e.hok,e.bare⟩
section
variable {X:Cx}{pins:List (Addr×Obj)}{σ:St}{H:Hp}{s s':AL}
theorem Inv.env0 (I:Inv X pins σ H s):Env0 X.prog X.w X.K X.mg X.base X.A X.stack s H :=
 ⟨I.ok.frames,I.ok.mod,I.bs,Bm I.ok.bsz I.sz,I.stack,I.stkFree,I.hok,I.bare⟩
theorem Inv.after {Q:VK}{u:Value}(I:Inv X pins σ H s) (h:CE X.stack X.prog X.w H s Q u s'):EP X pins σ Q u s':=by
 obtain ⟨v,H',os,bare,un,hok,r,q⟩:=h
 obtain ⟨hh,g,d,t,os'⟩:=s'
 obtain rfl:os'=s.os:=os
 exact ⟨v,H',I.call (h':=hh) (g':=g) (d':=d) (t':=t) (ch:=[]) un hok bare (fun b z=>absurd z (by simp)),r,q⟩
end
def mX (sp:Sp) (dvs:List V) (E:XK) (t:TA):TE:=fun σ H Q=>t σ H fun vs H1=>sp (vs++dvs) H1 Q E
def Binds (K:AK) (fd:Bg) (ps:List Str) (ds:List Value):Prop :=
 ∀(s:AL) (us:List Value),K.In s.heap->(us++ds).length=ps.length->BindsTo s fd ⟨us,[]⟩ (ps.zip (us++ds))
theorem Binds.all {K:AK}{fd:Bg}{ps:List Str}(h:∀us:List Value,us.length=ps.length->Fh fd ⟨us,[]⟩=pure (ps.zip us)):Binds K fd ps []:=fun s us _ hl=>by
 rw [BK] at hl ⊢
 exact .of_eq (h us hl)
def d8 (CX:CXT) (X:Cx) (E:XK):Prop:=∀(pins:List (Addr×Obj)) (σ:St) (H:Hp) (s:AL) (e:Value) (s':AL),Inv X pins σ H s->CX X.stack H s E e s'->X.xe e s'
section
variable {X:Cx}{CX:CXT}{k:Nat}{f C:Addr}{fd:Bg}{ps:List Str}{sp:Sp}{dvs:List V}{ds:List Value}{E:XK}{x m:Str}{p pos apos:Pos}{e o:Expr}{es:List Expr}{ta:TE}{t:TA}
theorem xS {pins:List (Addr×Obj)}{σ:St}{H:Hp}{s:AL}{Q:VK}{us:List Value}{vs:List V}(F:aJ X.prog X.w X.K X.mg X.base CX k f fd ps sp) (hr:Room k X.A) (hb:Binds X.K fd ps ds) (hd:Vals dvs ds) (hx:d8 CX X E)
  (I:Inv X pins σ H s) (r:Vals vs us) (h:sp (vs++dvs) H Q E):A6 (Bf X.prog X.w) X.A (call (.ref f) us) (EP X pins σ Q) X.xe s:=by
 have r2:Vals (vs++dvs) (us++ds):=r.append hd
 have hl:(us++ds).length=ps.length:=by rw [<- r2.length]; exact F.len _ _ _ _ h
 refine wpAny_call (codeAny_mono (F.run X.A X.stack s H ⟨us,[]⟩ (us++ds) (vs++dvs) Q E hr I.env0 (hb s us I.kIn hl) r2 h) fun r s' hq=>?_)
 cases r with
 | error e=>exact hx pins σ H s e s' I hq
 | ok fl =>
  cases fl with
  | ret u=>exact I.after hq
  | next=>exact BB hq
  | brk=>exact BB hq
  | cont=>exact BB hq
theorem vF (F:aJ X.prog X.w X.K X.mg X.base CX k f fd ps sp) (hr:Room k X.A) (hg:Gl X x) (hm:X.mg x=some (.ref f)) (hk:DH X.K (.ref f)=true) (hb:Binds X.K fd ps ds) (hd:Vals dvs ds) (hx:d8 CX X E)
  (ha:PA X (e :: es) t) (hdb:(x == ("__debug__":Str))=false:=by decide) (he:Bz (e :: es) X.env=(false,eval e X.env) :: Bz es X.env:=by rfl) (hpl:(Dx pos (Bz es X.env)).any (·.1)=false:=by rfl) :
  PE X (.Call (.Name x p) (e :: es) [] pos) (mX sp dvs E t):=by
 intro pins s σ H Q I h
 refine En (gM I hg hm ?_ hdb)
 refine PySem.W.callWith_K (h₀:=X.base) I.ok.mod.kin hk (thn (ha pos pins s σ H _ I h) fun us s1 ⟨vs,H1,I1,r,q⟩=>⟨I1.kIn,?_⟩) he hpl
 exact xS F hr hb hd hx I1 r q
end
section
variable {X:Cx}{CX:CXT}{k:Nat}{f C:Addr}{fd:Bg}{ps ks:List Str}{sp:Sp}{E:XK}{x m:Str}{p pos apos kpos:Pos}{e o:Expr}{es:List Expr}{kws:List Keyword}{te ta:TE}{t tk:TA}{nm:Option Str}
variable {g:List Value->List Value->List Value}{gV:List V->List V->List V}
end
structure aq (N P:List Str) (sc:Scope):Prop where
 kind:sc.kind=.function
 co:sc.isCoroutine=false
 gen:sc.isGenerator=false
 nd:N.Nodup
 pre:N.take P.length=P
 par:∀x∈P,sc.names.lookup x=some .local\/sc.names.lookup x=some .cell
 nofree:∀y∈sc.names,y.2≠.free
theorem jx {kindOf:Str->Option D4}{x:Str}:∀{binds:List (Str×Value)}{m:Str->Option Value},(∀v,(x,v) ∉ binds)->bindL kindOf binds m x=m x
 | [],_,_=>rfl
 | (n,v) :: r,m,h=>by
  unfold bindL
  rw [jx fun w hw=>h w (AO _ hw)]
  split
  ·have:x≠n:=by rintro rfl; exact h v AQ
   simp [this]
  ·rfl
theorem jz {kindOf:Str->Option D4}{x:Str}:∀{binds:List (Str×Value)}{m:Str->Option Value},(∀v,(x,v) ∉ binds)->bindC kindOf binds m x=m x
 | [],_,_=>rfl
 | (n,v) :: r,m,h=>by
  unfold bindC
  rw [jz fun w hw=>h w (AO _ hw)]
  split
  ·rfl
  ·have:x≠n:=by rintro rfl; exact h v AQ
   simp [this]
theorem jy {kindOf:Str->Option D4}{x:Str}{v:Value}:∀{P:List Str}{vs:List Value}{i:Nat}{m:Str->Option Value},P.Nodup->P[i]?=some x->vs[i]?=some v->kindOf x=some .local ->
  bindL kindOf (P.zip vs) m x=some v
 | [],_,_,_,_,h,_,_=>by simp at h
 | _ :: _,[],_,_,_,_,h,_=>by simp at h
 | p :: P,w :: vs,0,m,nd,h1,h2,hk=>by
  simp at h1 h2; subst h1; subst h2
  show bindL kindOf ((p,w) :: P.zip vs) m p=_
  unfold bindL
  rw [jx fun v hv=>(CH.mp nd).1 (List.of_mem_zip hv).1,if_pos hk]
  simp
 | p :: P,w :: vs,i+1,m,nd,h1,h2,hk=>by
  show bindL kindOf ((p,w) :: P.zip vs) m x=_
  unfold bindL
  exact jy (i:=i) (CH.mp nd).2 (by simpa using h1) (by simpa using h2) hk
theorem jA {kindOf:Str->Option D4}{x:Str}{v:Value}:∀{P:List Str}{vs:List Value}{i:Nat}{m:Str->Option Value},P.Nodup->P[i]?=some x->vs[i]?=some v->kindOf x≠some .local ->
  bindC kindOf (P.zip vs) m x=some v
 | [],_,_,_,_,h,_,_=>by simp at h
 | _ :: _,[],_,_,_,_,h,_=>by simp at h
 | p :: P,w :: vs,0,m,nd,h1,h2,hk=>by
  simp at h1 h2; subst h1; subst h2
  show bindC kindOf ((p,w) :: P.zip vs) m p=_
  unfold bindC
  rw [jz fun v hv=>(CH.mp nd).1 (List.of_mem_zip hv).1,if_neg hk]
  simp
 | p :: P,w :: vs,i+1,m,nd,h1,h2,hk=>by
  show bindC kindOf ((p,w) :: P.zip vs) m x=_
  unfold bindC
  exact jA (i:=i) (CH.mp nd).2 (by simpa using h1) (by simpa using h2) hk
def start (N:List Str) (vs:List V):St:=vs.map some++Bs (N.length-vs.length) none
def be (CX:CXT) (P:Program) (w:Bj) (K:AK) (mg:Str->Option Value) (base:Heap) (N:List Str) (qual:Str) (scope:Scope) (f:Addr) (cd:Value) (A:Bk) (outer:List Env) (s:AL) (H:Hp) (E:XK):Cx where
 prog:=P
 w:=w
 K:=K
 mg:=mg
 base:=base
 A:=A.deeper (CJ qual scope s.heap.objs.size f cd)
 N:=N
 s₀:=s
 H₀:=H
 env:=CJ qual scope s.heap.objs.size f cd
 outer:=outer
 stack:=CJ qual scope s.heap.objs.size f cd :: outer
 ex:=[]
 calm:=true
 fn:=fun _=>true
 pn:=[]
 xe:=fun e s'=>A6 (Bf P w) (A.deeper (CJ qual scope s.heap.objs.size f cd)) (leaving (CJ qual scope s.heap.objs.size f cd) e) (fun _ s''=>CX outer H s E e s'') (fun e' s''=>CX outer H s E e' s'') s'
theorem lG {sc:Scope}{n:Nat}{x:Str}(h:sc.names.lookup x=some .cell):∃c,(cellsFrom n sc.names []).lookup x=some c:=by
 have q:=PySem.W.cellsFrom_some sc.names n [] (.inl h)
 exact CA.mp q
theorem qf {CX:CXT}{P:Program}{w:Bj}{K:AK}{mg:Str->Option Value}{base:Heap}{N ps:List Str}{qual:Str}{scope:Scope}{f:Addr}{cd:Value}{A:Bk}{outer:List Env}{s s1:AL}{H:Hp}{E:XK}{us:List Value}{vs:List V}
  (S:aq N ps scope) (hd:A.handled=none) (e0:Env0 P w K mg base A outer s H) (hl:vs.length=ps.length) (r:Vals vs us)
  (x:InCallC s s.heap.objs.size (bindL (CJ qual scope s.heap.objs.size f cd).kindOf (ps.zip us) fun _=>none) (cellsFrom (s.heap.objs.size+1) scope.names []) (bindC (CJ qual scope s.heap.objs.size f cd).kindOf (ps.zip us) fun _=>none) s1) :
  Inv (be CX P w K mg base N qual scope f cd A outer s H E) [] (start N vs) H s1:=by
 have hpl:ps.length<=N.length:=by have:=congrArg C1 S.pre; rw [BA] at this; omega
 obtain ⟨h1,tk,rfl,hk⟩:=x.done
 have noA:∀b:Addr,b ∉ (be CX P w K mg base N qual scope f cd A outer s H E).ex:=fun b z=>absurd (show b∈([]:List Addr) from z) (by simp)
 refine ⟨⟨e0.mod,S.kind,rfl,rfl,AM _,fun y z c h1 h2=>?_,fun y hy=>?_,fun y c _ h=>?_,fun _=>hd,Bk.frames_deeper e0.frames,.inr ⟨rfl,rfl⟩,fun b z=>absurd z (noA b),e0.bs,e0.bsz,fun b _ _=>noA b,fun b z=>absurd z (noA b),e0.funs,e0.frf⟩,
  rfl,e0.bare,Un.kept hk,⟨_,x.toInCall.ns,fun i y v h1 h2 h3=>?_⟩,fun y c h=>⟨_,x.cell y c h⟩,e0.hok.fresh (AM _),fun y c h=>?_,fun p hp=>absurd (show p∈([]:List (Addr×Obj)) from hp) (by simp),e0.hok.kept hk,?_⟩
 ·exact name_of_addr x.apart (BO h1) (BO h2)
 ·have hy:scope.names.lookup y=some .cell\/scope.names.lookup y=some .free:=hy
  rcases hy with hy | hy
  ·exact lG hy
  ·exact absurd rfl (S.nofree _ (BO hy))
 ·exact Ez (x.above y c (BO h))
 ·have hi:i<vs.length:=by
   unfold start at h2
   by_cases hi:i<vs.length
   ·exact hi
   ·rw [BR (by simpa using hi)] at h2
    rw [List.getElem?_replicate] at h2
    split at h2 <;> cases h2
  have ha:vs[i]?=some v:=by
   unfold start at h2
   rw [Ca (by simpa using hi),AR] at h2
   cases e:vs[i]? with
   | none=>rw [e] at h2; cases h2
   | some a=>rw [e] at h2; cases h2; rfl
  obtain ⟨u,hu,rv⟩:=r.get ha
  have hp:ps[i]?=some y:=by
   rw [<- S.pre,List.getElem?_take_of_lt (by omega)]; exact h1
  have ndP:ps.Nodup:=by rw [<- S.pre]; exact S.nd.sublist (List.take_sublist _ _)
  refine ⟨u,rv,?_⟩
  rcases S.par y (Bh hp) with k | k
  ·exact .inl ⟨k,jy ndP hp hu k⟩
  ·obtain ⟨c,e⟩:=lG (n:=s.heap.objs.size+1) k
   refine .inr ⟨.inl k,c,e,?_⟩
   have q:=x.cell y c e
   rw [jA ndP hp hu (by show scope.names.lookup y≠_; rw [k]; decide)] at q
   exact q
 ·exact e0.hok.fresh (Ez (x.above y c (BO h)))
 ·unfold start
  show _=N.length
  rw [AW,AH,List.length_replicate]
  omega
/-- THE RULE: a def (or a method) of the text,by its body. The body's reading t is chosen for each entry; it is run at the parameters' values -/
theorem uc {CX:CXT}{P:Program}{w:Bj}{K:AK}{mg:Str->Option Value}{base:Heap}{k:Nat}{f:Addr}{name qual:Str}{params:Arguments}{body:List Stmt}{scope:Scope}{dV kV doc pm cdv ct oc:Value}{an od:Option Addr}
  {osl:Array (Option Value)}{N ps:List Str}{sp:Sp}(lk:K.lookup f=some ⟨oc,od,.func (CW name qual params body scope dV kV doc pm an cdv ct),osl⟩) (hcd:D5 K cdv qual=true) (S:aq N ps scope)
  (len:∀vs H Q E,sp vs H Q E->vs.length=ps.length)
  (hbody:∀(A:Bk) (outer:List Env) (s:AL) (H:Hp) (vs:List V) (Q:VK) (E:XK),Room k (A.deeper (CJ qual scope s.heap.objs.size f cdv))->sp vs H Q E ->
   ∃t,PSs (be CX P w K mg base N qual scope f cdv A outer s H E) body t/\t { nx:=fun _ H'=>Q .non H',rt:=Q } (start N vs) H) :
  aJ P w K mg base CX (k+1) f (CW name qual params body scope dV kV doc pm an cdv ct) ps sp:=by
 refine ⟨len,fun A outer s H args us vs Q E hr e0 hb r hsp=>?_⟩
 have hl:=len _ _ _ _ hsp
 have KX:K.In s.heap:=e0.mod.kin.keeps fun b o e=>(e0.bs b o e).1
 have lim:s.heap.NoLimit:=e0.mod.nolimit.keeps fun b o e=>(e0.bs b o e).1
 have hkind:∀y∈ps.zip us,scope.names.lookup y.1=some .local\/(scope.names.lookup y.1=some .cell/\((cellsFrom (s.heap.objs.size+1) scope.names []).lookup y.1).isSome=true):=fun ⟨n,v⟩ hy=>by
  rcases S.par n (List.of_mem_zip hy).1 with q | q
  ·exact .inl q
  ·exact .inr ⟨q,PySem.W.cellsFrom_some _ _ _ (.inl q)⟩
 refine codeAny_call_function hr.depth (KX _ _ lk) rfl S.co S.gen rfl (PySem.W.codeRec_of KX hcd) (hb _ _ _ _ ?_)
 refine wpAny_newFunctionEnv_cells S.kind hkind fun env he s1 x=>?_
 subst he
 refine ⟨lim.keeps x.toInCall.keep,codeAny_func ?_⟩
 obtain ⟨t,ht,hq⟩:=hbody A outer s H vs Q E (hr.deeper _) hsp
 have I:Inv (be CX P w K mg base N qual scope f cdv A outer s H E) [] (start N vs) H s1:=qf S hr.hd e0 hl r x
 refine Bw (ht [] s1 (start N vs) H _ I hq) (fun fl s' hs=>?_) fun e s' hs=>hs
 have fin:∀{σ':St}{H':Hp}{v:V}{u:Value},Inv (be CX P w K mg base N qual scope f cdv A outer s H E) [] σ' H' s'->RelV v u->Q v H'->CE outer P w H s Q u s' :=
  fun {σ' H' v u} J rv q=>⟨v,H',J.os,J.bare,J.base,J.hok,rv,q⟩
 cases fl with
 | ret u =>
  obtain ⟨v,σ',H',J,rv,q⟩:=hs
  exact fin J rv q
 | next =>
  obtain ⟨σ',H',J,q⟩:=hs
  exact fin (v:=V.non) (u:=BY) J rfl q
 | brk =>
  obtain ⟨_,_,_,q⟩:=hs
  exact BB q
 | cont =>
  obtain ⟨_,_,_,q⟩:=hs
  exact BB q
section
variable {X:Cx}{x:Str}{p pos:Pos}{e:Expr}{es:List Expr}{t:TA}{id T:String}{r:List V->Hp->VK->Prop}
def tCB (r:List V->Hp->VK->Prop) (t:TA):TE:=fun σ H Q=>t σ H fun vs H1=>r vs H1 Q
theorem sq (hc:bV X (.builtin id) r) (hg:Gl X x) (hm:X.mg x=none) (hv:B2 x=some (.builtin id)) (ha:PA X (e :: es) t) (hn:x≠"__name__":=by decide) (hdb:(x == ("__debug__":Str))=false:=by decide)
  (he:Bz (e :: es) X.env=(false,eval e X.env) :: Bz es X.env:=by rfl) (hpl:(Dx pos (Bz es X.env)).any (·.1)=false:=by rfl):PE X (.Call (.Name x p) (e :: es) [] pos) (tCB r t):=by
 intro pins s σ H Q I h
 refine En (bG I hg hm hv ?_ hn hdb)
 exact PyProof.Rows.callWith_builtin1 (thn (ha pos pins s σ H _ I h) fun us s1 ⟨vs,H1,I1,r1,q1⟩=>hc pins s1 σ H1 vs us Q I1 r1 q1) he hpl
theorem pR (hc:bV X (.type T) r) (hg:Gl X x) (hm:X.mg x=none) (hv:B2 x=some (.type T)) (ha:PA X (e :: es) t) (hn:x≠"__name__":=by decide) (hdb:(x == ("__debug__":Str))=false:=by decide)
  (he:Bz (e :: es) X.env=(false,eval e X.env) :: Bz es X.env:=by rfl) (hpl:(Dx pos (Bz es X.env)).any (·.1)=false:=by rfl):PE X (.Call (.Name x p) (e :: es) [] pos) (tCB r t):=by
 intro pins s σ H Q I h
 refine En (bG I hg hm hv ?_ hn hdb)
 exact BC (thn (ha pos pins s σ H _ I h) fun us s1 ⟨vs,H1,I1,r1,q1⟩=>hc pins s1 σ H1 vs us Q I1 r1 q1) he hpl
end
end L2
namespace HT
open PySem PyProof.Rows
section
open PySem.SeqAt
open PySem.AutoSeq1 (wpAny_loadPart')
open PySem.MeetsSeq PySem.MeetsSeq2 PySem.MeetsSeq3
end
section
variable {prog:Program}{w:Bj}{A:Bk}{E:Value->AL->Prop}{s:AL}
theorem cat_tup {t b:Addr}{vs ws:List Value}{Q:Value->AL->Prop}(ht:Fe s.heap t vs.toArray) (hb:Fe s.heap b ws.toArray) (hv:vs≠[])
  (h1:ws=[]->Q (.ref t) s) (h2:ws≠[]->Q (.ref s.heap.objs.size) { s with heap:=s.heap.push { cls:=.type "tuple",data:=.seq (vs++ws).toArray } })
  (hsz:vs.length+ws.length<=sizeLine):A6 (Bf prog w) A (DU .Add (.ref t) (.ref b)) Q E s:=by
 obtain ⟨⟨cls,dd,data,sl⟩,ho,hc,n,hd⟩:=id ht
 obtain ⟨⟨cls2,dd2,data2,sl2⟩,ho2,hc2,n2,hd2⟩:=id hb
 simp only at hc hd hc2 hd2
 subst hc hd hc2 hd2
 have e:vs.toArray++ws.toArray=(vs++ws).toArray:=by simp
 by_cases hw:ws=[]
 ·exact concat_meets ⟨_,ho,rfl⟩ ⟨_,ho2,rfl⟩ noFill_tuple_add seq_tuple_add EB Eu (Ee _ _)
   (tuple_addW1 t b vs.toArray ws.toArray n n2 dd dd2 sl sl2 (by simpa using hv) (by simp [hw])) ⟨ho,ho2,h1 hw⟩
 ·refine concat_meets ⟨_,ho,rfl⟩ ⟨_,ho2,rfl⟩ noFill_tuple_add seq_tuple_add EB Eu (Ee _ _)
   (tuple_addW2 t b vs.toArray ws.toArray n n2 dd dd2 sl sl2 (by simpa using hv) (by simpa using hw) (by rw [AU,AU]; exact hsz)) ⟨ho,ho2,?_⟩
  rw [e]
  exact h2 hw
def sIx (n d:Nat):Option Int->Nat
 | none=>d
 | some v=>if v<0 then (v+(n:Int)).toNat else min v.toNat n
theorem sIx_none (n d:Nat):sIx n d none=d:=rfl
theorem sIx_nat (n d k:Nat):sIx n d (some (k:Int))=min k n:=by
 show (if (k:Int)<0 then ((k:Int)+(n:Int)).toNat else min (k:Int).toNat n)=min k n
 rw [if_neg (by omega),EC]
theorem xQ (n d:Nat) (hd:d<=n) (o:Option Int):sIx n d o<=n:=by
 cases o with
 | none=>exact hd
 | some v =>
  show (if v<0 then (v+(n:Int)).toNat else min v.toNat n)<=n
  by_cases hv:v<0
  ·rw [if_pos hv]; omega
  ·rw [if_neg hv]; exact Dh _ _
theorem oS (v:Int) (n d:Nat):(if v<0 then max (v+(n:Int)) 0 else min v (n:Int))=((sIx n d (some v):Nat):Int):=by
 show (if v<0 then max (v+(n:Int)) 0 else min v (n:Int))=(((if v<0 then (v+(n:Int)).toNat else min v.toNat n):Nat):Int)
 by_cases hv:v<0
 ·simp only [if_pos hv]; omega
 ·simp only [if_neg hv]; omega
theorem mQ (lo hi:Option Int) (n:Nat):Cu lo hi 1 (n:Int)=(((sIx n 0 lo:Nat):Int),((sIx n n hi:Nat):Int)):=by
 have h1:¬ ((1:Int)<0):=by omega
 unfold Cu
 simp only [h1,if_false]
 refine Prod.ext ?_ ?_
 ·cases lo with
  | none=>rfl
  | some v=>exact oS v n 0
 ·cases hi with
  | none=>rfl
  | some v=>exact oS v n n
theorem lY (i j:Nat):BW (i:Int) (j:Int) 1=j-i:=by
 unfold BW
 have h1:(1:Int) > 0:=by omega
 simp only [h1,if_true,Int.ediv_one]
 split <;> omega
theorem slicePart_ {v:Value}{o:Option Int}{Q:Option Int->AL->Prop}(p:Fi v o) (h:Q o s):A6 (Bf prog w) A (Builtin.Slice.slicePartIndex v) Q E s:=by
 cases p with
 | none=>exact slicePart_none h
 | int i t=>exact slicePart_int h
theorem sliceApplied_gen {sl:Addr}{vl vu:Value}{lo hi:Option Int}{n:Nat}{Q:Int×Int×Nat->AL->Prop}(hs:s.heap.IsSliceOf sl vl vu .none) (pl:Fi vl lo) (pu:Fi vu hi)
  (h:Q (((sIx n 0 lo:Nat):Int),1,sIx n n hi-sIx n 0 lo) s):A6 (Bf prog w) A (Dj (.ref sl) (pure (n:Int))) Q E s:=by
 obtain ⟨os,hos,hcs,hds⟩:=id hs
 unfold Dj Builtin.Slice.sliceFields
 refine AI (AI (B0 hos hds (x:=vl) rfl (AI (B0 hos hds (x:=vu) rfl (AI (B0 hos hds (x:=.none) rfl (AV ?_)))))))
 refine AI (slicePart_none ?_)
 show A6 _ _ (if ((1:Int) == 0)=true then _ else _) _ _ s
 rw [if_neg (by decide)]
 refine AI (slicePart_ pl (AI (slicePart_ pu (AI (AV ?_)))))
 show A6 _ _ (match Cu lo hi 1 (n:Int) with | (lo,hi)=>pure (lo,(1:Int),BW lo hi 1)) _ _ s
 rw [mQ lo hi n]
 show A6 _ _ (pure (((sIx n 0 lo:Nat):Int),(1:Int),BW ((sIx n 0 lo:Nat):Int) ((sIx n n hi:Nat):Int) 1)) _ _ s
 rw [lY]
 exact AV h
theorem rO (xs:Array Value) (i k:Nat):((BP k).filterMap fun (m:Nat)=>xs[((i:Int)+(m:Int)*1).toNat]?).toArray=((xs.toList.drop i).take k).toArray:=by
 have e:(fun (m:Nat)=>xs[((i:Int)+(m:Int)*1).toNat]?)=fun m=>xs[i+m]?:=by
  funext m
  have:((i:Int)+(m:Int)*1).toNat=i+m:=by omega
  rw [this]
 rw [e]
 have:=pick_run xs i k
 rw [List.filterMap_map] at this
 have e2:((fun x=>xs[x]?) ∘ fun x=>i+x)=fun m=>xs[i+m]?:=rfl
 rw [e2] at this
 rw [this]
theorem getItem_tuple_cut {t sl:Addr}{items:Array Value}{vl vu:Value}{lo hi:Option Int}{Q:Value->AL->Prop}(ht:Fe s.heap t items) (hs:s.heap.IsSliceOf sl vl vu .none) (pl:Fi vl lo) (pu:Fi vu hi)
  (hw:¬ (sIx items.size 0 lo=0/\sIx items.size items.size hi=items.size))
  (h:Q (.ref s.heap.objs.size) { s with heap:=s.heap.push { cls:=.type "tuple",data:=.seq ((items.toList.drop (sIx items.size 0 lo)).take (sIx items.size items.size hi-sIx items.size 0 lo)).toArray } })
  (hsz:items.size<=sizeLine):A6 (Bf prog w) A (ED (.ref t) (.ref sl)) Q E s:=by
 have htake:sizeOk (.seq ((items.toList.drop (sIx items.size 0 lo)).take (sIx items.size items.size hi-sIx items.size 0 lo)).toArray):=by
  show ((items.toList.drop (sIx items.size 0 lo)).take (sIx items.size items.size hi-sIx items.size 0 lo)).toArray.size<=sizeLine
  rw [AU,BA,Cq,B3]
  omega
 have hj:sIx items.size items.size hi<=items.size:=xQ _ _ (AM _) hi
 obtain ⟨os,hos,hcs,hds⟩:=id hs
 have hTs:s.TypeIs (.ref sl) "slice":=⟨os,hos,hcs⟩
 unfold ED
 try with_reducible refine Cd ?_
 first | refine AI (AV ?_) | skip
 refine AI (wpAny_sequenceKey ht.typeIs (by decide) ?_)
 refine AI (Ci (name:=Dt "__getitem__") ht.typeIs BI
  (CQ BI ht.typeIs entry_tuple_getitem ?_ (args_tuple_getitem _ _)))
 show A6 _ _ (D6 (.ref t) >>= _) _ _ s
 refine AI (tupleItemsOf_ ht ?_)
 refine AI (wpAny_typeOf hTs ?_)
 rw [if_pos (by decide)]
 refine AI (sliceApplied_gen hs pl pu ?_)
 have hno:¬ ((((sIx items.size 0 lo:Nat):Int) == 0&&(1:Int) == 1&&(sIx items.size items.size hi-sIx items.size 0 lo) == items.size)=true):=by
  intro q
  rw [BG,BG] at q
  have q1:((sIx items.size 0 lo:Nat):Int)=0:=eq_of_beq q.1.1
  have q2:sIx items.size items.size hi-sIx items.size 0 lo=items.size:=eq_of_beq q.2
  exact hw ⟨by omega,by omega⟩
 show A6 _ _ (if (((sIx items.size 0 lo:Nat):Int) == 0&&(1:Int) == 1&&(sIx items.size items.size hi-sIx items.size 0 lo) == items.size)=true then _ else _) _ _ s
 rw [if_neg hno,rO]
 first
  | exact AI (m:=BZ _) (BE (AV ⟨_,rfl,AV h⟩) htake)
  | exact AI (m:=BZ _) (BE (AI (AV (AV ⟨_,rfl,AV h⟩))) htake)
  | exact AI (AI (m:=BZ _) (BE (AV (AV ⟨_,rfl,AV h⟩)) htake))
  | exact AI (AI (m:=BZ _) (BE (AV ⟨_,rfl,AV h⟩) htake))
end
end HT
namespace L2
open PySem PySem.Spec PyProof.Rows
abbrev TO:=St->Hp->(Option Int->Hp->Prop)->Prop
def PO (X:Cx) (e:Option Expr) (t:TO):Prop :=
 ∀(pins:List (Addr×Obj)) (s:AL) (σ:St) (H:Hp) (Q:Option Int->Hp->Prop),Inv X pins σ H s->t σ H Q ->
  A6 (Bf X.prog X.w) X.A (evalPart e X.env) (fun u s'=>∃o H',Inv X pins σ H' s'/\Fi u o/\Q o H') X.xe s
def mV:TO:=fun _ H Q=>Q none H
def wT (t:TE):TO:=fun σ H Q=>t σ H fun x H1=>∃i,x=.int i/\Q (some i) H1
section
variable {X:Cx}{e:Expr}{te:TE}{lo hi:Option Expr}{tl th:TO}{pos p2:Pos}
theorem vv:PO X none mV:=by
 intro pins s σ H Q I h
 rw [evalPart_none]
 exact AV ⟨none,H,I,.none,h⟩
theorem vt (h:PE X e te):PO X (some e) (wT te):=by
 intro pins s σ H Q I hw
 rw [evalPart_some]
 refine thn (h pins s σ H _ I hw) fun u s1 ⟨x,H1,I1,r1,q1⟩=>?_
 obtain ⟨i,rfl,q⟩:=q1
 obtain ⟨t,rfl⟩:=r1
 exact ⟨some i,H1,I1,.int i t,q⟩
def SlR (X:Cx) (r:V->Option Int->Option Int->Hp->VK->Prop):Prop :=
 ∀(pins:List (Addr×Obj)) (s:AL) (σ:St) (H:Hp) (x:V) (v vl vu:Value) (lo hi:Option Int) (sl:Addr) (Q:VK),Inv X pins σ H s->RelV x v->s.heap.IsSliceOf sl vl vu .none->Fi vl lo->Fi vu hi->r x lo hi H Q ->
  ∃T id,typeLookup (.type T) "__getitem__"=pure (some (.builtin id))/\s.TypeIs v T/\A6 (Bf X.prog X.w) X.A (ED v (.ref sl)) (EP X pins σ Q) X.xe s
def tSl (r:V->Option Int->Option Int->Hp->VK->Prop) (te:TE) (tl th:TO):TE:=fun σ H Q=>te σ H fun x H1=>tl σ H1 fun l H2=>th σ H2 fun u H3=>r x l u H3 Q
theorem rT {r:V->Option Int->Option Int->Hp->VK->Prop}(hr:SlR X r) (he:PE X e te) (hl:PO X lo tl) (hu:PO X hi th):PE X (.Subscript e (.Slice lo hi none p2) pos) (tSl r te tl th):=by
 intro pins s σ H Q I h
 refine Subscript_ (thn (he pins s σ H _ I h) fun v s1 ⟨x,H1,I1,r1,q1⟩=>?_)
 refine wpAny_Slice (thn (hl pins s1 σ H1 _ I1 q1) fun vl s2 ⟨l,H2,I2,pl,q2⟩=>thn (hu pins s2 σ H2 _ I2 q2) fun vu s3 ⟨u,H3,I3,pu,q3⟩=>?_)
 rw [evalPart_none]
 refine AV ?_
 have I4:Inv X pins σ H3 { s3 with heap:=s3.heap.push { cls:=.type "slice",data:=.fields #[vl,vu,.none] } }:=I3.kept (t':=s3.toks) fun b ob q=>AJ _ q
 obtain ⟨T,id,hT,ht,hg⟩:=hr pins { s3 with heap:=s3.heap.push { cls:=.type "slice",data:=.fields #[vl,vu,.none] } } σ H3 x v vl vu l u s3.heap.objs.size Q I4 r1 (Heap.IsSliceOf.new ..) pl pu q3
 show A6 (Bf X.prog X.w) X.A (EY e (.Slice lo hi none p2) v (.ref s3.heap.objs.size)) (EP X pins σ Q) X.xe { s3 with heap:=s3.heap.push { cls:=.type "slice",data:=.fields #[vl,vu,.none] } }
 exact tail_any (ops:=[.ref s3.heap.objs.size,v]) ht hT hg (by with_unfolding_all rfl)
def bH (xs:List V) (lo hi:Option Int):List V:=(xs.drop (HT.sIx xs.length 0 lo)).take (HT.sIx xs.length xs.length hi-HT.sIx xs.length 0 lo)
theorem bC (xs:List V) (lo hi:Option Int):(bH xs lo hi).length<=xs.length:=by
 unfold bH
 rw [BA,Cq]
 omega
theorem Vals.nil_iff {xs:List V}{us:List Value}(r:Vals xs us):us=[]↔xs=[]:=by
 cases r with
 | nil=>simp
 | cons _ _=>simp
end
def ixN (n:Nat) (i:Int):Option Nat:=if 0<=i then (if i<n then some i.toNat else none) else if -(n:Int)<=i then some (i+n).toNat else none
def atI {α:Type}(xs:List α) (i:Int):Option α:=(ixN xs.length i).bind fun j=>xs[j]?
theorem ou {n:Nat}{i:Int}{j:Nat}(h:ixN n i=some j):seqIndex? i n=some j/\j<n/\-(n:Int)<=i/\i<n:=by
 unfold ixN at h
 by_cases h0:0<=i
 ·rw [if_pos h0] at h
  by_cases h1:i<n
  ·rw [if_pos h1] at h
   have e:i.toNat=j:=Ba h
   exact ⟨by rw [seqIndex_of h0 h1,e],by omega,by omega,h1⟩
  ·rw [if_neg h1] at h; cases h
 ·rw [if_neg h0] at h
  by_cases h1:-(n:Int)<=i
  ·rw [if_pos h1] at h
   have e:(i+n).toNat=j:=Ba h
   exact ⟨by rw [seqIndex_neg (by omega) h1,e],by omega,h1,by omega⟩
  ·rw [if_neg h1] at h; cases h
theorem oX {α:Type}{xs:List α}{i:Int}{v:α}(h:atI xs i=some v):∃j,seqIndex? i xs.length=some j/\xs[j]?=some v/\j<xs.length/\-(xs.length:Int)<=i/\i<xs.length:=by
 unfold atI at h
 cases e:ixN xs.length i with
 | none=>rw [e] at h; cases h
 | some j =>
  rw [e] at h
  obtain ⟨h1,h2,h3,h4⟩:=ou e
  exact ⟨j,h1,h,h2,h3,h4⟩
theorem ad {α:Type}{xs:List α}{j:Nat}{v:α}(h:xs[j]?=some v):atI xs (j:Int)=some v:=by
 have hj:j<xs.length:=(AS.mp h).1
 have e:ixN xs.length (j:Int)=some j:=by
  unfold ixN
  rw [if_pos (by omega),if_pos (by omega)]; simp
 unfold atI; rw [e]; exact h
theorem lI {α:Type}(xs:List α) (v:α):atI (xs++[v]) (-1)=some v:=by
 have hl:(xs++[v]).length=xs.length+1:=by simp
 have e:ixN (xs++[v]).length (-1)=some xs.length:=by
  unfold ixN
  rw [hl,if_neg (by decide),if_pos (by omega)]
  congr 1
  omega
 unfold atI
 rw [e]
 show (xs++[v])[xs.length]?=some v
 simp
def o_ (b:Expr):Prop:=∀o i,subscripted b false o i=operate [o,i] (ED o i)
def IxR (X:Cx) (r:R2):Prop :=
 ∀(value slice:Expr) (pins:List (Addr×Obj)) (s:AL) (σ:St) (H:Hp) (x y:V) (v u:Value) (Q:VK),Inv X pins σ H s->RelV x v->RelV y u->r x y H Q ->
  subscripted slice false v u=operate [v,u] (ED v u)->A6 (Bf X.prog X.w) X.A (EY value slice v u) (EP X pins σ Q) X.xe s
def MtR (X:Cx) (id:String) (r:V->List V->Hp->VK->Prop):Prop :=
 ∀(pins:List (Addr×Obj)) (s:AL) (σ:St) (H:Hp) (x:V) (xs:List V) (v:Value) (us:List Value) (Q:VK),Inv X pins σ H s->RelV x v->Vals xs us->r x xs H Q ->
  A6 (Bf X.prog X.w) X.A (call (.builtin id) (v :: us)) (EP X pins σ Q) X.xe s
section
variable {X:Cx}{a b:Expr}{ta tb:TE}{pos:Pos}
theorem zQ {r:R2}(hr:IxR X r) (ha:PE X a ta) (hb:PE X b tb) (hs:o_ b):PE X (.Subscript a b pos) (tOp r ta tb):=by
 intro pins s σ H Q I h
 exact Subscript_ (zb ha hb I h fun v u s2 x y H2 I2 rx ry q=>hr a b pins s2 σ H2 x y v u Q I2 rx ry q (hs _ _))
def zK (K:AK):R2:=fun x y H Q=>∃p xs i v,x=.ref p/\y=.int i/\SqL K H p xs/\atI xs i=some v/\Q v H
def zJ (K:AK):R2:=fun x y H Q=>∃p xs i v,x=.ref p/\y=.int i/\SqT K H p xs/\atI xs i=some v/\Q v H
theorem aE:IxR X (zK X.K):=by
 intro value slice pins s σ H x y v u Q I rx ry h hs
 obtain ⟨p,xs,i,z,rfl,rfl,hq,he,q⟩:=h
 cases rx
 obtain ⟨t,rfl⟩:=ry
 obtain ⟨its,r,pl,hz⟩:=I.list hq
 obtain ⟨j,h1,h2,h3,h4,h5⟩:=oX he
 obtain ⟨w,ew,rw'⟩:=r.get h2
 have hl:=r.length
 have hn:=im
 have fin:EP X pins σ Q w s:=⟨z,H,I,rw',q⟩
 by_cases h0:0<=i
 ·have hj:i.toNat=j:=by
   rw [seqIndex_of h0 h5] at h1
   exact Ba h1
  exact item_listR pl.isList h0 (by omega) (by rw [hj]; simpa using ew) fin hs
 ·have hj:(i+(its.toArray.size:Int)).toNat=j:=by
   rw [seqIndex_neg (by omega) h4] at h1
   rw [AU,<- hl]
   exact Ba h1
  exact subscriptTail_builtinR (x:=w) pl.isList.typeIs slot_list_getitem.lookup
   (wpAny_getItem_list_neg (Q:=fun r s'=>r=w/\EP X pins σ Q r s') pl.isList (by omega) (by rw [AU] <;> omega) (by omega) (by rw [hj]; simpa using ew) ⟨rfl,fin⟩) hs
theorem ao:IxR X (zJ X.K):=by
 intro value slice pins s σ H x y v u Q I rx ry h hs
 obtain ⟨p,xs,i,z,rfl,rfl,hq,he,q⟩:=h
 cases rx
 obtain ⟨t,rfl⟩:=ry
 obtain ⟨its,r,pl,hz⟩:=I.tuple hq
 obtain ⟨j,h1,h2,h3,h4,h5⟩:=oX he
 obtain ⟨w,ew,rw'⟩:=r.get h2
 have hl:=r.length
 have hn:=im
 have fin:EP X pins σ Q w s:=⟨z,H,I,rw',q⟩
 exact subscriptTail_builtinR (x:=w) pl.typeIs slot_tuple_getitem.lookup
  (getItem_tuple (j:=j) (Q:=fun r s'=>r=w/\EP X pins σ Q r s') pl (by omega) (by omega) (by rw [AU,<- hl]; exact h1) (by simpa using ew) ⟨rfl,fin⟩) hs
theorem mh (its:List Value) (n j:Nat) (u:Value):BF (·.setIfInBounds j u) { cls:=.type "list",data:=.seq its.toArray n }={ cls:=.type "list",data:=.seq (its.set j u).toArray n }:=by
 simp [BF]
theorem Inv.lst {pins:List (Addr×Obj)}{σ:St}{H:Hp}{s:AL}{p:Addr}{xs:List V}(I:Inv X pins σ H s) (h:H p=some (.lst xs)) :
  ∃(its:List Value) (n:Nat),Vals xs its/\s.heap.get? p=some { cls:=.type "list",data:=.seq its.toArray n }/\xs.length<=sizeLine:=by
 obtain ⟨z,its,n,r,e⟩:=I.hok p _ h
 exact ⟨its,n,r,e,z⟩
theorem Inv.lstUpd {pins:List (Addr×Obj)}{σ:St}{H:Hp}{s:AL}{p:Addr}{xs ys:List V}{its its':List Value}{n n':Nat}{f:Obj->Obj}(I:Inv X pins σ H s) (h:H p=some (.lst xs))
  (ho:s.heap.get? p=some { cls:=.type "list",data:=.seq its.toArray n }) (hf:f { cls:=.type "list",data:=.seq its.toArray n }={ cls:=.type "list",data:=.seq its'.toArray n' }) (r:Vals ys its') (hz:ys.length<=sizeLine) (t:Nat) :
  Inv X pins σ (upd H p (.lst ys)) { s with heap:=s.heap.update p f,toks:=t }:=by
 have e:(s.heap.update p f).get? p=some { cls:=.type "list",data:=.seq its'.toArray n' }:=by
  rw [Cz f ho (by rw [hf] <;> rfl),hf]
 refine I.write (x:=p) (e:=p) (by rw [h]; trivial) (.inl rfl) (fun b u hb q=>(Cb _ _ (Cg hb)).trans q) ⟨_,e⟩ ?_
 exact ⟨hz,its',n',r,e⟩
def xg:V->V->V->Hp->(Hp->Prop)->Prop:=fun o i v H Q=>∃p xs k j,o=.ref p/\i=.int k/\H p=some (.lst xs)/\ixN xs.length k=some j/\Q (upd H p (.lst (xs.set j v)))
theorem rn:Al X xg:=by
 intro pins s σ H o i v ov iv u Q I ro ri rv h
 obtain ⟨p,xs,k,j,rfl,rfl,hp,hj,q⟩:=h
 cases ro
 obtain ⟨t,rfl⟩:=ri
 obtain ⟨its,n,r,ho,hz⟩:=I.lst hp
 obtain ⟨h1,h2,h3,h4⟩:=ou hj
 have hl:=r.length
 have hn:=im
 have I':Inv X pins σ (upd H p (.lst (xs.set j v))) { s with heap:=s.heap.update p (BF (·.setIfInBounds j u)) } :=
  I.lstUpd hp ho (mh its n j u) (r.set rv j) (by rw [Fb]; exact hz) s.toks
 by_cases h0:0<=k
 ·have hk:k.toNat=j:=by
   rw [seqIndex_of h0 h4] at h1
   exact Ba h1
  exact PySem.W.ki_setAt ho h0 (by omega) (by rw [AU,<- hl]; exact h4) (by rw [hk]; exact ⟨_,I',q⟩)
 ·have hk:(k+(its.toArray.size:Int)).toNat=j:=by
   rw [seqIndex_neg (by omega) h3] at h1
   rw [AU,<- hl]
   exact Ba h1
  exact PySem.W.ki_setBack ho (by omega) (by rw [AU,<- hl]; exact h3) (by omega) (by rw [hk]; exact ⟨_,I',q⟩)
theorem jH (lo hi:Option Int) (n:Nat):(Ev lo hi none n).1=((HT.sIx n 0 lo:Nat):Int)/\(Ev lo hi none n).2.1=((HT.sIx n n hi:Nat):Int)/\(Ev lo hi none n).2.2=1:=by
 refine ⟨?_,?_,rfl⟩
 ·cases lo with
  | none=>simp [Ev,HT.sIx]
  | some i =>
   simp only [Ev,HT.sIx,Option.getD_none,show (1:Int) > 0 by decide,if_true]
   by_cases h:i<0
   ·simp only [h,if_true] <;> omega
   ·simp only [h,if_false] <;> omega
 ·cases hi with
  | none=>simp [Ev,HT.sIx]
  | some i =>
   simp only [Ev,HT.sIx,Option.getD_none,show (1:Int) > 0 by decide,if_true]
   by_cases h:i<0
   ·simp only [h,if_true] <;> omega
   ·simp only [h,if_false] <;> omega
theorem iP (its:List Value) (lo hi:Option Int):slicePick its.toArray lo hi none=((its.drop (HT.sIx its.length 0 lo)).take (HT.sIx its.length its.length hi-HT.sIx its.length 0 lo)).toArray:=by
 obtain ⟨h1,h2,h3⟩:=jH lo hi its.toArray.size
 unfold slicePick
 rw [h1,h2,h3]
 simp only [sliceRange_one,pick_run,AU] <;> rfl
def Ao (K:AK):V->Option Int->Option Int->Hp->VK->Prop:=fun x lo hi H Q=>∃a xs,x=.ref a/\SqL K H a xs/\∀p,H p=none->Q (.ref p) (upd H p (.lst (bH xs lo hi)))
theorem de:SlR X (Ao X.K):=by
 intro pins s σ H x v vl vu lo hi sl Q I rx hs pl pu h
 obtain ⟨a,xs,rfl,hx,q⟩:=h
 cases rx
 obtain ⟨its,r,ht,hz⟩:=I.list hx
 have hlen:=r.length
 refine ⟨"list",_,slot_list_getitem.lookup,ht.isList.typeIs,?_⟩
 refine wpAny_getItem_list_slice ht.isList hs pl pu .none (by simp) ?_ (by rw [AU] <;> omega)
 rw [iP,<- hlen]
 refine ⟨.ref s.heap.objs.size,_,I.laid (t':=s.toks) (o:=.lst (bH xs lo hi)) (fun b ob q=>AJ _ q) (AM _) ?_,rfl,q _ (I.hok.fresh (AM _))⟩
 exact ⟨Bm (bC xs lo hi) hz,_,0,(r.drop (HT.sIx xs.length 0 lo)).take (HT.sIx xs.length xs.length hi-HT.sIx xs.length 0 lo),A5 _ rfl⟩
theorem aH:bV X (.builtin "len") (fun xs H Q=>∃p ys,xs=[.ref p]/\(SqL X.K H p ys\/SqT X.K H p ys)/\Q (.int ys.length) H):=by
 intro pins s σ H xs us Q I r h
 obtain ⟨p,ys,rfl,hq,q⟩:=h
 obtain ⟨u,rfl,rx⟩:=cT r
 cases rx
 have hn:=im
 rcases hq with hq | hq
 ·obtain ⟨its,r',pl,hz⟩:=I.list hq
  have hlen:=r'.length
  exact Calls.call_len_list pl.isList (by simp only [AU] <;> omega) ⟨.int ys.length,H,I.tok _,⟨s.toks+1,by rw [AU,hlen]⟩,q⟩
 ·obtain ⟨its,r',pl,hz⟩:=I.tuple hq
  have hlen:=r'.length
  exact len_tuple pl (by simp only [AU] <;> omega) ⟨.int ys.length,H,I.tok _,⟨s.toks+1,by rw [AU,hlen]⟩,q⟩
theorem dF:bV X (.type "list") (fun xs H Q=>∃p ys,xs=[.ref p]/\(SqL X.K H p ys\/SqT X.K H p ys)/\∀l,H l=none->Q (.ref l) (upd H l (.lst ys))):=by
 intro pins s σ H xs us Q I r h
 obtain ⟨p,ys,rfl,hq,q⟩:=h
 obtain ⟨u,rfl,rx⟩:=cT r
 cases rx
 have fin:∀(its:List Value),Vals ys its->ys.length<=sizeLine->∀(h':Heap) (c':Nat),(∀b o',s.heap.get? b=some o'->h'.get? b=some o') ->
   h'.get? s.heap.objs.size=some { cls:=.type "list",dict:=none,data:=.seq its.toArray c',slots:=#[] }->EP X pins σ Q (.ref s.heap.objs.size) { s with heap:=h' }:=fun its r' hz h' c' kp e =>
  ⟨.ref s.heap.objs.size,_,I.laid (t':=s.toks) kp (AM _) (show ObjOk X.prog X.w _ h' _ (.lst ys) from ⟨hz,its,c',r',e⟩),rfl,q _ (I.hok.fresh (AM _))⟩
 rcases hq with hq | hq
 ·obtain ⟨its,r',pl,hz⟩:=I.list hq
  have hlen:=r'.length
  obtain ⟨o,ho,hc,n,hd⟩:=pl.isList
  exact call_list_seq p (.inl rfl) ho hc hd (fun h' c' kp e=>fin its r' hz h' c' kp e) (by simp only [AU] <;> omega)
 ·obtain ⟨its,r',pl,hz⟩:=I.tuple hq
  have hlen:=r'.length
  obtain ⟨o,ho,hc,n,hd⟩:=pl
  exact call_list_seq p (.inr rfl) ho hc hd (fun h' c' kp e=>fin its r' hz h' c' kp e) (by simp only [AU] <;> omega)
theorem bc:bV X (.type "tuple") (fun xs H Q=>∃p ys,xs=[.ref p]/\((SqL X.K H p ys/\∀l,H l=none->Q (.ref l) (upd H l (.tup ys)))\/(SqT X.K H p ys/\Q (.ref p) H))):=by
 intro pins s σ H xs us Q I r h
 obtain ⟨p,ys,rfl,h⟩:=h
 obtain ⟨u,rfl,rx⟩:=cT r
 cases rx
 rcases h with ⟨hq,q⟩ | ⟨hq,q⟩
 ·obtain ⟨its,r',pl,hz⟩:=I.list hq
  have hlen:=r'.length
  refine call_tuple_list pl.isList (fun h' kp=>?_) (by simp only [AU] <;> omega)
  have I1:Inv X pins σ H { s with heap:=h' }:=I.kept (t':=s.toks) kp
  have I2:Inv X pins σ (upd H h'.objs.size (.tup ys)) { s with heap:=h'.push { cls:=.type "tuple",data:=.seq its.toArray } } :=
   I1.laid (t':=s.toks) (fun b o e=>AJ _ e) (AM _) (show ObjOk X.prog X.w _ _ _ (.tup ys) from ⟨hz,its,r',Fe.new _ _⟩)
  exact ⟨.ref h'.objs.size,_,I2,rfl,q _ (I1.hok.fresh (AM _))⟩
 ·obtain ⟨its,r',pl,hz⟩:=I.tuple hq
  exact call_tuple_same pl ⟨.ref p,H,I,rfl,q⟩
def tyV (K:AK) (T:String) (x:V) (H:Hp):Prop:=match x with
 | .str _=>T="str"
 | .int _=>T="int"
 | .ref p=>(T="list"/\∃xs,SqL K H p xs)\/(T="tuple"/\∃o,K.lookup p=some o/\o.cls=.type "tuple"/\o.dict=none) \/
   (T="dict"/\((∃kvs,H p=some (.dK kvs))\/∃kvs,H p=some (.dT kvs)))\/(T="set"/\∃S n,H p=some (.set S n))
 | _=>False
theorem xE {pins:List (Addr×Obj)}{σ:St}{H:Hp}{s:AL}{T:String}{x:V}{v:Value}(I:Inv X pins σ H s) (r:RelV x v) (ty:tyV X.K T x H) :
  s.TypeIs v T/\∀a,v=.ref a->∃ob,s.heap.get? a=some ob/\ob.dict=none:=by
 cases x with
 | str z =>
  obtain ⟨t,rfl⟩:=r
  cases (show T="str" from ty)
  exact ⟨typeIs_str s z t,fun _ e=>nomatch e⟩
 | int i =>
  obtain ⟨t,rfl⟩:=r
  cases (show T="int" from ty)
  exact ⟨typeIs_int s i t,fun _ e=>nomatch e⟩
 | ref p =>
  cases r
  rcases ty with ⟨rfl,xs,hq⟩ | ⟨rfl,o,hk,hc,hd⟩ | ⟨rfl,hk⟩ | ⟨rfl,S,n,hk⟩
  ·obtain ⟨its,_,pl,_⟩:=I.list hq
   refine ⟨pl.isList.typeIs,fun a e=>?_⟩
   cases e
   obtain ⟨o,n,e,c,hd,_⟩:=pl
   exact ⟨o,e,hd⟩
  ·refine ⟨⟨o,I.kIn p o hk,hc⟩,fun a e=>?_⟩
   cases e
   exact ⟨o,I.kIn _ o hk,hd⟩
  ·have z:∃o,s.heap.get? p=some o/\o.ExactDict:=by
    rcases hk with ⟨kvs,hk⟩ | ⟨kvs,hk⟩
    ·obtain ⟨_,_,_,_,o,_,_,e,ex,_⟩:=I.hok p _ hk
     exact ⟨o,e,ex⟩
    ·obtain ⟨_,_,_,_,o,_,_,e,ex,_⟩:=I.hok p _ hk
     exact ⟨o,e,ex⟩
   obtain ⟨o,e,ex⟩:=z
   refine ⟨⟨o,e,ex.1⟩,fun a e2=>?_⟩
   cases e2
   exact ⟨o,e,ex.2.1⟩
  ·obtain ⟨o,_,_,_,e,ex,_⟩:=I.hok p _ hk
   refine ⟨⟨o,e,ex.1⟩,fun a e2=>?_⟩
   cases e2
   exact ⟨o,e,ex.2.1⟩
 | _=>exact BB ty
def tBM (K:AK) (T:String) (r:V->List V->Hp->VK->Prop) (to:TE) (t:TA):TE:=fun σ H Q=>to σ H fun x H1=>tyV K T x H1/\t σ H1 fun xs H2=>r x xs H2 Q
variable {o e:Expr}{es:List Expr}{to:TE}{t:TA}{name:Str}{apos cpos:Pos}{T id:String}{r:V->List V->Hp->VK->Prop}
theorem xh (pa:PlainAttrs T) (slot:Slot T name id) (hty:typeOf (.builtin id)=pure (.type "method_descriptor")) (hm:MtR X id r) (ho:PE X o to) (ha:PA X (e :: es) t)
  (hbase:DB o name X.env (eval o X.env)=eval o X.env:=by rfl)
  (hfew:((Dx cpos (Bz (e :: es) X.env)).all (fun x=>!x.1)&&(backToKw cpos (keywordEach [] X.env)).all (fun x=>x.1.isSome)
  &&decide ((e :: es).length+([]:List Keyword).length+(if ([]:List Keyword).isEmpty then 0 else 1)<30))=true:=by rfl)
  (hline:(apos.endLine == cpos.line)=true:=by rfl) (hs:Bz (e :: es) X.env=(false,eval e X.env) :: Bz es X.env:=by rfl) (hplain:(Dx cpos (Bz es X.env)).any (·.1)=false:=by rfl) :
  PE X (.Call (.Attribute o name apos) (e :: es) [] cpos) (tBM X.K T r to t):=by
 intro pins s σ H Q I h
 refine wpAny_Call_method_late hbase hfew hline rfl (thn (ho pins s σ H _ I h) fun v s1 ⟨x,H1,I1,r1,ty,q1⟩=>?_)
 obtain ⟨h1,h2⟩:=xE I1 r1 ty
 refine ⟨T,id,pa,slot,hty,h1,h2,?_⟩
 have hA:=ha cpos pins s1 σ H1 _ I1 q1
 rw [hs] at hA ⊢
 refine DP (by show (false||(Dx cpos (Bz es X.env)).any (·.1))=false; rw [hplain] <;> rfl) (Du ?_)
 exact thn hA fun us s2 ⟨vs,H2,I2,r2,q2⟩=>hm pins s2 σ H2 x vs v us Q I2 r1 r2 q2
end
def MtM (X:Cx) (id:String) (r:V->List V->Hp->VK->Prop):Prop :=
 ∀(pins:List (Addr×Obj)) (s:AL) (σ:St) (H:Hp) (x:V) (xs:List V) (v:Value) (us:List Value) (Q:VK),Inv X pins σ H s->RelV x v->Vals xs us->r x xs H Q ->
  A6 (Bf X.prog X.w) X.A (call (.builtin id) (v :: us)) (EP X pins σ Q) X.xe s
theorem Vals.one:∀{x:V}{us:List Value},Vals [x] us->∃u,us=[u]/\RelV x u
 | _,_,.cons r .nil=>⟨_,rfl,r⟩
theorem Vals.reverse {xs:List V}{us:List Value}(h:Vals xs us):Vals xs.reverse us.reverse:=by
 induction h with
 | nil=>exact .nil
 | cons r t ih=>rw [Bd,Bd]; exact Vals.append ih (.cons r .nil)
theorem Vals.rep {xs:List V}{us:List Value}(h:Vals xs us):∀k:Nat,Vals (Bs k xs).flatten (Bs k us).flatten
 | 0=>.nil
 | k+1=>by
  rw [B4,B4,Ch,Ch]
  exact Vals.append h (Vals.rep h k)
theorem jq (its:List Value):∀(k:Nat) (acc:List Value),
  List.foldl (fun x1 x2=>x1++x2) acc.toArray (Bs k its.toArray)=(acc++(Bs k its).flatten).toArray
 | 0,acc=>by simp
 | k+1,acc=>by
  have e:acc.toArray++its.toArray=(acc++its).toArray:=by simp
  have e2:(acc++its)++(Bs k its).flatten=acc++(Bs (k+1) its).flatten:=by
   rw [B4,Ch,Bu]
  rw [<- e2,<- jq its k (acc++its),<- e,B4,DV]
section
variable {X:Cx}{pins:List (Addr×Obj)}{σ:St}{H:Hp}{s:AL}{l b:Addr}{xs ys zs:List V}
theorem Inv.lset {its its':List Value}{n:Nat}{f:Array Value->Array Value}{t':Nat}(I:Inv X pins σ H s) (hH:H l=some (.lst xs))
  (e:s.heap.get? l=some { cls:=.type "list",data:=.seq its.toArray n }) (hf:f its.toArray=its'.toArray) (hv:Vals ys its') (hz:ys.length<=sizeLine) :
  Inv X pins σ (upd H l (.lst ys)) { s with heap:=s.heap.update l (BF f),toks:=t' }:=by
 have q:=PySem.IsL.update e f
 rw [hf] at q
 refine I.write (x:=l) (e:=l) (by rw [hH]; exact trivial) (.inl rfl) (fun b' u hb hu=>(Cb s.heap (BF f) (Cg hb)).trans hu) ⟨_,q⟩ ?_
 exact ⟨hz,its',_,hv,q⟩
theorem Inv.lnew {its:List Value}{t':Nat}(I:Inv X pins σ H s) (hv:Vals ys its) (hz:ys.length<=sizeLine) :
  Inv X pins σ (upd H s.heap.objs.size (.lst ys)) { s with heap:=s.heap.push { cls:=.type "list",data:=.seq its.toArray },toks:=t' } :=
 I.laid (fun _ _ q=>AJ _ q) (AM _) ⟨hz,its,0,hv,A5 _ rfl⟩
theorem Inv.fresh (I:Inv X pins σ H s):H s.heap.objs.size=none:=I.hok.fresh (AM _)
theorem Inv.lstM (I:Inv X pins σ H s) (hH:H l=some (.lst xs)):xs.length<=sizeLine/\∃(its:List Value) (n:Nat),Vals xs its/\xs.length=its.length/\s.heap.get? l=some { cls:=.type "list",data:=.seq its.toArray n }:=by
 obtain ⟨z,its,n,r,e⟩:=I.hok l _ hH
 exact ⟨z,its,n,r,r.length,e⟩
theorem kW {n:Nat}(h:n<=sizeLine):DC n=false:=by
 unfold DC
 exact decide_eq_false (by omega)
end
section
variable {X:Cx}
def nO:V->List V->Hp->VK->Prop:=fun x vs H Q=>∃l xs y,x=.ref l/\vs=[y]/\H l=some (.lst xs)/\xs.length<sizeLine/\Q .non (upd H l (.lst (xs++[y])))
theorem jg:MtM X "list.append" nO:=by
 intro pins s σ H x vs v us Q I rx rv h
 obtain ⟨l,xs,y,rfl,rfl,hH,hz,q⟩:=h
 cases rx
 obtain ⟨u,rfl,ru⟩:=rv.one
 obtain ⟨z,its,n,r,hl,e⟩:=I.lstM hH
 refine call_meets F.slot_list_append ⟨_,e,rfl⟩ F.entry_list_append (F.args_list_append_2 _ _) (PySem.list_append l its.toArray n u (by rw [AU]; omega)) ⟨e,?_⟩
 refine ⟨.non,_,I.lset (its':=its++[u]) hH e (by simp) (r.append (.cons ru .nil)) ?_,rfl,q⟩
 rw [AW,BU]
 omega
def nN:V->List V->Hp->VK->Prop:=fun x vs H Q=>∃l b xs zs,x=.ref l/\vs=[.ref b]/\H l=some (.lst xs)/\H b=some (.lst zs)/\xs.length+zs.length<=sizeLine/\Q .non (upd H l (.lst (xs++zs)))
theorem p0:MtM X "list.extend" nN:=by
 intro pins s σ H x vs v us Q I rx rv h
 obtain ⟨l,b,xs,zs,rfl,rfl,hH,hB,hz,q⟩:=h
 cases rx
 obtain ⟨u,rfl,ru⟩:=rv.one
 cases ru
 obtain ⟨z,its,n,r,hl,e⟩:=I.lstM hH
 obtain ⟨z2,its2,n2,r2,hl2,e2⟩:=I.lstM hB
 have hsz:its.toArray.size+its2.toArray.size<=sizeLine:=by rw [AU,AU]; omega
 have hlong:¬ (!its.toArray.isEmpty&&DC (its.toArray.size+its2.toArray.size))=true:=by
  rw [kW hsz,Bool.and_false]
  exact Bq
 refine call_meets F.slot_list_extend ⟨_,e,rfl⟩ F.entry_list_extend (F.args_list_extend_2 _ _)
  (AutoSeq1.list_extend_list_list_0 l its.toArray n b its2.toArray n2 hlong (by rw [AU]; omega) (by omega)) ⟨e,e2,?_⟩
 refine ⟨.non,_,I.lset (its':=its++its2) hH e (by simp) (r.append r2) ?_,rfl,q⟩
 rw [AW]
 omega
def At:R2:=fun x y H Q=>∃l b xs zs,x=.ref l/\y=.ref b/\H l=some (.lst xs)/\H b=some (.lst zs)/\xs.length+zs.length<=sizeLine/\∀p,H p=none->Q (.ref p) (upd H p (.lst (xs++zs)))
theorem l4:OpR X (DU .Add) At:=by
 intro pins s σ H x y v u Q I rx ry h
 obtain ⟨l,b,xs,zs,rfl,rfl,hH,hB,hz,q⟩:=h
 cases rx
 cases ry
 obtain ⟨z,its,n,r,hl,e⟩:=I.lstM hH
 obtain ⟨z2,its2,n2,r2,hl2,e2⟩:=I.lstM hB
 refine PySem.P.add_list e e2 ?_ (by rw [AU,AU]; omega)
 have ea:its.toArray++its2.toArray=(its++its2).toArray:=by simp
 rw [ea]
 exact ⟨.ref _,_,I.lnew (t':=s.toks) (r.append r2) (by rw [AW]; omega),rfl,q _ I.fresh⟩
def Aq:R2:=fun x y H Q=>∃l k xs,x=.ref l/\y=.int k/\H l=some (.lst xs)/\-(2 ^ 63)<=k/\k<2 ^ 63/\xs.length*k.toNat<=sizeLine /\
 ∀p,H p=none->Q (.ref p) (upd H p (.lst (Bs k.toNat xs).flatten))
theorem v4 {α:Type}(xs:List α) (k:Nat):(Bs k xs).flatten.length=k*xs.length:=by
 induction k with
 | zero=>simp
 | succ k ih=>rw [B4,Ch,AW,ih,Nat.succ_mul,Nat.add_comm]
theorem su:OpR X (DU .Mult) Aq:=by
 intro pins s σ H x y v u Q I rx ry h
 obtain ⟨l,k,xs,rfl,rfl,hH,h1,h2,hz,q⟩:=h
 cases rx
 obtain ⟨t,rfl⟩:=ry
 obtain ⟨z,its,n,r,hl,e⟩:=I.lstM hH
 have hlen:its.toArray.size*k.toNat<=sizeLine:=by rw [AU,<- hl]; exact hz
 have hcap:¬ its.toArray.size*k.toNat > (2 ^ 63-1) / 8:=by
  have:(sizeLine:Nat)<=(2 ^ 63-1) / 8:=by decide
  omega
 have hfit:¬ (!Builtin.List.listFitsIndex k)=true:=by
  rw [fitsIndex_both h1 h2]
  exact Bq
 have hlong:¬ DC (its.toArray.size*k.toNat)=true:=by
  rw [kW hlen]
  exact Bq
 have hnew:List.foldl (fun x1 x2=>x1++x2) #[] (Bs (if its.toArray.isEmpty=true then 0 else k.toNat) its.toArray)=(Bs k.toNat its).flatten.toArray:=by
  have f0:∀m:Nat,List.foldl (fun x1 x2=>x1++x2) #[] (Bs m its.toArray)=(Bs m its).flatten.toArray:=fun m=>by
   have:=jq its m []
   rw [B6] at this
   exact this
  rw [f0]
  cases its with
  | nil=>simp
  | cons a r'=>rw [if_neg (by simp)]
 refine wpAny_binaryOp_repeat_ref (T:="list") (U:="int") (by decide) ⟨_,e,rfl⟩ (fun s'=>typeIs_int s' k t) noFill_list_mul F.fills_int_mul F.slot_int_rmul repeat_list F.slot_int_index.lookup
  (call_meets F.slot_int_rmul (typeIs_int s k t) F.entry_int_rmul (F.args_int_rmul_2 _ _) (int___rmul___int_list k t l its.toArray n)
   ⟨e,rfl,⟨_,e,rfl⟩,call_meets F.slot_list_mul ⟨_,e,rfl⟩ F.entry_list_mul (F.args_list_mul_2 _ _) (AutoListH.list___mul___list_int_3 l its.toArray n k t hfit hcap hlong) ⟨e,?_⟩⟩)
 rw [hnew]
 exact ⟨.ref _,_,I.lnew (t':=s.toks) (r.rep k.toNat) (by rw [v4,Nat.mul_comm]; exact hz),rfl,q _ I.fresh⟩
end
section
variable {prog:Program}{w:Bj}{A:Bk}{E:Value->AL->Prop}{s:AL}
set_option maxRecDepth 100000 in
end
section
variable {X:Cx}
end
end L2
namespace Att
open PySem PySem.W PySem.Calls PyProof.Rows
theorem gE {P:Params}{h:Heap}:∀(ns:List Int) (vs:List Value),WellAll P h vs (ns.map WData.int)->DZ vs ns:=by
 intro ns
 induction ns with
 | nil =>
  intro vs w
  rw [D9] at w
  cases w
  exact .nil
 | cons n ns ih =>
  intro vs w
  rw [Br] at w
  cases w with
  | cons a b =>
   cases a
   exact .cons _ _ (ih _ b)
theorem pI {l:OpenLaw}{n:Nat}(hn:l.most=some n) {P:Params}{h:Heap}{args:List WData}{vals:List Value}
  (hpre:l.row.toRowW.claim.pre args=true) (hwl:WellAll P h vals args) :
  ∃a vs ns,vals=[Bc a]/\args=[WData.list (ns.map WData.int)]/\h.get? a=some { cls:=.type "list",data:=.seq vs.toArray }/\DZ vs ns/\ns.length<=n:=by
 have hsh:WShape.hasAll [] args [.list .int]=true:=(pre_splitW hpre).1
 have hc:l.pre.holds [] { args:=args }=true:=(pre_splitW hpre).2
 obtain ⟨d,r,rfl,h1,h2⟩:=hasAllW_cons hsh
 obtain rfl:=hasAllW_nil h2
 obtain ⟨xs,rfl,h3⟩:=hasW_list h1
 obtain ⟨ns,rfl⟩:=items_int h3
 have hlen:ns.length<=n:=by
  unfold OpenLaw.pre at hc
  have h4:(WTm.not (.lt (.lit (.int (n:Int))) (.len (.arg 0)))).holds [] { args:=[.list (ns.map .int)] }=true:=by
   have h4:=(holds_andW hc).1
   rw [hn] at h4
   exact h4
  have h5:=condW_of h4 (w_not (w_lt w_lit (w_len_list (w_arg rfl))))
  rw [AH] at h5
  refine Nat.le_of_not_lt fun q=>?_
  have q':(n:Int)<((ns.length:Nat):Int):=by omega
  first
   | (rw [decide_eq_true q'] at h5; exact absurd h5 (by decide))
   | (simp at h5; omega)
 cases hwl with
 | cons w1 w2 =>
  cases w2
  cases w1 with
  | list ho hall=>exact ⟨_,_,ns,rfl,rfl,ho,gE ns _ hall,hlen⟩
theorem pP (l:OpenLaw) (args:List WData):l.row.toRowW.claim.post args (.bool true) args=true :=
 postW_of (r:=l.row.toRowW) (X:=(true == true))
  (show WShape.has [] (.bool true) .bool=true by first | rfl | decide | simp [WShape.has,WShape.arms,WShape.armsAll])
  (show (WTm.eq .res (.lit (.bool true))).value [] { args:=args,res:=some (.bool true),after:=args }=some (.bool (true == true)) from w_eq_bool (w_res rfl) w_lit) rfl
theorem attach_call {l:OpenLaw}{n:Nat}{q:Program}{loose:List Str}{XP:(Str->Option Value)->Heap->Prop}{YP:Bj->Heap->Prop}{d:DefRec}
  (hn:l.most=some n) (hdf:d.params.defaults=[])
  (call:∀(w:Bj) (s₀ s₁:AL) (mg mb:Str->Option Value) (fa:Addr) (o:Obj) (pm cd doc:Value) (a:Addr) (vs:List Value) (ns:List Int),
   Ground q loose [] XP w s₀ mg mb s₁.heap->YP w s₁.heap ->
   s₁.heap.get? fa=some o->o.data=.func (docDef d.name d.params d.body d.scope pm cd doc)->s₁.heap.CodeRec cd d.name->mg d.name=some (.ref fa) ->
   s₁.heap.get? a=some { cls:=.type "list",data:=.seq vs.toArray }->DZ vs ns->ns.length<=n->s₁.gens=#[] ->
   EX (Bf l.prog w) callerA (.call (.ref fa) ⟨[.ref a],[]⟩) (fun r s'=>r=.ok (.ret (.bool true))/\OldK s₁.heap s'.heap/\s'.os=s₁.os/\Eh s'.gens) s₁) :
  WalkO q loose XP YP l.row.toRowW d [] (fun f vs=>PySem.call f vs):=by
 intro w s₀ s₁ mg mb G Y fa o pm cd doc dV kV ho hd hcd hD hmg hg args vals as hpre hlay hrd hwl hlo
 obtain rfl:dV=.none:=Dflts.none hD hdf
 obtain rfl:kV=.none:=Dflts.noKw hD
 obtain ⟨a,vs,ns,rfl,rfl,hobj,hints,hlen⟩:=pI hn hpre hwl
 refine enter_call (codeAny_mono (call w s₀ s₁ mg mb fa o pm cd doc a vs ns G Y ho (fd_plain hd) hcd hmg hobj hints hlen hg) fun r s' hq=>?_)
 obtain ⟨rfl,h2,h3,h4⟩:=hq
 exact ⟨.inl ⟨.bool true,.bool true,[],rfl,fun _=>rfl,.bool true,pP l _,fun _=>⟨List.Pairwise.nil,fun _ hm=>(nomatch hm)⟩⟩,h2,h3,h4⟩
section
variable {prog:Program}{w:Bj}{A:Bk}{E:Value->AL->Prop}{s:AL}{K:Frag}
end
end Att
namespace L2
open PySem PySem.Spec PyProof.Rows
theorem fW:∀{vs:List Value}{ns:List Int},DZ vs ns->Vals (ns.map V.int) vs
 | _,_,.nil=>.nil
 | _,_,.cons n t h=>.cons ⟨t,rfl⟩ (fW h)
abbrev KOf {K:AK}{h:Heap}(_:K.In h):AK:=K
def j7 (s:Stmt) (j:Nat):Stmt:=match s with
 | .ClassDef _ _ _ body _ _ _ _ _ _ _=>body.getD j (.Pass ⟨0,0,0,0⟩)
 | _=>.Pass ⟨0,0,0,0⟩
def bP (s:Stmt):Arguments:=match s with
 | .FunctionDef _ a _ _ _ _ _ _ _ _=>a
 | _=>{ posonlyargs:=[],args:=[],vararg:=none,kwonlyargs:=[],kw_defaults:=[],kwarg:=none,defaults:=[] }
def bq (s:Stmt):List Stmt:=match s with
 | .FunctionDef _ _ b _ _ _ _ _ _ _=>b
 | _=>[]
def ak (s:Stmt):Scope:=match s with
 | .FunctionDef _ _ _ _ _ _ sc _ _ _=>sc
 | _=>{ kind:=.function,names:=[],isGenerator:=false,isCoroutine:=false }
abbrev CX0:CXT:=fun _ _ _ _ _ _=>False
abbrev E0:XK:=fun _ _ _=>False
theorem aF {X:Cx}:d8 CX0 X E0:=fun _ _ _ _ _ _ _ h=>h.elim
structure Fun (K:AK) (x qual:Str) (st:Stmt) (f:Addr) (fd:Bg):Prop where
 ex:∃(oc:Value) (od:Option Addr) (kV doc pm:Value) (an:Option Addr) (cdv ct:Value) (osl:Array (Option Value)),
  fd=CW x qual (bP st) (bq st) (ak st) .none kV doc pm an cdv ct/\K.lookup f=some ⟨oc,od,.func fd,osl⟩/\D5 K cdv qual=true
 kp:DH K (.ref f)=true
section
variable {P:Program}{w:Bj}{K:AK}{mg:Str->Option Value}{base:Heap}
/-- THE RULE for a def: its body as a term of rules,and the reading of that term -/
theorem Fun.ok {x qual:Str}{st:Stmt}{f:Addr}{fd:Bg}{N ps:List Str}{k:Nat}{sp:Sp}(F:Fun K x qual st f fd) (S:aq N ps (ak st)) (len:∀vs H Q E,sp vs H Q E->vs.length=ps.length)
  (hbody:∀(cdv:Value) (A:Bk) (outer:List Env) (s:AL) (H:Hp) (vs:List V) (Q:VK) (E:XK),Room k (A.deeper (CJ qual (ak st) s.heap.objs.size f cdv))->sp vs H Q E ->
   ∃t,PSs (be CX0 P w K mg base N qual (ak st) f cdv A outer s H E).nox (bq st) t/\t { nx:=fun _ H'=>Q .non H',rt:=Q } (start N vs) H):aJ P w K mg base CX0 (k+1) f fd ps sp:=by
 obtain ⟨oc,od,kV,doc,pm,an,cdv,ct,osl,rfl,lk,hcd⟩:=F.ex
 refine uc lk hcd S len fun A outer s H vs Q E hr hsp=>?_
 obtain ⟨t,h,q⟩:=hbody cdv A outer s H vs Q E hr hsp
 exact ⟨t,h.nox,q⟩
theorem Fun.binds {x qual:Str}{st:Stmt}{f:Addr}{fd:Bg}{ps:List Str}(F:Fun K x qual st f fd)
  (h:∀(kV doc pm:Value) (an:Option Addr) (cdv ct:Value) (us:List Value),us.length=ps.length->Fh (CW x qual (bP st) (bq st) (ak st) .none kV doc pm an cdv ct) ⟨us,[]⟩=pure (ps.zip us)):Binds K fd ps []:=by
 obtain ⟨oc,od,kV,doc,pm,an,cdv,ct,osl,rfl,lk,hcd⟩:=F.ex
 exact .all (h kV doc pm an cdv ct)
theorem mH {x qual:Str}{st:Stmt}{f:Addr}{oc:Value}{od an:Option Addr}{osl:Array (Option Value)}{kV doc pm cdv ct:Value}(l:K.lookup f=some ⟨oc,od,.func (CW x qual (bP st) (bq st) (ak st) .none kV doc pm an cdv ct),osl⟩)
  (c:D5 K cdv qual=true) (k:DH K (.ref f)=true):Fun K x qual st f (CW x qual (bP st) (bq st) (ak st) .none kV doc pm an cdv ct):=⟨⟨oc,od,kV,doc,pm,an,cdv,ct,osl,rfl,l,c⟩,k⟩
end
theorem fK {A:Bk}{k:Nat}(hr:Room k A):A.units+1<cLine:=Nat.lt_of_le_of_lt (Nat.add_le_add_left (by decide:1<=64) _) hr.units
section
variable {X:Cx}
end
theorem gD {A B:Prop}(h:B):if false=true then A else B:=by
 rw [if_neg Bq]
 exact h
theorem k_ {A B:Prop}(h:A):if true=true then A else B:=by
 rw [if_pos rfl]
 exact h
theorem fc {c A B:Prop} [Decidable c] (h1:c->A) (h2:¬ c->B):if c then A else B:=by
 by_cases h:c
 ·rw [if_pos h]
  exact h1 h
 ·rw [if_neg h]
  exact h2 h
def Same (H H':Hp):Prop:=∀b o,H b=some o->H' b=some o
theorem Same.refl (H:Hp):Same H H:=fun _ _ h=>h
theorem Same.trans {H H1 H2:Hp}(a:Same H H1) (b:Same H1 H2):Same H H2:=fun c o h=>b c o (a c o h)
theorem Same.free {H H':Hp}(e:Same H H') {l:Addr}(h:H' l=Option.none):H l=Option.none:=by
 cases q:H l with
 | none=>rfl
 | some o =>
  rw [e l o q] at h
  cases h
theorem Same.seq {K:AK}{H H':Hp}{a:Addr}{xs:List V}(e:Same H H') (h:SqL K H a xs):SqL K H' a xs:=by
 rcases h with (h | ⟨o,h⟩) | h
 ·exact .inl (.inl (e _ _ h))
 ·exact .inl (.inr ⟨o,e _ _ h⟩)
 ·exact .inr h
end L2
namespace L2
open PySem
structure Flt (B:Heap) (l:List Env) (e:Addr) (cls:Value) (d:Option Addr) (fl:Value) (h:Heap):Prop where
 stays:B.StaysIn h
 new:B.get? e=none
 frames:h.FunFrames B l
 tr:∃ox ws T oT ts,h.get? e=some ox/\ox.cls=cls/\ox.dict=d/\ox.data=.fields ws/\ws[1]?=some (.ref T) /\
  B.get? T=none/\T≠e/\h.get? T=some oT/\oT.data=.fields ts/\ts[3]?=some fl
theorem qo (o:Obj) (f:Array Value->Array Value):(o.mapFields f).dict=o.dict:=by
 unfold DD
 split <;> rfl
section
variable {M:Model}{A:Bk}{E:Value->AL->Prop}{s:AL}{B:Heap}{env:Env}{outer l:List Env}{L e:Addr}{cls fl:Value}{d:Option Addr}{Q:Unit->AL->Prop}
theorem Flt.obj {h:Heap}(x:Flt B l e cls d fl h):∃ox ws,h.get? e=some ox/\ox.cls=cls/\ox.dict=d/\ox.data=.fields ws:=by
 obtain ⟨ox,ws,_,_,_,a1,a2,a3,a4,_⟩:=x.tr
 exact ⟨ox,ws,a1,a2,a3,a4⟩
theorem jf {ox:Obj}{ws:Array Value}{head:Value}{more:Bool}(hA:A.frames=some (env :: outer)) (hF:s.heap.FunFrames B (env :: outer)) (hL:env.frame=some L)
  (h1:s.heap.get? e=some ox) (hB:B.StaysIn s.heap) (hn:B.get? e=none) (hw:ox.data=.fields ws) (hz:1<ws.size)
  (k:∀h',Flt B (env :: outer) e ox.cls ox.dict (Cp L) h'->s.heap.UpToSlots h'->Q () { s with heap:=h' }) :
  A6 M A (do let a <- frameOf env; let pl <- entryPlaceOf L more; let b <- EntryCells.newEntry head a .none (Cp L) .none pl; setField (.ref e) 1 b) Q E s:=by
 have nf:e ∉ (env :: outer).filterMap (·.frame):=by
  intro z
  obtain ⟨_,o,q,r⟩:=hF.mem z
  rw [h1] at q
  cases q
  exact r ws hw
 refine AI (wpAny_frameOf_fun hA hF hL ?_)
 intro g1 k1
 refine AI (wpAny_entryPlaceOf ?_)
 intro pl hp
 unfold EntryCells.newEntry newFields
 refine AI (BE ?_ (hp.sizeOk5 _ _ _ _ _))
 have e1:g1.get? e=some ox:=(k1.2.1 e nf).trans h1
 have B1:B.StaysIn g1:=by
  intro b o q
  refine (k1.2.1 b ?_).trans (hB b o q)
  intro z
  rw [(hF.mem z).1] at q
  cases q
 generalize hR:({ cls:=.type "traceback",dict:=none,data:=.fields ([head,.ref L,.none,Cp L,.none]++(if pl.isEmpty then Bs 6 BY else pl)).toArray }:Obj)=R
 have R3:∃ts,R.data=.fields ts/\ts[3]?=some (Cp L):=by
  subst hR
  exact ⟨_,rfl,by simp⟩
 have Rf:R.isFreed=false:=by subst hR; rfl
 have e2:=AJ (h:=g1) R e1
 refine Dk e2 hw hz (k _ ?_ ?_)
 ·have hT:g1.objs.size≠e:=EA (A3 e1)
  have w3:=CK hw (·.setIfInBounds 1 (Bc g1.objs.size))
  have e3:=Cz (DD (·.setIfInBounds 1 (Bc g1.objs.size))) e2 (C4 w3)
  have T3:=(Cb (g1.push R) (DD (·.setIfInBounds 1 (Bc g1.objs.size))) (Cg hT)).trans (A5 g1 Rf)
  refine ⟨?_,hn,?_,?_⟩
  ·intro b o q
   have ne:e≠b:=by intro z; subst z; rw [hn] at q; cases q
   rw [Cb _ _ ne]
   exact AJ _ (B1 b o q)
  ·refine hF.of_keeps ?_
   intro b o q r
   obtain ⟨sl,z⟩:=k1.2.2 b o q
   have ne:e≠b:=by intro y; subst y; rw [h1] at q; cases q; exact r ws hw
   refine ⟨{ o with slots:=sl },?_,rfl⟩
   rw [Cb _ _ ne]
   exact AJ _ z
  ·obtain ⟨ts,r1,r2⟩:=R3
   exact ⟨_,_,g1.objs.size,R,ts,e3,Obj.cls_mapFields _ _,qo _ _,w3,by simp [hz],B1.fresh,hT,T3,r1,r2⟩
 ·intro b o q r
  obtain ⟨sl,z⟩:=k1.2.2 b o q
  have ne:e≠b:=by intro y; subst y; rw [h1] at q; cases q; exact r ws hw
  refine ⟨sl,?_⟩
  rw [Cb _ _ ne]
  exact AJ _ z
theorem l6 {ox:Obj}{ws:Array Value}(hA:A.frames=some (env :: outer)) (hF:s.heap.FunFrames B (env :: outer)) (hL:env.frame=some L)
  (h1:s.heap.get? e=some ox) (hB:B.StaysIn s.heap) (hn:B.get? e=none) (hw:ox.data=.fields ws) (hz:ws[1]?=some .none)
  (k:∀h',Flt B (env :: outer) e ox.cls ox.dict (Cp L) h'->s.heap.UpToSlots h'->Q () { s with heap:=h' }):A6 M A (noteFrame (.ref e) env) Q E s:=by
 unfold noteFrame
 simp only [hL]
 refine AI (B0 h1 hw hz ?_)
 rw [if_neg (by decide)]
 exact jf hA hF hL h1 hB hn hw (Cj.mp hz).1 k
theorem pY (hA:A.frames=some (env :: outer)) (hL:env.frame=some L) (x:Flt B (env :: outer) e cls d .none s.heap)
  (k:∀h',Flt B (env :: outer) e cls d (Cp L) h'->s.heap.UpToSlots h'->Q () { s with heap:=h' }):A6 M A (noteFrame (.ref e) env) Q E s:=by
 obtain ⟨ox,ws,T,oT,ts,a1,a2,a3,a4,a5,a6,a7,a8,a9,a10⟩:=x.tr
 subst a2 a3
 unfold noteFrame
 simp only [hL]
 refine AI (B0 a1 a4 a5 ?_)
 rw [if_pos (show (Bc T != BY)=true by simp)]
 refine AI (B0 a8 a9 a10 ?_)
 rw [if_neg (show ¬ ((BY == Cp L)=true) by simp [Cp])]
 refine AI (Dk a8 a9 (Cj.mp a10).1 ?_)
 have oth:∀b,b≠T->(s.heap.update T (DD (·.setIfInBounds 3 BY))).get? b=s.heap.get? b:=by
  intro b z
  exact Cb _ _ (Cg z)
 have nT:∀b o,s.heap.get? b=some o->(∀us,o.data≠.fields us)->b≠T:=by
  intro b o q r z
  rw [z,a8] at q
  cases q
  exact r ts a9
 refine jf hA ?_ hL ((oth e (Cg a7)).trans a1) ?_ x.new a4 (Cj.mp a5).1 ?_
 ·refine x.frames.of_keeps ?_
  intro b o q r
  exact ⟨o,(oth b (nT b o q r)).trans q,rfl⟩
 ·intro b o q
  refine (oth b ?_).trans (x.stays b o q)
  intro z
  rw [z,a6] at q
  cases q
 ·intro h' y1 y2
  refine k h' y1 ?_
  intro b o q r
  exact y2 b o ((oth b (nT b o q r)).trans q) r
theorem ud (x:Flt B l e cls d fl s.heap) (k:∀h',Flt B l e cls d .none h'->s.heap.UpToSlots h'->Q () { s with heap:=h' }):A6 M A (setFlight (.ref e) none) Q E s:=by
 obtain ⟨ox,ws,T,oT,ts,a1,a2,a3,a4,a5,a6,a7,a8,a9,a10⟩:=x.tr
 have z3:3<ts.size:=(Cj.mp a10).1
 have oth:∀b,b≠T->(s.heap.update T (DD (·.setIfInBounds 3 ((none:Option Addr).elim BY fun f=>Cp f)))).get? b=s.heap.get? b:=by
  intro b z
  exact Cb _ _ (Cg z)
 have nT:∀b o,s.heap.get? b=some o->(∀us,o.data≠.fields us)->b≠T:=by
  intro b o q r z
  rw [z,a8] at q
  cases q
  exact r ts a9
 unfold setFlight
 refine AI (B0 a1 a4 a5 ?_)
 rw [if_pos (show (Bc T != BY)=true by simp)]
 refine Dk a8 a9 z3 (k _ ⟨?_,x.new,?_,?_⟩ ?_)
 ·intro b o q
  refine (oth b ?_).trans (x.stays b o q)
  intro z
  rw [z,a6] at q
  cases q
 ·refine x.frames.of_keeps ?_
  intro b o q r
  exact ⟨o,(oth b (nT b o q r)).trans q,rfl⟩
 ·have w3:=CK a9 (·.setIfInBounds 3 ((none:Option Addr).elim BY fun f=>Cp f))
  exact ⟨ox,ws,T,_,_,(oth e (Cg a7)).trans a1,a2,a3,a4,a5,a6,a7,Cz _ a8 (C4 w3),w3,by simp [z3]⟩
 ·intro b o q r
  exact ⟨o.slots,(oth b (nT b o q r)).trans q⟩
theorem Flt.out {h:Heap}(x:Flt B (env :: outer) e cls d fl h):Flt B outer e cls d fl h:=by
 obtain ⟨a1,a2,⟨_,_,a3⟩,a4⟩:=x
 exact ⟨a1,a2,a3,a4⟩
theorem gu {ox:Obj}{ws:Array Value}(hA:A.frames=some (env :: outer)) (hF:s.heap.FunFrames B (env :: outer)) (hL:env.frame=some L)
  (h1:s.heap.get? e=some ox) (hB:B.StaysIn s.heap) (hn:B.get? e=none) (hw:ox.data=.fields ws) (hz:ws[1]?=some .none)
  (k:∀h',Flt B outer e ox.cls ox.dict .none h'->s.heap.UpToSlots h'->Q () { s with heap:=h' }):A6 M A (leaving env (.ref e)) Q E s:=by
 unfold leaving
 refine AI (l6 hA hF hL h1 hB hn hw hz ?_)
 intro h' x y
 refine ud x ?_
 intro h'' x' y'
 exact k h'' x'.out (y.trans y')
theorem mw (hA:A.frames=some (env :: outer)) (hL:env.frame=some L) (x:Flt B (env :: outer) e cls d .none s.heap)
  (k:∀h',Flt B outer e cls d .none h'->s.heap.UpToSlots h'->Q () { s with heap:=h' }):A6 M A (leaving env (.ref e)) Q E s:=by
 unfold leaving
 refine AI (pY hA hL x ?_)
 intro h' x y
 refine ud x ?_
 intro h'' x' y'
 exact k h'' x'.out (y.trans y')
end
end L2
namespace L2
open PySem PySem.Spec PyProof.Rows
def CX1 (P:Program) (w:Bj):CXT:=fun outer H s E e s' =>
 ∃(a:Addr) (cls:Value) (d:Option Addr) (B:Heap) (H':Hp),e=.ref a/\s'.os=s.os/\Eh s'.gens/\Un (frs outer) [] H H' s.heap s'.heap/\HOk P w H' s'.heap /\
  Flt B outer a cls d .none s'.heap/\H' a=none /\
  (∀b o,s.heap.get? b=some o->b ∉ frs outer->H b=none->B.get? b=some o) /\
  (∀b u,H' b=some u->∃o,B.get? b=some o) /\
  (∀b o,s.heap.get? b=some o->b∈frs outer\/∃o',B.get? b=some o')/\E cls d H'
theorem iA {env:Env}{outer:List Env}{L:Addr}(h:env.frame=some L):frs (env :: outer)=L :: frs outer:=by
 unfold frs
 rw [Ed,h]
theorem ObjOk.ex {P:Program}{w:Bj}{H:Hp}{h:Heap}{a:Addr}{o:HO}(x:ObjOk P w H h a o):∃ob,h.get? a=some ob:=by
 cases o with
 | lst xs=>obtain ⟨_,_,_,_,e⟩:=x; exact ⟨_,e⟩
 | tup xs=>obtain ⟨_,_,_,ob,e,_⟩:=x; exact ⟨_,e⟩
 | dK kvs=>obtain ⟨_,_,_,_,o,_,_,e,_⟩:=x; exact ⟨_,e⟩
 | dT kvs=>obtain ⟨_,_,_,_,o,_,_,e,_⟩:=x; exact ⟨_,e⟩
 | set S n=>obtain ⟨o,_,_,_,e,_⟩:=x; exact ⟨_,e⟩
 | ins C dx fs=>obtain ⟨_,_,_,e,_⟩:=x; exact ⟨_,e⟩
 | own y=>exact x
 | xd fs=>obtain ⟨_,⟨_,_,_,e,_⟩,_⟩:=x; exact ⟨_,e⟩
 | rng lo hi=>obtain ⟨_,_,_,e⟩:=x; exact ⟨_,e⟩
 | frz ob u=>obtain ⟨e,_⟩:=x; exact ⟨_,e⟩
 | tbl ps=>exact ⟨_,(show h.get? a=some _ from x)⟩
 | met f y=>exact ⟨_,(show h.get? a=some _ from x)⟩
 | ext φ=>obtain ⟨_,e,_⟩:=x; exact e
section
variable {X:Cx}{pins:List (Addr×Obj)}{σ:St}{H H':Hp}{s s1:AL}{B h':Heap}
theorem Inv.flown (I:Inv X pins σ H s) (os:s1.os=s.os) (bare:Eh s1.gens) (un:Un (frs X.stack) [] H H' s.heap s1.heap) (hok:HOk X.prog X.w H' s1.heap) (bs:B.StaysIn s1.heap)
  (b1:∀b o,s.heap.get? b=some o->b ∉ frs X.stack->H b=none->B.get? b=some o) (b2:∀b u,H' b=some u->∃o,B.get? b=some o)
  (b3:∀b o,s.heap.get? b=some o->b∈frs X.stack\/∃o',B.get? b=some o') (st:B.StaysIn h') (up:s1.heap.UpToSlots h'):Inv X pins σ H' { s1 with heap:=h' }:=by
 have nf:∀b∈frs X.stack,∀o,s.heap.get? b=some o->∀vs,o.data≠.fields vs:=fun b hb o e=>by
  obtain ⟨_,o',e',r⟩:=I.stack.mem hb
  rw [e] at e'
  cases e'
  exact r
 have sl:∀b o,s.heap.get? b=some o->b∈frs X.stack->∃sl,h'.get? b=some { o with slots:=sl }:=fun b o e hb=>by
  obtain ⟨s2,e2⟩:=un.slot b o e (I.stkFree b hb) hb (by simp)
  obtain ⟨s3,e3⟩:=up b _ e2 (nf b hb o e)
  exact ⟨s3,e3⟩
 refine I.call' (s':={ s1 with heap:=h' }) os ⟨fun b o e n hb _=>st b o (b1 b o e hb n),fun b o e n hb _=>sl b o e hb,un.free,fun b o e hx=>?_,un.tups,un.frzs,un.tbls⟩ (fun b u e=>?_) bare fun b z=>nomatch z
 ·rcases b3 b o e with z | ⟨o',z⟩
  ·obtain ⟨_,q⟩:=sl b o e z
   exact ⟨_,q⟩
  ·exact ⟨o',st b o' z⟩
 ·refine (hok b u e).stay (fun c v hc q=>?_) (fun _ q=>q) fun _ _ q=>q
  have ht:∃u',H' c=some u':=by
   rcases hc with rfl | hc
   ·exact ⟨u,e⟩
   ·exact ⟨_,hc⟩
  obtain ⟨u',hu⟩:=ht
  obtain ⟨o,ho⟩:=b2 c u' hu
  have q':=bs c o ho
  rw [q] at q'
  cases q'
  exact st c v ho
end
section
variable {P:Program}{w:Bj}{K:AK}{mg:Str->Option Value}{base:Heap}{N:List Str}{qual:Str}{scope:Scope}{f:Addr}{cd:Value}{A:Bk}{outer:List Env}{s₀:AL}{H₀:Hp}{E:XK}
theorem bI:d8 (CX1 P w) (be (CX1 P w) P w K mg base N qual scope f cd A outer s₀ H₀ E) E:=by
 intro pins σ H s e s1 I h
 obtain ⟨a,cls,d,B,H',rfl,os,bare,un,hok,fl,ha,b1,b2,b3,q⟩:=h
 have hfr:(CJ qual scope s₀.heap.objs.size f cd).frame=some s₀.heap.objs.size:=rfl
 refine mw (B:=B) (outer:=outer) I.ok.frames hfr fl fun h' x y=>?_
 have J:=I.flown (s1:=s1) os bare un hok fl.stays b1 b2 b3 x.stays y
 have nL:∀b o,s₀.heap.get? b=some o->b ∉ frs outer->b ∉ frs (CJ qual scope s₀.heap.objs.size f cd :: outer):=fun b o e hb z=>by
  rw [iA hfr] at z
  rcases AX.mp z with z | z
  ·exact absurd (A3 e) (by rw [z]; exact Cm _)
  ·exact hb z
 refine ⟨a,cls,d,B,H',rfl,J.os,J.bare,J.base,J.hok,x,ha,fun b o e hb n=>?_,b2,fun b o e=>?_,q⟩
 ·exact b1 b o (I.base.keep b o e n hb (by intro z; cases z)) (nL b o e hb) (I.base.free b o e n (by intro z; cases z))
 ·obtain ⟨o',e'⟩:=I.base.there b o e (by intro z; cases z)
  by_cases hb:b∈frs outer
  ·exact .inl hb
  ·rcases b3 b o' e' with z | z
   ·exact absurd z (nL b o e hb)
   ·exact .inr z
theorem mq {pins:List (Addr×Obj)}{σ:St}{H:Hp}{s:AL}{h1:Heap}{a:Addr}{cls:Value}{args:List Value}(I:Inv (be (CX1 P w) P w K mg base N qual scope f cd A outer s₀ H₀ E) pins σ H s)
  (mk:Heap.MadeExcOf s.heap h1 a cls args) (q:E cls none H):(be (CX1 P w) P w K mg base N qual scope f cd A outer s₀ H₀ E).xe (.ref a) { s with heap:=h1 }:=by
 have hfr:(CJ qual scope s₀.heap.objs.size f cd).frame=some s₀.heap.objs.size:=rfl
 have hstk:s.heap.FunFrames base (CJ qual scope s₀.heap.objs.size f cd :: outer):=I.stack
 have hin:∀env∈(CJ qual scope s₀.heap.objs.size f cd :: outer),∀b,env.frame=some b->b∈frs (CJ qual scope s₀.heap.objs.size f cd :: outer):=fun env he b hb=>Em.mpr ⟨env,he,hb⟩
 have hB:=PySem.W.funFrames_hide hstk hin
 generalize hBB:E8 s.heap (frs (CJ qual scope s₀.heap.objs.size f cd :: outer))=B at hB
 have inB:∀b o,s.heap.get? b=some o->b ∉ frs (CJ qual scope s₀.heap.objs.size f cd :: outer)->B.get? b=some o:=fun b o e n=>by rw [<- hBB]; exact PySem.W.hideAll_get _ e n
 have ofB:∀b o,B.get? b=some o->s.heap.get? b=some o:=fun b o e=>by rw [<- hBB] at e; exact PySem.W.of_hideAll _ e
 have fresh:∀b,s.heap.get? b=none->B.get? b=none:=fun b e=>by
  cases z:B.get? b with
  | none=>rfl
  | some o=>rw [ofB b o z] at e; cases e
 obtain ⟨t,e1,e2,e3⟩:=mk.there
 have htr:H a=none:=by
  cases z:H a with
  | none=>rfl
  | some u =>
   obtain ⟨ob,e⟩:=(I.hok a u z).ex
   rw [mk.new] at e
   cases e
 show A6 _ _ (leaving _ (.ref a)) _ _ _
 refine gu (B:=B) (outer:=outer) (s:={ s with heap:=h1 }) I.ok.frames (hB.of_keeps fun b o e _=>⟨o,mk.keeps b o e,rfl⟩) hfr e1 (fun b o e=>mk.keeps b o (ofB b o e)) (fresh a mk.new) rfl rfl fun h' x y=>?_
 have hok1:HOk P w H h1:=I.hok.kept mk.keeps
 have b3:∀b o,s.heap.get? b=some o->b∈frs (CJ qual scope s₀.heap.objs.size f cd :: outer)\/∃o',B.get? b=some o':=fun b o e=>by
  by_cases hb:b∈frs (CJ qual scope s₀.heap.objs.size f cd :: outer)
  ·exact .inl hb
  ·exact .inr ⟨o,inB b o e hb⟩
 have b2:∀b u,H b=some u->∃o,B.get? b=some o:=fun b u e=>by
  obtain ⟨o,eo⟩:=(I.hok b u e).ex
  refine ⟨o,inB b o eo fun z=>?_⟩
  rw [I.stkFree b z] at e
  cases e
 have J:=I.flown (s1:={ s with heap:=h1 }) (H':=H) rfl I.bare (Un.kept mk.keeps) hok1 (fun b o e=>mk.keeps b o (ofB b o e)) (fun b o e hb _=>inB b o e hb) b2 b3 x.stays y
 have nL:∀b o,s₀.heap.get? b=some o->b ∉ frs outer->b ∉ frs (CJ qual scope s₀.heap.objs.size f cd :: outer):=fun b o e hb z=>by
  rw [iA hfr] at z
  rcases AX.mp z with z | z
  ·exact absurd (A3 e) (by rw [z]; exact Cm _)
  ·exact hb z
 refine ⟨a,cls,none,B,H,rfl,J.os,J.bare,J.base,J.hok,x,htr,fun b o e hb n=>?_,b2,fun b o e=>?_,q⟩
 ·exact inB b o (I.base.keep b o e n hb (by intro z; cases z)) (nL b o e hb)
 ·obtain ⟨o',e'⟩:=I.base.there b o e (by intro z; cases z)
  by_cases hb:b∈frs outer
  ·exact .inl hb
  ·exact .inr ⟨o',inB b o' e' (nL b o e hb)⟩
end
theorem Fun.okX {P:Program}{w:Bj}{K:AK}{mg:Str->Option Value}{base:Heap}{x qual:Str}{st:Stmt}{f:Addr}{fd:Bg}{N ps:List Str}{k:Nat}{sp:Sp}(F:Fun K x qual st f fd) (S:aq N ps (ak st))
  (len:∀vs H Q E,sp vs H Q E->vs.length=ps.length)
  (hbody:∀(cdv:Value) (A:Bk) (outer:List Env) (s:AL) (H:Hp) (vs:List V) (Q:VK) (E:XK),Room k (A.deeper (CJ qual (ak st) s.heap.objs.size f cdv))->sp vs H Q E ->
   ∃t,PSs (be (CX1 P w) P w K mg base N qual (ak st) f cdv A outer s H E) (bq st) t/\t { nx:=fun _ H'=>Q .non H',rt:=Q } (start N vs) H):aJ P w K mg base (CX1 P w) (k+1) f fd ps sp:=by
 obtain ⟨oc,od,kV,doc,pm,an,cdv,ct,osl,rfl,lk,hcd⟩:=F.ex
 exact uc lk hcd S len fun A outer s H vs Q E hr hsp=>hbody cdv A outer s H vs Q E hr hsp
abbrev bmVE:List Value:=[.type "ValueError",.type "Exception",.type "BaseException",.type "object"]
theorem qk {K:AK}{h:Heap}{C:Addr}{bmB:List Value}{nid:String}(X:K.In h) (q:C8 K C bmB nid=true) :
  ∃bm N nm qn bs hd sn sub ab col dd k0 k1 k2 k3 k5 mN,h.get? C=some (Cw nm qn C N bs bm hd sn sub ab col dd k0 k1 k2 k3 k5 nid)/\h.Ns N mN/\mN "__init__"=none/\OwnTail h bmB bm:=by
 unfold C8 at q
 split at q
 ·rename_i dd cd sl ho
  split at q
  ·rename_i C2 bm k0 k1 k2 k3 n k5 hm hs
   rw [BG,BG,BG,BG,BG] at q
   obtain ⟨⟨⟨⟨⟨q1,q2⟩,q3⟩,q4⟩,q5⟩,q6⟩:=q
   have e1:=beq_iff_eq.mp q1
   have e2:=beq_iff_eq.mp q2
   have e6:=beq_iff_eq.mp q6
   subst e1 e2
   obtain ⟨nm,bs,mro,ns,qn,hd,sn,sub,ab,col,del⟩:=cd
   have e3:del=false:=by simpa using q3
   have hm':mro=.ref C2 :: bm:=hm
   subst e3 hm'
   have hsl:sl=#[k0,k1,k2,k3,some (.builtin n),k5]:=by
    cases sl with
    | mk l=>exact congrArg Array.mk hs
   subst hsl
   exact ⟨bm,ns,nm,qn,bs,hd,sn,sub,ab,col,dd,k0,k1,k2,k3,k5,_,X _ _ ho,.of_isNs (PySem.W.isNs_of_in X q5),PySem.W.nsMap_none_of_in X q5 e6,PySem.W.tail_of_in X q4⟩
  ·cases q
 ·cases q
def qM (C:Addr) (E:XK) (t:TA):TS:=fun _ σ H=>t σ H fun vs H1=>vs.length<=sizeLine/\E (.ref C) none H1
section
variable {P:Program}{w:Bj}{K:AK}{mg:Str->Option Value}{base:Heap}{N:List Str}{qual:Str}{scope:Scope}{f:Addr}{cd:Value}{A:Bk}{outer:List Env}{s₀:AL}{H₀:Hp}{E:XK}
theorem rL {x:Str}{C:Addr}{e:Expr}{es:List Expr}{t:TA}{np cpos pos:Pos}(hg:Gl (be (CX1 P w) P w K mg base N qual scope f cd A outer s₀ H₀ E) x) (hm:mg x=some (.ref C)) (hq:C8 K C bmVE "ValueError.__new__"=true)
  (ha:PA (be (CX1 P w) P w K mg base N qual scope f cd A outer s₀ H₀ E) (e :: es) t) (hd:(x == ("__debug__":Str))=false:=by decide)
  (he:Bz (e :: es) (be (CX1 P w) P w K mg base N qual scope f cd A outer s₀ H₀ E).env=(false,eval e (be (CX1 P w) P w K mg base N qual scope f cd A outer s₀ H₀ E).env) :: Bz es (be (CX1 P w) P w K mg base N qual scope f cd A outer s₀ H₀ E).env:=by rfl)
  (hpl:(Dx cpos (Bz es (be (CX1 P w) P w K mg base N qual scope f cd A outer s₀ H₀ E).env)).any (·.1)=false:=by rfl) :
  PS (be (CX1 P w) P w K mg base N qual scope f cd A outer s₀ H₀ E) (.Raise (some (.Call (.Name x np) (e :: es) [] cpos)) none pos) (qM C E t):=by
 intro pins s σ H D I h
 obtain ⟨bm,NN,nm,qn,bs,hdd,sn,sub,ab,col,dd,k0,k1,k2,k3,k5,mN,hC,hN,hni,T⟩:=qk I.mod.kin hq
 have hbase:bm.contains (.type "BaseException")=true:=T.hasType (by decide)
 refine wpAny_Raise_call_subU (C:=C) (nm:=nm) (q:=qn) (N:=NN) (bs:=bs) (bm:=bm) (hdct:=hdd) (sn:=sn) (sub:=sub) (ab:=ab) (col:=col) (dd:=dd) (k0:=k0) (k1:=k1) (k2:=k2) (k3:=k3) (k5:=k5) (mN:=mN)
  Dl (by decide:bmVE.contains (.type "ValueError")=true) Dl hbase (I.ok.hd rfl) ?_ hni (gM I hg hm ⟨rfl,?_⟩ hd)
 ·rw [he]
  show (false||(Dx cpos (Bz es _)).any (·.1))=false
  rw [hpl]
  rfl
 ·have hp:=ha cpos pins s σ H _ I h
  rw [he] at hp ⊢
  refine Du (thn hp ?_)
  rintro us s2 ⟨vs,H1,I2,r,hz,q⟩
  exact ⟨rfl,by rw [<- r.length]; exact hz,I2.bk _ _ hC,hN.keeps I2.bk,T.keeps I2.bk,fun h' a mk=>mq I2 mk q⟩
end
section
variable {X:Cx}{pins:List (Addr×Obj)}{σ:St}{H:Hp}{s:AL}
end
section
variable {X:Cx}{k:Nat}{f:Addr}{fd:Bg}{ps:List Str}{sp:Sp}{dvs:List V}{ds:List Value}{x:Str}{p pos:Pos}{e:Expr}{es:List Expr}{t:TA}
end
def ExcC (K:AK) (C:Addr) (bm:List Value) (nid:String):Prop :=
 ∃nm qn N bs hd sn sub ab col dd k0 k1 k2 k3 k5,K.lookup C=some (Cw nm qn C N bs bm hd sn sub ab col dd k0 k1 k2 k3 k5 nid)
theorem ExcC.mk {K:AK}{C N:Addr}{bm bs sub:List Value}{nid:String}{nm qn:Str}{hd ab:Bool}{sn:List Str}{col:Option Bool}{dd:Option Addr}{k0 k1 k2 k3 k5:Option Value}
  (h:K.lookup C=some (Cw nm qn C N bs bm hd sn sub ab col dd k0 k1 k2 k3 k5 nid)):ExcC K C bm nid:=⟨nm,qn,N,bs,hd,sn,sub,ab,col,dd,k0,k1,k2,k3,k5,h⟩
section
variable {X:Cx}
end
theorem qr {prog:Program}{w:Bj}{A:Bk}{R:Result->AL->Prop}{s:AL}{elt target iter:Expr}{sc:Scope}{pos:Pos}{it acc:Value}{env:Env}(J:Nat->AL->Prop)
  (turn:∀n s,J n s->A6 (Bf prog w) A (pyNext it) (fun r s1=>match r with
   | none=>R (.ok .next) s1
   | some v=>A6 (Bf prog w) A (Ei target it v) (fun _ s2=>A6 (Bf prog w) A (assign target env v) (fun _ s3=>A6 (Bf prog w) A (eval elt env) (fun x s4 =>
     A6 (Bf prog w) A (call (.builtin "list.append") [acc,x]) (fun _ s5=>∃m,m<n/\J m s5) (fun _ _=>False) s4) (fun _ _=>False) s3) (fun _ _=>False) s2) (fun _ _=>False) s1) (fun _ _=>False) s)
  (n:Nat) (h:J n s):EX (Bf prog w) A (.compLoop (.ListComp elt [⟨target,iter,[],0⟩] sc pos) 0 it acc env) R s:=by
 refine codeAny_loop rfl J ?_ n h
 intro n s hJ
 show A6 _ _ ((compTurn (.ListComp elt [⟨target,iter,[],0⟩] sc pos) 0 it acc env).onRaise (fun x=>do noteFrame x env; theTreesLotGoes x)) _ _ s
 refine wpAny_noted ?_
 rw [compTurn_list1]
 refine AI (DA (AI (Bw (turn n s hJ) ?_ fun _ _ z=>BB z)))
 intro r s1 h1
 cases r with
 | none=>exact AV h1
 | some v =>
  refine AI (Bw h1 ?_ fun _ _ z=>BB z)
  intro _ s2 h2
  refine AI (Bw h2 ?_ fun _ _ z=>BB z)
  intro _ s3 h3
  refine AI (AI (Bw h3 ?_ fun _ _ z=>BB z))
  intro x s4 h4
  refine AI (Bw h4 ?_ fun _ _ z=>BB z)
  intro _ s5 h5
  exact AV (AV ⟨rfl,h5⟩)
def bo (X:Cx) (sc:Scope) (N':List Str) (cl:List (Str×Addr)) (s2:AL) (H2:Hp) (C:Addr) (ex:List Addr):Cx :=
 { X with N:=N',s₀:=s2,H₀:=H2,env:=compEnvC sc cl C X.env,outer:=X.stack,ex:=ex,fn:=fun _=>false,pn:=[],xe:=fun _ _=>False }
def Caps (X:Cx) (sc:Scope) (cl:List (Str×Addr)):List Str->List Nat->Prop
 | [],[]=>True
 | y :: ys,j :: js=>X.N[j]?=some y/\X.env.kindOf y=some .cell/\cl.lookup y=X.env.cells.lookup y/\(relabel sc X.env).names.lookup y=some .cell/\Caps X sc cl ys js
 | _,_=>False
theorem Caps.get {X:Cx}{sc:Scope}{cl:List (Str×Addr)}:∀{ys:List Str}{js:List Nat}{i:Nat}{y:Str},Caps X sc cl ys js->ys[i]?=some y ->
  ∃j,js[i]?=some j/\X.N[j]?=some y/\X.env.kindOf y=some .cell/\cl.lookup y=X.env.cells.lookup y/\(relabel sc X.env).names.lookup y=some .cell
 | [],[],i,y,_,e=>by simp at e
 | _ :: _,j :: _,0,y,h,e=>by
  simp at e
  subst e
  exact ⟨j,rfl,h.1,h.2.1,h.2.2.1,h.2.2.2.1⟩
 | _ :: _,_ :: _,i+1,y,h,e=>by
  have q:=Caps.get (i:=i) (y:=y) h.2.2.2.2 (by simpa using e)
  simpa using q
 | [],_ :: _,_,_,h,_=>BB h
 | _ :: _,[],_,_,h,_=>BB h
theorem Caps.len {X:Cx}{sc:Scope}{cl:List (Str×Addr)}:∀{ys:List Str}{js:List Nat},Caps X sc cl ys js->ys.length=js.length
 | [],[],_=>rfl
 | _ :: _,_ :: _,h=>by simp [Caps.len h.2.2.2.2]
 | [],_ :: _,h=>BB h
 | _ :: _,[],h=>BB h
def d6 (σ:St) (js:List Nat):St:=js.map fun j=>(σ[j]?).join
def iO (J:It) (cap:St) (te:TE) (Q:VK) (H1:Hp):Prop:=∀D,H1 D=none->∃W:Nat->Nat->List V->Hp->Prop,(∃m,W 0 m [] (upd H1 D (.lst [])))/\∀i m ys H2,W i m ys H2->H2 D=some (.lst ys) /\
 ((J.stop i H2/\Q (.ref D) H2)\/(J.go i H2/\∀x H3,J.yld i H2 x H3->te (some x :: cap) H3 fun y H4=>H4 D=some (.lst ys)/\ys.length<sizeLine/\∃m',m'<m/\W (i+1) m' (ys++[y]) (upd H4 D (.lst (ys++[y])))))
def zx (wi:TI) (js:List Nat) (te:TE):TE:=fun σ H Q=>wi σ H fun J H1=>iO J (d6 σ js) te Q H1
def ClIn (env:Env):List (Str×Addr)->Prop
 | []=>True
 | p :: r=>env.cells.lookup p.1=some p.2/\ClIn env r
theorem ClIn.mem {env:Env}:∀{cl:List (Str×Addr)}{p:Str×Addr},ClIn env cl->p∈cl->env.cells.lookup p.1=some p.2
 | [],_,_,h=>by cases h
 | q :: r,p,k,h=>by
  rcases AX.mp h with z | z
  ·subst z; exact k.1
  ·exact ClIn.mem k.2 z
theorem Inv.but {X:Cx}{pins:List (Addr×Obj)}{σ:St}{H:Hp}{s:AL}{C:Addr}{h':Heap}(I:Inv X pins σ H s) (sb:By C s.heap h') (f:cH X pins H C) (hx:X.s₀.heap.get? C=none:=by assumption):Inv X pins σ H { s with heap:=h' }:=by
 obtain ⟨f0,f1,f2,f3,f4,f5⟩:=f
 have ne0:∀b o,X.s₀.heap.get? b=some o->b≠C:=fun b o e z=>by rw [z,hx] at e; cases e
 have cellS:∀{c v},c≠C->s.heap.IsCell c v->h'.IsCell c v:=fun hc ⟨o,ho,hd⟩=>⟨o,(sb.2 _ hc).trans ho,hd⟩
 refine ⟨I.ok,I.os,I.bare,⟨fun b o e n hb he=>(sb.2 b (ne0 b o e)).trans (I.base.keep b o e n hb he),fun b o e n hb he=>?_,I.base.free,fun b o e he=>?_,I.base.tups,I.base.frzs,I.base.tbls⟩,?_,fun x c e=>?_,I.free,I.freeC,fun p hp=>?_,fun b u e=>?_,I.len⟩
 ·obtain ⟨sl,q⟩:=I.base.slot b o e n hb he
  exact ⟨sl,(sb.2 b (ne0 b o e)).trans q⟩
 ·obtain ⟨o',q⟩:=I.base.there b o e he
  exact ⟨o',(sb.2 b (ne0 b o e)).trans q⟩
 ·obtain ⟨m,hm,hl⟩:=I.loc
  refine ⟨m,hm.sameBut sb (Cg f1),fun i x v e1 e2 e3=>?_⟩
  obtain ⟨u,r,l⟩:=hl i x v e1 e2 e3
  refine ⟨u,r,?_⟩
  rcases l with l | ⟨l1,c,l2,l3⟩
  ·exact .inl l
  ·exact .inr ⟨l1,c,l2,cellS (f4 _ _ l2) l3⟩
 ·obtain ⟨v,q⟩:=I.cell x c e
  exact ⟨v,cellS (f4 _ _ e) q⟩
 ·obtain ⟨q1,q2⟩:=I.pin p hp
  exact ⟨(sb.2 _ (f5 p hp)).trans q1,q2⟩
 ·refine (I.hok b u e).stay (fun c v hc z=>(sb.2 c ?_).trans z) (fun _ z=>z) fun _ _ z=>z
  rintro rfl
  rcases hc with hc | hc
  ·rw [<- hc,f0] at e; cases e
  ·rw [f0] at hc; cases hc
def CompedF (J:It) (cap:St) (tc:TT) (te:TE) (Q:VK) (H1:Hp):Prop:=∀D,H1 D=none->∃W:Nat->Nat->List V->Hp->Prop,(∃m,W 0 m [] (upd H1 D (.lst [])))/\∀i m ys H2,W i m ys H2->H2 D=some (.lst ys) /\
 ((J.stop i H2/\Q (.ref D) H2)\/(J.go i H2/\∀x H3,J.yld i H2 x H3->tc (some x :: cap) H3 fun b H4=>if b=true then te (some x :: cap) H4 fun y H5=>H5 D=some (.lst ys)/\ys.length<sizeLine/\∃m',m'<m/\W (i+1) m' (ys++[y]) (upd H5 D (.lst (ys++[y]))) else ∃m',m'<m/\W (i+1) m' ys H4))
def iN (J:It) (n:Nat) (cap:St) (g:TG) (tc:TT) (te:TE) (Q:VK) (H1:Hp):Prop:=∀D,H1 D=none->∃W:Nat->Nat->List V->Hp->Prop,(∃m,W 0 m [] (upd H1 D (.lst [])))/\∀i m ys H2,W i m ys H2->H2 D=some (.lst ys) /\
 ((J.stop i H2/\Q (.ref D) H2)\/(J.go i H2/\∀x H3 (xo:St),xo.length=n->J.yld i H2 x H3->g x (xo++cap) H3 fun σ6 H6=>(∃xo':St,xo'.length=n/\σ6=xo'++cap)/\tc σ6 H6 fun b H4=>if b=true then te σ6 H4 fun y H5=>H5 D=some (.lst ys)/\ys.length<sizeLine/\∃m',m'<m/\W (i+1) m' (ys++[y]) (upd H5 D (.lst (ys++[y]))) else ∃m',m'<m/\W (i+1) m' ys H4))
structure Lp (P:Program) (w:Bj) (A:Bk) (elt tgt iter:Expr) (cs:List Expr) (sc:Scope) (pos:Pos) (TS:Env->AL->(Bool->AL->Prop)->Prop):Prop where
 h:∀{R:Result->AL->Prop}{s:AL}{it acc:Value}{env:Env}(J:Nat->AL->Prop)
  (_:∀n s,J n s->A6 (Bf P w) A (pyNext it) (fun r s1=>match r with
   | none=>R (.ok .next) s1
   | some v=>A6 (Bf P w) A (Ei tgt it v) (fun _ s2=>A6 (Bf P w) A (assign tgt env v) (fun _ s3=>TS env s3 fun ok s6=>if ok=true then A6 (Bf P w) A (eval elt env) (fun x s4 =>
     A6 (Bf P w) A (call (.builtin "list.append") [acc,x]) (fun _ s5=>∃m,m<n/\J m s5) (fun _ _=>False) s4) (fun _ _=>False) s6 else ∃m,m<n/\J m s6) (fun _ _=>False) s2) (fun _ _=>False) s1) (fun _ _=>False) s)
  (n:Nat),J n s->EX (Bf P w) A (.compLoop (.ListComp elt [⟨tgt,iter,cs,0⟩] sc pos) 0 it acc env) R s
structure Tst (X:Cx) (sc:Scope) (N:List Str) (cl:List (Str×Addr)) (tc:TT) (TS:Env->AL->(Bool->AL->Prop)->Prop):Prop where
 h:∀{s2 H2 C ex pins s σ H} {P:Bool->Hp->Prop}{Y:Bool->AL->Prop},Inv (bo X sc N cl s2 H2 C ex) pins σ H s->tc σ H P->(∀b s',TP (bo X sc N cl s2 H2 C ex) pins σ P b s'->Y b s')->TS (bo X sc N cl s2 H2 C ex).env s Y
theorem Lp.no {P:Program}{w:Bj}{A:Bk}{elt tgt iter:Expr}{sc:Scope}{pos:Pos}:Lp P w A elt tgt iter [] sc pos fun _ s Y=>Y true s:=⟨fun J t n h=>qr J t n h⟩
def tTr:TT:=fun _ H P=>P true H
theorem Tst.no {X:Cx}{sc:Scope}{N:List Str}{cl:List (Str×Addr)}:Tst X sc N cl tTr fun _ s Y=>Y true s:=⟨fun I h f=>f _ _ ⟨_,I,h⟩⟩
structure CSd (X:Cx) (sc:Scope) (cl:List (Str×Addr)):Prop where
 hc:X.calm=true
 hcell:(sc.names.all fun p=>p.2 != D4.cell)=true
 hkind:sc.kind=.function
 hnames:(sc.names.all fun p=>p.2 != D4.local||sc.names.lookup p.1 == some D4.local)=true
 hhas:((relabel sc X.env).names.all fun p=>p.2 == D4.local||p.2 == D4.globalImplicit||(cl.lookup p.1).isSome)=true
theorem CompedF.up {J:It}{cap:St}{tc:TT}{te:TE}{Q:VK}{H:Hp}(h:CompedF J cap tc te Q H):iN J 1 cap (iz 0) tc te Q H:=fun D hD=>by
 obtain ⟨W,w0,t⟩:=h D hD
 refine ⟨W,w0,fun i m ys H2 w=>?_⟩
 obtain ⟨d,a⟩:=t i m ys H2 w
 refine ⟨d,a.imp id (And.imp id fun st x H3 xo hx y=>?_)⟩
 match xo,hx with
 | [o],_=>exact ⟨⟨[some x],rfl,rfl⟩,st x H3 y⟩
section
variable {X:Cx}{pos p2:Pos}{elt iter tgt:Expr}{cs:List Expr}{sc:Scope}{xs ys:List Str}{js:List Nat}{cl:List (Str×Addr)}{wi:TI}{te:TE}{tc:TT}{g:TG}{TS:Env->AL->(Bool->AL->Prop)->Prop}
theorem qg {pins:List (Addr×Obj)}{σ:St}{H:Hp}{s s4:AL}{fp:List Addr}{C:Addr}{H4:Hp}{m:Str->Option Value}(I:Inv X pins σ H s) (hf:∀b∈fp,cH X pins H b)
  (hkind:sc.kind=.function) (hcap:Caps X sc cl ys js) (hin:∀y c,cl.lookup y=some c->X.env.cells.lookup y=some c) (hhas:∀y,((relabel sc X.env).names.lookup y=some .cell\/(relabel sc X.env).names.lookup y=some .free)->∃c,cl.lookup y=some c)
  (hfl:∀b∈fp,b<s.heap.objs.size) (hC:s.heap.objs.size<=C) (hos:s4.os=s.os) (hb:Eh s4.gens) (un:Un (frs X.stack) fp H H4 s.heap s4.heap) (kp:∀b o,s.heap.get? b=some o->s4.heap.get? b=some o) (hn:s4.heap.Ns C m) (hC4:H4 C=none)
  (hok:HOk X.prog X.w H4 s4.heap):Inv (bo X sc (xs++ys) cl s H C fp) [] ((xs.map fun _=>none)++d6 σ js) H4 s4:=by
 have frb:∀b∈fp,b ∉ frs X.stack:=fun b hb z=>by
  rcases AX.mp (I.stkSub b z) with q | q
  ·exact (hf b hb).2.1 q
  ·exact (hf b hb).2.2.1 q
 refine ⟨⟨I.ok.mod,hkind,I.ok.glob,I.ok.blt,hC,fun y z c h1 h2=>I.ok.inj y z c (hin y c h1) (hin z c h2),hhas,(fun _ _ z=>nomatch z),I.ok.hd,I.ok.frames,.inl rfl,fun b z=>⟨?_,fun y c e=>?_⟩,I.bs,Bm I.ok.bsz I.sz,fun b o e z=>?_,frb,I.stack,I.stkFree⟩,
  hos,hb,un,⟨m,hn,fun i y v e1 e2 e3=>?_⟩,fun y c e=>?_,hC4,fun y c e=>?_,fun p hp=>?_,hok,?_⟩
 ·exact Bl (Bp (hfl b z) hC)
 ·exact (hf b z).2.2.2.2.1 y c (hin y c e)
 ·rcases (hf b z).2.2.2.1 with q | q
  ·exact I.ok.noex b o e q
  ·exact absurd (Bp (A3 e) (Bm I.ok.bsz q)) (Cm _)
 ·by_cases hlt:i<xs.length
  ·rw [Ca (by rw [AH]; exact hlt),AR,AN hlt] at e2
   have z:(none:Option V)=some v:=by simpa using e2
   cases z
  ·have e1':ys[i-xs.length]?=some y:=by
    have e1:(xs++ys)[i]?=some y:=e1
    rw [BR (by omega)] at e1
    exact e1
   have e2':(d6 σ js)[i-xs.length]?=some (some v):=by
    rw [BR (by rw [AH]; omega),AH] at e2
    exact e2
   obtain ⟨j,q1,q2,q3,q4,q5⟩:=hcap.get e1'
   unfold d6 at e2'
   rw [AR,q1] at e2'
   have e2'':(σ[j]?).join=some v:=by simpa using e2'
   have e3':σ[j]?=some (some v):=by
    cases z:σ[j]? with
    | none=>rw [z] at e2''; cases e2''
    | some o =>
     cases o with
     | none=>rw [z] at e2''; cases e2''
     | some w'=>rw [z] at e2''; cases e2''; rfl
   obtain ⟨m0,_,hl⟩:=I.loc
   obtain ⟨u,r,l⟩:=hl j y v q2 e3' (.inr (.inl q3))
   refine ⟨u,r,.inr ⟨.inl q5,?_⟩⟩
   rcases l with ⟨l1,_⟩ | ⟨_,c,l2,l3⟩
   ·rw [q3] at l1; cases l1
   ·obtain ⟨o,ho,hd⟩:=l3
    exact ⟨c,q4.trans l2,o,kp c o ho,hd⟩
 ·obtain ⟨v,o,ho,hd⟩:=I.cell y c (hin y c e)
  exact ⟨v,o,kp c o ho,hd⟩
 ·obtain ⟨v,o,ho,hd⟩:=I.cell y c (hin y c e)
  exact un.free c o ho (I.freeC y c (hin y c e)) fun z=>(hf c z).2.2.2.2.1 y c (hin y c e) rfl
 ·exact absurd (show p∈([]:List (Addr×Obj)) from hp) (by simp)
 ·show ((xs.map fun _=>(none:Option V))++d6 σ js).length=(xs++ys).length
  unfold d6
  rw [AW,AW,AH,AH,hcap.len]
theorem qt {u:Option (Value->Sem Unit)}{QQ:Value->AL->Prop}{KV:VK}{R:It->Hp->Prop}{pins:List (Addr×Obj)}{s:AL}{σ:St}{H:Hp}(hl:Lp X.prog X.w X.A elt tgt iter cs sc pos TS) (ht:Tst X sc (xs++ys) cl tc TS) (hclos:Fj sc X.env=pure cl) (sd:CSd X sc cl)
  (hcap:Caps X sc cl ys js) (hin:ClIn X.env cl) (hi:PI X.nox tgt iter wi) (hg:∀s2 H2 C ex,PG (bo X sc (xs++ys) cl s2 H2 C ex) tgt g) (he:∀s2 H2 C ex,PE (bo X sc (xs++ys) cl s2 H2 C ex) elt te) (hs:∀v,DY iter X.env v=pure v)
  (I:Inv X pins σ H s) (h:wi σ H R) (up:∀J H1,R J H1->iN J xs.length (d6 σ js) g tc te KV H1)
  (fin:∀{s2:AL}{H2:Hp}{C:Nat}{fp:List Addr}{σ':St}{H':Hp}{s':AL},Inv X pins σ H2 s2->(∀b∈fp,cH X pins H2 b)->C=s2.heap.objs.size+1->Inv (bo X sc (xs++ys) cl s2 H2 C fp) [] σ' H' s'->KV (.ref s2.heap.objs.size) H' ->
   compPost (Bf X.prog X.w) X.A (fun _ _=>False) u QQ (.ref s2.heap.objs.size) C (.ok .next) s') :
  A6 (Bf X.prog X.w) X.A (comprehension (.ListComp elt [⟨tgt,iter,cs,0⟩] sc pos) sc X.env p2 (newList []) false (eval iter X.env) u) QQ (fun _ _=>False) s:=by
 have hc:=sd.hc
 have hkind:=sd.hkind
 have hnames:∀y∈sc.names,y.2=.local->sc.names.lookup y.1=some .local:=fun y hy z=>by
  have:=DI.mp sd.hnames y hy
  rw [z] at this
  simpa using this
 have hcell:∀y∈sc.names,y.2≠.cell:=fun y hy z=>by
  have:=DI.mp sd.hcell y hy
  rw [z] at this
  exact absurd this (by decide)
 have hhas:∀y,((relabel sc X.env).names.lookup y=some .cell\/(relabel sc X.env).names.lookup y=some .free)->∃c,cl.lookup y=some c:=fun y h=>by
  rcases h with h | h
  ·exact CA.mp (by simpa using DI.mp sd.hhas _ (BO h))
  ·exact CA.mp (by simpa using DI.mp sd.hhas _ (BO h))
 have hin:∀y c,cl.lookup y=some c->X.env.cells.lookup y=some c:=fun y c e=>hin.mem (BO e)
 refine wpAny_comprehension_free rfl hs hclos hkind hnames (Bw (hi pins s σ H _ (I.wish _) h) ?_ fun _ _ z=>BB z)
 intro v s1 h1
 refine Bw h1 ?_ fun _ _ z=>BB z
 rintro itv s2 ⟨it,fp,tn,J,H2,rfl,I2w,T,st2,f2w,q⟩
 have I2:=I2w.unwish
 have f2:∀b∈fp,cH X pins H2 b:=f2w
 refine BE (wpAny_newFunctionEnv hcell (by intro y hy; simp at hy) (fun h4 hns hsb=>?_) hkind)
 dsimp only at hns hsb ⊢
 generalize hE:s2.heap.push { cls:=.type "list",dict:=none,data:=.seq ([]:List Value).toArray }=g3 at hns hsb ⊢
 have hsz:g3.objs.size=s2.heap.objs.size+1:=by rw [<- hE,D7]
 have hDC:s2.heap.objs.size≠g3.objs.size:=by omega
 have old:∀b o,s2.heap.get? b=some o->h4.get? b=some o:=fun b o e=>by
  have lt:b<s2.heap.objs.size:=A3 e
  rw [hsb.2 b (Bl (by rw [hsz]; exact EE lt))]
  exact AJ _ (hE ▸ AJ _ e)
 have hD0:H2 s2.heap.objs.size=none:=I2.hok.fresh (AM _)
 have hC0:H2 g3.objs.size=none:=I2.hok.fresh (by omega)
 have hDat:h4.get? s2.heap.objs.size=some { cls:=.type "list",data:=.seq ([]:List Value).toArray }:=by
  rw [hsb.2 _ hDC]
  exact AJ _ (hE ▸ A5 _ rfl)
 obtain ⟨W,⟨m0,w0⟩,turn⟩:=up _ _ q s2.heap.objs.size hD0
 have hfl:∀b∈fp,b<s2.heap.objs.size:=fun b hb=>by
  obtain ⟨o,e,_⟩:=T.obj _ _ st2 b hb
  exact A3 e
 have J0:Inv (bo X sc (xs++ys) cl s2 H2 g3.objs.size fp) [] ((xs.map fun _=>none)++d6 σ js) (upd H2 s2.heap.objs.size (.lst [])) { s2 with heap:=h4,toks:=s2.toks+([]:List (Str×Value)).length }:=by
  refine qg (xs:=xs) (m:=fun y=>([]:List (Str×Value)).reverse.lookup y) I2 f2 hkind hcap hin hhas hfl (by omega) rfl I2.bare (Un.laid old (AM _) hD0) old hns ?_ ?_
  ·rw [aj (Cg hDC)]; exact hC0
  ·exact I2.hok.laid old (AM _) ⟨Bo _,[],0,.nil,hDat⟩
 have st4:tn 0 h4:=T.keep _ _ _ st2 fun b hb o e=>old b o e
 have xcell:∀y c,(bo X sc (xs++ys) cl s2 H2 g3.objs.size fp).env.cells.lookup y=some c->X.env.cells.lookup y=some c:=hin
 have stat:∀{H':Hp},(∀b∈fp,H' b=none)->∀b∈fp,cH (bo X sc (xs++ys) cl s2 H2 g3.objs.size fp) [] H' b:=fun hn b hb=>by
  refine ⟨hn b hb,?_,?_,.inl hb,fun y c e=>(f2 b hb).2.2.2.2.1 y c (hin y c e),fun p hp=>absurd (show p∈([]:List (Addr×Obj)) from hp) (by simp)⟩
  ·have lt:b<s2.heap.objs.size:=hfl b hb
   exact Bl (by show b<g3.objs.size; rw [hsz]; exact EE lt)
  ·intro z
   rcases AX.mp (I2.stkSub b z) with q | q
   ·exact (f2 b hb).2.1 q
   ·exact (f2 b hb).2.2.1 q
 have loop:∀s4:AL,s4={ s2 with heap:=h4,toks:=s2.toks+([]:List (Str×Value)).length } ->
   EX (Bf X.prog X.w) X.A (.compLoop (.ListComp elt [⟨tgt,iter,cs,0⟩] sc pos) 0 (.ref it) (.ref s2.heap.objs.size) (compEnvC sc cl g3.objs.size X.env))
    (compPost (Bf X.prog X.w) X.A (fun _ _=>False) u QQ (.ref s2.heap.objs.size) g3.objs.size) s4:=by
  rintro s4 rfl
  refine hl.h (fun n s'=>∃(i:Nat) (xo:St) (ys':List V) (H':Hp),xo.length=xs.length/\Inv (bo X sc (xs++ys) cl s2 H2 g3.objs.size fp) [] (xo++d6 σ js) H' s'/\tn i s'.heap/\(∀b∈fp,H' b=none)/\W i n ys' H') ?_ m0 ⟨0,xs.map fun _=>none,[],_,by rw [AH],J0,st4,fun b hb=>?_,w0⟩
  ·rintro n s' ⟨i,xo,ys',H',hxo,J',st',fr',w'⟩
   obtain ⟨hD,alt⟩:=turn i n ys' H' w'
   rcases alt with ⟨stop,qn⟩ | ⟨go,step⟩
   ·refine Bw (T.done (bo X sc (xs++ys) cl s2 H2 g3.objs.size fp) rfl rfl rfl hc i [] s' _ H' (fun _ _=>False) J' (stat fr') st' stop) ?_ fun _ _ z=>z
    rintro r s'' ⟨rfl,J''⟩
    exact fin I2 f2 hsz J'' qn
   ·refine Bw (T.item (bo X sc (xs++ys) cl s2 H2 g3.objs.size fp) rfl rfl rfl hc i [] s' _ H' (fun _ _=>False) J' (stat fr') st' go) ?_ fun _ _ z=>z
    rintro r s'' ⟨u,rfl,hu⟩
    refine Bw hu ?_ fun _ _ z=>z
    rintro _ s5 ⟨xv,H5,J5,r5,y5,st5,fr5⟩
    have J5':=J5.pinned (stat fr5) (T.obj _ _ st5)
    refine Bw (hg s2 H2 g3.objs.size fp _ s5 _ H5 xv u _ J5' r5 (step xv H5 xo hxo y5)) ?_ fun _ _ z=>z
    rintro _ s6 ⟨σ6,H6,J6,⟨xo',hxo',rfl⟩,h6⟩
    refine ht.h J6 h6 ?_
    rintro okb s9 ⟨H9,J9,c9⟩
    cases okb with
    | false =>
     rw [if_neg Bq] at c9 ⊢
     obtain ⟨m',hm',w7⟩:=c9
     have pinned:∀b∈fp,∀o,s5.heap.get? b=some o->s9.heap.get? b=some o/\H9 b=none:=fun b hb o e=>by
      obtain ⟨q1,q2,_⟩:=J9.pin (b,o) (Bb _ (Bb _ (dz hb e)))
      exact ⟨q1,q2⟩
     refine ⟨m',hm',i+1,xo',ys',_,hxo',J9.unpinned,T.keep _ _ _ st5 fun b hb o e=>(pinned b hb o e).1,fun b hb=>?_,w7⟩
     obtain ⟨o,e,_⟩:=T.obj _ _ st5 b hb
     exact (pinned b hb o e).2
    | true =>
     rw [if_pos rfl] at c9 ⊢
     refine Bw (he s2 H2 g3.objs.size fp _ s9 _ H9 _ J9 c9) ?_ fun _ _ z=>z
     rintro yv s7 ⟨yy,H7,J7,r7,hD7,hlen,m',hm',w7⟩
     refine Bw (jg (X:=bo X sc (xs++ys) cl s2 H2 g3.objs.size fp) _ s7 _ H7 (.ref s2.heap.objs.size) [yy] (.ref s2.heap.objs.size) [yv] (fun _ H8=>H8=upd H7 s2.heap.objs.size (.lst (ys'++[yy]))) J7 rfl (.cons r7 .nil) ⟨_,ys',yy,rfl,rfl,hD7,hlen,rfl⟩) ?_ fun _ _ z=>z
     rintro _ s8 ⟨_,H8,J8,_,rfl⟩
     have pinned:∀b∈fp,∀o,s5.heap.get? b=some o->s8.heap.get? b=some o/\(upd H7 s2.heap.objs.size (.lst (ys'++[yy]))) b=none:=fun b hb o e=>by
      obtain ⟨q1,q2,_⟩:=J8.pin (b,o) (Bb _ (Bb _ (dz hb e)))
      exact ⟨q1,q2⟩
     refine ⟨m',hm',i+1,xo',ys'++[yy],_,hxo',J8.unpinned,T.keep _ _ _ st5 fun b hb o e=>(pinned b hb o e).1,fun b hb=>?_,w7⟩
     obtain ⟨o,e,_⟩:=T.obj _ _ st5 b hb
     exact (pinned b hb o e).2
  ·rw [aj (Bl (hfl b hb))]
   exact (f2 b hb).1
 exact codeAny_compStart_list (loop _ rfl) (T.self _ _ _ _ _ st4 (loop _ rfl))
theorem y3 {R:St->VK->It->Hp->Prop}(up:∀ σ Q J H1,R σ Q J H1->iN J xs.length (d6 σ js) g tc te Q H1) (hl:Lp X.prog X.w X.A elt tgt iter cs sc pos TS) (ht:Tst X sc (xs++ys) cl tc TS) (hclos:Fj sc X.env=pure cl) (sd:CSd X sc cl)
  (hcap:Caps X sc cl ys js) (hin:ClIn X.env cl) (hi:PI X.nox tgt iter wi) (hg:∀s2 H2 C ex,PG (bo X sc (xs++ys) cl s2 H2 C ex) tgt g) (he:∀s2 H2 C ex,PE (bo X sc (xs++ys) cl s2 H2 C ex) elt te) (hs:∀v,DY iter X.env v=pure v) :
  PE X (.ListComp elt [⟨tgt,iter,cs,0⟩] sc pos) fun σ H Q=>wi σ H (R σ Q):=by
 intro pins s σ H Q I h
 rw [eval_ListComp]
 refine Bw (qt (u:=none) (QQ:=EP X pins σ Q) hl ht hclos sd hcap hin hi hg he hs I h (up σ Q) (fun {s2 H2 C fp σ' H' s'} I2 f2 hsz J' q'=>by
  obtain ⟨m,hm,_⟩:=J'.loc
  refine ⟨m,hm,fun h' sb=>?_⟩
  have neC:∀b o,s2.heap.get? b=some o->b≠C:=fun b o e=>by
   have lt:b<s2.heap.objs.size:=A3 e
   exact Bl (by rw [hsz]; exact EE lt)
  have ub:=J'.base
  refine ⟨.ref s2.heap.objs.size,H',?_,rfl,q'⟩
  refine I2.call' (s':={ s' with heap:=h' }) (ch:=fp) J'.os ⟨fun b o e n hb hx=>(sb.2 b (neC b o e)).trans (ub.keep b o e n hb hx),fun b o e n hb hx=>?_,ub.free,fun b o e hx=>?_,ub.tups,ub.frzs,ub.tbls⟩ (fun b u e=>?_) J'.bare fun b hb=>⟨(f2 b hb).2.2.2.1,(f2 b hb).2.1,(f2 b hb).2.2.2.2.1,(f2 b hb).2.2.2.2.2⟩
  ·obtain ⟨sl,e1⟩:=ub.slot b o e n hb hx
   exact ⟨sl,(sb.2 b (neC b o e)).trans e1⟩
  ·obtain ⟨o',e1⟩:=ub.there b o e hx
   exact ⟨o',(sb.2 b (neC b o e)).trans e1⟩
  ·have hCn:H' C=none:=J'.free
   refine (J'.hok b u e).stay (fun c v hc z=>(sb.2 c ?_).trans z) (fun _ z=>z) fun _ _ z=>z
   rintro rfl
   rcases hc with hc | hc
   ·rw [<- hc,hCn] at e; cases e
   ·rw [hCn] at hc; cases hc)) (fun _ _ z=>z) fun _ _ z=>BB z
end
section
variable {X:Cx}
end
mutual
inductive Den (K:AK) (H:Hp):V->PyData->Prop
 | non:Den K H .non .none
 | bl (b:Bool):Den K H (.bl b) (.bool b)
 | int (i:Int):Den K H (.int i) (.int i)
 | str (x:Str):Den K H (.str x) (.str x)
 | lst {a:Addr}{xs:List V}{ds:List PyData}:SqL K H a xs->DenAll K H xs ds->Den K H (.ref a) (.list ds)
 | tup {a:Addr}{xs:List V}{ds:List PyData}:SqT K H a xs->DenAll K H xs ds->Den K H (.ref a) (.tuple ds)
inductive DenAll (K:AK) (H:Hp):List V->List PyData->Prop
 | nil:DenAll K H [] []
 | cons {x:V}{xs:List V}{d:PyData}{ds:List PyData}:Den K H x d->DenAll K H xs ds->DenAll K H (x :: xs) (d :: ds)
end
section
variable {X:Cx}{pins:List (Addr×Obj)}{σ:St}{H:Hp}{s:AL}
mutual
theorem Den.reads (I:Inv X pins σ H s):∀{v:V}{d:PyData}{u:Value},Den X.K H v d->RelV v u->∃as,Reads s.heap u d as
 | _,_,_,.non,r=>by cases r; exact ⟨_,.none⟩
 | _,_,_,.bl b,r=>by cases r; exact ⟨_,.bool b⟩
 | _,_,_,.int i,r=>by obtain ⟨t,rfl⟩:=r; exact ⟨_,.int i t⟩
 | _,_,_,.str x,r=>by obtain ⟨t,rfl⟩:=r; exact ⟨_,.str x t⟩
 | _,_,_,.lst hS ha,r=>by
  cases r
  obtain ⟨its,rv,⟨o,n,e,c,_,d⟩,_⟩:=I.list hS
  obtain ⟨as,ra⟩:=DenAll.reads I ha rv
  exact ⟨_,.list e c d (by simpa using ra)⟩
 | _,_,_,.tup hS ha,r=>by
  cases r
  obtain ⟨its,rv,⟨o,e,c,n,d⟩,_⟩:=I.tuple hS
  obtain ⟨as,ra⟩:=DenAll.reads I ha rv
  exact ⟨_,.tuple e c d (by simpa using ra)⟩
theorem DenAll.reads (I:Inv X pins σ H s):∀{vs:List V}{ds:List PyData}{us:List Value},DenAll X.K H vs ds->Vals vs us->∃as,ReadsAll s.heap us ds as
 | _,_,_,.nil,r=>by cases r; exact ⟨_,.nil⟩
 | _,_,_,.cons h t,r=>by
  cases r with
  | cons r1 r2 =>
   obtain ⟨as,ra⟩:=Den.reads I h r1
   obtain ⟨bs,rb⟩:=DenAll.reads I t r2
   exact ⟨_,.cons ra rb⟩
end
end
section
variable {X:Cx}
def As (K:AK):R2:=fun x y H Q=>∃da db,Den K H x da/\Den K H y db/\da.canLay0=true/\db.canLay0=true/\min da.depth db.depth<=60/\Q (.bl (PyData.eqv da db)) H
def Ar (K:AK):R2:=fun x y H Q=>∃da db,Den K H x da/\Den K H y db/\da.canLay0=true/\db.canLay0=true/\min da.depth db.depth<=60/\Q (.bl (!PyData.eqv da db)) H
theorem yt {k:Nat}(hr:Room k X.A):OpR X (CP .Eq) (As X.K):=by
 intro pins s σ H x y v u Q I rx ry h
 obtain ⟨da,db,ha,hb,ca,cb,hd,q⟩:=h
 obtain ⟨as,ra⟩:=ha.reads I rx
 obtain ⟨bs,rb⟩:=hb.reads I ry
 have hu:=hr.units
 exact PySem.SeqAt.compareEq_reads ra rb ca cb (by omega) ⟨.bl _,H,I,rfl,q⟩
theorem h9 {k:Nat}(hr:Room k X.A):OpR X (CP .NotEq) (Ar X.K):=by
 intro pins s σ H x y v u Q I rx ry h
 obtain ⟨da,db,ha,hb,ca,cb,hd,q⟩:=h
 obtain ⟨as,ra⟩:=ha.reads I rx
 obtain ⟨bs,rb⟩:=hb.reads I ry
 have hu:=hr.units
 exact PySem.SeqAt.compareNe_reads ra rb ca cb (by omega) ⟨.bl _,H,I,rfl,q⟩
def iV:V->Value
 | .ref a=>.ref a
 | .ty n=>.type n
 | _=>.none
theorem gz:bV X (.builtin "isinstance") (fun xs H Q=>∃x c t b,xs=[x,c]/\TyOf X.K H x t/\(c=.ref (match c with | .ref a=>a | _=>0)\/∃n,c=.ty n)/\DG X.K t (iV c)=some b/\Q (.bl b) H):=by
 intro pins s σ H xs us Q I r h
 obtain ⟨x,c,t,b,rfl,ty,hc,hk,q⟩:=h
 obtain ⟨u,w',rfl,rx,rc⟩:=qF r
 have e:w'=iV c:=by
  cases c with
  | ref a=>exact rc
  | ty n=>exact rc
  | _=>rcases hc with z | ⟨n,z⟩ <;> cases z
 subst e
 exact qe I rx ty hk fun tk=>⟨.bl b,H,I.tok _,rfl,q⟩
end
end L2
namespace L2
open PySem PySem.W
section
variable {prog:Program}{w:Bj}{A:Bk}{E:Value->AL->Prop}{K:Frag}{x C:Addr}{ox:Obj}{od:Option Obj}{name:Str}
end
end L2
namespace L2
open PySem PySem.Spec PyProof.Rows
structure AD (K:AK) (C:Addr):Prop where
 hm:EW K C (.type "BaseException")=some true
 hmo:EW K C (.type "object")=some true
 hga:BN K (.ref C) "__getattribute__"=some (some (.builtin "BaseException.__getattribute__"))
 hgn:BN K (.ref C) "__getattr__"=some none
 hc:(PySem.W.clsIn K C).isSome=true
 ha:BN K (.ref C) "__class__"=some (some (.builtin "object.__class__"))
 hn:PySem.W.specialIn K (.builtin "object.__class__") "__get__"=some (some (.builtin "getset_descriptor.__get__"))
 ht:PySem.W.takesIn K (.builtin "object.__class__")=some true
section
variable {X:Cx}
end
theorem Same.new {H:Hp}{p:Addr}(h:H p=none) (o:HO):Same H (upd H p o):=fun b u q=>by rw [aj (am q h)]; exact q
theorem Same.seqT {K:AK}{H H':Hp}{a:Addr}{xs:List V}(e:Same H H') (h:SqT K H a xs):SqT K H' a xs:=by
 rcases h with (h | ⟨o,h⟩) | h
 ·exact .inl (.inl (e _ _ h))
 ·exact .inl (.inr ⟨o,e _ _ h⟩)
 ·exact .inr h
def Def (P:Program) (w:Bj) (K:AK) (mg:Str->Option Value) (base:Heap) (CX:CXT) (x:Str) (k:Nat) (ps:List Str) (sp:Sp):Prop :=
 ∃f fd,aJ P w K mg base CX k f fd ps sp/\Binds K fd ps []/\DH K (.ref f)=true/\mg x=some (.ref f)
section
variable {X:Cx}{CX:CXT}{j k:Nat}{ps:List Str}{sp:Sp}{E:XK}{x:Str}{p pos:Pos}{e:Expr}{es:List Expr}{t:TA}
theorem so (D:Def X.prog X.w X.K X.mg X.base CX x j ps sp) (hr:Room k X.A) (hx:d8 CX X E) (ha:PA X (e :: es) t) (hj:j<=k:=by decide) (hg:Gl X x:=by rfl)
  (hdb:(x == ("__debug__":Str))=false:=by decide) (he:Bz (e :: es) X.env=(false,eval e X.env) :: Bz es X.env:=by rfl) (hpl:(Dx pos (Bz es X.env)).any (·.1)=false:=by rfl) :
  PE X (.Call (.Name x p) (e :: es) [] pos) (mX sp [] E t):=by
 obtain ⟨f,fd,F,b,kk,m⟩:=D
 exact vF F (hr.mono hj) hg m kk b .nil hx ha hdb he hpl
theorem xi:d8 (CX1 X.prog X.w) X E0:=fun _ _ _ _ _ _ _ h=>by
 obtain ⟨a,cls,d,B,H',_,_,_,_,_,_,_,_,_,_,q⟩:=h
 exact q.elim
def zw (t:TS):TS:=fun D σ H=>∃P:St->Hp->Prop,t { D with nx:=P } σ H/\∀ σ' H',P σ' H'->D.nx σ' H'
theorem yc {st:Stmt}{t:TS}(h:PS X st t):PS X st (zw t):=by
 rintro pins s σ H D I ⟨P,hp,hq⟩
 refine thn (h pins s σ H _ I hp) fun f s' q=>?_
 cases f with
 | next =>
  obtain ⟨σ',H',I',q⟩:=q
  exact ⟨σ',H',I',hq _ _ q⟩
 | brk=>exact q
 | cont=>exact q
 | ret v=>exact q
end
def aG (K:AK) (x:Str) (st:Stmt):Prop:=∃f fd,A4 K AY x=some (some (.ref f))/\Fun K x x st f fd
theorem funIn_mk {K:AK}{x:Str}{st:Stmt}{f:Addr}{oc:Value}{od an:Option Addr}{osl:Array (Option Value)}{kV doc pm cdv ct:Value}(a:A4 K AY x=some (some (.ref f)))
  (l:K.lookup f=some ⟨oc,od,.func (CW x x (bP st) (bq st) (ak st) .none kV doc pm an cdv ct),osl⟩) (c:D5 K cdv x=true) (k:DH K (.ref f)=true):aG K x st :=
 ⟨f,_,a,mH l c k⟩
theorem Def.of {P:Program}{w:Bj}{K:AK}{mg:Str->Option Value}{base h:Heap}{CX:CXT}{x:Str}{k:Nat}{ps:List Str}{sp:Sp}{st:Stmt}(X:K.In h) (G:h.Ns AY mg) (FI:aG K x st)
  (ok:∀f fd,Fun K x x st f fd->aJ P w K mg base CX k f fd ps sp)
  (hb:∀(kV doc pm:Value) (an:Option Addr) (cdv ct:Value) (us:List Value),us.length=ps.length->Fh (CW x x (bP st) (bq st) (ak st) .none kV doc pm an cdv ct) ⟨us,[]⟩=pure (ps.zip us)) :
  Def P w K mg base CX x k ps sp:=by
 obtain ⟨f,fd,a,F⟩:=FI
 exact ⟨f,fd,ok f fd F,F.binds hb,F.kp,CB X G a⟩
end L2
namespace L2
open PySem PySem.W Builtin Builtin.ObjectAttr
def cA:List Value->Bool
 | .ref _ :: r=>cA r
 | l=>l == [.type "ValueError",.type "Exception",.type "BaseException",.type "object"]
theorem fb:cA []=false:=by decide
theorem fG {v:Value}{r:List Value}(h:∀c,v≠.ref c) (e:cA (v :: r)=true):v :: r=[.type "ValueError",.type "Exception",.type "BaseException",.type "object"]:=by
 have z:cA (v :: r)=(v :: r == [.type "ValueError",.type "Exception",.type "BaseException",.type "object"]):=by
  cases v <;> first | rfl | exact absurd rfl (h _)
 rw [z] at e
 exact beq_iff_eq.mp e
theorem i9 (self:Value):∀{l:List Value},cA l=true->refuseLoop self "__setattr__" l=pure ()
 | [],e=>by rw [fb] at e; cases e
 | v :: r,e=>by
  by_cases h:∃c,v=.ref c
  ·obtain ⟨c,rfl⟩:=h
   rw [refuseLoop_ref]
   exact i9 self (l:=r) e
  ·rw [fG (fun c z=>h ⟨c,z⟩) e]
   exact PySem.F.store_ValueError.passes self
theorem tU:∀{l:List Value},cA l=true->l.contains (.type "object")=true
 | [],e=>by rw [fb] at e; cases e
 | v :: r,e=>by
  by_cases h:∃c,v=.ref c
  ·obtain ⟨c,rfl⟩:=h
   rw [List.contains_cons,tU (l:=r) e,Bool.or_true]
  ·rw [fG (fun c z=>h ⟨c,z⟩) e]
   decide
section
variable {prog:Program}{w:Bj}{A:Bk}{E:Value->AL->Prop}{K:Frag}{x C:Addr}{ox:Obj}{od:Option Obj}{name:Str}{s:AL}{cd:ClassData}{v:Value}{R:Result->AL->Prop}
theorem nR {tk:Tok}(X:K.In s.heap) (I:InstAt s.heap x ox C od) (hc:clsIn K C=some cd) (ho:cA cd.mro=true) (ht:takerIn K C name=some none)
  (h:∀b,A6 (Bf prog w) A.in1 (storeInOwnDict (.ref x) (.ref C) (.str name tk) name v b)
   (fun fin s'=>match fin with | .done f=>R (.ok f) s' | .again c'=>c'.quiet=true/\EX (Bf prog w) A c' R s') (fun e s'=>R (.error e) s') s) :
  EX (Bf prog w) A (.call (.builtin "object.__setattr__") ⟨[.ref x,.str name tk,v],[]⟩) R s:=by
 have SF:=PySem.F.store_object
 have ne:cd.mro.isEmpty=false:=by cases q:cd.mro with | nil=>rw [q,fb] at ho; cases ho | cons _ _=>rfl
 have sub:Looks (Bf prog w) s.heap (isInstance (.ref x) (.type "object")) true:=I.type.andThen (looks_mroIn X (by unfold mroIn; rw [hc,Option.bind_some,if_neg (by rw [ne]; decide),tU ho]))
 refine codeAny_call_builtin SF.slot.plain SF.entry (@check_slot (Bf prog w) _ _ s "object.__setattr__" "object" "__setattr__" (.ref x) [.str name tk,v] [] _ SF.kind SF.split sub (SF.args (.ref x) (.str name tk) v) ?_)
 obtain ⟨attr,ha,hr⟩:=Option.bind_eq_some_iff.mp ht
 have hm:Looks (Bf prog w) s.heap (mroOf (.ref C)) cd.mro:=(looks_clsIn X hc).andThen .now
 have L3:Looks (Bf prog w) s.heap (storeTaker? attr) none:=by
  cases attr with
  | none=>exact .now
  | some a =>
   obtain ⟨b,hb,e⟩:=Dg.mp hr
   refine (looks_takesIn X hb).andThen ?_
   cases b with
   | true=>cases e
   | false=>exact .now
 rw [osa_eq,refuse_eq]
 refine AI (AI (I.type.here (AI (hm.here ?_))))
 rw [i9 _ ho]
 refine AV (AI (I.type.here (AI ((looks_findIn X ha).here (AI (L3.here ?_))))))
 exact h _
theorem ll {ws:Array Value}{Q:Unit->AL->Prop}(X:K.In s.heap) (I:InstAt s.heap x ox C od) (hc:clsIn K C=some cd) (ho:cA cd.mro=true) (ht:takerIn K C name=some none)
  (hs:findIn K (.ref C) "__setattr__"=some (some (.builtin "object.__setattr__"))) (hdd:cd.hasDict=true) (hn:ox.dict=none) (hf:ox.data=.fields ws)
  (h:∀h',h'.get? x=some { ox with dict:=some s.heap.objs.size }->h'.Ns1 s.heap.objs.size (fun y=>if y=name then some v else none) ->
   (∀b o,b≠x->s.heap.get? b=some o->h'.get? b=some o)->Q () { s with heap:=h',toks:=s.toks+2 }) :
  A6 (Bf prog w) A (setAttr (.ref x) name v) Q E s:=by
 refine PySem.W.set_plain X I hs (nR (s:={ s with toks:=s.toks+1 }) X I hc ho ht fun b=>?_)
 obtain ⟨hx,hcl,_,_⟩:=I
 have hxs:x≠s.heap.objs.size:=Bl (A3 hx)
 unfold storeInOwnDict ownStreamTells
 refine AI (AV ?_)
 rw [if_neg (by intro z; cases (beq_iff_eq.mp z))]
 refine AI ?_
 unfold ownDictForStores instanceDict
 refine AI (wpAny_loadPart hx ?_)
 rw [hcl]
 dsimp only
 refine AI (Looks.here (s:={ s with toks:=s.toks+1 }) (looks_clsIn X hc) ?_)
 rw [hdd,hn,hf]
 dsimp only
 rw [if_neg (by decide),if_neg (show ¬ ((!true||!typeHasDict (Bc C))=true) by simp [typeHasDict])]
 have hx1:(s.heap.push { cls:=.type "dict",data:=.dict #[] }).get? x=some ox:=AJ _ hx
 refine AI (wpAny_alloc' ?_)
 refine AI (wpAny_update' hx1 ?_)
 refine AV ?_
 have hgd:((s.heap.push { cls:=.type "dict",data:=.dict #[] }).update x fun o=>{ cls:=o.cls,dict:=some s.heap.objs.size,data:=o.data,slots:=o.slots }).get? s.heap.objs.size=some { cls:=.type "dict",data:=.dict #[] } :=
  (Heap.get?_update_ne _ _ _ _ hxs.symm).trans (Heap.get?_push_at rfl rfl)
 have hnd:((s.heap.push { cls:=.type "dict",data:=.dict #[] }).update x fun o=>{ cls:=o.cls,dict:=some s.heap.objs.size,data:=o.data,slots:=o.slots }).Ns s.heap.objs.size (fun _=>none) :=
  ⟨_,#[],_,hgd,rfl,fun e he=>absurd he (by simp),fun _=>rfl⟩
 show A6 _ _ (storeInDict s.heap.objs.size (.str name _) name v) _ _ _
 unfold storeInDict newKeyGuard
 refine AI (AV (AI (wpAny_nsSet1 (Heap.Ns1.of_empty hnd) fun h' hn' hs'=>?_)))
 obtain ⟨oD,esD,epD,hoD,hdD,hcD⟩:=hn'.count (Within.cons name v Within.nil)
 refine AI (wpAny_lookBehind hoD (by rw [hdD]; exact pastItsLine_dict (Bm hcD (by rw [AZ,Dp,A9]; omega))) ?_)
 refine AV (h h' ?_ hn' fun b ob hbx hb=>?_)
 ·refine (hs'.2 x hxs).trans (Cz _ hx1 ?_)
  exact C4 (o:={ ox with dict:=some s.heap.objs.size }) (by exact hf)
 ·exact (hs'.2 b (Bl (A3 hb))).trans ((Heap.get?_update_ne _ _ _ _ hbx).trans (AJ _ hb))
theorem lj {dx:Addr}{mA:Str->Option Value}{ns:List Str}{Q:Unit->AL->Prop}(X:K.In s.heap) (I:InstAt s.heap x ox C od) (hc:clsIn K C=some cd) (ho:cA cd.mro=true) (ht:takerIn K C name=some none)
  (hs:findIn K (.ref C) "__setattr__"=some (some (.builtin "object.__setattr__"))) (hdd:cd.hasDict=true) (hn:ox.dict=some dx) (hm:s.heap.Ns1 dx mA) (hw:PySem.Within mA ns) (hsz:ns.length<=1000)
  (h:∀h',h'.Ns1 dx (fun y=>if y=name then some v else mA y)->By dx s.heap h'->Q () { s with heap:=h',toks:=s.toks+2 }) :
  A6 (Bf prog w) A (setAttr (.ref x) name v) Q E s:=by
 refine PySem.W.set_plain X I hs (nR (s:={ s with toks:=s.toks+1 }) X I hc ho ht fun b=>?_)
 obtain ⟨hx,hcl,_,_⟩:=I
 unfold storeInOwnDict ownStreamTells
 refine AI (AV ?_)
 rw [if_neg (by intro z; cases (beq_iff_eq.mp z))]
 refine AI ?_
 unfold ownDictForStores instanceDict
 refine AI (wpAny_loadPart hx ?_)
 rw [hcl]
 dsimp only
 refine AI (Looks.here (s:={ s with toks:=s.toks+1 }) (looks_clsIn X hc) ?_)
 rw [hdd,hn]
 dsimp only
 rw [if_neg (by decide)]
 refine AV ?_
 show A6 _ _ (storeInDict dx (.str name _) name v) _ _ _
 unfold storeInDict newKeyGuard
 refine AI (AV (AI (wpAny_nsSet1 hm fun h' hn' hs'=>?_)))
 obtain ⟨oD,esD,epD,hoD,hdD,hcD⟩:=hn'.count (Within.cons name v hw)
 refine AI (wpAny_lookBehind hoD (by rw [hdD]; exact pastItsLine_dict (Bm hcD (by rw [AZ,A9]; omega))) ?_)
 exact AV (h h' hn' hs')
end
end L2
namespace L2
open PySem PySem.W
section
variable {prog:Program}{w:Bj}{A:Bk}{E:Value->AL->Prop}{h:Heap}{g:Array E4}{d:Drawn}{t:Nat}{os:OsState}
variable {nm q:Str}{C N fI:Addr}{bs bm bmB:List Value}{hdct:Bool}{sn:List Str}{sub:List Value}{ab:Bool}{col:Option Bool}{dd:Option Addr}{k0 k1 k2 k3 k5:Option Value}{B Bn newId nid initId inN:String}{bmN:List Value}{K:Frag}
abbrev yY (C t:Addr):Obj:={ cls:=.ref C,data:=.fields #[.ref t,.none,.none,.none,.bool false,.none] }
abbrev dB (C t:Addr) (dO:Option Addr):Obj:={ cls:=.ref C,dict:=dO,data:=.fields #[.ref t,.none,.none,.none,.bool false,.none] }
abbrev dD (h:Heap) (C:Addr) (rest:List Value):Heap:=(h.push { cls:=.type "tuple",data:=.seq rest.toArray }).push (yY C h.objs.size)
theorem gR (Fn:EF Bn newId inN bmN) (hBn:bmB.contains (.type Bn)=true) (F:EF B nid initId bmB) (T:OwnTail h bmB bm) {rest:List Value}{Q:Fin->AL->Prop}(X:K.In h)
  (hC:h.get? C=some (Cw nm q C N bs bm hdct sn sub ab col dd k0 k1 k2 k3 k5 newId)) (hi:findIn K (.ref C) "__init__"=some (some (.ref fI))) (hf:typeIn K (.ref fI)=some (.type "function"))
  (hq:A6 (Bf prog w) A (call (.ref fI) (.ref (h.objs.size+1) :: rest)) (fun v s'=>v=.none/\Q (.done (.ret (.ref (h.objs.size+1)))) s') E ⟨dD h C rest,g,d,t,os⟩) (hrest:rest.length<=sizeLine) :
  A6 (Bf prog w) A (Builtin.«type.__call__» ⟨.ref C :: rest,[]⟩) Q E ⟨h,g,d,t,os⟩:=by
 repeat (first | with_reducible refine D0 hC ?_ | with_reducible refine wpAny_madeBy_exc hC ?_ | wp_step)
 refine codeAny_call_builtin_code (Code.quiet_builtin _ Fn.quiet) (wpAny_check_new_subU Fn hBn T hC ?_)
 refine codeAny_exc_new_subU Fn hBn F T hC ?_ hrest
 show A6 _ _ _ _ _ _
 have hC₁:=AJ { cls:=.ref C,data:=.fields #[.ref h.objs.size,.none,.none,.none,.bool false,.none] }
  (AJ { cls:=.type "tuple",data:=.seq rest.toArray } hC)
 have hget:((h.push { cls:=.type "tuple",data:=.seq rest.toArray }).push
   { cls:=.ref C,data:=.fields #[.ref h.objs.size,.none,.none,.none,.bool false,.none] }).get? (h.objs.size+1)=some
   { cls:=.ref C,data:=.fields #[.ref h.objs.size,.none,.none,.none,.bool false,.none] }:=by heap_get
 have hcC:(Bc C :: bm).contains (.ref C)=true:=by simp
 have X₁:K.In (dD h C rest):=X.keeps fun b o e=>AJ _ (AJ _ e)
 unfold isInstance
 repeat (first | with_reducible refine D0 hget ?_ | (with_reducible refine wpAny_isSubtype_exc hC₁ ?_; rw [hcC]) | wp_step)
 show A6 _ _ (typeLookup (.ref C) _) _ _ _
 refine (looks_findIn X₁ hi).at ?_
 refine Cd (AI ((bind_fn X₁ _ hf).at ?_))
 refine AI (Bw hq ?_ fun _ _ z=>z)
 rintro v s' ⟨rfl,z⟩
 wp_walk
 exact z
theorem qv (Fn:EF Bn newId inN bmN) (hBn:bmB.contains (.type Bn)=true) (F:EF B nid initId bmB) (T:OwnTail h bmB bm) {rest:List Value}{Q:Value->AL->Prop}(X:K.In h)
  (hC:h.get? C=some (Cw nm q C N bs bm hdct sn sub ab col dd k0 k1 k2 k3 k5 newId)) (hi:findIn K (.ref C) "__init__"=some (some (.ref fI))) (hf:typeIn K (.ref fI)=some (.type "function"))
  (hq:A6 (Bf prog w) (A.under (.builtin "type.__call__" ⟨.ref C :: rest,[]⟩)) (call (.ref fI) (.ref (h.objs.size+1) :: rest)) (fun v s'=>v=.none/\Q (.ref (h.objs.size+1)) s') E ⟨dD h C rest,g,d,t,os⟩) (hrest:rest.length<=sizeLine) :
  A6 (Bf prog w) A (call (.ref C) rest) Q E ⟨h,g,d,t,os⟩:=by
 have f1:=tc_lookup
 have f2:=tc_bind (.ref C)
 have hT:(⟨h,g,d,t,os⟩:AL).TypeIs (.ref C) "type":=⟨_,hC,rfl⟩
 refine wpAny_call (codeAny_of_tree ?_)
 show A6 _ _ (callAny (.ref C) _) _ _ _
 repeat (any_goals (first | assumption | with_reducible refine D0 hC ?_ | wp_step))
 refine ⟨rfl,?_⟩
 refine codeAny_call_builtin_at (Code.quiet_builtin _ (by decide +kernel)) entry_typeCall (wpAny_check_type_call_sub hC (gR Fn hBn F T X hC hi hf ?_ hrest))
 exact hq
end
section
variable {prog:Program}{w:Bj}{A:Bk}{E:Value->AL->Prop}{s:AL}{env:Env}
variable {nm q:Str}{C N fI:Addr}{bs bm bmB:List Value}{hdct:Bool}{sn:List Str}{sub:List Value}{ab:Bool}{col:Option Bool}{dd:Option Addr}{k0 k1 k2 k3 k5:Option Value}{B Bn newId nid initId inN:String}{bmN:List Value}{K:Frag}
theorem eM {M:Model}{x:Sem Value}{Q:Flow->AL->Prop}(hbase:bm.contains (.type "BaseException")=true) (hh:A.handled=none)
  (h:A6 M A x (fun v s₁=>∃e t dO,v=.ref e/\s₁.heap.get? C=some (Cw nm q C N bs bm hdct sn sub ab col dd k0 k1 k2 k3 k5 newId)/\s₁.heap.get? e=some (dB C t dO)/\E (.ref e) s₁) E s) :
  A6 M A (raiseStmt env (some x) none) Q E s:=by
 have hcB:(Bc C :: bm).contains (.type "BaseException")=true:=by rw [List.contains_cons,hbase,Bool.or_true]
 unfold raiseStmt
 refine AI (Bw h (fun v s₁ h₁=>?_) fun _ _ x=>x)
 obtain ⟨e,t,dO,rfl,hC,he,hE⟩:=h₁
 obtain ⟨hp,g,d,tk,os⟩:=s₁
 repeat (first | with_reducible refine D0 he ?_ | with_reducible refine D0 hC ?_ | (with_reducible refine wpAny_isSubtype_exc hC ?_; rw [hcB]) | wp_step)
 exact wpAny_raiseNew_none hh hE
theorem mR (Fn:EF Bn newId inN bmN) (hBn:bmB.contains (.type Bn)=true) (F:EF B nid initId bmB) {x:Str}{np cpos pos:Pos}{args:List Expr}{Q:Flow->AL->Prop}
  (hbase:bm.contains (.type "BaseException")=true) (hh:A.handled=none) (hplain:(Dx cpos (Bz args env)).any (·.1)=false) (hi:findIn K (.ref C) "__init__"=some (some (.ref fI))) (hf:typeIn K (.ref fI)=some (.type "function"))
  (h:A6 (Bf prog w) A (eval (.Name x np) env) (fun f s₁=>f=.ref C/\A6 (Bf prog w) A (evalArgs (.ref C) true (Dx cpos (Bz args env)) [])
   (fun a s₂=>a.kw=[]/\a.pos.length<=sizeLine/\s₂.heap.get? C=some (Cw nm q C N bs bm hdct sn sub ab col dd k0 k1 k2 k3 k5 newId)/\K.In s₂.heap/\OwnTail s₂.heap bmB bm /\
    A6 (Bf prog w) (A.under (.builtin "type.__call__" ⟨.ref C :: a.pos,[]⟩)) (call (.ref fI) (.ref (s₂.heap.objs.size+1) :: a.pos)) (fun v s'=>v=.none/\s'.heap.get? C=some (Cw nm q C N bs bm hdct sn sub ab col dd k0 k1 k2 k3 k5 newId) /\
     (∃t dO,s'.heap.get? (s₂.heap.objs.size+1)=some (dB C t dO))/\E (.ref (s₂.heap.objs.size+1)) s') E { s₂ with heap:=dD s₂.heap C a.pos }) E s₁) E s) :
  A6 (Bf prog w) A (exec (.Raise (some (.Call (.Name x np) args [] cpos)) none pos) env) Q E s:=by
 rw [arm_exec_Raise]
 first
  | refine AI (DA (eM (C:=C) (nm:=nm) (q:=q) (N:=N) (bs:=bs) (bm:=bm) (hdct:=hdct) (sn:=sn) (sub:=sub) (ab:=ab) (col:=col) (dd:=dd) (k0:=k0) (k1:=k1) (k2:=k2) (k3:=k3) (k5:=k5) (newId:=newId) hbase hh (AI (Bw (wpAny_Call_ofName (Bw h (fun f s₁ h₁=>?_) fun _ _ x=>x)) (fun v s₃ h₃=>AI (DA (AV h₃))) fun _ _ x=>x))))
  | (simp only [evalOpt,Option.map]; refine AI (DA (eM (C:=C) (nm:=nm) (q:=q) (N:=N) (bs:=bs) (bm:=bm) (hdct:=hdct) (sn:=sn) (sub:=sub) (ab:=ab) (col:=col) (dd:=dd) (k0:=k0) (k1:=k1) (k2:=k2) (k3:=k3) (k5:=k5) (newId:=newId) hbase hh (AI (Bw (wpAny_Call_ofName (Bw h (fun f s₁ h₁=>?_) fun _ _ x=>x)) (fun v s₃ h₃=>AI (DA (AV h₃))) fun _ _ x=>x)))))
 obtain ⟨rfl,h₁⟩:=h₁
 unfold callWith
 refine AI (Cd (Bw h₁ (fun a s₂ h₂=>AI (DA ?_)) fun _ _ x=>x))
 obtain ⟨apos,akw⟩:=a
 obtain ⟨hkw,hlen,hC,X,T,h₂⟩:=h₂
 obtain rfl:akw=[]:=hkw
 obtain ⟨hp,g,d,tk,os⟩:=s₂
 simp only [hplain]
 refine AI (wpAny_keeperOf_exc hC ?_)
 refine AI (qv Fn hBn F T X hC hi hf (Bw h₂ ?_ fun _ _ z=>z) hlen)
 rintro v s' ⟨rfl,hC',⟨t,dO,he⟩,hE⟩
 exact ⟨rfl,AI (Cd (wpAny_point (AV ⟨_,t,dO,rfl,hC',he,hE⟩)))⟩
end
end L2
namespace L2
open PySem PySem.Spec PyProof.Rows
def eD (a C:Addr) (d:Option Addr):HO:=.ext fun h=>∃t,h.get? a=some (dB C t d)
def xdO (a:Addr) (fs:List (Str×V)):HO:=.ext fun h=>∃mA,h.Ns1 a mA/\∀f,RelO (fs.lookup f) (mA f)
section
variable {P:Program}{w:Bj}{H:Hp}{h:Heap}{a C:Addr}{d:Option Addr}{fs:List (Str×V)}
theorem nV (x:∃t,h.get? a=some (dB C t d)):ObjOk P w H h a (eD a C d):=by
 obtain ⟨t,e⟩:=x
 refine ⟨⟨t,e⟩,⟨_,e⟩,?_⟩
 rintro h1 h2 ⟨t,f⟩ k
 exact ⟨t,k _ f⟩
theorem fH (x:ObjOk P w H h a (eD a C d)):∃t,h.get? a=some (dB C t d):=x.1
theorem qB (x:∃mA,h.Ns1 a mA/\∀f,RelO (fs.lookup f) (mA f)):ObjOk P w H h a (xdO a fs):=by
 obtain ⟨mA,n,r⟩:=x
 refine ⟨⟨mA,n,r⟩,?_,?_⟩
 ·obtain ⟨o,_,_,e,_⟩:=n
  exact ⟨o,e⟩
 ·rintro h1 h2 ⟨mA,n,r⟩ k
  obtain ⟨o,es,ep,e,q⟩:=n
  exact ⟨mA,⟨o,es,ep,k _ e,q⟩,r⟩
theorem uL (x:ObjOk P w H h a (xdO a fs)):∃mA,h.Ns1 a mA/\∀f,RelO (fs.lookup f) (mA f):=x.1
theorem ph {mA:Str->Option Value}(r:∀f,RelO (fs.lookup f) (mA f)):PySem.Within mA (fs.map (·.1)):=by
 intro g hg
 cases q:fs.lookup g with
 | none =>
  have z:=r g
  rw [q] at z
  exact absurd z.none_of hg
 | some v =>
  exact Be.mpr ⟨(g,v),BO q,rfl⟩
end
structure uH (K:AK) (C:Addr):Prop where
 cd:∃cd,PySem.W.clsIn K C=some cd/\cA cd.mro=true/\cd.hasDict=true
 sa:BN K (.ref C) "__setattr__"=some (some (.builtin "object.__setattr__"))
def XNo (K:AK) (C:Addr) (f:Str):Prop:=BN K (.ref C) f=some none
theorem XNo.taker {K:AK}{C:Addr}{f:Str}(n:XNo K C f):PySem.W.takerIn K C f=some none:=by
 unfold PySem.W.takerIn
 rw [n]
 rfl
theorem cL {h:Heap}{o v:Obj}{b:Addr}(z:(h.push o).get? b=some v) (hb:b≠h.objs.size):h.get? b=some v:=by
 rw [<- z]
 exact (Heap.get?_push_ne h b o hb).symm
def sX (K:AK) (ta tv:TE) (f:Str):TS:=fun D σ H=>tv σ H fun y H1=>ta σ H1 fun x H2=>∃a C,x=.ref a/\uH K C/\XNo K C f /\
 ((H2 a=some (eD a C none)/\∀dx,H2 dx=none->dx≠a->D.nx σ (upd (upd H2 dx (xdO dx [(f,y)])) a (eD a C (some dx)))) \/
  (∃dx fs,H2 a=some (eD a C (some dx))/\H2 dx=some (xdO dx fs)/\fs.length<1000/\D.nx σ (upd H2 dx (xdO dx (putF f y fs)))))
section
variable {X:Cx}{o value:Expr}{f:Str}{pos pos':Pos}{ta tv:TE}
theorem vj (ha:PE X o ta) (hv:PE X value tv) (hs:Es value (some (.Attribute o f pos')) pos.line X.env=pure false:=by rfl):PS X (.Assign [.Attribute o f pos'] value pos) (sX X.K ta tv f):=by
 intro pins s σ H D I h
 refine plainObj_wpAny_Assign_Attribute (thn (hv pins s σ H _ I h) fun u s1 ⟨y,H1,I1,ry,q⟩=>thn (ha pins s1 σ H1 _ I1 q) fun ov s2 ⟨x,H2,I2,rx,a,C,ex,c,n,q2⟩=>?_) hs
 subst ex
 obtain rfl:ov=Bc a:=rx
 obtain ⟨cd,c1,c2,c3⟩:=c.cd
 rcases q2 with ⟨ea,q2⟩ | ⟨dx,fs,ea,ed,hl,q2⟩
 ·obtain ⟨t,et⟩:=fH (I2.hok a _ ea)
  have hI:PySem.W.InstAt s2.heap a (dB C t none) C none:=⟨et,rfl,rfl,trivial⟩
  refine ll I2.kIn hI c1 c2 n.taker c.sa c3 rfl rfl fun h' g1 g2 g3=>?_
  have nd:H2 s2.heap.objs.size=none:=I2.hok.fresh (AM _)
  have na:s2.heap.objs.size≠a:=Cg (Bl (A3 et))
  obtain ⟨od,es,ep,e1,e2⟩:=id g2
  have hfr:od.isFreed=false:=(Heap.get?_some_iff.mp e1).2
  have p1:(s2.heap.push od).get? s2.heap.objs.size=some od:=A5 _ hfr
  have J1:=I2.laid (a:=s2.heap.objs.size) (o:=xdO s2.heap.objs.size [(f,y)]) (h':=s2.heap.push od) (t':=s2.toks) (fun b v z=>AJ _ z) (AM _) (qB ⟨_,⟨od,es,ep,p1,e2⟩,fun g=>by
   by_cases z:g=f
   ·subst z
    simp only [DL,beq_self_eq_true,if_pos]
    exact ry
   ·have z':(g == f)=false:=beq_eq_false_iff_ne.mpr z
    simp only [DL,z',if_neg z]
    trivial⟩)
  refine ⟨σ,_,J1.write (x:=a) (e:=a) (o:=eD a C (some s2.heap.objs.size)) (h':=h') (t':=s2.toks+2) ?_ (.inl rfl) ?_ ⟨_,g1⟩ (nV ⟨t,g1⟩),q2 _ nd na⟩
  ·rw [aj (Cg na),ea]
   exact C5
  ·intro b v hb z
   by_cases hd:b=s2.heap.objs.size
   ·subst hd
    rw [p1] at z
    cases z
    exact e1
   ·refine g3 b v hb ?_
    exact cL z hd
 ·obtain ⟨t,et⟩:=fH (I2.hok a _ ea)
  obtain ⟨mA,hm,r⟩:=uL (I2.hok dx _ ed)
  obtain ⟨od,es,ep,e1,e2⟩:=id hm
  have hI:PySem.W.InstAt s2.heap a (dB C t (some dx)) C (some od):=⟨et,rfl,rfl,e1⟩
  refine lj I2.kIn hI c1 c2 n.taker c.sa c3 rfl hm (ph r) (by rw [AH]; omega) fun h' g1 g2=>?_
  refine ⟨σ,_,I2.write (x:=dx) (e:=dx) (o:=xdO dx (putF f y fs)) (h':=h') (t':=s2.toks+2) (by rw [ed]; exact C5) (.inl rfl) (fun b v hb z=>(g2.2 b hb).trans z) (let ⟨o,_,_,e',_⟩:=g1; ⟨o,e'⟩) (qB ⟨_,g1,fun g=>?_⟩),q2⟩
  rw [gq]
  by_cases z:g=f
  ·rw [if_pos z,if_pos z]; exact ry
  ·rw [if_neg z,if_neg z]; exact r g
end
def del (H:Hp) (a:Addr):Hp:=fun b=>if b=a then none else H b
theorem iF {H:Hp}{a:Addr}:del H a a=none:=if_pos rfl
theorem dE {H:Hp}{a b:Addr}(h:b≠a):del H a b=H b:=if_neg h
theorem lB {H:Hp}{a b:Addr}{u:HO}(h:del H a b=some u):b≠a/\H b=some u:=by
 by_cases e:b=a
 ·subst e; rw [iF] at h; cases h
 ·rw [dE e] at h; exact ⟨e,h⟩
theorem ur {H:Hp}{a b:Addr}(h:H b=none):del H a b=none:=by
 by_cases e:b=a
 ·subst e; exact iF
 ·rw [dE e]; exact h
theorem Same.del {H H':Hp}{a:Addr}(e:Same H H') (n:H a=none):Same H (del H' a):=fun b o q=>by
 rw [dE (am q n)]
 exact e b o q
section
variable {X:Cx}{pins:List (Addr×Obj)}{σ:St}{H H':Hp}{s s1:AL}{B h':Heap}{a C:Addr}{d:Option Addr}
theorem xD {fs:List Addr}{φ:Heap->Prop}(e:H a=some (.ext φ)):Un fs [] H (del H a) s.heap s.heap where
 keep:=fun b o q _ _ _=>q
 slot:=fun b o q _ _ _=>⟨o.slots,q⟩
 free:=fun b o q n _=>ur n
 there:=fun b o q _=>⟨o,q⟩
 tups:=fun b xs q=>by rw [dE (by intro z; subst z; rw [e] at q; cases q)]; exact q
 frzs:=fun b o u q=>by rw [dE (by intro z; subst z; rw [e] at q; cases q)]; exact q
 tbls:=fun b ps q=>⟨#[],by rw [dE (by intro z; subst z; rw [e] at q; cases q)]; simpa using q⟩
theorem we {φ:Heap->Prop}{P:Program}{w:Bj}{h:Heap}(ok:HOk P w H h) (e:H a=some (.ext φ)):HOk P w (del H a) h:=fun b u q=>by
 obtain ⟨hb,q⟩:=lB q
 refine (ok b u q).stay (fun _ _ _ z=>z) (fun c z=>?_) fun c xs z=>?_
 ·rw [dE (by intro y; subst y; rw [e] at z; cases z)]; exact z
 ·rw [dE (by intro y; subst y; rw [e] at z; cases z)]; exact z
theorem Inv.flown2 (I:Inv X pins σ H s) (os:s1.os=s.os) (bare:Eh s1.gens) (un:Un (frs X.stack) [] H H' s.heap s1.heap) (hok:HOk X.prog X.w H' s1.heap) (bs:B.StaysIn s1.heap)
  (b1:∀b o,s.heap.get? b=some o->b ∉ frs X.stack->H b=none->B.get? b=some o) (b2:∀b u,H' b=some u->∃o,B.get? b=some o)
  (b3:∀b o,s.heap.get? b=some o->b∈frs X.stack\/(∃o',B.get? b=some o')\/∃o',h'.get? b=some o') (st:B.StaysIn h') (up:s1.heap.UpToSlots h'):Inv X pins σ H' { s1 with heap:=h' }:=by
 have nf:∀b∈frs X.stack,∀o,s.heap.get? b=some o->∀vs,o.data≠.fields vs:=fun b hb o e=>by
  obtain ⟨_,o',e',r⟩:=I.stack.mem hb
  rw [e] at e'
  cases e'
  exact r
 have sl:∀b o,s.heap.get? b=some o->b∈frs X.stack->∃sl,h'.get? b=some { o with slots:=sl }:=fun b o e hb=>by
  obtain ⟨s2,e2⟩:=un.slot b o e (I.stkFree b hb) hb (by simp)
  obtain ⟨s3,e3⟩:=up b _ e2 (nf b hb o e)
  exact ⟨s3,e3⟩
 refine I.call' (s':={ s1 with heap:=h' }) os ⟨fun b o e n hb _=>st b o (b1 b o e hb n),fun b o e n hb _=>sl b o e hb,un.free,fun b o e hx=>?_,un.tups,un.frzs,un.tbls⟩ (fun b u e=>?_) bare fun b z=>nomatch z
 ·rcases b3 b o e with z | ⟨o',z⟩ | z
  ·obtain ⟨_,q⟩:=sl b o e z
   exact ⟨_,q⟩
  ·exact ⟨o',st b o' z⟩
  ·exact z
 ·refine (hok b u e).stay (fun c v hc q=>?_) (fun _ q=>q) fun _ _ q=>q
  have ht:∃u',H' c=some u':=by
   rcases hc with rfl | hc
   ·exact ⟨u,e⟩
   ·exact ⟨_,hc⟩
  obtain ⟨u',hu⟩:=ht
  obtain ⟨o,ho⟩:=b2 c u' hu
  have q':=bs c o ho
  rw [q] at q'
  cases q'
  exact st c v ho
end
section
variable {P:Program}{w:Bj}{K:AK}{mg:Str->Option Value}{base:Heap}{N:List Str}{qual:Str}{scope:Scope}{f:Addr}{cd:Value}{A:Bk}{outer:List Env}{s₀:AL}{H₀:Hp}{E:XK}
theorem mv {pins:List (Addr×Obj)}{σ:St}{H:Hp}{s:AL}{a C:Addr}{d:Option Addr}(I:Inv (be (CX1 P w) P w K mg base N qual scope f cd A outer s₀ H₀ E) pins σ H s)
  (hd:H a=some (eD a C d)) (n0:s₀.heap.get? a=none) (q:E (.ref C) d (del H a)):(be (CX1 P w) P w K mg base N qual scope f cd A outer s₀ H₀ E).xe (.ref a) s:=by
 have hfr:(CJ qual scope s₀.heap.objs.size f cd).frame=some s₀.heap.objs.size:=rfl
 have hstk:s.heap.FunFrames base (CJ qual scope s₀.heap.objs.size f cd :: outer):=I.stack
 obtain ⟨t,et⟩:=fH (I.hok a _ hd)
 have nfr:a ∉ frs (CJ qual scope s₀.heap.objs.size f cd :: outer):=fun z=>by
  have:=I.stkFree a z
  rw [hd] at this
  cases this
 have hin:∀env∈(CJ qual scope s₀.heap.objs.size f cd :: outer),∀b,env.frame=some b->b∈a :: frs (CJ qual scope s₀.heap.objs.size f cd :: outer):=fun env he b hb=>.tail _ (Em.mpr ⟨env,he,hb⟩)
 have hB:=PySem.W.funFrames_hide hstk hin
 have hBa:(E8 s.heap (a :: frs (CJ qual scope s₀.heap.objs.size f cd :: outer))).get? a=none:=PySem.W.hideAll_none _ (.head _)
 generalize hBB:E8 s.heap (a :: frs (CJ qual scope s₀.heap.objs.size f cd :: outer))=B at hB hBa
 have inB:∀b o,s.heap.get? b=some o->b≠a->b ∉ frs (CJ qual scope s₀.heap.objs.size f cd :: outer)->B.get? b=some o:=fun b o e n1 n=>by
  rw [<- hBB]
  refine PySem.W.hideAll_get _ e fun z=>?_
  rcases AX.mp z with z | z
  ·exact n1 z
  ·exact n z
 have ofB:∀b o,B.get? b=some o->s.heap.get? b=some o:=fun b o e=>by rw [<- hBB] at e; exact PySem.W.of_hideAll _ e
 show A6 _ _ (leaving _ (.ref a)) _ _ _
 refine gu (B:=B) (outer:=outer) (s:=s) I.ok.frames hB hfr et (fun b o e=>ofB b o e) hBa rfl rfl fun h' x y=>?_
 have b2:∀b u,del H a b=some u->∃o,B.get? b=some o:=fun b u e=>by
  obtain ⟨hb,e⟩:=lB e
  obtain ⟨o,eo⟩:=(I.hok b u e).ex
  refine ⟨o,inB b o eo hb fun z=>?_⟩
  have:=I.stkFree b z
  rw [this] at e
  cases e
 have J:=I.flown2 (s1:=s) (H':=del H a) rfl I.bare (xD hd) (we I.hok hd) (fun b o e=>ofB b o e) (fun b o e hb n=>inB b o e (by intro z; subst z; rw [hd] at n; cases n) hb) b2 (fun b o e=>by
  by_cases hb:b∈frs (CJ qual scope s₀.heap.objs.size f cd :: outer)
  ·exact .inl hb
  ·by_cases hba:b=a
   ·subst hba
    obtain ⟨ox,ws,e1,_⟩:=x.obj
    exact .inr (.inr ⟨ox,e1⟩)
   ·exact .inr (.inl ⟨o,inB b o e hba hb⟩)) x.stays y
 have nL:∀b o,s₀.heap.get? b=some o->b ∉ frs outer->b ∉ frs (CJ qual scope s₀.heap.objs.size f cd :: outer):=fun b o e hb z=>by
  rw [iA hfr] at z
  rcases AX.mp z with z | z
  ·exact absurd (A3 e) (by rw [z]; exact Cm _)
  ·exact hb z
 have nA:∀b o,s₀.heap.get? b=some o->b≠a:=fun b o e z=>by rw [z,n0] at e; cases e
 refine ⟨a,.ref C,d,B,del H a,rfl,J.os,J.bare,J.base,J.hok,x,iF,fun b o e hb n=>?_,b2,fun b o e=>?_,q⟩
 ·exact inB b o (I.base.keep b o e n hb (by intro z; cases z)) (nA b o e) (nL b o e hb)
 ·obtain ⟨o',e'⟩:=I.base.there b o e (by intro z; cases z)
  by_cases hb:b∈frs outer
  ·exact .inl hb
  ·exact .inr ⟨o',inB b o' e' (nA b o e) (nL b o e hb)⟩
structure fe (K:AK) (C fI:Addr):Prop where
 obj:∃nm qn NN bs bm hd sn sub ab col dd k0 k1 k2 k3 k5,K.lookup C=some (Cw nm qn C NN bs bm hd sn sub ab col dd k0 k1 k2 k3 k5 "ValueError.__new__")/\PySem.W.tailIn K bmVE bm=true
 init:BN K (.ref C) "__init__"=some (some (.ref fI))
 fn:PySem.W.typeIn K (.ref fI)=some (.type "function")
def mU (C:Addr) (sp:Sp) (E:XK) (t:TA):TS:=fun _ σ H=>t σ H fun vs H1=>vs.length<=sizeLine/\∀a,H1 a=none ->
 sp (.ref a :: vs) (upd H1 a (eD a C none)) (fun v H2=>v=.non/\∃d,H2 a=some (eD a C d)/\E (.ref C) d (del H2 a)) E0
theorem pO {x:Str}{C fI:Addr}{fd:Bg}{ps:List Str}{sp:Sp}{k:Nat}{e:Expr}{es:List Expr}{t:TA}{np cpos pos:Pos}(hg:Gl (be (CX1 P w) P w K mg base N qual scope f cd A outer s₀ H₀ E) x) (hm:mg x=some (.ref C)) (R:fe K C fI)
  (G:aJ P w K mg base CX0 k fI fd ps sp) (hr:Room (k+1) (be (CX1 P w) P w K mg base N qual scope f cd A outer s₀ H₀ E).A) (hb:Binds K fd ps [])
  (ha:PA (be (CX1 P w) P w K mg base N qual scope f cd A outer s₀ H₀ E) (e :: es) t) (hdb:(x == ("__debug__":Str))=false:=by decide)
  (he:Bz (e :: es) (be (CX1 P w) P w K mg base N qual scope f cd A outer s₀ H₀ E).env=(false,eval e (be (CX1 P w) P w K mg base N qual scope f cd A outer s₀ H₀ E).env) :: Bz es (be (CX1 P w) P w K mg base N qual scope f cd A outer s₀ H₀ E).env:=by rfl)
  (hpl:(Dx cpos (Bz es (be (CX1 P w) P w K mg base N qual scope f cd A outer s₀ H₀ E).env)).any (·.1)=false:=by rfl) :
  PS (be (CX1 P w) P w K mg base N qual scope f cd A outer s₀ H₀ E) (.Raise (some (.Call (.Name x np) (e :: es) [] cpos)) none pos) (mU C sp E t):=by
 intro pins s σ H D I h
 obtain ⟨nm,qn,NN,bs,bm,hdd,sn,sub,ab,col,dd,k0,k1,k2,k3,k5,lC,ht⟩:=R.obj
 have hbase:bm.contains (.type "BaseException")=true:=(PySem.W.tail_of_in I.kIn ht).hasType (by decide)
 refine mR (K:=K) (C:=C) (nm:=nm) (q:=qn) (N:=NN) (bs:=bs) (bm:=bm) (hdct:=hdd) (sn:=sn) (sub:=sub) (ab:=ab) (col:=col) (dd:=dd) (k0:=k0) (k1:=k1) (k2:=k2) (k3:=k3) (k5:=k5) (newId:="ValueError.__new__")
  Dl (by decide:bmVE.contains (.type "ValueError")=true) Dl hbase (I.ok.hd rfl) ?_ R.init R.fn (gM I hg hm ⟨rfl,?_⟩ hdb)
 ·rw [he]
  show (false||(Dx cpos (Bz es _)).any (·.1))=false
  rw [hpl]
  rfl
 ·have hp:=ha cpos pins s σ H _ I h
  rw [he] at hp ⊢
  refine Du (thn hp ?_)
  rintro us s2 ⟨vs,H1,I2,r,hz,q⟩
  refine ⟨rfl,by rw [<- r.length]; exact hz,I2.kIn _ _ lC,I2.kIn,PySem.W.tail_of_in I2.kIn ht,?_⟩
  have I3:Inv (be (CX1 P w) P w K mg base N qual scope f cd A outer s₀ H₀ E) pins σ (upd H1 (s2.heap.objs.size+1) (eD (s2.heap.objs.size+1) C none)) { s2 with heap:=dD s2.heap C us }:=by
   have J:=I2.kept (h':=s2.heap.push { cls:=.type "tuple",data:=.seq us.toArray }) (t':=s2.toks) fun b o e=>AJ _ e
   refine J.laid (a:=s2.heap.objs.size+1) (h':=dD s2.heap C us) (t':=s2.toks) (fun b o e=>AJ _ e) (Ea (D7 _ _)) (nV ⟨s2.heap.objs.size,?_⟩)
   exact Heap.get?_push_at (by rw [D7]) rfl
  have nA:H1 (s2.heap.objs.size+1)=none:=I2.hok.fresh (DM _)
  have hq:=q _ nA
  have r2:Vals (V.ref (s2.heap.objs.size+1) :: vs) (Bc (s2.heap.objs.size+1) :: us):=.cons rfl r
  have hl:((Bc (s2.heap.objs.size+1) :: us)++[]).length=ps.length:=by
   rw [BK,<- r2.length]
   exact G.len _ _ _ _ hq
  have hbd:=hb { s2 with heap:=dD s2.heap C us } (Bc (s2.heap.objs.size+1) :: us) I3.kIn hl
  rw [BK] at hbd
  refine wpAny_call (codeAny_mono (G.run _ (be (CX1 P w) P w K mg base N qual scope f cd A outer s₀ H₀ E).stack _ _ ⟨Bc (s2.heap.objs.size+1) :: us,[]⟩ (Bc (s2.heap.objs.size+1) :: us) _ _ _ (hr.make C us []) (I3.env0.make C us []) hbd r2 hq) fun r s' hq'=>?_)
  cases r with
  | error e=>exact BB hq'
  | ok fl =>
   cases fl with
   | ret u =>
    obtain ⟨v,H4,I4,rv,ev,d,hd,q4⟩:=I3.after hq'
    subst ev
    have n0:s₀.heap.get? (s2.heap.objs.size+1)=none:=CM (Bm I2.sz (DM _))
    obtain ⟨t,et⟩:=fH (I4.hok _ _ hd)
    exact ⟨rv,I4.kIn _ _ lC,⟨t,d,et⟩,mv I4 hd n0 q4⟩
   | next=>exact BB hq'
   | brk=>exact BB hq'
   | cont=>exact BB hq'
end
section
variable {X:Cx}
end
section
variable {κ:Type} [DecidableEq κ]
def aN (kvs:List (κ×V)) (k:κ):Option V:=(kvs.find? fun kv=>decide (kv.1=k)).map (·.2)
def bi (kvs:List (κ×V)) (k:κ) (v:V):List (κ×V) :=
 if (kvs.any fun kv=>decide (kv.1=k))=true then kvs.map (fun kv=>if kv.1=k then (kv.1,v) else kv) else kvs++[(k,v)]
theorem bg {p:κ×V}{r:List (κ×V)}{k:κ}(e:p.1=k):aN (p :: r) k=some p.2:=by simp [aN,C3,e]
theorem bh {p:κ×V}{r:List (κ×V)}{k:κ}(e:¬ p.1=k):aN (p :: r) k=aN r k:=by simp [aN,C3,e]
theorem bR (k:κ):∀kvs:List (κ×V),(kvs.any fun kv=>decide (kv.1=k))=(aN kvs k).isSome
 | []=>rfl
 | p :: r=>by
  rw [Ef]
  by_cases e:p.1=k
  ·simp only [bg e,decide_eq_true e,Bool.true_or,Option.isSome_some]
  ·rw [bh e,decide_eq_false e,Bool.false_or]; exact bR k r
theorem kx (k j:κ) (y:V):∀kvs:List (κ×V),aN (kvs.map fun kv=>if kv.1=k then (kv.1,y) else kv) j=(aN kvs j).map fun x=>if j=k then y else x
 | []=>rfl
 | p :: r=>by
  have ih:=kx k j y r
  rw [Br]
  by_cases h:p.1=k
  ·rw [if_pos h]
   by_cases e:p.1=j
   ·rw [bg (p:=(p.1,y)) e,bg e,Eg,if_pos (e.symm.trans h)]
   ·rw [bh (p:=(p.1,y)) e,bh e,ih]
  ·rw [if_neg h]
   by_cases e:p.1=j
   ·rw [bg (p:=p) e,bg e,Eg,if_neg (fun z=>h (e.trans z))]
   ·rw [bh (p:=p) e,bh e,ih]
theorem iU (k j:κ) (y:V):∀kvs:List (κ×V),aN kvs k=none->aN (kvs++[(k,y)]) j=if j=k then some y else aN kvs j
 | [],_=>by
  by_cases e:k=j
  ·rw [if_pos e.symm]; exact bg (p:=(k,y)) e
  ·rw [if_neg (fun z=>e z.symm)]; exact bh (p:=(k,y)) e
 | p :: r,hn=>by
  rw [Ce]
  have hk:¬ p.1=k:=fun z=>by rw [bg z] at hn; cases hn
  rw [bh hk] at hn
  have ih:=iU k j y r hn
  by_cases e:p.1=j
  ·rw [bg e,bg e,if_neg (fun z=>hk (e.trans z))]
  ·rw [bh e,bh e,ih]
theorem bQ (kvs:List (κ×V)) (k j:κ) (y:V):aN (bi kvs k y) j=if j=k then some y else aN kvs j:=by
 unfold bi
 by_cases a:(kvs.any fun kv=>decide (kv.1=k))=true
 ·rw [if_pos a,kx]
  rw [bR] at a
  by_cases e:j=k
  ·obtain ⟨x,hx⟩:=CA.mp a
   rw [if_pos e,e,hx,Eg,if_pos rfl]
  ·rw [if_neg e]
   cases aN kvs j with
   | none=>rfl
   | some x=>rw [Eg,if_neg e]
 ·rw [if_neg a]
  refine iU k j y kvs ?_
  rw [bR] at a
  cases q:aN kvs k with
  | none=>rfl
  | some x=>rw [q] at a; exact (a rfl).elim
theorem bT (kvs:List (κ×V)) (k:κ) (v:V):(bi kvs k v).length<=kvs.length+1:=by
 unfold bi
 split
 ·rw [AH]; omega
 ·rw [AW,AZ,Dp]; omega
theorem hV {kvs:List (κ×V)}{k:κ}(v:V) (h:aN kvs k=none):bi kvs k v=kvs++[(k,v)]:=by
 unfold bi
 rw [bR,h]
 exact if_neg (by decide)
theorem RelO.isSome_eq {o:Option V}{u:Option Value}(r:RelO o u):o.isSome=u.isSome:=by
 cases o with
 | none=>cases u with
  | none=>rfl
  | some _=>exact (show False from r).elim
 | some _=>cases u with
  | none=>exact (show False from r).elim
  | some _=>rfl
theorem RelO.getD {o:Option V}{u:Option Value}{d:V}{d':Value}(r:RelO o u) (rd:RelV d d'):RelV (o.getD d) (u.getD d'):=by
 cases o with
 | none=>cases u with
  | none=>exact rd
  | some _=>exact (show False from r).elim
 | some _=>cases u with
  | none=>exact (show False from r).elim
  | some _=>exact r
theorem KV.val {kvs:List (κ×V)}{vs:List (κ×Value)}(r:KV kvs vs) (k:κ):RelO (aN kvs k) (valueAt vs k):=by
 unfold KV at r
 induction r with
 | nil=>exact C5
 | @cons p q ps qs h t ih =>
  obtain ⟨h1,h2⟩:=h
  by_cases e:p.1=k
  ·have e':q.1=k:=h1.symm.trans e
   have b:valueAt (q :: qs) k=some q.2:=by simp [valueAt,C3,e']
   rw [bg e,b]; exact h2
  ·have e':¬ q.1=k:=fun z=>e (h1.trans z)
   have b:valueAt (q :: qs) k=valueAt qs k:=by simp [valueAt,C3,e']
   rw [bh e,b]; exact ih
theorem KV.any {kvs:List (κ×V)}{vs:List (κ×Value)}(r:KV kvs vs) (k:κ):(kvs.any fun kv=>decide (kv.1=k))=vs.any fun kv=>decide (kv.1=k):=by
 unfold KV at r
 induction r with
 | nil=>rfl
 | cons h t ih=>rw [Ef,Ef,ih,h.1]
theorem KV.repl {kvs:List (κ×V)}{vs:List (κ×Value)}(r:KV kvs vs) (k:κ) {y:V}{u:Value}(ry:RelV y u) :
  KV (kvs.map fun kv=>if kv.1=k then (kv.1,y) else kv) (vs.map fun kv=>if kv.1=k then (kv.1,u) else kv):=by
 unfold KV at r ⊢
 induction r with
 | nil=>exact .nil
 | @cons p q ps qs h t ih =>
  rw [Br,Br]
  refine .cons ?_ ih
  obtain ⟨h1,h2⟩:=h
  by_cases e:p.1=k
  ·rw [if_pos e,if_pos (h1.symm.trans e)]; exact ⟨h1,ry⟩
  ·rw [if_neg e,if_neg (fun z=>e (h1.trans z))]; exact ⟨h1,h2⟩
theorem KV.put {kvs:List (κ×V)}{vs:List (κ×Value)}(r:KV kvs vs) (k:κ) {y:V}{u:Value}(ry:RelV y u):KV (bi kvs k y) (stored vs k u):=by
 unfold bi stored
 rw [r.any k]
 by_cases e:(vs.any fun kv=>decide (kv.1=k))=true
 ·rw [if_pos e,if_pos e]; exact r.repl k ry
 ·rw [if_neg e,if_neg e]; exact Paired.snoc r ⟨rfl,ry⟩
theorem KV.length {kvs:List (κ×V)}{vs:List (κ×Value)}(r:KV kvs vs):kvs.length=vs.length:=Paired.length r
end
theorem iu {P:Program}{w:Bj}{k:Key}{u:Value}(r:RelV (kV k) u):(aQ P w).is k u=true:=by
 cases k with
 | inl i=>obtain ⟨t,e⟩:=(show ∃t,u=EQ i t from r); subst e; exact k4 P w i t
 | inr x=>obtain ⟨t,e⟩:=(show ∃t,u=Value.str x t from r); subst e; exact kZ P w x t
theorem jo {P:Program}{w:Bj}:∀{ks:List Key}{us:List Value},Vals (ks.map kV) us->ItemsAre (aQ P w) ks us
 | [],_,r=>by rw [D9] at r; cases r; exact .nil
 | k :: ks,_,r=>by
  rw [Br] at r
  cases r with
  | cons h t=>exact .cons (iu h) (jo t)
abbrev KT (H:Hp):List (List Key×V)->List (List Key×Addr×Value)->Prop:=Paired fun p q=>p.1=q.1/\H q.2.1=some (.tup (p.1.map kV))/\RelV p.2 q.2.2
theorem KT.val {H:Hp}{kvs:List (List Key×V)}{xs:List (List Key×Addr×Value)}(r:KT H kvs xs) (k:List Key):RelO (aN kvs k) ((atKey xs k).map (·.2)):=by
 induction r with
 | nil=>exact C5
 | @cons p q ps qs h t ih =>
  obtain ⟨h1,_,h2⟩:=h
  by_cases e:p.1=k
  ·have e':q.1=k:=h1.symm.trans e
   have b:atKey (q :: qs) k=some q.2:=by simp [atKey,C3,e']
   rw [bg e,b]; exact h2
  ·have e':¬ q.1=k:=fun z=>e (h1.trans z)
   have b:atKey (q :: qs) k=atKey qs k:=by simp [atKey,C3,e']
   rw [bh e,b]; exact ih
theorem KT.repl {H:Hp}{kvs:List (List Key×V)}{xs:List (List Key×Addr×Value)}(r:KT H kvs xs) (k:List Key) {y:V}{u:Value}(ry:RelV y u) :
  KT H (kvs.map fun kv=>if kv.1=k then (kv.1,y) else kv) (xs.map (putAt k u)):=by
 induction r with
 | nil=>exact .nil
 | @cons p q ps qs h t ih =>
  rw [Br,Br]
  refine .cons ?_ ih
  obtain ⟨h1,h2,h3⟩:=h
  unfold putAt
  by_cases e:p.1=k
  ·rw [if_pos e,if_pos (h1.symm.trans e)]; exact ⟨h1,h2,ry⟩
  ·rw [if_neg e,if_neg (fun z=>e (h1.trans z))]; exact ⟨h1,h2,h3⟩
theorem KT.put {H:Hp}{kvs:List (List Key×V)}{xs:List (List Key×Addr×Value)}(r:KT H kvs xs) (k:List Key) {b:Addr}{y:V}{u:Value}(hb:H b=some (.tup (k.map kV))) (ry:RelV y u) :
  KT H (bi kvs k y) (storedH xs k b u):=by
 have e:(kvs.any fun kv=>decide (kv.1=k))=(atKey xs k).isSome:=by
  rw [bR,(r.val k).isSome_eq,Option.isSome_map]
 unfold bi storedH
 rw [e]
 by_cases q:(atKey xs k).isSome=true
 ·rw [if_pos q,if_pos q]; exact r.repl k ry
 ·rw [if_neg q,if_neg q]; exact Paired.snoc r ⟨rfl,hb,ry⟩
theorem KT.keeps {H H':Hp}{kvs:List (List Key×V)}{xs:List (List Key×Addr×Value)}(r:KT H kvs xs) (ht:∀b ys,H b=some (.tup ys)->H' b=some (.tup ys)):KT H' kvs xs :=
 Paired.mapP r fun _ _ z=>⟨z.1,ht _ _ z.2.1,z.2.2⟩
section
variable {P:Program}{w:Bj}{H:Hp}{h:Heap}{a:Addr}
theorem xf {u:HO}(ok:HOk P w H h) (e:Rd H a u):ObjOk P w H h a u:=e.ok ok
theorem gy {kvs:List (Key×V)}(ok:HOk P w H h) (e:Rd H a (.dK kvs)):kvs.length<=sizeLine/\(a == Di)=false/\∃vs,KV kvs vs/\h.DictOf (aQ P w) a vs :=
 show ObjOk P w H h a (.dK kvs) from xf ok e
theorem uo {kvs:List (Key×V)}(ok:HOk P w H h) (e:H a=some (.dK kvs)):kvs.length<=sizeLine/\(a == Di)=false/\∃vs,KV kvs vs/\h.DictOf (aQ P w) a vs:=gy ok (.inl e)
theorem iq {ks:List Key}(ok:HOk P w H h) (e:H a=some (.tup (ks.map kV))):(tupleKind (aQ P w)).is h ks a:=by
 obtain ⟨_,its,r,o,h1,h2,n,h3⟩:=(show ObjOk P w H h a (.tup (ks.map kV)) from ok a _ e)
 exact ⟨o,its.toArray,n,h1,h2,h3,by simpa using jo r⟩
theorem jr {kvs:List (List Key×V)}(ok:HOk P w H h) (e:Rd H a (.dT kvs)):kvs.length<=sizeLine/\(a == Di)=false /\
  ∃xs,KT H kvs xs/\h.DictOfH (tupleKind (aQ P w)) a xs:=by
 obtain ⟨z,y,xs,r,o,es,ep,h1,h2,h3,h4,h5⟩:=(show ObjOk P w H h a (.dT kvs) from xf ok e)
 refine ⟨z,y,xs,r,o,es,ep,h1,h2,h3,h4,fun x hx=>?_,h5⟩
 have all:∀{l:List (List Key×V)}{m:List (List Key×Addr×Value)},KT H l m->∀x∈m,(tupleKind (aQ P w)).is h x.1 x.2.1:=by
  intro l m q
  induction q with
  | nil=>intro x hx; exact nomatch hx
  | @cons p q ps qs hq t ih =>
   intro x hx
   rcases AX.mp hx with e | hx
   ·subst e
    exact iq ok (by rw [<- hq.1]; exact hq.2.1)
   ·exact ih x hx
 exact all r x hx
theorem Ac {kvs:List (List Key×V)}(ok:HOk P w H h) (e:H a=some (.dT kvs)):kvs.length<=sizeLine/\(a == Di)=false /\
  ∃xs,KT H kvs xs/\h.DictOfH (tupleKind (aQ P w)) a xs:=jr ok (.inl e)
end
def DGet (H:Hp) (a:Addr) (y:V) (r:Option V):Prop :=
 (∃kvs k,Rd H a (.dK kvs)/\y=kV k/\r=aN kvs k)\/∃kvs k b,Rd H a (.dT kvs)/\y=.ref b/\H b=some (.tup (k.map kV))/\r=aN kvs k
def Am (H:Hp) (a:Addr) (y v:V) (H':Hp):Prop :=
 (∃kvs k,H a=some (.dK kvs)/\y=kV k/\kvs.length<sizeLine/\H'=upd H a (.dK (bi kvs k v))) \/
 ∃kvs k b,H a=some (.dT kvs)/\y=.ref b/\H b=some (.tup (k.map kV))/\kvs.length<sizeLine/\H'=upd H a (.dT (bi kvs k v))
theorem DGet.k {H:Hp}{a:Addr}{kvs:List (Key×V)}{k:Key}(e:H a=some (.dK kvs)):DGet H a (kV k) (aN kvs k):=.inl ⟨kvs,k,.inl e,rfl,rfl⟩
section
variable {X:Cx}{pins:List (Addr×Obj)}{σ:St}{H:Hp}{s:AL}{a:Addr}{y v:V}{u r:Value}{o:Option V}{A:Bk}{E:Value->AL->Prop}
theorem Inv.big (I:Inv X pins σ H s):Di<s.heap.objs.size:=by
 have h:AY<s.heap.objs.size:=(I.mod.glob.keeps I.bk).lt
 exact Nat.lt_trans (by decide) h
theorem qq {Q:Value->AL->Prop}(hu:A.units+1<cLine) (I:Inv X pins σ H s) (g:DGet H a y (some v)) (ry:RelV y u) (h:∀w' s',Inv X pins σ H s'->RelV v w'->Q w' s') :
  A6 (Bf X.prog X.w) A (ED (.ref a) u) Q E s:=by
 rcases g with ⟨kvs,k,e,ey,l⟩ | ⟨kvs,k,b,e,ey,eb,l⟩
 ·subst ey
  obtain ⟨z,hd,vs,rel,dd⟩:=gy I.hok e
  obtain ⟨w',hw,rw'⟩:=RelO.some_of (v:=v) (o:=valueAt vs k) (by rw [l]; exact rel.val k)
  exact wpAny_getItem_of (iu ry) dd.mapOf hw (h w' _ (I.tok _) rw')
 ·subst ey
  cases (show u=Bc b from ry)
  obtain ⟨z,hd,xs,rel,dd⟩:=jr I.hok e
  obtain ⟨w',hw,rw'⟩:=RelO.some_of (v:=v) (o:=(atKey xs k).map (·.2)) (by rw [l]; exact rel.val k)
  obtain ⟨p,hp,hp2⟩:=Dg.mp hw
  refine wpAny_getItem_heap (Eo hu) (iq I.hok eb) dd hp ?_
  rw [hp2]
  exact h w' _ (I.tok _) rw'
theorem wE {Q:Value->AL->Prop}(hu:A.units+1<cLine) (I:Inv X pins σ H s) (g:DGet H a y o) (ry:RelV y u) (h:∀s',Inv X pins σ H s'->Q (.bool (!o.isSome)) s') :
  A6 (Bf X.prog X.w) A (CP .NotIn u (.ref a)) Q E s:=by
 rcases g with ⟨kvs,k,e,ey,l⟩ | ⟨kvs,k,b,e,ey,eb,l⟩
 ·subst ey
  obtain ⟨z,hd,vs,rel,dd⟩:=gy I.hok e
  refine wpAny_notIn_of (iu ry) hd dd.mapOf ?_
  rw [<- (rel.val k).isSome_eq,<- l]
  exact h _ (I.tok _)
 ·subst ey
  cases (show u=Bc b from ry)
  obtain ⟨z,hd,xs,rel,dd⟩:=jr I.hok e
  refine wpAny_notIn_heap (Eo hu) (iq I.hok eb) hd dd ?_
  have q:=(rel.val k).isSome_eq
  rw [Option.isSome_map] at q
  rw [<- q,<- l]
  exact h _ (I.tok _)
theorem gO {h':Heap}{t':Nat}{ob:HO}(I:Inv X pins σ H s) (mu:Mut (H a)) (hs:By a s.heap h') (he:∃q,h'.get? a=some q) (new:ObjOk X.prog X.w (upd H a ob) h' a ob) :
  Inv X pins σ (upd H a ob) { s with heap:=h',toks:=t' } :=
 I.write (x:=a) (e:=a) mu (.inl rfl) (fun b q hb z=>(hs.2 b hb).trans z) he new
theorem mJ {P:Program}{w:Bj}{H':Hp}{h':Heap}{kvs:List (Key×V)}{vs:List (Key×Value)}(z:kvs.length<=sizeLine) (hd:(a == Di)=false) (rel:KV kvs vs) (dd:h'.DictOf (aQ P w) a vs) :
  ObjOk P w H' h' a (.dK kvs):=⟨z,hd,vs,rel,dd⟩
theorem qp {H':Hp}{Q:Unit->AL->Prop}(hu:A.units+1<cLine) (I:Inv X pins σ H s) (g:Am H a y v H') (ry:RelV y u) (rv:RelV v r) (h:∀s',Inv X pins σ H' s'->Q () s') :
  A6 (Bf X.prog X.w) A (setItem (.ref a) u r) Q E s:=by
 rcases g with ⟨kvs,k,e,ey,l,eH⟩ | ⟨kvs,k,b,e,ey,eb,l,eH⟩
 ·subst ey eH
  obtain ⟨z,hd,vs,rel,dd⟩:=uo I.hok e
  have hz:vs.length<=sizeLine:=by rw [<- rel.length]; exact z
  have hl:(bi kvs k v).length<=sizeLine:=by have:=bT kvs k v; omega
  refine wpAny_setItem_pairs (hsz:=hz) (iu ry) dd fun h' dd' hs=>h _ ?_
  have he:∃q,h'.get? a=some q:=let ⟨q,_,_,hq,_⟩:=dd'; ⟨q,hq⟩
  exact gO I (by rw [e]; exact C5) hs he (mJ hl hd (rel.put k rv) dd')
 ·subst ey eH
  cases (show u=Bc b from ry)
  obtain ⟨z,hd,xs,rel,dd⟩:=Ac I.hok e
  have hz:xs.length<=sizeLine:=by rw [<- Paired.length rel]; exact z
  have hl:(bi kvs k v).length<=sizeLine:=by have:=bT kvs k v; omega
  refine wpAny_setItem_heap (hsz:=hz) (Eo hu) (iq I.hok eb) dd fun h' dd' hs=>h _ ?_
  obtain ⟨q,es,ep,hq,h2,h3,h4,_,h5⟩:=dd'
  refine gO I (by rw [e]; exact C5) hs ⟨q,hq⟩ ⟨hl,hd,_,(rel.put k eb rv).keeps fun c ys ec=>?_,q,es,ep,hq,h2,h3,h4,h5⟩
  rw [aj (bJ ec e (fun z=>nomatch z))]
  exact ec
end
section
variable {X:Cx}{pins:List (Addr×Obj)}{σ:St}{H:Hp}{s:AL}{a:Addr}{kvs:List (Key×V)}{k:Key}{u:Value}{A:Bk}{E:Value->AL->Prop}
end
def zf (i:Expr):Prop:=∀ov iv,subscripted i false ov iv=operate [ov,iv] (ED ov iv)
theorem uR {prog:Program}{w:Bj}{A:Bk}{E:Value->AL->Prop}{s:AL}{env:Env}{value slice:Expr}{pos:Pos}{T id:String}{Q:Value->AL->Prop}
  (hl:typeLookup (.type T) "__getitem__"=pure (some (.builtin id))) (hs:zf slice)
  (h:A6 (Bf prog w) A (eval value env) (fun o s₁=>A6 (Bf prog w) A (eval slice env) (fun i s₂=>s₂.TypeIs o T/\A6 (Bf prog w) A (ED o i) Q E s₂) E s₁) E s) :
  A6 (Bf prog w) A (eval (.Subscript value slice pos) env) Q E s:=by
 refine Subscript_ (Bw h (fun o s₁ h₁=>Bw h₁ (fun i s₂ h₂=>?_) fun _ _ x=>x) fun _ _ x=>x)
 obtain ⟨hT,h₂⟩:=h₂
 unfold EY
 refine AI ?_
 rw [getitemInPython_of_ne hT.not_modules]
 refine AI (Fc hT hl ?_)
 have fin:A6 (Bf prog w) A (subscripted slice false o i) (fun r s₃=>A6 (Bf prog w) A (letTemporaryGo value o r >>= fun _=>pure r) Q E s₃) E s₂:=by
  rw [hs o i]
  exact wpAny_operating (Bw h₂ (fun r s₃ h₃=>AI (wpAny_letTemporaryGo (AV h₃))) fun _ _ x=>x)
 first
  | exact AV (AI fin)
  | exact AI (AV (AI fin))
  | exact AI fin
theorem lA {X:Cx}{pins:List (Addr×Obj)}{σ:St}{H:Hp}{s:AL}{a:Addr}{y:V}{o:Option V}(I:Inv X pins σ H s) (g:DGet H a y o):s.TypeIs (.ref a) "dict":=by
 rcases g with ⟨kvs,k,e,_,_⟩ | ⟨kvs,k,b,e,_,_,_⟩
 ·obtain ⟨_,_,vs,_,dd⟩:=gy I.hok e
  exact dd.typeIs
 ·obtain ⟨_,_,xs,_,dd⟩:=jr I.hok e
  exact dd.typeIs
def wZ (td ty:TE):TE:=fun σ H Q=>td σ H fun x H1=>ty σ H1 fun y H2=>∃a v,x=.ref a/\DGet H2 a y (some v)/\Q v H2
def mW (ty td:TE):TE:=fun σ H Q=>ty σ H fun y H1=>td σ H1 fun x H2=>∃a o,x=.ref a/\DGet H2 a y o/\Q (.bl (!o.isSome)) H2
def xb (td ty tv:TE):TS:=fun D σ H=>tv σ H fun v H1=>td σ H1 fun x H2=>ty σ H2 fun y H3=>∃a H4,x=.ref a/\Am H3 a y v H4/\D.nx σ H4
section
variable {X:Cx}{o i e value:Expr}{pos pos' tpos:Pos}{td ty tv:TE}
theorem vD (hu:X.A.units+1<cLine) (ho:PE X o td) (hi:PE X i ty) (hs:zf i):PE X (.Subscript o i pos) (wZ td ty):=by
 intro pins s σ H Q I h
 refine uR PySem.F.slot_dict_getitem.lookup hs (thn (ho pins s σ H _ I h) fun u s1 ⟨x,H1,I1,rx,q1⟩=>thn (hi pins s1 σ H1 _ I1 q1) fun iv s2 ⟨y,H2,I2,ry,a,v,ex,g,q2⟩=>?_)
 subst ex
 obtain rfl:u=Bc a:=rx
 exact ⟨lA I2 g,qq hu I2 g ry fun w' s3 I3 rw'=>⟨v,H2,I3,rw',q2⟩⟩
theorem pT (hu:X.A.units+1<cLine) (hi:PE X i ty) (ho:PE X o td):PC X .NotIn i o (mW ty td):=by
 intro pins s σ H Q I h
 refine thn (hi pins s σ H _ I h) fun iv s1 ⟨y,H1,I1,ry,q1⟩=>thn (ho pins s1 σ H1 _ I1 q1) fun u s2 ⟨x,H2,I2,rx,a,ov,ex,g,q2⟩=>?_
 subst ex
 obtain rfl:u=Bc a:=rx
 exact wE hu I2 g ry fun s3 I3=>⟨.bl (!ov.isSome),H2,I3,rfl,q2⟩
theorem vo (hu:X.A.units+1<cLine) (ho:PE X o td) (hi:PE X i ty) (hv:PE X value tv) (hs:Es value (some (.Subscript o i pos')) pos.line X.env=pure false) :
  PS X (.Assign [.Subscript o i pos'] value pos) (xb td ty tv):=by
 intro pins s σ H D I h
 refine wpAny_Assign_Subscript (thn (hv pins s σ H _ I h) fun r s1 ⟨v,H1,I1,rv,q1⟩=>thn (ho pins s1 σ H1 _ I1 q1) fun u s2 ⟨x,H2,I2,rx,q2⟩=>thn (hi pins s2 σ H2 _ I2 q2) fun iv s3 ⟨y,H3,I3,ry,a,H4,ex,g,q3⟩=>?_) hs
 subst ex
 obtain rfl:u=Bc a:=rx
 exact qp hu I3 g ry rv fun s4 I4=>⟨σ,H4,I4,q3⟩
end
theorem lz {P:Program}{w:Bj}{H:Hp}(h:Heap) (hb:Di<h.objs.size):ObjOk P w H (h.push { cls:=.type "dict",data:=.dict #[] }) h.objs.size (.dK []) :=
 ⟨Bo _,beq_eq_false_iff_ne.mpr (Cg (Bl hb)),[],.nil,Heap.DictOf.new h⟩
def qQ:TE:=fun _ H Q=>∀p,H p=none->Q (.ref p) (upd H p (.dK []))
section
variable {X:Cx}{pos:Pos}
theorem rY:PE X (.Dict [] [] pos) qQ:=fun pins s σ H Q I h =>
 wpAny_Dict_empty ⟨.ref s.heap.objs.size,_,I.laid (a:=s.heap.objs.size) (o:=.dK []) (t':=s.toks) (fun _ _ q=>AJ _ q) (AM _) (lz s.heap I.big),rfl,h _ (I.hok.fresh (AM _))⟩
end
def lO:List (TE×TE)->St->Hp->(List (V×V)->Hp->Prop)->Prop
 | [],_,H,Q=>Q [] H
 | (tk,tv) :: r,σ,H,Q=>tk σ H fun x H1=>tv σ H1 fun y H2=>lO r σ H2 fun ps H3=>Q ((x,y) :: ps) H3
abbrev VV:List (V×V)->List (Value×Value)->Prop:=Paired fun p q=>RelV p.1 q.1/\RelV p.2 q.2
def PPs (X:Cx) (pos:Pos) (keys:List (Option Expr)) (values:List Expr) (trs:List (TE×TE)):Prop :=
 ∀(pins:List (Addr×Obj)) (s:AL) (σ:St) (H:Hp) (Q:List (V×V)->Hp->Prop),Inv X pins σ H s->lO trs σ H Q ->
  A6 (Bf X.prog X.w) X.A (evalPairs (pairTrees keys values X.env pos)) (fun vs s'=>∃ps H',Inv X pins σ H' s'/\VV ps vs/\Q ps H') X.xe s
theorem vq {X:Cx}{pos:Pos}:PPs X pos [] [] []:=fun pins s σ H Q I h=>pairTrees_nil_walk ⟨[],H,I,.nil,h⟩
theorem rM {X:Cx}{pos:Pos}{k v:Expr}{ks:List (Option Expr)}{vs:List Expr}{tk tv:TE}{trs:List (TE×TE)}(hk:PE X k tk) (hv:PE X v tv) (hr:PPs X pos ks vs trs) :
  PPs X pos (some k :: ks) (v :: vs) ((tk,tv) :: trs):=fun pins s σ H Q I h =>
 pairTrees_cons_walk (thn (hk pins s σ H _ I h) fun u s1 ⟨x,H1,I1,rx,q1⟩=>thn (hv pins s1 σ H1 _ I1 q1) fun w2 s2 ⟨y,H2,I2,ry,q2⟩ =>
  thn (hr pins s2 σ H2 _ I2 q2) fun ws s3 ⟨ps,H3,I3,rel,q3⟩=>⟨(x,y) :: ps,H3,I3,.cons ⟨rx,ry⟩ rel,q3⟩)
def f9 (kvs more:List (Key×V)):List (Key×V):=more.foldl (fun acc kv=>bi acc kv.1 kv.2) kvs
theorem KV.merge:∀{more:List (Key×V)}{rs:List (Key×Value)}{kvs:List (Key×V)}{vs:List (Key×Value)},KV more rs->KV kvs vs->KV (f9 kvs more) (merged vs rs):=by
 intro more rs kvs vs r
 unfold KV at r
 induction r generalizing kvs vs with
 | nil=>intro q; exact q
 | @cons p q ps qs h t ih =>
  intro r0
  have e:KV (bi kvs p.1 p.2) (stored vs q.1 q.2):=by
   have:=r0.put p.1 h.2
   rw [<- h.1]; exact this
  exact ih e
theorem eO:∀(more kvs:List (Key×V)),(f9 kvs more).length<=kvs.length+more.length
 | [],kvs=>by show kvs.length<=kvs.length+0; omega
 | p :: r,kvs=>by
  have h1:=eO r (bi kvs p.1 p.2)
  have h2:=bT kvs p.1 p.2
  show (f9 (bi kvs p.1 p.2) r).length<=_
  rw [AZ]; omega
theorem iK {P:Program}{w:Bj}:∀{kvs:List (Key×V)}{ws:List (Value×Value)},VV (kvs.map fun kv=>(kV kv.1,kv.2)) ws->∃rs,Carries (aQ P w) ws rs/\KV kvs rs
 | [],_,r=>by rw [D9] at r; cases r; exact ⟨[],C5,.nil⟩
 | p :: kvs,_,r=>by
  rw [Br] at r
  cases r with
  | @cons a b as bs h t =>
   obtain ⟨rs,c,q⟩:=iK (P:=P) (w:=w) t
   obtain ⟨b1,b2⟩:=b
   exact ⟨(p.1,b2) :: rs,⟨iu h.1,rfl,c⟩,.cons ⟨rfl,h.2⟩ q⟩
def wY (trs:List (TE×TE)):TE:=fun σ H Q=>∀p,H p=none->lO trs σ (upd H p (.dK [])) fun ps H2=>H2 p=some (.dK [])/\∃kvs:List (Key×V),ps=kvs.map (fun kv=>(kV kv.1,kv.2))/\kvs.length<=15/\Q (.ref p) (upd H2 p (.dK (f9 [] kvs)))
theorem vC {X:Cx}{pos:Pos}{keys:List (Option Expr)}{values:List Expr}{trs:List (TE×TE)}(h:PPs X pos keys values trs) (hall:keys.all (·.isSome)=true) (hl:keys.length=values.length) (h0:keys≠[])
  (h15:keys.length<=15):PE X (.Dict keys values pos) (wY trs):=by
 intro pins s σ H Q I q
 have hn:=I.hok.fresh (AM s.heap.objs.size)
 have I1:=I.laid (a:=s.heap.objs.size) (o:=.dK []) (h':=s.heap.push { cls:=.type "dict",data:=.dict #[] }) (t':=s.toks) (fun _ _ q=>AJ _ q) (AM _) (lz s.heap I.big)
 refine wpAny_Dict_walk (knd:=aQ X.prog X.w) hall hl h0 h15 (thn (h pins _ σ _ _ I1 (q _ hn)) fun ws s2 ⟨ps,H2,I2,rel,e,kvs,ep,lk,q2⟩=>?_)
 subst ep
 obtain ⟨rs,c,rk⟩:=iK (P:=X.prog) (w:=X.w) rel
 obtain ⟨z,hd,vs0,r0,dd⟩:=uo I2.hok e
 cases r0
 refine ⟨rs,c,dd,fun h' dd' hs=>⟨.ref s.heap.objs.size,_,?_,rfl,q2⟩⟩
 have hz:(f9 [] kvs).length<=sizeLine:=by
  have h1:=eO kvs []
  rw [Dp] at h1
  rw [A9]; omega
 have he:∃q,h'.get? s.heap.objs.size=some q:=let ⟨q,_,_,hq,_⟩:=dd'; ⟨q,hq⟩
 exact gO I2 (by rw [e]; exact C5) hs he (mJ hz hd (rk.merge .nil) dd')
structure M2 (X:Cx) (o:Expr) (m:Str) (apos:Pos) (e f:Expr) (cpos:Pos):Prop where
 base:DB o m X.env (eval o X.env)=eval o X.env
 few:((Dx cpos (Bz [e,f] X.env)).all (fun x=>!x.1)&&(backToKw cpos (keywordEach [] X.env)).all (fun x=>x.1.isSome)
 &&decide (([e,f]:List Expr).length+([]:List Keyword).length+(if ([]:List Keyword).isEmpty then 0 else 1)<30))=true
 line:(apos.endLine == cpos.line)=true
 trees:Dx cpos (Bz [e,f] X.env)=[(false,eval e X.env),(false,eval f X.env)]
def IsD (H:Hp) (a:Addr):Prop:=(∃kvs,Rd H a (.dK kvs))\/∃kvs,Rd H a (.dT kvs)
theorem mB {X:Cx}{pins:List (Addr×Obj)}{σ:St}{H:Hp}{s:AL}{a:Addr}(I:Inv X pins σ H s) (d:IsD H a) :
  s.TypeIs (.ref a) "dict"/\(∀b,Bc a=.ref b->∃ob,s.heap.get? b=some ob/\ob.dict=none)/\(a == Di)=false:=by
 rcases d with ⟨kvs,e⟩ | ⟨kvs,e⟩
 ·obtain ⟨_,hd,vs,_,dd⟩:=gy I.hok e
  refine ⟨dd.typeIs,fun b q=>?_,hd⟩
  cases q
  obtain ⟨ob,_,_,h1,h2,_⟩:=dd
  exact ⟨ob,h1,h2.2.1⟩
 ·obtain ⟨_,hd,xs,_,dd⟩:=jr I.hok e
  refine ⟨dd.typeIs,fun b q=>?_,hd⟩
  cases q
  obtain ⟨ob,_,_,h1,h2,_⟩:=dd
  exact ⟨ob,h1,h2.2.1⟩
section
variable {X:Cx}{pins:List (Addr×Obj)}{σ:St}{H:Hp}{s:AL}{a:Addr}{y d:V}{u r:Value}{o:Option V}{A:Bk}{E:Value->AL->Prop}
theorem y8 {Q:Value->AL->Prop}(hu:A.units+1<cLine) (I:Inv X pins σ H s) (g:DGet H a y o) (ry:RelV y u) (rd:RelV d r) (h:∀w' s',Inv X pins σ H s'->RelV (o.getD d) w'->Q w' s') :
  A6 (Bf X.prog X.w) A (call (.builtin "dict.get") [.ref a,u,r]) Q E s:=by
 rcases g with ⟨kvs,k,e,ey,l⟩ | ⟨kvs,k,b,e,ey,eb,l⟩
 ·subst ey
  obtain ⟨z,hd,vs,rel,dd⟩:=gy I.hok e
  refine call_meetsIn EM dd.typeIs PySem.F.entry_dict_get (PySem.F.args_dict_get_3 _ _ _) (meets_dict_get_default (aQ X.prog X.w) a (iu ry) hd r) ⟨_,dd.mapOf,h _ _ (I.tok _) ?_⟩
  rw [l]
  exact (rel.val k).getD rd
 ·subst ey
  cases (show u=Bc b from ry)
  obtain ⟨z,hd,xs,rel,dd⟩:=jr I.hok e
  refine call_meetsIn EM dd.typeIs PySem.F.entry_dict_get (PySem.F.args_dict_get_3 _ _ _) (meetsH_dict_get_default (tupleKind (aQ X.prog X.w)) a b hd r) ⟨Eo hu,k,xs,iq I.hok eb,dd,h _ _ (I.tok _) ?_⟩
  rw [l]
  exact (rel.val k).getD rd
end
def qR (td ty tx:TE):TE:=fun σ H Q=>td σ H fun x H1=>∃a,x=.ref a/\IsD H1 a/\ty σ H1 fun y H2=>tx σ H2 fun z H3=>∃o,DGet H3 a y o/\Q (o.getD z) H3
section
variable {X:Cx}{o e f:Expr}{apos cpos:Pos}{td ty tx:TE}
theorem rZ (hu:X.A.units+1<cLine) (ho:PE X o td) (he:PE X e ty) (hf:PE X f tx) (m:M2 X o "get" apos e f cpos):PE X (.Call (.Attribute o "get" apos) [e,f] [] cpos) (qR td ty tx):=by
 intro pins s σ H Q I h
 refine wpAny_Call_method m.base m.few m.line Ew EM PySem.F.type_dict_get (thn (ho pins s σ H _ I h) fun u s1 ⟨x,H1,I1,rx,a,ex,d,q1⟩=>?_)
 subst ex
 obtain rfl:u=Bc a:=rx
 obtain ⟨t1,t2,_⟩:=mB I1 d
 refine ⟨t1,t2,?_⟩
 rw [m.trees]
 refine DP rfl (Du (CI (thn (he pins s1 σ H1 _ I1 q1) fun iv s2 ⟨y,H2,I2,ry,q2⟩ =>
  CI (thn (hf pins s2 σ H2 _ I2 q2) fun fv s3 ⟨z,H3,I3,rz,ov,g,q3⟩=>Ds ?_))))
 exact y8 hu I3 g ry rz fun w' s4 I4 rw'=>⟨_,H3,I4,rw',q3⟩
end
section
variable {X:Cx}{pins:List (Addr×Obj)}{σ:St}{H:Hp}{s:AL}{a:Addr}{kvs:List (Key×V)}{A:Bk}{E:Value->AL->Prop}
end
section
variable {X:Cx}{pins:List (Addr×Obj)}{σ:St}{H:Hp}{s:AL}{a:Addr}{y:V}{u:Value}{A:Bk}{E:Value->AL->Prop}
end
section
variable {X:Cx}
end
section
variable {κ:Type} [DecidableEq κ]
theorem qG {kvs:List (κ×V)}{k:κ}(h:aN kvs k=none):¬ k∈kvs.map (·.1):=by
 intro m
 obtain ⟨p,hp,e⟩:=Be.mp m
 have q:(kvs.any fun kv=>decide (kv.1=k))=true:=C6.mpr ⟨p,hp,decide_eq_true e⟩
 rw [bR,h] at q
 exact absurd q (by simp)
theorem nW:∀{l:List κ}{k:κ},l.Nodup->¬ k∈l->(l++[k]).Nodup
 | [],k,_,_=>by simp
 | a :: r,k,h,hk=>by
  obtain ⟨h1,h2⟩:=CH.mp h
  show (a :: (r++[k])).Nodup
  refine CH.mpr ⟨fun m=>?_,nW h2 fun m=>hk (AX.mpr (Or.inr m))⟩
  rcases CG.mp m with q | q
  ·exact h1 q
  ·exact hk (AX.mpr (Or.inl (Bi.mp q).symm))
theorem nX {kvs:List (κ×V)}{k:κ}(v:V) (hn:(kvs.map (·.1)).Nodup) (h:aN kvs k=none):((bi kvs k v).map (·.1)).Nodup:=by
 rw [hV v h,A8]
 exact nW hn (qG h)
end
section
variable {X:Cx}{pins:List (Addr×Obj)}{σ:St}{H:Hp}{s:AL}{h':Heap}
theorem Inv.turnedL {t':Nat}{ch:List Addr}(I:Inv X pins σ H s) (k:∀b o,b ∉ ch->s.heap.get? b=some o->h'.get? b=some o) (hf:∀b∈ch,cH X pins H b):Inv X pins σ H { s with heap:=h',toks:=t' }:=by
 have nit:∀b u,H b=some u->b ∉ ch:=fun b u e z=>by rw [(hf b z).1] at e; cases e
 refine I.step (g':=s.gens) (d':=s.drawn) (ch:=ch) (fun b hb=>⟨(hf b hb).2.2.2.1,(hf b hb).2.1,(hf b hb).2.2.2.2.1,(hf b hb).2.2.2.2.2⟩) (fun b o _ _ hc e _=>k b o hc e) (fun b o _ _ hc e _=>⟨o.slots,k b o hc e⟩) (fun _ _ _ _ n=>n)
  (fun b o hc e=>⟨o,k b o hc e⟩) (fun _ _ e=>e) (fun _ _ _ e=>e) (fun b ps e=>⟨#[],by rw [e]; simp⟩) (fun m hm=>?_) (fun b u e=>?_) I.bare
 ·obtain ⟨o,es,ep,ho,r⟩:=hm
  exact ⟨o,es,ep,k _ o (fun z=>(hf _ z).2.1 rfl) ho,r⟩
 ·refine (I.hok b u e).stay (fun c v hc q=>k c v ?_ q) (fun _ q=>q) fun _ _ q=>q
  rcases hc with z | z
  ·rw [z]; exact nit b u e
  ·exact nit c _ z
end
def Ite (K:AK) (a:Addr):It :=
 ⟨fun i H=>∃xs x,SqL K H a xs/\xs[i]?=some x,fun i H x H'=>∃p v,x=.ref p/\H p=none/\H'=upd H p (.tup [.int (i:Int),v])/\∀xs,SqL K H a xs->xs[i]?=some v,fun i H=>∃xs,SqL K H a xs/\xs.length<=i⟩
theorem pA {P:Program}{w:Bj}{K:AK}{elts:List Expr}{x1} {pos:Pos}(a e it:Addr) (hne:e≠it) :
  kn P w K (.Tuple elts x1 pos) (Ite K a) [e,it] e (fun i h=>∃old,IsEnum h e it (i:Int) old/\h.IsListIter it a i) where
 mem:=by simp
 obj:=fun i h st b hb=>by
  obtain ⟨old,he,o,e1,c,d⟩:=st
  have hb':b=e\/b=it:=by simpa using hb
  rcases hb' with rfl | rfl
  ·exact ⟨_,he,fun v z=>by
    have z':Data.fields _=Data.cell v:=z
    cases z'⟩
  ·exact ⟨o,e1,fun v z=>by rw [d] at z; cases z⟩
 keep:=fun i h h' st k=>by
  obtain ⟨old,he,hi⟩:=st
  exact ⟨old,k e (by simp) _ he,hi.at fun o q=>k it (by simp) o q⟩
 item:=by
  intro X hP hw hK hc i pins s σ H E I hf st hg
  subst hP hw hK
  obtain ⟨xs,x,hq,hx⟩:=hg
  obtain ⟨old,he,hit⟩:=st
  obtain ⟨its,rv,p,hz⟩:=I.list hq
  obtain ⟨u,hu,ru⟩:=rv.get hx
  refine wpAny_pyNext_enum_item he hit p.isList (x:=u) (by simpa using hu) hne fun h1 eo hit1 ht hz1 hk1=>?_
  refine ⟨_,rfl,wpAny_letOwnedTupleGo_enum (s:={ s with heap:=h1,toks:=s.toks+1 }) eo fun h2 he2 hs2=>?_⟩
  have hs2':By e h1 h2:=hs2
  have nH:H s.heap.objs.size=none:=I.hok.fresh (AM _)
  have eL:e<s.heap.objs.size:=A3 he
  obtain ⟨oi,hoi,ci,di⟩:=id hit
  have iL:it<s.heap.objs.size:=A3 hoi
  have ht2:h2.get? s.heap.objs.size=some { cls:=.type "tuple",data:=.seq #[.int i s.toks,u] }:=(hs2'.2 _ (EA eL)).trans ht
  have pg:(s.heap.push { cls:=.type "tuple",data:=.seq #[.int i s.toks,u] }).get? s.heap.objs.size=some { cls:=.type "tuple",data:=.seq #[.int i s.toks,u] }:=A5 _ rfl
  have J1:=I.laid (a:=s.heap.objs.size) (o:=.tup [.int (i:Int),x]) (h':=s.heap.push { cls:=.type "tuple",data:=.seq #[.int i s.toks,u] }) (t':=s.toks) (fun b v z=>AJ _ z) (AM _)
   ⟨(by show 2<=sizeLine; decide),[.int i s.toks,u],.cons ⟨_,rfl⟩ (.cons ru .nil),⟨_,pg,rfl,_,rfl⟩⟩
  have fp':∀b∈[e,it],cH X pins (upd H s.heap.objs.size (.tup [.int (i:Int),x])) b:=fun b hb=>by
   obtain ⟨f0,f1,f2,f3,f4,f5⟩:=hf b hb
   have hb':b=e\/b=it:=by simpa using hb
   refine ⟨?_,f1,f2,f3,f4,f5⟩
   rw [aj (by rcases hb' with rfl | rfl; exact Bl eL; exact Bl iL)]
   exact f0
  have J2:=J1.turnedL (h':=h2) (t':=s.toks+1) (ch:=[e,it]) (fun b o hb z=>by
   have n1:b≠e:=fun y=>hb (by simp [y])
   have n2:b≠it:=fun y=>hb (by simp [y])
   by_cases hp:b=s.heap.objs.size
   ·subst hp
    have z':s.heap.objs.size=s.heap.objs.size->(s.heap.push { cls:=.type "tuple",data:=.seq #[.int i s.toks,u] }).get? s.heap.objs.size=some o:=fun _=>z
    rw [pg] at z'
    have:=z' rfl
    cases this
    exact ht2
   ·have z2:s.heap.get? b=some o:=cL z hp
    exact (hs2'.2 b n1).trans (hk1 b o n1 n2 z2)) fp'
  refine ⟨.ref s.heap.objs.size,_,J2,rfl,⟨_,x,rfl,nH,rfl,fun ys hy=>by rw [I.list_inj hy hq]; exact hx⟩,⟨u,?_,?_⟩,fun b hb=>(fp' b hb).1⟩
  ·have e1:((i:Int)+1)=((i+1:Nat):Int):=by omega
   rw [<- e1]
   exact he2
  ·exact hit1.at fun o q=>(hs2'.2 it (Cg hne)).trans q
 done:=by
  intro X hP hw hK hc i pins s σ H E I hf st hg
  subst hP hw hK
  obtain ⟨xs,hq,hx⟩:=hg
  obtain ⟨old,he,hit⟩:=st
  obtain ⟨its,rv,p,hz⟩:=I.list hq
  have hl:=rv.length
  refine wpAny_pyNext_enum_end (I.ok.hd hc) he hit p.isList (by simp; omega) fun h' eb=>⟨rfl,I.turnedL (t':=s.toks) (ch:=[e,it]) (fun b o hb z=>eb b o (fun y=>hb (by simp [y])) z) hf⟩
 self:=fun _ _ _ _ _ st h=>by
  obtain ⟨old,he,_⟩:=st
  exact EG he h
def xt (K:AK) (ta:TA):TI:=fun σ H R=>ta σ H fun vs H1=>∃a,vs=[.ref a]/\(∃xs,SqL K H1 a xs)/\R (Ite K a) H1
section
variable {X:Cx}
theorem vz {elts:List Expr}{x1} {tpos p pos:Pos}{a:Expr}{ta:TA}(hg:Gl X "enumerate") (hm:X.mg "enumerate"=none) (hbt:B2 "enumerate"=some (.type "enumerate")) (ha:PA X [a] ta) (hs:Bz [a] X.env=[(false,eval a X.env)]:=by rfl) :
  PI X (.Tuple elts x1 tpos) (.Call (.Name "enumerate" p) [a] [] pos) (xt X.K ta):=by
 intro pins s σ H R I h
 refine Call_ (bG I hg hm hbt (BC (thn (ha pos pins s σ H _ I h) fun us s1 ⟨vs,H1,I1,r1,q1⟩=>?_) hs rfl))
 obtain ⟨a,rfl,⟨xs,hq⟩,q⟩:=q1
 obtain ⟨u,rfl,ru⟩:=cT r1
 cases ru
 obtain ⟨its,rv,pl,hz⟩:=I1.list hq
 refine call_enumerate_list pl.isList fun h' he hi hsz hk=>?_
 refine EG he ?_
 have I2:Inv X pins σ H1 { s1 with heap:=h' }:=I1.kept (t':=s1.toks) hk
 refine ⟨s1.heap.objs.size+1,[s1.heap.objs.size+1,s1.heap.objs.size],_,_,H1,rfl,I2,pA a _ _ (Nat.succ_ne_self _),⟨_,he,hi⟩,fun b hb=>?_,q⟩
 have hb':b=s1.heap.objs.size+1\/b=s1.heap.objs.size:=by simpa using hb
 rcases hb' with rfl | rfl
 ·exact I1.fpOk (DM _) (I1.hok.fresh (DM _))
 ·exact I1.fpOk (AM _) (I1.hok.fresh (AM _))
theorem iB {K:AK}{a:Addr}{xs:List V}{g:TG}{tb:TS}{D:Ends}{σ:St}{H:Hp}(Pv:Nat->St->Hp->Prop) (h0:Pv 0 σ H) (hl:∀i σ H,i<=xs.length->Pv i σ H->SqL K H a xs)
  (hs:∀i x σ H p,xs[i]?=some x->Pv i σ H->H p=none->g (.ref p) σ (upd H p (.tup [.int (i:Int),x])) fun σ2 H2=>tb { D with nx:=Pv (i+1),ct:=Pv (i+1),bk:=D.nx } σ2 H2) (hd:∀ σ H,Pv xs.length σ H->D.nx σ H) :
  ∃W:Nat->Nat->St->Hp->Prop,(∃m,W 0 m σ H)/\∀i m σ H,W i m σ H ->
   ((Ite K a).stop i H/\D.nx σ H)\/((Ite K a).go i H/\∃N:St->Hp->Prop,(∀ σ' H',N σ' H'->∃m',m'<m/\W (i+1) m' σ' H')/\∀x H',(Ite K a).yld i H x H'->g x σ H' fun σ2 H2=>tb { D with nx:=N,ct:=N,bk:=D.nx } σ2 H2):=by
 refine ⟨fun i m σ H=>m=xs.length-i/\i<=xs.length/\Pv i σ H,⟨xs.length,by simp,Bo _,h0⟩,?_⟩
 rintro i m σ H ⟨rfl,hi,p⟩
 have q:=hl i σ H hi p
 by_cases hlt:i<xs.length
 ·refine .inr ⟨⟨xs,xs[i],q,by simp [hlt]⟩,Pv (i+1),fun σ' H' p'=>⟨xs.length-(i+1),by omega,rfl,hlt,p'⟩,fun x H' y=>?_⟩
  obtain ⟨pp,v,rfl,hn,rfl,y⟩:=y
  exact hs i v σ H pp (y xs q) p hn
 ·have e:i=xs.length:=by omega
  subst e
  exact .inl ⟨⟨xs,q,AM _⟩,hd σ H p⟩
end
section
variable {X:Cx}
end
def aw:Expr->Bool
 | .Starred _ _=>false
 | _=>true
theorem ar {e:Expr}{es:List Expr}{env:Env}(h:aw e=true):Bz (e :: es) env=(false,eval e env) :: Bz es env:=by
 cases e <;> first | rfl | cases h
theorem br {env:Env}{pos:Pos}:∀{es:List Expr},es.all aw=true->(Dx pos (Bz es env)).any (·.1)=false
 | [],_=>rfl
 | e :: es,h=>by
  rw [List.all_cons,BG] at h
  rw [ar h.1]
  show (false||(Dx pos (Bz es env)).any (·.1))=false
  rw [br h.2]
  rfl
section
variable {X:Cx}
theorem pw' (i:Nat) {x:Str}{pos:Pos}(hN:X.N[i]?=some x:=by kernel_rfl) (hv:X.env.scope.names.lookup x=some .local:=by kernel_rfl) (hd:(x == ("__debug__":Str))=false:=by kernel_rfl)
  (hcd:(x == ("__classdict__":Str))=false:=by kernel_rfl):PE X (.Name x pos) (lN i):=jV hN (.inl hv) hd hcd
theorem pc' (i:Nat) {x:Str}{pos:Pos}(hN:X.N[i]?=some x:=by kernel_rfl) (hv:X.env.scope.names.lookup x=some .cell:=by kernel_rfl) (hd:(x == ("__debug__":Str))=false:=by kernel_rfl)
  (hcd:(x == ("__classdict__":Str))=false:=by kernel_rfl):PE X (.Name x pos) (lN i):=jV hN (.inr (.inl hv)) hd hcd
theorem vm {i:Nat}{x:Str}{e:Expr}{te:TE}{pos pos':Pos}(hN:X.N.Nodup) (he:PE X e te) (hi:X.N[i]?=some x:=by kernel_rfl) (hx:X.env.scope.names.lookup x=some .local:=by kernel_rfl)
  (hs:Es e (some (.Name x pos')) pos.line X.env=pure false:=by kernel_rfl):PS X (.Assign [.Name x pos'] e pos) (qT te (iz i)):=x_ (i:=i) hN hi (.inl hx) he hs (.inr hx)
theorem rR {i:Nat}{x:Str}{pos:Pos}(hN:X.N.Nodup) (hi:X.N[i]?=some x:=by kernel_rfl) (hx:X.env.scope.names.lookup x=some .local:=by kernel_rfl):PG X (.Name x pos) (iz i):=nQ hN hi (.inl hx) (.inr hx)
theorem pa' {e:Expr}{es:List Expr}{te:TE}{t:TA}(ha:PE X e te) (hr:PA X es t) (hs:aw e=true:=by rfl):PA X (e :: es) (bZ te t):=vH ha hr (ar hs)
theorem sk {CX:CXT}{j k:Nat}{ps:List Str}{sp:Sp}{E:XK}{x:Str}{p pos:Pos}{e:Expr}{es:List Expr}{t:TA}(D:Def X.prog X.w X.K X.mg X.base CX x j ps sp) (hr:Room k X.A) (hx:d8 CX X E) (ha:PA X (e :: es) t) (hj:j<=k:=by decide) (hg:X.env.kindOf x=some .globalImplicit:=by kernel_rfl)
  (hdb:(x == ("__debug__":Str))=false:=by kernel_rfl) (he:aw e=true:=by rfl) (hpl:es.all aw=true:=by rfl) :
  PE X (.Call (.Name x p) (e :: es) [] pos) (mX sp [] E t):=so D hr hx ha hj hg hdb (ar he) (br hpl)
theorem pb' {id:String}{r:List V->Hp->VK->Prop}{x:Str}{p pos:Pos}{e:Expr}{es:List Expr}{t:TA}(hc:bV X (.builtin id) r) (hm:X.mg x=none) (hv:B2 x=some (.builtin id)) (ha:PA X (e :: es) t) (hg:X.env.kindOf x=some .globalImplicit:=by kernel_rfl) (hn:x≠"__name__":=by decide) (hdb:(x == ("__debug__":Str))=false:=by kernel_rfl)
  (he:aw e=true:=by rfl) (hpl:es.all aw=true:=by rfl):PE X (.Call (.Name x p) (e :: es) [] pos) (tCB r t):=sq hc hg hm hv ha hn hdb (ar he) (br hpl)
theorem pt' {T:String}{r:List V->Hp->VK->Prop}{x:Str}{p pos:Pos}{e:Expr}{es:List Expr}{t:TA}(hc:bV X (.type T) r) (hm:X.mg x=none) (hv:B2 x=some (.type T)) (ha:PA X (e :: es) t) (hg:X.env.kindOf x=some .globalImplicit:=by kernel_rfl) (hn:x≠"__name__":=by decide) (hdb:(x == ("__debug__":Str))=false:=by kernel_rfl)
  (he:aw e=true:=by rfl) (hpl:es.all aw=true:=by rfl):PE X (.Call (.Name x p) (e :: es) [] pos) (tCB r t):=pR hc hg hm hv ha hn hdb (ar he) (br hpl)
theorem pgl {x:Str}{v:V}{u:Value}{pos:Pos}(hm:X.mg x=some u) (r:RelV v u) (hg:X.env.kindOf x=some .globalImplicit:=by kernel_rfl) (hd:(x == ("__debug__":Str))=false:=by kernel_rfl):PE X (.Name x pos) (tC v):=vB hg hm r hd
theorem pbl {x:Str}{v:V}{u:Value}{pos:Pos}(hm:X.mg x=none) (hv:B2 x=some u) (r:RelV v u) (hg:X.env.kindOf x=some .globalImplicit:=by kernel_rfl) (hn:x≠"__name__":=by decide) (hd:(x == ("__debug__":Str))=false:=by kernel_rfl):PE X (.Name x pos) (tC v):=vG hg hm hv r hn hd
end
end L2
set_option autoImplicit true
set_option relaxedAutoImplicit true
namespace L2
open PySem PySem.Spec PyProof.Rows
structure QE (X:Cx) (e:Expr) (t:TE):Prop where
 h:PE X e t
structure QT (X:Cx) (e:Expr) (t:TT):Prop where
 h:PT X e t
structure QW (X:Cx) (e:Expr) (t:TT):Prop where
 h:PW X e t
structure QA (X:Cx) (es:List Expr) (t:TA):Prop where
 h:PA X es t
structure QS (X:Cx) (st:Stmt) (t:TS):Prop where
 h:PS X st t
structure QSs (X:Cx) (st:List Stmt) (t:TS):Prop where
 h:PSs X st t
structure QG (X:Cx) (e:Expr) (t:TG):Prop where
 h:PG X e t
structure QGs (X:Cx) (es:List Expr) (t:TGs):Prop where
 h:PGs X es t
structure QO (X:Cx) (e:Option Expr) (t:TO):Prop where
 h:PO X e t
structure QI (X:Cx) (tg it:Expr) (t:TI):Prop where
 h:PI X tg it t
section
variable {X:Cx}
theorem ae {i j pos}:QE X (.Constant (.int i) j pos) (tC (.int i)):=⟨yp⟩
theorem aS {x j pos}:QE X (.Constant (.str x) j pos) (tC (.str x)):=⟨yj⟩
theorem lx {b j pos}:QE X (.Constant (.bool b) j pos) (tC (.bl b)):=⟨zR⟩
theorem e_v (i:Nat) {x:Str}{pos:Pos}(hN:X.N[i]?=some x:=by kernel_rfl) (hv:X.env.scope.names.lookup x=some .local:=by kernel_rfl) (hd:(x == ("__debug__":Str))=false:=by kernel_rfl) (hcd:(x == ("__classdict__":Str))=false:=by kernel_rfl):QE X (.Name x pos) (lN i):=⟨pw' i hN hv hd hcd⟩
theorem e_c (i:Nat) {x:Str}{pos:Pos}(hN:X.N[i]?=some x:=by kernel_rfl) (hv:X.env.scope.names.lookup x=some .cell:=by kernel_rfl) (hd:(x == ("__debug__":Str))=false:=by kernel_rfl) (hcd:(x == ("__classdict__":Str))=false:=by kernel_rfl):QE X (.Name x pos) (lN i):=⟨pc' i hN hv hd hcd⟩
theorem e_n (i:Nat) {x:Str}{pos:Pos}(hN:X.N[i]?=some x:=by rfl) (hv:Vis X.env.scope x:=by first | exact Or.inl rfl | exact Or.inr (Or.inl rfl) | exact Or.inr (Or.inr rfl)) (hd:(x == ("__debug__":Str))=false:=by kernel_rfl) (hcd:(x == ("__classdict__":Str))=false:=by kernel_rfl):QE X (.Name x pos) (lN i):=⟨jV hN hv hd hcd⟩
theorem qm {x:Str}{v:V}{u:Value}{pos:Pos}(hm:X.mg x=some u) (r:RelV v u) (hg:X.env.kindOf x=some .globalImplicit:=by kernel_rfl) (hd:(x == ("__debug__":Str))=false:=by kernel_rfl):QE X (.Name x pos) (tC v):=⟨pgl hm r hg hd⟩
theorem Ab {x:Str}{v:V}{u:Value}{pos:Pos}(hm:X.mg x=none) (hv:B2 x=some u) (r:RelV v u) (hg:X.env.kindOf x=some .globalImplicit:=by kernel_rfl) (hn:x≠"__name__":=by decide) (hd:(x == ("__debug__":Str))=false:=by kernel_rfl):QE X (.Name x pos) (tC v):=⟨pbl hm hv r hg hn hd⟩
theorem aD {op:Operator}{r:R2}{a b:Expr}{ta tb:TE}{pos:Pos}(ho:OpR X (DU op) r) (ha:QE X a ta) (hb:QE X b tb):QE X (.BinOp a op b pos) (tOp r ta tb):=⟨zP ho ha.h hb.h⟩
theorem fP {op:UnaryOp}{r:V->Hp->VK->Prop}{a:Expr}{ta:TE}{pos:Pos}(ho:UnR X (unaryOp op) r) (ha:QE X a ta):QE X (.UnaryOp op a pos) (tUn r ta):=⟨zO ho ha.h⟩
theorem oI {op:CmpOp}{r:R2}{a b:Expr}{ta tb:TE}{pos:Pos}(ho:OpR X (CP op) r) (ha:QE X a ta) (hb:QE X b tb) (hm:Dy op b=false:=by first | exact sT _ | with_unfolding_all rfl):QE X (.Compare a [op] [b] pos) (tOp r ta tb):=⟨vE ho ha.h hb.h hm⟩
theorem aK {op:CmpOp}{r:R2}{a b:Expr}{ta tb:TE}{pos:Pos}(ho:OpR X (CP op) r) (ha:QE X a ta) (hb:QE X b tb) (hm:Dy op b=false:=by first | exact sT _ | with_unfolding_all rfl):QT X (.Compare a [op] [b] pos) (wS (tOp r ta tb)):=⟨vg ho ha.h hb.h hm⟩
theorem wC {op op':CmpOp}{r r':R2}{a b c:Expr}{ta tb tc:TE}{pos:Pos}(ho:OpR X (CP op) r) (ho':OpR X (CP op') r') (ha:QE X a ta) (hb:QE X b tb) (hc:QE X c tc) (hm:lastMarks [op,op'] [b,c]=false:=by with_unfolding_all rfl) :
  QE X (.Compare a [op,op'] [b,c] pos) (qS r r' ta tb tc):=⟨r_ ho ho' ha.h hb.h hc.h hm⟩
theorem kD {i o:Expr}{ty td:TE}{pos} (hu:X.A.units+1<cLine) (hi:QE X i ty) (ho:QE X o td) (h1:Dy .NotIn o=false:=by with_unfolding_all rfl):QT X (.Compare i [.NotIn] [o] pos) (tB (mW ty td)):=⟨x9 (pT hu hi.h ho.h) h1⟩
theorem iX {e:Expr}{t:TE}(h:QE X e t) (he:∀whole,isTrue e X.env whole=(do let v <- whole; standAt e.pos; Ff [v] (truthy v)):=by intro _; rfl):QT X e (tB t):=⟨xZ h.h he⟩
theorem zm {a:Expr}{t:TT}{pos} (h:QT X a t):QT X (.UnaryOp .Not a pos) (zr t):=⟨x8 h.h⟩
theorem t_w {e:Expr}{t:TT}(h:QW X e t):QT X e t:=⟨PW.pt h.h⟩
theorem jC {a:Expr}{t:TT}{pos} (h:QT X a t):QW X (.BoolOp .And [a] pos) t:=⟨vc h.h⟩
theorem kt {a:Expr}{t:TT}{pos} (h:QT X a t):QW X (.BoolOp .Or [a] pos) t:=⟨xX h.h⟩
theorem iT {a b:Expr}{rest:List Expr}{t u:TT}{pos} (ha:QT X a t) (hb:QW X (.BoolOp .And (b :: rest) pos) u):QW X (.BoolOp .And (a :: b :: rest) pos) (zy t u):=⟨xY ha.h hb.h⟩
theorem qE {a b:Expr}{rest:List Expr}{t u:TT}{pos} (ha:QT X a t) (hb:QW X (.BoolOp .Or (b :: rest) pos) u):QW X (.BoolOp .Or (a :: b :: rest) pos) (tOr t u):=⟨zM ha.h hb.h⟩
theorem xx {op} {a:Expr}{t:TE}{pos} (h:QE X a t):QE X (.BoolOp op [a] pos) t:=⟨ym h.h⟩
theorem xz {a b:Expr}{rest:List Expr}{ta tb:TE}{pos} (ha:QE X a ta) (hb:QE X (.BoolOp .And (b :: rest) pos) tb):QE X (.BoolOp .And (a :: b :: rest) pos) (w4 ta tb):=⟨yq ha.h hb.h⟩
theorem Aa {a:Expr}{ta:TE}{pos} (ha:QE X a ta):QE X (.UnaryOp .Not a pos) (wU ta):=⟨yn ha.h⟩
theorem Ay {c a b:Expr}{t:TT}{ta tb:TE}{pos} (hc:QT X c t) (ha:QE X a ta) (hb:QE X b tb):QE X (.IfExp c a b pos) (tIf t ta tb):=⟨rW hc.h ha.h hb.h⟩
theorem af:QA X [] gB:=⟨cz⟩
theorem aa {e:Expr}{es:List Expr}{te:TE}{t:TA}(ha:QE X e te) (hr:QA X es t) (hs:aw e=true:=by rfl):QA X (e :: es) (bZ te t):=⟨pa' ha.h hr.h hs⟩
theorem aW {es:List Expr}{t:TA}{pos} (h:QA X es t):QE X (.List es pos) (zt t):=⟨yo h.h⟩
theorem ba {es:List Expr}{t:TA}{x1 pos} (h:QA X es t):QE X (.Tuple es x1 pos) (zn t):=⟨yi h.h⟩
theorem au {r:R2}{a b:Expr}{ta tb:TE}{pos} (hr:IxR X r) (ha:QE X a ta) (hb:QE X b tb) (hs:o_ b:=by exact fun _ _=>rfl):QE X (.Subscript a b pos) (tOp r ta tb):=⟨zQ hr ha.h hb.h hs⟩
theorem cB:QO X none mV:=⟨vv⟩
theorem bj {e:Expr}{t:TE}(h:QE X e t):QO X (some e) (wT t):=⟨vt h.h⟩
theorem ge {r:V->Option Int->Option Int->Hp->VK->Prop}{e:Expr}{lo hi:Option Expr}{te:TE}{tl th:TO}{p2 pos} (hr:SlR X r) (he:QE X e te) (hl:QO X lo tl) (hu:QO X hi th):QE X (.Subscript e (.Slice lo hi none p2) pos) (tSl r te tl th):=⟨rT hr he.h hl.h hu.h⟩
theorem ap {CX:CXT}{j k:Nat}{ps:List Str}{sp:Sp}{E:XK}{x:Str}{p pos:Pos}{e:Expr}{es:List Expr}{t:TA}(D:Def X.prog X.w X.K X.mg X.base CX x j ps sp) (hr:Room k X.A) (hx:d8 CX X E) (ha:QA X (e :: es) t) (hj:j<=k:=by decide) (hg:X.env.kindOf x=some .globalImplicit:=by kernel_rfl)
  (hdb:(x == ("__debug__":Str))=false:=by kernel_rfl) (he:aw e=true:=by rfl) (hpl:es.all aw=true:=by rfl):QE X (.Call (.Name x p) (e :: es) [] pos) (mX sp [] E t):=⟨sk D hr hx ha.h hj hg hdb he hpl⟩
theorem e_b {id:String}{r:List V->Hp->VK->Prop}{x:Str}{p pos:Pos}{e:Expr}{es:List Expr}{t:TA}(hc:bV X (.builtin id) r) (hm:X.mg x=none) (hv:B2 x=some (.builtin id)) (ha:QA X (e :: es) t) (hg:X.env.kindOf x=some .globalImplicit:=by kernel_rfl) (hn:x≠"__name__":=by decide) (hdb:(x == ("__debug__":Str))=false:=by kernel_rfl)
  (he:aw e=true:=by rfl) (hpl:es.all aw=true:=by rfl):QE X (.Call (.Name x p) (e :: es) [] pos) (tCB r t):=⟨pb' hc hm hv ha.h hg hn hdb he hpl⟩
theorem e_t {T:String}{r:List V->Hp->VK->Prop}{x:Str}{p pos:Pos}{e:Expr}{es:List Expr}{t:TA}(hc:bV X (.type T) r) (hm:X.mg x=none) (hv:B2 x=some (.type T)) (ha:QA X (e :: es) t) (hg:X.env.kindOf x=some .globalImplicit:=by kernel_rfl) (hn:x≠"__name__":=by decide) (hdb:(x == ("__debug__":Str))=false:=by kernel_rfl)
  (he:aw e=true:=by rfl) (hpl:es.all aw=true:=by rfl):QE X (.Call (.Name x p) (e :: es) [] pos) (tCB r t):=⟨pt' hc hm hv ha.h hg hn hdb he hpl⟩
theorem bn {o e:Expr}{to te:TE}{apos cpos:Pos}(ho:QE X o to) (ha:QE X e te) (hs:aw e=true:=by rfl) (hbase:DB o "append" X.env (eval o X.env)=eval o X.env:=by rfl) (hline:(apos.endLine == cpos.line)=true:=by rfl) :
  QE X (.Call (.Attribute o "append" apos) [e] [] cpos) (tBM X.K "list" nO to (bZ te gB)):=⟨xh PySem.F.plainAttrs_list PySem.F.slot_list_append PySem.F.type_list_append jg ho.h (pa' ha.h cz hs) hbase (by rw [ar hs]; rfl) hline (ar hs)⟩
theorem kg {pos}:QE X (.Dict [] [] pos) qQ:=⟨rY⟩
theorem ki {x:Str}{px pos:Pos}{elt iter:Expr}{sc:Scope}{wi:TI}{te:TE}(ys:List Str) (js:List Nat) (cl:List (Str×Addr)) (hclos:Fj sc X.env=pure cl) (hcap:Caps X sc cl ys js) (hin:ClIn X.env cl)
  (hi:QI X.nox (.Name x px) iter wi) (he:∀s2 H2 C ex,QE (bo X sc (x :: ys) cl s2 H2 C ex) elt te) (sd:CSd X sc cl:=by exact ⟨by rfl,by rfl,by rfl,by rfl,by rfl⟩)
  (hx:(relabel sc X.env).names.lookup x=some .local:=by rfl)
  (hnd:(x :: ys).Nodup:=by decide +kernel) (hs:∀v,DY iter X.env v=pure v:=by intro _; rfl):QE X (.ListComp elt [⟨.Name x px,iter,[],0⟩] sc pos) (zx wi js te) :=
 ⟨y3 (xs:=[x]) (fun _ _ _ _ h=>CompedF.up (tc:=tTr) h) Lp.no Tst.no hclos sd hcap hin hi.h (fun _ _ _ _=>nQ hnd rfl (.inl hx) (.inr hx)) (fun a b c d=>(he a b c d).h) hs⟩
theorem aI:QSs X [] wV:=⟨vi⟩
theorem ag {st:Stmt}{rest:List Stmt}{t u:TS}(h1:QS X st t) (h2:QSs X rest u):QSs X (st :: rest) (aX t u):=⟨rK h1.h h2.h⟩
theorem ah {st:Stmt}{t:TS}(h1:QS X st t):QSs X [st] t:=⟨vh h1.h⟩
theorem ax {i:Nat}{x:Str}{e:Expr}{te:TE}{pos pos':Pos}(hN:X.N.Nodup) (he:QE X e te) (hi:X.N[i]?=some x:=by kernel_rfl) (hx:X.env.scope.names.lookup x=some .local:=by kernel_rfl)
  (hs:Es e (some (.Name x pos')) pos.line X.env=pure false:=by kernel_rfl):QS X (.Assign [.Name x pos'] e pos) (qT te (iz i)):=⟨vm (i:=i) hN he.h hi hx hs⟩
theorem i5 {tg e:Expr}{te:TE}{g:TG}{pos} (he:QE X e te) (hg:QG X tg g) (hs:swapsWithSole [tg] e pos.line X.env=pure false:=by rfl) (hw:swappedStores [tg] e X.env=pure none:=by rfl)
  (h1:(Dz [tg] X.env).map (·.2)=[assign tg X.env]:=by rfl):QS X (.Assign [tg] e pos) (qT te g):=⟨yd he.h hg.h hs hw h1⟩
theorem bb {c:Expr}{a b:List Stmt}{tc:TT}{t u:TS}{pos} (hc:QT X c tc) (ha:QSs X a t) (hb:QSs X b u):QS X (.If c a b pos) (zu tc t u):=⟨zN hc.h ha.h hb.h⟩
theorem bv {tg iter:Expr}{body:List Stmt}{wi:TI}{g:TG}{tb:TS}{pos} (hp:B9 (Bf X.prog X.w) X.A X.env X.xe) (hc:X.calm=true) (hi:QI X tg iter wi) (hg:QG X tg g) (hb:QSs X body tb)
  (hs:∀x,DY iter X.env x=pure x:=by intro _; rfl):QS X (.For tg iter body [] pos) (zv wi g tb):=⟨yb hp hc hi.h hg.h hb.h hs⟩
theorem aB {e:Expr}{t:TE}{pos} (h:QE X e t):QS X (.Return (some e) pos) (zq t):=⟨ya h.h⟩
theorem aO {e:Expr}{t:TE}{pos} (h:QE X e t) (hs:Es e none pos.line X.env=pure false:=by rfl):QS X (.Expr e pos) (wX t):=⟨vn h.h hs⟩
theorem fC {st:Stmt}{t:TS}(h:QS X st t):QS X st (zw t):=⟨yc h.h⟩
theorem jI {o value:Expr}{f:Str}{pos pos':Pos}{ta tv:TE}(ha:QE X o ta) (hv:QE X value tv) (hs:Es value (some (.Attribute o f pos')) pos.line X.env=pure false:=by rfl):QS X (.Assign [.Attribute o f pos'] value pos) (sX X.K ta tv f):=⟨vj ha.h hv.h hs⟩
theorem lU {o i value:Expr}{td ty tv:TE}{pos pos':Pos}(hu:X.A.units+1<cLine) (ho:QE X o td) (hi:QE X i ty) (hv:QE X value tv) (hs:Es value (some (.Subscript o i pos')) pos.line X.env=pure false:=by rfl):QS X (.Assign [.Subscript o i pos'] value pos) (xb td ty tv):=⟨vo hu ho.h hi.h hv.h hs⟩
theorem aC {i:Nat}{x:Str}{pos:Pos}(hN:X.N.Nodup) (hi:X.N[i]?=some x:=by kernel_rfl) (hx:X.env.scope.names.lookup x=some .local:=by kernel_rfl):QG X (.Name x pos) (iz i):=⟨rR hN hi hx⟩
theorem dA:QGs X [] z9:=⟨vA⟩
theorem aM {e:Expr}{es:List Expr}{t:TG}{u:TGs}(h1:QG X e t) (h2:QGs X es u) (hs:(Dz (e :: es) X.env).map (·.2)=assign e X.env :: (Dz es X.env).map (·.2):=by rfl):QGs X (e :: es) (xu t u):=⟨rQ h1.h h2.h hs⟩
theorem fM {es:List Expr}{k:Nat}{t:TGs}{n:Nat}{pos} (hc:X.calm=true) (h:QGs X es t) (hn:(Dz es X.env).length=n:=by rfl) (hst:(Dz es X.env).findIdx? (·.1)=none:=by rfl):QG X (.Tuple es k pos) (z7 X.K n t):=⟨yg hc h.h hn hst⟩
theorem cC {tg l:Expr}{t:TE}(h:QE X l t):QI X tg l (xr X.K t):=⟨vy h.h⟩
theorem lg {tg l:Expr}{t:TE}(h:QE X l t):QI X tg l (z4 X.K t):=⟨yf h.h⟩
theorem tQ {tg a:Expr}{t:TE}{p pos:Pos}(hm:X.mg "range"=none) (ha:QE X a t) (hg:X.env.kindOf "range"=some .globalImplicit:=by kernel_rfl) (hs:aw a=true:=by rfl):QI X tg (.Call (.Name "range" p) [a] [] pos) (xn (bZ t gB)):=⟨pQ hg hm (pa' ha.h cz hs) ((ar hs).trans rfl)⟩
theorem mC {elts:List Expr}{x1} {tpos p pos:Pos}{a:Expr}{t:TE}(hm:X.mg "enumerate"=none) (ha:QE X a t) (hg:X.env.kindOf "enumerate"=some .globalImplicit:=by kernel_rfl) (hs:aw a=true:=by rfl):QI X (.Tuple elts x1 tpos) (.Call (.Name "enumerate" p) [a] [] pos) (xt X.K (bZ t gB)) :=
 ⟨vz hg hm (by decide +kernel) (pa' ha.h cz hs) ((ar hs).trans rfl)⟩
end
section
variable {P:Program}{w:Bj}{K:AK}{mg:Str->Option Value}{base:Heap}{N:List Str}{qual:Str}{scope:Scope}{f:Addr}{cd:Value}{A:Bk}{outer:List Env}{s₀:AL}{H₀:Hp}{E:XK}
theorem jL {x:Str}{C:Addr}{e:Expr}{es:List Expr}{t:TA}{np cpos pos:Pos}(hm:mg x=some (.ref C)) (hq:C8 K C bmVE "ValueError.__new__"=true) (ha:QA (be (CX1 P w) P w K mg base N qual scope f cd A outer s₀ H₀ E) (e :: es) t)
  (hg:(be (CX1 P w) P w K mg base N qual scope f cd A outer s₀ H₀ E).env.kindOf x=some .globalImplicit:=by kernel_rfl) (hd:(x == ("__debug__":Str))=false:=by kernel_rfl) (he:aw e=true:=by rfl) (hpl:es.all aw=true:=by rfl) :
  QS (be (CX1 P w) P w K mg base N qual scope f cd A outer s₀ H₀ E) (.Raise (some (.Call (.Name x np) (e :: es) [] cpos)) none pos) (qM C E t):=⟨rL hg hm hq ha.h hd (ar he) (br hpl)⟩
theorem fB {x:Str}{C fI:Addr}{fd:Bg}{ps:List Str}{sp:Sp}{k j:Nat}{e:Expr}{es:List Expr}{t:TA}{np cpos pos:Pos}(hm:mg x=some (.ref C)) (R:fe K C fI)
  (G:aJ P w K mg base CX0 k fI fd ps sp) (hr:Room j (be (CX1 P w) P w K mg base N qual scope f cd A outer s₀ H₀ E).A) (hb:Binds K fd ps [])
  (ha:QA (be (CX1 P w) P w K mg base N qual scope f cd A outer s₀ H₀ E) (e :: es) t) (hj:k+1<=j:=by decide) (hg:(be (CX1 P w) P w K mg base N qual scope f cd A outer s₀ H₀ E).env.kindOf x=some .globalImplicit:=by kernel_rfl) (hdb:(x == ("__debug__":Str))=false:=by kernel_rfl) (he:aw e=true:=by rfl) (hpl:es.all aw=true:=by rfl) :
  QS (be (CX1 P w) P w K mg base N qual scope f cd A outer s₀ H₀ E) (.Raise (some (.Call (.Name x np) (e :: es) [] cpos)) none pos) (mU C sp E t):=⟨pO hg hm R G (hr.mono hj) hb ha.h hdb (ar he) (br hpl)⟩
end
section
variable {X:Cx}{pos:Pos}
theorem Def.never {P:Program}{w:Bj}{K:AK}{mg:Str->Option Value}{base h:Heap}{CX:CXT}{x:Str}{k:Nat}{ps:List Str}{st:Stmt}(X:K.In h) (G:h.Ns AY mg) (FI:aG K x st)
  (hb:∀(kV doc pm:Value) (an:Option Addr) (cdv ct:Value) (us:List Value),us.length=ps.length->Fh (CW x x (bP st) (bq st) (ak st) .none kV doc pm an cdv ct) ⟨us,[]⟩=pure (ps.zip us)) :
  Def P w K mg base CX x k ps (fun _ _ _ _=>False):=Def.of X G FI (fun f fd F=>⟨fun _ _ _ _ z=>z.elim,fun _ _ _ _ _ _ _ _ _ _ _ _ _ z=>z.elim⟩) hb
end
section
variable {X:Cx}
end
def jQ (i:Int) (n:Nat) (k:Int):List V:=(BP n).map fun (m:Nat)=>V.int (i+(m:Int)*k)
theorem rA {i k:Int}{n:Nat}:(jQ i n k).length=n:=by unfold jQ; rw [AH,Dc]
theorem ku {i k:Int}:∀(n:Nat) (us:List Value) (o:Nat),us.length=n->(∀(j:Nat) v,us[j]?=some v->∃t,v=.int (i+((o+j:Nat):Int)*k) t)->Vals ((List.range' o n).map fun (m:Nat)=>V.int (i+(m:Int)*k)) us
 | 0,[],_,_,_=>.nil
 | n+1,u :: us,o,hl,h=>by
  rw [List.range'_succ,Br]
  refine .cons ?_ (ku n us (o+1) (by simpa using hl) fun j v e=>?_)
  ·obtain ⟨t,rfl⟩:=h 0 u rfl
   exact ⟨t,rfl⟩
  ·obtain ⟨t,rfl⟩:=h (j+1) v (by simpa using e)
   exact ⟨t,by rw [show o+1+j=o+(j+1) by omega]⟩
section
variable {X:Cx}
theorem tz {pins:List (Addr×Obj)}{σ:St}{H:Hp}{s:AL}{r:Addr}{a b c:Int}{t u v:Tok}{n:Nat}{Q:VK}{E:Value->AL->Prop}(hc:X.calm=true) (I:Inv X pins σ H s) (hr:IsRange s.heap r a b c t u v)
  (hsmall:Builtin.Range.small a b c=true) (hn:Et a b c=n) (hlen:n<=2 ^ 24) (q:∀l,H l=none->Q (.ref l) (upd H l (.lst (jQ a n c)))) :
  A6 (Bf X.prog X.w) X.A (call (.type "list") [.ref r]) (EP X pins σ Q) E s:=by
 refine call_list_range (I.ok.hd hc) hr hsmall hn hlen fun h' tk acc' c' hk hS' hacc=>?_
 have rv:Vals (jQ a n c) acc'.toList:=by
  unfold jQ
  rw [List.range_eq_range']
  refine ku n acc'.toList 0 (by rw [B3]; exact hacc.1) fun j v e=>?_
  obtain ⟨t,rfl⟩:=hacc.2 j v (by simpa using e)
  exact ⟨t,by rw [Nat.zero_add]⟩
 have zl:=A9
 refine ⟨.ref s.heap.objs.size,_,I.laid (t':=tk) hk (AM _) (show ObjOk X.prog X.w _ h' _ (.lst (jQ a n c)) from ⟨by rw [rA]; omega,acc'.toList,c',rv,by simpa using hS'⟩),rfl,q _ (I.hok.fresh (AM _))⟩
def o0 (i:Int):Prop:=-(2 ^ 62)<=i/\i<2 ^ 62
def qN (ta:TA):TE:=fun σ H Q=>ta σ H fun vs H1=>∃i j k:Int,vs=[.int i,.int j,.int k]/\o0 i/\o0 j/\∃n:Nat,((k=1/\n=(j-i).toNat)\/(k=-1/\n=(i-j).toNat))/\n<=2 ^ 24/\∀l,H1 l=none->Q (.ref l) (upd H1 l (.lst (jQ i n k)))
theorem rV {a b c:Expr}{ta:TA}{p p' pos pos':Pos}(hc:X.calm=true) (hgl:X.env.kindOf "list"=some .globalImplicit) (hml:X.mg "list"=none) (hg:X.env.kindOf "range"=some .globalImplicit) (hm:X.mg "range"=none) (ha:PA X [a,b,c] ta)
  (h1:aw a=true) (h2:aw b=true) (h3:aw c=true):PE X (.Call (.Name "list" p) [.Call (.Name "range" p') [a,b,c] [] pos'] [] pos) (qN ta):=by
 intro pins s σ H Q I h
 refine Call_ (bG (u:=.type "list") I hgl hml (by decide +kernel) (BC ?_ rfl rfl))
 show A6 _ _ (spliced ((false,eval (.Call (.Name "range" p') [a,b,c] [] pos') X.env) :: Dx pos (Bz [] X.env))) _ _ s
 refine CI (Call_ (bG I hg hm boot_range (BC (thn (ha pos' pins s σ H _ I h) fun us s1 ⟨vs,H1,I1,r1,q1⟩=>?_) (ar h1) (br (by simp [h2,h3])))))
 obtain ⟨i,j,k,e,si,sj,n,hk,hn,q⟩:=q1
 subst e
 cases r1 with
 | cons r rr =>
  cases rr with
  | cons r' rr =>
   cases rr with
   | cons r'' rr =>
    cases rr
    obtain ⟨t,rfl⟩:=r
    obtain ⟨t',rfl⟩:=r'
    obtain ⟨t'',rfl⟩:=r''
    refine call_range_3 (by omega) ?_ (Or.inl (PyProof.noPylong_small (by omega)))
    refine Ds ?_
    have I2:Inv X pins σ H1 { s1 with heap:=s1.heap.push { cls:=.type "range",data:=.fields #[.int i t,.int j t',.int k t''] },toks:=s1.toks }:=I1.kept fun b o e=>AJ _ e
    refine tz hc I2 (IsRange.new ..) ?_ ?_ hn q
    ·rcases hk with ⟨rfl,_⟩ | ⟨rfl,_⟩
     ·exact small_one si.1 si.2 sj.1 sj.2
     ·exact PySem.W.small_down si.1 si.2 sj.1 sj.2
    ·rcases hk with ⟨rfl,rfl⟩ | ⟨rfl,rfl⟩
     ·exact PyProof.Rows.rangeSize_nat i j
     ·exact PySem.W.rangeSize_downNat i j
theorem ww {a b c:Expr}{t1 t2 t3:TE}{p p' pos pos':Pos}(hc:X.calm=true) (hml:X.mg "list"=none) (hm:X.mg "range"=none) (h1:QE X a t1) (h2:QE X b t2) (h3:QE X c t3) (hgl:X.env.kindOf "list"=some .globalImplicit:=by kernel_rfl) (hg:X.env.kindOf "range"=some .globalImplicit:=by kernel_rfl)
  (s1:aw a=true:=by rfl) (s2:aw b=true:=by rfl) (s3:aw c=true:=by rfl):QE X (.Call (.Name "list" p) [.Call (.Name "range" p') [a,b,c] [] pos'] [] pos) (qN (bZ t1 (bZ t2 (bZ t3 gB)))):=⟨rV hc hgl hml hg hm (pa' h1.h (pa' h2.h (pa' h3.h cz s3) s2) s1) s1 s2 s3⟩
theorem oA {o i:Expr}{to ti:TE}{pos:Pos}(ho:QE X o to) (hi:QE X i ti)
  (ha:∀v,assign (.Subscript o i pos) X.env v=(do
   let ov <- Ff [v] (eval o X.env)
   let iv <- Ff [v,ov] (eval i X.env)
   standAt pos
   Ff [v,ov,iv] (setItem ov iv v)
   release [v,ov,iv] []):=by intro _; rfl):QG X (.Subscript o i pos) (z8 to ti xg):=⟨yh ho.h hi.h rn ha⟩
theorem j5 {n j:Nat}(h:j<n):ixN n (j:Int)=some j:=by
 unfold ixN
 simp [h]
theorem tN {n:Nat}(h:0<n):ixN n (-1)=some (n-1):=by
 unfold ixN
 simp
 omega
end
section
variable {X:Cx}{K:AK}
theorem tM (hK:X.K=K):IxR X (zK K):=by subst hK; exact aE
theorem v9 (hK:X.K=K):IxR X (zJ K):=by subst hK; exact ao
end
theorem dN {X:Cx}{b:List Stmt}{t:TS}{D:Ends}{σ:St}{H:Hp}(h:QSs X b t) (r:t D σ H):∃t,PSs X b t/\t D σ H:=⟨t,h.h,r⟩
variable {X:Cx}{b:List Stmt}{D:Ends}{σ:St}{H:Hp}
theorem eK {t1 t2:TS}(h:QSs X b (aX t1 t2)) (r:let E:Ends:=D; let r1:TS:=t2; aX t1 r1 E σ H):∃t,PSs X b t/\t D σ H:=⟨_,h.h,r⟩
theorem eJ {t1 t2 t3:TS}(h:QSs X b (aX t1 (aX t2 t3))) (r:let E:Ends:=D; let r2:TS:=t3; let r1:TS:=aX t2 r2; aX t1 r1 E σ H):∃t,PSs X b t/\t D σ H:=⟨_,h.h,r⟩
theorem kB {t1 t2 t3 t4:TS}(h:QSs X b (aX t1 (aX t2 (aX t3 t4)))) (r:let E:Ends:=D; let r3:TS:=t4; let r2:TS:=aX t3 r3; let r1:TS:=aX t2 r2; aX t1 r1 E σ H):∃t,PSs X b t/\t D σ H:=⟨_,h.h,r⟩
theorem wP {t1 t2 t3 t4 t5:TS}(h:QSs X b (aX t1 (aX t2 (aX t3 (aX t4 t5))))) (r:let E:Ends:=D; let r4:TS:=t5; let r3:TS:=aX t4 r4; let r2:TS:=aX t3 r3; let r1:TS:=aX t2 r2; aX t1 r1 E σ H):∃t,PSs X b t/\t D σ H:=⟨_,h.h,r⟩
theorem wO {t1 t2 t3 t4 t5 t6:TS}(h:QSs X b (aX t1 (aX t2 (aX t3 (aX t4 (aX t5 t6)))))) (r:let E:Ends:=D; let r5:TS:=t6; let r4:TS:=aX t5 r5; let r3:TS:=aX t4 r4; let r2:TS:=aX t3 r3; let r1:TS:=aX t2 r2; aX t1 r1 E σ H):∃t,PSs X b t/\t D σ H:=⟨_,h.h,r⟩
theorem xC {t1 t2 t3 t4 t5 t6 t7 t8 t9 t10:TS}(h:QSs X b (aX t1 (aX t2 (aX t3 (aX t4 (aX t5 (aX t6 (aX t7 (aX t8 (aX t9 t10)))))))))) (r:let E:Ends:=D; let r9:TS:=t10; let r8:TS:=aX t9 r9; let r7:TS:=aX t8 r8; let r6:TS:=aX t7 r7; let r5:TS:=aX t6 r6; let r4:TS:=aX t5 r5; let r3:TS:=aX t4 r4; let r2:TS:=aX t3 r3; let r1:TS:=aX t2 r2; aX t1 r1 E σ H):∃t,PSs X b t/\t D σ H:=⟨_,h.h,r⟩
def Itz (K:AK) (a b:Addr):It :=
  ⟨fun i H=>∃xs ys x y,SqL K H a xs/\SqL K H b ys/\xs[i]?=some x/\ys[i]?=some y,
   fun i H x H'=>∃p v w,x=.ref p/\H p=none/\H'=upd H p (.tup [v,w])/\(∀xs,SqL K H a xs->xs[i]?=some v)/\(∀ys,SqL K H b ys->ys[i]?=some w),
   fun i H=>∃xs ys,SqL K H a xs/\SqL K H b ys/\(xs.length<=i\/ys.length<=i)⟩
theorem qH {P:Program}{w:Bj}{K:AK}{elts:List Expr}{x1} {pos:Pos}(a b z TI TO i1 i2:Addr) (D:ZipApart z TI TO i1 i2 a b) :
  kn P w K (.Tuple elts x1 pos) (Itz K a b) [z,TI,TO,i1,i2] z (fun i h=>IsZip h z TI TO .none/\IsPair h TI (.ref i1) (.ref i2)/\(∃u v,IsPair h TO u v)/\h.IsListIter i1 a i/\h.IsListIter i2 b i) where
 mem:=by simp
 obj:=fun i h st c hc=>by
  obtain ⟨hz,hTI,⟨u,v,hTO⟩,⟨o1,e1,c1,d1⟩,⟨o2,e2,c2,d2⟩⟩:=st
  have hc':c=z\/c=TI\/c=TO\/c=i1\/c=i2:=by simpa using hc
  rcases hc' with rfl | rfl | rfl | rfl | rfl
  ·exact ⟨_,hz,fun v z=>by
    have z':Data.fields _=Data.cell v:=z
    cases z'⟩
  ·exact ⟨_,hTI,fun v z=>by
    have z':Data.seq _ _=Data.cell v:=z
    cases z'⟩
  ·exact ⟨_,hTO,fun v z=>by
    have z':Data.seq _ _=Data.cell v:=z
    cases z'⟩
  ·exact ⟨o1,e1,fun v z=>by rw [d1] at z; cases z⟩
  ·exact ⟨o2,e2,fun v z=>by rw [d2] at z; cases z⟩
 keep:=fun i h h' st k=>by
  obtain ⟨hz,hTI,⟨u,v,hTO⟩,h1,h2⟩:=st
  exact ⟨k z (by simp) _ hz,k TI (by simp) _ hTI,⟨u,v,k TO (by simp) _ hTO⟩,h1.at fun o q=>k i1 (by simp) o q,h2.at fun o q=>k i2 (by simp) o q⟩
 item:=by
  intro X hP hw hK hc i pins s σ H E I hf st hg
  subst hP hw hK
  obtain ⟨xs,ys,x,y,hq1,hq2,hx,hy⟩:=hg
  obtain ⟨hz,hTI,⟨u0,v0,hTO⟩,h1,h2⟩:=st
  obtain ⟨its1,rv1,p1,hz1⟩:=I.list hq1
  obtain ⟨its2,rv2,p2,hz2⟩:=I.list hq2
  obtain ⟨u,hu,ru⟩:=rv1.get hx
  obtain ⟨v,hv,rv⟩:=rv2.get hy
  refine wpAny_pyNext_zip_item D hz hTI hTO h1 h2 p1.isList p2.isList (x:=u) (y:=v) (by simpa using hu) (by simpa using hv) fun g1 a1 a2 a3 a4 a5 a6 hk=>?_
  refine ⟨_,rfl,wpAny_letOwnedTupleGo_zip (s:={ s with heap:=g1 }) a1 fun g2 hz2' hs2=>?_⟩
  have hs2':By z g1 g2:=hs2
  have nH:H s.heap.objs.size=none:=I.hok.fresh (AM _)
  have lt:∀c∈[z,TI,TO,i1,i2],c<s.heap.objs.size:=fun c hc=>by
   have hc':c=z\/c=TI\/c=TO\/c=i1\/c=i2:=by simpa using hc
   rcases hc' with rfl | rfl | rfl | rfl | rfl
   ·exact A3 hz
   ·exact A3 hTI
   ·exact A3 hTO
   ·obtain ⟨o,e,_⟩:=id h1; exact A3 e
   ·obtain ⟨o,e,_⟩:=id h2; exact A3 e
  have ht2:g2.get? s.heap.objs.size=some { cls:=.type "tuple",data:=.seq #[u,v] }:=(hs2'.2 _ (EA (lt z (by simp)))).trans a5
  have pg:(s.heap.push { cls:=.type "tuple",data:=.seq #[u,v] }).get? s.heap.objs.size=some { cls:=.type "tuple",data:=.seq #[u,v] }:=A5 _ rfl
  have J1:=I.laid (a:=s.heap.objs.size) (o:=.tup [x,y]) (h':=s.heap.push { cls:=.type "tuple",data:=.seq #[u,v] }) (t':=s.toks) (fun b v z=>AJ _ z) (AM _)
   ⟨(by show 2<=sizeLine; decide),[u,v],.cons ru (.cons rv .nil),⟨_,pg,rfl,_,rfl⟩⟩
  have fp':∀c∈[z,TI,TO,i1,i2],cH X pins (upd H s.heap.objs.size (.tup [x,y])) c:=fun c hc=>by
   obtain ⟨f0,f1,f2,f3,f4,f5⟩:=hf c hc
   refine ⟨?_,f1,f2,f3,f4,f5⟩
   rw [aj (Bl (lt c hc))]
   exact f0
  have J2:=J1.turnedL (h':=g2) (t':=s.toks) (ch:=[z,TI,TO,i1,i2]) (fun c o hc zz=>by
   have n1:c≠z:=fun y=>hc (by simp [y])
   have n2:c≠TO:=fun y=>hc (by simp [y])
   have n3:c≠i1:=fun y=>hc (by simp [y])
   have n4:c≠i2:=fun y=>hc (by simp [y])
   by_cases hp:c=s.heap.objs.size
   ·subst hp
    have z':s.heap.objs.size=s.heap.objs.size->(s.heap.push { cls:=.type "tuple",data:=.seq #[u,v] }).get? s.heap.objs.size=some o:=fun _=>zz
    rw [pg] at z'
    have:=z' rfl
    cases this
    exact ht2
   ·have z2:s.heap.get? c=some o:=cL zz hp
    exact (hs2'.2 c n1).trans (hk c o n1 n2 n3 n4 z2)) fp'
  refine ⟨.ref s.heap.objs.size,_,J2,rfl,⟨_,x,y,rfl,nH,rfl,fun l hl=>by rw [I.list_inj hl hq1]; exact hx,fun l hl=>by rw [I.list_inj hl hq2]; exact hy⟩,⟨hz2',?_,⟨u,v,?_⟩,?_,?_⟩,fun c hc=>(fp' c hc).1⟩
  ·exact (hs2'.2 _ D.TIz).trans (hk _ _ D.TIz D.TITO D.TIi1 D.TIi2 hTI)
  ·exact (hs2'.2 _ D.TOz).trans a2
  ·exact a3.at fun o q=>(hs2'.2 _ D.i1z).trans q
  ·exact a4.at fun o q=>(hs2'.2 _ D.i2z).trans q
 done:=by
  intro X hP hw hK hc i pins s σ H E I hf st hg
  subst hP hw hK
  obtain ⟨xs,ys,hq1,hq2,hx⟩:=hg
  obtain ⟨hz,hTI,⟨u0,v0,hTO⟩,h1,h2⟩:=st
  obtain ⟨its1,rv1,p1,hz1⟩:=I.list hq1
  obtain ⟨its2,rv2,p2,hz2⟩:=I.list hq2
  have hl1:=rv1.length
  have hl2:=rv2.length
  refine wpAny_pyNext_zip_end (I.ok.hd hc) D hz hTI hTO h1 h2 p1.isList p2.isList ?_ fun h' eb=>⟨rfl,I.turnedL (t':=s.toks) (ch:=[z,TI,TO,i1,i2]) (fun c o hc zz=>eb c o (fun y=>hc (by simp [y])) (fun y=>hc (by simp [y])) (fun y=>hc (by simp [y])) (fun y=>hc (by simp [y])) zz) hf⟩
  rcases hx with q | q
  ·left; simp; omega
  ·right; simp; omega
 self:=fun _ _ _ _ _ st h=>by
  obtain ⟨hz,_⟩:=st
  exact wpAny_pyIter_zip hz h
def z0 (K:AK) (ta:TA):TI:=fun σ H R=>ta σ H fun vs H1=>∃a b,vs=[.ref a,.ref b]/\(∃xs,SqL K H1 a xs)/\(∃ys,SqL K H1 b ys)/\R (Itz K a b) H1
section
variable {X:Cx}
theorem ye {elts:List Expr}{x1} {tpos p pos:Pos}{a b:Expr}{ta:TA}(hg:Gl X "zip") (hm:X.mg "zip"=none) (hbt:B2 "zip"=some (.type "zip")) (ha:PA X [a,b] ta) (h1:aw a=true) (h2:aw b=true) :
  PI X (.Tuple elts x1 tpos) (.Call (.Name "zip" p) [a,b] [] pos) (z0 X.K ta):=by
 intro pins s σ H R I h
 refine Call_ (bG I hg hm hbt (BC (thn (ha pos pins s σ H _ I h) fun us s1 ⟨vs,H1,I1,r1,q1⟩=>?_) (ar h1) (br (by simp [h2]))))
 obtain ⟨a,b,rfl,⟨xs,hq1⟩,⟨ys,hq2⟩,q⟩:=q1
 cases r1 with
 | cons r rr =>
  cases rr with
  | cons r' rr =>
   cases rr
   cases r
   cases r'
   obtain ⟨its1,rv1,p1,hz1⟩:=I1.list hq1
   obtain ⟨its2,rv2,p2,hz2⟩:=I1.list hq2
   refine call_zip_2 p1.isList p2.isList fun h' he hTI hTO hi1 hi2 hsz hk=>?_
   refine wpAny_pyIter_zip he ?_
   have I2:Inv X pins σ H1 { s1 with heap:=h' }:=I1.kept (t':=s1.toks) hk
   have la:a<s1.heap.objs.size:=by obtain ⟨o,e,_⟩:=p1.isList; exact A3 e
   have lb:b<s1.heap.objs.size:=by obtain ⟨o,e,_⟩:=p2.isList; exact A3 e
   have up:∀(m k:Nat),m<s1.heap.objs.size->m≠s1.heap.objs.size+k:=fun m k h=>Bl (Bp h (Eb _ k))
   have nk:∀j k:Nat,j≠k->s1.heap.objs.size+j≠s1.heap.objs.size+k:=fun j k h z=>h (Nat.add_left_cancel z)
   have n0:∀k:Nat,0≠k->s1.heap.objs.size≠s1.heap.objs.size+k:=fun k h z=>nk 0 k h z
   have D:ZipApart (s1.heap.objs.size+4) (s1.heap.objs.size+2) (s1.heap.objs.size+3) s1.heap.objs.size (s1.heap.objs.size+1) a b :=
    ⟨nk 2 4 (by decide),nk 3 4 (by decide),n0 4 (by decide),nk 1 4 (by decide),nk 2 3 (by decide),(n0 2 (by decide)).symm,nk 2 1 (by decide),(n0 3 (by decide)).symm,nk 3 1 (by decide),n0 1 (by decide),up a 4 la,up a 3 la,Bl la,up a 1 la,up b 4 lb,up b 3 lb,Bl lb,up b 1 lb⟩
   refine ⟨s1.heap.objs.size+4,[s1.heap.objs.size+4,s1.heap.objs.size+2,s1.heap.objs.size+3,s1.heap.objs.size,s1.heap.objs.size+1],_,_,H1,rfl,I2,qH a b _ _ _ _ _ D,⟨he,hTI,⟨_,_,hTO⟩,hi1,hi2⟩,fun c hc=>?_,q⟩
   have hc':s1.heap.objs.size<=c:=by
    have hc'':c=s1.heap.objs.size+4\/c=s1.heap.objs.size+2\/c=s1.heap.objs.size+3\/c=s1.heap.objs.size\/c=s1.heap.objs.size+1:=by simpa using hc
    rcases hc'' with rfl | rfl | rfl | rfl | rfl
    ·exact Eb _ 4
    ·exact Eb _ 2
    ·exact Eb _ 3
    ·exact AM _
    ·exact Eb _ 1
   exact I1.fpOk hc' (I1.hok.fresh hc')
theorem zZ {elts:List Expr}{x1} {tpos p pos:Pos}{a b:Expr}{t u:TE}(hm:X.mg "zip"=none) (ha:QE X a t) (hb:QE X b u) (hg:X.env.kindOf "zip"=some .globalImplicit:=by kernel_rfl) (h1:aw a=true:=by rfl) (h2:aw b=true:=by rfl) :
  QI X (.Tuple elts x1 tpos) (.Call (.Name "zip" p) [a,b] [] pos) (z0 X.K (bZ t (bZ u gB))):=⟨ye hg hm (by decide +kernel) (pa' ha.h (pa' hb.h cz h2) h1) h1 h2⟩
theorem wn {K:AK}{a b:Addr}{xs ys:List V}{g:TG}{tb:TS}{D:Ends}{σ:St}{H:Hp}(Pv:Nat->St->Hp->Prop) (he:xs.length=ys.length) (h0:Pv 0 σ H) (hl:∀i σ H,i<=xs.length->Pv i σ H->SqL K H a xs/\SqL K H b ys)
  (hs:∀i x y σ H p,xs[i]?=some x->ys[i]?=some y->Pv i σ H->H p=none->g (.ref p) σ (upd H p (.tup [x,y])) fun σ2 H2=>tb { D with nx:=Pv (i+1),ct:=Pv (i+1),bk:=D.nx } σ2 H2) (hd:∀ σ H,Pv xs.length σ H->D.nx σ H) :
  ∃W:Nat->Nat->St->Hp->Prop,(∃m,W 0 m σ H)/\∀i m σ H,W i m σ H ->
   ((Itz K a b).stop i H/\D.nx σ H)\/((Itz K a b).go i H/\∃N:St->Hp->Prop,(∀ σ' H',N σ' H'->∃m',m'<m/\W (i+1) m' σ' H')/\∀x H',(Itz K a b).yld i H x H'->g x σ H' fun σ2 H2=>tb { D with nx:=N,ct:=N,bk:=D.nx } σ2 H2):=by
 refine ⟨fun i m σ H=>m=xs.length-i/\i<=xs.length/\Pv i σ H,⟨xs.length,by simp,Bo _,h0⟩,?_⟩
 rintro i m σ H ⟨rfl,hi,p⟩
 obtain ⟨q1,q2⟩:=hl i σ H hi p
 by_cases hlt:i<xs.length
 ·refine .inr ⟨⟨xs,ys,xs[i],ys[i]'(by omega),q1,q2,by simp [hlt],AN (by omega)⟩,Pv (i+1),fun σ' H' p'=>⟨xs.length-(i+1),by omega,rfl,hlt,p'⟩,fun x H' y=>?_⟩
  obtain ⟨pp,v,w,rfl,hn,rfl,y1,y2⟩:=y
  exact hs i v w σ H pp (y1 xs q1) (y2 ys q2) p hn
 ·have e:i=xs.length:=by omega
  subst e
  exact .inl ⟨⟨xs,ys,q1,q2,.inl (AM _)⟩,hd σ H p⟩
end
end L2
namespace G
open PySem L2
abbrev fV (x:Str):Prop:=C9 x=true
theorem comp_pure2 {J:It}{xs ys:List V}{H:Hp}{cap:St}{te:TE}{Q:VK}(hn:xs.length<=sizeLine) (hl:ys.length=xs.length)
  (go:∀i H',Same H H'->i<xs.length->J.go i H') (yld:∀i H' x H'',Same H H'->i<xs.length->J.yld i H' x H''->H''=H'/\xs[i]?=some x) (stop:∀H',Same H H'->J.stop xs.length H')
  (el:∀(i:Nat) x y H' (P:VK),Same H H'->xs[i]?=some x->ys[i]?=some y->(∀H'',Same H' H''->P y H'')->te (some x :: cap) H' P) (fin:∀D H',Same H H'->H D=none->H' D=some (.lst ys)->Q (.ref D) H') :
  iO J cap te Q H:=by
 intro D hD
 refine ⟨fun i m zs H2=>m=xs.length-i/\i<=xs.length/\zs=ys.take i/\H2 D=some (.lst zs)/\Same H H2,⟨xs.length,rfl,Bo _,by simp,ac,Same.new hD _⟩,?_⟩
 rintro i m zs H2 ⟨rfl,hi,hz,hDz,hS⟩
 refine ⟨hDz,?_⟩
 by_cases h:i<xs.length
 ·refine .inr ⟨go i H2 hS h,?_⟩
  intro x H3 hy
  obtain ⟨rfl,hx⟩:=yld i H2 x H3 hS h hy
  obtain ⟨yv,hyi⟩:∃yv,ys[i]?=some yv:=⟨ys[i]'(by omega),AN (by omega)⟩
  have hzl:zs.length=i:=by rw [hz,BA]; omega
  refine el i x yv H3 _ hS hx hyi fun H4 hS4=>⟨hS4 _ _ hDz,by omega,xs.length-(i+1),by omega,rfl,h,?_,ac,fun b u q=>?_⟩
  ·rw [hz,Cy,hyi]
   rfl
  ·rw [aj (am q hD)]
   exact hS4 _ _ (hS _ _ q)
 ·have e:i=xs.length:=by omega
  subst e
  refine .inl ⟨stop H2 hS,fin D H2 hS hD ?_⟩
  rw [hDz,hz,Cr (by omega)]
theorem ju {K:AK}{a:Addr}{xs:List V}{H:Hp}{cap:St}{te:TE}{Q:VK}(ys:List V) (hS:SqL K H a xs) (hn:xs.length<=sizeLine) (hl:ys.length=xs.length)
  (el:∀(i:Nat) x y H' (P:VK),Same H H'->xs[i]?=some x->ys[i]?=some y->(∀H'',Same H' H''->P y H'')->te (some x :: cap) H' P) (fin:∀D H',Same H H'->H D=none->H' D=some (.lst ys)->Q (.ref D) H') :
  iO (Itl K a) cap te Q H:=by
 refine comp_pure2 (J:=Itl K a) (xs:=xs) (ys:=ys) hn hl ?_ ?_ ?_ el fin
 ·intro i H' s hi
  exact ⟨xs,xs[i],s.seq hS,AN hi⟩
 ·rintro i H' x H'' s hi ⟨rfl,h⟩
  exact ⟨rfl,h xs (s.seq hS)⟩
 ·intro H' s
  exact ⟨xs,s.seq hS,AM _⟩
end G
namespace K01
open PySem
end K01
namespace K01
open PySem PySem.NumText
end K01
namespace G
open PySem L2
theorem fS {α:Type}{xs:List α}{i:Int}(h0:0<=i) (h:i<(xs.length:Int)):∃v,atI xs i=some v/\v∈xs:=by
 have hj:i.toNat<xs.length:=by omega
 have e:i=((i.toNat:Nat):Int):=by omega
 have q:=ad (AN hj)
 rw [<- e] at q
 exact ⟨xs[i.toNat],q,BX hj⟩
section
variable {K:AK}
theorem tK {T:String}:DG K (.type T) (iV (.ty T))=some true:=by
 unfold DG
 exact if_pos (beq_self_eq_true (ER T))
theorem v8 {T C:String}(h1:¬ (ER T == iV (.ty C))=true) (h2:PySem.W.kitMeta C=true) (h3:(fastBuiltinMro T).map (·.contains (.type C))=some false):DG K (.type T) (iV (.ty C))=some false:=by
 unfold DG
 rw [if_neg h1]
 show (if PySem.W.kitMeta C=true then PySem.W.subIn K (.type T) (.type C) else none)=some false
 rw [if_pos h2]
 exact h3
theorem tO:DG K (.type "int") (iV (.ty "bool"))=some false:=v8 (by decide +kernel) (by decide +kernel) (by decide +kernel)
end
end G
namespace PySem
namespace F
theorem lookup_tuple_rev:typeLookup (.type "tuple") "__reversed__"=pure none:=by rw [Fd,DX]; kernel_rfl
theorem slot_revT_next:Slot "reversed" "__next__" "reversed.__next__" :=
 .of (owner:="reversed") (n:="__next__") (by rw [Fd,DX]; kernel_rfl) (by decide +kernel) (by decide +kernel) (by decide +kernel)
  (by first | exact .inl (by decide +kernel) | exact .inr (by decide +kernel)) (by rw [isSubtype_type]; kernel_rfl)
theorem entry_revT_next:entryFor table "reversed.__next__"=some Builtin.«reversed.__next__»:=entryFor_of_tree (by kernel_rfl)
theorem slot_revT_iter:Slot "reversed" "__iter__" "reversed.__iter__" :=
 .of (owner:="reversed") (n:="__iter__") (by rw [Fd,DX]; kernel_rfl) (by decide +kernel) (by decide +kernel) (by decide +kernel)
  (by first | exact .inl (by decide +kernel) | exact .inr (by decide +kernel)) (by rw [isSubtype_type]; kernel_rfl)
theorem entry_revT_iter:entryFor table "reversed.__iter__"=some Builtin.«dict_keyiterator.__iter__» :=
 entryFor_alias (id':="dict_keyiterator.__iter__") (by kernel_rfl) (by first | rfl | decide +kernel | (unfold String.splitOn; simp +decide [String.splitOnAux])) (by decide +kernel) (by kernel_rfl)
theorem hZ:Manifest.owners.lookup (String.ofList ['d','e','s','r','e','v','e','r'].reverse)=some Manifest.sig_reversed:=by kernel_rfl
theorem args_revT_next_1 (a:Value):argsOk "reversed.__next__" ⟨[a],[]⟩:=by
 unfold argsOk; rw [signature?_of (id:="reversed.__next__") (n:=['_','_','t','x','e','n','_','_']) (o:=['d','e','s','r','e','v','e','r']) (by kernel_rfl) hZ]; kernel_rfl
theorem args_revT_iter_1 (a:Value):argsOk "reversed.__iter__" ⟨[a],[]⟩:=by
 unfold argsOk; rw [signature?_of (id:="reversed.__iter__") (n:=['_','_','r','e','t','i','_','_']) (o:=['d','e','s','r','e','v','e','r']) (by kernel_rfl) hZ]; kernel_rfl
end F
section
variable {prog:Program}{w:Bj}{A:Bk}{E:Value->AL->Prop}{s:AL}
def jR (l:Addr) (i:Int):Obj:={ cls:=.type "reversed",data:=.fields #[.ref l,Cp i] }
def Heap.IsRevT (h:Heap) (a l:Addr) (i:Int):Prop:=∃o,h.get? a=some o/\o.cls=.type "reversed"/\o.data=.fields #[.ref l,Cp i]
theorem Heap.IsRevT.typeIs {a l:Addr}{i:Int}(x:s.heap.IsRevT a l i):s.TypeIs (.ref a) "reversed":=let ⟨o,ho,hc,_⟩:=x; ⟨o,ho,hc⟩
theorem Heap.IsRevT.at {h h':Heap}{a l:Addr}{i:Int}(x:h.IsRevT a l i) (e:∀o,h.get? a=some o->h'.get? a=some o):h'.IsRevT a l i:=let ⟨o,ho,r⟩:=x; ⟨o,e _ ho,r⟩
open PyProof.Rows in
theorem c8 {it l:Addr}{i:Nat}{items:Array Value}{x:Value}{Q:Option Value->AL->Prop}(hit:s.heap.IsRevT it l (i:Int)) (hl:Fe s.heap l items) (hs:items.size<=sizeLine) (hx:items[i]?=some x)
  (hQ:∀h' t,h'.IsRevT it l ((i:Int)-1)->By it s.heap h'->Q (some x) { s with heap:=h',toks:=t }):A6 (Bf prog w) A (pyNext (.ref it)) Q E s:=by
 obtain ⟨o,ho,hc,hd⟩:=id hit
 have hi:i<items.size:=(Cj.mp hx).1
 have hz:sizeLine=16777216:=A9
 unfold pyNext
 refine AI (wpAny_attempt (Ci (name:=Dt "__next__") hit.typeIs F.slot_revT_next
  (CQ F.slot_revT_next hit.typeIs F.entry_revT_next ?_ (F.args_revT_next_1 _))))
 unfold Builtin.«reversed.__next__»
 refine AI (DN (a:=(Bc it,[])) rfl ?_)
 try dsimp only
 refine AI (B0 ho hd (x:=.ref l) rfl ?_)
 refine AI (B0 ho hd (x:=Cp (i:Int)) rfl ?_)
 show A6 _ _ (if (i:Int)<0 then _ else _) _ _ s
 rw [if_neg (by omega)]
 refine AI (Fc hl.typeIs slot_tuple_getitem.lookup ?_)
 show A6 _ _ (if false=true then _ else _) _ _ s
 rw [if_neg (by decide)]
 refine AI (wpAny_mkInt ?_)
 refine AI (wpAny_attempt (getItem_tuple (s:={ s with toks:=s.toks+1 }) (j:=i) (x:=x) hl (by omega) (by omega) (by have:=seqIndex_of (k:=(i:Int)) (n:=items.size) (by omega) (by omega); rw [EC] at this; exact this) hx ?_))
 show A6 _ _ (field (.ref it) 1 >>= _) _ _ _
 refine AI (B0 (s:={ s with toks:=s.toks+1 }) ho hd (x:=Cp (i:Int)) rfl ?_)
 show A6 _ _ (setField (.ref it) 1 (Cp ((i:Int)-1)) >>= _) _ _ _
 refine AI (Dk (s:={ s with toks:=s.toks+1 }) ho hd (by simp) ?_)
 first
 | refine AV ⟨x,rfl,AV (hQ _ _ ?_ (By.update ..))⟩
 | refine AI (AV (AV ⟨x,rfl,AV (hQ _ _ ?_ (By.update ..))⟩))
 exact ⟨_,Cz _ ho (C4 (CK hd _)),(Obj.cls_mapFields ..).trans hc,by
  rw [CK hd]; simp⟩
theorem dG {it l:Addr}{Q:Option Value->AL->Prop}(hh:A.handled=none) (hit:s.heap.IsRevT it l (-1))
  (hQ:∀h',E5 it s.heap h'->Q none { s with heap:=h' }):A6 (Bf prog w) A (pyNext (.ref it)) Q E s:=by
 obtain ⟨o,ho,hc,hd⟩:=id hit
 unfold pyNext
 refine AI (wpAny_attempt (Ci (name:=Dt "__next__") hit.typeIs F.slot_revT_next
  (CQ F.slot_revT_next hit.typeIs F.entry_revT_next ?_ (F.args_revT_next_1 _))))
 unfold Builtin.«reversed.__next__»
 refine AI (DN (a:=(Bc it,[])) rfl ?_)
 try dsimp only
 refine AI (B0 ho hd (x:=.ref l) rfl ?_)
 refine AI (B0 ho hd (x:=Cp (-1)) rfl ?_)
 show A6 _ _ (if (-1:Int)<0 then _ else _) _ _ s
 rw [if_pos (by decide)]
 refine AI (wpAny_rule ?_)
 refine AI ?_
 show A6 _ _ (setField (.ref it) 1 (Cp (-1)) >>= fun _=>setField (.ref it) 0 .none) _ _ s
 refine AI (Dk ho hd (by simp) ?_)
 have ho1:(s.heap.update it (DD fun x=>x.setIfInBounds 1 (Cp (-1)))).get? it=some (o.mapFields fun x=>x.setIfInBounds 1 (Cp (-1))):=Cz _ ho (C4 (CK hd _))
 have hd1:=CK hd fun x=>x.setIfInBounds 1 (Cp (-1))
 refine Dk (s:={ s with heap:=s.heap.update it (DD fun x=>x.setIfInBounds 1 (Cp (-1))) }) ho1 hd1 (by simp) ?_
 first
 | show A6 _ _ (newExc (.type "StopIteration") [] >>= _) _ _ _
 | (refine AI ?_; show A6 _ _ (newExc (.type "StopIteration") [] >>= _) _ _ _)
 refine AI ?_
 simp only [newExc,newTuple]
 refine AI (BE ?_ (by size_fits))
 refine AI (m:=Fk _ _) (DN (a:=BY) (by first | rfl | (simp only [Fk]; rfl)) ?_)
 refine BE ?_ (by size_fits)
 simp only [raiseNew]
 refine AI (wpAny_handled ?_)
 first | rw [show A.in1.handled=none from hh] | rw [hh]
 refine AI (AV (wpAny_throw ?_))
 refine AI (wpAny_isInstance (T:="StopIteration") (b:=true) ⟨_,A5 _ rfl,rfl⟩ isSubtype_stop ?_)
 refine AV (hQ _ (E5.push (E5.push (E5.trans (h₂:=s.heap.update it (DD fun x=>x.setIfInBounds 1 (Cp (-1)))) (By.extBut (By.update ..)) (By.extBut (By.update ..))) _) _))
open PyProof.Rows in
theorem cK {it l:Addr}{i:Int}{Q:Value->AL->Prop}(hit:s.heap.IsRevT it l i) (h:Q (.ref it) s):A6 (Bf prog w) A (pyIter (.ref it)) Q E s:=by
 refine wpAny_pyIter_slot hit.typeIs F.slot_revT_iter (CQ F.slot_revT_iter hit.typeIs F.entry_revT_iter ?_ (F.args_revT_iter_1 _))
 show A6 _ _ (ret (.ref it)) _ _ s
 exact AV ⟨_,rfl, "reversed",_,hit.typeIs,F.slot_revT_next.lookup,h⟩
end
end PySem
namespace PySem
section
variable {prog:Program}{w:Bj}{A:Bk}{E:Value->AL->Prop}{s:AL}
open PyProof.Rows in
theorem iS {l:Addr}{items:Array Value}{Q₁:Value->AL->Prop}(hl:Fe s.heap l items) (hs:items.size<=sizeLine)
  (h:∀t,Q₁ (.ref s.heap.objs.size) { s with heap:=s.heap.push (jR l ((items.size:Int)-1)),toks:=t }) :
  EX (Bf prog w) A (.call (.builtin "reversed.__new__") ⟨[.type "reversed",.ref l],[]⟩) (wants Q₁ E) s:=by
 refine codeAny_of_tree ?_
 show A6 _ A.in1 (do checkBuiltinCall "reversed.__new__" ⟨[.type "reversed",.ref l],[]⟩; again (.builtin "reversed.__new__" ⟨[.type "reversed",.ref l],[]⟩)) _ _ s
 refine AI (DN (F.newCall_reversed_1 _) (AV ⟨plainId_quiet F.plain_reversed_new _,codeAny_builtin F.entry_reversed_new ?_⟩))
 rw [Bk.under_plainId F.plain_reversed_new _]
 unfold Builtin.«reversed.__new__»
 refine AI (DN (newClass_reversed _) ?_)
 try dsimp only
 refine AI (DN (a:=()) (by first | rfl | kernel_rfl) ?_)
 refine AI (DN (a:=()) (by first | rfl | kernel_rfl) ?_)
 try dsimp only
 refine AI (Fc hl.typeIs F.lookup_tuple_rev ?_)
 try dsimp only
 refine AI ?_
 show A6 _ _ (isInstance (.ref l) (.type "dict") >>= _) _ _ _
 refine AI (wpAny_isInstance hl.typeIs F.sub_tuple_dict ?_)
 show A6 _ _ (specialOf (.ref l) "__getitem__" >>= _) _ _ _
 refine AI (Fc hl.typeIs slot_tuple_getitem.lookup ?_)
 show A6 _ _ (if ["tuple.__getitem__", "str.__getitem__", "bytes.__getitem__", "bytearray.__getitem__", "memoryview.__getitem__", "numpy.ndarray.__getitem__", "sqlite3.Row.__getitem__"].contains "tuple.__getitem__"=true then pure true else _) _ _ _
 rw [if_pos (by decide)]
 refine AV ?_
 rw [if_neg (by decide)]
 have zl:sizeLine=16777216:=A9
 refine AI (len_tuple hl (by omega) ?_)
 refine AI (DN (a:=some (items.size:Int)) (by first | rfl | simp [asInt?]) ?_)
 try dsimp only
 unfold Builtin.SmallTypes.newRecord
 refine AI (BE (T:="reversed") (s:={ s with toks:=s.toks+1+1 }) ?_)
 exact AV (h _)
theorem F.slot_revT_init:Slot "reversed" "__init__" "object.__init__" :=
 .of (owner:="object") (n:="__init__") (by rw [Fd,DX]; kernel_rfl) (by decide +kernel) (by decide +kernel) (by decide +kernel)
  (by first | exact .inl (by decide +kernel) | exact .inr (by decide +kernel)) (by rw [isSubtype_type]; kernel_rfl)
theorem F.called_revT:TypeCalled "reversed" "reversed.__new__" "object.__init__" :=
 ⟨by decide +kernel,F.create_reversed,⟨_,_,F.mro_reversed⟩,F.made_reversed,by decide +kernel,F.sub_reversed_self,F.slot_revT_init⟩
theorem eG {l:Addr}{items:Array Value}{Q:Value->AL->Prop}(hl:PyProof.Rows.IsTup s.heap l items) (hs:items.size<=sizeLine)
  (h:∀t,Q (.ref s.heap.objs.size) { s with heap:=s.heap.push (jR l ((items.size:Int)-1)),toks:=t }):A6 (Bf prog w) A (call (.type "reversed") [.ref l]) Q E s:=by
 refine callType_codes (Q₁:=fun obj s₁=>s₁.TypeIs obj "reversed"/\Q obj s₁) F.called_revT (F.typeCall_reversed_1 _) F.entry_object_init (iS hl hs fun t=>⟨⟨_,A5 _ rfl,rfl⟩,h t⟩) ?_
 rintro obj s₁ ⟨hT,hq⟩
 refine ⟨hT,F.args_object_init_2 obj _,?_⟩
 have hl:=F.slot_revT_init.lookup
 have hm:=F.made_reversed
 have hne:(some "reversed.__new__" != some "object.__new__")=true:=by decide
 repeat (any_goals (first | assumption | wp_step))
 exact ⟨rfl,hq⟩
end
end PySem
namespace L2
open PySem PySem.Spec PyProof.Rows
section
variable {X:Cx}
theorem uh {o i:Expr}{td ty:TE}{pos:Pos}(hu:X.A.units+1<cLine) (ho:QE X o td) (hi:QE X i ty) (hs:zf i:=by exact fun _ _=>rfl):QE X (.Subscript o i pos) (wZ td ty):=⟨vD hu ho.h hi.h hs⟩
theorem iD {o e:Expr}{to te:TE}{apos cpos:Pos}(ho:QE X o to) (ha:QE X e te) (hs:aw e=true:=by rfl) (hbase:DB o "extend" X.env (eval o X.env)=eval o X.env:=by rfl) (hline:(apos.endLine == cpos.line)=true:=by rfl) :
  QE X (.Call (.Attribute o "extend" apos) [e] [] cpos) (tBM X.K "list" nN to (bZ te gB)):=⟨xh PySem.F.plainAttrs_list PySem.F.slot_list_extend PySem.F.type_list_extend p0 ho.h (pa' ha.h cz hs) hbase (by rw [ar hs]; rfl) hline (ar hs)⟩
theorem uE:bV X (.builtin "any") (fun xs H Q=>∃(a:Addr) (bs:List Bool),xs=[.ref a]/\SqL X.K H a (bs.map V.bl)/\X.calm=true/\Q (.bl (bs.any id)) H):=by
 intro pins s σ H xs us Q I r h
 obtain ⟨a,bs,rfl,hS,hc,q⟩:=h
 obtain ⟨u,rfl,rx⟩:=cT r
 cases rx
 obtain ⟨its,rv,pl,hz⟩:=I.list hS
 have hlen:its.length=bs.length:=by rw [<- rv.length,AH]
 refine call_any_walk (wpAny_pyIter_list pl.isList ?_)
 have ne:a≠s.heap.objs.size:=by
  obtain ⟨o,e,_⟩:=pl.isList
  exact Bl (A3 e)
 have hh:X.A.in1.handled=none:=I.ok.hd hc
 refine ⟨s.heap.objs.size,_,_,_,_,_,fun i=>bs.getD i false,rfl,Walks.list hh s.heap.objs.size a ne its.toArray,⟨⟨_,A5 _ rfl,rfl,rfl⟩,?_⟩,?_,?_⟩
 ·obtain ⟨o,e,r⟩:=pl.isList
  exact ⟨o,AJ _ e,r⟩
 ·intro i v s' Q' E' hv hq
  have hv':its[i]?=some v:=by simpa using hv
  have hi:i<its.length:=(AS.mp hv').1
  have hb:bs[i]?=some bs[i]:=AN (by omega)
  obtain ⟨u,hu,ru⟩:=rv.get (i:=i) (x:=V.bl bs[i]) (by rw [AR,hb]; rfl)
  rw [hv'] at hu
  cases hu
  cases ru
  refine CV ?_
  have e:bs.getD i false=bs[i]:=by rw [AT,hb]; rfl
  exact e ▸ hq
 ·intro h' tk kp
  have e:((BP its.toArray.size).any fun i=>bs.getD i false)=bs.any id:=by
   rw [AU,hlen]
   clear hlen q hS rv hz
   induction bs with
   | nil=>rfl
   | cons b r ih =>
    rw [AZ,EH,Ef,Ef,<- ih,List.any_map]
    rfl
  rw [e]
  refine ⟨.bl _,H,?_,rfl,q⟩
  refine I.kept (h':=h') fun b o e=>kp b o ?_ (AJ _ e)
  have lt:b<s.heap.objs.size:=A3 e
  rw [Bi]
  exact Bl lt
end
theorem uC {prog:Program}{w:Bj}{A:Bk}{E:Value->AL->Prop}{s:AL}{t b:Addr}{vs ws:List Value}{Q:Value->AL->Prop}(ht:Fe s.heap t vs.toArray) (hb:Fe s.heap b ws.toArray) (h0:vs=[]->Q (.ref b) s)
  (h1:vs≠[]->ws=[]->Q (.ref t) s) (h2:vs≠[]->ws≠[]->Q (.ref s.heap.objs.size) { s with heap:=s.heap.push { cls:=.type "tuple",data:=.seq (vs++ws).toArray } })
  (hsz:vs.length+ws.length<=sizeLine):A6 (Bf prog w) A (DU .Add (.ref t) (.ref b)) Q E s:=by
 by_cases hv:vs=[]
 ·obtain ⟨⟨cls,dd,data,sl⟩,ho,hc,n,hd⟩:=id ht
  obtain ⟨⟨cls2,dd2,data2,sl2⟩,ho2,hc2,n2,hd2⟩:=id hb
  simp only at hc hd hc2 hd2
  subst hc hd hc2 hd2
  exact concat_meets ⟨_,ho,rfl⟩ ⟨_,ho2,rfl⟩ noFill_tuple_add seq_tuple_add EB Eu (Ee _ _)
   (tuple_addW0 t b vs.toArray ws.toArray n n2 dd dd2 sl sl2 (by simp [hv])) ⟨ho,ho2,h0 hv⟩
 ·exact HT.cat_tup ht hb hv (h1 hv) (h2 hv) hsz
def zL:R2:=fun x y H Q=>∃a b xs ys,x=.ref a/\y=.ref b/\H a=some (.tup xs)/\H b=some (.tup ys)/\xs.length+ys.length<=sizeLine/\∀p H',Same H H'->H' p=some (.tup (xs++ys))->Q (.ref p) H'
section
variable {X:Cx}
theorem fF:OpR X (DU .Add) zL:=by
 intro pins s σ H x y v u Q I rx ry h
 obtain ⟨a,b,xs,ys,rfl,rfl,ha,hb,hz,q⟩:=h
 cases rx
 cases ry
 obtain ⟨its,r1,p1,_⟩:=I.tuple (SqT.of (K:=X.K) ha)
 obtain ⟨its2,r2,p2,_⟩:=I.tuple (SqT.of (K:=X.K) hb)
 refine uC p1 p2 (fun z=>⟨.ref b,H,I,rfl,q b H (Same.refl _) ?_⟩) (fun _ z=>⟨.ref a,H,I,rfl,q a H (Same.refl _) ?_⟩) (fun _ z=>?_) (by rw [<- r1.length,<- r2.length]; exact hz)
 ·rw [r1.nil_iff.mp z]
  exact hb
 ·rw [r2.nil_iff.mp z,BK]
  exact ha
 ·have fr:H s.heap.objs.size=none:=I.hok.fresh (AM _)
  refine ⟨.ref s.heap.objs.size,_,I.laid (t':=s.toks) (o:=.tup (xs++ys)) (fun b ob q=>AJ _ q) (AM _) ?_,rfl,q _ _ (Same.new fr _) ac⟩
  exact ⟨by rw [AW]; exact hz,_,r1.append r2,Fe.new _ _⟩
theorem eE {prog:Program}{w:Bj}{A:Bk}{E:Value->AL->Prop}{s:AL}{t sl:Addr}{items:Array Value}{vl vu:Value}{lo hi:Option Int}{Q:Value->AL->Prop}(ht:Fe s.heap t items) (hs:s.heap.IsSliceOf sl vl vu .none) (pl:Fi vl lo) (pu:Fi vu hi)
  (hw:HT.sIx items.size 0 lo=0/\HT.sIx items.size items.size hi=items.size) (h:Q (.ref t) s):A6 (Bf prog w) A (ED (.ref t) (.ref sl)) Q E s:=by
 obtain ⟨os,hos,hcs,hds⟩:=id hs
 have hTs:s.TypeIs (.ref sl) "slice":=⟨os,hos,hcs⟩
 unfold ED
 try with_reducible refine Cd ?_
 first | refine AI (AV ?_) | skip
 refine AI (wpAny_sequenceKey ht.typeIs (by decide) ?_)
 refine AI (Ci (name:=Dt "__getitem__") ht.typeIs BI
  (CQ BI ht.typeIs entry_tuple_getitem ?_ (args_tuple_getitem _ _)))
 show A6 _ _ (D6 (.ref t) >>= _) _ _ s
 refine AI (tupleItemsOf_ ht ?_)
 refine AI (wpAny_typeOf hTs ?_)
 rw [if_pos (by decide)]
 refine AI (HT.sliceApplied_gen hs pl pu ?_)
 have hyes:(((HT.sIx items.size 0 lo:Nat):Int) == 0&&(1:Int) == 1&&(HT.sIx items.size items.size hi-HT.sIx items.size 0 lo) == items.size)=true:=by
  rw [hw.1,hw.2]
  simp
 show A6 _ _ (if (((HT.sIx items.size 0 lo:Nat):Int) == 0&&(1:Int) == 1&&(HT.sIx items.size items.size hi-HT.sIx items.size 0 lo) == items.size)=true then _ else _) _ _ s
 rw [if_pos hyes]
 refine AI (m:=Builtin.Tuple.tupleIsExact _) ?_
 show A6 _ _ (typeOf (.ref t) >>= _) _ _ s
 refine AI (wpAny_typeOf ht.typeIs (AV ?_))
 rw [if_pos (by decide)]
 refine AI (wpAny_rule ?_)
 exact AV ⟨_,rfl,AV h⟩
def Ap:V->Option Int->Option Int->Hp->VK->Prop:=fun x lo hi H Q=>∃a xs,x=.ref a/\H a=some (.tup xs)/\∀p H',Same H H'->H' p=some (.tup (bH xs lo hi))->Q (.ref p) H'
theorem eg:SlR X Ap:=by
 intro pins s σ H x v vl vu lo hi sl Q I rx hs pl pu h
 obtain ⟨a,xs,rfl,hx,q⟩:=h
 cases rx
 obtain ⟨its,r,ht,hz⟩:=I.tuple (SqT.of (K:=X.K) hx)
 have hlen:its.toArray.size=xs.length:=by rw [AU]; exact r.length.symm
 refine ⟨"tuple",_,BI.lookup,ht.typeIs,?_⟩
 by_cases hw:HT.sIx xs.length 0 lo=0/\HT.sIx xs.length xs.length hi=xs.length
 ·refine eE ht hs pl pu (by rw [hlen]; exact hw) ⟨.ref a,H,I,rfl,q a H (Same.refl _) ?_⟩
  unfold bH
  rw [hw.1,hw.2,List.drop_zero,Nat.sub_zero,BJ]
  exact hx
 ·refine HT.getItem_tuple_cut ht hs pl pu (by rw [hlen]; exact hw) ?_ (by rw [hlen]; exact hz)
  rw [hlen]
  have fr:H s.heap.objs.size=none:=I.hok.fresh (AM _)
  refine ⟨.ref s.heap.objs.size,_,I.laid (t':=s.toks) (o:=.tup (bH xs lo hi)) (fun b ob q=>AJ _ q) (AM _) ?_,rfl,q _ _ (Same.new fr _) ac⟩
  exact ⟨Bm (bC xs lo hi) hz,_,(r.drop (HT.sIx xs.length 0 lo)).take (HT.sIx xs.length xs.length hi-HT.sIx xs.length 0 lo),Fe.new _ _⟩
end
theorem uy {K:AK}{a:Addr}{xs:List V}{H:Hp}{cap:St}{te:TE}{Q:VK}(ys:List V) (hS:SqT K H a xs) (hn:xs.length<=sizeLine) (hl:ys.length=xs.length)
  (el:∀(i:Nat) x y H' (P:VK),Same H H'->xs[i]?=some x->ys[i]?=some y->(∀H'',Same H' H''->P y H'')->te (some x :: cap) H' P) (fin:∀D H',Same H H'->H D=none->H' D=some (.lst ys)->Q (.ref D) H') :
  iO (Itt K a) cap te Q H:=by
 refine G.comp_pure2 (J:=Itt K a) (xs:=xs) (ys:=ys) hn hl ?_ ?_ ?_ el fin
 ·intro i H' s hi
  exact ⟨xs,xs[i],s.seqT hS,AN hi⟩
 ·rintro i H' x H'' s hi ⟨rfl,h⟩
  exact ⟨rfl,h xs (s.seqT hS)⟩
 ·intro H' s
  exact ⟨xs,s.seqT hS,AM _⟩
def Itv (K:AK) (a:Addr) (xs:List V):It :=
 ⟨fun i H=>SqT K H a xs/\i<xs.length,fun i H x H'=>H'=H/\xs.reverse[i]?=some x,fun i H=>SqT K H a xs/\xs.length<=i⟩
theorem pi {P:Program}{w:Bj}{K:AK}{tg:Expr}(a it:Addr) (xs:List V):kn P w K tg (Itv K a xs) [it] it (fun i h=>i<=xs.length/\h.IsRevT it a ((xs.length:Int)-1-(i:Int))) where
 mem:=by simp
 obj:=fun i h st b hb=>by
  have e:b=it:=by simpa using hb
  subst e
  obtain ⟨_,o,e,c,d⟩:=st
  exact ⟨o,e,fun v z=>by rw [d] at z; cases z⟩
 keep:=fun i h h' st k=>⟨st.1,st.2.at fun o e=>k it (by simp) o e⟩
 item:=by
  intro X hP hw hK hc i pins s σ H E I hf st hg
  subst hP hw hK
  obtain ⟨hq,hx⟩:=hg
  obtain ⟨its,rv,p,hz⟩:=I.tuple hq
  have hl:=rv.length
  have hj:xs[xs.length-1-i]?=some (xs[xs.length-1-i]'(by omega)):=AN (by omega)
  obtain ⟨u,hu,ru⟩:=rv.get hj
  obtain ⟨f0,f1,f2,f3,f4,f5⟩:=hf it (by simp)
  have e1:(xs.length:Int)-1-(i:Int)=((xs.length-1-i:Nat):Int):=by omega
  have st2:=st.2
  rw [e1] at st2
  refine c8 st2 (show Fe s.heap a its.toArray from p) (by rw [AU]; omega) (x:=u) (by simpa using hu) fun h' tk st' sb=>?_
  have I1:Inv X pins σ H { s with heap:=h',toks:=tk }:=I.turned (t':=tk) (fun b o hb e=>(sb.2 b hb).trans e) f0 f1 f3 f4 f5
  have e2:((xs.length-1-i:Nat):Int)-1=(xs.length:Int)-1-((i+1:Nat):Int):=by omega
  rw [e2] at st'
  obtain ⟨o,e,c,d⟩:=id st'
  refine ⟨u,rfl,lh (s:={ s with heap:=h',toks:=tk }) e c d (by decide) ⟨xs[xs.length-1-i]'(by omega),H,I1,ru,⟨rfl,?_⟩,⟨hx,st'⟩,fun b hb=>(hf b hb).1⟩⟩
  rw [BD hx]
  exact hj
 done:=by
  intro X hP hw hK hc i pins s σ H E I hf st hg
  subst hP hw hK
  obtain ⟨hq,hx⟩:=hg
  obtain ⟨f0,f1,f2,f3,f4,f5⟩:=hf it (by simp)
  have hi:=st.1
  have e1:(xs.length:Int)-1-(i:Int)=-1:=by omega
  have st2:=st.2
  rw [e1] at st2
  exact dG (I.ok.hd hc) st2 fun h' eb=>⟨rfl,I.turned (t':=s.toks) (fun b o hb e=>eb b o hb e) f0 f1 f3 f4 f5⟩
 self:=fun _ _ _ _ _ st h=>cK st.2 h
def xp (K:AK) (ta:TA):TI:=fun σ H R=>ta σ H fun vs H1=>∃a xs,vs=[.ref a]/\SqT K H1 a xs/\R (Itv K a xs) H1
section
variable {X:Cx}
theorem vw {tg:Expr}{p pos:Pos}{a:Expr}{ta:TA}(hg:Gl X "reversed") (hm:X.mg "reversed"=none) (hbt:B2 "reversed"=some (.type "reversed")) (ha:PA X [a] ta) (hs:Bz [a] X.env=[(false,eval a X.env)]:=by rfl) :
  PI X tg (.Call (.Name "reversed" p) [a] [] pos) (xp X.K ta):=by
 intro pins s σ H R I h
 refine Call_ (bG I hg hm hbt (BC (thn (ha pos pins s σ H _ I h) fun us s1 ⟨vs,H1,I1,r1,q1⟩=>?_) hs rfl))
 obtain ⟨a,xs,rfl,hq,q⟩:=q1
 obtain ⟨u,rfl,ru⟩:=cT r1
 cases ru
 obtain ⟨its,rv,pl,hz⟩:=I1.tuple hq
 have hl:=rv.length
 refine eG (show Fe s1.heap a its.toArray from pl) (by rw [AU]; omega) fun tk=>?_
 have e:((its.toArray.size:Nat):Int)-1=(xs.length:Int)-1-((0:Nat):Int):=by rw [AU,<- hl]; omega
 rw [e]
 have it:(s1.heap.push (jR a ((xs.length:Int)-1-((0:Nat):Int)))).IsRevT s1.heap.objs.size a ((xs.length:Int)-1-((0:Nat):Int)):=⟨_,A5 _ rfl,rfl,rfl⟩
 refine cK it ?_
 refine ⟨s1.heap.objs.size,[s1.heap.objs.size],_,_,H1,rfl,I1.kept (t':=tk) fun b o e=>AJ _ e,pi a _ xs,⟨Bo _,it⟩,fun b hb=>?_,q⟩
 have e:b=s1.heap.objs.size:=by simpa using hb
 subst e
 exact I1.fpOk (AM _) (I1.hok.fresh (AM _))
theorem yS {tg a:Expr}{t:TE}{p pos:Pos}(hm:X.mg "reversed"=none) (ha:QE X a t) (hg:X.env.kindOf "reversed"=some .globalImplicit:=by kernel_rfl) (hs:aw a=true:=by rfl):QI X tg (.Call (.Name "reversed" p) [a] [] pos) (xp X.K (bZ t gB)) :=
 ⟨vw hg hm (by decide +kernel) (pa' ha.h cz hs) ((ar hs).trans rfl)⟩
theorem t_ {K:AK}{a:Addr}{xs:List V}{g:TG}{tb:TS}{D:Ends}{σ:St}{H:Hp}(Pv:Nat->St->Hp->Prop) (h0:Pv 0 σ H) (hl:∀i σ H,i<=xs.length->Pv i σ H->SqT K H a xs)
  (hs:∀i x σ H,xs.reverse[i]?=some x->Pv i σ H->g x σ H fun σ2 H2=>tb { D with nx:=Pv (i+1),ct:=Pv (i+1),bk:=D.nx } σ2 H2) (hd:∀ σ H,Pv xs.length σ H->D.nx σ H) :
  ∃W:Nat->Nat->St->Hp->Prop,(∃m,W 0 m σ H)/\∀i m σ H,W i m σ H ->
   ((Itv K a xs).stop i H/\D.nx σ H)\/((Itv K a xs).go i H/\∃N:St->Hp->Prop,(∀ σ' H',N σ' H'->∃m',m'<m/\W (i+1) m' σ' H')/\∀x H',(Itv K a xs).yld i H x H'->g x σ H' fun σ2 H2=>tb { D with nx:=N,ct:=N,bk:=D.nx } σ2 H2):=by
 refine ⟨fun i m σ H=>m=xs.length-i/\i<=xs.length/\Pv i σ H,⟨xs.length,by simp,Bo _,h0⟩,?_⟩
 rintro i m σ H ⟨rfl,hi,p⟩
 have q:=hl i σ H hi p
 by_cases hlt:i<xs.length
 ·refine .inr ⟨⟨q,hlt⟩,Pv (i+1),fun σ' H' p'=>⟨xs.length-(i+1),by omega,rfl,hlt,p'⟩,fun x H' y=>?_⟩
  obtain ⟨rfl,y⟩:=y
  exact hs i x σ _ y p
 ·have e:i=xs.length:=by omega
  subst e
  exact .inl ⟨⟨q,AM _⟩,hd σ H p⟩
end
end L2
namespace IT
open PySem
inductive It where
 | clip (r:Str) (f l:Int)
 | times (m:Int) (xs:List It)
 | back (xs:List It)
 | part (n:Str) (xs:List It)
 | fade (m:Int)
structure Cl where
 r:Str
 f:Int
 l:Int
 d:Int
def isF:It->Bool
 | .fade _=>true
 | _=>false
def bp (m:Int):List Cl->List Cl
 | []=>[]
 | c :: r=>⟨c.r,c.f,c.l,m⟩ :: r
def revA:Int->List Cl->List Cl
 | _,[]=>[]
 | a,c :: r=>⟨c.r,c.l,c.f,a⟩ :: revA c.d r
def rev (cs:List Cl):List Cl:=revA 0 cs.reverse
def rep (n:Nat) (A:List Cl):List Cl:=(Bs n A).flatten
def step (x:It) (more:List Cl) (s:List Cl×Int):List Cl×Int :=
 match x with
 | .fade m=>(s.1,m)
 | _=>match more with
  | []=>s
  | c :: r=>(s.1++bp s.2 (c :: r),0)
mutual
def flI:It->List Cl
 | .clip r f l=>[⟨r,f,l,0⟩]
 | .times m xs=>rep m.toNat (run xs ([],0)).1
 | .back xs=>rev (run xs ([],0)).1
 | .part _ xs=>(run xs ([],0)).1
 | .fade _=>[]
def run:List It->List Cl×Int->List Cl×Int
 | [],s=>s
 | x :: r,s=>run r (step x (flI x) s)
end
def flL (xs:List It):List Cl:=(run xs ([],0)).1
theorem bM (m:Int) (xs:List It):flI (.times m xs)=rep m.toNat (flL xs):=by rw [flI,flL]
theorem cE (xs:List It):flI (.back xs)=rev (flL xs):=by rw [flI,flL]
theorem fO (n:Str) (xs:List It):flI (.part n xs)=flL xs:=by rw [flI,flL]
theorem run_app:∀(xs ys:List It) (s:List Cl×Int),run (xs++ys) s=run ys (run xs s)
 | [],ys,s=>by rw [B6,run]
 | x :: r,ys,s=>by rw [Ce,run,run,run_app r ys]
mutual
inductive WI:It->Prop
 | clip {r f l}:WI (.clip r f l)
 | times {m xs}:1<=m->m<=20->WL xs->WI (.times m xs)
 | back {xs}:WL xs->WI (.back xs)
 | part {n xs}:WL xs->WI (.part n xs)
inductive WL:List It->Prop
 | one {x}:WI x->WL [x]
 | cons {x r}:WI x->WL r->WL (x :: r)
 | fade {x m r}:WI x->WL r->WL (x :: .fade m :: r)
end
theorem WI.nf {x:It}(h:WI x):isF x=false:=by cases h <;> rfl
theorem WL.app:∀{p q:List It},WL p->WL q->WL (p++q)
 | _,_,.one x,h=>.cons x h
 | _,_,.cons x r,h=>.cons x (r.app h)
 | _,_,.fade x r,h=>.fade x (r.app h)
theorem WL.appF:∀{p q:List It}{m:Int},WL p->WL q->WL (p++.fade m :: q)
 | _,_,_,.one x,h=>.fade x h
 | _,_,_,.cons x r,h=>.cons x (r.appF h)
 | _,_,_,.fade x r,h=>.fade x (r.appF h)
theorem WL.head {xs:List It}(h:WL xs):∃x r,xs=x :: r/\WI x:=by
 cases h with
 | one h=>exact ⟨_,_,rfl,h⟩
 | cons h _=>exact ⟨_,_,rfl,h⟩
 | fade h _=>exact ⟨_,_,rfl,h⟩
theorem WL.last:∀{xs:List It},WL xs->∃r x,xs=r++[x]/\WI x
 | _,.one h=>⟨[],_,rfl,h⟩
 | _,.cons (x:=x) _ r=>by
  obtain ⟨l,y,rfl,h⟩:=r.last
  exact ⟨x :: l,y,rfl,h⟩
 | _,.fade (x:=x) (m:=m) _ r=>by
  obtain ⟨l,y,rfl,h⟩:=r.last
  exact ⟨x :: .fade m :: l,y,rfl,h⟩
theorem cV (m n:Int) (A:List Cl):bp m (bp n A)=bp m A:=by cases A <;> rfl
theorem fA {m:Int}{A B:List Cl}(h:A≠[]):bp m (A++B)=bp m A++B:=by
 cases A with
 | nil=>exact absurd rfl h
 | cons a r=>rfl
theorem eh {m:Int}{A:List Cl}(h:A≠[]):bp m A≠[]:=by
 cases A with
 | nil=>exact absurd rfl h
 | cons a r=>exact C7 _ _
theorem g7 (m:Int) (A:List Cl):(bp m A).length=A.length:=by cases A <;> rfl
def H0 (A:List Cl):Prop:=A≠[]/\bp 0 A=A
theorem b_ {x:It}{A:List Cl}{s:List Cl×Int}(hx:isF x=false) (hA:A≠[]):step x A s=(s.1++bp s.2 A,0):=by
 cases A with
 | nil=>exact absurd rfl hA
 | cons a r=>cases x <;> first | rfl | cases hx
theorem lP (x:It) (A F:List Cl) (s:List Cl×Int):step x A (F++s.1,s.2)=(F++(step x A s).1,(step x A s).2):=by
 cases x <;> cases A <;> simp [step]
theorem i6:∀(xs:List It) (F:List Cl) (s:List Cl×Int),run xs (F++s.1,s.2)=(F++(run xs s).1,(run xs s).2)
 | [],F,s=>by rw [run,run]
 | x :: r,F,s=>by rw [run,run,lP,i6 r F]
theorem bK (xs:List It) (F:List Cl) (k:Int):run xs (F,k)=(F++(run xs ([],k)).1,(run xs ([],k)).2):=by
 have:=i6 xs F ([],k)
 rwa [BK] at this
theorem kO (a:Int):∀(A:List Cl) (B:List Cl),A≠[]->∃b,revA a (A++B)=revA a A++revA b B/\(∀c,A.getLast?=some c->b=c.d)
 | [],B,h=>absurd rfl h
 | [c],B,_=>⟨c.d,rfl,fun z e=>by cases e; rfl⟩
 | c :: e :: r,B,_=>by
  obtain ⟨b,h1,h2⟩:=kO c.d (e :: r) B (C7 _ _)
  refine ⟨b,?_,fun z hz=>h2 z (by rwa [BV] at hz)⟩
  rw [Ce,revA,h1]
  rfl
theorem kN (a b:Int) (A:List Cl):revA a A=bp a (revA b A):=by cases A <;> rfl
theorem gI (A:List Cl):(rev A).length=A.length:=by
 have:∀(a:Int) (B:List Cl),(revA a B).length=B.length:=by
  intro a B
  induction B generalizing a with
  | nil=>rfl
  | cons c r ih=>rw [revA,AZ,AZ,ih]
 rw [rev,this,A7]
theorem lV {A:List Cl}(h:A≠[]):rev A≠[]:=by
 intro z
 have:=gI A
 rw [z] at this
 exact h (List.eq_nil_of_length_eq_zero this.symm)
theorem lW {A:List Cl}(h:A≠[]):H0 (rev A):=by
 refine ⟨lV h,?_⟩
 rw [rev,<- kN]
theorem fD {m:Int}{A B:List Cl}(h:B≠[]):rev (A++bp m B)=rev B++bp m (rev A):=by
 unfold rev
 rw [Cv]
 obtain ⟨c,r,rfl⟩:∃c r,B=c :: r:=by
  cases B with
  | nil=>exact absurd rfl h
  | cons c r=>exact ⟨c,r,rfl⟩
 have e:(bp m (c :: r)).reverse=r.reverse++[⟨c.r,c.f,c.l,m⟩]:=by rw [bp,Bd]
 rw [e]
 obtain ⟨b,h1,h2⟩:=kO 0 (r.reverse++[(⟨c.r,c.f,c.l,m⟩:Cl)]) A.reverse (by simp)
 rw [h1,h2 ⟨c.r,c.f,c.l,m⟩ (by simp),<- kN,Bd]
 congr 1
 cases hr:r.reverse with
 | nil=>rfl
 | cons y z =>
  have q:∀(a:Int) (l:List Cl),revA a (l++[(⟨c.r,c.f,c.l,m⟩:Cl)])=revA a (l++[c]):=by
   intro a l
   induction l generalizing a with
   | nil=>rfl
   | cons y z ih=>rw [Ce,Ce,revA,revA,ih]
  exact q 0 (y :: z)
theorem u_ {A:List Cl}(h:H0 A):rev (rev A)=A:=by
 have key:∀(A:List Cl),rev (rev A)=bp 0 A:=by
  intro A
  induction A with
  | nil=>rfl
  | cons c r ih =>
   by_cases hr:r=[]
   ·subst hr
    rfl
   ·have e:c :: r=[c]++bp (match r with | []=>0 | y :: _=>y.d) r:=by
     cases r with
     | nil=>exact absurd rfl hr
     | cons y z=>rfl
    rw [e,fD hr,fD (lV (C7 _ _)),ih,cV]
    cases r with
    | nil=>exact absurd rfl hr
    | cons y z=>rfl
 rw [key,h.2]
theorem d3 (n:Nat) (A:List Cl):rep (n+1) A=A++rep n A:=by rw [rep,B4,Ch,<- rep]
theorem rC {n:Nat}{A:List Cl}(h:H0 A) (hn:1<=n):H0 (rep n A):=by
 obtain ⟨k,rfl⟩:∃k,n=k+1:=⟨n-1,by omega⟩
 rw [d3]
 exact ⟨fun z=>h.1 (EI.mp z).1,by rw [fA h.1,h.2]⟩
theorem kP:∀(n:Nat) (A:List Cl),A++rep n A=rep n A++A
 | 0,A=>by simp [rep]
 | n+1,A=>by rw [d3,Bu,<- kP n A]
theorem nJ {A:List Cl}(h:H0 A):∀n:Nat,rep n (rev A)=rev (rep n A)
 | 0=>rfl
 | n+1=>by
  rw [d3,d3,nJ h n]
  by_cases hn:n=0
  ·subst hn
   simp [rep,rev,revA]
  ·have h1:=rC h (show 1<=n by omega)
   have e:A++rep n A=rep n A++bp 0 A:=by rw [h.2]; exact kP n A
   rw [e,fD h.1,(lW h1.1).2]
theorem va (n:Nat) (A:List Cl):(rep n A).length=n*A.length:=by
 induction n with
 | zero=>simp [rep]
 | succ n ih=>rw [d3,AW,ih,Nat.succ_mul,Nat.add_comm]
mutual
theorem WI.h0:∀{x:It},WI x->H0 (flI x)
 | _,.clip=>by rw [flI]; exact ⟨C7 _ _,rfl⟩
 | _,.times h1 _ h=>by rw [bM]; exact rC h.h0.1 (by omega)
 | _,.back h=>by rw [cE]; exact lW h.h0.1.1
 | _,.part h=>by rw [fO]; exact h.h0.1
theorem WL.h0:∀{xs:List It},WL xs->H0 (flL xs)/\(run xs ([],0)).2=0
 | _,.one (x:=x) h=>by
  have a:=h.h0
  rw [flL,run,b_ h.nf a.1,run]
  simp only [B6]
  exact ⟨⟨eh a.1,cV 0 0 _⟩,trivial⟩
 | _,.cons (x:=x) (r:=r) h t=>by
  have a:=h.h0
  obtain ⟨b,c⟩:=t.h0
  rw [flL,run,b_ h.nf a.1,bK]
  simp only [B6]
  exact ⟨⟨fun z=>eh a.1 (EI.mp z).1,by rw [fA (eh a.1),cV]⟩,c⟩
 | _,.fade (x:=x) (m:=m) (r:=r) h t=>by
  have a:=h.h0
  obtain ⟨b,c⟩:=t.h0
  rw [flL,run,b_ h.nf a.1,run,step,bK]
  simp only [B6]
  refine ⟨⟨fun z=>eh a.1 (EI.mp z).1,by rw [fA (eh a.1),cV]⟩,?_⟩
  obtain ⟨y,q,rfl,hy⟩:=t.head
  have ay:=hy.h0
  have z:∀k:Int,(run (y :: q) ([],k)).2=(run (y :: q) ([],0)).2:=by
   intro k
   rw [run,run,b_ hy.nf ay.1,b_ hy.nf ay.1]
   simp only [B6]
   rw [bK q (bp k (flI y)) 0,bK q (bp 0 (flI y)) 0]
  show (run (y :: q) ([],m)).2=0
  rw [z,c]
end
theorem WL.run {xs:List It}(h:WL xs) (F:List Cl) (k:Int):run xs (F,k)=(F++bp k (flL xs),0):=by
 obtain ⟨y,q,rfl,hy⟩:=h.head
 have ay:=hy.h0
 have c:=h.h0.2
 rw [flL]
 rw [IT.run,b_ hy.nf ay.1] at c ⊢
 rw [IT.run,b_ hy.nf ay.1]
 simp only [B6] at c ⊢
 rw [bK q (bp 0 (flI y)) 0] at c ⊢
 rw [bK q (F++bp k (flI y)) 0]
 simp only at c ⊢
 rw [c,fA (eh ay.1),cV,Bu]
theorem bd {x:It}(h:WI x):flL [x]=flI x:=by
 have a:=h.h0
 rw [flL,run,b_ h.nf a.1,run]
 exact a.2
theorem gc {p q:List It}(hp:WL p) (hq:WL q):flL (p++q)=flL p++flL q:=by
 have a:=hq.h0.1
 rw [flL,run_app,hp.run,hq.run]
 simp only [B6]
 rw [hp.h0.1.2,a.2]
theorem fN {p q:List It}{m:Int}(hp:WL p) (hq:WL q):flL (p++.fade m :: q)=flL p++bp m (flL q):=by
 rw [flL,run_app,hp.run,IT.run,step,hq.run]
 simp only [B6]
 rw [hp.h0.1.2]
def inp (xs:List It):List It:=if (xs.take 1++xs.drop (xs.length-1)).any isF then [.times 1 xs] else xs
mutual
def tI:It->List It
 | .clip r f l=>[.clip r l f]
 | .times m xs=>[.times m (tL xs)]
 | .part n xs=>[.back [.part n xs]]
 | .back xs=>inp (sL xs)
 | .fade m=>[.fade m]
def tL:List It->List It
 | []=>[]
 | x :: r=>tL r++tI x
def sI:It->List It
 | .clip r f l=>[.clip r f l]
 | .times m xs=>[.times m (sL xs)]
 | .part n xs=>[.part n xs]
 | .back xs=>inp (tL xs)
 | .fade m=>[.fade m]
def sL:List It->List It
 | []=>[]
 | x :: r=>sI x++sL r
end
theorem wW:∀xs:List It,tL xs=(xs.reverse.map tI).flatten
 | []=>by rw [tL]; rfl
 | x :: r=>by rw [tL,wW r,Bd,A8,DF]; simp
theorem w_:∀xs:List It,sL xs=(xs.map sI).flatten
 | []=>by rw [sL]; rfl
 | x :: r=>by rw [sL,w_ r,Br,Ch]
theorem tP {xs:List It}(h:WL xs):inp xs=xs:=by
 obtain ⟨x,r,rfl,hx⟩:=id h.head
 obtain ⟨q,y,e,hy⟩:=h.last
 unfold inp
 rw [if_neg]
 rw [e]
 have:(q++[y]).drop ((q++[y]).length-1)=[y]:=by simp
 rw [this,<- e]
 simp [hx.nf,hy.nf]
mutual
theorem qO:∀{x:It},WI x->WL (tI x)/\flL (tI x)=rev (flI x)
 | _,.clip=>by rw [tI]; exact ⟨.one .clip,by rw [bd .clip,flI,flI]; rfl⟩
 | _,.times (m:=m) (xs:=xs) h1 h2 h=>by
  obtain ⟨a,b⟩:=kF h
  have w:WI (.times m (tL xs)):=.times h1 h2 a
  rw [tI]
  exact ⟨.one w,by rw [bd w,bM,bM,b,nJ h.h0.1]⟩
 | _,.back (xs:=xs) h=>by
  obtain ⟨a,b⟩:=nE h
  rw [tI,tP a,cE,u_ h.h0.1]
  exact ⟨a,b⟩
 | _,.part (n:=n) (xs:=xs) h=>by
  have w:WI (.part n xs):=.part h
  rw [tI]
  exact ⟨.one (.back (.one w)),by rw [bd (.back (.one w)),cE,bd w]⟩
theorem kF:∀{xs:List It},WL xs->WL (tL xs)/\flL (tL xs)=rev (flL xs)
 | _,.one h=>by
  obtain ⟨a,b⟩:=qO h
  rw [tL,tL,B6,bd h]
  exact ⟨a,b⟩
 | _,.cons (x:=x) (r:=r) h t=>by
  obtain ⟨a,b⟩:=qO h
  obtain ⟨c,d⟩:=kF t
  have e:flL (x :: r)=flI x++bp 0 (flL r):=by
   have:=gc (.one h) t
   rw [t.h0.1.2,<- bd h]
   exact this
  rw [tL]
  exact ⟨c.app a,by rw [gc c a,b,d,e,fD t.h0.1.1,(lW h.h0.1).2]⟩
 | _,.fade (x:=x) (m:=m) (r:=r) h t=>by
  obtain ⟨a,b⟩:=qO h
  obtain ⟨c,d⟩:=kF t
  have e:flL (x :: .fade m :: r)=flI x++bp m (flL r):=by
   have:=fN (m:=m) (.one h) t
   rw [<- bd h]
   exact this
  have g:tL (x :: .fade m :: r)=tL r++.fade m :: tI x:=by rw [tL,tL,tI,Bu]; rfl
  rw [g]
  exact ⟨c.appF a,by rw [fN c a,b,d,e,fD t.h0.1.1]⟩
theorem rq:∀{x:It},WI x->WL (sI x)/\flL (sI x)=flI x
 | _,.clip=>by rw [sI]; exact ⟨.one .clip,bd .clip⟩
 | _,.times (m:=m) (xs:=xs) h1 h2 h=>by
  obtain ⟨a,b⟩:=nE h
  have w:WI (.times m (sL xs)):=.times h1 h2 a
  rw [sI]
  exact ⟨.one w,by rw [bd w,bM,bM,b]⟩
 | _,.back (xs:=xs) h=>by
  obtain ⟨a,b⟩:=kF h
  rw [sI,tP a,cE]
  exact ⟨a,b⟩
 | _,.part (n:=n) (xs:=xs) h=>by
  rw [sI]
  exact ⟨.one (.part h),bd (.part h)⟩
theorem nE:∀{xs:List It},WL xs->WL (sL xs)/\flL (sL xs)=flL xs
 | _,.one h=>by
  obtain ⟨a,b⟩:=rq h
  rw [sL,sL,BK,bd h]
  exact ⟨a,b⟩
 | _,.cons (x:=x) (r:=r) h t=>by
  obtain ⟨a,b⟩:=rq h
  obtain ⟨c,d⟩:=nE t
  have e:flL (x :: r)=flI x++flL r:=by
   rw [<- bd h]
   exact gc (.one h) t
  rw [sL]
  exact ⟨a.app c,by rw [gc a c,b,d,e]⟩
 | _,.fade (x:=x) (m:=m) (r:=r) h t=>by
  obtain ⟨a,b⟩:=rq h
  obtain ⟨c,d⟩:=nE t
  have e:flL (x :: .fade m :: r)=flI x++bp m (flL r):=by
   rw [<- bd h]
   exact fN (m:=m) (.one h) t
  have g:sL (x :: .fade m :: r)=sI x++.fade m :: sL r:=by rw [sL,sL,sI]; rfl
  rw [g]
  exact ⟨a.appF c,by rw [fN a c,b,d,e]⟩
end
mutual
def dI:It->PyData
 | .clip r f l=>.tuple [.str "clip",.str r,.int f,.int l]
 | .times m xs=>.tuple [.str "times",.int m,.tuple (dL xs)]
 | .back xs=>.tuple [.str "back",.tuple (dL xs)]
 | .part n _=>.tuple [.str "part",.str n]
 | .fade m=>.tuple [.str "fade",.int m]
def dL:List It->List PyData
 | []=>[]
 | x :: r=>dI x :: dL r
end
theorem aU:∀xs:List It,dL xs=xs.map dI
 | []=>by rw [dL]; rfl
 | x :: r=>by rw [dL,aU r]; rfl
theorem iH (p q:List It):dL (p++q)=dL p++dL q:=by rw [aU,aU,aU,A8]
section
variable {T:Str->Prop}{G:Str->List It->Prop}
end
mutual
def dpI:It->Nat
 | .clip _ _ _=>0
 | .times _ xs=>dpL xs+1
 | .back xs=>dpL xs+1
 | .part _ xs=>dpL xs+1
 | .fade _=>0
def dpL:List It->Nat
 | []=>0
 | x :: r=>max (dpI x) (dpL r)
end
theorem dpL_le {d:Nat}:∀{xs:List It},dpL xs<=d↔∀x∈xs,dpI x<=d
 | []=>by rw [dpL]; exact ⟨fun _ x h=>(nomatch h),fun _=>Bo _⟩
 | y :: r=>by
  rw [dpL,Nat.max_le,dpL_le (xs:=r)]
  constructor
  ·intro h x hx
   rcases AX.mp hx with rfl | z
   ·exact h.1
   ·exact h.2 x z
  ·exact fun h=>⟨h y (AQ ..),fun x hx=>h x (AO _ hx)⟩
theorem oM {d:Nat}{p q:List It}(hp:dpL p<=d) (hq:dpL q<=d):dpL (p++q)<=d:=dpL_le.mpr fun x hx=>by
 rcases CG.mp hx with z | z
 ·exact dpL_le.mp hp x z
 ·exact dpL_le.mp hq x z
theorem dp1 {d:Nat}{x:It}(h:dpI x<=d):dpL [x]<=d:=by rw [dpL,dpL]; omega
theorem uk (xs:List It):dpL (inp xs)<=dpL xs+1:=by
 unfold inp
 split
 ·exact dp1 (by rw [dpI]; omega)
 ·omega
mutual
theorem Ad:∀x:It,dpL (tI x)<=dpI x+1
 | .clip _ _ _=>by rw [tI,dpL,dpI,dpL]; omega
 | .times _ xs=>by have:=oK xs; rw [tI]; exact dp1 (by rw [dpI,dpI]; omega)
 | .back xs=>by have:=uj xs; have:=uk (sL xs); rw [tI,dpI]; omega
 | .part _ xs=>by rw [tI]; exact dp1 (by rw [dpI,dpL,dpL,dpI]; omega)
 | .fade _=>by rw [tI,dpL,dpI,dpL]; omega
theorem oK:∀xs:List It,dpL (tL xs)<=dpL xs+1
 | []=>by rw [tL,dpL]; omega
 | x :: r=>by have:=Ad x; have:=oK r; rw [tL,dpL]; exact oM (by omega) (by omega)
theorem Ae:∀x:It,dpL (sI x)<=dpI x+1
 | .clip _ _ _=>by rw [sI,dpL,dpI,dpL]; omega
 | .times _ xs=>by have:=uj xs; rw [sI]; exact dp1 (by rw [dpI,dpI]; omega)
 | .back xs=>by have:=oK xs; have:=uk (tL xs); rw [sI,dpI]; omega
 | .part _ xs=>by rw [sI]; exact dp1 (by rw [dpI]; omega)
 | .fade _=>by rw [sI,dpL,dpI,dpL]; omega
theorem uj:∀xs:List It,dpL (sL xs)<=dpL xs+1
 | []=>by rw [sL,dpL]; omega
 | x :: r=>by have:=Ae x; have:=uj r; rw [sL,dpL]; exact oM (by omega) (by omega)
end
mutual
def wI:It->Nat
 | .clip _ _ _=>1
 | .times _ xs=>wL xs+1
 | .back xs=>wL xs+1
 | .part _ _=>1
 | .fade _=>1
def wL:List It->Nat
 | []=>0
 | x :: r=>wI x+wL r
end
theorem gQ:∀p q:List It,wL (p++q)=wL p+wL q
 | [],q=>by rw [B6,wL,Nat.zero_add]
 | x :: r,q=>by rw [Ce,wL,wL,gQ r q]; omega
theorem xB (x:It):1<=wI x:=by cases x <;> simp [wI]
theorem jE:∀xs:List It,xs.length<=wL xs
 | []=>Bo _
 | x :: r=>by have:=jE r; have:=xB x; rw [wL,AZ]; omega
theorem lJ:∀{xs:List It}{x:It},x∈xs->wI x<=wL xs
 | y :: r,x,h=>by
  rw [wL]
  rcases AX.mp h with rfl | z
  ·omega
  ·have:=lJ z; omega
theorem wN (xs:List It):wL (inp xs)<=wL xs+1:=by
 unfold inp
 split
 ·simp [wL,wI]
 ·omega
mutual
theorem zi:∀x:It,wL (tI x)<=2*wI x
 | .clip _ _ _=>by simp [tI,wL,wI]
 | .times _ xs=>by have:=uN xs; simp only [tI,wL,wI]; omega
 | .back xs=>by have:=uO xs; have:=wN (sL xs); rw [tI,wI]; omega
 | .part _ xs=>by simp [tI,wL,wI]
 | .fade _=>by simp [tI,wL,wI]
theorem uN:∀xs:List It,wL (tL xs)<=2*wL xs
 | []=>by simp [tL,wL]
 | x :: r=>by have:=zi x; have:=uN r; rw [tL,gQ,wL]; omega
theorem zj:∀x:It,wL (sI x)<=2*wI x
 | .clip _ _ _=>by simp [sI,wL,wI]
 | .times _ xs=>by have:=uO xs; simp only [sI,wL,wI]; omega
 | .back xs=>by have:=uN xs; have:=wN (tL xs); rw [sI,wI]; omega
 | .part _ xs=>by simp [sI,wL,wI]
 | .fade _=>by simp [sI,wL,wI]
theorem uO:∀xs:List It,wL (sL xs)<=2*wL xs
 | []=>by simp [sL,wL]
 | x :: r=>by have:=zj x; have:=uO r; rw [sL,gQ,wL]; omega
end
mutual
def cnI:It->Int
 | .clip _ _ _=>1
 | .times m xs=>m*cnL xs
 | .back xs=>cnL xs
 | .part _ xs=>cnL xs
 | .fade _=>0
def cnL:List It->Int
 | []=>0
 | x :: r=>cnI x+cnL r
end
theorem oR:∀p q:List It,cnL (p++q)=cnL p+cnL q
 | [],q=>by rw [B6,cnL,Int.zero_add]
 | x :: r,q=>by rw [Ce,cnL,cnL,oR r q]; omega
theorem qU (x:It) (A:List Cl) (s:List Cl×Int) (h:isF x=true->A=[]):(step x A s).1.length=s.1.length+A.length:=by
 cases x with
 | fade m=>rw [h rfl]; simp [step]
 | _=>cases A <;> simp [step,g7]
theorem wt {x:It}(h:isF x=true):flI x=[]:=by cases x with | fade m=>rw [flI] | _=>cases h
theorem rB {m:Int}(h:0<=m) (A:List Cl):((rep m.toNat A).length:Int)=m*(A.length:Int):=by
 rw [va,Int.natCast_mul,Int.toNat_of_nonneg h]
mutual
theorem iI:∀{x:It},WI x->((flI x).length:Int)=cnI x
 | _,.clip=>by rw [flI,cnI]; rfl
 | _,.times h1 _ h=>by rw [bM,rB (by omega),cM h,cnI]
 | _,.back h=>by rw [cE,gI,cM h,cnI]
 | _,.part h=>by rw [fO,cM h,cnI]
theorem cM:∀{xs:List It},WL xs->((flL xs).length:Int)=cnL xs
 | _,.one h=>by rw [bd h,iI h,cnL,cnL,Int.add_zero]
 | _,.cons (x:=x) (r:=r) h t=>by
  have e:flL (x :: r)=flL [x]++flL r:=gc (.one h) t
  rw [e,AW,bd h,Dq,iI h,cM t,cnL]
 | _,.fade (x:=x) (m:=m) (r:=r) h t=>by
  have e:flL (x :: .fade m :: r)=flL [x]++bp m (flL r):=fN (.one h) t
  rw [e,AW,g7,bd h,Dq,iI h,cM t,cnL,cnL,cnI,Int.zero_add]
end
mutual
theorem kj:∀{x:It},WI x->1<=cnI x
 | _,.clip=>by rw [cnI]; omega
 | _,.times (m:=m) h1 _ h=>by
  rw [cnI]
  have a:=ez h
  have b:m*1<=m*cnL _:=Int.mul_le_mul_of_nonneg_left a (by omega)
  omega
 | _,.back h=>by rw [cnI]; exact ez h
 | _,.part h=>by rw [cnI]; exact ez h
theorem ez:∀{xs:List It},WL xs->1<=cnL xs
 | _,.one h=>by rw [cnL,cnL,Int.add_zero]; exact kj h
 | _,.cons h t=>by rw [cnL]; have:=kj h; have:=ez t; omega
 | _,.fade h t=>by rw [cnL,cnL,cnI]; have:=kj h; have:=ez t; omega
end
theorem WL.mem:∀{xs:List It},WL xs->∀x∈xs,WI x\/∃m,x=.fade m
 | _,.one h,x,hx=>by rw [Bi.mp hx]; exact .inl h
 | _,.cons h t,x,hx=>by
  rcases AX.mp hx with rfl | z
  ·exact .inl h
  ·exact t.mem x z
 | _,.fade h t,x,hx=>by
  rcases AX.mp hx with rfl | z
  ·exact .inl h
  ·rcases AX.mp z with rfl | z
   ·exact .inr ⟨_,rfl⟩
   ·exact t.mem x z
theorem uz {x:It}(h:WI x\/∃m,x=.fade m):0<=cnI x:=by
 rcases h with h | ⟨m,rfl⟩
 ·have:=kj h; omega
 ·rw [cnI]; omega
theorem nF:∀(xs:List It) (s:List Cl×Int),(∀x∈xs,WI x\/∃m,x=.fade m)->((run xs s).1.length:Int)=s.1.length+cnL xs
 | [],s,_=>by rw [run,cnL,Int.add_zero]
 | x :: r,s,h=>by
  rw [run,nF r _ fun y hy=>h y (AO _ hy),cnL,qU x (flI x) s wt]
  have:((flI x).length:Int)=cnI x:=by
   rcases h x (AQ ..) with w | ⟨m,rfl⟩
   ·exact iI w
   ·rw [flI,cnI]; rfl
  omega
theorem fR:∀(xs:List It) (i:Nat),(∀x∈xs,WI x\/∃m,x=.fade m)->cnL (xs.take i)<=cnL xs/\0<=cnL xs
 | [],i,_=>by rw [EZ,cnL]; omega
 | x :: r,0,h=>by
  have a:=uz (h x (AQ ..))
  have b:=(fR r 0 fun y hy=>h y (AO _ hy)).2
  rw [BS,cnL,cnL]
  omega
 | x :: r,i+1,h=>by
  have a:=uz (h x (AQ ..))
  have b:=fR r i fun y hy=>h y (AO _ hy)
  rw [List.take_succ_cons,cnL,cnL]
  omega
theorem uA:∀{xs:List It}{x:It},(∀x∈xs,WI x\/∃m,x=.fade m)->x∈xs->cnI x<=cnL xs
 | y :: r,x,h,hx=>by
  have a:=uz (h y (AQ ..))
  have b:=(fR r 0 fun y hy=>h y (AO _ hy)).2
  rw [cnL]
  rcases AX.mp hx with rfl | z
  ·omega
  ·have:=uA (fun y hy=>h y (AO _ hy)) z; omega
section
variable {T:Str->Prop}{G:Str->List It->Prop}
end
end IT
namespace DT
open PySem L2 G
mutual
inductive Td (H:Hp):V->PyData->Prop
 | int (i:Int):Td H (.int i) (.int i)
 | str (x:Str):Td H (.str x) (.str x)
 | tup {a:Addr}{vs:List V}{ds:List PyData}:H a=some (.tup vs)->Tds H vs ds->Td H (.ref a) (.tuple ds)
inductive Tds (H:Hp):List V->List PyData->Prop
 | nil:Tds H [] []
 | cons {v:V}{vs:List V}{d:PyData}{ds:List PyData}:Td H v d->Tds H vs ds->Tds H (v :: vs) (d :: ds)
end
def TK (H H':Hp):Prop:=∀a xs,H a=some (.tup xs)->H' a=some (.tup xs)
theorem TK.trans {H H1 H2:Hp}(a:TK H H1) (b:TK H1 H2):TK H H2:=fun c o h=>b c o (a c o h)
theorem TK.of {H H':Hp}(s:Same H H'):TK H H':=fun _ _ h=>s _ _ h
theorem TK.lst {H:Hp}{p:Addr}{xs:List V}{o:HO}(h:H p=some (.lst xs)):TK H (upd H p o):=fun a ys e=>by rw [aj (bJ e h (by intro z; cases z))]; exact e
theorem TK.dk {H:Hp}{p:Addr}{kvs:List (Key×V)}{o:HO}(h:H p=some (.dK kvs)):TK H (upd H p o):=fun a ys e=>by rw [aj (bJ e h (by intro z; cases z))]; exact e
theorem TK.new {H:Hp}{p:Addr}(h:H p=none) (o:HO):TK H (upd H p o):=TK.of (Same.new h o)
mutual
theorem Td.tk {H H':Hp}(t:TK H H'):∀{v:V}{d:PyData},Td H v d->Td H' v d
 | _,_,.int i=>.int i
 | _,_,.str x=>.str x
 | _,_,.tup h r=>.tup (t _ _ h) (r.tk t)
theorem Tds.tk {H H':Hp}(t:TK H H'):∀{vs:List V}{ds:List PyData},Tds H vs ds->Tds H' vs ds
 | _,_,.nil=>.nil
 | _,_,.cons h r=>.cons (h.tk t) (r.tk t)
end
mutual
theorem Td.den {K:AK}{H:Hp}:∀{v:V}{d:PyData},Td H v d->Den K H v d
 | _,_,.int i=>.int i
 | _,_,.str x=>.str x
 | _,_,.tup h r=>.tup (SqT.of h) r.den
theorem Tds.den {K:AK}{H:Hp}:∀{vs:List V}{ds:List PyData},Tds H vs ds->DenAll K H vs ds
 | _,_,.nil=>.nil
 | _,_,.cons h r=>.cons h.den r.den
end
theorem Tds.len {H:Hp}:∀{vs:List V}{ds:List PyData},Tds H vs ds->vs.length=ds.length
 | _,_,.nil=>rfl
 | _,_,.cons _ r=>by rw [AZ,AZ,r.len]
theorem Tds.app {H:Hp}:∀{vs us:List V}{ds es:List PyData},Tds H vs ds->Tds H us es->Tds H (vs++us) (ds++es)
 | _,_,_,_,.nil,h=>h
 | _,_,_,_,.cons a r,h=>.cons a (r.app h)
theorem Tds.one {H:Hp}{v:V}{d:PyData}(h:Td H v d):Tds H [v] [d]:=.cons h .nil
theorem Tds.get {H:Hp}:∀{vs:List V}{ds:List PyData}{i:Nat}{v:V},Tds H vs ds->vs[i]?=some v->∃d,ds[i]?=some d/\Td H v d
 | _,_,0,_,.cons h _,e=>by cases e; exact ⟨_,rfl,h⟩
 | _,_,i+1,_,.cons _ r,e=>r.get (i:=i) e
theorem Tds.at {H:Hp}:∀{vs:List V}{ds:List PyData}{i:Nat}{d:PyData},Tds H vs ds->ds[i]?=some d->∃v,vs[i]?=some v/\Td H v d
 | _,_,0,_,.cons h _,e=>by cases e; exact ⟨_,rfl,h⟩
 | _,_,i+1,_,.cons _ r,e=>r.at (i:=i) e
theorem Tds.take {H:Hp}:∀{vs:List V}{ds:List PyData}(n:Nat),Tds H vs ds->Tds H (vs.take n) (ds.take n)
 | _,_,0,_=>by rw [BS,BS]; exact .nil
 | _,_,n+1,.nil=>.nil
 | _,_,n+1,.cons h r=>.cons h (r.take n)
theorem Tds.drop {H:Hp}:∀{vs:List V}{ds:List PyData}(n:Nat),Tds H vs ds->Tds H (vs.drop n) (ds.drop n)
 | _,_,0,h=>h
 | _,_,n+1,.nil=>.nil
 | _,_,n+1,.cons h r=>r.drop n
theorem jt (vs:List V):bH vs none (some 1)=vs.take 1:=by
 unfold bH
 have e:HT.sIx vs.length vs.length (some 1)=min 1 vs.length:=HT.sIx_nat _ _ 1
 rw [e,HT.sIx_none,List.drop_zero,Nat.sub_zero]
 cases vs with
 | nil=>rfl
 | cons a r=>rw [DW (by rw [AZ]; omega)]
theorem uv (vs:List V):bH vs (some (-1)) none=vs.drop (vs.length-1):=by
 unfold bH
 have e:HT.sIx vs.length 0 (some (-1))=vs.length-1:=by
  show (if (-1:Int)<0 then ((-1:Int)+(vs.length:Int)).toNat else min (-1:Int).toNat vs.length)=_
  rw [if_pos (by decide)]
  omega
 rw [e,HT.sIx_none,Cr (by rw [Cq]; omega)]
theorem lD (vs:List V) (k:Nat):bH vs (some (k:Int)) none=vs.drop k:=by
 unfold bH
 rw [HT.sIx_nat,HT.sIx_none]
 by_cases h:k<=vs.length
 ·rw [DW h,Cr (by rw [Cq]; omega)]
 ·rw [ES (by omega),Dv,BS,DQ (by omega)]
theorem Tds.rev {H:Hp}:∀{vs:List V}{ds:List PyData},Tds H vs ds->Tds H vs.reverse ds.reverse
 | _,_,.nil=>.nil
 | _,_,.cons h r=>by
  rw [Bd,Bd]
  exact r.rev.app (.cons h .nil)
theorem Tds.rep {H:Hp}{vs:List V}{ds:List PyData}(h:Tds H vs ds):∀n:Nat,Tds H (Bs n vs).flatten (Bs n ds).flatten
 | 0=>.nil
 | n+1=>by
  rw [B4,B4,Ch,Ch]
  exact h.app (h.rep n)
theorem Td.tinv {H:Hp}{v:V}{ds:List PyData}(h:Td H v (.tuple ds)):∃a vs,v=.ref a/\H a=some (.tup vs)/\Tds H vs ds:=by
 cases h with
 | tup h r=>exact ⟨_,_,rfl,h,r⟩
theorem Td.sinv {H:Hp}{v:V}{x:Str}(h:Td H v (.str x)):v=.str x:=by cases h; rfl
theorem Td.iinv {H:Hp}{v:V}{x:Int}(h:Td H v (.int x)):v=.int x:=by cases h; rfl
open IT
def kd:IT.It->Str
 | .clip _ _ _=>"clip"
 | .times _ _=>"times"
 | .back _=>"back"
 | .part _ _=>"part"
 | .fade _=>"fade"
theorem fu {H:Hp}{v:V}{r:Str}{f l:Int}(h:Td H v (dI (.clip r f l))):∃a,v=.ref a/\H a=some (.tup [.str "clip",.str r,.int f,.int l]):=by
 rw [dI] at h
 obtain ⟨a,vs,rfl,h1,h2⟩:=h.tinv
 cases h2 with | cons a1 h2=>cases h2 with | cons a2 h2=>cases h2 with | cons a3 h2=>cases h2 with | cons a4 h2=>cases h2; rw [a1.sinv,a2.sinv,a3.iinv,a4.iinv] at h1; exact ⟨_,rfl,h1⟩
theorem dQ {H:Hp}{v:V}{m:Int}{xs:List IT.It}(h:Td H v (dI (.times m xs))):∃a b,v=.ref a/\H a=some (.tup [.str "times",.int m,.ref b])/\Td H (.ref b) (.tuple (dL xs)):=by
 rw [dI] at h
 obtain ⟨a,vs,rfl,h1,h2⟩:=h.tinv
 cases h2 with | cons a1 h2=>cases h2 with | cons a2 h2=>cases h2 with | cons a3 h2=>cases h2; rw [a1.sinv,a2.iinv] at h1; obtain ⟨b,us,rfl,h3,h4⟩:=a3.tinv; exact ⟨_,b,rfl,h1,.tup h3 h4⟩
theorem fy {H:Hp}{v:V}{xs:List IT.It}(h:Td H v (dI (.back xs))):∃a b,v=.ref a/\H a=some (.tup [.str "back",.ref b])/\Td H (.ref b) (.tuple (dL xs)):=by
 rw [dI] at h
 obtain ⟨a,vs,rfl,h1,h2⟩:=h.tinv
 cases h2 with | cons a1 h2=>cases h2 with | cons a3 h2=>cases h2; rw [a1.sinv] at h1; obtain ⟨b,us,rfl,h3,h4⟩:=a3.tinv; exact ⟨_,b,rfl,h1,.tup h3 h4⟩
theorem fj {H:Hp}{v:V}{n:Str}{xs:List IT.It}(h:Td H v (dI (.part n xs))):∃a,v=.ref a/\H a=some (.tup [.str "part",.str n]):=by
 rw [dI] at h
 obtain ⟨a,vs,rfl,h1,h2⟩:=h.tinv
 cases h2 with | cons a1 h2=>cases h2 with | cons a2 h2=>cases h2; rw [a1.sinv,a2.sinv] at h1; exact ⟨_,rfl,h1⟩
theorem fm {H:Hp}{v:V}{m:Int}(h:Td H v (dI (.fade m))):∃a,v=.ref a/\H a=some (.tup [.str "fade",.int m]):=by
 rw [dI] at h
 obtain ⟨a,vs,rfl,h1,h2⟩:=h.tinv
 cases h2 with | cons a1 h2=>cases h2 with | cons a2 h2=>cases h2; rw [a1.sinv,a2.iinv] at h1; exact ⟨_,rfl,h1⟩
theorem qK {H:Hp}{v:V}{x:IT.It}(h:Td H v (dI x)):∃a vs,v=.ref a/\H a=some (.tup (.str (kd x) :: vs)):=by
 cases x with
 | clip r f l=>obtain ⟨a,rfl,e⟩:=fu h; exact ⟨a,_,rfl,e⟩
 | times m xs=>obtain ⟨a,b,rfl,e,_⟩:=dQ h; exact ⟨a,_,rfl,e⟩
 | back xs=>obtain ⟨a,b,rfl,e,_⟩:=fy h; exact ⟨a,_,rfl,e⟩
 | part n xs=>obtain ⟨a,rfl,e⟩:=fj h; exact ⟨a,_,rfl,e⟩
 | fade m=>obtain ⟨a,rfl,e⟩:=fm h; exact ⟨a,_,rfl,e⟩
theorem nY {H:Hp}{a:Addr}{r:Str}{f l:Int}(h:H a=some (.tup [.str "clip",.str r,.int f,.int l])):Td H (.ref a) (dI (.clip r f l)):=by
 rw [dI]; exact .tup h (.cons (.str _) (.cons (.str _) (.cons (.int _) (.cons (.int _) .nil))))
theorem ie {H:Hp}{a b:Addr}{m:Int}{xs:List IT.It}(h:H a=some (.tup [.str "times",.int m,.ref b])) (hb:Td H (.ref b) (.tuple (dL xs))):Td H (.ref a) (dI (.times m xs)):=by
 rw [dI]; exact .tup h (.cons (.str _) (.cons (.int _) (.cons hb .nil)))
theorem nZ {H:Hp}{a b:Addr}{xs:List IT.It}(h:H a=some (.tup [.str "back",.ref b])) (hb:Td H (.ref b) (.tuple (dL xs))):Td H (.ref a) (dI (.back xs)):=by
 rw [dI]; exact .tup h (.cons (.str _) (.cons hb .nil))
theorem vU {H:Hp}{a:Addr}{n:Str}{xs:List IT.It}(h:H a=some (.tup [.str "part",.str n])):Td H (.ref a) (dI (.part n xs)):=by
 rw [dI]; exact .tup h (.cons (.str _) (.cons (.str _) .nil))
theorem vV {H:Hp}{a:Addr}{m:Int}(h:H a=some (.tup [.str "fade",.int m])):Td H (.ref a) (dI (.fade m)):=by
 rw [dI]; exact .tup h (.cons (.str _) (.cons (.int _) .nil))
theorem sne {x y:Str}(h:(x == y)=false:=by decide +kernel):decide (V.str x=V.str y)=false:=decide_eq_false fun e=>by
 cases e
 rw [beq_self_eq_true] at h
 cases h
theorem seq (x:Str):decide (V.str x=V.str x)=true:=decide_eq_true rfl
theorem iteN {c:Bool}{A B:Prop}(h:c=false) (b:B):if c=true then A else B:=by rw [h]; exact gD b
theorem iteY {c:Bool}{A B:Prop}(h:c=true) (a:A):if c=true then A else B:=by rw [h]; exact k_ a
theorem oq:∀x:IT.It,decide (V.str (kd x)=V.str "fade")=isF x
 | .clip _ _ _=>(sne:decide (V.str "clip"=V.str "fade")=false)
 | .times _ _=>(sne:decide (V.str "times"=V.str "fade")=false)
 | .back _=>(sne:decide (V.str "back"=V.str "fade")=false)
 | .part _ _=>(sne:decide (V.str "part"=V.str "fade")=false)
 | .fade _=>(seq _:decide (V.str "fade"=V.str "fade")=true)
theorem y9 (xs:List IT.It):(dL xs).reverse=dL xs.reverse:=by rw [aU,aU,DJ]
theorem iG {xs:List IT.It}{i:Nat}{d:PyData}(h:(dL xs)[i]?=some d):∃x,xs[i]?=some x/\d=dI x:=by
 rw [aU,AR] at h
 cases e:xs[i]? with
 | none=>rw [e] at h; cases h
 | some x=>rw [e] at h; exact ⟨x,rfl,(Ba h).symm⟩
def IL (H:Hp) (l:Addr) (xs:List IT.It):Prop:=∃vs,H l=some (.lst vs)/\Tds H vs (dL xs)
def dC (c:Cl):PyData:=.tuple [.str c.r,.int c.f,.int c.l,.int c.d]
theorem gU {H:Hp}{v:V}{c:Cl}(h:Td H v (dC c)):∃a,v=.ref a/\H a=some (.tup [.str c.r,.int c.f,.int c.l,.int c.d]):=by
 obtain ⟨a,vs,rfl,h1,h2⟩:=Td.tinv h
 cases h2 with | cons a1 h2=>cases h2 with | cons a2 h2=>cases h2 with | cons a3 h2=>cases h2 with | cons a4 h2=>cases h2; rw [a1.sinv,a2.iinv,a3.iinv,a4.iinv] at h1; exact ⟨_,rfl,h1⟩
theorem kY {H:Hp}{a:Addr}{c:Cl}(h:H a=some (.tup [.str c.r,.int c.f,.int c.l,.int c.d])):Td H (.ref a) (dC c):=.tup h (.cons (.str _) (.cons (.int _) (.cons (.int _) (.cons (.int _) .nil))))
def CL (H:Hp) (l:Addr) (cs:List Cl):Prop:=∃vs,H l=some (.lst vs)/\Tds H vs (cs.map dC)
end DT
namespace L2
open PySem PySem.Spec PyProof.Rows PySem.Builtin PySem.Builtin.Str
section
variable {X:Cx}
theorem zk {a:Expr}{ta:TE}(ha:QE X a ta) (he:∀whole,isTrue a X.env whole=(do let v <- whole; standAt a.pos; Ff [v] (truthy v)):=by intro _; rfl):QT X a (fun σ H Q=>ta σ H fun x H'=>∃k,zc X.K x H' k/\Q k H'):=⟨rJ ha.h he⟩
end
end L2
namespace ET
open PySem PySem.Spec PyProof.Rows
section
variable {prog:Program}{w:Bj}{A:Bk}{E:Value->AL->Prop}{s:AL}
theorem pZ {J T:Addr}{k:Nat}{us:Array Value}{v:Value}{Q:Value->AL->Prop}(hJ:s.heap.IsTupleIter J T k) (hT:s.heap.IsTuple T us) (hv:us[k]?=some v)
  (q:∀h',h'.IsTupleIter J T (k+1)->By J s.heap h'->Q v { s with heap:=h' }):A6 (Bf prog w) A (Do (.ref J)) Q E s:=by
 obtain ⟨oJ,gJ,cJ,dJ⟩:=id hJ
 obtain ⟨oT,gT,_,m,dT⟩:=hT
 unfold Do
 refine AI (Ci (name:=Dt "__next__") hJ.typeIs Dm (CQ Dm hJ.typeIs F.entry_tuple_iterator_next ?_ (F.args_tuple_iterator_next_1 _)))
 show A6 _ _ (field (.ref J) 0 >>= _) _ _ s
 refine AI (B0 gJ dJ (x:=.ref T) rfl ?_)
 show A6 _ _ (if (Bc T == BY)=true then _ else _) _ _ s
 rw [if_neg (show ¬ ((Bc T == BY)=true) from Bq)]
 show A6 _ _ (field (.ref J) 1 >>= _) _ _ s
 refine AI (B0 gJ dJ (x:=.int k 0) rfl ?_)
 show A6 _ _ (seqItems? (.ref T) >>= _) _ _ s
 refine AI (wpAny_seqItems gT dT ?_)
 simp only [EC,hv]
 refine AI (Dk gJ dJ (by simp) (AV ⟨v,rfl,AV (q _ ?_ (By.update ..))⟩))
 exact ⟨_,Cz _ gJ (C4 (CK dJ _)),(Obj.cls_mapFields ..).trans cJ,by rw [CK dJ]; simp [Cp]⟩
theorem sU {J T:Addr}{k:Nat}{us:Array Value}{Q:Value->AL->Prop}(hA:A.handled=none) (hJ:s.heap.IsTupleIter J T k) (hT:s.heap.IsTuple T us) (hv:us[k]?=none)
  (q:∀h' e,E5 J s.heap h'->(∃o,h'.get? e=some o/\o.cls=.type "StopIteration")->E (.ref e) { s with heap:=h' }):A6 (Bf prog w) A (Do (.ref J)) Q E s:=by
 obtain ⟨oJ,gJ,cJ,dJ⟩:=id hJ
 obtain ⟨oT,gT,_,m,dT⟩:=hT
 unfold Do
 refine AI (Ci (name:=Dt "__next__") hJ.typeIs Dm (CQ Dm hJ.typeIs F.entry_tuple_iterator_next ?_ (F.args_tuple_iterator_next_1 _)))
 show A6 _ _ (field (.ref J) 0 >>= _) _ _ s
 refine AI (B0 gJ dJ (x:=.ref T) rfl ?_)
 show A6 _ _ (if (Bc T == BY)=true then _ else _) _ _ s
 rw [if_neg (show ¬ ((Bc T == BY)=true) from Bq)]
 show A6 _ _ (field (.ref J) 1 >>= _) _ _ s
 refine AI (B0 gJ dJ (x:=.int k 0) rfl ?_)
 show A6 _ _ (seqItems? (.ref T) >>= _) _ _ s
 refine AI (wpAny_seqItems gT dT ?_)
 simp only [EC,hv]
 refine AI (wpAny_rule (AI (Dk gJ dJ (by simp) ?_)))
 show A6 _ _ (newExc (.type "StopIteration") [] >>= _) _ _ _
 refine AI ?_
 simp only [newExc,newTuple]
 refine AI (BE ?_ (by size_fits))
 refine AI (m:=Fk _ _) (DN (a:=BY) (by first | rfl | (simp only [Fk]; rfl)) ?_)
 refine BE ?_ (by size_fits)
 simp only [raiseNew]
 refine AI (wpAny_handled ?_)
 rw [hA]
 refine AI (AV (wpAny_throw ?_))
 exact q _ _ (((By.update ..).extBut.push _).push _) ⟨_,A5 _ rfl,rfl⟩
end
theorem draws {prog:Program}{w:Bj}{A:Bk}(hA:A.handled=none) (J T:Addr) (ne:T≠J) (us:Array Value) :
  Draws prog w A J [J,T] us.size (fun i v=>us[i]?=some v) (fun i h=>h.IsTupleIter J T i/\h.IsTuple T us) where
 live:=fun _ _ st=>let ⟨o,ho,_⟩:=st.1; ⟨o,ho⟩
 frame:=fun _ _ _ st k=>⟨st.1.at fun o e=>k J (by simp) o e,let ⟨o,ho,r⟩:=st.2; ⟨o,k T (by simp) o ho,r⟩⟩
 item:=fun i s Q E hi st q=>pZ st.1 st.2 (v:=us[i]) (by simp [hi]) fun h' a b=>q _ h' s.toks (by simp [hi]) ⟨a,st.2.extBut b.extBut ne⟩ b
 done:=fun s Q E st q=>sU hA st.1 st.2 (by simp) q
open AutoSeq1 (wpAny_loadPart')
theorem p_ (T:Addr) (us:Array Value) (n:Nat) (dc:Option Addr) (sl:Array (Option Value)) :
  Meets (Builtin.«enumerate.__new__» ⟨[.type "enumerate",.ref T],[]⟩) (fun _ R s=>s.heap.get? T=some { cls:=.type "tuple",dict:=dc,data:=.seq us n,slots:=sl } /\
   R (.ok (.ret (.ref (s.heap.push { cls:=.type "tuple_iterator",data:=.fields #[.ref T,.int 0 0] }).objs.size)))
    { s with heap:=(s.heap.push { cls:=.type "tuple_iterator",data:=.fields #[.ref T,.int 0 0] }).push { cls:=.type "enumerate",data:=.fields #[.none,.bool false,.ref s.heap.objs.size,Cp 0,.none,.none] } }) :=
 .of_wp fun prog w A R s h=>by
  obtain ⟨hp,g,d,tk,os⟩:=s
  obtain ⟨hl,h⟩:=h
  have hsub:=sub_enumerate
  have hT:Heap.IsTuple (AL.heap ⟨hp,g,d,tk,os⟩) T us:=⟨_,hl,rfl,n,rfl⟩
  wp_walk using wpAny_loadPart' hl
  refine wpAny_stack_any fun st=>AV ?_
  split
  ·rename_i c _ _ _ _ _
   cases (c == ER "enumerate")
   ·wp_walk using wpAny_loadPart' hl,El hT
    exact ⟨_,rfl,h⟩
   ·wp_walk using wpAny_loadPart' hl,El hT
    exact ⟨_,rfl,h⟩
  ·wp_walk using wpAny_loadPart' hl,El hT
   exact ⟨_,rfl,h⟩
theorem call_new {prog:Program}{w:Bj}{A:Bk}{E:Value->AL->Prop}{s:AL}{T:Addr}{us:Array Value}{Q:Value->AL->Prop}(hT:s.heap.IsTuple T us)
  (h:∀h',IsEnum h' (s.heap.objs.size+1) s.heap.objs.size 0 .none->h'.IsTupleIter s.heap.objs.size T 0->(∀b o,s.heap.get? b=some o->h'.get? b=some o)->Q (.ref (s.heap.objs.size+1)) { s with heap:=h' }) :
  A6 (Bf prog w) A (call (.type "enumerate") [.ref T]) Q E s:=by
 obtain ⟨⟨c,dc,dt,sl⟩,g,c1,n,d1⟩:=hT
 replace c1:c=.type "tuple":=c1
 replace d1:dt=.seq us n:=d1
 subst c1 d1
 refine callType_new F.called_enumerate (by decide) (F.typeCall_enumerate_1 _) (F.newCall_enumerate_1 _) (fun obj=>F.args_object_init_2 obj _) F.entry_enumerate_new (p_ T us n dc sl) ⟨g,?_⟩
 have hz:(s.heap.push { cls:=.type "tuple_iterator",data:=.fields #[.ref T,.int 0 0] }).objs.size=s.heap.objs.size+1:=D7 ..
 show _/\_
 rw [hz]
 have he:IsEnum ((s.heap.push { cls:=.type "tuple_iterator",data:=.fields #[.ref T,.int 0 0] }).push { cls:=.type "enumerate",data:=.fields #[.none,.bool false,.ref s.heap.objs.size,Cp 0,.none,.none] }) (s.heap.objs.size+1) s.heap.objs.size 0 .none:=by
  have z:=A5 (s.heap.push { cls:=.type "tuple_iterator",data:=.fields #[.ref T,.int 0 0] }) (o:={ cls:=.type "enumerate",data:=.fields #[.none,.bool false,.ref s.heap.objs.size,Cp 0,.none,.none] }) rfl
  rw [hz] at z
  exact z
 exact ⟨⟨_,he,rfl⟩,h _ he ⟨_,AJ _ (A5 _ rfl),rfl,rfl⟩ fun b o x=>AJ _ (AJ _ x)⟩
end ET
namespace L2
open PySem PySem.Spec PyProof.Rows
def uJ (K:AK) (a:Addr):It :=
 ⟨fun i H=>∃xs x,SqT K H a xs/\xs[i]?=some x,fun i H x H'=>∃p v,x=.ref p/\H p=none/\H'=upd H p (.tup [.int (i:Int),v])/\∀xs,SqT K H a xs->xs[i]?=some v,fun i H=>∃xs,SqT K H a xs/\xs.length=i⟩
theorem lM {P:Program}{w:Bj}{K:AK}{elts:List Expr}{x1} {pos:Pos}(a e it:Addr) (hne:e≠it) :
  kn P w K (.Tuple elts x1 pos) (uJ K a) [e,it] e (fun i h=>∃old,IsEnum h e it (i:Int) old/\h.IsTupleIter it a i) where
 mem:=by simp
 obj:=fun i h st b hb=>by
  obtain ⟨old,he,o,e1,c,d⟩:=st
  have hb':b=e\/b=it:=by simpa using hb
  rcases hb' with rfl | rfl
  ·exact ⟨_,he,fun v z=>by
    have z':Data.fields _=Data.cell v:=z
    cases z'⟩
  ·exact ⟨o,e1,fun v z=>by rw [d] at z; cases z⟩
 keep:=fun i h h' st k=>by
  obtain ⟨old,he,hi⟩:=st
  exact ⟨old,k e (by simp) _ he,hi.at fun o q=>k it (by simp) o q⟩
 item:=by
  intro X hP hw hK hc i pins s σ H E I hf st hg
  subst hP hw hK
  obtain ⟨xs,x,hq,hx⟩:=hg
  obtain ⟨old,he,hit⟩:=st
  obtain ⟨its,rv,p,hz⟩:=I.tuple hq
  have p':s.heap.IsTuple a its.toArray:=p
  obtain ⟨u,hu,ru⟩:=rv.get hx
  have hu':its.toArray[i]?=some u:=by simpa using hu
  have nea:e≠a:=fun z=>by
   obtain ⟨o,e1,c1,_⟩:=p'
   rw [<- z,he] at e1
   cases e1
   exact absurd (ER.inj c1) (by decide)
  have nia:a≠it:=fun z=>by
   obtain ⟨o,e1,c1,_⟩:=p'
   obtain ⟨o2,e2,c2,_⟩:=hit
   rw [z,e2] at e1
   cases e1
   rw [c1] at c2
   exact absurd (ER.inj c2) (by decide)
  refine wpAny_pyNext_enum_itemD (ET.draws (show X.A.in1.handled=none from I.ok.hd hc) it a nia its.toArray) he ⟨hit,p'⟩ (Cj.mp hu').1 hne (by simp [hne,nea]) fun x' h1 tk hP eo st1 ht hz1 hk1=>?_
  obtain rfl:u=x':=by
   have z:=hu'.symm.trans hP
   cases z
   rfl
  refine ⟨_,rfl,wpAny_letOwnedTupleGo_enum (s:={ s with heap:=h1,toks:=tk+1 }) eo fun h2 he2 hs2=>?_⟩
  have hs2':By e h1 h2:=hs2
  have nH:H s.heap.objs.size=none:=I.hok.fresh (AM _)
  have eL:e<s.heap.objs.size:=A3 he
  obtain ⟨oi,hoi,ci,di⟩:=id hit
  have iL:it<s.heap.objs.size:=A3 hoi
  have ht2:h2.get? s.heap.objs.size=some { cls:=.type "tuple",data:=.seq #[.int i tk,u] }:=(hs2'.2 _ (EA eL)).trans ht
  have pg:(s.heap.push { cls:=.type "tuple",data:=.seq #[.int i tk,u] }).get? s.heap.objs.size=some { cls:=.type "tuple",data:=.seq #[.int i tk,u] }:=A5 _ rfl
  have J1:=I.laid (a:=s.heap.objs.size) (o:=.tup [.int (i:Int),x]) (h':=s.heap.push { cls:=.type "tuple",data:=.seq #[.int i tk,u] }) (t':=s.toks) (fun b v z=>AJ _ z) (AM _)
   ⟨(by show 2<=sizeLine; decide),[.int i tk,u],.cons ⟨_,rfl⟩ (.cons ru .nil),⟨_,pg,rfl,_,rfl⟩⟩
  have fp':∀b∈[e,it],cH X pins (upd H s.heap.objs.size (.tup [.int (i:Int),x])) b:=fun b hb=>by
   obtain ⟨f0,f1,f2,f3,f4,f5⟩:=hf b hb
   have hb':b=e\/b=it:=by simpa using hb
   refine ⟨?_,f1,f2,f3,f4,f5⟩
   rw [aj (by rcases hb' with rfl | rfl; exact Bl eL; exact Bl iL)]
   exact f0
  have J2:=J1.turnedL (h':=h2) (t':=tk+1) (ch:=[e,it]) (fun b o hb z=>by
   have n1:b≠e:=fun y=>hb (by simp [y])
   have n2:b≠it:=fun y=>hb (by simp [y])
   by_cases hp:b=s.heap.objs.size
   ·subst hp
    have z':s.heap.objs.size=s.heap.objs.size->(s.heap.push { cls:=.type "tuple",data:=.seq #[.int i tk,u] }).get? s.heap.objs.size=some o:=fun _=>z
    rw [pg] at z'
    have:=z' rfl
    cases this
    exact ht2
   ·have z2:s.heap.get? b=some o:=cL z hp
    exact (hs2'.2 b n1).trans (hk1 b o n1 n2 z2)) fp'
  refine ⟨.ref s.heap.objs.size,_,J2,rfl,⟨_,x,rfl,nH,rfl,fun ys hy=>by rw [I.tuple_inj hy hq]; exact hx⟩,⟨u,?_,?_⟩,fun b hb=>(fp' b hb).1⟩
  ·have e1:((i:Int)+1)=((i+1:Nat):Int):=by omega
   rw [<- e1]
   exact he2
  ·exact st1.1.at fun o q=>(hs2'.2 it (Cg hne)).trans q
 done:=by
  intro X hP hw hK hc i pins s σ H E I hf st hg
  subst hP hw hK
  obtain ⟨xs,hq,hx⟩:=hg
  obtain ⟨old,he,hit⟩:=st
  obtain ⟨its,rv,p,hz⟩:=I.tuple hq
  have p':s.heap.IsTuple a its.toArray:=p
  have hl:=rv.length
  have nia:a≠it:=fun z=>by
   obtain ⟨o,e1,c1,_⟩:=p'
   obtain ⟨o2,e2,c2,_⟩:=hit
   rw [z,e2] at e1
   cases e1
   rw [c1] at c2
   exact absurd (ER.inj c2) (by decide)
  obtain rfl:i=its.toArray.size:=by simp; omega
  refine wpAny_pyNext_enum_endD (ET.draws (show X.A.in1.handled=none from I.ok.hd hc) it a nia its.toArray) he ⟨hit,p'⟩ fun h' eb=>⟨rfl,I.turnedL (t':=s.toks) (ch:=[e,it]) (fun b o hb z=>eb b o (fun y=>hb (by simp [y])) z) hf⟩
 self:=fun _ _ _ _ _ st h=>by
  obtain ⟨old,he,_⟩:=st
  exact EG he h
def tR (K:AK) (ta:TA):TI:=fun σ H R=>ta σ H fun vs H1=>∃a,vs=[.ref a]/\(∃xs,SqT K H1 a xs)/\R (uJ K a) H1
section
variable {X:Cx}
theorem rP {elts:List Expr}{x1} {tpos p pos:Pos}{a:Expr}{ta:TA}(hg:Gl X "enumerate") (hm:X.mg "enumerate"=none) (hbt:B2 "enumerate"=some (.type "enumerate")) (ha:PA X [a] ta) (hs:Bz [a] X.env=[(false,eval a X.env)]:=by rfl) :
  PI X (.Tuple elts x1 tpos) (.Call (.Name "enumerate" p) [a] [] pos) (tR X.K ta):=by
 intro pins s σ H R I h
 refine Call_ (bG I hg hm hbt (BC (thn (ha pos pins s σ H _ I h) fun us s1 ⟨vs,H1,I1,r1,q1⟩=>?_) hs rfl))
 obtain ⟨a,rfl,⟨xs,hq⟩,q⟩:=q1
 obtain ⟨u,rfl,ru⟩:=cT r1
 cases ru
 obtain ⟨its,rv,pl,hz⟩:=I1.tuple hq
 refine ET.call_new (show s1.heap.IsTuple a its.toArray from pl) fun h' he hi hk=>?_
 refine EG he ?_
 have I2:Inv X pins σ H1 { s1 with heap:=h' }:=I1.kept (t':=s1.toks) hk
 refine ⟨s1.heap.objs.size+1,[s1.heap.objs.size+1,s1.heap.objs.size],_,_,H1,rfl,I2,lM a _ _ (Nat.succ_ne_self _),⟨_,he,hi⟩,fun b hb=>?_,q⟩
 have hb':b=s1.heap.objs.size+1\/b=s1.heap.objs.size:=by simpa using hb
 rcases hb' with rfl | rfl
 ·exact I1.fpOk (DM _) (I1.hok.fresh (DM _))
 ·exact I1.fpOk (AM _) (I1.hok.fresh (AM _))
theorem qj {K:AK}{a:Addr}{xs:List V}{g:TG}{tb:TS}{D:Ends}{σ:St}{H:Hp}(Pv:Nat->St->Hp->Prop) (h0:Pv 0 σ H) (hl:∀i σ H,i<=xs.length->Pv i σ H->SqT K H a xs)
  (hs:∀i x σ H p,xs[i]?=some x->Pv i σ H->H p=none->g (.ref p) σ (upd H p (.tup [.int (i:Int),x])) fun σ2 H2=>tb { D with nx:=Pv (i+1),ct:=Pv (i+1),bk:=D.nx } σ2 H2) (hd:∀ σ H,Pv xs.length σ H->D.nx σ H) :
  ∃W:Nat->Nat->St->Hp->Prop,(∃m,W 0 m σ H)/\∀i m σ H,W i m σ H ->
   ((uJ K a).stop i H/\D.nx σ H)\/((uJ K a).go i H/\∃N:St->Hp->Prop,(∀ σ' H',N σ' H'->∃m',m'<m/\W (i+1) m' σ' H')/\∀x H',(uJ K a).yld i H x H'->g x σ H' fun σ2 H2=>tb { D with nx:=N,ct:=N,bk:=D.nx } σ2 H2):=by
 refine ⟨fun i m σ H=>m=xs.length-i/\i<=xs.length/\Pv i σ H,⟨xs.length,by simp,Bo _,h0⟩,?_⟩
 rintro i m σ H ⟨rfl,hi,p⟩
 have q:=hl i σ H hi p
 by_cases hlt:i<xs.length
 ·refine .inr ⟨⟨xs,xs[i],q,by simp [hlt]⟩,Pv (i+1),fun σ' H' p'=>⟨xs.length-(i+1),by omega,rfl,hlt,p'⟩,fun x H' y=>?_⟩
  obtain ⟨pp,v,rfl,hn,rfl,y⟩:=y
  exact hs i v σ H pp (y xs q) p hn
 ·have e:i=xs.length:=by omega
  subst e
  exact .inl ⟨⟨xs,q,rfl⟩,hd σ H p⟩
end
section
variable {X:Cx}
theorem wc {elts:List Expr}{x1} {tpos p pos:Pos}{a:Expr}{t:TE}(hm:X.mg "enumerate"=none) (ha:QE X a t) (hg:X.env.kindOf "enumerate"=some .globalImplicit:=by kernel_rfl) (hs:aw a=true:=by rfl):QI X (.Tuple elts x1 tpos) (.Call (.Name "enumerate" p) [a] [] pos) (tR X.K (bZ t gB)) :=
 ⟨rP hg hm (by decide +kernel) (pa' ha.h cz hs) ((ar hs).trans rfl)⟩
theorem oH {o e f:Expr}{td ty tx:TE}{apos cpos:Pos}(hu:X.A.units+1<cLine) (ho:QE X o td) (he:QE X e ty) (hf:QE X f tx) (h1:aw e=true:=by rfl) (h2:aw f=true:=by rfl) (hbase:DB o "get" X.env (eval o X.env)=eval o X.env:=by rfl) (hline:(apos.endLine == cpos.line)=true:=by rfl) :
  QE X (.Call (.Attribute o "get" apos) [e,f] [] cpos) (qR td ty tx) :=
 ⟨rZ hu ho.h he.h hf.h ⟨hbase,by rw [ar h1,ar h2]; rfl,hline,by rw [ar h1,ar h2]; rfl⟩⟩
end
end L2
namespace K56
open PySem L2 G
def top (i:Nat):Stmt:=PySem.Challenge.pw_leadersplice_k56_whole_the_other_way.main.body.getD i (.Pass ⟨0,0,0,0⟩)
abbrev bE:Stmt:=j7 (top 2) 0
abbrev bO:Stmt:=j7 (top 3) 0
abbrev bA:Stmt:=j7 (top 6) 0
abbrev eV:Stmt:=top 8
abbrev dj:Stmt:=top 12
abbrev dU:Stmt:=top 13
abbrev jJ:Stmt:=top 15
abbrev cj:Stmt:=top 16
abbrev cu:Stmt:=top 17
abbrev cq:Stmt:=top 18
abbrev fZ:Stmt:=top 19
abbrev cm:Stmt:=top 20
abbrev g9:Stmt:=top 21
abbrev cO:Stmt:=top 22
abbrev eU:Stmt:=top 23
abbrev bW:Stmt:=top 24
abbrev eW:Stmt:=top 25
abbrev g_:Stmt:=top 29
abbrev eZ:Stmt:=top 30
abbrev bX:Stmt:=top 31
abbrev eY:Stmt:=top 32
abbrev dX:Stmt:=top 33
abbrev dW:Stmt:=top 34
abbrev cQ:Stmt:=top 35
abbrev cP:Stmt:=top 36
abbrev cg:Stmt:=top 37
abbrev jN:Stmt:=top 39
abbrev eX:Stmt:=top 40
abbrev dl:Stmt:=top 41
abbrev dr:Stmt:=top 42
abbrev fY:Stmt:=top 43
abbrev jM:Stmt:=top 44
abbrev g8:Stmt:=top 46
abbrev dq:Stmt:=top 47
abbrev jK:Stmt:=top 48
abbrev dS:Stmt:=top 49
abbrev jP:Stmt:=top 50
abbrev dR:Stmt:=top 52
abbrev dh:Stmt:=top 53
abbrev e8:Stmt:=top 54
abbrev jO:Stmt:=top 55
abbrev dZ:Stmt:=top 57
abbrev cv:Stmt:=top 58
abbrev du:Stmt:=top 59
abbrev dY:Stmt:=top 60
abbrev bY:Stmt:=top 61
abbrev rp:Stmt:=top 62
theorem nM {H H1:Hp}{a dx:Addr}{o x o':HO}(s1:Same H H1) (ha:H1 a=none) (hdx:upd H1 a o dx=none) (hne:dx≠a):Same H (del (upd (upd (upd H1 a o) dx x) a o') a)/\del (upd (upd (upd H1 a o) dx x) a o') a dx=some x:=by
 refine ⟨Same.del ?_ (s1.free ha),by rw [dE hne,aj hne]; exact ac⟩
 intro b o hb
 have hb1:=s1 _ _ hb
 rw [aj (am hb1 ha),aj,aj (am hb1 ha)]
 ·exact hb1
 ·intro z
  subst z
  rw [aj hne,hb1] at hdx
  cases hdx
section
variable {P:Program}{w:Bj}{K:AK}{mg:Str->Option Value}{base:Heap}
def cG (ns:List Int) (k:Nat):Int:=ns.getD k 0
def q_ (K:AK):Sp:=fun vs H Q _=>∃(a:Addr) (ns:List Int) (k:Nat),vs=[.ref a,.int (k:Int)]/\SqL K H a (ns.map V.int)/\∀H',Same H H'->Q (.int (cG ns k)) H'
theorem oQ (ns:List Int) (k:Nat):bH (ns.map V.int) (some (k:Int)) (some ((k:Int)+1))=((ns.drop k).take 1).map V.int:=by
 unfold bH
 have e:((k:Int)+1)=((k+1:Nat):Int):=by omega
 rw [e,HT.sIx_nat,HT.sIx_nat,AH]
 by_cases h:k<ns.length
 ·rw [DW (by omega),DW (by omega),show k+1-k=1 by omega,<- E1,<- E2]
 ·rw [ES (by omega),ES (by omega),Dv,BS,DQ (by omega)]
  rfl
theorem qi (ns:List Int) (k:Nat):((((ns.drop k).take 1).map V.int)++[V.int 0])[0]?=some (V.int (cG ns k)):=by
 by_cases h:k<ns.length
 ·have e:cG ns k=ns[k]:=by
   unfold cG
   rw [AT,AN h]
   rfl
  rw [e,List.drop_eq_getElem_cons h]
  rfl
 ·have e:cG ns k=0:=by
   unfold cG
   rw [AT,BL (by omega)]
   rfl
  rw [e,DQ (by omega)]
  rfl
theorem xP:aq ["_law_script", "_law_k"] ["_law_script", "_law_k"] (ak dZ):=⟨rfl,rfl,rfl,by decide +kernel,rfl,by decide +kernel,by decide +kernel⟩
theorem vO {f:Addr}{fd:Bg}(F:Fun K "_law_cell" "_law_cell" dZ f fd):aJ P w K mg base CX0 1 f fd ["_law_script", "_law_k"] (q_ K):=by
 refine F.ok xP (fun vs H Q E h=>?_) (fun cdv A outer s H vs Q E hr h=>?_)
 ·obtain ⟨a,ns,k,rfl,_⟩:=h
  rfl
 obtain ⟨a,ns,k,rfl,hS,q⟩:=h
 refine dN (ah (aB (au aE (aD l4 (ge de (e_v 0) (bj (e_v 1)) (bj (aD aV (e_v 1) ae))) (aW (aa ae af))) ae))) ?_
 refine ⟨_,rfl,_,rfl,_,rfl,_,rfl,_,_,rfl,rfl,_,rfl,a,_,rfl,hS,fun p hp=>⟨(by show 1<=sizeLine; decide),fun r hr'=>?_⟩⟩
 have hpr:p≠r:=by intro z; subst z; rw [ac] at hr'; cases hr'
 refine ⟨p,r,_,_,rfl,rfl,(by rw [aj hpr]; exact ac),ac,?_,fun t ht=>?_⟩
 ·rw [oQ,AH,BA]
  show min 1 _+1<=sizeLine
  have zl:sizeLine=16777216:=A9
  omega
 ·refine ⟨t,_,0,_,rfl,rfl,SqL.of ac,ad (j:=0) (by rw [oQ]; exact qi ns k),?_⟩
  exact q _ (((Same.new hp _).trans (Same.new hr' _)).trans (Same.new ht _))
def w6:Sp:=fun vs H Q _=>∃(c:Int) (n:Nat),vs=[.int c,.int (n:Int)]/\n<=1000/\∀(l:Addr) (ns:List Int) (H':Hp),Same H H'->ns.length=n->H l=none->H' l=some (.lst (ns.map V.int))->Q (.ref l) H'
theorem scNum:aq ["_law_cell_here", "_law_many", "_law_found", "_law_number", "_law_digits", "_law_k"] ["_law_cell_here", "_law_many"] (ak cv):=⟨rfl,rfl,rfl,by decide +kernel,rfl,by decide +kernel,by decide +kernel⟩
theorem yx {f:Addr}{fd:Bg}(F:Fun K "_law_numbers" "_law_numbers" cv f fd) (n_abs:mg "abs"=none) (n_range:mg "range"=none) (n_int:mg "int"=none):aJ P w K mg base CX0 1 f fd ["_law_cell_here", "_law_many"] w6:=by
 refine F.ok scNum (fun vs H Q E h=>?_) (fun cdv A outer s H vs Q E hr h=>?_)
 ·obtain ⟨c,n,rfl,_⟩:=h
  rfl
 obtain ⟨c,n,rfl,hn,q⟩:=h
 refine wO (ag (ax (i:=2) scNum.nd (aW af))
  (ag (ax (i:=3) scNum.nd (aD bu (aD f6 (aD aV (aD bu (e_v 0) ae) ae) ae) ae))
  (ag (ax (i:=4) scNum.nd ae)
  (ag (fC (bb (t_w (qE (aK gk (e_v 0) ae) (kt (aK zT (e_v 0) (aD yr ae ae)))))
   (ah (ax (i:=4) scNum.nd (e_b d7 n_abs (by decide +kernel) (aa (e_v 0) af))))
   aI))
  (ag (bv BM rfl (tQ n_range (e_v 1)) (aC (i:=5) scNum.nd)
   (ag (ax (i:=3) scNum.nd (aD bu (aD aV (aD aV (aD f6 (e_v 3) (aD aV (aD bu (e_v 3) ae) ae)) (aD f6 ae (e_v 5))) ae) ae))
   (ag (aO (bn (e_v 2) (au aE (aW (aa (e_v 3) (aa (aD bu (e_v 4) ae) af))) (e_t qu n_int PyProof.Rows.boot_int (aa (oI i_ (e_v 4) ae) af)))))
   (ah (ax (i:=4) scNum.nd (aD jW (e_v 4) ae))))))
  (ah (aB (e_v 2)))))))) ?_
 intros
 have zl:sizeLine=16777216:=A9
 refine ⟨(by show 0<=sizeLine; decide),fun p hp=>?_⟩
 refine ⟨_,rfl,_,_,rfl,rfl,(by show (0:Int)<1999999973; decide),_,_,rfl,rfl,_,_,rfl,rfl,.inr ⟨by decide,by decide⟩,_,_,rfl,rfl,(by show (0:Int)<1999999973; decide),?_⟩
 refine ⟨fun σ' H'=>∃a d:Int,σ'=[some (.int c),some (.int (n:Int)),some (.ref p),some (.int a),some (.int d),none]/\0<=a/\a<1999999973/\H'=upd H p (.lst []),?_,?_⟩
 ·have b1:0<=(c % 1999999973+31)*765432101 % 1999999973:=by omega
  have b2:(c % 1999999973+31)*765432101 % 1999999973<1999999973:=by omega
  refine ⟨_,rfl,_,_,rfl,rfl,_,rfl,?_⟩
  refine fc (fun _=>?_) (fun _=>?_)
  ·exact k_ ⟨_,rfl,_,rfl,_,_,rfl,b1,b2,rfl⟩
  ·refine ⟨_,rfl,_,_,rfl,rfl,⟨by decide,by decide,by decide⟩,_,_,rfl,rfl,_,rfl,?_⟩
   refine fc (fun _=>?_) (fun _=>?_)
   ·exact ⟨_,rfl,_,rfl,_,_,rfl,b1,b2,rfl⟩
   ·exact ⟨_,_,rfl,b1,b2,rfl⟩
 rintro σ H1 ⟨a,d,rfl,h1,h2,rfl⟩
 refine ⟨_,rfl,(n:Int),rfl,by omega,by omega,jp (lo:=0) (n:=n) (fun i σ H'=>∃(a d:Int) (ns:List Int) (o:Option V),σ=[some (.int c),some (.int (n:Int)),some (.ref p),some (.int a),some (.int d),o]/\0<=a/\a<1999999973/\ns.length=i/\H' p=some (.lst (ns.map V.int))/\Same H H')
  ⟨a,d,[],none,rfl,h1,h2,rfl,ac,Same.new hp _⟩ ?_ ?_⟩
 ·rintro i σ H' hi ⟨a,d,ns,o,rfl,h1,h2,hl,hpp,hS⟩
  refine ⟨_,rfl,_,rfl,_,_,rfl,rfl,(by show (0:Int)<65521; decide),_,_,rfl,rfl,_,_,rfl,rfl,.inl ⟨by omega,by omega⟩,_,rfl,_,_,rfl,rfl,.inl ⟨by decide,by decide⟩,_,_,rfl,rfl,_,_,rfl,rfl,_,_,rfl,rfl,(by show (0:Int)<1999999973; decide),?_⟩
  have z1:0<=(a*(a % 65521+40487)+7*(0+(i:Int))+5) % 1999999973:=Ek _ (by decide)
  have z2:(a*(a % 65521+40487)+7*(0+(i:Int))+5) % 1999999973<1999999973:=Ep _ (by decide)
  obtain ⟨v,hv,hm⟩:=fS (xs:=[V.int ((a*(a % 65521+40487)+7*(0+(i:Int))+5) % 1999999973),.int (d % 1000000)]) (i:=if decide (0<d)=true then 1 else 0) (by split <;> decide) (by split <;> (show _<(2:Int); decide))
  obtain ⟨u,rfl⟩:∃u,v=.int u:=by
   simp only [AX,Cf,or_false] at hm
   rcases hm with rfl | rfl
   ·exact ⟨_,rfl⟩
   ·exact ⟨_,rfl⟩
  refine ⟨_,rfl,.inl ⟨rfl,_,SqL.of hpp⟩,_,rfl,_,rfl,_,_,rfl,rfl,(by show (0:Int)<1000000; decide),(by show 2<=sizeLine; decide),fun p2 hp2=>⟨_,rfl,_,_,rfl,rfl,.inr ⟨_,rfl,p2,_,_,.int u,rfl,rfl,SqL.of ac,hv,p,_,_,rfl,rfl,Same.new hp2 _ _ _ hpp,(by rw [AH]; omega),?_⟩⟩⟩
  refine ⟨_,rfl,_,_,rfl,rfl,⟨by decide,by decide⟩,(a*(a % 65521+40487)+7*(0+(i:Int))+5) % 1999999973,_,ns++[u],_,rfl,z1,z2,(by rw [AW,hl]; rfl),?_,?_⟩
  ·rw [ac,A8]
   rfl
  ·intro b o hb
   rw [aj (am hb hp)]
   exact Same.new hp2 _ _ _ (hS _ _ hb)
 ·rintro σ H' ⟨a,d,ns,o,rfl,h1,h2,hl,hpp,hS⟩
  exact ⟨_,rfl,q p ns H' hS hl hp hpp⟩
end
structure Reel where
 name:Str
 letters:Str
 start:Int
 many:Int
def Reel.vs (r:Reel):List V:=[.str r.name,.str r.letters,.int r.start,.int r.many]
structure ROk (r:Reel):Prop where
 nl:r.name.length<=100
 nf:fV r.name
 lf:fV r.letters
 m1:1<=r.many
 m2:r.many<=160000
def RL (H:Hp) (p:Addr) (prs:List (Addr×Reel)):Prop:=H p=some (.lst (prs.map fun x=>V.ref x.1))/\∀x∈prs,H x.1=some (.tup x.2.vs)/\ROk x.2
theorem RL.same {H H':Hp}{p:Addr}{prs:List (Addr×Reel)}(h:RL H p prs) (s:Same H H'):RL H' p prs:=⟨s _ _ h.1,fun x hx=>⟨s _ _ (h.2 x hx).1,(h.2 x hx).2⟩⟩
section
variable {P:Program}{w:Bj}{K:AK}{mg:Str->Option Value}{base:Heap}
def gZ (C:Addr) (f:Str):Sp:=fun vs H Q _=>∃a y,vs=[.ref a,y]/\H a=some (eD a C none)/\∀dx,H dx=none->dx≠a->Q .non (upd (upd H dx (xdO dx [(f,y)])) a (eD a C (some dx)))
theorem xM:aq ["self", "name"] ["self", "name"] (ak bO):=⟨rfl,rfl,rfl,by decide +kernel,rfl,by decide +kernel,by decide +kernel⟩
theorem jX {f C:Addr}{fd:Bg}(F:Fun K "__init__" "NoName.__init__" bO f fd) (XC:uH K C) (XN:XNo K C "name"):aJ P w K mg base CX0 1 f fd ["self", "name"] (gZ C "name"):=by
 refine F.ok xM (fun vs H Q E h=>?_) (fun cdv A outer s0 H vs Q E hr h=>?_)
 ·obtain ⟨a,y,rfl,_⟩:=h
  rfl
 obtain ⟨a,y,rfl,hH,q⟩:=h
 refine dN (ah (jI (e_v 0) (e_v 1))) ?_
 exact ⟨_,rfl,_,rfl,a,C,rfl,XC,XN,.inl ⟨hH,fun dx n1 n2=>q dx n1 n2⟩⟩
def nt (C:Addr):Sp:=fun vs H Q _=>∃a y z,vs=[.ref a,y,z]/\H a=some (eD a C none)/\∀dx,H dx=none->dx≠a->Q .non (upd (upd (upd H dx (xdO dx [("reel",y)])) a (eD a C (some dx))) dx (xdO dx [("reel",y),("frame",z)]))
theorem u7:aq ["self", "reel", "frame"] ["self", "reel", "frame"] (ak bE):=⟨rfl,rfl,rfl,by decide +kernel,rfl,by decide +kernel,by decide +kernel⟩
theorem sN {f C:Addr}{fd:Bg}(F:Fun K "__init__" "NoFrame.__init__" bE f fd) (XC:uH K C) (XN1:XNo K C "reel") (XN2:XNo K C "frame"):aJ P w K mg base CX0 1 f fd ["self", "reel", "frame"] (nt C):=by
 refine F.ok u7 (fun vs H Q E h=>?_) (fun cdv A outer s0 H vs Q E hr h=>?_)
 ·obtain ⟨a,y,z,rfl,_⟩:=h
  rfl
 obtain ⟨a,y,z,rfl,hH,q⟩:=h
 refine eK (ag (jI (e_v 0) (e_v 1))
  (ah (jI (e_v 0) (e_v 2)))) ?_
 intros
 refine ⟨_,rfl,_,rfl,a,C,rfl,XC,XN1,.inl ⟨hH,fun dx n1 n2=>⟨_,rfl,_,rfl,a,C,rfl,XC,XN2,.inr ⟨dx,_,ac,(by rw [aj n2]; exact ac),(by show 1<1000; decide),?_⟩⟩⟩⟩
 exact q dx n1 n2
def mY:Sp:=fun vs H Q _=>∃i:Int,vs=[.int i]/\Q (.bl true) H
theorem uT:aq ["value"] ["value"] (ak eV):=⟨rfl,rfl,rfl,by decide +kernel,rfl,by decide +kernel,by decide +kernel⟩
theorem sw {f:Addr}{fd:Bg}(F:Fun K "is_whole" "is_whole" eV f fd) (n_isinstance:mg "isinstance"=none) (n_int:mg "int"=none) (n_bool:mg "bool"=none):aJ P w K mg base CX0 1 f fd ["value"] mY:=by
 refine F.ok uT (fun vs H Q E h=>?_) (fun cdv A outer s H vs Q E hr h=>?_)
 ·obtain ⟨i,rfl,_⟩:=h
  rfl
 obtain ⟨i,rfl,q⟩:=h
 refine dN (ah (aB (xz (e_b gz n_isinstance PyProof.Rows.boot_isinstance (aa (e_v 0) (aa (Ab (v:=.ty "int") n_int PyProof.Rows.boot_int rfl) af))) (xx (Aa (e_b gz n_isinstance PyProof.Rows.boot_isinstance (aa (e_v 0) (aa (Ab (v:=.ty "bool") n_bool (by decide +kernel) rfl) af)))))))) ?_
 refine ⟨_,rfl,_,_,_,true,rfl,TyOf.int i,.inr ⟨_,rfl⟩,tK,true,rfl,k_ ?_⟩
 exact ⟨_,rfl,_,_,_,false,rfl,TyOf.int i,.inr ⟨_,rfl⟩,tO,false,rfl,q⟩
def q8:Sp:=fun vs H Q _=>∃(p:Addr) (r:Reel) (f:Int),vs=[.ref p,.int f]/\H p=some (.tup r.vs)/\((0<=f/\f<r.many)->Q (.bl true) H)/\(¬ (0<=f/\f<r.many)->Q (.bl false) H)
theorem xN:aq ["reel", "frame"] ["reel", "frame"] (ak dU):=⟨rfl,rfl,rfl,by decide +kernel,rfl,by decide +kernel,by decide +kernel⟩
theorem vL {f:Addr}{fd:Bg}{t3:Tok}(F:Fun K "has_frame" "has_frame" dU f fd) (dWh:Def P w K mg base CX0 "is_whole" 1 ["value"] mY) (mMANY:mg "MANY"=some (.int 3 t3)):aJ P w K mg base CX0 2 f fd ["reel", "frame"] q8:=by
 refine F.ok xN (fun vs H Q E h=>?_) (fun cdv A outer s0 H vs Q E hr h=>?_)
 ·obtain ⟨p,r,f,rfl,_⟩:=h
  rfl
 obtain ⟨p,r,f,rfl,hp,q1,q2⟩:=h
 refine dN (ah (aB (xz (ap dWh hr aF (aa (e_v 1) af)) (xx (wC zS gk ae (e_v 1) (au ao (e_v 0) (qm (v:=.int 3) mMANY ⟨_,rfl⟩))))))) ?_
 refine ⟨_,rfl,f,rfl,true,rfl,k_ ⟨_,rfl,_,_,rfl,rfl,_,rfl,?_⟩⟩
 refine fc (fun c1=>?_) (fun c1=>?_)
 ·have d1:=of_decide_eq_true c1
  refine ⟨_,rfl,p,_,_,_,rfl,rfl,SqT.of hp,ad (j:=3) rfl,_,_,rfl,rfl,?_⟩
  have z:Q (.bl (decide (f<r.many))) H:=by
   by_cases d2:f<r.many
   ·rw [decide_eq_true d2]
    exact q1 ⟨d1,d2⟩
   ·rw [decide_eq_false d2]
    exact q2 fun z=>d2 z.2
  exact z
 ·have d1:=of_decide_eq_false (EJ.mpr c1)
  exact q2 fun z=>d1 z.1
def ng (CN:Addr):Sp:=fun vs H Q E=>∃(p:Addr) (prs:List (Addr×Reel)) (nm:Str),vs=[.ref p,.str nm]/\RL H p prs/\(∀x∈prs,x.2.name=nm->∀H',Same H H'->Q (.ref x.1) H') /\
 ((∀x∈prs,x.2.name≠nm)->∀H' dx,Same H H'->H' dx=some (xdO dx [("name",.str nm)])->E (.ref CN) (some dx) H')
theorem scNamed:aq ["reels", "name", "reel"] ["reels", "name"] (ak dj):=⟨rfl,rfl,rfl,by decide +kernel,rfl,by decide +kernel,by decide +kernel⟩
theorem sE {f CN fI:Addr}{fd fdI:Bg}{t0:Tok}(F:Fun K "reel_named" "reel_named" dj f fd) (mNAME:mg "NAME"=some (.int 0 t0)) (m_NoName:mg "NoName"=some (.ref CN)) (R_NoName:fe K CN fI) (G_NoName:aJ P w K mg base CX0 1 fI fdI ["self", "name"] (gZ CN "name")) (b_NoName:Binds K fdI ["self", "name"] []) :
  aJ P w K mg base (CX1 P w) 3 f fd ["reels", "name"] (ng CN):=by
 refine F.okX scNamed (fun vs H Q E h=>?_) (fun cdv A outer s H vs Q E hr h=>?_)
 ·obtain ⟨p,prs,nm,rfl,_⟩:=h
  rfl
 obtain ⟨p,prs,nm,rfl,rl,q,e⟩:=h
 refine eK (ag (bv B9.leaving rfl (cC (e_v 0)) (aC (i:=2) scNamed.nd)
   (ah (bb (aK bf (au ao (e_v 2) (qm (v:=.int 0) mNAME ⟨_,rfl⟩)) (e_v 1))
    (ah (aB (e_v 2)))
    aI)))
  (ah (fB m_NoName R_NoName G_NoName hr b_NoName (aa (e_v 1) af)))) ?_
 intros
 refine ⟨_,rfl,p,rfl,⟨_,SqL.of rl.1⟩,bU (K:=K) (a:=p) (xs:=prs.map fun x=>V.ref x.1) (fun i σ H'=>∃(o2:Option V),σ=[some (.ref p),some (.str nm),o2]/\(∀j y,j<i->prs[j]?=some y->y.2.name≠nm)/\Same H H') ⟨none,rfl,(fun j y hj=>absurd hj (Nat.not_lt_zero _)),Same.refl _⟩ (fun i σ H' _ ⟨_,_,_,s⟩=>SqL.of (s _ _ rl.1)) ?_ ?_⟩
 ·rintro i x σ H' hx ⟨o2,rfl,hn,hS⟩
  obtain ⟨pr,hpr,rfl⟩:∃pr,prs[i]?=some pr/\x=V.ref pr.1:=by
   rw [AR] at hx
   cases z:prs[i]? with
   | none=>rw [z] at hx; cases hx
   | some pr=>rw [z] at hx; exact ⟨pr,rfl,(Ba hx).symm⟩
  have hmem:pr∈prs:=Bh hpr
  refine ⟨_,rfl,pr.1,_,_,_,rfl,rfl,SqT.of (hS _ _ (rl.2 pr hmem).1),ad (j:=0) rfl,_,rfl,rfl,_,rfl,?_⟩
  refine fc (fun c=>?_) (fun c=>?_)
  ·exact ⟨_,rfl,q pr hmem (V.str.inj (of_decide_eq_true c)) H' hS⟩
  ·refine ⟨_,rfl,fun j y hj hy=>?_,hS⟩
   by_cases z:j<i
   ·exact hn j y z hy
   ·have:j=i:=by omega
    subst this
    rw [hpr] at hy
    cases hy
    exact fun e=>c (decide_eq_true (congrArg V.str e))
 ·rintro σ H' ⟨o2,rfl,hn,hS⟩
  rw [AH] at hn
  refine ⟨_,rfl,(by show 1<=sizeLine; decide),fun a ha=>⟨a,_,rfl,ac,fun dx n1 n2=>⟨rfl,some dx,ac,?_⟩⟩⟩
  obtain ⟨r1,r2⟩:=nM (x:=xdO dx [("name",V.str nm)]) (o':=eD a CN (some dx)) hS ha n1 n2
  refine e (fun x hx=>?_) _ dx r1 r2
  obtain ⟨j,hj⟩:=List.mem_iff_getElem?.mp hx
  exact hn j x (AS.mp hj).1 hj
def has (r:Reel) (f:Int):Prop:=0<=f/\f<r.many
end
end K56
namespace L2
open PySem PySem.Spec PyProof.Rows
section
variable {M:Model}{A:Bk}{E:Value->AL->Prop}{s:AL}{B:Heap}{env:Env}{outer l:List Env}{L e:Addr}{cls fl:Value}{d:Option Addr}{Q:Unit->AL->Prop}
end
section
variable {P:Program}{w:Bj}{K:AK}{mg:Str->Option Value}{base:Heap}{N:List Str}{qual:Str}{scope:Scope}{f:Addr}{cd:Value}{A:Bk}{outer:List Env}{s₀:AL}{H₀:Hp}{E:XK}
end
section
variable {X:Cx}{x:Str}{px pos:Pos}{elt iter:Expr}{sc:Scope}{ys:List Str}{js:List Nat}{cl:List (Str×Addr)}
end
section
variable {prog:Program}{w:Bj}{A:Bk}{E:Value->AL->Prop}{h:Heap}{g:Array E4}{d:Drawn}{t:Nat}{os:OsState}{a:Addr}{o:Obj}
end
end L2
namespace L2
open PySem PySem.Spec PyProof.Rows PySem.W
section
variable {prog:Program}{w:Bj}{A:Bk}{R:Result->AL->Prop}{I:Addr}{fp wr:List Addr}{G:Array E4->Array E4->Prop}{n:Nat}{P:Nat->Value->Prop}{St:Nat->AL->Prop}
end
section
variable {prog:Program}{w:Bj}{A:Bk}{E:Value->AL->Prop}{s:AL}
end
section
variable {X:Cx}{pins:List (Addr×Obj)}{σ:St}{H:Hp}{s:AL}
theorem Inv.trackV {a:Addr}{o:HO}(I:Inv X pins σ H s) (f:cH X pins H a) (hx:X.s₀.heap.get? a=none) (new:ObjOk X.prog X.w (upd H a o) s.heap a o):Inv X pins σ (upd H a o) s:=by
 obtain ⟨f0,f1,f2,f3,f4,f5⟩:=f
 have ne0:∀b o,X.s₀.heap.get? b=some o->b≠a:=fun b o e z=>by rw [z,hx] at e; cases e
 have neH:∀b u,H b=some u->b≠a:=fun b u e z=>by rw [z,f0] at e; cases e
 refine ⟨I.ok,I.os,I.bare,⟨I.base.keep,I.base.slot,fun b o e n he=>?_,I.base.there,fun b xs e=>?_,fun b o u e=>?_,fun b ps e=>?_⟩,I.loc,I.cell,?_,fun x c e=>?_,fun p hp=>?_,fun b u e=>?_,I.len⟩
 ·rw [aj (ne0 b o e)]; exact I.base.free b o e n he
 ·have:=I.base.tups b xs e
  rw [aj (neH _ _ this)]; exact this
 ·have:=I.base.frzs b o u e
  rw [aj (neH _ _ this)]; exact this
 ·obtain ⟨more,q⟩:=I.base.tbls b ps e
  exact ⟨more,by rw [aj (neH _ _ q)]; exact q⟩
 ·rw [aj (Cg f1)]; exact I.free
 ·rw [aj (f4 x c e)]; exact I.freeC x c e
 ·obtain ⟨q1,q2,q3⟩:=I.pin p hp
  exact ⟨q1,by rw [aj (f5 p hp)]; exact q2,q3⟩
 ·by_cases hb:b=a
  ·subst hb
   rw [ac] at e
   cases e
   exact new
  ·rw [aj hb] at e
   exact (I.hok b u e).stay (fun c v _ q=>q) (fun c q=>by rw [aj (neH _ _ q)]; exact q) fun c xs q=>by rw [aj (neH _ _ q)]; exact q
end
section
variable {X:Cx}
end
end L2
namespace L2
open PySem PySem.Spec PyProof.Rows
section
variable {X:Cx}
end
end L2
namespace K56
open PySem L2 G DT
open IT hiding It
def Uq (prs:List (Addr×Reel)):Prop:=∀x∈prs,∀y∈prs,x.2.name=y.2.name->x=y
def Ex (p:Addr) (H H':Hp):Prop:=∀b o,b≠p->H b=some o->H' b=some o
theorem Ex.refl (p:Addr) (H:Hp):Ex p H H:=fun _ _ _ h=>h
theorem Ex.of {p:Addr}{H H':Hp}(s:Same H H'):Ex p H H':=fun b o _ h=>s b o h
theorem Ex.trans {p:Addr}{H H1 H2:Hp}(a:Ex p H H1) (b:Ex p H1 H2):Ex p H H2:=fun c o n h=>b c o n (a c o n h)
theorem rD {H H':Hp}{d:Addr}{kvs:List (Key×V)}(h:Rd H d (.dK kvs)) (e:Ex d H H'):TK H H':=fun a xs ha=>e a _ (by
 rintro rfl
 rcases h with h | ⟨o,h⟩
 ·rw [h] at ha; cases ha
 ·rw [h] at ha; cases ha) ha
theorem RL.ex {H H':Hp}{p d:Addr}{prs:List (Addr×Reel)}{kvs:List (Key×V)}(h:RL H p prs) (hd:Rd H d (.dK kvs)) (e:Ex d H H'):RL H' p prs:=by
 refine ⟨e _ _ ?_ h.1,fun x hx=>⟨rD hd e _ _ (h.2 x hx).1,(h.2 x hx).2⟩⟩
 rintro rfl
 rcases hd with r | ⟨o,r⟩
 ·rw [h.1] at r; cases r
 ·rw [h.1] at r; cases r
theorem qx {u v w':V}:atI [u,v,w'] (-1)=some w':=rfl
theorem qy {u v:V}:atI [u,v] (-1)=some v:=rfl
def Ck (prs:List (Addr×Reel)) (r:Str) (f l:Int):Prop:=∃x∈prs,x.2.name=r/\0<=f/\f<x.2.many/\0<=l/\l<x.2.many
mutual
def hI (T:Str->Int->Int->Prop) (G:Str->List IT.It->Prop):IT.It->Prop
 | .clip r f l=>fV r/\T r f l
 | .times _ xs=>hL T G xs
 | .back xs=>hL T G xs
 | .part n xs=>fV n/\G n xs
 | .fade m=>0<=m
def hL (T:Str->Int->Int->Prop) (G:Str->List IT.It->Prop):List IT.It->Prop
 | []=>True
 | x :: r=>hI T G x/\hL T G r
end
theorem mD {T:Str->Int->Int->Prop}{G:Str->List IT.It->Prop}:∀{xs:List IT.It}{x:IT.It},hL T G xs->x∈xs->hI T G x
 | y :: r,x,g,h=>by
  rw [hL] at g
  rcases AX.mp h with rfl | h
  ·exact g.1
  ·exact mD g.2 h
structure Pa (T:Str->Int->Int->Prop) (G:Str->List IT.It->Prop) (ns:List Str):Prop where
 fn:∀n ys ys',G n ys->G n ys'->ys=ys'
 dom:∀n ys,G n ys->n∈ns
 len:ns.length<=100
 wl:∀n ys,G n ys->WL ys
 ok:∀n ys,G n ys->hL T G ys
def PR (H:Hp) (pd:Addr) (G:Str->List IT.It->Prop):Prop:=∃kvs,Rd H pd (.dK kvs)/\∀n ys,G n ys->∃b,aN kvs (Co n)=some (.ref b)/\Td H (.ref b) (.tuple (dL ys))
theorem rds {H H':Hp}{d:Addr}{u:HO}(h:Rd H d u) (s:Same H H'):Rd H' d u:=by
 rcases h with r | ⟨o,r⟩
 ·exact .inl (s _ _ r)
 ·exact .inr ⟨o,s _ _ r⟩
theorem rde {H H':Hp}{d e:Addr}{u:HO}(h:Rd H d u) (n:d≠e) (s:Ex e H H'):Rd H' d u:=by
 rcases h with r | ⟨o,r⟩
 ·exact .inl (s _ _ n r)
 ·exact .inr ⟨o,s _ _ n r⟩
theorem rdn {H:Hp}{d e:Addr}{u:HO}(h:Rd H d u) (n:H e=none):e≠d:=by
 rintro rfl
 rcases h with r | ⟨o,r⟩ <;> rw [r] at n <;> cases n
theorem PR.ex {H H':Hp}{pd p:Addr}{G:Str->List IT.It->Prop}{kvs:List (Key×V)}(h:PR H pd G) (e:Ex p H H') (hp:Rd H p (.dK kvs)) (n:pd≠p):PR H' pd G:=by
 obtain ⟨k,h1,h2⟩:=h
 refine ⟨k,rde h1 n e,fun m ys g=>?_⟩
 obtain ⟨b,h3,h4⟩:=h2 m ys g
 exact ⟨b,h3,h4.tk (rD hp e)⟩
theorem PR.same {H H':Hp}{pd:Addr}{G:Str->List IT.It->Prop}(h:PR H pd G) (s:Same H H'):PR H' pd G:=by
 obtain ⟨k,h1,h2⟩:=h
 refine ⟨k,rds h1 s,fun m ys g=>?_⟩
 obtain ⟨b,h3,h4⟩:=h2 m ys g
 exact ⟨b,h3,h4.tk (TK.of s)⟩
theorem PR.get {H:Hp}{pd:Addr}{G:Str->List IT.It->Prop}(h:PR H pd G) {n:Str}{ys:List IT.It}(g:G n ys):∃b,DGet H pd (.str n) (some (.ref b))/\Td H (.ref b) (.tuple (dL ys)):=by
 obtain ⟨kvs,h1,h2⟩:=h
 obtain ⟨b,h3,h4⟩:=h2 n ys g
 exact ⟨b,.inl ⟨kvs,.inr n,h1,rfl,h3.symm⟩,h4⟩
theorem eN {α:Type}:∀{l m:List α},l.Nodup->(∀x∈l,x∈m)->l.length<=m.length
 | [],_,_,_=>Bo _
 | a :: l,m,h,k=>by
  obtain ⟨p,q,rfl⟩:=List.append_of_mem (k a AQ)
  rw [CH] at h
  have:=eN (m:=p++q) h.2 fun x hx=>by
   have:=k x (AO _ hx)
   simp only [CG,AX] at this ⊢
   rcases this with z | z | z
   ·exact .inl z
   ·subst z; exact absurd hx h.1
   ·exact .inr z
  simp only [AW,AZ] at this ⊢
  omega
structure Wk (G:Str->List IT.It->Prop) (ns:List Str) (n0:Nat) (wk:List (Key×V)):Prop where
 nd:(wk.map (·.1)).Nodup
 sub:∀k∈wk.map (·.1),k∈ns.map (Co:Str->Key)
 bl:∀n v,aN wk (.inr n:Key)=some v->v=.bl true\/v=.bl false
 way:∀n,aN wk (.inr n:Key)=some (.bl true)->∀zs,G n zs->n0<=dpL zs
theorem Wk.len {G:Str->List IT.It->Prop}{ns:List Str}{n0:Nat}{wk:List (Key×V)}(h:Wk G ns n0 wk):wk.length<=ns.length:=by
 have:=eN h.nd h.sub
 simpa using this
theorem Wk.mono {G:Str->List IT.It->Prop}{ns:List Str}{n0 n1:Nat}{wk:List (Key×V)}(h:Wk G ns n0 wk) (l:n1<=n0):Wk G ns n1 wk:=⟨h.nd,h.sub,h.bl,fun n e zs g=>Bm l (h.way n e zs g)⟩
theorem pN {kvs:List (Key×V)}{k:Key}{v:V}:∀j∈(bi kvs k v).map (·.1),j=k\/j∈kvs.map (·.1):=fun j hj=>by
 cases z:aN kvs k with
 | none =>
  rw [hV v z,A8] at hj
  rcases CG.mp hj with y | y
  ·exact .inr y
  ·exact .inl (Bi.mp y)
 | some u =>
  refine .inr ?_
  unfold bi at hj
  split at hj
  ·rw [B5] at hj
   obtain ⟨p,hp,e⟩:=Be.mp hj
   refine Be.mpr ⟨p,hp,?_⟩
   rw [<- e]
   dsimp only [Function.comp]
   split <;> simp_all
  ·rename_i h
   exfalso
   apply h
   simp only [aN] at z
   exact (by
    rw [C6]
    cases f:kvs.find? (fun p=>decide (p.1=k)) with
    | none=>rw [f] at z; cases z
    | some p=>exact ⟨p,List.mem_of_find?_eq_some f,by have:=List.find?_some f; simpa using this⟩)
theorem yF {kvs:List (Key×V)}{k:Key}(v:V) (hn:(kvs.map (·.1)).Nodup):((bi kvs k v).map (·.1)).Nodup:=by
 cases z:aN kvs k with
 | none=>exact nX v hn z
 | some u =>
  unfold bi
  split
  ·rw [B5]
   have e:((fun x:Key×V=>x.1) ∘ fun kv:Key×V=>if kv.1=k then (kv.1,v) else kv)=fun x=>x.1:=by
    funext p
    dsimp only [Function.comp]
    split <;> rfl
   rw [e]
   exact hn
  ·rename_i h
   rw [<- hV v (by
    cases q:aN kvs k with
    | none=>rfl
    | some x=>rw [bR,q] at h; exact (h rfl).elim)]
   exact nX v hn (by
    cases q:aN kvs k with
    | none=>rfl
    | some x=>rw [bR,q] at h; exact (h rfl).elim)
theorem Wk.put {G:Str->List IT.It->Prop}{ns:List Str}{n0 n1:Nat}{wk:List (Key×V)}{n:Str}{b:Bool}(h:Wk G ns n0 wk) (hn:n∈ns) (l:n1<=n0) (hb:b=true->∀zs,G n zs->n1<=dpL zs):Wk G ns n1 (bi wk (.inr n) (.bl b)):=by
 refine ⟨yF _ h.nd,fun k hk=>?_,fun m v hv=>?_,fun m hm zs g=>?_⟩
 ·rcases pN k hk with rfl | z
  ·exact Be.mpr ⟨n,hn,rfl⟩
  ·exact h.sub k z
 ·rw [bQ] at hv
  split at hv
  ·cases hv
   cases b
   ·exact .inr rfl
   ·exact .inl rfl
  ·exact h.bl m v hv
 ·rw [bQ] at hm
  split at hm
  ·rename_i e
   cases e
   cases hm
   exact hb rfl zs g
  ·exact Bm l (h.way m hm zs g)
theorem Wk.later {G:Str->List IT.It->Prop}{ns:List Str}{n0:Nat}{wk wk':List (Key×V)}(h:Wk G ns n0 wk) (k:Wk G ns 0 wk') (t:∀m,aN wk' (.inr m:Key)=some (.bl true)->aN wk (.inr m:Key)=some (.bl true)):Wk G ns n0 wk':=⟨k.nd,k.sub,k.bl,fun n e zs g=>h.way n (t n e) zs g⟩
section
variable {P:Program}{w:Bj}{K:AK}{mg:Str->Option Value}{base:Heap}
def nq:Sp:=fun vs H Q E=>∃(c lr:Addr) (prs:List (Addr×Reel)) (r:Str) (f l:Int),vs=[.ref c,.ref lr]/\H c=some (.tup [.str "clip",.str r,.int f,.int l])/\RL H lr prs/\Uq prs/\Ck prs r f l/\∀H',Same H H'->Q .non H'
theorem scLClip:aq ["clip", "reels", "reel", "frame"] ["clip", "reels"] (ak cu):=⟨rfl,rfl,rfl,by decide +kernel,rfl,by decide +kernel,by decide +kernel⟩
theorem sJ {f CN CF fI:Addr}{fd fdI:Bg}(F:Fun K "look_at_clip" "look_at_clip" cu f fd) (dNamed:Def P w K mg base (CX1 P w) "reel_named" 3 ["reels", "name"] (ng CN)) (dHasF:Def P w K mg base CX0 "has_frame" 2 ["reel", "frame"] q8)
  (m_NoFrame:mg "NoFrame"=some (.ref CF)) (R_NoFrame:fe K CF fI) (G_NoFrame:aJ P w K mg base CX0 1 fI fdI ["self", "reel", "frame"] (nt CF)) (b_NoFrame:Binds K fdI ["self", "reel", "frame"] []) :
  aJ P w K mg base (CX1 P w) 4 f fd ["clip", "reels"] nq:=by
 refine F.okX scLClip (fun vs H Q E h=>?_) (fun cdv A outer s H vs Q E hr h=>?_)
 ·obtain ⟨c,lr,prs,r,f,l,rfl,_⟩:=h
  rfl
 obtain ⟨c,lr,prs,r,f,l,rfl,hc,rl,uq,⟨x0,hx0,en,f0,f1,l0,l1⟩,q⟩:=h
 refine eK (ag (ax (i:=2) scLClip.nd (ap dNamed hr bI (aa (e_v 1) (aa (au ao (e_v 0) ae) af))))
  (ah (bv B9.leaving rfl (lg (ge eg (e_v 0) (bj ae) cB)) (aC (i:=3) scLClip.nd)
   (ah (bb (zm (iX (ap dHasF hr aF (aa (e_v 2) (aa (e_v 3) af)))))
    (ah (fB m_NoFrame R_NoFrame G_NoFrame hr b_NoFrame (aa (au ao (e_v 0) ae) (aa (e_v 3) af))))
    aI))))) ?_
 intros
 refine ⟨_,rfl,_,rfl,c,_,_,_,rfl,rfl,SqT.of hc,ad (j:=1) rfl,lr,prs,r,rfl,rl,fun x hx hn H1 s1=>?_,fun hn H1 dx s1 hdx=>absurd en (hn x0 hx0)⟩
 have ex:=uq x hx x0 hx0 (by rw [hn,en])
 subst ex
 have hc1:=s1 _ _ hc
 refine ⟨_,rfl,_,rfl,c,_,rfl,hc1,fun pt H2 s2 hpt=>?_⟩
 have S2:=s1.trans s2
 have ecut:bH [V.str "clip",.str r,.int f,.int l] (some 2) none=[.int f,.int l]:=rfl
 rw [ecut] at hpt
 refine ⟨pt,rfl,⟨_,SqT.of hpt⟩,gN (K:=K) (a:=pt) (xs:=[.int f,.int l]) (fun i σ H'=>∃o3:Option V,σ=[some (.ref c),some (.ref lr),some (.ref x.1),o3]/\Same H2 H') ⟨none,rfl,Same.refl _⟩ (fun i σ H' _ ⟨_,_,sm⟩=>SqT.of (sm _ _ hpt)) ?_ ?_⟩
 ·rintro i v σ H' hv ⟨o3,rfl,sm⟩
  have S3:=S2.trans sm
  obtain ⟨g,rfl,hg⟩:∃g:Int,v=.int g/\has x.2 g:=by
   match i,hv with
   | 0,hv=>cases hv; exact ⟨f,rfl,f0,f1⟩
   | 1,hv=>cases hv; exact ⟨l,rfl,l0,l1⟩
  refine ⟨_,rfl,_,rfl,x.1,x.2,g,rfl,S3 _ _ (rl.2 x hx).1,fun z=>⟨_,rfl,gD ⟨_,rfl,sm⟩⟩,fun z=>absurd hg z⟩
 ·rintro σ H' ⟨o3,rfl,sm⟩
  exact q H' (S2.trans sm)
def qZ:Sp:=fun vs H Q _=>∃(v:V) (x:IT.It),vs=[v]/\Td H v (dI x)/\Q (.bl (isF x)) H
theorem zF:aq ["item"] ["item"] (ak fZ):=⟨rfl,rfl,rfl,by decide +kernel,rfl,by decide +kernel,by decide +kernel⟩
theorem yC {f:Addr}{fd:Bg}(F:Fun K "is_fade" "is_fade" fZ f fd):aJ P w K mg base CX0 1 f fd ["item"] qZ:=by
 refine F.ok zF (fun vs H Q E h=>?_) (fun cdv A outer s H vs Q E hr h=>?_)
 ·obtain ⟨v,x,rfl,_⟩:=h
  rfl
 obtain ⟨v,x,rfl,ht,q⟩:=h
 refine dN (ah (aB (oI bf (au ao (e_v 0) ae) aS))) ?_
 obtain ⟨a,us,rfl,ha⟩:=qK ht
 rw [<- oq] at q
 exact ⟨_,rfl,a,_,_,_,rfl,rfl,SqT.of ha,ad (j:=0) rfl,rfl,q⟩
theorem oW {H:Hp}{vs:List V}{xs:List IT.It}{j:Nat}{x:IT.It}(t:Tds H vs (dL xs)) (h:xs[j]?=some x):∃v,vs[j]?=some v/\Td H v (dI x) :=
 t.at (by rw [aU,AR,h]; rfl)
theorem k8 {H:Hp}{vs:List V}{xs:List IT.It}(t:Tds H vs (dL xs)):vs.length=xs.length:=by rw [t.len,aU,AH]
theorem j_:∀{xs:List IT.It},WL xs->∀(k:Nat) (m:Int),xs[k]?=some (.fade m)->∃j x y,k=j+1/\xs[j]?=some x/\xs[k+1]?=some y/\isF x=false/\isF y=false
 | _,.one h,k,m,e=>by
  match k,e with
  | 0,e=>cases e; cases h
  | k+1,e=>cases e
 | _,@WL.cons x r h t,k,m,e=>by
  match k,e with
  | 0,e=>cases e; cases h
  | k+1,e =>
   obtain ⟨j,a,b,rfl,h1,h2,h3,h4⟩:=j_ t k m e
   exact ⟨j+1,a,b,rfl,h1,h2,h3,h4⟩
 | _,@WL.fade x m' r h t,k,m,e=>by
  match k,e with
  | 0,e=>cases e; cases h
  | 1,e =>
   obtain ⟨y,r',rfl,wy⟩:=t.head
   exact ⟨0,x,y,rfl,rfl,rfl,h.nf,wy.nf⟩
  | k+2,e =>
   obtain ⟨j,a,b,rfl,h1,h2,h3,h4⟩:=j_ t k m e
   exact ⟨j+2,a,b,rfl,h1,h2,h3,h4⟩
def nn:Sp:=fun vs H Q E=>∃(p:Addr) (xs:List IT.It) (k:Nat) (m:Int),vs=[.ref p,.int (k:Int)]/\Td H (.ref p) (.tuple (dL xs))/\WL xs/\xs[k]?=some (.fade m)/\∀H',Same H H'->Q .non H'
theorem u4:aq ["items", "place"] ["items", "place"] (ak cq):=⟨rfl,rfl,rfl,by decide +kernel,rfl,by decide +kernel,by decide +kernel⟩
theorem sF {f CD:Addr}{fd:Bg}(F:Fun K "look_at_fade" "look_at_fade" cq f fd) (dIsF:Def P w K mg base CX0 "is_fade" 1 ["item"] qZ) (n_len:mg "len"=none)
  (m_NoFade:mg "NoFade"=some (.ref CD)) (q_NoFade:C8 K CD bmVE "ValueError.__new__"=true) :
  aJ P w K mg base (CX1 P w) 3 f fd ["items", "place"] nn:=by
 refine F.okX u4 (fun vs H Q E h=>?_) (fun cdv A outer s H vs Q E hr h=>?_)
 ·obtain ⟨p,xs,k,m,rfl,_⟩:=h
  rfl
 obtain ⟨p,xs,k,m,rfl,td,wl,hk,q⟩:=h
 refine eK (ag (bb (t_w (qE (aK bf (e_v 1) ae) (kt (aK bf (e_v 1) (aD bL (e_b aH n_len Cc (aa (e_v 0) af)) ae)))))
   (ah (jL m_NoFade q_NoFade (aa aS af)))
   aI)
  (ah (bb (t_w (qE (iX (ap dIsF hr aF (aa (au ao (e_v 0) (aD bL (e_v 1) ae)) af))) (kt (iX (ap dIsF hr aF (aa (au ao (e_v 0) (aD aV (e_v 1) ae)) af))))))
   (ah (jL m_NoFade q_NoFade (aa aS af)))
   aI))) ?_
 intros
 obtain ⟨_,vs,ep,hp,tds⟩:=td.tinv
 cases ep
 have lv:=k8 tds
 obtain ⟨j,x1,x2,rfl,hx1,hx2,n1,n2⟩:=j_ wl k m hk
 have hlt:j+1+1<xs.length:=(AS.mp hx2).1
 obtain ⟨v1,hv1,t1⟩:=oW tds hx1
 obtain ⟨v2,hv2,t2⟩:=oW tds hx2
 have e1:(((j+1:Nat):Int)-1)=((j:Nat):Int):=by omega
 have e2:(((j+1:Nat):Int)+1)=((j+1+1:Nat):Int):=by omega
 refine ⟨_,rfl,rfl,_,rfl,iteN (decide_eq_false fun z=>by have:=V.int.inj z; omega) ?_⟩
 refine ⟨_,rfl,_,rfl,p,vs,rfl,.inr (SqT.of hp),_,_,rfl,rfl,rfl,_,rfl,iteN (decide_eq_false fun z=>by have:=V.int.inj z; omega) ?_⟩
 refine ⟨_,rfl,_,rfl,_,_,rfl,rfl,p,_,_,v1,rfl,rfl,SqT.of hp,(by show atI _ (((j+1:Nat):Int)-1)=_; rw [e1]; exact ad hv1),v1,x1,rfl,t1,_,rfl,iteN n1 ?_⟩
 refine ⟨_,rfl,_,rfl,_,_,rfl,rfl,p,_,_,v2,rfl,rfl,SqT.of hp,(by show atI _ (((j+1:Nat):Int)+1)=_; rw [e2]; exact ad hv2),v2,x2,rfl,t2,_,rfl,iteN n2 ?_⟩
 exact q H (Same.refl _)
structure Arnd (H:Hp) (pd lr pw:Addr) (G:Str->List IT.It->Prop) (ns:List Str) (prs:List (Addr×Reel)) (n0:Nat) (wk:List (Key×V)):Prop where
 pr:PR H pd G
 pa:Pa (Ck prs) G ns
 rl:RL H lr prs
 uq:Uq prs
 w:H pw=some (.dK wk)
 wo:Wk G ns n0 wk
 ne:pd≠pw
theorem Arnd.ex {H H':Hp}{pd lr pw:Addr}{G:Str->List IT.It->Prop}{ns:List Str}{prs:List (Addr×Reel)}{n0 n1:Nat}{wk wk':List (Key×V)}(h:Arnd H pd lr pw G ns prs n0 wk) (e:Ex pw H H') (hw:H' pw=some (.dK wk')) (wo:Wk G ns n1 wk'):Arnd H' pd lr pw G ns prs n1 wk' :=
 ⟨h.pr.ex e (.inl h.w) h.ne,h.pa,RL.ex h.rl (.inl h.w) e,h.uq,hw,wo,h.ne⟩
def gY (d:Nat):Sp:=fun vs H Q E=>∃(p pd lr pw:Addr) (xs:List IT.It) (G:Str->List IT.It->Prop) (ns:List Str) (prs:List (Addr×Reel)) (wk:List (Key×V)),vs=[.ref p,.ref pd,.ref lr,.ref pw] /\
 Td H (.ref p) (.tuple (dL xs))/\WL xs/\hL (Ck prs) G xs/\Arnd H pd lr pw G ns prs (dpL xs) wk/\dpL xs<=d/\∀wk' H',Ex pw H H'->H' pw=some (.dK wk')->Wk G ns 0 wk'->(∀m,aN wk' (.inr m:Key)=some (.bl true)->aN wk (.inr m:Key)=some (.bl true))->Q .non H'
def jF:Nat->Sp
 | 0=>fun _ _ _ _=>False
 | d+1=>gY d
theorem eS {d:Nat}{vs:List V}{H:Hp}{Q:VK}{E:XK}(h:0<d) (z:gY (d-1) vs H Q E):jF d vs H Q E:=by
 cases d with
 | zero=>exact absurd h (Cm _)
 | succ d=>exact z
def ni (d:Nat):Sp:=fun vs H Q E=>∃(n:Str) (pd lr pw:Addr) (ys:List IT.It) (G:Str->List IT.It->Prop) (ns:List Str) (prs:List (Addr×Reel)) (wk:List (Key×V)),vs=[.str n,.ref pd,.ref lr,.ref pw]/\G n ys/\dpL ys+1<=d /\
 Arnd H pd lr pw G ns prs (dpL ys+1) wk/\∀wk' H',Ex pw H H'->H' pw=some (.dK wk')->Wk G ns 0 wk'->(∀m,aN wk' (.inr m:Key)=some (.bl true)->aN wk (.inr m:Key)=some (.bl true))->Q .non H'
theorem uZ:aq ["name", "parts", "reels", "within"] ["name", "parts", "reels", "within"] (ak cm):=⟨rfl,rfl,rfl,by decide +kernel,rfl,by decide +kernel,by decide +kernel⟩
theorem kU {d:Nat}{f CN fI:Addr}{fd fdI:Bg}(F:Fun K "look_at_part" "look_at_part" cm f fd) (dLook:Def P w K mg base (CX1 P w) "look_through" (2*d+5) ["items", "parts", "reels", "within"] (jF d))
  (m_NoName:mg "NoName"=some (.ref CN)) (R_NoName:fe K CN fI) (G_NoName:aJ P w K mg base CX0 1 fI fdI ["self", "name"] (gZ CN "name")) (b_NoName:Binds K fdI ["self", "name"] []) :
  aJ P w K mg base (CX1 P w) (2*d+6) f fd ["name", "parts", "reels", "within"] (ni d):=by
 refine F.okX uZ (fun vs H Q E h=>?_) (fun cdv A outer s H vs Q E hr h=>?_)
 ·obtain ⟨n,pd,lr,pw,ys,G,ns,prs,wk,rfl,_⟩:=h
  rfl
 obtain ⟨n,pd,lr,pw,ys,G,ns,prs,wk,rfl,gn,hdy,A0,q⟩:=h
 refine eK (ag (bb (t_w (qE (kD (fK hr) (e_v 0) (e_v 1)) (kt (iX (oH (fK hr) (e_v 3) (e_v 0) lx)))))
   (ah (fB m_NoName R_NoName G_NoName hr b_NoName (aa (e_v 0) af) (hj:=by omega)))
   aI)
  (ah (bb (kD (fK hr) (e_v 0) (e_v 3))
   (ag (lU (fK hr) (e_v 3) (e_v 0) lx)
   (ag (aO (ap dLook hr bI (aa (uh (fK hr) (e_v 1) (e_v 0)) (aa (e_v 1) (aa (e_v 2) (aa (e_v 3) af)))) (hj:=by omega)))
   (ah (lU (fK hr) (e_v 3) (e_v 0) lx))))
   aI))) ?_
 intros
 have zl:sizeLine=16777216:=A9
 obtain ⟨b,dg,tb⟩:=A0.pr.get gn
 have hnm:=A0.pa.dom n ys gn
 have hns:=A0.pa.len
 have il:=A0.wo.len
 have dw:DGet H pw (.str n) (aN wk (.inr n)):=DGet.k (k:=.inr n) A0.w
 refine ⟨_,rfl,_,rfl,pd,_,rfl,dg,_,rfl,gD ?_⟩
 cases hz:aN wk (.inr n:Key) with
 | some v =>
  rw [hz] at dw
  rcases A0.wo.bl n v hz with rfl | rfl
  ·have:=A0.wo.way n hz ys gn
   omega
  ·refine ⟨_,rfl,pw,rfl,.inl ⟨wk,.inl A0.w⟩,_,rfl,_,dw,_,rfl,gD ⟨_,rfl,_,rfl,pw,_,rfl,dw,_,rfl,gD ?_⟩⟩
   exact q wk H (Ex.refl _ _) A0.w (A0.wo.mono (Bo _)) fun _ h=>h
 | none =>
  rw [hz] at dw
  refine ⟨_,rfl,pw,rfl,.inl ⟨wk,.inl A0.w⟩,_,rfl,_,dw,_,rfl,gD ⟨_,rfl,_,rfl,pw,_,rfl,dw,_,rfl,k_ ?_⟩⟩
  refine ⟨_,rfl,_,rfl,pw,_,rfl,.inl ⟨wk,.inr n,A0.w,rfl,by omega,rfl⟩,?_⟩
  have x1:Ex pw H (upd H pw (.dK (bi wk (.inr n) (.bl true)))):=fun c o hc h=>by rw [aj hc]; exact h
  have W1:Wk G ns (dpL ys) (bi wk (.inr n) (.bl true)):=A0.wo.put hnm (by omega) fun _ zs g=>by rw [A0.pa.fn n zs ys g gn]; exact AM _
  have A1:=A0.ex x1 ac W1
  generalize upd H pw (.dK (bi wk (.inr n) (.bl true)))=H1 at x1 A1 ⊢
  obtain ⟨b1,dg1,tb1⟩:=A1.pr.get gn
  refine ⟨_,rfl,_,rfl,pd,_,rfl,dg1,_,rfl,_,rfl,_,rfl,eS (by omega) ⟨b1,pd,lr,pw,ys,G,ns,prs,_,rfl,tb1,A0.pa.wl n ys gn,A0.pa.ok n ys gn,A1,by omega,fun wk2 H2 x2 hw2 W2 k2=>?_⟩⟩
  have il2:=W2.len
  refine ⟨_,rfl,_,rfl,pw,_,rfl,.inl ⟨wk2,.inr n,hw2,rfl,by omega,rfl⟩,?_⟩
  refine q _ _ (x1.trans (x2.trans fun c o hc h=>by rw [aj hc]; exact h)) ac (W2.put hnm (AM _) fun e=>by cases e) fun m hm=>?_
  rw [bQ] at hm
  split at hm
  ·cases hm
  ·rename_i ne
   have:=k2 m hm
   rw [bQ,if_neg ne] at this
   exact this
theorem scLook:aq ["items", "parts", "reels", "within", "place", "item"] ["items", "parts", "reels", "within"] (ak cj):=⟨rfl,rfl,rfl,by decide +kernel,rfl,by decide +kernel,by decide +kernel⟩
theorem nU {d:Nat}{f:Addr}{fd:Bg}(F:Fun K "look_through" "look_through" cj f fd) (dLook:Def P w K mg base (CX1 P w) "look_through" (2*d+5) ["items", "parts", "reels", "within"] (jF d))
  (dLPart:Def P w K mg base (CX1 P w) "look_at_part" (2*d+6) ["name", "parts", "reels", "within"] (ni d)) (dLClip:Def P w K mg base (CX1 P w) "look_at_clip" 4 ["clip", "reels"] nq) (dLFade:Def P w K mg base (CX1 P w) "look_at_fade" 3 ["items", "place"] nn) (n_enumerate:mg "enumerate"=none) :
  aJ P w K mg base (CX1 P w) (2*d+7) f fd ["items", "parts", "reels", "within"] (gY d):=by
 refine F.okX scLook (fun vs H Q E h=>?_) (fun cdv A outer s H vs Q E hr h=>?_)
 ·obtain ⟨p,pd,lr,pw,xs,G,ns,prs,wk,rfl,_⟩:=h
  rfl
 obtain ⟨p,pd,lr,pw,xs,G,ns,prs,wk,rfl,td,wl,hl,A0,hd,q⟩:=h
 refine dN (ah (bv B9.leaving rfl (wc n_enumerate (e_v 0)) (fM rfl (aM (aC (i:=4) scLook.nd) (aM (aC (i:=5) scLook.nd) dA)))
   (ah (bb (aK bf (au ao (e_v 5) ae) aS)
    (ah (aO (ap dLClip hr bI (aa (e_v 5) (aa (e_v 2) af)) (hj:=by omega))))
    (ah (bb (aK bf (au ao (e_v 5) ae) aS)
     (ah (aO (ap dLFade hr bI (aa (e_v 0) (aa (e_v 4) af)) (hj:=by omega))))
     (ah (bb (aK bf (au ao (e_v 5) ae) aS)
      (ah (aO (ap dLPart hr bI (aa (au ao (e_v 5) ae) (aa (e_v 1) (aa (e_v 2) (aa (e_v 3) af)))) (hj:=by omega))))
      (ah (aO (ap dLook hr bI (aa (au ao (e_v 5) (fP bD ae)) (aa (e_v 1) (aa (e_v 2) (aa (e_v 3) af)))) (hj:=by omega)))))))))))) ?_
 obtain ⟨_,vs,ep,hp,tds⟩:=td.tinv
 cases ep
 have lv:=k8 tds
 have pne:p≠pw:=fun z=>by rw [z,A0.w] at hp; cases hp
 refine ⟨_,rfl,p,rfl,⟨_,SqT.of hp⟩,qj (K:=K) (a:=p) (xs:=vs) (fun i σ H'=>∃(o4 o5:Option V) (wk':List (Key×V)),σ=[some (.ref p),some (.ref pd),some (.ref lr),some (.ref pw),o4,o5]/\Ex pw H H'/\H' pw=some (.dK wk')/\Wk G ns 0 wk'/\(∀m,aN wk' (.inr m:Key)=some (.bl true)->aN wk (.inr m:Key)=some (.bl true)))
  ⟨none,none,wk,rfl,Ex.refl _ _,A0.w,A0.wo.mono (Bo _),fun _ h=>h⟩ (fun i σ H' _ ⟨_,_,_,_,ex,_⟩=>SqT.of (ex _ _ pne hp)) ?_ ?_⟩
 ·rintro i v σ H' pe hvv ⟨o4,o5,wk',rfl,ex,hk',W',k'⟩ hpe
  obtain ⟨dd,hdd,tv⟩:=tds.get hvv
  obtain ⟨x,hx,rfl⟩:=iG hdd
  have mx:=Bh hx
  have hxw:=wl.mem x mx
  have hxh:=mD hl mx
  have hdx:dpI x<=dpL xs:=dpL_le.mp (AM _) x mx
  have te:=Same.new hpe (.tup [.int (i:Int),v])
  have ex2:Ex pw H (upd H' pe (.tup [.int (i:Int),v])):=ex.trans (Ex.of te)
  have hk2:=te _ _ hk'
  have A2:=A0.ex ex2 hk2 (A0.wo.later W' k')
  have tkk:=rD (.inl A0.w) ex2
  have tv2:=tv.tk tkk
  have td2:=td.tk tkk
  have hpt:upd H' pe (.tup [.int (i:Int),v]) pe=some (.tup [.int (i:Int),v]):=ac
  generalize upd H' pe (.tup [.int (i:Int),v])=H2 at te ex2 hk2 A2 tv2 td2 hpt
  have nxt:∀{o4 o5:Option V}{wk2:List (Key×V)}{H3:Hp},Ex pw H2 H3->H3 pw=some (.dK wk2)->Wk G ns 0 wk2->(∀m,aN wk2 (.inr m:Key)=some (.bl true)->aN wk' (.inr m:Key)=some (.bl true))->∃(o4' o5':Option V) (wk'':List (Key×V)),[some (V.ref p),some (.ref pd),some (.ref lr),some (.ref pw),o4,o5]=[some (.ref p),some (.ref pd),some (.ref lr),some (.ref pw),o4',o5']/\Ex pw H H3/\H3 pw=some (.dK wk'')/\Wk G ns 0 wk''/\(∀m,aN wk'' (.inr m:Key)=some (.bl true)->aN wk (.inr m:Key)=some (.bl true)):=fun x3 h3 w3 k3=>⟨_,_,_,rfl,ex2.trans x3,h3,w3,fun m hm=>k' m (k3 m hm)⟩
  refine ⟨pe,_,rfl,SqT.of hpt,rfl,_,_,rfl,_,_,rfl,rfl,?_⟩
  cases x with
  | clip r cf cl =>
   obtain ⟨a,rfl,ha⟩:=fu tv2
   rw [hI] at hxh
   refine ⟨_,rfl,a,_,_,_,rfl,rfl,SqT.of ha,ad (j:=0) rfl,rfl,_,rfl,iteY (seq _) ?_⟩
   exact ⟨_,rfl,_,rfl,a,lr,prs,r,cf,cl,rfl,ha,A2.rl,A2.uq,hxh.2,fun H3 s3=>nxt (Ex.of s3) (s3 _ _ hk2) W' fun _ h=>h⟩
  | fade m =>
   obtain ⟨a,rfl,ha⟩:=fm tv2
   refine ⟨_,rfl,a,_,_,_,rfl,rfl,SqT.of ha,ad (j:=0) rfl,rfl,_,rfl,iteN sne ?_⟩
   refine ⟨_,rfl,a,_,_,_,rfl,rfl,SqT.of ha,ad (j:=0) rfl,rfl,_,rfl,iteY (seq _) ?_⟩
   exact ⟨_,rfl,_,rfl,p,xs,i,m,rfl,td2,wl,hx,fun H3 s3=>nxt (Ex.of s3) (s3 _ _ hk2) W' fun _ h=>h⟩
  | part n zs =>
   obtain ⟨a,rfl,ha⟩:=fj tv2
   rw [hI] at hxh
   rw [dpI] at hdx
   refine ⟨_,rfl,a,_,_,_,rfl,rfl,SqT.of ha,ad (j:=0) rfl,rfl,_,rfl,iteN sne ?_⟩
   refine ⟨_,rfl,a,_,_,_,rfl,rfl,SqT.of ha,ad (j:=0) rfl,rfl,_,rfl,iteN sne ?_⟩
   refine ⟨_,rfl,a,_,_,_,rfl,rfl,SqT.of ha,ad (j:=0) rfl,rfl,_,rfl,iteY (seq _) ?_⟩
   exact ⟨_,rfl,a,_,_,_,rfl,rfl,SqT.of ha,ad (j:=1) rfl,_,rfl,_,rfl,_,rfl,n,pd,lr,pw,zs,G,ns,prs,wk',rfl,hxh.2,by omega,⟨A2.pr,A2.pa,A2.rl,A2.uq,hk2,A2.wo.mono hdx,A2.ne⟩,fun wk2 H3 x3 h3 w3 k3=>nxt x3 h3 w3 k3⟩
  | times m ys =>
   obtain ⟨a,b,rfl,ha,tb⟩:=dQ tv2
   rw [hI] at hxh
   rw [dpI] at hdx
   have wy:WL ys:=by
    rcases hxw with z | ⟨k,e⟩
    ·cases z with | times h1 h2 h3=>exact h3
    ·cases e
   refine ⟨_,rfl,a,_,_,_,rfl,rfl,SqT.of ha,ad (j:=0) rfl,rfl,_,rfl,iteN sne ?_⟩
   refine ⟨_,rfl,a,_,_,_,rfl,rfl,SqT.of ha,ad (j:=0) rfl,rfl,_,rfl,iteN sne ?_⟩
   refine ⟨_,rfl,a,_,_,_,rfl,rfl,SqT.of ha,ad (j:=0) rfl,rfl,_,rfl,iteN sne ?_⟩
   exact ⟨_,rfl,_,rfl,a,_,_,V.ref b,rfl,rfl,SqT.of ha,rfl,_,rfl,_,rfl,_,rfl,eS (by omega) ⟨b,pd,lr,pw,ys,G,ns,prs,wk',rfl,tb,wy,hxh,⟨A2.pr,A2.pa,A2.rl,A2.uq,hk2,A2.wo.mono (by omega),A2.ne⟩,by omega,fun wk2 H3 x3 h3 w3 k3=>nxt x3 h3 w3 k3⟩⟩
  | back ys =>
   obtain ⟨a,b,rfl,ha,tb⟩:=fy tv2
   rw [hI] at hxh
   rw [dpI] at hdx
   have wy:WL ys:=by
    rcases hxw with z | ⟨k,e⟩
    ·cases z with | back h3=>exact h3
    ·cases e
   refine ⟨_,rfl,a,_,_,_,rfl,rfl,SqT.of ha,ad (j:=0) rfl,rfl,_,rfl,iteN sne ?_⟩
   refine ⟨_,rfl,a,_,_,_,rfl,rfl,SqT.of ha,ad (j:=0) rfl,rfl,_,rfl,iteN sne ?_⟩
   refine ⟨_,rfl,a,_,_,_,rfl,rfl,SqT.of ha,ad (j:=0) rfl,rfl,_,rfl,iteN sne ?_⟩
   exact ⟨_,rfl,_,rfl,a,_,_,V.ref b,rfl,rfl,SqT.of ha,rfl,_,rfl,_,rfl,_,rfl,eS (by omega) ⟨b,pd,lr,pw,ys,G,ns,prs,wk',rfl,tb,wy,hxh,⟨A2.pr,A2.pa,A2.rl,A2.uq,hk2,A2.wo.mono (by omega),A2.ne⟩,by omega,fun wk2 H3 x3 h3 w3 k3=>nxt x3 h3 w3 k3⟩⟩
 ·rintro σ H' ⟨o4,o5,wk',rfl,ex,hk',W',k'⟩
  exact q wk' H' ex hk' W' k'
def mZ (d:Nat):Sp:=fun vs H Q E=>∃(p pd lr:Addr) (xs:List IT.It) (G:Str->List IT.It->Prop) (ns:List Str) (prs:List (Addr×Reel)),vs=[.ref p,.ref pd,.ref lr]/\Td H (.ref p) (.tuple (dL xs))/\WL xs/\hL (Ck prs) G xs/\PR H pd G/\Pa (Ck prs) G ns/\RL H lr prs/\Uq prs/\dpL xs<=d/\∀H',Same H H'->Q (.ref p) H'
theorem u9 {H H1 H2:Hp}{d:Addr}(s:Same H H1) (hd:H d=none) (e:Ex d H1 H2):Same H H2:=fun b o hb=>e b o (by rintro rfl; rw [hd] at hb; cases hb) (s _ _ hb)
theorem uV:aq ["items", "parts", "reels"] ["items", "parts", "reels"] (ak jJ):=⟨rfl,rfl,rfl,by decide +kernel,rfl,by decide +kernel,by decide +kernel⟩
theorem sx {d:Nat}{f:Addr}{fd:Bg}(F:Fun K "sound" "sound" jJ f fd) (dLook:Def P w K mg base (CX1 P w) "look_through" (2*d+7) ["items", "parts", "reels", "within"] (gY d)):aJ P w K mg base (CX1 P w) (2*d+8) f fd ["items", "parts", "reels"] (mZ d):=by
 refine F.okX uV (fun vs H Q E h=>?_) (fun cdv A outer s H vs Q E hr h=>?_)
 ·obtain ⟨p,pd,lr,xs,G,ns,prs,rfl,_⟩:=h
  rfl
 obtain ⟨p,pd,lr,xs,G,ns,prs,rfl,td,wl,hl,pr,pa,rl,uq,hd,q⟩:=h
 refine eK (ag (aO (ap dLook hr bI (aa (e_v 0) (aa (e_v 1) (aa (e_v 2) (aa kg af)))) (hj:=by omega)))
  (ah (aB (e_v 0)))) ?_
 intros
 refine ⟨_,rfl,_,rfl,_,rfl,fun pw hpw=>?_⟩
 have s1:=Same.new hpw (.dK [])
 have ne:pd≠pw:=by
  obtain ⟨k,r,_⟩:=pr
  exact Cg (rdn r hpw)
 refine ⟨p,pd,lr,pw,xs,G,ns,prs,[],rfl,td.tk (TK.of s1),wl,hl,⟨pr.same s1,pa,rl.same s1,uq,ac,⟨List.nodup_nil,(fun k hk=>nomatch hk),(fun n v e=>by cases e),fun n e=>by cases e⟩,ne⟩,hd,fun wk' H2 x2 hw W k=>?_⟩
 exact ⟨_,rfl,q H2 (u9 s1 hpw x2)⟩
end
end K56
namespace L2
open PySem PySem.Spec PyProof.Rows
def Itw (K:AK) (a:Addr) (xs:List V):It :=
 ⟨fun i H=>SqL K H a xs/\i<xs.length,fun i H x H'=>H'=H/\xs.reverse[i]?=some x,fun i H=>SqL K H a xs/\xs.length<=i⟩
theorem pj {P:Program}{w:Bj}{K:AK}{tg:Expr}(a it:Addr) (xs:List V):kn P w K tg (Itw K a xs) [it] it (fun i h=>i<=xs.length/\h.IsRevIter it a ((xs.length:Int)-1-(i:Int))) where
 mem:=by simp
 obj:=fun i h st b hb=>by
  have e:b=it:=by simpa using hb
  subst e
  obtain ⟨_,o,e,c,d⟩:=st
  exact ⟨o,e,fun v z=>by rw [d] at z; cases z⟩
 keep:=fun i h h' st k=>⟨st.1,st.2.at fun o e=>k it (by simp) o e⟩
 item:=by
  intro X hP hw hK hc i pins s σ H E I hf st hg
  subst hP hw hK
  obtain ⟨hq,hx⟩:=hg
  obtain ⟨its,rv,p,hz⟩:=I.list hq
  have hl:=rv.length
  have hj:xs[xs.length-1-i]?=some (xs[xs.length-1-i]'(by omega)):=AN (by omega)
  obtain ⟨u,hu,ru⟩:=rv.get hj
  obtain ⟨f0,f1,f2,f3,f4,f5⟩:=hf it (by simp)
  have e1:(xs.length:Int)-1-(i:Int)=((xs.length-1-i:Nat):Int):=by omega
  have st2:=st.2
  rw [e1] at st2
  refine wpAny_pyNext_rev_item st2 p.isList (x:=u) (by simpa using hu) fun h' st' sb=>?_
  have I1:Inv X pins σ H { s with heap:=h' }:=I.turned (t':=s.toks) (fun b o hb e=>(sb.2 b hb).trans e) f0 f1 f3 f4 f5
  have e2:((xs.length-1-i:Nat):Int)-1=(xs.length:Int)-1-((i+1:Nat):Int):=by omega
  rw [e2] at st'
  obtain ⟨o,e,c,d⟩:=id st'
  refine ⟨u,rfl,lh (s:={ s with heap:=h' }) e c d (by decide) ⟨xs[xs.length-1-i]'(by omega),H,I1,ru,⟨rfl,?_⟩,⟨hx,st'⟩,fun b hb=>(hf b hb).1⟩⟩
  rw [BD hx]
  exact hj
 done:=by
  intro X hP hw hK hc i pins s σ H E I hf st hg
  subst hP hw hK
  obtain ⟨hq,hx⟩:=hg
  obtain ⟨f0,f1,f2,f3,f4,f5⟩:=hf it (by simp)
  have hi:=st.1
  have e1:(xs.length:Int)-1-(i:Int)=-1:=by omega
  have st2:=st.2
  rw [e1] at st2
  exact wpAny_pyNext_rev_end (I.ok.hd hc) st2 fun h' eb=>⟨rfl,I.turned (t':=s.toks) (fun b o hb e=>eb b o hb e) f0 f1 f3 f4 f5⟩
 self:=fun _ _ _ _ _ st h=>wpAny_pyIter_revIter st.2 h
def xq (K:AK) (ta:TA):TI:=fun σ H R=>ta σ H fun vs H1=>∃a xs,vs=[.ref a]/\SqL K H1 a xs/\R (Itw K a xs) H1
section
variable {X:Cx}
theorem vx {tg:Expr}{p pos:Pos}{a:Expr}{ta:TA}(hg:Gl X "reversed") (hm:X.mg "reversed"=none) (hbt:B2 "reversed"=some (.type "reversed")) (ha:PA X [a] ta) (hs:Bz [a] X.env=[(false,eval a X.env)]:=by rfl) :
  PI X tg (.Call (.Name "reversed" p) [a] [] pos) (xq X.K ta):=by
 intro pins s σ H R I h
 refine Call_ (bG I hg hm hbt (BC (thn (ha pos pins s σ H _ I h) fun us s1 ⟨vs,H1,I1,r1,q1⟩=>?_) hs rfl))
 obtain ⟨a,xs,rfl,hq,q⟩:=q1
 obtain ⟨u,rfl,ru⟩:=cT r1
 cases ru
 obtain ⟨its,rv,pl,hz⟩:=I1.list hq
 have hl:=rv.length
 refine call_reversed_list pl.isList ?_
 have e:((its.toArray.size:Nat):Int)-1=(xs.length:Int)-1-((0:Nat):Int):=by rw [AU,<- hl]; omega
 rw [e]
 have it:(s1.heap.push (revObj a ((xs.length:Int)-1-((0:Nat):Int)))).IsRevIter s1.heap.objs.size a ((xs.length:Int)-1-((0:Nat):Int)):=⟨_,A5 _ rfl,rfl,rfl⟩
 refine wpAny_pyIter_revIter it ?_
 refine ⟨s1.heap.objs.size,[s1.heap.objs.size],_,_,H1,rfl,I1.kept (t':=s1.toks) fun b o e=>AJ _ e,pj a _ xs,⟨Bo _,it⟩,fun b hb=>?_,q⟩
 have e:b=s1.heap.objs.size:=by simpa using hb
 subst e
 exact I1.fpOk (AM _) (I1.hok.fresh (AM _))
theorem yT {tg a:Expr}{t:TE}{p pos:Pos}(hm:X.mg "reversed"=none) (ha:QE X a t) (hg:X.env.kindOf "reversed"=some .globalImplicit:=by kernel_rfl) (hs:aw a=true:=by rfl):QI X tg (.Call (.Name "reversed" p) [a] [] pos) (xq X.K (bZ t gB)) :=
 ⟨vx hg hm (by decide +kernel) (pa' ha.h cz hs) ((ar hs).trans rfl)⟩
theorem ua {K:AK}{a:Addr}{xs:List V}{g:TG}{tb:TS}{D:Ends}{σ:St}{H:Hp}(Pv:Nat->St->Hp->Prop) (h0:Pv 0 σ H) (hl:∀i σ H,i<=xs.length->Pv i σ H->SqL K H a xs)
  (hs:∀i x σ H,xs.reverse[i]?=some x->Pv i σ H->g x σ H fun σ2 H2=>tb { D with nx:=Pv (i+1),ct:=Pv (i+1),bk:=D.nx } σ2 H2) (hd:∀ σ H,Pv xs.length σ H->D.nx σ H) :
  ∃W:Nat->Nat->St->Hp->Prop,(∃m,W 0 m σ H)/\∀i m σ H,W i m σ H ->
   ((Itw K a xs).stop i H/\D.nx σ H)\/((Itw K a xs).go i H/\∃N:St->Hp->Prop,(∀ σ' H',N σ' H'->∃m',m'<m/\W (i+1) m' σ' H')/\∀x H',(Itw K a xs).yld i H x H'->g x σ H' fun σ2 H2=>tb { D with nx:=N,ct:=N,bk:=D.nx } σ2 H2):=by
 refine ⟨fun i m σ H=>m=xs.length-i/\i<=xs.length/\Pv i σ H,⟨xs.length,by simp,Bo _,h0⟩,?_⟩
 rintro i m σ H ⟨rfl,hi,p⟩
 have q:=hl i σ H hi p
 by_cases hlt:i<xs.length
 ·refine .inr ⟨⟨q,hlt⟩,Pv (i+1),fun σ' H' p'=>⟨xs.length-(i+1),by omega,rfl,hlt,p'⟩,fun x H' y=>?_⟩
  obtain ⟨rfl,y⟩:=y
  exact hs i x σ _ y p
 ·have e:i=xs.length:=by omega
  subst e
  exact .inl ⟨⟨q,AM _⟩,hd σ H p⟩
end
section
variable {X:Cx}{pos:Pos}{elt iter:Expr}{sc:Scope}{xs ys:List Str}{js:List Nat}{cl:List (Str×Addr)}
end
section
variable {X:Cx}
theorem uD:bV X (.builtin "sum") (fun xs H Q=>∃(a:Addr) (ns:List Int),xs=[.ref a]/\SqL X.K H a (ns.map V.int)/\X.calm=true/\Q (.int ns.sum) H):=by
 intro pins s σ H xs us Q I r h
 obtain ⟨a,ns,rfl,hS,hc,q⟩:=h
 obtain ⟨u,rfl,ru⟩:=cT r
 cases ru
 obtain ⟨its,rv,pl,hz⟩:=I.list hS
 have hlen:its.length=ns.length:=by rw [<- rv.length,AH]
 refine PySem.call_sum_walkAnyS (wpAny_pyIter_list pl.isList ?_)
 have ne:a≠s.heap.objs.size:=by
  obtain ⟨o,e,_⟩:=pl.isList
  exact Bl (A3 e)
 have hh:X.A.in1.handled=none:=I.ok.hd hc
 refine ⟨s.heap.objs.size,_,_,_,_,_,_,fun i=>ns.getD i 0,rfl,(Walks.list hh s.heap.objs.size a ne its.toArray).toS,⟨⟨_,A5 _ rfl,rfl,rfl⟩,?_⟩,?_,?_,?_⟩
 ·obtain ⟨o,e,r⟩:=pl.isList
  exact ⟨o,AJ _ e,r⟩
 ·intro b hb
  have hb:b=s.heap.objs.size\/b=a:=by simpa using hb
  show b<(s.heap.push _).objs.size
  rw [D7]
  obtain ⟨o,e,r⟩:=pl.isList
  have:=A3 e
  rcases hb with rfl | rfl
  ·exact Nat.lt_succ_self _
  ·exact EE this
 ·intro i v hv
  have hv':its[i]?=some v:=by simpa using hv
  have hi:i<its.length:=(AS.mp hv').1
  have hb:ns[i]?=some ns[i]:=AN (by omega)
  obtain ⟨u,hu,ru⟩:=rv.get (i:=i) (x:=V.int ns[i]) (by rw [AR,hb]; rfl)
  rw [hv'] at hu
  cases hu
  obtain ⟨t,rfl⟩:=ru
  exact ⟨t,by show EQ ns[i] t=EQ (ns.getD i 0) t; rw [AT,hb]; rfl⟩
 ·intro s' t' hm
  rw [preSum_getD,AU,hlen,BJ]
  have kp:∀b o,s.heap.get? b=some o->s'.heap.get? b=some o:=fun b o e=>hm.heap b o (by
   rw [Bi]
   exact Bl (A3 e)) (AJ _ e)
  rw [hm.eq_with]
  exact ⟨.int ns.sum,H,I.kept kp,⟨t',rfl⟩,q⟩
end
end L2
namespace K56
open PySem L2 G DT
open IT hiding It
theorem mK {K:AK}{a:Addr}{xs:List V}{H:Hp}{cap:St}{te:TE}{Q:VK}(J:Nat->List V->Hp->Prop) (hJ:∀i zs H' H'',J i zs H'->TK H' H''->J i zs H'') (hS:SqL K H a xs) (hn:xs.length<=sizeLine) (j0:J 0 [] H)
  (el:∀(i:Nat) x zs H' (P:VK),Same H H'->xs[i]?=some x->J i zs H'->(∀y H'',Same H' H''->J (i+1) (zs++[y]) H''->P y H'')->te (some x :: cap) H' P)
  (fin:∀D zs H',Same H H'->H D=none->H' D=some (.lst zs)->zs.length=xs.length->J xs.length zs H'->Q (.ref D) H'):iO (Itl K a) cap te Q H:=by
 intro D hD
 refine ⟨fun i m zs H2=>m=xs.length-i/\i<=xs.length/\zs.length=i/\H2 D=some (.lst zs)/\Same H H2/\J i zs H2,⟨xs.length,rfl,Bo _,rfl,ac,Same.new hD _,hJ _ _ _ _ j0 (TK.new hD _)⟩,?_⟩
 rintro i m zs H2 ⟨rfl,hi,hz,hDz,hS2,hj⟩
 refine ⟨hDz,?_⟩
 by_cases h:i<xs.length
 ·refine .inr ⟨⟨xs,xs[i],hS2.seq hS,AN h⟩,?_⟩
  rintro x H3 ⟨rfl,hx⟩
  refine el i x zs H3 _ hS2 (hx xs (hS2.seq hS)) hj fun y H4 hS4 hj4=>⟨hS4 _ _ hDz,by omega,xs.length-(i+1),by omega,rfl,h,(by rw [AW,hz]; rfl),ac,fun b u q=>?_,hJ _ _ _ _ hj4 (TK.lst (hS4 _ _ hDz))⟩
  rw [aj (am q hD)]
  exact hS4 _ _ (hS2 _ _ q)
 ·have e:i=xs.length:=by omega
  subst e
  exact .inl ⟨⟨xs,hS2.seq hS,AM _⟩,fin D zs H2 hS2 hD hDz hz hj⟩
theorem jw {cs:List Cl}{i:Nat}{d:PyData}(h:(cs.map dC)[i]?=some d):∃c,cs[i]?=some c/\d=dC c:=by
 rw [AR] at h
 cases e:cs[i]? with
 | none=>rw [e] at h; cases h
 | some c=>rw [e] at h; exact ⟨c,rfl,(Ba h).symm⟩
def frC (c:Cl):Int:=(if c.l-c.f<0 then -(c.l-c.f) else c.l-c.f)+1
def frS (cs:List Cl):Int:=(cs.map frC).sum
def aA:Int->List Cl->Int
 | a,[]=>a
 | _,c :: r=>aA c.d r
theorem i8:∀(a:Int) (p:List Cl) (c:Cl),revA a (p++[c])=revA a p++[⟨c.r,c.l,c.f,aA a p⟩]
 | a,[],c=>rfl
 | a,x :: r,c=>by rw [Ce,revA,revA,i8 x.d r c,aA]; rfl
theorem oZ:∀(a:Int) (p:List Cl) (c:Cl),aA a (p++[c])=c.d
 | a,[],c=>rfl
 | a,x :: r,c=>by rw [Ce,aA,oZ]
def fdA (cs:List Cl) (k:Nat):Int:=((cs.map Cl.d)++[0]).getD k 0
def bad (cs:List Cl) (k:Nat):Prop:=∃c,cs[k]?=some c/\frC c<fdA cs k+fdA cs (k+1)
theorem aZ {α:Type}{l:List α}{i:Nat}{x:α}(h:l[i]?=some x):l.take (i+1)=l.take i++[x]:=by rw [Cy,h]; rfl
section
variable {P:Program}{w:Bj}{K:AK}{mg:Str->Option Value}{base:Heap}
def lQ:Sp:=fun vs H Q _=>∃(v:V) (c:Cl),vs=[v]/\Td H v (dC c)/\Q (.int (frC c)) H
theorem xO:aq ["clip"] ["clip"] (ak dW):=⟨rfl,rfl,rfl,by decide +kernel,rfl,by decide +kernel,by decide +kernel⟩
theorem vN {f:Addr}{fd:Bg}(F:Fun K "frames_in" "frames_in" dW f fd) (n_abs:mg "abs"=none):aJ P w K mg base CX0 1 f fd ["clip"] lQ:=by
 refine F.ok xO (fun vs H Q E h=>?_) (fun cdv A outer s H vs Q E hr h=>?_)
 ·obtain ⟨v,c,rfl,_⟩:=h
  rfl
 obtain ⟨v,c,rfl,ht,q⟩:=h
 refine dN (ah (aB (aD aV (e_b d7 n_abs (by decide +kernel) (aa (aD bL (au ao (e_v 0) ae) (au ao (e_v 0) ae)) af)) ae))) ?_
 obtain ⟨a,rfl,ha⟩:=gU ht
 exact ⟨_,rfl,a,_,_,_,rfl,rfl,SqT.of ha,ad (j:=2) rfl,_,rfl,a,_,_,_,rfl,rfl,SqT.of ha,ad (j:=1) rfl,_,_,rfl,rfl,_,rfl,_,_,rfl,rfl,q⟩
def nw:Sp:=fun vs H Q _=>∃(l:Addr) (cs:List Cl),vs=[.ref l]/\CL H l cs/\cs.length<=10000/\∀l' H',Same H H'->H l'=none->CL H' l' (rev cs)->Q (.ref l') H'
theorem scBackw:aq ["clips", "told", "ahead", "reel", "first", "last", "fade"] ["clips"] (ak dX):=⟨rfl,rfl,rfl,by decide +kernel,rfl,by decide +kernel,by decide +kernel⟩
theorem sQ {f:Addr}{fd:Bg}(F:Fun K "backwards" "backwards" dX f fd) (n_reversed:mg "reversed"=none):aJ P w K mg base CX0 1 f fd ["clips"] nw:=by
 refine F.ok scBackw (fun vs H Q E h=>?_) (fun cdv A outer s H vs Q E hr h=>?_)
 ·obtain ⟨l,cs,rfl,_⟩:=h
  rfl
 obtain ⟨ls,cs,rfl,⟨us,hus,tus⟩,hlen,q⟩:=h
 refine kB (ag (ax (i:=1) scBackw.nd (aW af))
  (ag (ax (i:=2) scBackw.nd ae)
  (ag (bv BM rfl (yT n_reversed (e_v 0)) (fM rfl (aM (aC (i:=3) scBackw.nd) (aM (aC (i:=4) scBackw.nd) (aM (aC (i:=5) scBackw.nd) (aM (aC (i:=6) scBackw.nd) dA)))))
   (ag (aO (bn (e_v 1) (ba (aa (e_v 3) (aa (e_v 5) (aa (e_v 4) (aa (e_v 2) af)))))))
   (ah (ax (i:=2) scBackw.nd (e_v 6)))))
  (ah (aB (e_v 1)))))) ?_
 intros
 have zl:sizeLine=16777216:=A9
 have lu:us.length=cs.length:=by rw [tus.len,AH]
 refine ⟨(by show 0<=sizeLine; decide),fun pm hpm=>?_⟩
 have s0:=Same.new hpm (.lst [])
 refine ⟨_,rfl,ls,_,rfl,SqL.of (s0 _ _ hus),ua (K:=K) (a:=ls) (xs:=us) (fun i σ H'=>∃(o3 o4 o5 o6:Option V),σ=[some (.ref ls),some (.ref pm),some (.int (aA 0 (cs.reverse.take i))),o3,o4,o5,o6]/\CL H' pm (revA 0 (cs.reverse.take i))/\Same H H') ⟨none,none,none,none,rfl,⟨[],ac,by rw [BS]; exact .nil⟩,s0⟩ (fun i σ H' _ ⟨_,_,_,_,_,_,sm⟩=>SqL.of (sm _ _ hus)) ?_ ?_⟩
 ·rintro i v σ H' hv ⟨o3,o4,o5,o6,rfl,⟨ws,hws,tws⟩,sm⟩
  obtain ⟨dd,hd,tv⟩:=(tus.rev.tk (TK.of sm)).get hv
  rw [<- DJ] at hd
  obtain ⟨c,hc,rfl⟩:=jw hd
  obtain ⟨t,rfl,ht⟩:=gU tv
  have lw:ws.length=(revA 0 (cs.reverse.take i)).length:=by rw [tws.len,AH]
  have lr:(revA 0 (cs.reverse.take i)).length<=cs.length:=by
   have key:∀(a:Int) (p:List Cl),(revA a p).length=p.length:=by
    intro a p
    induction p generalizing a with
    | nil=>rfl
    | cons x r ih=>rw [revA,AZ,AZ,ih]
   rw [key,BA,A7]
   omega
  refine ⟨t,_,rfl,SqT.of ht,rfl,_,_,rfl,_,_,rfl,_,_,rfl,_,_,rfl,rfl,?_⟩
  refine ⟨_,rfl,.inl ⟨rfl,_,SqL.of hws⟩,_,rfl,_,rfl,_,rfl,_,rfl,(by show 4<=sizeLine; decide),fun p1 hp1=>?_⟩
  have t1:=Same.new hp1 (.tup [.str c.r,.int c.l,.int c.f,.int (aA 0 (cs.reverse.take i))])
  refine ⟨pm,_,_,rfl,rfl,t1 _ _ hws,by omega,?_⟩
  refine ⟨_,rfl,_,_,_,_,(by rw [aZ hc,oZ]; rfl),⟨ws++[.ref p1],ac,?_⟩,fun b ob hb=>?_⟩
  ·rw [aZ hc,i8,A8]
   exact ((tws.tk (TK.of t1)).app (Tds.one (kY (c:=⟨c.r,c.l,c.f,aA 0 (cs.reverse.take i)⟩) ac))).tk (TK.lst (t1 _ _ hws))
  ·rw [aj (am hb hpm)]
   exact t1 _ _ (sm _ _ hb)
 ·rintro σ H' ⟨o3,o4,o5,o6,rfl,cl,sm⟩
  rw [lu,show cs.length=cs.reverse.length by rw [A7],BJ] at cl
  exact ⟨_,rfl,q pm H' sm hpm cl⟩
def iZ:Sp:=fun vs H Q _=>∃(l:Addr) (cs:List Cl) (m:Int),vs=[.ref l,.int m]/\CL H l cs/\cs.length<=10000/\∀l' H',Same H H'->H l'=none->CL H' l' (bp m cs)->Q (.ref l') H'
theorem pJ:aq ["clips", "many"] ["clips", "many"] (ak eY):=⟨rfl,rfl,rfl,by decide +kernel,rfl,by decide +kernel,by decide +kernel⟩
theorem l5 {f:Addr}{fd:Bg}(F:Fun K "faded_in" "faded_in" eY f fd):aJ P w K mg base CX0 1 f fd ["clips", "many"] iZ:=by
 refine F.ok pJ (fun vs H Q E h=>?_) (fun cdv A outer s H vs Q E hr h=>?_)
 ·obtain ⟨l,cs,m,rfl,_⟩:=h
  rfl
 obtain ⟨ls,cs,m,rfl,⟨us,hus,tus⟩,hlen,q⟩:=h
 refine dN (ah (aB (aD l4 (ki ["many"] [1] [("many",s.heap.objs.size+1)] rfl ⟨rfl,rfl,rfl,rfl,trivial⟩ ⟨rfl,trivial⟩ (cC (ge de (e_v 0) cB (bj ae))) (fun _ _ _ _=>(aD fF (ge eg (e_n 0) cB (bj ae)) (ba (aa (e_n 1) af))))) (ge de (e_v 0) (bj ae) cB)))) ?_
 have zl:sizeLine=16777216:=A9
 have lu:us.length=cs.length:=by rw [tus.len,AH]
 refine ⟨_,rfl,_,rfl,ls,_,rfl,SqL.of hus,fun p1 hp1=>?_⟩
 rw [jt]
 have t1:=Same.new hp1 (.lst (us.take 1))
 have hp11:=ac (H:=H) (a:=p1) (o:=.lst (us.take 1))
 generalize upd H p1 (.lst (us.take 1))=H1 at t1 hp11 ⊢
 refine ⟨p1,rfl,⟨_,SqL.of hp11⟩,mK (K:=K) (fun i zs H'=>Tds H' zs ((bp m (cs.take i)).map dC)) (fun i zs H' H'' h k=>h.tk k) (SqL.of hp11) (by rw [BA]; omega) (by rw [BS]; exact .nil) ?_ ?_⟩
 ·intro i x zs H' R sH hx hz hR
  have hi:i=0:=by
   have:=(AS.mp hx).1
   rw [BA] at this
   omega
  subst hi
  rw [List.getElem?_take,if_pos (by decide)] at hx
  obtain ⟨dd,hd,tv⟩:=(tus.tk (TK.of (t1.trans sH))).get hx
  obtain ⟨c,hc,rfl⟩:=jw hd
  obtain ⟨t,rfl,ht⟩:=gU tv
  rw [BS] at hz
  cases hz
  refine ⟨_,rfl,_,rfl,t,_,rfl,ht,fun pt H2 s2 hpt=>?_⟩
  have ecut:bH [V.str c.r,.int c.f,.int c.l,.int c.d] none (some 3)=[.str c.r,.int c.f,.int c.l]:=rfl
  rw [ecut] at hpt
  refine ⟨_,rfl,(by show 1<=sizeLine; decide),fun pu hpu=>⟨pt,pu,_,_,rfl,rfl,Same.new hpu _ _ _ hpt,ac,(by show 4<=sizeLine; decide),fun pv H3 s3 hpv=>?_⟩⟩
  refine hR _ _ (s2.trans ((Same.new hpu _).trans s3)) ?_
  obtain ⟨c0,r,rfl⟩:∃c0 r,cs=c0 :: r:=by
   cases cs with
   | nil=>cases hc
   | cons a b=>exact ⟨a,b,rfl⟩
  cases hc
  exact Tds.one (kY (c:=⟨c.r,c.f,c.l,m⟩) hpv)
 ·intro D zs H2 s2 hD0 hD hzl hz
  refine ⟨_,rfl,_,rfl,ls,_,rfl,SqL.of ((t1.trans s2) _ _ hus),fun p2 hp2=>?_⟩
  have ec:bH us (some 1) none=us.drop 1:=lD us 1
  rw [ec]
  have t3:=Same.new hp2 (.lst (us.drop 1))
  refine ⟨D,p2,_,_,rfl,rfl,t3 _ _ hD,ac,(by rw [hzl,BA,Cq]; omega),fun p3 hp3=>?_⟩
  have t4:=Same.new hp3 (.lst (zs++us.drop 1))
  have S2:=t1.trans s2
  refine q p3 _ (S2.trans (t3.trans t4)) ((S2.trans t3).free hp3) ⟨_,ac,?_⟩
  have e:(bp m cs).map dC=(bp m (cs.take (us.take 1).length)).map dC++(cs.map dC).drop 1:=by
   cases cs with
   | nil=>rw [EZ]; rfl
   | cons c r =>
    have:(us.take 1).length=1:=by rw [BA,lu,AZ]; omega
    rw [this]
    rfl
  rw [e]
  exact (hz.tk (TK.of (t3.trans t4))).app ((tus.drop 1).tk (TK.of (S2.trans (t3.trans t4))))
def gH (CT:Addr):Sp:=fun vs H Q E=>∃n m:Int,vs=[.int n,.int m]/\(n<=m->Q .non H)/\(m<n->E (.ref CT) none H)
theorem uW:aq ["number", "most"] ["number", "most"] (ak cP):=⟨rfl,rfl,rfl,by decide +kernel,rfl,by decide +kernel,by decide +kernel⟩
theorem sB {f CT:Addr}{fd:Bg}(F:Fun K "refuse_many" "refuse_many" cP f fd) (m_TooMany:mg "TooMany"=some (.ref CT)) (q_TooMany:C8 K CT bmVE "ValueError.__new__"=true):aJ P w K mg base (CX1 P w) 1 f fd ["number", "most"] (gH CT):=by
 refine F.okX uW (fun vs H Q E h=>?_) (fun cdv A outer s H vs Q E hr h=>?_)
 ·obtain ⟨n,m,rfl,_⟩:=h
  rfl
 obtain ⟨n,m,rfl,q,e⟩:=h
 refine dN (ah (bb (aK i_ (e_v 0) (e_v 1))
   (ah (jL m_TooMany q_TooMany (aa aS af)))
   aI)) ?_
 refine ⟨_,rfl,_,rfl,_,_,rfl,rfl,_,rfl,fc (fun c=>⟨by decide,e ?_⟩) (fun c=>q ?_)⟩
 ·have:=of_decide_eq_true c
  omega
 ·have:¬ n > m:=fun z=>c (decide_eq_true z)
  omega
end
section
variable {P:Program}{w:Bj}{K:AK}{mg:Str->Option Value}{base:Heap}
theorem u6:aq ["self", "number"] ["self", "number"] (ak bA):=⟨rfl,rfl,rfl,by decide +kernel,rfl,by decide +kernel,by decide +kernel⟩
theorem sM {f C:Addr}{fd:Bg}(F:Fun K "__init__" "TooShort.__init__" bA f fd) (XC:uH K C) (XN:XNo K C "number"):aJ P w K mg base CX0 1 f fd ["self", "number"] (gZ C "number"):=by
 refine F.ok u6 (fun vs H Q E h=>?_) (fun cdv A outer s0 H vs Q E hr h=>?_)
 ·obtain ⟨a,y,rfl,_⟩:=h
  rfl
 obtain ⟨a,y,rfl,hH,q⟩:=h
 refine dN (ah (jI (e_v 0) (e_v 1))) ?_
 exact ⟨_,rfl,_,rfl,a,C,rfl,XC,XN,.inl ⟨hH,fun dx n1 n2=>q dx n1 n2⟩⟩
theorem xw {cs:List Cl}{k:Nat}(h:k<=cs.length):atI ((cs.map fun c=>V.int c.d)++[V.int 0]) ((k:Nat):Int)=some (.int (fdA cs k)):=by
 refine ad ?_
 have e:((cs.map fun c=>V.int c.d)++[V.int 0])=((cs.map Cl.d)++[0]).map V.int:=by rw [A8,B5]; rfl
 rw [e,AR]
 unfold fdA
 have hl:k<((cs.map Cl.d)++[0]).length:=by rw [AW,AH,BU]; omega
 rw [AT,AN hl]
 rfl
def kH (CS:Addr):Sp:=fun vs H Q E=>∃(l:Addr) (cs:List Cl),vs=[.ref l]/\CL H l cs/\cs.length<=10000/\(∀k,bad cs k->(∀j<k,¬ bad cs j)->∀H' dx,Same H H'->H' dx=some (xdO dx [("number",.int (k:Int))])->E (.ref CS) (some dx) H')/\((∀k,¬ bad cs k)->∀H',Same H H'->Q .non H')
theorem scRShort:aq ["clips", "fades", "number", "clip"] ["clips"] (ak cg):=⟨rfl,rfl,rfl,by decide +kernel,rfl,by decide +kernel,by decide +kernel⟩
theorem pV {f CS fI:Addr}{fd fdI:Bg}(F:Fun K "refuse_short" "refuse_short" cg f fd) (dFrIn:Def P w K mg base CX0 "frames_in" 1 ["clip"] lQ) (n_enumerate:mg "enumerate"=none)
  (m_TooShort:mg "TooShort"=some (.ref CS)) (R_TooShort:fe K CS fI) (G_TooShort:aJ P w K mg base CX0 1 fI fdI ["self", "number"] (gZ CS "number")) (b_TooShort:Binds K fdI ["self", "number"] []):aJ P w K mg base (CX1 P w) 3 f fd ["clips"] (kH CS):=by
 refine F.okX scRShort (fun vs H Q E h=>?_) (fun cdv A outer s H vs Q E hr h=>?_)
 ·obtain ⟨l,cs,rfl,_⟩:=h
  rfl
 obtain ⟨ls,cs,rfl,⟨us,hus,tus⟩,hlen,e,q⟩:=h
 refine eK (ag (ax (i:=1) scRShort.nd (aD l4 (ki [] [] [] rfl trivial trivial (cC (e_v 0)) (fun _ _ _ _=>(au (v9 (K:=K) rfl) (e_n 0) ae))) (aW (aa ae af))))
  (ah (bv B9.leaving rfl (mC n_enumerate (e_v 0)) (fM rfl (aM (aC (i:=2) scRShort.nd) (aM (aC (i:=3) scRShort.nd) dA)))
   (ah (bb (aK gk (ap dFrIn hr aF (aa (e_v 3) af)) (aD aV (au aE (e_v 1) (e_v 2)) (au aE (e_v 1) (aD aV (e_v 2) ae))))
    (ah (fB m_TooShort R_TooShort G_TooShort hr b_TooShort (aa (e_v 2) af)))
    aI))))) ?_
 intros
 have zl:sizeLine=16777216:=A9
 have lu:us.length=cs.length:=by rw [tus.len,AH]
 refine ⟨_,rfl,ls,rfl,⟨_,SqL.of hus⟩,ju (K:=K) (cs.map fun c=>V.int c.d) (SqL.of hus) (by omega) (by rw [AH,lu]) ?_ ?_⟩
 ·intro i x y H' R sH hx hy hR
  obtain ⟨dd,hd,tv⟩:=(tus.tk (TK.of sH)).get hx
  obtain ⟨c,hc,rfl⟩:=jw hd
  obtain ⟨t,rfl,ht⟩:=gU tv
  rw [AR,hc] at hy
  cases hy
  exact ⟨_,rfl,t,_,_,_,rfl,rfl,SqT.of ht,ad (j:=3) rfl,hR _ (Same.refl _)⟩
 intro p1 H1 s1 hp10 hp1
 refine ⟨(by show 1<=sizeLine; decide),fun p2 hp2=>?_⟩
 have t2:=Same.new hp2 (.lst [.int 0])
 refine ⟨p1,p2,_,_,rfl,rfl,t2 _ _ hp1,ac,(by show ((cs.map fun c=>V.int c.d)).length+1<=sizeLine; rw [AH]; omega),fun p3 hp3=>?_⟩
 have t3:=Same.new hp3 (.lst ((cs.map fun c=>V.int c.d)++[V.int 0]))
 have S3:=s1.trans (t2.trans t3)
 have hp33:=ac (H:=upd H1 p2 (.lst [.int 0])) (a:=p3) (o:=.lst ((cs.map fun c=>V.int c.d)++[V.int 0]))
 generalize upd (upd H1 p2 (.lst [.int 0])) p3 (.lst ((cs.map fun c=>V.int c.d)++[V.int 0]))=H3 at S3 hp33 ⊢
 refine ⟨_,rfl,ls,rfl,⟨_,SqL.of (S3 _ _ hus)⟩,iB (K:=K) (a:=ls) (xs:=us) (fun i σ H'=>∃(o2 o3:Option V),σ=[some (.ref ls),some (.ref p3),o2,o3]/\Same H3 H'/\∀j<i,¬ bad cs j) ⟨none,none,rfl,Same.refl _,fun j hj=>absurd hj (Nat.not_lt_zero _)⟩ (fun i σ H' _ ⟨_,_,_,sm,_⟩=>SqL.of ((S3.trans sm) _ _ hus)) ?_ ?_⟩
 ·rintro i x σ H' pe hx ⟨o2,o3,rfl,sm,nb⟩ hpe
  have te:=Same.new hpe (.tup [.int (i:Int),x])
  have hi:i<us.length:=(AS.mp hx).1
  have S4:=sm.trans te
  obtain ⟨dd,hd,tv⟩:=(tus.tk (TK.of (S3.trans S4))).get hx
  obtain ⟨c,hc,rfl⟩:=jw hd
  have hp34:=S4 _ _ hp33
  refine ⟨pe,_,rfl,SqT.of ac,rfl,_,_,rfl,_,_,rfl,rfl,?_⟩
  generalize upd H' pe (.tup [.int (i:Int),x])=H4 at S4 tv hp34 ⊢
  refine ⟨_,rfl,x,c,rfl,tv,_,rfl,_,rfl,p3,_,_,_,rfl,rfl,SqL.of hp34,xw (by omega),_,rfl,_,rfl,_,_,rfl,rfl,p3,_,_,_,rfl,rfl,SqL.of hp34,(by show atI _ ((i:Int)+1)=_; rw [show ((i:Int)+1)=((i+1:Nat):Int) by omega]; exact xw (by omega)),_,_,rfl,rfl,_,_,rfl,rfl,_,rfl,fc (fun z=>?_) (fun z=>?_)⟩
  ·have hb:bad cs i:=⟨c,hc,of_decide_eq_true z⟩
   refine ⟨_,rfl,(by show 1<=sizeLine; decide),fun a ha=>⟨a,_,rfl,ac,fun dx n1 n2=>⟨rfl,some dx,ac,?_⟩⟩⟩
   obtain ⟨r1,r2⟩:=nM (x:=xdO dx [("number",V.int (i:Int))]) (o':=eD a CS (some dx)) (S3.trans S4) ha n1 n2
   exact e i hb nb _ dx r1 r2
  ·refine ⟨_,_,rfl,S4,fun j hj=>?_⟩
   by_cases hji:j<i
   ·exact nb j hji
   ·have:j=i:=by omega
    subst this
    rintro ⟨c',hc',hb⟩
    rw [hc] at hc'
    cases hc'
    exact z (decide_eq_true hb)
 ·rintro σ H' ⟨o2,o3,rfl,sm,nb⟩
  refine q (fun k hk=>?_) H' (S3.trans sm)
  obtain ⟨c,hc,_⟩:=id hk
  exact nb k (by have:=(AS.mp hc).1; omega) hk
structure uK (CT CS:Addr) (cs:List Cl) (H:Hp) (E:XK) (R:Hp->Prop):Prop where
 many:100<cs.length\/2000<frS cs->∀H',Same H H'->E (.ref CT) none H'
 short:cs.length<=100->frS cs<=2000->∀k,bad cs k->(∀j<k,¬ bad cs j)->∀H' dx,Same H H'->H' dx=some (xdO dx [("number",.int (k:Int))])->E (.ref CS) (some dx) H'
 good:cs.length<=100->frS cs<=2000->(∀k,¬ bad cs k)->∀H',Same H H'->R H'
def m8 (CT CS:Addr):Sp:=fun vs H Q E=>∃(l:Addr) (cs:List Cl),vs=[.ref l]/\CL H l cs/\cs.length<=10000/\uK CT CS cs H E (Q .non)
theorem uX:aq ["clips"] ["clips"] (ak cQ):=⟨rfl,rfl,rfl,by decide +kernel,rfl,by decide +kernel,by decide +kernel⟩
theorem sC {f CT CS:Addr}{fd:Bg}(F:Fun K "refuse_film" "refuse_film" cQ f fd) (dRMany:Def P w K mg base (CX1 P w) "refuse_many" 1 ["number", "most"] (gH CT)) (dRShort:Def P w K mg base (CX1 P w) "refuse_short" 3 ["clips"] (kH CS)) (dFrIn:Def P w K mg base CX0 "frames_in" 1 ["clip"] lQ) (n_len:mg "len"=none) (n_sum:mg "sum"=none)
  {tMC tMF:Tok}(mMC:mg "MOST_CLIPS"=some (.int 100 tMC)) (mMF:mg "MOST_FRAMES"=some (.int 2000 tMF)):aJ P w K mg base (CX1 P w) 4 f fd ["clips"] (m8 CT CS):=by
 refine F.okX uX (fun vs H Q E h=>?_) (fun cdv A outer s H vs Q E hr h=>?_)
 ·obtain ⟨l,cs,rfl,_⟩:=h
  rfl
 obtain ⟨ls,cs,rfl,cl,hlen,fq⟩:=h
 refine eJ (ag (aO (ap dRMany hr bI (aa (e_b aH n_len Cc (aa (e_v 0) af)) (aa (qm (v:=.int 100) mMC ⟨_,rfl⟩) af)) (hj:=by omega)))
  (ag (aO (ap dRMany hr bI (aa (e_b uD n_sum (by decide +kernel) (aa (ki [] [] [] rfl trivial trivial (cC (e_v 0)) (fun _ _ _ _=>(ap dFrIn hr aF (aa (e_n 0) af) (hj:=by omega)))) af)) (aa (qm (v:=.int 2000) mMF ⟨_,rfl⟩) af)) (hj:=by omega)))
  (ah (aO (ap dRShort hr bI (aa (e_v 0) af) (hj:=by omega)))))) ?_
 intros
 obtain ⟨us,hus,tus⟩:=id cl
 have zl:sizeLine=16777216:=A9
 have lu:us.length=cs.length:=by rw [tus.len,AH]
 refine ⟨_,rfl,ls,_,rfl,.inl (SqL.of hus),_,_,rfl,fun h1=>?_,fun h1=>fq.many (.inl (by omega)) H (Same.refl _)⟩
 have c1:cs.length<=100:=by omega
 refine ⟨_,rfl,ls,rfl,⟨_,SqL.of hus⟩,ju (K:=K) ((cs.map frC).map V.int) (SqL.of hus) (by omega) (by rw [AH,AH,lu]) ?_ ?_⟩
 ·intro i x y H' R sH hx hy hR
  obtain ⟨dd,hd,tv⟩:=(tus.tk (TK.of sH)).get hx
  obtain ⟨c,hc,rfl⟩:=jw hd
  rw [AR,AR,hc] at hy
  cases hy
  exact ⟨_,rfl,x,c,rfl,tv,hR _ (Same.refl _)⟩
 intro p1 H1 s1 hp10 hp1
 refine ⟨p1,cs.map frC,rfl,SqL.of hp1,rfl,_,_,rfl,fun h2=>?_,fun h2=>fq.many (.inr h2) H1 s1⟩
 have cl1:CL H1 ls cs:=⟨us,s1 _ _ hus,tus.tk (TK.of s1)⟩
 exact ⟨_,rfl,ls,cs,rfl,cl1,hlen,fun k hb nb H' dx s' hdx=>fq.short c1 h2 k hb nb H' dx (s1.trans s') hdx,fun nb H' s'=>fq.good c1 h2 nb H' (s1.trans s')⟩
end
section
variable {P:Program}{w:Bj}{K:AK}{mg:Str->Option Value}{base:Heap}
def cU (CT:Addr) (d:Nat):Sp:=fun vs H Q E=>∃(a pd:Addr) (xs:List IT.It) (T:Str->Int->Int->Prop) (G:Str->List IT.It->Prop) (ns:List Str),vs=[.ref a,.ref pd]/\Td H (.ref a) (.tuple (dL xs))/\PR H pd G/\Pa T G ns/\hL T G xs/\WL xs/\dpL xs<=d /\
 (cnL xs<=100->∀l H',Same H H'->H l=none->CL H' l (flL xs)->Q (.ref l) H')/\(100<cnL xs->∀H',Same H H'->E (.ref CT) none H')
def g0 (CT:Addr):Nat->Sp
 | 0=>fun _ _ _ _=>False
 | d+1=>cU CT d
theorem cN {CT:Addr}{d:Nat}{vs:List V}{H:Hp}{Q:VK}{E:XK}(h:0<d) (z:cU CT (d-1) vs H Q E):g0 CT d vs H Q E:=by
 cases d with
 | zero=>exact absurd h (Cm _)
 | succ d=>exact z
def kJ (CT:Addr) (d:Nat):Sp:=fun vs H Q E=>∃(v:V) (pd:Addr) (x:IT.It) (T:Str->Int->Int->Prop) (G:Str->List IT.It->Prop) (ns:List Str),vs=[v,.ref pd]/\Td H v (dI x)/\PR H pd G/\Pa T G ns/\hI T G x/\WI x/\dpI x<=d /\
 (cnI x<=100->∀l H',Same H H'->H l=none->CL H' l (flI x)->Q (.ref l) H')/\(100<cnI x->∀H',Same H H'->E (.ref CT) none H')
theorem scClipsI:aq ["item", "parts", "clips"] ["item", "parts"] (ak bX):=⟨rfl,rfl,rfl,by decide +kernel,rfl,by decide +kernel,by decide +kernel⟩
theorem jb {d:Nat}{f CT:Addr}{fd:Bg}(F:Fun K "clips_of_item" "clips_of_item" bX f fd) (dClipsOf:Def P w K mg base (CX1 P w) "clips_of" (2*d+1) ["items", "parts"] (g0 CT d)) (dRMany:Def P w K mg base (CX1 P w) "refuse_many" 1 ["number", "most"] (gH CT)) (dBackw:Def P w K mg base CX0 "backwards" 1 ["clips"] nw) (n_len:mg "len"=none)
  {tMC:Tok}(mMC:mg "MOST_CLIPS"=some (.int 100 tMC)):aJ P w K mg base (CX1 P w) (2*d+2) f fd ["item", "parts"] (kJ CT d):=by
 refine F.okX scClipsI (fun vs H Q E h=>?_) (fun cdv A outer s H vs Q E hr h=>?_)
 ·obtain ⟨v,pd,x,T,G,ns,rfl,_⟩:=h
  rfl
 obtain ⟨v,pd,x,T,G,ns,rfl,tv,pr,pa,hx,wx,hd,q,e⟩:=h
 refine wO (ag (bb (aK bf (au ao (e_v 0) ae) aS)
   (ah (aB (aW (aa (ba (aa (au ao (e_v 0) ae) (aa (au ao (e_v 0) ae) (aa (au ao (e_v 0) ae) (aa ae af))))) af))))
   aI)
  (ag (bb (aK bf (au ao (e_v 0) ae) aS)
   (ah (aB (ap dClipsOf hr bI (aa (uh (fK hr) (e_v 1) (au ao (e_v 0) ae)) (aa (e_v 1) af)) (hj:=by omega))))
   aI)
  (ag (ax (i:=2) scClipsI.nd (ap dClipsOf hr bI (aa (au ao (e_v 0) (fP bD ae)) (aa (e_v 1) af)) (hj:=by omega)))
  (ag (bb (aK bf (au ao (e_v 0) ae) aS)
   (ah (aB (ap dBackw hr aF (aa (e_v 2) af) (hj:=by omega))))
   aI)
  (ag (aO (ap dRMany hr bI (aa (aD f6 (e_b aH n_len Cc (aa (e_v 2) af)) (au ao (e_v 0) ae)) (aa (qm (v:=.int 100) mMC ⟨_,rfl⟩) af)) (hj:=by omega)))
  (ah (aB (aD su (e_v 2) (au ao (e_v 0) ae))))))))) ?_
 intros
 have zl:sizeLine=16777216:=A9
 cases x with
 | fade m=>cases wx
 | clip r cf cl =>
  obtain ⟨a,rfl,ha⟩:=fu tv
  refine ⟨_,rfl,a,_,_,_,rfl,rfl,SqT.of ha,ad (j:=0) rfl,rfl,_,rfl,iteY (seq _) ?_⟩
  refine ⟨_,rfl,a,_,_,_,rfl,rfl,SqT.of ha,ad (j:=1) rfl,_,rfl,a,_,_,_,rfl,rfl,SqT.of ha,ad (j:=2) rfl,_,rfl,a,_,_,_,rfl,rfl,SqT.of ha,ad (j:=3) rfl,(by show 4<=sizeLine; decide),fun pt hpt=>⟨(by show 1<=sizeLine; decide),fun lm hlm=>?_⟩⟩
  have tt:=Same.new hpt (.tup [.str r,.int cf,.int cl,.int 0])
  have tl:=Same.new hlm (.lst [.ref pt])
  refine q (by rw [cnI]; decide) lm _ (tt.trans tl) (tt.free hlm) ⟨_,ac,?_⟩
  rw [flI]
  exact .one (kY (c:=⟨r,cf,cl,0⟩) (tl _ _ ac))
 | part n ys =>
  obtain ⟨a,rfl,ha⟩:=fj tv
  rw [hI] at hx
  rw [dpI] at hd
  obtain ⟨b,hg,tb⟩:=pr.get hx.2
  refine ⟨_,rfl,a,_,_,_,rfl,rfl,SqT.of ha,ad (j:=0) rfl,rfl,_,rfl,iteN sne ?_⟩
  refine ⟨_,rfl,a,_,_,_,rfl,rfl,SqT.of ha,ad (j:=0) rfl,rfl,_,rfl,iteY (seq _) ?_⟩
  refine ⟨_,rfl,_,rfl,a,_,_,_,rfl,rfl,SqT.of ha,ad (j:=1) rfl,pd,_,rfl,hg,_,rfl,cN (by omega) ⟨b,pd,ys,T,G,ns,rfl,tb,pr,pa,pa.ok n ys hx.2,pa.wl n ys hx.2,by omega,fun hc l H2 s2 hl cl=>?_,fun hc H2 s2=>?_⟩⟩
  ·rw [<- fO n ys] at cl
   exact q (by rw [cnI]; exact hc) l H2 s2 hl cl
  ·exact e (by rw [cnI]; exact hc) H2 s2
 | times k ys =>
  obtain ⟨a,b,rfl,ha,tb⟩:=dQ tv
  rw [hI] at hx
  rw [dpI] at hd
  obtain ⟨k1,k2,wy⟩:1<=k/\k<=20/\WL ys:=by cases wx with | times h1 h2 h3=>exact ⟨h1,h2,h3⟩
  have cp:=ez wy
  have ck:1*cnL ys<=k*cnL ys:=Int.mul_le_mul_of_nonneg_right k1 (by omega)
  have lcn:=cM wy
  refine ⟨_,rfl,a,_,_,_,rfl,rfl,SqT.of ha,ad (j:=0) rfl,rfl,_,rfl,iteN sne ?_⟩
  refine ⟨_,rfl,a,_,_,_,rfl,rfl,SqT.of ha,ad (j:=0) rfl,rfl,_,rfl,iteN sne ?_⟩
  refine ⟨_,rfl,_,rfl,a,_,_,_,rfl,rfl,SqT.of ha,qx,_,rfl,cN (by omega) ⟨b,pd,ys,T,G,ns,rfl,tb,pr,pa,hx,wy,by omega,fun hc l H2 s2 hl cl=>?_,fun hc H2 s2=>e (by rw [cnI]; omega) H2 s2⟩⟩
  obtain ⟨us,hus,tus⟩:=id cl
  have lu:us.length=(flL ys).length:=by rw [tus.len,AH]
  have ha2:=s2 _ _ ha
  refine ⟨_,rfl,a,_,_,_,rfl,rfl,SqT.of ha2,ad (j:=0) rfl,rfl,_,rfl,iteN sne ?_⟩
  have emul:((us.length:Nat):Int)*k=k*cnL ys:=by rw [lu,lcn,Int.mul_comm]
  refine ⟨_,rfl,l,_,rfl,.inl (SqL.of hus),_,rfl,a,_,_,_,rfl,rfl,SqT.of ha2,ad (j:=1) rfl,_,_,rfl,rfl,.inr ⟨by omega,by omega⟩,_,_,rfl,fun h1=>?_,fun h1=>e (by rw [cnI]; omega) H2 s2⟩
  have hc2:k*cnL ys<=100:=by omega
  refine ⟨_,rfl,_,rfl,a,_,_,_,rfl,rfl,SqT.of ha2,ad (j:=1) rfl,l,k,us,rfl,rfl,hus,by omega,by omega,?_,fun p hp=>?_⟩
  ·have:((us.length*k.toNat:Nat):Int)=((us.length:Nat):Int)*k:=by rw [Int.natCast_mul,Int.toNat_of_nonneg (by omega)]
   omega
  ·have tp:=Same.new hp (.lst (Bs k.toNat us).flatten)
   refine q (by rw [cnI]; exact hc2) p _ (s2.trans tp) (s2.free hp) ⟨_,ac,?_⟩
   have e3:(flI (.times k ys)).map dC=(Bs k.toNat ((flL ys).map dC)).flatten:=by rw [bM,rep,List.map_flatten,List.map_replicate]
   rw [e3]
   exact (tus.rep k.toNat).tk (TK.of tp)
 | back ys =>
  obtain ⟨a,b,rfl,ha,tb⟩:=fy tv
  rw [hI] at hx
  rw [dpI] at hd
  have wy:WL ys:=by cases wx with | back h3=>exact h3
  have lcn:=cM wy
  refine ⟨_,rfl,a,_,_,_,rfl,rfl,SqT.of ha,ad (j:=0) rfl,rfl,_,rfl,iteN sne ?_⟩
  refine ⟨_,rfl,a,_,_,_,rfl,rfl,SqT.of ha,ad (j:=0) rfl,rfl,_,rfl,iteN sne ?_⟩
  refine ⟨_,rfl,_,rfl,a,_,_,_,rfl,rfl,SqT.of ha,qy,_,rfl,cN (by omega) ⟨b,pd,ys,T,G,ns,rfl,tb,pr,pa,hx,wy,by omega,fun hc l H2 s2 hl cl=>?_,fun hc H2 s2=>e (by rw [cnI]; exact hc) H2 s2⟩⟩
  refine ⟨_,rfl,a,_,_,_,rfl,rfl,SqT.of (s2 _ _ ha),ad (j:=0) rfl,rfl,_,rfl,iteY (seq _) ?_⟩
  refine ⟨_,rfl,l,flL ys,rfl,cl,by omega,fun l3 H3 s3 hl3 cl3=>?_⟩
  rw [<- cE ys] at cl3
  exact q (by rw [cnI]; exact hc) l3 H3 (s2.trans s3) (s2.free hl3) cl3
theorem scClipsOf:aq ["items", "parts", "clips", "fade", "item"] ["items", "parts"] (ak eZ):=⟨rfl,rfl,rfl,by decide +kernel,rfl,by decide +kernel,by decide +kernel⟩
theorem h_ {d:Nat}{f CT:Addr}{fd:Bg}(F:Fun K "clips_of" "clips_of" eZ f fd) (dClipsI:Def P w K mg base (CX1 P w) "clips_of_item" (2*d+2) ["item", "parts"] (kJ CT d)) (dRMany:Def P w K mg base (CX1 P w) "refuse_many" 1 ["number", "most"] (gH CT)) (dFadedIn:Def P w K mg base CX0 "faded_in" 1 ["clips", "many"] iZ) (n_len:mg "len"=none)
  {tMC:Tok}(mMC:mg "MOST_CLIPS"=some (.int 100 tMC)):aJ P w K mg base (CX1 P w) (2*d+3) f fd ["items", "parts"] (cU CT d):=by
 refine F.okX scClipsOf (fun vs H Q E h=>?_) (fun cdv A outer s H vs Q E hr h=>?_)
 ·obtain ⟨a,pd,xs,T,G,ns,rfl,_⟩:=h
  rfl
 obtain ⟨a,pd,xs,T,G,ns,rfl,ht,pr,pa,hl,hwl,hdp,q,e⟩:=h
 refine kB (ag (ax (i:=2) scClipsOf.nd (aW af))
  (ag (ax (i:=3) scClipsOf.nd ae)
  (ag (bv B9.leaving rfl (lg (e_v 0)) (aC (i:=4) scClipsOf.nd)
   (ah (bb (aK bf (au ao (e_v 4) ae) aS)
    (ah (ax (i:=3) scClipsOf.nd (au ao (e_v 4) ae)))
    (ag (aO (iD (e_v 2) (ap dFadedIn hr aF (aa (ap dClipsI hr bI (aa (e_v 4) (aa (e_v 1) af)) (hj:=by omega)) (aa (e_v 3) af)) (hj:=by omega))))
    (ag (aO (ap dRMany hr bI (aa (e_b aH n_len Cc (aa (e_v 2) af)) (aa (qm (v:=.int 100) mMC ⟨_,rfl⟩) af)) (hj:=by omega)))
    (ah (ax (i:=3) scClipsOf.nd ae)))))))
  (ah (aB (e_v 2)))))) ?_
 intros
 have zl:sizeLine=16777216:=A9
 obtain ⟨a',vs,z,ha,tds⟩:=ht.tinv
 cases z
 have lv:vs.length=xs.length:=by rw [tds.len,aU,AH]
 have hall:=hwl.mem
 refine ⟨(by show 0<=sizeLine; decide),fun pf hpf=>?_⟩
 have s0:=Same.new hpf (.lst [])
 refine ⟨_,rfl,a,rfl,⟨_,SqT.of (s0 _ _ ha)⟩,gN (K:=K) (a:=a) (xs:=vs) (fun i σ H'=>∃(F:List Cl) (m:Int) (o4:Option V),σ=[some (.ref a),some (.ref pd),some (.ref pf),some (.int m),o4]/\IT.run (xs.take i) ([],0)=(F,m)/\CL H' pf F/\Same H H'/\cnL (xs.take i)<=100)
  ⟨[],0,none,rfl,(by rw [BS,IT.run]),⟨[],ac,.nil⟩,s0,(by rw [BS,cnL]; decide)⟩ (fun i σ H' _ ⟨_,_,_,_,_,_,sm,_⟩=>SqT.of (sm _ _ ha)) ?_ ?_⟩
 ·rintro i v σ H' hv ⟨F,m,o4,rfl,hrun,hF,sm,hcn⟩
  obtain ⟨dd,hd,tv⟩:=tds.get hv
  obtain ⟨x,hx,rfl⟩:=iG hd
  have hxm:x∈xs:=Bh hx
  have hxw:=hall x hxm
  have tv:=tv.tk (TK.of sm)
  have hxh:=mD hl hxm
  have hxc:=uA hall hxm
  have hxd:=dpL_le.mp hdp x hxm
  have lenF:(F.length:Int)=cnL (xs.take i):=by
   have:=nF (xs.take i) ([],0) fun y hy=>hall y (List.mem_of_mem_take hy)
   rw [hrun] at this
   simpa using this
  have hFi:=fR xs (i+1) hall
  have hsum:cnL (xs.take (i+1))=cnL (xs.take i)+cnI x:=by rw [aZ hx,oR,cnL,cnL,Int.add_zero]
  have hrun1:IT.run (xs.take (i+1)) ([],0)=step x (flI x) (F,m):=by rw [aZ hx,IT.run_app,hrun,IT.run,IT.run]
  obtain ⟨us,hus,tus⟩:=id hF
  have lu:us.length=F.length:=by rw [tus.len,AH]
  rcases hxw with wx | ⟨k,rfl⟩
  ·have hflen:((flI x).length:Int)=cnI x:=iI wx
   have nf:=wx.nf
   obtain ⟨av,ws,rfl,hav⟩:=qK tv
   have nk:decide (V.str (kd x)=V.str "fade")=false:=by rw [oq]; exact nf
   refine ⟨_,rfl,av,_,_,_,rfl,rfl,SqT.of hav,ad (j:=0) rfl,rfl,_,rfl,iteN nk ?_⟩
   refine ⟨_,rfl,.inl ⟨rfl,_,SqL.of hus⟩,_,rfl,_,rfl,_,pd,x,T,G,ns,rfl,tv,pr.same sm,pa,hxh,wx,hxd,fun hc l2 H2 s2 hl2 cl2=>?_,fun hc H2 s2=>e (by omega) H2 (sm.trans s2)⟩
   refine ⟨_,rfl,l2,flI x,m,rfl,cl2,by omega,fun l3 H3 s3 hl3 cl3=>?_⟩
   obtain ⟨ts,hts,tts⟩:=cl3
   have S3:=s2.trans s3
   have lt:ts.length=(flI x).length:=by rw [tts.len,AH,g7]
   have hus3:=S3 _ _ hus
   refine ⟨pf,l3,_,_,rfl,rfl,hus3,hts,by omega,?_⟩
   have hcl:CL (upd H3 pf (.lst (us++ts))) pf (F++bp m (flI x)):=⟨us++ts,ac,by
    rw [A8]
    exact ((tus.tk (TK.of S3)).app tts).tk (TK.lst hus3)⟩
   have sm3:Same H (upd H3 pf (.lst (us++ts))):=fun b ob hb=>by
    rw [aj (am hb hpf)]
    exact S3 _ _ (sm _ _ hb)
   have hpf3:=ac (H:=H3) (a:=pf) (o:=.lst (us++ts))
   generalize upd H3 pf (.lst (us++ts))=H4 at hcl sm3 hpf3 ⊢
   have ln:(((us++ts).length:Nat):Int)=cnL (xs.take (i+1)):=by rw [AW]; omega
   refine ⟨_,rfl,pf,_,rfl,.inl (SqL.of hpf3),_,_,rfl,fun h1=>?_,fun h1=>e (by omega) H4 sm3⟩
   refine ⟨F++bp m (flI x),0,_,rfl,?_,hcl,sm3,by omega⟩
   rw [hrun1,b_ nf wx.h0.1]
  ·obtain ⟨av,rfl,hav⟩:=fm tv
   refine ⟨_,rfl,av,_,_,_,rfl,rfl,SqT.of hav,ad (j:=0) rfl,rfl,_,rfl,iteY (seq _) ?_⟩
   refine ⟨_,rfl,av,_,_,_,rfl,rfl,SqT.of hav,ad (j:=1) rfl,F,k,_,rfl,?_,hF,sm,?_⟩
   ·rw [hrun1]; rfl
   ·rw [hsum,cnI]; omega
 ·rintro σ H' ⟨F,m,o4,rfl,hrun,hF,sm,hcn⟩
  rw [lv,BJ] at hrun hcn
  have eF:flL xs=F:=by rw [flL,hrun]
  rw [<- eF] at hF
  exact ⟨_,rfl,q hcn pf H' sm hpf hF⟩
def kI (CT CS:Addr) (d:Nat):Sp:=fun vs H Q E=>∃(p pd lr:Addr) (xs:List IT.It) (G:Str->List IT.It->Prop) (ns:List Str) (prs:List (Addr×Reel)),vs=[.ref p,.ref pd,.ref lr]/\Td H (.ref p) (.tuple (dL xs))/\WL xs/\hL (Ck prs) G xs/\PR H pd G/\Pa (Ck prs) G ns/\RL H lr prs/\Uq prs/\dpL xs<=d /\
 uK CT CS (flL xs) H E (fun _=>True)/\((flL xs).length<=100->frS (flL xs)<=2000->(∀k,¬ bad (flL xs) k)->∀l H',Same H H'->H l=none->CL H' l (flL xs)->Q (.ref l) H')
theorem scPlayed:aq ["items", "parts", "reels", "clips"] ["items", "parts", "reels"] (ak g_):=⟨rfl,rfl,rfl,by decide +kernel,rfl,by decide +kernel,by decide +kernel⟩
theorem pW {d:Nat}{f CT CS:Addr}{fd:Bg}(F:Fun K "played" "played" g_ f fd) (dSound:Def P w K mg base (CX1 P w) "sound" (2*d+8) ["items", "parts", "reels"] (mZ d)) (dClipsOf:Def P w K mg base (CX1 P w) "clips_of" (2*d+3) ["items", "parts"] (cU CT d)) (dRFilm:Def P w K mg base (CX1 P w) "refuse_film" 4 ["clips"] (m8 CT CS)):aJ P w K mg base (CX1 P w) (2*d+9) f fd ["items", "parts", "reels"] (kI CT CS d):=by
 refine F.okX scPlayed (fun vs H Q E h=>?_) (fun cdv A outer s H vs Q E hr h=>?_)
 ·obtain ⟨p,pd,lr,xs,G,ns,prs,rfl,_⟩:=h
  rfl
 obtain ⟨p,pd,lr,xs,G,ns,prs,rfl,td,wl,hl,pr,pa,rl,uq,hd,fq,q⟩:=h
 refine kB (ag (aO (ap dSound hr bI (aa (e_v 0) (aa (e_v 1) (aa (e_v 2) af))) (hj:=by omega)))
  (ag (ax (i:=3) scPlayed.nd (ap dClipsOf hr bI (aa (e_v 0) (aa (e_v 1) af)) (hj:=by omega)))
  (ag (aO (ap dRFilm hr bI (aa (e_v 3) af) (hj:=by omega)))
  (ah (aB (e_v 3)))))) ?_
 intros
 have lcn:=cM wl
 refine ⟨_,rfl,_,rfl,_,rfl,p,pd,lr,xs,G,ns,prs,rfl,td,wl,hl,pr,pa,rl,uq,hd,fun H1 s1=>?_⟩
 refine ⟨_,rfl,_,rfl,p,pd,xs,_,G,ns,rfl,td.tk (TK.of s1),pr.same s1,pa,hl,wl,hd,fun hc l H2 s2 hl2 cl=>?_,fun hc H2 s2=>fq.many (.inl (by omega)) H2 (s1.trans s2)⟩
 have S2:=s1.trans s2
 refine ⟨_,rfl,l,flL xs,rfl,cl,by omega,⟨fun h H' s'=>fq.many h H' (S2.trans s'),fun h1 h2 k hb nb H' dx s' hdx=>fq.short h1 h2 k hb nb H' dx (S2.trans s') hdx,fun h1 h2 nb H' s'=>?_⟩⟩
 obtain ⟨us,hus,tus⟩:=cl
 exact ⟨_,rfl,q h1 h2 nb l H' (S2.trans s') (s1.free hl2) ⟨us,s' _ _ hus,tus.tk (TK.of s')⟩⟩
end
section
variable {P:Program}{w:Bj}{K:AK}{mg:Str->Option Value}{base:Heap}
def q0:Sp:=fun vs H Q _=>∃(a:Addr) (xs:List IT.It),vs=[.ref a]/\Td H (.ref a) (.tuple (dL xs))/\xs.length<=4000000/\∀l H',Same H H'->H l=none->IL H' l (inp xs)->Q (.ref l) H'
theorem zG:aq ["items"] ["items"] (ak eW):=⟨rfl,rfl,rfl,by decide +kernel,rfl,by decide +kernel,by decide +kernel⟩
theorem yD {f:Addr}{fd:Bg}(F:Fun K "in_place" "in_place" eW f fd) (dIsF:Def P w K mg base CX0 "is_fade" 1 ["item"] qZ) (n_any:mg "any"=none) (n_list:mg "list"=none):aJ P w K mg base CX0 2 f fd ["items"] q0:=by
 refine F.ok zG (fun vs H Q E h=>?_) (fun cdv A outer s H vs Q E hr h=>?_)
 ·obtain ⟨a,xs,rfl,_⟩:=h
  rfl
 obtain ⟨a,xs,rfl,ht,hlen,q⟩:=h
 refine eK (ag (bb (iX (e_b uE n_any (by decide +kernel) (aa (ki [] [] [] rfl trivial trivial (lg (aD fF (ge eg (e_v 0) cB (bj ae)) (ge eg (e_v 0) (bj (fP bD ae)) cB))) (fun _ _ _ _=>(ap dIsF hr aF (aa (e_n 0) af)))) af)))
   (ah (aB (aW (aa (ba (aa aS (aa ae (aa (e_v 0) af)))) af))))
   aI)
  (ah (aB (e_t dF n_list (by decide +kernel) (aa (e_v 0) af))))) ?_
 intros
 have zl:sizeLine=16777216:=A9
 obtain ⟨a',vs,z,ha,tds⟩:=ht.tinv
 cases z
 have lv:vs.length=xs.length:=by rw [tds.len,aU,AH]
 refine ⟨_,rfl,_,rfl,a,_,rfl,ha,fun p1 H1 s1 h1=>⟨_,rfl,_,rfl,_,rfl,a,_,rfl,s1 _ _ ha,fun p2 H2 s2 h2=>⟨p1,p2,_,_,rfl,rfl,s2 _ _ h1,h2,?_,fun p3 H3 s3 h3=>⟨p3,rfl,⟨_,SqT.of h3⟩,?_⟩⟩⟩⟩
 ·have:=bC vs none (some 1)
  have:=bC vs (some (-1)) none
  omega
 have S3:=(s1.trans s2).trans s3
 have t3:Tds H3 (bH vs none (some 1)++bH vs (some (-1)) none) (dL (xs.take 1++xs.drop (xs.length-1))):=by
  rw [jt,uv,iH,aU,aU,E2,E1,<- aU,lv]
  exact ((tds.take 1).app (tds.drop (xs.length-1))).tk (TK.of S3)
 refine uy ((xs.take 1++xs.drop (xs.length-1)).map fun x=>V.bl (isF x)) (SqT.of h3) ?_ ?_ ?_ ?_
 ·have:=bC vs none (some 1)
  have:=bC vs (some (-1)) none
  rw [AW]
  omega
 ·rw [AH,t3.len,aU,AH]
 ·intro i v y H' R hS hx hy hR
  obtain ⟨dd,hd,tv⟩:=t3.get hx
  obtain ⟨x,hx',rfl⟩:=iG hd
  rw [AR,hx'] at hy
  cases hy
  exact ⟨_,rfl,v,x,rfl,tv.tk (TK.of hS),hR H' (Same.refl _)⟩
 intro D H4 s4 hD0 hD
 have S4:=S3.trans s4
 refine ⟨D,(xs.take 1++xs.drop (xs.length-1)).map isF,rfl,SqL.of (by rw [hD,B5]; rfl),rfl,_,rfl,?_⟩
 have ea:((xs.take 1++xs.drop (xs.length-1)).map isF).any id=(xs.take 1++xs.drop (xs.length-1)).any isF:=by rw [List.any_map]; rfl
 rw [ea]
 unfold inp at q
 by_cases hc:(xs.take 1++xs.drop (xs.length-1)).any isF=true
 ·rw [if_pos hc] at q
  refine iteY hc ⟨_,rfl,(by show 3<=sizeLine; decide),fun pt hpt=>⟨(by show 1<=sizeLine; decide),fun l hl=>?_⟩⟩
  have tt:=Same.new hpt (.tup [.str "times",.int 1,.ref a])
  have tl:=Same.new hl (.lst [.ref pt])
  refine q l _ ((S4.trans tt).trans tl) ((S4.trans tt).free hl) ⟨_,ac,?_⟩
  rw [dL,dL]
  exact .one (ie (tl _ _ ac) (ht.tk (TK.of ((S4.trans tt).trans tl))))
 ·rw [if_neg hc] at q
  refine iteN (EJ.mpr hc) ⟨_,rfl,a,_,rfl,.inr (SqT.of (S4 _ _ ha)),fun l hl=>?_⟩
  have tl:=Same.new hl (.lst vs)
  exact q l _ (S4.trans tl) (S4.free hl) ⟨vs,ac,tds.tk (TK.of (S4.trans tl))⟩
def eT (g:List IT.It->List IT.It) (d:Nat):Sp:=fun vs H Q _=>∃(a:Addr) (xs:List IT.It),vs=[.ref a]/\Td H (.ref a) (.tuple (dL xs))/\dpL xs<=d/\wL xs<=1000000/\∀p H',Same H H'->Td H' (.ref p) (.tuple (dL (g xs)))->Q (.ref p) H'
def jG (g:IT.It->List IT.It) (d:Nat):Sp:=fun vs H Q _=>∃(v:V) (x:IT.It),vs=[v]/\Td H v (dI x)/\dpI x<=d/\wI x<=1000000/\∀l H',Same H H'->H l=none->IL H' l (g x)->Q (.ref l) H'
def fz (g:List IT.It->List IT.It):Nat->Sp
 | 0=>fun _ _ _ _=>False
 | d+1=>eT g d
theorem c_ {g:List IT.It->List IT.It}{d:Nat}{vs:List V}{H:Hp}{Q:VK}{E:XK}(h:0<d) (z:eT g (d-1) vs H Q E):fz g d vs H Q E:=by
 cases d with
 | zero=>exact absurd h (Cm _)
 | succ d=>exact z
theorem j9 {g:IT.It->List IT.It}(hg:∀x,wL (g x)<=2*wI x):∀ys:List IT.It,((ys.map g).flatten).length<=2*wL ys
 | []=>Bo _
 | y :: r=>by
  have:=j9 hg r
  have:=hg y
  have:=jE (g y)
  rw [Br,Ch,AW,wL]
  omega
theorem jD:∀(ys:List IT.It) (i:Nat),wL (ys.take i)<=wL ys
 | [],_=>by rw [EZ]; exact AM _
 | y :: r,0=>Bo _
 | y :: r,i+1=>by have:=jD r i; rw [List.take_succ_cons,wL,wL]; omega
theorem xA (ys:List IT.It):wL ys.reverse=wL ys:=by
 induction ys with
 | nil=>rfl
 | cons y r ih=>rw [Bd,gQ,ih,wL,wL,wL]; omega
theorem scTurned:aq ["items", "told", "item"] ["items"] (ak g9):=⟨rfl,rfl,rfl,by decide +kernel,rfl,by decide +kernel,by decide +kernel⟩
theorem ja {d:Nat}{f:Addr}{fd:Bg}(F:Fun K "turned" "turned" g9 f fd) (dTurnI:Def P w K mg base CX0 "turned_item" (2*d+3) ["item"] (jG tI d)) (n_reversed:mg "reversed"=none) (n_tuple:mg "tuple"=none):aJ P w K mg base CX0 (2*d+4) f fd ["items"] (eT tL d):=by
 refine F.ok scTurned (fun vs H Q E h=>?_) (fun cdv A outer s H vs Q E hr h=>?_)
 ·obtain ⟨a,xs,rfl,_⟩:=h
  rfl
 obtain ⟨a,xs,rfl,ht,hdp,hw,q⟩:=h
 refine eJ (ag (ax (i:=1) scTurned.nd (aW af))
  (ag (bv BM rfl (yS n_reversed (e_v 0)) (aC (i:=2) scTurned.nd)
   (ah (aO (iD (e_v 1) (ap dTurnI hr aF (aa (e_v 2) af) (hj:=by omega))))))
  (ah (aB (e_t bc n_tuple (by decide +kernel) (aa (e_v 1) af)))))) ?_
 intros
 have zl:sizeLine=16777216:=A9
 obtain ⟨a',vs,z,ha,tds⟩:=ht.tinv
 cases z
 have lv:vs.length=xs.length:=by rw [tds.len,aU,AH]
 have trev:=tds.rev
 rw [y9] at trev
 refine ⟨(by show 0<=sizeLine; decide),fun pt hpt=>?_⟩
 have s0:=Same.new hpt (.lst [])
 refine ⟨_,rfl,a,vs,rfl,SqT.of (s0 _ _ ha),t_ (K:=K) (a:=a) (xs:=vs) (fun i σ H'=>∃(o2:Option V),σ=[some (.ref a),some (.ref pt),o2]/\IL H' pt ((xs.reverse.take i).map tI).flatten/\Same H H') ⟨none,rfl,⟨[],ac,by rw [BS]; exact .nil⟩,s0⟩ (fun i σ H' _ ⟨_,_,_,sm⟩=>SqT.of (sm _ _ ha)) ?_ ?_⟩
 ·rintro i v σ H' hv ⟨o2,rfl,⟨us,hus,tus⟩,sm⟩
  obtain ⟨dd,hd,tv⟩:=trev.get hv
  obtain ⟨x,hx,rfl⟩:=iG hd
  have hxm:x∈xs:=Ct.mp (Bh hx)
  refine ⟨_,rfl,.inl ⟨rfl,_,SqL.of hus⟩,_,rfl,v,x,rfl,tv.tk (TK.of sm),dpL_le.mp hdp x hxm,Bm (lJ hxm) hw,fun l H1 s1 hl hil=>?_⟩
  obtain ⟨zs,hzs,tzs⟩:=hil
  have hle:=j9 zi (xs.reverse.take (i+1))
  have hle2:=jD xs.reverse (i+1)
  rw [xA] at hle2
  have e1:(([x].map tI).flatten)=tI x:=by simp
  rw [aZ hx] at hle hle2
  rw [A8,DF,e1,AW] at hle
  have hus1:=s1 _ _ hus
  refine ⟨pt,l,_,_,rfl,rfl,hus1,hzs,?_,_,rfl,⟨us++zs,ac,?_⟩,fun b o hb=>?_⟩
  ·rw [tus.len,tzs.len,aU,aU,AH,AH]
   omega
  ·rw [aZ hx,A8,DF,e1,iH]
   exact ((tus.tk (TK.of s1)).app tzs).tk (TK.lst hus1)
  ·rw [aj (am hb hpt)]
   exact s1 _ _ (sm _ _ hb)
 ·rintro σ H' ⟨o2,rfl,⟨us,hus,tus⟩,sm⟩
  rw [lv,<- A7,BJ,<- wW] at tus
  refine ⟨_,rfl,pt,_,rfl,.inl ⟨SqL.of hus,fun p hp=>?_⟩⟩
  exact q p _ (sm.trans (Same.new hp _)) (.tup ac (tus.tk (TK.new hp _)))
theorem scStraight:aq ["items", "told", "item"] ["items"] (ak eU):=⟨rfl,rfl,rfl,by decide +kernel,rfl,by decide +kernel,by decide +kernel⟩
theorem gl {d:Nat}{f:Addr}{fd:Bg}(F:Fun K "straight" "straight" eU f fd) (dStrI:Def P w K mg base CX0 "straight_item" (2*d+3) ["item"] (jG sI d)) (n_tuple:mg "tuple"=none):aJ P w K mg base CX0 (2*d+4) f fd ["items"] (eT sL d):=by
 refine F.ok scStraight (fun vs H Q E h=>?_) (fun cdv A outer s H vs Q E hr h=>?_)
 ·obtain ⟨a,xs,rfl,_⟩:=h
  rfl
 obtain ⟨a,xs,rfl,ht,hdp,hw,q⟩:=h
 refine eJ (ag (ax (i:=1) scStraight.nd (aW af))
  (ag (bv BM rfl (lg (e_v 0)) (aC (i:=2) scStraight.nd)
   (ah (aO (iD (e_v 1) (ap dStrI hr aF (aa (e_v 2) af) (hj:=by omega))))))
  (ah (aB (e_t bc n_tuple (by decide +kernel) (aa (e_v 1) af)))))) ?_
 intros
 have zl:sizeLine=16777216:=A9
 obtain ⟨a',vs,z,ha,tds⟩:=ht.tinv
 cases z
 have lv:vs.length=xs.length:=by rw [tds.len,aU,AH]
 refine ⟨(by show 0<=sizeLine; decide),fun pt hpt=>?_⟩
 have s0:=Same.new hpt (.lst [])
 refine ⟨_,rfl,a,rfl,⟨_,SqT.of (s0 _ _ ha)⟩,gN (K:=K) (a:=a) (xs:=vs) (fun i σ H'=>∃(o2:Option V),σ=[some (.ref a),some (.ref pt),o2]/\IL H' pt ((xs.take i).map sI).flatten/\Same H H') ⟨none,rfl,⟨[],ac,by rw [BS]; exact .nil⟩,s0⟩ (fun i σ H' _ ⟨_,_,_,sm⟩=>SqT.of (sm _ _ ha)) ?_ ?_⟩
 ·rintro i v σ H' hv ⟨o2,rfl,⟨us,hus,tus⟩,sm⟩
  obtain ⟨dd,hd,tv⟩:=tds.get hv
  obtain ⟨x,hx,rfl⟩:=iG hd
  have hxm:x∈xs:=Bh hx
  refine ⟨_,rfl,.inl ⟨rfl,_,SqL.of hus⟩,_,rfl,v,x,rfl,tv.tk (TK.of sm),dpL_le.mp hdp x hxm,Bm (lJ hxm) hw,fun l H1 s1 hl hil=>?_⟩
  obtain ⟨zs,hzs,tzs⟩:=hil
  have hle:=j9 zj (xs.take (i+1))
  have hle2:=jD xs (i+1)
  have e1:(([x].map sI).flatten)=sI x:=by simp
  rw [aZ hx] at hle hle2
  rw [A8,DF,e1,AW] at hle
  have hus1:=s1 _ _ hus
  refine ⟨pt,l,_,_,rfl,rfl,hus1,hzs,?_,_,rfl,⟨us++zs,ac,?_⟩,fun b o hb=>?_⟩
  ·rw [tus.len,tzs.len,aU,aU,AH,AH]
   omega
  ·rw [aZ hx,A8,DF,e1,iH]
   exact ((tus.tk (TK.of s1)).app tzs).tk (TK.lst hus1)
  ·rw [aj (am hb hpt)]
   exact s1 _ _ (sm _ _ hb)
 ·rintro σ H' ⟨o2,rfl,⟨us,hus,tus⟩,sm⟩
  rw [lv,BJ,<- w_] at tus
  refine ⟨_,rfl,pt,_,rfl,.inl ⟨SqL.of hus,fun p hp=>?_⟩⟩
  exact q p _ (sm.trans (Same.new hp _)) (.tup ac (tus.tk (TK.new hp _)))
theorem uU:aq ["item"] ["item"] (ak cO):=⟨rfl,rfl,rfl,by decide +kernel,rfl,by decide +kernel,by decide +kernel⟩
theorem kT {d:Nat}{f:Addr}{fd:Bg}(F:Fun K "turned_item" "turned_item" cO f fd) (dTurned:Def P w K mg base CX0 "turned" (2*d+2) ["items"] (fz tL d)) (dStraight:Def P w K mg base CX0 "straight" (2*d+2) ["items"] (fz sL d)) (dInp:Def P w K mg base CX0 "in_place" 2 ["items"] q0) :
  aJ P w K mg base CX0 (2*d+3) f fd ["item"] (jG tI d):=by
 refine F.ok uU (fun vs H Q E h=>?_) (fun cdv A outer s H vs Q E hr h=>?_)
 ·obtain ⟨v,x,rfl,_⟩:=h
  rfl
 obtain ⟨v,x,rfl,ht,hdp,hw,q⟩:=h
 refine wP (ag (bb (aK bf (au ao (e_v 0) ae) aS)
   (ah (aB (aW (aa (ba (aa aS (aa (au ao (e_v 0) ae) (aa (au ao (e_v 0) ae) (aa (au ao (e_v 0) ae) af))))) af))))
   aI)
  (ag (bb (aK bf (au ao (e_v 0) ae) aS)
   (ah (aB (aW (aa (ba (aa aS (aa (au ao (e_v 0) ae) (aa (ap dTurned hr aF (aa (au ao (e_v 0) ae) af) (hj:=by omega)) af)))) af))))
   aI)
  (ag (bb (aK bf (au ao (e_v 0) ae) aS)
   (ah (aB (aW (aa (ba (aa aS (aa (ba (aa (e_v 0) af)) af))) af))))
   aI)
  (ag (bb (aK bf (au ao (e_v 0) ae) aS)
   (ah (aB (ap dInp hr aF (aa (ap dStraight hr aF (aa (au ao (e_v 0) ae) af) (hj:=by omega)) af) (hj:=by omega))))
   aI)
  (ah (aB (aW (aa (e_v 0) af)))))))) ?_
 intros
 cases x with
 | clip r f l =>
  obtain ⟨a,rfl,ha⟩:=fu ht
  rw [tI] at q
  refine ⟨_,rfl,a,_,_,_,rfl,rfl,SqT.of ha,ad (j:=0) rfl,rfl,_,rfl,iteY (seq _) ?_⟩
  refine ⟨_,rfl,a,_,_,_,rfl,rfl,SqT.of ha,ad (j:=1) rfl,_,rfl,a,_,_,_,rfl,rfl,SqT.of ha,ad (j:=3) rfl,_,rfl,a,_,_,_,rfl,rfl,SqT.of ha,ad (j:=2) rfl,(by show 4<=sizeLine; decide),fun pt hpt=>⟨(by show 1<=sizeLine; decide),fun l' hl=>?_⟩⟩
  have tt:=Same.new hpt (.tup [.str "clip",.str r,.int l,.int f])
  have tl:=Same.new hl (.lst [.ref pt])
  exact q l' _ (tt.trans tl) (tt.free hl) ⟨_,ac,by rw [dL,dL]; exact .one (nY (tl _ _ ac))⟩
 | times m ys =>
  obtain ⟨a,b,rfl,ha,hb⟩:=dQ ht
  rw [tI] at q
  rw [dpI] at hdp
  rw [wI] at hw
  refine ⟨_,rfl,a,_,_,_,rfl,rfl,SqT.of ha,ad (j:=0) rfl,rfl,_,rfl,iteN sne ?_⟩
  refine ⟨_,rfl,a,_,_,_,rfl,rfl,SqT.of ha,ad (j:=0) rfl,rfl,_,rfl,iteY (seq _) ?_⟩
  refine ⟨_,rfl,a,_,_,_,rfl,rfl,SqT.of ha,ad (j:=1) rfl,_,rfl,a,_,_,_,rfl,rfl,SqT.of ha,ad (j:=2) rfl,c_ (by omega) ⟨b,ys,rfl,hb,by omega,by omega,fun p H1 s1 hp=>⟨(by show 3<=sizeLine; decide),fun pt hpt=>⟨(by show 1<=sizeLine; decide),fun l' hl=>?_⟩⟩⟩⟩
  have tt:=Same.new hpt (.tup [.str "times",.int m,.ref p])
  have tl:=Same.new hl (.lst [.ref pt])
  exact q l' _ ((s1.trans tt).trans tl) ((s1.trans tt).free hl) ⟨_,ac,by rw [dL,dL]; exact .one (ie (tl _ _ ac) (hp.tk (TK.of (tt.trans tl))))⟩
 | part n ys =>
  obtain ⟨a,rfl,ha⟩:=fj ht
  rw [tI] at q
  refine ⟨_,rfl,a,_,_,_,rfl,rfl,SqT.of ha,ad (j:=0) rfl,rfl,_,rfl,iteN sne ?_⟩
  refine ⟨_,rfl,a,_,_,_,rfl,rfl,SqT.of ha,ad (j:=0) rfl,rfl,_,rfl,iteN sne ?_⟩
  refine ⟨_,rfl,a,_,_,_,rfl,rfl,SqT.of ha,ad (j:=0) rfl,rfl,_,rfl,iteY (seq _) ?_⟩
  refine ⟨_,rfl,(by show 1<=sizeLine; decide),fun p1 hp1=>⟨(by show 2<=sizeLine; decide),fun pt hpt=>⟨(by show 1<=sizeLine; decide),fun l' hl=>?_⟩⟩⟩
  have t1:=Same.new hp1 (.tup [.ref a])
  have tt:=Same.new hpt (.tup [.str "back",.ref p1])
  have tl:=Same.new hl (.lst [.ref pt])
  refine q l' _ ((t1.trans tt).trans tl) ((t1.trans tt).free hl) ⟨_,ac,?_⟩
  rw [dL,dL]
  refine .one (nZ (tl _ _ ac) (.tup (tl _ _ (tt _ _ ac)) ?_))
  rw [dL,dL]
  exact .one (ht.tk (TK.of ((t1.trans tt).trans tl)))
 | back ys =>
  obtain ⟨a,b,rfl,ha,hb⟩:=fy ht
  rw [tI] at q
  rw [dpI] at hdp
  rw [wI] at hw
  refine ⟨_,rfl,a,_,_,_,rfl,rfl,SqT.of ha,ad (j:=0) rfl,rfl,_,rfl,iteN sne ?_⟩
  refine ⟨_,rfl,a,_,_,_,rfl,rfl,SqT.of ha,ad (j:=0) rfl,rfl,_,rfl,iteN sne ?_⟩
  refine ⟨_,rfl,a,_,_,_,rfl,rfl,SqT.of ha,ad (j:=0) rfl,rfl,_,rfl,iteN sne ?_⟩
  refine ⟨_,rfl,a,_,_,_,rfl,rfl,SqT.of ha,ad (j:=0) rfl,rfl,_,rfl,iteY (seq _) ?_⟩
  have ws:=uO ys
  have wl:=jE (sL ys)
  exact ⟨_,rfl,a,_,_,_,rfl,rfl,SqT.of ha,ad (j:=1) rfl,c_ (by omega) ⟨b,ys,rfl,hb,by omega,by omega,fun p H1 s1 hp=>⟨p,sL ys,rfl,hp,by omega,fun l' H2 s2 hl hil=>q l' H2 (s1.trans s2) (s1.free hl) hil⟩⟩⟩
 | fade m =>
  obtain ⟨a,rfl,ha⟩:=fm ht
  rw [tI] at q
  refine ⟨_,rfl,a,_,_,_,rfl,rfl,SqT.of ha,ad (j:=0) rfl,rfl,_,rfl,iteN sne ?_⟩
  refine ⟨_,rfl,a,_,_,_,rfl,rfl,SqT.of ha,ad (j:=0) rfl,rfl,_,rfl,iteN sne ?_⟩
  refine ⟨_,rfl,a,_,_,_,rfl,rfl,SqT.of ha,ad (j:=0) rfl,rfl,_,rfl,iteN sne ?_⟩
  refine ⟨_,rfl,a,_,_,_,rfl,rfl,SqT.of ha,ad (j:=0) rfl,rfl,_,rfl,iteN sne ?_⟩
  refine ⟨_,rfl,(by show 1<=sizeLine; decide),fun l' hl=>?_⟩
  have tl:=Same.new hl (.lst [.ref a])
  exact q l' _ tl hl ⟨_,ac,by rw [dL,dL]; exact .one (ht.tk (TK.of tl))⟩
theorem xL:aq ["item"] ["item"] (ak bW):=⟨rfl,rfl,rfl,by decide +kernel,rfl,by decide +kernel,by decide +kernel⟩
theorem nS {d:Nat}{f:Addr}{fd:Bg}(F:Fun K "straight_item" "straight_item" bW f fd) (dTurned:Def P w K mg base CX0 "turned" (2*d+2) ["items"] (fz tL d)) (dStraight:Def P w K mg base CX0 "straight" (2*d+2) ["items"] (fz sL d)) (dInp:Def P w K mg base CX0 "in_place" 2 ["items"] q0) :
  aJ P w K mg base CX0 (2*d+3) f fd ["item"] (jG sI d):=by
 refine F.ok xL (fun vs H Q E h=>?_) (fun cdv A outer s H vs Q E hr h=>?_)
 ·obtain ⟨v,x,rfl,_⟩:=h
  rfl
 obtain ⟨v,x,rfl,ht,hdp,hw,q⟩:=h
 refine eJ (ag (bb (aK bf (au ao (e_v 0) ae) aS)
   (ah (aB (aW (aa (ba (aa aS (aa (au ao (e_v 0) ae) (aa (ap dStraight hr aF (aa (au ao (e_v 0) ae) af) (hj:=by omega)) af)))) af))))
   aI)
  (ag (bb (aK bf (au ao (e_v 0) ae) aS)
   (ah (aB (ap dInp hr aF (aa (ap dTurned hr aF (aa (au ao (e_v 0) ae) af) (hj:=by omega)) af) (hj:=by omega))))
   aI)
  (ah (aB (aW (aa (e_v 0) af)))))) ?_
 intros
 cases x with
 | clip r f l =>
  obtain ⟨a,rfl,ha⟩:=fu ht
  rw [sI] at q
  refine ⟨_,rfl,a,_,_,_,rfl,rfl,SqT.of ha,ad (j:=0) rfl,rfl,_,rfl,iteN sne ?_⟩
  refine ⟨_,rfl,a,_,_,_,rfl,rfl,SqT.of ha,ad (j:=0) rfl,rfl,_,rfl,iteN sne ?_⟩
  refine ⟨_,rfl,(by show 1<=sizeLine; decide),fun l' hl=>?_⟩
  have tl:=Same.new hl (.lst [.ref a])
  exact q l' _ tl hl ⟨_,ac,by rw [dL,dL]; exact .one (ht.tk (TK.of tl))⟩
 | part n ys =>
  obtain ⟨a,rfl,ha⟩:=fj ht
  rw [sI] at q
  refine ⟨_,rfl,a,_,_,_,rfl,rfl,SqT.of ha,ad (j:=0) rfl,rfl,_,rfl,iteN sne ?_⟩
  refine ⟨_,rfl,a,_,_,_,rfl,rfl,SqT.of ha,ad (j:=0) rfl,rfl,_,rfl,iteN sne ?_⟩
  refine ⟨_,rfl,(by show 1<=sizeLine; decide),fun l' hl=>?_⟩
  have tl:=Same.new hl (.lst [.ref a])
  exact q l' _ tl hl ⟨_,ac,by rw [dL,dL]; exact .one (ht.tk (TK.of tl))⟩
 | fade m =>
  obtain ⟨a,rfl,ha⟩:=fm ht
  rw [sI] at q
  refine ⟨_,rfl,a,_,_,_,rfl,rfl,SqT.of ha,ad (j:=0) rfl,rfl,_,rfl,iteN sne ?_⟩
  refine ⟨_,rfl,a,_,_,_,rfl,rfl,SqT.of ha,ad (j:=0) rfl,rfl,_,rfl,iteN sne ?_⟩
  refine ⟨_,rfl,(by show 1<=sizeLine; decide),fun l' hl=>?_⟩
  have tl:=Same.new hl (.lst [.ref a])
  exact q l' _ tl hl ⟨_,ac,by rw [dL,dL]; exact .one (ht.tk (TK.of tl))⟩
 | times m ys =>
  obtain ⟨a,b,rfl,ha,hb⟩:=dQ ht
  rw [sI] at q
  rw [dpI] at hdp
  rw [wI] at hw
  refine ⟨_,rfl,a,_,_,_,rfl,rfl,SqT.of ha,ad (j:=0) rfl,rfl,_,rfl,iteY (seq _) ?_⟩
  refine ⟨_,rfl,a,_,_,_,rfl,rfl,SqT.of ha,ad (j:=1) rfl,_,rfl,a,_,_,_,rfl,rfl,SqT.of ha,ad (j:=2) rfl,c_ (by omega) ⟨b,ys,rfl,hb,by omega,by omega,fun p H1 s1 hp=>⟨(by show 3<=sizeLine; decide),fun pt hpt=>⟨(by show 1<=sizeLine; decide),fun l' hl=>?_⟩⟩⟩⟩
  have tt:=Same.new hpt (.tup [.str "times",.int m,.ref p])
  have tl:=Same.new hl (.lst [.ref pt])
  exact q l' _ ((s1.trans tt).trans tl) ((s1.trans tt).free hl) ⟨_,ac,by rw [dL,dL]; exact .one (ie (tl _ _ ac) (hp.tk (TK.of (tt.trans tl))))⟩
 | back ys =>
  obtain ⟨a,b,rfl,ha,hb⟩:=fy ht
  rw [sI] at q
  rw [dpI] at hdp
  rw [wI] at hw
  refine ⟨_,rfl,a,_,_,_,rfl,rfl,SqT.of ha,ad (j:=0) rfl,rfl,_,rfl,iteN sne ?_⟩
  refine ⟨_,rfl,a,_,_,_,rfl,rfl,SqT.of ha,ad (j:=0) rfl,rfl,_,rfl,iteY (seq _) ?_⟩
  have ws:=uN ys
  have wl:=jE (tL ys)
  exact ⟨_,rfl,a,_,_,_,rfl,rfl,SqT.of ha,ad (j:=1) rfl,c_ (by omega) ⟨b,ys,rfl,hb,by omega,by omega,fun p H1 s1 hp=>⟨p,tL ys,rfl,hp,by omega,fun l' H2 s2 hl hil=>q l' H2 (s1.trans s2) (s1.free hl) hil⟩⟩⟩
end
end K56
namespace KS
open PySem
structure Clip where
 reel:Str
 a:Int
 b:Int
 f:Int
def Clip.way (c:Clip):Int:=if c.b<c.a then -1 else 1
def Clip.cnt (c:Clip):Nat:=(c.b-c.a).natAbs+1
def Clip.nums (c:Clip):List Int:=(BP c.cnt).map fun (m:Nat)=>c.a+(m:Int)*c.way
theorem Clip.nums_len (c:Clip):c.nums.length=c.cnt:=by
 unfold Clip.nums
 rw [AH,Dc]
structure Mo where
 reel:Str
 n:Int
 f:Int
theorem Clip.nums_eq (c:Clip):c.nums=c.a :: ((BP (c.cnt-1)).map fun (m:Nat)=>c.a+((m+1:Nat):Int)*c.way):=by
 unfold Clip.nums
 have e:c.cnt=c.cnt-1+1:=by unfold Clip.cnt; omega
 rw [e,EH,Br,B5]
 simp
def Clip.ms (c:Clip):List Mo:=match c.nums with
 | []=>[]
 | x :: r=>⟨c.reel,x,c.f⟩ :: r.map fun n=>⟨c.reel,n,0⟩
def moments (cs:List Clip):List Mo:=cs.flatMap Clip.ms
def iy (s:Clip) (n:Int):Prop:=if s.a=s.b then (n-s.b).natAbs=1 else n=s.b+s.way
instance (s:Clip) (n:Int):Decidable (iy s n):=by unfold iy; exact inferInstance
def can (s:Clip) (m:Mo):Prop:=s.reel=m.reel/\iy s m.n
instance (s:Clip) (m:Mo):Decidable (can s m):=by unfold can; exact inferInstance
def aR:List Clip->Mo->List Clip
 | [],m=>[⟨m.reel,m.n,m.n,m.f⟩]
 | s :: r,m=>if m.f<=0/\can s m then ⟨s.reel,s.a,m.n,s.f⟩ :: r else ⟨m.reel,m.n,m.n,m.f⟩ :: s :: r
theorem a_ (s:Clip) (r:List Clip) (m:Mo):aR (s :: r) m=if m.f<=0/\can s m then ⟨s.reel,s.a,m.n,s.f⟩ :: r else ⟨m.reel,m.n,m.n,m.f⟩ :: s :: r:=rfl
def aL (ms:List Mo):List Clip:=ms.foldl aR []
def strips (cs:List Clip):List Clip:=(aL (moments cs)).reverse
theorem gP {s:Clip}(h:s.a=s.b):s.cnt=1:=by unfold Clip.cnt; omega
theorem wK {s:Clip}(h:s.a≠s.b):2<=s.cnt:=by unfold Clip.cnt; omega
theorem d_ (s:Clip):s.way=1\/s.way=-1:=by unfold Clip.way; split <;> simp
theorem ei (s:Clip):s.a+((s.cnt-1:Nat):Int)*s.way=s.b:=by
 unfold Clip.cnt Clip.way
 split <;> omega
theorem ia {s:Clip}{n:Int}(h:iy s n):(⟨s.reel,s.a,n,s.f⟩:Clip).nums=s.nums++[n]:=by
 unfold iy at h
 have key:(⟨s.reel,s.a,n,s.f⟩:Clip).cnt=s.cnt+1/\((⟨s.reel,s.a,n,s.f⟩:Clip).way=s.way\/s.cnt=1)/\s.a+(s.cnt:Int)*(⟨s.reel,s.a,n,s.f⟩:Clip).way=n:=by
  unfold Clip.cnt Clip.way at *
  simp only at *
  split at h
  ·refine ⟨by omega,by omega,?_⟩
   split <;> omega
  ·split at h <;> (refine ⟨by omega,.inl (by split <;> omega),?_⟩; split <;> omega)
 obtain ⟨k1,k2,k3⟩:=key
 unfold Clip.nums
 rw [k1,List.range_succ,A8,Br,D9]
 have k3':(⟨s.reel,s.a,n,s.f⟩:Clip).a+(s.cnt:Int)*(⟨s.reel,s.a,n,s.f⟩:Clip).way=n:=k3
 rw [k3']
 congr 1
 rcases k2 with e | e
 ·rw [e]
 ·rw [e]
  simp
theorem yH {s:Clip}{m:Mo}(h:can s m) (hf:m.f=0):(⟨s.reel,s.a,m.n,s.f⟩:Clip).ms=s.ms++[m]:=by
 have e:=ia h.2
 unfold Clip.ms
 rw [e]
 cases hn:s.nums with
 | nil=>rw [Clip.nums_eq] at hn; cases hn
 | cons x r =>
  show _ :: List.map _ (r++[m.n])=(_ :: List.map _ r)++[m]
  rw [A8,Ce]
  have:m=⟨s.reel,m.n,0⟩:=by
   obtain ⟨mr,mn,mf⟩:=m
   have hf:mf=0:=hf
   have hr:s.reel=mr:=h.1
   rw [hf,hr]
  exact congrArg (fun y=>(⟨s.reel,x,s.f⟩:Mo) :: (List.map (fun n=>(⟨s.reel,n,0⟩:Mo)) r++[y])) this.symm
theorem sW (m:Mo):(⟨m.reel,m.n,m.n,m.f⟩:Clip).ms=[m]:=by
 have e:(⟨m.reel,m.n,m.n,m.f⟩:Clip).nums=[m.n]:=by
  rw [Clip.nums_eq,gP rfl]
  rfl
 unfold Clip.ms
 rw [e]
 rfl
theorem bS (a b:List Clip):moments (a++b)=moments a++moments b:=by unfold moments; rw [List.flatMap_append]
theorem pH {r:List Clip}{m:Mo}(hf:0<=m.f):moments (aR r m).reverse=moments r.reverse++[m]:=by
 cases r with
 | nil =>
  show moments [⟨m.reel,m.n,m.n,m.f⟩]=[m]
  unfold moments
  rw [Dd,List.flatMap_nil,sW,BK]
 | cons s r =>
  rw [a_]
  split
  ·rename_i h
   rw [Bd,Bd,bS,bS,Bu]
   congr 1
   unfold moments
   rw [Dd,Dd,List.flatMap_nil,BK,BK]
   exact yH h.2 (by omega)
  ·rw [Bd,bS]
   congr 1
   unfold moments
   rw [Dd,List.flatMap_nil,sW,BK]
theorem i4:∀(ms:List Mo) (r:List Clip),(∀m∈ms,0<=m.f)->moments (ms.foldl aR r).reverse=moments r.reverse++ms
 | [],r,_=>by rw [BK]; rfl
 | m :: ms,r,h=>by
  rw [DV,i4 ms _ fun x hx=>h x (AO _ hx),pH (h m (AQ ..)),Bu]
  rfl
theorem Au {c:Clip}(h:0<=c.f):∀m∈c.ms,0<=m.f:=by
 intro m hm
 unfold Clip.ms at hm
 cases hn:c.nums with
 | nil=>rw [hn] at hm; cases hm
 | cons x r =>
  rw [hn] at hm
  rcases AX.mp hm with rfl | hm
  ·exact h
  ·obtain ⟨y,_,rfl⟩:=Be.mp hm
   exact BH 0
theorem jh {cs:List Clip}(h:∀c∈cs,0<=c.f):∀m∈moments cs,0<=m.f:=by
 intro m hm
 unfold moments at hm
 obtain ⟨c,hc,hm⟩:=EU.mp hm
 exact Au (h c hc) m hm
theorem gh {cs:List Clip}(h:∀c∈cs,0<=c.f):moments (strips cs)=moments cs:=by
 unfold strips aL
 rw [i4 _ _ (jh h)]
 rfl
structure MOk (m:Mo):Prop where
 rl:m.reel.length<=100
 rf:C9 m.reel=true
 n0:0<=m.n
 n1:m.n<=1000000
 f0:0<=m.f
 f1:m.f<=1000000
structure SOk (c:Clip):Prop where
 rl:c.reel.length<=100
 rf:C9 c.reel=true
 a0:0<=c.a
 a1:c.a<=1000000
 b0:0<=c.b
 b1:c.b<=1000000
 f0:0<=c.f
 f1:c.f<=1000000
theorem ny {m:Mo}(h:MOk m):SOk ⟨m.reel,m.n,m.n,m.f⟩:=⟨h.rl,h.rf,h.n0,h.n1,h.n0,h.n1,h.f0,h.f1⟩
theorem rg {r:List Clip}{m:Mo}(h:∀s∈r,SOk s) (hm:MOk m):∀s∈aR r m,SOk s:=by
 cases r with
 | nil =>
  intro s hs
  rw [Bi.mp hs]
  exact ny hm
 | cons t r =>
  intro s hs
  rw [a_] at hs
  split at hs
  ·rcases AX.mp hs with rfl | hs
   ·obtain ⟨h1,h2,h3,h4,h5,h6,h7,h8⟩:=h t (AQ ..)
    exact ⟨h1,h2,h3,h4,hm.n0,hm.n1,h7,h8⟩
   ·exact h s (AO _ hs)
  ·rcases AX.mp hs with rfl | hs
   ·exact ny hm
   ·exact h s hs
theorem kK:∀(ms:List Mo) (r:List Clip),(∀s∈r,SOk s)->(∀m∈ms,MOk m)->∀s∈ms.foldl aR r,SOk s
 | [],r,h,_=>h
 | m :: ms,r,h,hm=>kK ms _ (rg h (hm m (AQ ..))) fun x hx=>hm x (AO _ hx)
theorem tD (r:List Clip) (m:Mo):(aR r m).length<=r.length+1:=by
 cases r with
 | nil=>exact AM _
 | cons t r =>
  rw [a_]
  split
  ·exact DM _
  ·exact AM _
theorem ip:∀(ms:List Mo) (r:List Clip),(ms.foldl aR r).length<=r.length+ms.length
 | [],r=>AM _
 | m :: ms,r=>by
  have h1:=ip ms (aR r m)
  have h2:=tD r m
  rw [DV,AZ]
  omega
theorem cR (c:Clip):c.ms.length=c.cnt:=by
 have h:=c.nums_len
 unfold Clip.ms
 cases hn:c.nums with
 | nil=>rw [Clip.nums_eq] at hn; cases hn
 | cons x r =>
  rw [hn] at h
  rw [<- h]
  simp
theorem gp {m:Nat}:∀(cs:List Clip),(∀c∈cs,c.cnt<=m)->(moments cs).length<=m*cs.length
 | [],_=>Bo _
 | c :: cs,h=>by
  have h1:=gp cs fun x hx=>h x (AO _ hx)
  have h2:=h c (AQ ..)
  unfold moments at h1 ⊢
  rw [Dd,AW,cR,AZ,Nat.mul_succ]
  omega
theorem bF (c:Clip) (cs:List Clip):moments (c :: cs)=c.ms++moments cs:=by unfold moments; rw [Dd]
theorem gm (c:Clip):moments [c]=c.ms:=by rw [bF]; exact BK _
theorem vT {c:Clip}(h:c.f=0):c.ms=c.nums.map fun n=>⟨c.reel,n,0⟩:=by
 unfold Clip.ms
 cases hn:c.nums with
 | nil=>rfl
 | cons x r=>rw [h]; rfl
theorem ce (c:Clip):c.ms=⟨c.reel,c.a,c.f⟩ :: (c.nums.drop 1).map fun n=>⟨c.reel,n,0⟩:=by
 unfold Clip.ms
 rw [Clip.nums_eq]
 rfl
theorem sR {c:Clip}{n:Int}(h:n∈c.nums) (ha:0<=c.a/\c.a<=1000000) (hb:0<=c.b/\c.b<=1000000):0<=n/\n<=1000000:=by
 unfold Clip.nums at h
 obtain ⟨k,hk,rfl⟩:=Be.mp h
 have hk:=B7.mp hk
 unfold Clip.cnt at hk
 unfold Clip.way
 split <;> omega
theorem pC {r:List Clip}{m:Mo}(h:0<m.f):aR r m=⟨m.reel,m.n,m.n,m.f⟩ :: r:=by
 cases r with
 | nil=>rfl
 | cons s r=>rw [a_,if_neg (by omega)]
theorem je (c:Clip):c.nums[0]?=some c.a:=by rw [Clip.nums_eq]; rfl
theorem bw {c:Clip}{k:Nat}(h:k<c.cnt):c.nums[k]?=some (c.a+(k:Int)*c.way):=by
 unfold Clip.nums
 rw [AR,Df h]
 rfl
theorem sS (c:Clip):∃l,c.nums=l++[c.b]:=by
 have e:c.cnt=c.cnt-1+1:=by unfold Clip.cnt; omega
 have h:=ei c
 refine ⟨(BP (c.cnt-1)).map fun (m:Nat)=>c.a+(m:Int)*c.way,?_⟩
 unfold Clip.nums
 rw [e,List.range_succ,A8,<- h]
 rfl
theorem ic {c:Clip}{k:Nat}{n:Int}(h:c.nums[k]?=some n):c.ms[k]?=some ⟨c.reel,n,c.f*(if k=0 then 1 else 0)⟩:=by
 rw [ce]
 cases k with
 | zero =>
  rw [je] at h
  cases h
  simp
 | succ k =>
  rw [De,AR,List.getElem?_drop,Nat.add_comm,h]
  simp
end KS
namespace KS
open PySem L2 G
def Clip.vs (c:Clip):List V:=[.str c.reel,.int c.a,.int c.b,.int c.f]
theorem Clip.numsV (c:Clip):c.nums.map V.int=jQ c.a c.cnt c.way:=by
 unfold Clip.nums jQ
 rw [B5]
 rfl
structure Sm (c:Clip):Prop where
 a0:0<=c.a
 a1:c.a<=1000000
 b0:0<=c.b
 b1:c.b<=1000000
structure COk (m n:Nat) (c:Clip):Prop where
 rl:c.reel.length<=100
 rf:fV c.reel
 a0:0<=c.a
 a1:c.a<=n
 b0:0<=c.b
 b1:c.b<=n
 f0:0<=c.f
 f1:c.f<=c.cnt
 d:c.cnt<=m
theorem COk.sm {m n:Nat}{c:Clip}(h:COk m n c) (hn:n<=1000000):Sm c:=⟨h.a0,by have:=h.a1; omega,h.b0,by have:=h.b1; omega⟩
theorem COk.mono {m n m' n':Nat}{c:Clip}(h:COk m n c) (hm:m<=m') (hn:n<=n'):COk m' n' c:=⟨h.rl,h.rf,h.a0,by have:=h.a1; omega,h.b0,by have:=h.b1; omega,h.f0,h.f1,by have:=h.d; omega⟩
theorem Sm.cnt {c:Clip}(h:Sm c):c.cnt<=1000001:=by
 obtain ⟨h1,h2,h3,h4⟩:=h
 unfold Clip.cnt
 omega
theorem Clip.way_cnt (c:Clip):(c.way=1/\c.cnt=(c.b+c.way-c.a).toNat)\/(c.way=-1/\c.cnt=(c.a-(c.b+c.way)).toNat):=by
 unfold Clip.way Clip.cnt
 by_cases h:c.b<c.a
 ·right
  rw [if_pos h]
  exact ⟨rfl,by omega⟩
 ·left
  rw [if_neg h]
  exact ⟨rfl,by omega⟩
def CL (m n:Nat) (H:Hp) (p:Addr) (ps:List (Addr×Clip)):Prop:=H p=some (.lst (ps.map fun x=>V.ref x.1))/\∀x∈ps,H x.1=some (.tup x.2.vs)/\COk m n x.2
theorem CL.same {m n:Nat}{H H':Hp}{p:Addr}{ps:List (Addr×Clip)}(h:CL m n H p ps) (s:Same H H'):CL m n H' p ps:=⟨s _ _ h.1,fun x hx=>⟨s _ _ (h.2 x hx).1,(h.2 x hx).2⟩⟩
theorem CL.mono {m n m' n':Nat}{H:Hp}{p:Addr}{ps:List (Addr×Clip)}(h:CL m n H p ps) (hm:m<=m') (hn:n<=n'):CL m' n' H p ps:=⟨h.1,fun x hx=>⟨(h.2 x hx).1,(h.2 x hx).2.mono hm hn⟩⟩
theorem uw {α:Type}(f:α->V) (ns:List α) (k:Nat):bH (ns.map f) (some (k:Int)) none=(ns.drop k).map f:=by
 unfold bH
 rw [HT.sIx_nat,HT.sIx_none,AH,<- E1,<- E2]
 congr 1
 by_cases h:k<=ns.length
 ·rw [DW h,Cr (by rw [Cq]; omega)]
 ·rw [ES (by omega),Dv,BS,DQ (by omega)]
theorem COk.sok {m n:Nat}{c:Clip}(h:COk m n c) (hm:m<=1000000) (hn:n<=1000000):SOk c:=⟨h.rl,h.rf,h.a0,by have:=h.a1; omega,h.b0,by have:=h.b1; omega,h.f0,by have:=h.f1; have:=h.d; omega⟩
theorem COk.mok {m n:Nat}{c:Clip}(h:COk m n c) (hm:m<=1000000) (hn:n<=1000000):∀x∈c.ms,MOk x:=by
 have s:=h.sok hm hn
 intro x hx
 rw [ce] at hx
 rcases AX.mp hx with rfl | hx
 ·exact ⟨s.rl,s.rf,s.a0,s.a1,s.f0,s.f1⟩
 ·obtain ⟨y,hy,rfl⟩:=Be.mp hx
  obtain ⟨h1,h2⟩:=sR (List.mem_of_mem_drop hy) ⟨s.a0,s.a1⟩ ⟨s.b0,s.b1⟩
  exact ⟨s.rl,s.rf,h1,h2,BH 0,(by decide:(0:Int)<=1000000)⟩
def Bt (p:Addr) (H H':Hp):Prop:=∀b o,b≠p->H b=some o->H' b=some o
theorem Bt.refl (p:Addr) (H:Hp):Bt p H H:=fun _ _ _ h=>h
theorem Bt.trans {p:Addr}{H H' H'':Hp}(a:Bt p H H') (b:Bt p H' H''):Bt p H H'':=fun c o hc h=>b c o hc (a c o hc h)
theorem Bt.of {p:Addr}{H H':Hp}(s:Same H H'):Bt p H H':=fun b o _ h=>s b o h
theorem Bt.upd {p:Addr}{H:Hp}{o:HO}:Bt p H (upd H p o):=fun b u hb h=>by rw [aj hb]; exact h
theorem Bt.same {p:Addr}{H H1 H':Hp}(s:Same H H1) (b:Bt p H1 H') (hp:H p=none):Same H H':=fun c o h=>b c o (am h hp) (s c o h)
def SL (H:Hp) (p:Addr) (rs:List (Addr×Clip)):Prop:=H p=some (.lst (rs.reverse.map fun x=>V.ref x.1))/\∀x∈rs,H x.1=some (.tup x.2.vs)
theorem SL.nil {H:Hp}{p:Addr}(h:H p=some (.lst [])):SL H p []:=⟨h,fun x hx=>nomatch hx⟩
theorem SL.same {H H':Hp}{p:Addr}{rs:List (Addr×Clip)}(h:SL H p rs) (s:Same H H'):SL H' p rs:=⟨s _ _ h.1,fun x hx=>s _ _ (h.2 x hx)⟩
theorem SL.ne {H:Hp}{p a:Addr}{rs:List (Addr×Clip)}{xs:List V}(h:SL H p rs) (e:H a=some (.tup xs)):a≠p:=bJ e h.1 (by intro z; cases z)
theorem SL.push {H:Hp}{p pt:Addr}{rs:List (Addr×Clip)}{c:Clip}(h:SL H p rs) (ht:H pt=some (.tup c.vs)):SL (upd H p (.lst ((rs.reverse.map fun x=>V.ref x.1)++[.ref pt]))) p ((pt,c) :: rs):=by
 refine ⟨by rw [ac,Bd,A8]; rfl,fun x hx=>?_⟩
 rcases AX.mp hx with rfl | z
 ·show upd H p _ pt=_
  rw [aj (h.ne ht)]
  exact ht
 ·rw [aj (h.ne (h.2 x z))]
  exact h.2 x z
theorem SL.put {H:Hp}{p pt:Addr}{x0:Addr×Clip}{rs:List (Addr×Clip)}{c:Clip}(h:SL H p (x0 :: rs)) (ht:H pt=some (.tup c.vs)):SL (upd H p (.lst ((rs.reverse.map fun x=>V.ref x.1)++[.ref pt]))) p ((pt,c) :: rs):=by
 refine ⟨by rw [ac,Bd,A8]; rfl,fun x hx=>?_⟩
 rcases AX.mp hx with rfl | z
 ·show upd H p _ pt=_
  rw [aj (h.ne ht)]
  exact ht
 ·have h2:=h.2 x (AO _ z)
  rw [aj (h.ne h2)]
  exact h2
theorem SL.last {H:Hp}{p:Addr}{x:Addr×Clip}{rs:List (Addr×Clip)}:atI ((x :: rs).reverse.map fun x=>V.ref x.1) (-1)=some (V.ref x.1):=by
 rw [Bd,A8]
 exact lI _ _
theorem iteN {c:Bool}{A B:Prop}(h:c=false) (b:B):if c=true then A else B:=by rw [h]; exact gD b
theorem iteY {c:Bool}{A B:Prop}(h:c=true) (a:A):if c=true then A else B:=by rw [h]; exact k_ a
end KS
namespace K56
open PySem L2 G KS
section
variable {P:Program}{w:Bj}{K:AK}{mg:Str->Option Value}{base:Heap}
def qW:Sp:=fun vs H Q _=>∃(p:Addr) (c:Clip),vs=[.ref p]/\H p=some (.tup c.vs)/\Q (.int c.way) H
theorem zD:aq ["clip"] ["clip"] (ak g8):=⟨rfl,rfl,rfl,by decide +kernel,rfl,by decide +kernel,by decide +kernel⟩
theorem yu {f:Addr}{fd:Bg}(F:Fun K "way_of" "way_of" g8 f fd):aJ P w K mg base CX0 1 f fd ["clip"] qW:=by
 refine F.ok zD (fun vs H Q E h=>?_) (fun cdv A outer s H vs Q E hr h=>?_)
 ·obtain ⟨p,c,rfl,_⟩:=h
  rfl
 obtain ⟨p,c,rfl,hp,q⟩:=h
 refine dN (ah (aB (Ay (aK gk (au ao (e_v 0) ae) (au ao (e_v 0) ae)) (fP bD ae) ae))) ?_
 refine ⟨_,rfl,p,_,_,.int c.b,rfl,rfl,SqT.of hp,ad (j:=2) rfl,_,rfl,p,_,_,.int c.a,rfl,rfl,SqT.of hp,ad (j:=1) rfl,_,_,rfl,rfl,_,rfl,?_⟩
 have q:Q (.int (if c.b<c.a then -1 else 1)) H:=q
 refine fc (fun z=>?_) (fun z=>?_)
 ·rw [if_pos (of_decide_eq_true z)] at q
  exact ⟨_,rfl,q⟩
 ·rw [if_neg fun y=>z (decide_eq_true y)] at q
  exact q
def xI:Sp:=fun vs H Q _=>∃(p:Addr) (c:Clip),vs=[.ref p]/\H p=some (.tup c.vs)/\Sm c/\∀l,H l=none->Q (.ref l) (upd H l (.lst (c.nums.map V.int)))
theorem scNos:aq ["clip", "way"] ["clip"] (ak dq):=⟨rfl,rfl,rfl,by decide +kernel,rfl,by decide +kernel,by decide +kernel⟩
theorem yz {f:Addr}{fd:Bg}(F:Fun K "numbers_of" "numbers_of" dq f fd) (dWay:Def P w K mg base CX0 "way_of" 1 ["clip"] qW) (n_list:mg "list"=none) (n_range:mg "range"=none):aJ P w K mg base CX0 2 f fd ["clip"] xI:=by
 refine F.ok scNos (fun vs H Q E h=>?_) (fun cdv A outer s H vs Q E hr h=>?_)
 ·obtain ⟨p,c,rfl,_⟩:=h
  rfl
 obtain ⟨p,c,rfl,hp,sm,q⟩:=h
 refine eK (ag (ax (i:=1) scNos.nd (ap dWay hr aF (aa (e_v 0) af)))
  (ah (aB (ww rfl n_list n_range (au ao (e_v 0) ae) (aD aV (au ao (e_v 0) ae) (e_v 1)) (e_v 1))))) ?_
 intros
 refine ⟨_,rfl,p,c,rfl,hp,?_⟩
 obtain ⟨a0,a1,b0,b1⟩:=sm
 have cw:=c.way_cnt
 have cn:c.cnt<=1000001:=Sm.cnt ⟨a0,a1,b0,b1⟩
 refine ⟨_,rfl,p,_,_,.int c.a,rfl,rfl,SqT.of hp,ad (j:=1) rfl,_,rfl,p,_,_,.int c.b,rfl,rfl,SqT.of hp,ad (j:=2) rfl,_,rfl,_,_,rfl,rfl,_,rfl,_,_,_,rfl,⟨by omega,by omega⟩,⟨by omega,by omega⟩,c.cnt,cw,by omega,fun l hl=>?_⟩
 rw [<- c.numsV]
 exact q l hl
end
section
variable {P:Program}{w:Bj}{K:AK}{mg:Str->Option Value}{base:Heap}
def w9:Sp:=fun vs H Q _=>∃(p:Addr) (c:Clip) (r:Str) (n:Int),vs=[.ref p,.str r,.int n]/\H p=some (.tup c.vs)/\Q (.bl (decide (can c ⟨r,n,0⟩))) H
theorem zH:aq ["strip", "reel", "number"] ["strip", "reel", "number"] (ak e8):=⟨rfl,rfl,rfl,by decide +kernel,rfl,by decide +kernel,by decide +kernel⟩
theorem yE {f:Addr}{fd:Bg}(F:Fun K "can_have" "can_have" e8 f fd) (dWay:Def P w K mg base CX0 "way_of" 1 ["clip"] qW) (n_abs:mg "abs"=none):aJ P w K mg base CX0 2 f fd ["strip", "reel", "number"] w9:=by
 refine F.ok zH (fun vs H Q E h=>?_) (fun cdv A outer s H vs Q E hr h=>?_)
 ·obtain ⟨p,c,r,n,rfl,_⟩:=h
  rfl
 obtain ⟨p,c,r,n,rfl,hp,q⟩:=h
 refine eJ (ag (bb (aK xj (au ao (e_v 0) ae) (e_v 1))
   (ah (aB lx))
   aI)
  (ag (bb (aK bf (au ao (e_v 0) ae) (au ao (e_v 0) ae))
   (ah (aB (oI bf (e_b d7 n_abs (by decide +kernel) (aa (aD bL (e_v 2) (au ao (e_v 0) ae)) af)) ae)))
   aI)
  (ah (aB (oI bf (e_v 2) (aD aV (au ao (e_v 0) ae) (ap dWay hr aF (aa (e_v 0) af)))))))) ?_
 intros
 refine ⟨_,rfl,p,_,_,.str c.reel,rfl,rfl,SqT.of hp,ad (j:=0) rfl,_,rfl,rfl,_,rfl,?_⟩
 by_cases e:c.reel=r
 ·refine iteN (by rw [decide_eq_true (by rw [e])]; rfl) ?_
  refine ⟨_,rfl,p,_,_,.int c.a,rfl,rfl,SqT.of hp,ad (j:=1) rfl,_,rfl,p,_,_,.int c.b,rfl,rfl,SqT.of hp,ad (j:=2) rfl,rfl,_,rfl,?_⟩
  by_cases ab:c.a=c.b
  ·refine iteY (decide_eq_true (by rw [ab])) ?_
   refine ⟨_,rfl,_,rfl,p,_,_,.int c.b,rfl,rfl,SqT.of hp,ad (j:=2) rfl,_,_,rfl,rfl,_,rfl,rfl,?_⟩
   have z:decide (can c ⟨r,n,0⟩)=decide (V.int (if n-c.b<0 then -(n-c.b) else n-c.b)=V.int 1):=by
    rw [decide_eq_decide]
    unfold can iy
    rw [if_pos ab]
    simp only [V.int.injEq]
    constructor
    ·rintro ⟨_,h⟩
     split <;> omega
    ·intro h
     refine ⟨e,?_⟩
     split at h <;> omega
   rw [<- z]
   exact q
  ·refine iteN (decide_eq_false (by intro z; exact ab (V.int.inj z))) ?_
   refine ⟨_,rfl,_,rfl,p,_,_,.int c.b,rfl,rfl,SqT.of hp,ad (j:=2) rfl,_,rfl,p,c,rfl,hp,_,_,rfl,rfl,rfl,?_⟩
   have z:decide (can c ⟨r,n,0⟩)=decide (V.int n=V.int (c.b+c.way)):=by
    rw [decide_eq_decide]
    unfold can iy
    rw [if_neg ab]
    simp only [V.int.injEq]
    exact ⟨fun h=>h.2,fun h=>⟨e,h⟩⟩
   rw [<- z]
   exact q
 ·refine iteY (by rw [decide_eq_false (by intro z; exact e (V.str.inj z))]; rfl) ?_
  have z:decide (can c ⟨r,n,0⟩)=false:=decide_eq_false fun h=>e h.1
  rw [z] at q
  exact q
def qX:Sp:=fun vs H Q _=>∃(pl:Addr) (rs:List (Addr×Clip)) (r:Str) (n:Int),vs=[.ref pl,.str r,.int n]/\SL H pl rs/\rs.length<=1000000 /\
 ∀(rs':List (Addr×Clip)) (H':Hp),Bt pl H H'->SL H' pl rs'->rs'.map (·.2)=aR (rs.map (·.2)) ⟨r,n,0⟩->Q .non H'
theorem xK:aq ["strips", "reel", "number"] ["strips", "reel", "number"] (ak dh):=⟨rfl,rfl,rfl,by decide +kernel,rfl,by decide +kernel,by decide +kernel⟩
theorem vJ {f:Addr}{fd:Bg}(F:Fun K "take_frame" "take_frame" dh f fd) (dCan:Def P w K mg base CX0 "can_have" 2 ["strip", "reel", "number"] w9):aJ P w K mg base CX0 3 f fd ["strips", "reel", "number"] qX:=by
 refine F.ok xK (fun vs H Q E h=>?_) (fun cdv A outer s H vs Q E hr h=>?_)
 ·obtain ⟨pl,rs,r,n,rfl,_⟩:=h
  rfl
 obtain ⟨pl,rs,r,n,rfl,sl,hlen,q⟩:=h
 refine dN (ah (bb (t_w (iT (zk (e_v 0)) (jC (iX (ap dCan hr aF (aa (au aE (e_v 0) (fP bD ae)) (aa (e_v 1) (aa (e_v 2) af))))))))
   (ah (i5 (aD fF (ge eg (au aE (e_v 0) (fP bD ae)) cB (bj ae)) (ba (aa (e_v 2) (aa (au ao (au aE (e_v 0) (fP bD ae)) ae) af)))) (oA (e_v 0) (fP bD ae))))
   (ah (aO (bn (e_v 0) (ba (aa (e_v 1) (aa (e_v 2) (aa (e_v 2) (aa ae af)))))))))) ?_
 have zl:sizeLine=16777216:=A9
 have push:∀{H1:Hp},SL H1 pl rs->Same H H1->aR (rs.map (·.2)) ⟨r,n,0⟩=⟨r,n,n,0⟩ :: rs.map (·.2)->∀pt,H1 pt=none->Q .non (upd (upd H1 pt (.tup (Clip.vs ⟨r,n,n,0⟩))) pl (.lst ((rs.reverse.map fun x=>V.ref x.1)++[.ref pt]))):=by
  intro H1 sl1 s1 e pt hpt
  have st:=Same.new hpt (.tup (Clip.vs ⟨r,n,n,0⟩))
  exact q _ _ ((Bt.of (s1.trans st)).trans Bt.upd) ((sl1.same st).push (c:=⟨r,n,n,0⟩) ac) e.symm
 cases rs with
 | nil =>
  refine ⟨_,rfl,false,?_,gD ?_⟩
  ·exact .inl ⟨_,SqL.of sl.1,rfl⟩
  refine ⟨_,rfl,.inl ⟨rfl,_,SqL.of sl.1⟩,_,rfl,_,rfl,_,rfl,(by show 4<=sizeLine; decide),fun pt hpt=>?_⟩
  exact ⟨pl,_,_,rfl,rfl,Same.new hpt _ _ _ sl.1,(by decide),push sl (Same.refl _) rfl pt hpt⟩
 | cons x rs =>
  refine ⟨_,rfl,true,?_,k_ ?_⟩
  ·refine .inl ⟨_,SqL.of sl.1,?_⟩
   rw [Bd,A8]
   simp
  have hx:=sl.2 x (AQ ..)
  refine ⟨_,rfl,_,rfl,pl,_,_,.ref x.1,rfl,rfl,SqL.of sl.1,SL.last (H:=H) (p:=pl),_,rfl,_,rfl,x.1,x.2,r,n,rfl,hx,_,rfl,?_⟩
  by_cases e:can x.2 ⟨r,n,0⟩
  ·refine iteY (decide_eq_true e) ?_
   refine ⟨_,rfl,_,rfl,pl,_,_,.ref x.1,rfl,rfl,SqL.of sl.1,SL.last (H:=H) (p:=pl),_,rfl,x.1,_,rfl,hx,fun p1 H1 s1 hp1=>?_⟩
   refine ⟨_,rfl,_,rfl,_,rfl,pl,_,_,.ref x.1,rfl,rfl,SqL.of (s1 _ _ sl.1),SL.last (H:=H) (p:=pl),x.1,_,_,.int x.2.f,rfl,rfl,SqT.of (s1 _ _ hx),ad (j:=3) rfl,(by show 2<=sizeLine; decide),fun p2 hp2=>?_⟩
   have s2:=Same.new hp2 (.tup [.int n,.int x.2.f])
   refine ⟨p1,p2,_,_,rfl,rfl,s2 _ _ hp1,ac,(by show 2+2<=sizeLine; decide),fun p3 H3 s3 hp3=>?_⟩
   have S3:=(s1.trans s2).trans s3
   have sl3:=sl.same S3
   have hl:(((x :: rs).reverse.map fun x=>V.ref x.1)).length=rs.length+1:=by rw [AH,A7]; rfl
   refine ⟨_,rfl,_,rfl,pl,_,_,rs.length,rfl,rfl,sl3.1,?_,?_⟩
   ·have:=tN (n:=(((x :: rs).reverse.map fun x=>V.ref x.1)).length) (by rw [hl]; exact Nat.succ_pos _)
    rw [hl] at this ⊢
    exact this
   ·have e2:(((x :: rs).reverse.map fun x=>V.ref x.1)).set rs.length (V.ref p3)=(rs.reverse.map fun x=>V.ref x.1)++[.ref p3]:=by
     rw [Bd,A8]
     have:rs.length=(rs.reverse.map fun x=>V.ref x.1).length:=by rw [AH,A7]
     rw [this,List.set_append_right _ _ (AM _),Dv]
     rfl
    rw [e2]
    refine q ((p3,⟨x.2.reel,x.2.a,n,x.2.f⟩) :: rs) _ ((Bt.of S3).trans Bt.upd) (sl3.put (c:=⟨x.2.reel,x.2.a,n,x.2.f⟩) hp3) ?_
    rw [Br,Br,a_,if_pos ⟨BH 0,e⟩]
  ·refine iteN (decide_eq_false e) ?_
   refine ⟨_,rfl,.inl ⟨rfl,_,SqL.of sl.1⟩,_,rfl,_,rfl,_,rfl,(by show 4<=sizeLine; decide),fun pt hpt=>?_⟩
   refine ⟨pl,_,_,rfl,rfl,Same.new hpt _ _ _ sl.1,?_,push sl (Same.refl _) ?_ pt hpt⟩
   ·rw [AH,A7]
    omega
   ·rw [Br,a_,if_neg fun z=>e z.2]
def gX:Sp:=fun vs H Q _=>∃(pc:Addr) (ps:List (Addr×Clip)) (n:Nat),vs=[.ref pc]/\CL 1000 n H pc ps/\n<=1000000/\ps.length<=100 /\
 ∀(l:Addr) (rs:List (Addr×Clip)) (H':Hp),Same H H'->H l=none->SL H' l rs->rs.map (·.2)=aL (moments (ps.map (·.2)))->Q (.ref l) H'
theorem scStrips:aq ["clips", "strips", "clip", "numbers", "number"] ["clips"] (ak dR):=⟨rfl,rfl,rfl,by decide +kernel,rfl,by decide +kernel,by decide +kernel⟩
theorem pU {f:Addr}{fd:Bg}(F:Fun K "strips_of" "strips_of" dR f fd) (dNos:Def P w K mg base CX0 "numbers_of" 2 ["clip"] xI) (dTake:Def P w K mg base CX0 "take_frame" 3 ["strips", "reel", "number"] qX):aJ P w K mg base CX0 4 f fd ["clips"] gX:=by
 refine F.ok scStrips (fun vs H Q E h=>?_) (fun cdv A outer s H vs Q E hr h=>?_)
 ·obtain ⟨pc,ps,n,rfl,_⟩:=h
  rfl
 obtain ⟨pc,ps,N,rfl,cl,hN,hpl,q⟩:=h
 refine eJ (ag (ax (i:=1) scStrips.nd (aW af))
  (ag (bv BM rfl (cC (e_v 0)) (aC (i:=2) scStrips.nd)
   (ag (ax (i:=3) scStrips.nd (ap dNos hr aF (aa (e_v 2) af)))
   (ag (fC (bb (aK i_ (au ao (e_v 2) ae) ae)
    (ag (aO (bn (e_v 1) (ba (aa (au ao (e_v 2) ae) (aa (au ao (e_v 2) ae) (aa (au ao (e_v 2) ae) (aa (au ao (e_v 2) ae) af)))))))
    (ah (ax (i:=3) scStrips.nd (ge de (e_v 3) (bj ae) cB))))
    aI))
   (ah (bv BM rfl (cC (e_v 3)) (aC (i:=4) scStrips.nd)
    (ah (aO (ap dTake hr aF (aa (e_v 1) (aa (au ao (e_v 2) ae) (aa (e_v 4) af)))))))))))
  (ah (aB (e_v 1))))) ?_
 intros
 have zl:sizeLine=16777216:=A9
 refine ⟨(by show 0<=sizeLine; decide),fun pl hp=>?_⟩
 have s0:=Same.new hp (.lst [])
 have bound:∀i,(aL (moments ((ps.take i).map (·.2)))).length<=100000:=by
  intro i
  have h1:=ip (moments ((ps.take i).map (·.2))) []
  have h2:=gp (m:=1000) ((ps.take i).map (·.2)) fun c hc=>by
   obtain ⟨x,hx,rfl⟩:=Be.mp hc
   exact (cl.2 x (List.mem_of_mem_take hx)).2.d
  rw [AH,BA] at h2
  have h3:1000*min i ps.length<=1000*100:=Nat.mul_le_mul_left _ (by omega)
  show (List.foldl aR [] _).length<=_
  rw [Dp] at h1
  omega
 refine ⟨_,rfl,pc,rfl,⟨_,SqL.of (s0 _ _ cl.1)⟩,bU (xs:=ps.map fun x=>V.ref x.1) (fun i σ H'=>∃(rs:List (Addr×Clip)) (o2 o3 o4:Option V),σ=[some (.ref pc),some (.ref pl),o2,o3,o4]/\SL H' pl rs/\rs.map (·.2)=aL (moments ((ps.take i).map (·.2)))/\Same H H')
  ⟨[],none,none,none,rfl,SL.nil ac,rfl,s0⟩ ?_ ?_ ?_⟩
 ·rintro i σ H' hi ⟨rs,o2,o3,o4,rfl,sl,er,hS⟩
  exact SqL.of (hS _ _ cl.1)
 ·rintro i x σ H' hx ⟨rs,o2,o3,o4,rfl,sl,er,hS⟩
  rw [AR] at hx
  cases hz:ps[i]? with
  | none=>rw [hz] at hx; cases hx
  | some z =>
   rw [hz] at hx
   cases hx
   obtain ⟨hc,ok⟩:=cl.2 z (Bh hz)
   have hc:=hS _ _ hc
   have ek:aL (moments ((ps.take (i+1)).map (·.2)))=z.2.ms.foldl aR (rs.map (·.2)):=by
    rw [Cy,hz,A8]
    show aL (moments (_++[z.2]))=_
    unfold aL at er ⊢
    rw [bS,gm,Dw,er]
   have hrl:rs.length<=100000:=by
    have:=bound i
    rw [<- er,AH] at this
    exact this
   have hd:=ok.d
   refine ⟨_,rfl,z.1,z.2,rfl,hc,ok.sm hN,fun l1 hl1=>?_⟩
   have s1:=Same.new hl1 (.lst (z.2.nums.map V.int))
   have sl1:=sl.same s1
   refine ⟨fun σ' H1=>∃(rs1:List (Addr×Clip)) (ln:Addr) (xs:List Int) (o4:Option V),σ'=[some (.ref pc),some (.ref pl),some (.ref z.1),some (.ref ln),o4]/\SL H1 pl rs1/\H1 ln=some (.lst (xs.map V.int))/\ln≠pl/\rs1.length+xs.length<=102000/\z.2.ms.foldl aR (rs.map (·.2))=(xs.map fun n=>(⟨z.2.reel,n,0⟩:Mo)).foldl aR (rs1.map (·.2))/\Bt pl H' H1,?_,?_⟩
   ·refine ⟨_,rfl,z.1,_,_,.int z.2.f,rfl,rfl,SqT.of (s1 _ _ hc),ad (j:=3) rfl,_,_,rfl,rfl,_,rfl,?_⟩
    have nel:l1≠pl:=fun e=>by rw [e,sl.1] at hl1; cases hl1
    refine fc (fun y=>?_) (fun y=>?_)
    ·have y:=of_decide_eq_true y
     refine ⟨_,rfl,.inl ⟨rfl,_,SqL.of sl1.1⟩,_,rfl,z.1,_,_,.str z.2.reel,rfl,rfl,SqT.of (s1 _ _ hc),ad (j:=0) rfl,_,rfl,z.1,_,_,.int z.2.a,rfl,rfl,SqT.of (s1 _ _ hc),ad (j:=1) rfl,_,rfl,z.1,_,_,.int z.2.a,rfl,rfl,SqT.of (s1 _ _ hc),ad (j:=1) rfl,_,rfl,z.1,_,_,.int z.2.f,rfl,rfl,SqT.of (s1 _ _ hc),ad (j:=3) rfl,(by show 4<=sizeLine; decide),fun pt hpt=>?_⟩
     have s2:=Same.new hpt (.tup (Clip.vs ⟨z.2.reel,z.2.a,z.2.a,z.2.f⟩))
     refine ⟨pl,_,_,rfl,rfl,s2 _ _ sl1.1,by rw [AH,A7]; omega,?_⟩
     have hl2:upd (upd (upd H' l1 (.lst (z.2.nums.map V.int))) pt (.tup (Clip.vs ⟨z.2.reel,z.2.a,z.2.a,z.2.f⟩))) pl (.lst ((rs.reverse.map fun x=>V.ref x.1)++[.ref pt])) l1=some (.lst (z.2.nums.map V.int)):=by
      rw [aj nel]
      exact s2 _ _ ac
     refine ⟨_,rfl,_,rfl,l1,_,rfl,SqL.of hl2,fun l3 hl3=>?_⟩
     rw [show bH (z.2.nums.map V.int) (some 1) none=(z.2.nums.drop 1).map V.int from uw V.int z.2.nums 1] at *
     have s3:=Same.new hl3 (.lst ((z.2.nums.drop 1).map V.int))
     have slp:=((sl1.same s2).push (c:=⟨z.2.reel,z.2.a,z.2.a,z.2.f⟩) ac)
     refine ⟨_,l3,z.2.nums.drop 1,_,rfl,slp.same s3,ac,?_,?_,?_,?_⟩
     ·intro e
      rw [e,ac] at hl3
      cases hl3
     ·rw [AZ,Cq,Clip.nums_len]
      omega
     ·rw [ce,DV,pC y]
      rfl
     ·exact ((Bt.of (s1.trans s2)).trans Bt.upd).trans (Bt.of s3)
    ·have y:¬ 0<z.2.f:=fun k=>y (decide_eq_true k)
     have f0:=ok.f0
     exact ⟨rs,l1,z.2.nums,_,rfl,sl1,ac,nel,by rw [Clip.nums_len]; omega,by rw [vT (by omega)],Bt.of s1⟩
   rintro σ H1 ⟨rs1,ln,xs,o4',rfl,sl1,hln,nel,hlen,ef,bt⟩
   have hc1:H1 z.1=some (.tup z.2.vs):=bt _ _ (sl.ne hc) hc
   refine ⟨_,rfl,ln,rfl,⟨_,SqL.of hln⟩,bU (xs:=xs.map V.int) (fun j σ H2=>∃(rs2:List (Addr×Clip)) (o4:Option V),σ=[some (.ref pc),some (.ref pl),some (.ref z.1),some (.ref ln),o4]/\SL H2 pl rs2/\H2 ln=some (.lst (xs.map V.int))/\rs2.map (·.2)=((xs.take j).map fun n=>(⟨z.2.reel,n,0⟩:Mo)).foldl aR (rs1.map (·.2))/\Bt pl H1 H2)
    ⟨rs1,_,rfl,sl1,hln,rfl,Bt.refl _ _⟩ ?_ ?_ ?_⟩
   ·rintro j σ H2 hj ⟨rs2,o4,rfl,sl2,hl2,er2,bt2⟩
    exact SqL.of hl2
   ·rintro j y σ H2 hy ⟨rs2,o4,rfl,sl2,hl2,er2,bt2⟩
    rw [AR] at hy
    cases hu:xs[j]? with
    | none=>rw [hu] at hy; cases hy
    | some u =>
     rw [hu] at hy
     cases hy
     have hc2:=bt2 _ _ (sl1.ne hc1) hc1
     have hrl2:rs2.length<=1000000:=by
      have e:=congrArg C1 er2
      rw [AH] at e
      have h1:=ip ((xs.take j).map fun n=>(⟨z.2.reel,n,0⟩:Mo)) (rs1.map (·.2))
      rw [AH,AH,BA] at h1
      omega
     refine ⟨_,rfl,_,rfl,z.1,_,_,.str z.2.reel,rfl,rfl,SqT.of hc2,ad (j:=0) rfl,_,rfl,pl,rs2,z.2.reel,u,rfl,sl2,hrl2,fun rs3 H3 b3 sl3 e3=>?_⟩
     refine ⟨rs3,_,rfl,sl3,b3 _ _ nel hl2,?_,bt2.trans b3⟩
     rw [e3,er2,Cy,hu,A8,Dw]
     rfl
   ·rintro σ H2 ⟨rs2,o4,rfl,sl2,hl2,er2,bt2⟩
    rw [AH,BJ] at er2
    exact ⟨rs2,_,_,_,rfl,sl2,by rw [ek,ef,er2],Bt.same hS (bt.trans bt2) hp⟩
 ·rintro σ H' ⟨rs,o2,o3,o4,rfl,sl,er,hS⟩
  rw [AH,BJ] at er
  exact ⟨_,rfl,q pl rs H' hS hp sl er⟩
end
end K56
namespace KS
open PySem
structure Iv where
 reel:Str
 lo:Int
 hi:Int
def bz (spoil:Int) (c:Clip):Iv:=⟨c.reel,if c.b<c.a then c.b else c.a,(if c.a<c.b then c.b else c.a)+spoil⟩
def ff:List Int->Int->Nat
 | [],_=>0
 | e :: r,x=>if e<x then 0 else ff r x+1
def d4 (es:List Int) (p:Nat) (e:Int):List Int:=if p=es.length then es++[e] else es.set p e
theorem li:∀(es:List Int) (x:Int),ff es x<=es.length
 | [],_=>AM _
 | e :: r,x=>by
  unfold ff
  have:=li r x
  split <;> simp <;> omega
theorem uf:∀{es:List Int}{x:Int}{e:Int},es[ff es x]?=some e->e<x
 | [],_,_,h=>by cases h
 | a :: r,x,e,h=>by
  unfold ff at h
  split at h
  ·cases h
   assumption
  ·rw [De] at h
   exact uf h
theorem ug:∀{es:List Int}{x:Int}{q:Nat}{e:Int},q<ff es x->es[q]?=some e->x<=e
 | [],_,_,_,_,h=>by cases h
 | a :: r,x,q,e,hq,h=>by
  unfold ff at hq
  split at hq
  ·cases hq
  ·rename_i k
   cases q with
   | zero =>
    cases h
    omega
   | succ q =>
    rw [De] at h
    exact ug (by omega) h
theorem rH (es:List Int) (p:Nat) (e:Int):(d4 es p e).length=if p=es.length then es.length+1 else es.length:=by
 unfold d4
 split
 ·rw [AW]; rfl
 ·rw [Fb]
theorem jT {es:List Int}{p:Nat}{e:Int}(h:p<=es.length):(d4 es p e)[p]?=some e:=by
 unfold d4
 split
 ·rename_i k
  rw [k,BR (AM _),Dv]
  rfl
 ·exact DO (by omega)
theorem nP {es:List Int}{p q:Nat}{e:Int}(h:p<=es.length) (hq:q≠p):(d4 es p e)[q]?=es[q]?:=by
 unfold d4
 split
 ·rename_i k
  by_cases h2:q<es.length
  ·rw [Ca h2]
  ·rw [BL (by rw [AW,BU]; omega),BL (by omega)]
 ·rw [D3 (Cg hq)]
abbrev Ends:=Str->List Int
def Ends.put (f:Ends) (r:Str) (es:List Int):Ends:=fun x=>if x=r then es else f x
def cW:List Iv->Ends->List (Iv×Nat)
 | [],_=>[]
 | v :: r,f=>(v,ff (f v.reel) v.lo) :: cW r (f.put v.reel (d4 (f v.reel) (ff (f v.reel) v.lo) v.hi))
def cY:List Iv->Ends->Ends
 | [],f=>f
 | v :: r,f=>cY r (f.put v.reel (d4 (f v.reel) (ff (f v.reel) v.lo) v.hi))
structure Told (done:List (Iv×Nat)) (f:Ends):Prop where
 up:∀x∈done,∃e,(f x.1.reel)[x.2]?=some e/\x.1.hi<=e
 by':∀(r:Str) (p:Nat) e,(f r)[p]?=some e->∃x∈done,x.1.reel=r/\x.2=p/\x.1.hi=e
theorem Told.nil:Told [] (fun _=>[]):=⟨(fun x h=>by cases h),(fun r p e h=>by cases h)⟩
theorem Told.behind {done:List (Iv×Nat)}{f:Ends}{v:Iv}(T:Told done f):∀x∈done,x.1.reel=v.reel->x.2=ff (f v.reel) v.lo->x.1.hi<v.lo:=by
 intro x hx hr hp
 obtain ⟨e,h1,h2⟩:=T.up x hx
 rw [hr,hp] at h1
 have:=uf h1
 omega
theorem Told.ahead {done:List (Iv×Nat)}{f:Ends}{v:Iv}(T:Told done f) {q:Nat}(hq:q<ff (f v.reel) v.lo):∃x∈done,x.1.reel=v.reel/\x.2=q/\v.lo<=x.1.hi:=by
 have hl:=li (f v.reel) v.lo
 have hx:(f v.reel)[q]?=some (f v.reel)[q]:=AN (by omega)
 obtain ⟨x,h1,h2,h3,h4⟩:=T.by' v.reel q _ hx
 exact ⟨x,h1,h2,h3,by rw [h4]; exact ug hq hx⟩
theorem Told.put {done:List (Iv×Nat)}{f:Ends}{v:Iv}(T:Told done f) (hv:v.lo<=v.hi):Told (done++[(v,ff (f v.reel) v.lo)]) (f.put v.reel (d4 (f v.reel) (ff (f v.reel) v.lo) v.hi)):=by
 have hl:=li (f v.reel) v.lo
 refine ⟨fun x hx=>?_,fun r p e h=>?_⟩
 ·rcases CG.mp hx with hx | hx
  ·obtain ⟨e,h1,h2⟩:=T.up x hx
   by_cases hr:x.1.reel=v.reel
   ·unfold Ends.put
    rw [if_pos hr]
    by_cases hp:x.2=ff (f v.reel) v.lo
    ·have:=T.behind x hx hr hp
     rw [hp]
     exact ⟨v.hi,jT hl,by omega⟩
    ·rw [hr] at h1
     exact ⟨e,by rw [nP hl hp]; exact h1,h2⟩
   ·unfold Ends.put
    rw [if_neg hr]
    exact ⟨e,h1,h2⟩
  ·rw [Bi.mp hx]
   unfold Ends.put
   show ∃e,(if v.reel=v.reel then _ else _)[_]?=some e/\v.hi<=e
   rw [if_pos rfl]
   exact ⟨v.hi,jT hl,BH _⟩
 ·unfold Ends.put at h
  split at h
  ·rename_i hr
   by_cases hp:p=ff (f v.reel) v.lo
   ·rw [hp,jT hl] at h
    cases h
    exact ⟨_,Bb _ (Bi.mpr rfl),hr.symm,hp.symm,rfl⟩
   ·rw [nP hl hp] at h
    obtain ⟨x,h1,h2,h3,h4⟩:=T.by' v.reel p e h
    exact ⟨x,CO _ h1,h2.trans hr.symm,h3,h4⟩
  ·obtain ⟨x,h1,h2,h3,h4⟩:=T.by' r p e h
   exact ⟨x,CO _ h1,h2,h3,h4⟩
structure Fit (out:List (Iv×Nat)):Prop where
 apart:out.Pairwise fun x y=>x.1.reel=y.1.reel->x.2=y.2->x.1.hi<y.1.lo
 full:∀(i:Nat) y,out[i]?=some y->∀q,q<y.2->∃j x,j<i/\out[j]?=some x/\x.1.reel=y.1.reel/\x.2=q/\y.1.lo<=x.1.hi
theorem oF:∀(vs:List Iv) (done:List (Iv×Nat)) (f:Ends),(∀v∈vs,v.lo<=v.hi)->Told done f->Fit done->Fit (done++cW vs f)
 | [],done,f,_,_,F=>by unfold cW; rw [BK]; exact F
 | v :: r,done,f,h,T,F=>by
  have hv:=h v (AQ ..)
  have T2:=T.put hv
  have F2:Fit (done++[(v,ff (f v.reel) v.lo)]):=by
   refine ⟨?_,fun i y hy q hq=>?_⟩
   ·rw [List.pairwise_append]
    refine ⟨F.apart,Ey _ _,fun x hx y hy hr hp=>?_⟩
    rw [Bi.mp hy] at hr hp ⊢
    exact T.behind x hx hr hp
   ·by_cases hi:i<done.length
    ·rw [Ca hi] at hy
     obtain ⟨j,x,h1,h2,h3⟩:=F.full i y hy q hq
     exact ⟨j,x,h1,by rw [Ca (by omega)]; exact h2,h3⟩
    ·have hl:=(AS.mp hy).1
     rw [AW,BU] at hl
     rw [BR (by omega),show i-done.length=0 by omega] at hy
     cases hy
     obtain ⟨x,h1,h2,h3,h4⟩:=T.ahead hq
     obtain ⟨j,hj⟩:=List.getElem?_of_mem h1
     have hjl:=(AS.mp hj).1
     exact ⟨j,x,by omega,by rw [Ca hjl]; exact hj,h2,h3,h4⟩
  have:=oF r _ _ (fun x hx=>h x (AO _ hx)) T2 F2
  rw [Bu] at this
  exact this
theorem wu {vs:List Iv}(h:∀v∈vs,v.lo<=v.hi):Fit (cW vs fun _=>[]):=by
 have:=oF vs [] (fun _=>[]) h Told.nil ⟨List.Pairwise.nil,fun i y hy=>by cases hy⟩
 exact this
theorem hU:∀(vs:List Iv) (f:Ends),(cW vs f).map (·.1)=vs
 | [],_=>rfl
 | v :: r,f=>by unfold cW; rw [Br,hU r]
theorem kM:∀(vs us:List Iv) (f:Ends),cW (vs++us) f=cW vs f++cW us (cY vs f)
 | [],us,f=>rfl
 | v :: r,us,f=>by
  show (v,_) :: cW (r++us) _=(v,_) :: (cW r _++cW us (cY r _))
  rw [kM r us]
structure PrOk (ivs:List Iv) (ps:List Nat):Prop where
 len:ps.length=ivs.length
 apart:∀(i j:Nat) u v p,ivs[i]?=some u->ivs[j]?=some v->ps[i]?=some p->ps[j]?=some p->i≠j->u.reel=v.reel->u.hi<v.lo\/v.hi<u.lo
 full:∀(j:Nat) v p,ivs[j]?=some v->ps[j]?=some p->∀q,q<p->∃(i:Nat) (u:Iv),ivs[i]?=some u/\ps[i]?=some q/\u.reel=v.reel/\u.lo<=v.lo/\v.lo<=u.hi
theorem gK {α:Type}{R:α->α->Prop}{l:List α}(h:l.Pairwise R) {i j:Nat}{x y:α}(hij:i<j) (hx:l[i]?=some x) (hy:l[j]?=some y):R x y:=by
 obtain ⟨h1,h2⟩:=AS.mp hx
 obtain ⟨h3,h4⟩:=AS.mp hy
 have:=(List.pairwise_iff_getElem.mp h) i j h1 h3 hij
 rw [h2,h4] at this
 exact this
theorem vp {ivs:List Iv}{ps js:List Nat}(hl:ps.length=ivs.length) (hv:∀v∈ivs,v.lo<=v.hi) (hp:js.Perm (BP ivs.length)) (d:Iv) (hs:js.Pairwise fun a b=>(ivs.getD a d).lo<=(ivs.getD b d).lo)
  (hps:∀(i j:Nat) x,js[i]?=some j->(cW (js.map fun j=>ivs.getD j d) fun _=>[])[i]?=some x->ps[j]?=some x.2):PrOk ivs ps:=by
 have hmem:∀j∈js,j<ivs.length:=fun j hj=>B7.mp (hp.mem_iff.mp hj)
 have F:=wu (vs:=js.map fun j=>ivs.getD j d) fun v hv'=>by
  obtain ⟨j,hj,rfl⟩:=Be.mp hv'
  have:=hmem j hj
  rw [AT,AN this]
  exact hv _ (BX this)
 have fst:=hU (js.map fun j=>ivs.getD j d) fun _=>[]
 have at':∀(j:Nat) v p,ivs[j]?=some v->ps[j]?=some p->∃i:Nat,js[i]?=some j/\(cW (js.map fun j=>ivs.getD j d) fun _=>[])[i]?=some (v,p):=by
  intro j v p h1 h2
  have hj:j<ivs.length:=(AS.mp h1).1
  obtain ⟨i,hi⟩:=List.getElem?_of_mem (hp.mem_iff.mpr (B7.mpr hj))
  refine ⟨i,hi,?_⟩
  have hx:((cW (js.map fun j=>ivs.getD j d) fun _=>[]).map (·.1))[i]?=some v:=by
   rw [fst,AR,hi]
   show some (ivs.getD j d)=some v
   rw [AT,h1]
   rfl
  rw [AR] at hx
  cases hz:(cW (js.map fun j=>ivs.getD j d) fun _=>[])[i]? with
  | none=>rw [hz] at hx; cases hx
  | some x =>
   rw [hz] at hx
   have e1:x.1=v:=Ba hx
   have e2:=hps i j x hi hz
   rw [h2] at e2
   have e2:=Ba e2
   rw [<- e1,e2]
 have nd:js.Nodup:=hp.nodup_iff.mpr EV
 have back:∀(i:Nat) x,(cW (js.map fun j=>ivs.getD j d) fun _=>[])[i]?=some x->∃j:Nat,js[i]?=some j/\ivs[j]?=some x.1/\ps[j]?=some x.2:=by
  intro i x hx
  have hl2:=congrArg C1 fst
  rw [AH,AH] at hl2
  have hi:=(AS.mp hx).1
  have hj:js[i]?=some js[i]:=AN (by omega)
  refine ⟨_,hj,?_,hps i _ x hj hx⟩
  have hjl:=hmem _ (BX (l:=js) (n:=i) (by omega))
  have:=congrArg (fun l=>l[i]?) fst
  simp only [AR,hx,hj] at this
  have this:x.1=ivs.getD js[i] d:=Ba this
  rw [this,AT,AN hjl]
  rfl
 refine ⟨hl,fun i j u v p h1 h2 h3 h4 hne hr=>?_,fun j v p h1 h2 q hq=>?_⟩
 ·obtain ⟨a,ha,hoa⟩:=at' i u p h1 h3
  obtain ⟨b,hb,hob⟩:=at' j v p h2 h4
  rcases Nat.lt_trichotomy a b with k | k | k
  ·exact .inl (gK F.apart k hoa hob hr rfl)
  ·rw [k,hb] at ha
   exact absurd (Ba ha).symm hne
  ·exact .inr (gK F.apart k hob hoa hr.symm rfl)
 ·obtain ⟨b,hb,hob⟩:=at' j v p h1 h2
  obtain ⟨a,x,hab,hx,hr,hq2,hlo⟩:=F.full b (v,p) hob q hq
  obtain ⟨i,hi,h3,h4⟩:=back a x hx
  refine ⟨i,x.1,h3,by rw [<- hq2]; exact h4,hr,?_,hlo⟩
  have:=gK hs hab hi hb
  rw [AT,h3,AT,h1] at this
  exact this
theorem gL {α:Type} [DecidableEq α]:∀{l m:List α},l.Nodup->(∀x∈l,x∈m)->l.length<=m.length
 | [],_,_,_=>Bo _
 | a :: l,m,hn,h=>by
  obtain ⟨h1,h2⟩:=CH.mp hn
  have ha:=h a (AQ ..)
  have:=gL (l:=l) (m:=m.erase a) h2 fun x hx=>by
   have hne:x≠a:=fun e=>h1 (e ▸ hx)
   exact (List.mem_erase_of_ne hne).mpr (h x (AO _ hx))
  rw [List.length_erase_of_mem ha] at this
  have hm:0<m.length:=List.length_pos_of_mem ha
  rw [AZ]
  omega
def dM (r:Str) (x:Int) (v:Iv):Bool:=decide (v.reel=r)&&(decide (v.lo<=x)&&decide (x<=v.hi))
def az (ivs:List Iv) (r:Str) (x:Int):List Nat:=(BP ivs.length).filter fun k=>match ivs[k]? with
 | some v=>dM r x v
 | none=>false
theorem mem_wanting {ivs:List Iv}{r:Str}{x:Int}{k:Nat}:k∈az ivs r x↔∃v,ivs[k]?=some v/\v.reel=r/\v.lo<=x/\x<=v.hi:=by
 unfold az
 rw [E9,B7]
 constructor
 ·rintro ⟨h1,h2⟩
  rw [AN h1] at h2
  refine ⟨_,AN h1,?_⟩
  unfold dM at h2
  simpa using h2
 ·rintro ⟨v,h1,h2⟩
  refine ⟨(AS.mp h1).1,?_⟩
  rw [h1]
  unfold dM
  simpa using h2
theorem eI (ivs:List Iv) (r:Str) (x:Int):(az ivs r x).Nodup:=List.Pairwise.filter _ EV
theorem PrOk.many {ivs:List Iv}{ps:List Nat}(P:PrOk ivs ps) {j:Nat}{v:Iv}{p:Nat}(hv:ivs[j]?=some v) (hp:ps[j]?=some p) (hl:v.lo<=v.hi):p+1<=(az ivs v.reel v.lo).length:=by
 have h:∀q∈BP (p+1),q∈(az ivs v.reel v.lo).map fun k=>ps.getD k 0:=by
  intro q hq
  have hq:=B7.mp hq
  by_cases k:q=p
  ·refine Be.mpr ⟨j,mem_wanting.mpr ⟨v,hv,rfl,BH _,hl⟩,?_⟩
   rw [AT,hp,k]
   rfl
  ·obtain ⟨i,u,h1,h2,h3,h4,h5⟩:=P.full j v p hv hp q (by omega)
   refine Be.mpr ⟨i,mem_wanting.mpr ⟨u,h1,h3,h4,h5⟩,?_⟩
   rw [AT,h2]
   rfl
 have:=gL EV h
 rw [Dc,AH] at this
 exact this
theorem PrOk.few {ivs:List Iv}{ps:List Nat}(P:PrOk ivs ps) {r:Str}{x:Int}{n:Nat}(hn:∀(k:Nat) v p,ivs[k]?=some v->ps[k]?=some p->v.reel=r->p<n):(az ivs r x).length<=n:=by
 have get:∀k∈az ivs r x,∃v p,ivs[k]?=some v/\ps[k]?=some p/\v.reel=r/\v.lo<=x/\x<=v.hi:=by
  intro k hk
  obtain ⟨v,h1,h2,h3,h4⟩:=mem_wanting.mp hk
  have hkl:=(AS.mp h1).1
  exact ⟨v,_,h1,AN (by rw [P.len]; exact hkl),h2,h3,h4⟩
 have nd:((az ivs r x).map fun k=>ps.getD k 0).Nodup:=by
  unfold List.Nodup
  rw [CY]
  refine List.Pairwise.imp_of_mem ?_ (eI ivs r x)
  intro a b ha hb hab e
  obtain ⟨u,p,h1,h2,h3,h4,h5⟩:=get a ha
  obtain ⟨v,q,g1,g2,g3,g4,g5⟩:=get b hb
  rw [AT,h2,AT,g2] at e
  have e:p=q:=e
  subst e
  rcases P.apart a b u v p h1 g1 h2 g2 hab (by rw [h3,g3]) with k | k <;> omega
 have:=gL nd (m:=BP n) fun q hq=>by
  obtain ⟨k,hk,rfl⟩:=Be.mp hq
  obtain ⟨v,p,h1,h2,h3,_⟩:=get k hk
  rw [AT,h2]
  exact B7.mpr (hn k v p h1 h2 h3)
 rw [AH,Dc] at this
 exact this
structure Hd (c:Clip) (j:Nat) (s:Clip):Prop where
 re:s.reel=c.reel
 b:s.b=c.a+((j-1:Nat):Int)*c.way
 w:s.a=s.b\/s.way=c.way
theorem tT {c s:Clip}{j:Nat}(h:Hd c j s) (h1:1<=j):can s ⟨c.reel,c.a+(j:Int)*c.way,0⟩:=by
 refine ⟨h.re,?_⟩
 have e:c.a+(j:Int)*c.way=s.b+c.way:=by
  rw [h.b]
  rcases d_ c with k | k <;> rw [k] <;> omega
 show iy s (c.a+(j:Int)*c.way)
 rw [e]
 unfold iy
 rcases h.w with k | k
 ·rw [if_pos k]
  rcases d_ c with k | k <;> rw [k] <;> omega
 ·split
  ·rcases d_ c with k | k <;> rw [k] <;> omega
  ·rw [k]
theorem yU {c s:Clip}{j:Nat}(h:Hd c j s) (h1:1<=j):Hd c (j+1) ⟨s.reel,s.a,c.a+(j:Int)*c.way,s.f⟩:=by
 have e:c.a+(j:Int)*c.way=s.b+c.way:=by
  rw [h.b]
  rcases d_ c with k | k <;> rw [k] <;> omega
 refine ⟨h.re,rfl,.inr ?_⟩
 have wd:s.way=if s.b<s.a then -1 else 1:=rfl
 show (if c.a+(j:Int)*c.way<s.a then (-1:Int) else 1)=c.way
 rw [e]
 rcases d_ c with k | k <;> rcases h.w with k2 | k2 <;> rw [k] at*<;> split <;> (try split at wd) <;> omega
theorem lF (c:Clip) (r:List Clip):∀j,1<=j->j<=c.cnt->((c.ms.take j).foldl aR r).length<=r.length\/(((c.ms.take j).foldl aR r).length=r.length+1/\∃s t,(c.ms.take j).foldl aR r=s :: t/\Hd c j s)
 | 0,h,_=>absurd h (by decide)
 | 1,_,hc=>by
  have e:c.ms.take 1=[⟨c.reel,c.a,c.f⟩]:=by rw [ce]; rfl
  rw [e]
  show (aR r ⟨c.reel,c.a,c.f⟩).length<=_\/_
  have hd:Hd c 1 ⟨c.reel,c.a,c.a,c.f⟩:=⟨rfl,by simp,.inl rfl⟩
  cases r with
  | nil=>exact .inr ⟨rfl,_,_,rfl,hd⟩
  | cons s t =>
   show (aR (s :: t) _).length<=_\/((aR (s :: t) _).length=_/\∃s' t',aR (s :: t) _=s' :: t'/\_)
   rw [a_]
   split
   ·exact .inl (AM _)
   ·exact .inr ⟨rfl,_,_,rfl,hd⟩
 | j+2,_,hc=>by
  have hu:=bw (c:=c) (k:=j+1) (by omega)
  have e:c.ms.take (j+2)=c.ms.take (j+1)++[⟨c.reel,c.a+((j+1:Nat):Int)*c.way,0⟩]:=by
   rw [Cy (i:=j+1),ic hu]
   simp
  have ih:=lF c r (j+1) (by omega) (by omega)
  rw [e,Dw]
  show (aR _ _).length<=_\/((aR _ _).length=_/\∃s t,aR _ _=s :: t/\_)
  generalize hA:(c.ms.take (j+1)).foldl aR r=acc at ih
  rcases ih with ih | ⟨h1,s,t,h2,h3⟩
  ·have hd:Hd c (j+2) ⟨c.reel,c.a+((j+1:Nat):Int)*c.way,c.a+((j+1:Nat):Int)*c.way,0⟩:=⟨rfl,rfl,.inl rfl⟩
   cases acc with
   | nil =>
    by_cases k:r.length=0
    ·exact .inr ⟨by rw [k]; rfl,_,_,rfl,hd⟩
    ·exact .inl (by show 1<=r.length; omega)
   | cons s t =>
    rw [a_]
    split
    ·exact .inl ih
    ·by_cases k:(s :: t).length=r.length
     ·exact .inr ⟨by rw [AZ,k],_,_,rfl,hd⟩
     ·exact .inl (by rw [AZ]; omega)
  ·rw [h2,a_,if_pos ⟨BH 0,tT h3 (by omega)⟩]
   rw [h2] at h1
   exact .inr ⟨h1,_,_,rfl,yU h3 (by omega)⟩
theorem tE (c:Clip) (r:List Clip):(c.ms.foldl aR r).length<=r.length+1:=by
 have h:=lF c r c.cnt (by unfold Clip.cnt; omega) (AM _)
 rw [<- cR,BJ] at h
 omega
theorem io:∀(cs:List Clip) (r:List Clip),((moments cs).foldl aR r).length<=r.length+cs.length
 | [],r=>AM _
 | c :: cs,r=>by
  rw [bF,Dw,AZ]
  have h1:=io cs (c.ms.foldl aR r)
  have h2:=tE c r
  omega
end KS
namespace L2
open PySem PySem.Spec PyProof.Rows
section
variable {prog:Program}{w:Bj}{A:Bk}{E:Value->AL->Prop}{s:AL}{a kS:Addr}{vs:List Value}{kz:List Int}{keys:Array Value}{e e1:Nat}{P:PySem.Fin->AL->Prop}{Ψ:AL->Prop}
def cZ (Ψ:AL->Prop) (c:Addr):Prop:=∀(s:AL) (h':Heap),Ψ s->By c s.heap h'->Ψ { s with heap:=h' }
theorem nz {st:SortSt}(I:Ψ s) (ok:cZ Ψ kS) (oa:cZ Ψ a) (nk:s.heap.get? kS=some (Bv "list" keys e)) (na:s.heap.get? a=some (Bv "list" #[] e1)) (hka:kS≠a)
  (hk:DZ keys.toList kz) (hlen:kz.length=vs.length) (h64:vs.length<64) (hp:(EN st).Perm (keys.zip vs.toArray)) (hs:SortedTo (EN st) (EN st).size) (hfl:failedOf st=none)
  (h:∀s' out c,Ψ s'->s'.heap.get? a=some (Bv "list" out c)->KskOut false kz vs out.toList->P (.done (.ret .none)) s') :
  A6 (Bf prog w) A (ksk_tail a false e1 (.ref kS) st) P E s:=by
 have hsz:keys.size=vs.length:=by
  have h1:=hk.length
  rw [B3] at h1
  omega
 have hsz2:(EN st).size=vs.length:=by rw [hp.size_eq,Array.size_zip,hsz,AU,Nat.min_self]
 have hout:(if false then ((EN st).map (·.2)).reverse else (EN st).map (·.2)).size=vs.length:=by
  simp only [DR,if_false,Array.size_map]; exact hsz2
 have s1:=By.update s.heap kS (BF fun _=>(#[]:Array Value))
 have na1:(s.heap.update kS (BF fun _=>(#[]:Array Value))).get? a=some (Bv "list" #[] e1):=(s1.2 a hka.symm).trans na
 have s2:=By.update (s.heap.update kS (BF fun _=>(#[]:Array Value))) a (BF fun _=>if false then ((EN st).map (·.2)).reverse else (EN st).map (·.2))
 obtain ⟨c2,hc2⟩:∃c2,((s.heap.update kS (BF fun _=>(#[]:Array Value))).update a (BF fun _=>if false then ((EN st).map (·.2)).reverse else (EN st).map (·.2))).get? a=some (Bv "list" (if false then ((EN st).map (·.2)).reverse else (EN st).map (·.2)) c2) :=
  ⟨_,Dr na1 fun _=>if false then ((EN st).map (·.2)).reverse else (EN st).map (·.2)⟩
 unfold ksk_tail
 try dsimp only
 refine AI (DE nk rfl ?_ (by rw [hsz,A9]; omega) (Bo _))
 refine AI (wpAny_letGo ?_)
 refine AI (E6 na1 rfl ?_)
 refine AI (DE na1 rfl ?_ (Bo _) (Bm (Ea hout) (by rw [A9]; omega)))
 rw [hfl]
 simp only [bne_self_eq_false,DR,if_false]
 have I1:=ok s _ I s1
 have I2:=oa _ _ I1 s2
 exact AV (h _ _ c2 I2 hc2 (ksk_out (b:=false) hk hp hs))
theorem xJ (I:Ψ s) (ok:cZ Ψ kS) (oa:cZ Ψ a) (nk:s.heap.get? kS=some (Bv "list" keys e)) (na:s.heap.get? a=some (Bv "list" #[] e1)) (hka:kS≠a)
  (hk:DZ keys.toList kz) (hlen:kz.length=vs.length) (h64:vs.length<64)
  (h:∀s' out c,Ψ s'->s'.heap.get? a=some (Bv "list" out c)->KskOut false kz vs out.toList->P (.done (.ret .none)) s') :
  A6 (Bf prog w) A (ksk_end a false vs.toArray e1 (.ref kS) keys) P E s:=by
 have hsz:keys.size=vs.length:=by
  have h1:=hk.length
  rw [B3] at h1
  omega
 have hzs:(keys.zip vs.toArray).size=vs.length:=by rw [Array.size_zip,hsz,AU,Nat.min_self]
 unfold ksk_end
 try dsimp only
 simp only [DR,if_false]
 by_cases h2:vs.toArray.size<2
 ·rw [if_pos h2,if_pos h2]
  refine AI (AV ?_)
  rw [StateT.run_pure]
  refine AI (AV ?_)
  try dsimp only
  refine nz (st:=Fl general' (keys.zip vs.toArray) #[] 7 none) I ok oa nk na hka hk hlen h64 (Array.Perm.refl _) ?_ rfl h
  intro i j hij hj
  have hj2:j<(keys.zip vs.toArray).size:=hj
  rw [hzs] at hj2
  rw [AU] at h2
  have:i=j:=by omega
  subst this
  exact BH _
 ·rw [if_neg h2,if_neg h2]
  rw [AU] at h2
  rw [ksk_kind hk (by rw [hsz]; omega)]
  refine AI (AV ?_)
  refine AI (Bw (wpS_sortRuns (a₀:=keys.zip vs.toArray) (st:=Fl oneType' (keys.zip vs.toArray) #[] 7 none)
   (Q:=fun _ st'=>(EN st').Perm (keys.zip vs.toArray)/\failedOf st'=none/\SortedTo (EN st') (keys.zip vs.toArray).size)
   (ksk_intKeys hk) ⟨Array.Perm.refl _,rfl,rfl,rfl⟩ (by rw [hzs]; omega) (by rw [hzs]; exact h64) fun st' a1 a2 a3=>⟨a1,a2,a3⟩) ?_ fun _ _ e=>e)
  rintro ⟨⟨⟩,st'⟩ s' ⟨rfl,hp,hf,hs⟩
  try dsimp only
  exact nz I ok oa nk na hka hk hlen h64 hp (by rw [hp.size_eq]; exact hs) hf h
end
theorem qb {P:Program}{w:Bj}{K:AK}{mg mb:Str->Option Value}{CX:CXT}{k:Nat}{fa a c T:Addr}{fd:Bg}{x:Str}{sp:Sp}{s₁:AL}{vs:List Value}{ns:List Int}
  (KX:K.In s₁.heap) (hns:s₁.heap.Ns AY mg) (hb:s₁.heap.Ns builtinsNs mb) (hbb:∀x:Str,x≠"__name__"->mb x=B2 x) (hlim:s₁.heap.NoLimit) (hg:s₁.gens=#[])
  (ha:s₁.heap.get? a=some { cls:=.type "list",data:=.seq vs.toArray }) (hi:DZ vs ns) (hl:ns.length<=sizeLine) (hr:Room k callerA)
  (hP:s₁.heap.get? T=some (D8 #[])) (hKP:K.lookup T=none) (hC:EK s₁.heap c T) (hB:s₁.heap.BuiltinsAt mg T)
  (F:∀base:Heap,K.In base->base.Ns AY mg->base.BuiltinsAt mg T->aJ P w K mg base CX k fa fd [x] sp) (hbind:∀(s:AL) (u:Value),BindsTo s fd ⟨[u],[]⟩ [(x,u)])
  (hsp:∀H:Hp,SqL K H a (ns.map V.int)->H T=some (.tbl #[])->sp [.ref a] H (fun v _=>v=.bl true) fun _ _ _=>False)
  (hCX:∀H e s',CX [] H s₁ (fun _ _ _=>False) e s'->False) :
  EX (Bf P w) callerA (.call (.ref fa) ⟨[.ref a],[]⟩) (fun r s'=>r=.ok (.ret (.bool true))/\OldK s₁.heap s'.heap/\s'.os=s₁.os/\Eh s'.gens) s₁:=by
 have rv:=fW hi
 have lenV:=hi.length
 have haT:a≠T:=fun q=>by rw [q,hP] at ha; cases ha
 have core:∀H:Hp,SqL K H a (ns.map V.int)->HOk P w H s₁.heap->H T=some (.tbl #[])->(∀b,H b≠none->b=a\/b=T)->(∀u,H a=some u->∃ob xs,u=.frz ob (.lst xs))->(H a≠none->K.lookup a=none) ->
   EX (Bf P w) callerA (.call (.ref fa) ⟨[.ref a],[]⟩) (fun r s'=>r=.ok (.ret (.bool true))/\OldK s₁.heap s'.heap/\s'.os=s₁.os/\Eh s'.gens) s₁:=by
  intro H hS hok hT hA hF hK
  have base_of:∀{b:Addr}{o:Obj},s₁.heap.get? b=some o->H b=none->(iR s₁.heap H).get? b=some o:=fun e n=>tS e n
  have noA:∀{b:Addr}{o:Obj},s₁.heap.get? b=some o->(∀vs n,o.data≠.seq vs n)->(∀vs,o.data≠.fields vs)->H b=none:=fun {b o} e d1 d2=>by
   cases q:H b with
   | none=>rfl
   | some u =>
    rcases hA b (by rw [q]; simp) with e' | e'
    ·subst e'
     rw [ha] at e; cases e
     exact absurd rfl (d1 _ _)
    ·subst e'
     rw [hP] at e; cases e
     exact absurd rfl (d2 _)
  have nsK:∀{b:Addr}{m:Str->Option Value},s₁.heap.Ns b m->(iR s₁.heap H).Ns b m:=fun {b m} ⟨o,es,ep,e,d,r⟩=>⟨o,es,ep,base_of e (noA e (fun _ _ z=>by rw [d] at z; cases z) fun _ z=>by rw [d] at z; cases z),d,r⟩
  have hKb:K.In (iR s₁.heap H):=fun b o e=>base_of (KX b o e) (by
   cases q:H b with
   | none=>rfl
   | some u =>
    rcases hA b (by rw [q]; simp) with e' | e'
    ·subst e'
     rw [hK (by rw [q]; simp)] at e; cases e
    ·subst e'
     rw [hKP] at e; cases e)
  have hBb:(iR s₁.heap H).BuiltinsAt mg T:=by
   obtain ⟨bm,o,b1,b2,b3,b4,b5,b6,b7,b8⟩:=hB
   exact ⟨bm,o,b1,b2,b3,b4,base_of b5 (noA b5 (fun _ _ z=>by rw [b8] at z; cases z) fun _ z=>by rw [b8] at z; cases z),b6,b7,b8⟩
  have hM:Mod K mg (iR s₁.heap H):=⟨hKb,nsK hns,⟨mb,nsK hb,hbb⟩,let ⟨mc,h1,h2⟩:=hlim; ⟨mc,nsK h1,h2⟩⟩
  have e0:Env0 P w K mg (iR s₁.heap H) callerA [] s₁ H:=⟨rfl,hM,fun b o e=>vP e,Ea (qh _ _),trivial,fun b hb=>absurd (show b∈([]:List Addr) from hb) (by simp),hok,.of_eq hg⟩
  refine codeAny_mono ((F _ hKb (nsK hns) hBb).run callerA [] s₁ H ⟨[.ref a],[]⟩ [.ref a] [.ref a] _ _ hr e0 (hbind s₁ (.ref a)) (.cons rfl .nil) (hsp H hS hT)) fun r s' h=>?_
  cases r with
  | error e=>exact (hCX H e s' h).elim
  | ok fl =>
   cases fl with
   | next=>exact BB h
   | brk=>exact BB h
   | cont=>exact BB h
   | ret u =>
    obtain ⟨v,H',os,bare,un,hok',r',q⟩:=h
    have q':v=.bl true:=q
    subst q'
    obtain rfl:u=Value.bool true:=r'
    obtain ⟨more,hT'⟩:=un.tbls T #[] hT
    have gT:s'.heap.get? T=some (D8 (#[]++more)):=hok' T _ hT'
    have all:∀b o,s₁.heap.get? b=some o->b≠T->s'.heap.get? b=some o:=fun b o e hb=>by
     cases q:H b with
     | none=>exact un.keep b o e q (by intro z; exact absurd (show b∈([]:List Addr) from z) (by simp)) (by simp)
     | some u =>
      rcases hA b (by rw [q]; simp) with e' | e'
      ·subst e'
       obtain ⟨ob,xs,rfl⟩:=hF u q
       have z2:=un.frzs b ob _ q
       obtain ⟨e1,_⟩:=hok b _ q
       obtain ⟨e2,_⟩:=hok' b _ z2
       rw [e] at e1; cases e1
       exact e2
      ·exact absurd e' hb
    refine ⟨rfl,⟨fun b o e=>?_,fun b o e=>?_⟩,os,bare⟩
    ·by_cases hb:b=T
     ·subst hb
      rw [hP] at e
      cases e
      obtain ⟨o,vs',file,tf,flags,tg,inF,text,tt,c1,c2,c3,c4,_⟩:=hC
      exact .inr (.inl ⟨⟨c,o,vs',c1,c2,c3,c4⟩,rfl,#[],more,rfl,gT⟩)
     ·exact .inl (all b o e hb)
    ·by_cases hb:b=T
     ·subst hb; exact ⟨_,gT⟩
     ·exact ⟨o,all b o e hb⟩
 have hTa:T≠a:=haT.symm
 cases hk:K.lookup a with
 | some o =>
  have e:=KX a o hk
  rw [ha] at e
  cases e
  refine core (fun b=>if b=T then some (.tbl #[]) else none) (.inr ⟨_,vs.toArray,_,hk,rfl,rfl,rfl,by rw [AU,lenV]; exact hl,by simpa using rv⟩) (fun b u z=>?_) (if_pos rfl) (fun b z=>?_) (fun u z=>?_) fun z=>?_
  ·by_cases hb:b=T
   ·have z':=(if_pos hb).symm.trans z
    cases z'
    subst hb
    exact hP
   ·have z':=(if_neg hb).symm.trans z
    cases z'
  ·by_cases hb:b=T
   ·exact .inr hb
   ·exact absurd (if_neg hb) z
  ·have z':=(if_neg haT).symm.trans z
   cases z'
  ·exact absurd (if_neg haT) z
 | none =>
  refine core (fun b=>if b=T then some (.tbl #[]) else if b=a then some (.frz { cls:=.type "list",data:=.seq vs.toArray } (.lst (ns.map V.int))) else none)
   (.inl (.inr ⟨{ cls:=.type "list",data:=.seq vs.toArray },(if_neg haT).trans (if_pos rfl)⟩)) (fun b u z=>?_) (if_pos rfl) (fun b z=>?_) (fun u z=>?_) fun _=>hk
  ·by_cases hb:b=T
   ·have z':=(if_pos hb).symm.trans z
    cases z'
    subst hb
    exact hP
   ·have z':=(if_neg hb).symm.trans z
    by_cases hb2:b=a
    ·have z2:=(if_pos hb2).symm.trans z'
     cases z2
     subst hb2
     exact ⟨ha,by rw [AH]; exact hl,vs,_,rv,ha⟩
    ·have z2:=(if_neg hb2).symm.trans z'
     cases z2
  ·by_cases hb:b=T
   ·exact .inr hb
   ·by_cases hb2:b=a
    ·exact .inl hb2
    ·exact absurd ((if_neg hb).trans (if_neg hb2)) z
  ·have z':=((if_neg haT).trans (if_pos rfl)).symm.trans z
   cases z'
   exact ⟨_,_,rfl⟩
theorem walk_ofT {l:PySem.W.OpenLaw}{n k:Nat}{c T:Addr}{q:Program}{loose:List Str}{XP:(Str->Option Value)->Heap->Prop}{YP:Bj->Heap->Prop}{d:DefRec}{K:Params->AK}{CX:CXT}{sp:AK->Sp}{x:Str}
  (hn:l.most=some n) (hn2:n<=sizeLine) (hdf:d.params.defaults=[]) (hr:Room k callerA)
  (hY:∀(w:Bj) (h:Heap),YP w h->(K w.params).In h/\h.get? T=some (D8 #[])) (hKP:∀w:Bj,(K w.params).lookup T=none) (hC:∀w:Bj,PySem.W.codeHdIn (K w.params) c T=true)
  (F:∀(w:Bj) (mg:Str->Option Value) (fa:Addr) (h:Heap),(K w.params).In h->h.Ns AY mg->mg d.name=some (.ref fa) ->
   ∃fd:Bg,(∀(s:AL) (u:Value),BindsTo s fd ⟨[u],[]⟩ [(x,u)]) /\
    ∀base:Heap,(K w.params).In base->base.Ns AY mg->base.BuiltinsAt mg T->aJ l.prog w (K w.params) mg base CX k fa fd [x] (sp (K w.params)))
  (hsp:∀(K:AK) (H:Hp) (a:Addr) (ns:List Int),ns.length<=n->SqL K H a (ns.map V.int)->H T=some (.tbl #[])->sp K [.ref a] H (fun v _=>v=.bl true) fun _ _ _=>False)
  (hCX:∀(H:Hp) (s:AL) (e:Value) (s':AL),CX [] H s (fun _ _ _=>False) e s'->False) :
  PySem.W.WalkO q loose XP YP l.row.toRowW d [] (fun f vs=>PySem.call f vs):=by
 refine Att.attach_call hn hdf fun w s₀ s₁ mg mb fa o pm cd doc a vs ns G Y ho hd hcd hmg hobj hints hlen hg=>?_
 obtain ⟨KX,hP⟩:=hY w _ Y
 obtain ⟨fd,hb,hF⟩:=F w mg fa _ KX G.T.g hmg
 have hB:s₁.heap.BuiltinsAt mg T:=by
  obtain ⟨bm,ob,b1,b2,b3,b4,b5,b6⟩:=G.T.bmain
  refine ⟨bm,ob,b1,b2,fun z=>?_,fun z=>?_,b3,b4,b5,b6⟩
  ·obtain ⟨o',es,ep,e,hd',_⟩:=G.T.g
   rw [z,e] at b3; cases b3; rw [hd'] at b6; cases b6
  ·rw [z,hP] at b3; cases b3; cases b4
 exact qb KX G.T.g G.T.b G.T.builtins G.T.nolimit hg hobj hints (Bm hlen hn2) hr hP (hKP w) (PySem.W.codeHd_of_K KX (hC w)) hB hF hb (fun H hS hT=>hsp (K w.params) H a ns hlen hS hT) fun H e s'=>hCX H s₁ e s'
end L2
namespace L2
open PySem PySem.Spec PyProof.Rows
open PySem.W (envX kla_obj kla_fn)
def eP (X:Cx) (A:Bk) (qual:Str) (sc:Scope) (N':List Str) (cl:List (Str×Addr)) (s:AL) (H:Hp) (f:Addr) (cd:Value):Cx :=
 { X with A:=A.deeper (envX qual sc s.heap.objs.size f cd cl),N:=N',s₀:=s,H₀:=H,env:=envX qual sc s.heap.objs.size f cd cl,outer:=X.stack,stack:=envX qual sc s.heap.objs.size f cd cl :: X.stack,ex:=[],fn:=fun _=>false,calm:=true,pn:=[],xe:=fun _ _=>False }
def LCaps (X:Cx) (sc:Scope) (cl:List (Str×Addr)):List Str->List Nat->Prop
 | [],[]=>True
 | y :: ys,j :: js=>X.N[j]?=some y/\X.env.kindOf y=some .cell/\cl.lookup y=X.env.cells.lookup y/\sc.names.lookup y=some .free/\LCaps X sc cl ys js
 | _,_=>False
theorem LCaps.get {X:Cx}{sc:Scope}{cl:List (Str×Addr)}:∀{ys:List Str}{js:List Nat}{i:Nat}{y:Str},LCaps X sc cl ys js->ys[i]?=some y ->
  ∃j,js[i]?=some j/\X.N[j]?=some y/\X.env.kindOf y=some .cell/\cl.lookup y=X.env.cells.lookup y/\sc.names.lookup y=some .free
 | [],[],i,y,_,e=>by simp at e
 | _ :: _,j :: _,0,y,h,e=>by
  simp at e
  subst e
  exact ⟨j,rfl,h.1,h.2.1,h.2.2.1,h.2.2.2.1⟩
 | _ :: _,_ :: _,i+1,y,h,e=>by
  have q:=LCaps.get (i:=i) (y:=y) h.2.2.2.2 (by simpa using e)
  simpa using q
 | [],_ :: _,_,_,h,_=>BB h
 | _ :: _,[],_,_,h,_=>BB h
theorem LCaps.len {X:Cx}{sc:Scope}{cl:List (Str×Addr)}:∀{ys:List Str}{js:List Nat},LCaps X sc cl ys js->ys.length=js.length
 | [],[],_=>rfl
 | _ :: _,_ :: _,h=>by simp [LCaps.len h.2.2.2.2]
 | [],_ :: _,h=>BB h
 | _ :: _,[],h=>BB h
section
variable {X:Cx}{A:Bk}{qual x:Str}{sc:Scope}{ys:List Str}{js:List Nat}{cl:List (Str×Addr)}{f:Addr}{cd:Value}
theorem wa {pins:List (Addr×Obj)}{σ:St}{H:Hp}{s:AL}{h₁:Heap}{m:Str->Option Value}{v:V}{u:Value}{tk:Nat}(I:Inv X pins σ H s) (hh:A.handled=none) (hf:A.frames=some X.stack)
  (hkind:sc.kind=.function) (hx:sc.names.lookup x=some .local) (hcap:LCaps X sc cl ys js) (hin:∀y c,cl.lookup y=some c->X.env.cells.lookup y=some c) (hhas:∀y,(sc.names.lookup y=some .cell\/sc.names.lookup y=some .free)->∃c,cl.lookup y=some c)
  (kp:∀b o,s.heap.get? b=some o->h₁.get? b=some o) (hn:h₁.Ns s.heap.objs.size m) (hm:m x=some u) (r:RelV v u) :
  Inv (eP X A qual sc (x :: ys) cl s H f cd) [] (some v :: d6 σ js) H { s with heap:=h₁,toks:=tk }:=by
 have noA:∀b:Addr,b ∉ (eP X A qual sc (x :: ys) cl s H f cd).ex:=fun b z=>absurd (show b∈([]:List Addr) from z) (by simp)
 refine ⟨⟨I.ok.mod,hkind,rfl,rfl,AM _,fun y z c h1 h2=>I.ok.inj y z c (hin y c h1) (hin z c h2),hhas,(fun _ _ z=>nomatch z),fun _=>hh,Bk.frames_deeper hf,.inr ⟨rfl,rfl⟩,fun b z=>absurd z (noA b),I.bs,Bm I.ok.bsz I.sz,fun b _ _=>noA b,fun b z=>absurd z (noA b),I.stack,I.stkFree⟩,
  rfl,I.bare,Un.kept kp,⟨m,hn,fun i y v' e1 e2 e3=>?_⟩,fun y c e=>?_,I.hok.fresh (AM _),fun y c e=>I.freeC y c (hin y c e),fun p hp=>?_,I.hok.kept kp,?_⟩
 ·cases i with
  | zero =>
   have z:some v=some v':=by simpa using e2
   cases z
   have z:x=y:=by simpa [eP] using e1
   subst z
   exact ⟨u,r,.inl ⟨hx,hm⟩⟩
  | succ i =>
   have e1':ys[i]?=some y:=by simpa [eP] using e1
   have e2':(d6 σ js)[i]?=some (some v'):=by simpa using e2
   obtain ⟨j,q1,q2,q3,q4,q5⟩:=hcap.get e1'
   unfold d6 at e2'
   rw [AR,q1] at e2'
   have e2'':(σ[j]?).join=some v':=by simpa using e2'
   have e3':σ[j]?=some (some v'):=by
    cases z:σ[j]? with
    | none=>rw [z] at e2''; cases e2''
    | some o =>
     cases o with
     | none=>rw [z] at e2''; cases e2''
     | some w'=>rw [z] at e2''; cases e2''; rfl
   obtain ⟨m0,_,hl⟩:=I.loc
   obtain ⟨u',r',l⟩:=hl j y v' q2 e3' (.inr (.inl q3))
   refine ⟨u',r',.inr ⟨.inr q5,?_⟩⟩
   rcases l with ⟨l1,_⟩ | ⟨_,c,l2,l3⟩
   ·rw [q3] at l1; cases l1
   ·obtain ⟨o,ho,hd⟩:=l3
    exact ⟨c,q4.trans l2,o,kp c o ho,hd⟩
 ·obtain ⟨v',o,ho,hd⟩:=I.cell y c (hin y c e)
  exact ⟨v',o,kp c o ho,hd⟩
 ·exact absurd (show p∈([]:List (Addr×Obj)) from hp) (by simp)
 ·show (some v :: d6 σ js).length=(x :: ys).length
  unfold d6
  rw [AZ,AZ,AH,hcap.len]
theorem tH {name:Str}{params:Arguments}{body:Expr}{pm ctv:Value}{c':Addr}{te:TE}{pins:List (Addr×Obj)}{σ:St}{H:Hp}{s:AL}{v:V}{u:Value}{Q:VK}{k:Nat}(I:Inv X pins σ H s) (hr:Room (k+1) A) (hf:A.frames=some X.stack)
  (ho:s.heap.get? f=some (kla_obj name qual params body sc cl pm c' ctv)) (hcd:s.heap.CodeRec (.ref c') qual)
  (hbind:Fh (kla_fn name qual params body sc cl pm (.ref c') ctv) ⟨[u],[]⟩=pure [(x,u)])
  (hco:sc.isCoroutine=false) (hgen:sc.isGenerator=false) (hkind:sc.kind=.function) (hcell:∀y∈sc.names,y.2≠.cell)
  (hx:sc.names.lookup x=some .local) (hcap:LCaps X sc cl ys js) (hin:∀y c,cl.lookup y=some c->X.env.cells.lookup y=some c) (hhas:∀y,(sc.names.lookup y=some .cell\/sc.names.lookup y=some .free)->∃c,cl.lookup y=some c)
  (he:Room k (eP X A qual sc (x :: ys) cl s H f (.ref c')).A->PE (eP X A qual sc (x :: ys) cl s H f (.ref c')) body te) (r:RelV v u) (h:te (some v :: d6 σ js) H Q) :
  A6 (Bf X.prog X.w) A (call (.ref f) [u]) (EP X pins σ Q) (fun _ _=>False) s:=by
 refine wpAny_call ?_
 refine PySem.W.kla_callFunE hr.depth ho rfl hco hgen rfl hcd ?_
 rw [hbind]
 refine AV (wpAny_newFunctionEnv hcell (fun y hy=>?_) (fun h₁ hns hsb=>?_) hkind)
 ·rcases AX.mp hy with rfl | hy
  ·exact hx
  ·cases hy
 have kp:∀b o,s.heap.get? b=some o->h₁.get? b=some o:=fun b o e=>hsb.extBut b o (Bl (A3 e)) (AJ _ e)
 refine ⟨I.nolimit.keeps kp,?_⟩
 show EX _ _ (.expr body (envX qual sc s.heap.objs.size f (.ref c') cl)) _ _
 have J:=wa (qual:=qual) (f:=f) (cd:=.ref c') (tk:=s.toks+[(x,u)].length) I hr.hd hf hkind hx hcap hin hhas kp hns (by simp) r
 refine PySem.W.kla_codeExpr (Bw (he (hr.deeper _) [] _ _ _ _ J h) (fun u' s' hs=>?_) fun _ _ z=>BB z)
 obtain ⟨v',H',J',r',q⟩:=hs
 exact I.after (u:=u') ⟨v',H',J'.os,J'.bare,J'.base,J'.hok,r',q⟩
end
section
variable {prog:Program}{w:Bj}{A:Bk}{E:Value->AL->Prop}{s:AL}
theorem lE {r:Addr}{a b c:Int}{t u v:Tok}{n:Nat}{Q:List Value->AL->Prop}(hh:A.handled=none) (hr:IsRange s.heap r a b c t u v) (hsmall:Builtin.Range.small a b c=true) (hn:Et a b c=n) (hlen:n<=2 ^ 24)
  (h:∀h' tk (acc:Array Value),(∀b o,s.heap.get? b=some o->h'.get? b=some o)->ItemsOf (fun i v=>∃t,v=.int (a+i*c) t) acc n->Q acc.toList { s with heap:=h',toks:=tk }) :
  A6 (Bf prog w) A (collect (.ref r)) Q E s:=by
 unfold collect
 refine AI (wpAny_runValue (codeAny_builtin PySem.F.entry_proto_collect ?_))
 rw [Bk.under_plainId PySem.F.plain_proto_collect _]
 show A6 _ A.in1 (newList [] >>= fun l=>again (.builtin "list.__iadd__" ⟨[l,.ref r],[]⟩)) _ _ s
 refine AI (BE ?_)
 refine AV ⟨plainId_quiet PySem.F.plain_list_iadd _,codeAny_builtin PySem.F.entry_list_iadd ?_⟩
 rw [Bk.under_plainId PySem.F.plain_list_iadd _]
 show A6 _ A.in1 (Builtin.List.listExtendWith (.ref s.heap.objs.size) (.ref r) (.ref s.heap.objs.size)) _ _ _
 have hS:(s.heap.push { cls:=.type "list",data:=.seq ([]:List Value).toArray }).get? s.heap.objs.size=some { cls:=.type "list",data:=.seq #[] 0 }:=A5 _ rfl
 refine wpAny_extend_range (R:=fun r s'=>match r with
   | .ok (.ret v)=>A6 (Bf prog w) A (match v with
    | .ref a=>(do
     let o <- load a
     match o.data with
     | .seq xs _=>pure xs.toList
     | _=>unsupported "internal:collect")
    | _=>unsupported "internal:collect") Q E s'
   | .ok _=>False
   | .error e=>E e s') (s:={ s with heap:=s.heap.push { cls:=.type "list",data:=.seq ([]:List Value).toArray } }) hh (AJ _ hr) hsmall hn hlen s.heap.objs.size (.ref s.heap.objs.size) 0 hS fun h' tk acc' c' hk hS' hacc=>?_
 show A6 (Bf prog w) A (do
   let o <- load s.heap.objs.size
   match o.data with
   | .seq xs _=>pure xs.toList
   | _=>unsupported "internal:collect") Q E { s with heap:=h',toks:=tk }
 refine AI (wpAny_load hS' ?_)
 exact AV (h h' tk acc' (fun b o e=>hk b o (Bl (A3 e)) (AJ _ e)) hacc)
end
def cod (c':Addr) (qual:Str):HO:=.ext fun h=>h.CodeRec (.ref c') qual
def uI (T:Addr) (pos:Pos) (qual:Str) (H:Hp) (c':Addr):Prop:=∃ps,H T=some (.tbl ps)/\TriplesOk ps.toList/\codeAmong pos ps.toList=some (.ref c')/\H c'=some (cod c' qual)
def TabOk (T:Addr) (pos:Pos) (qual:Str) (H:Hp):Prop:=(∃ps,H T=some (.tbl ps)/\TriplesOk ps.toList/\codeAmong pos ps.toList=none)\/∃c',uI T pos qual H c'
theorem TabOk.new {T:Addr}{pos:Pos}{qual:Str}{H:Hp}(h:H T=some (.tbl #[])):TabOk T pos qual H:=.inl ⟨#[],h,trivial,rfl⟩
theorem y_ {P:Program}{w:Bj}{H:Hp}{h:Heap}{c':Addr}{qual:Str}(x:h.CodeRec (.ref c') qual):ObjOk P w H h c' (cod c' qual):=by
 refine ⟨x,?_,fun h1 h2 y k=>?_⟩
 ·obtain ⟨c,oc,vs,tq,e,ho,_⟩:=x
  cases e
  exact ⟨oc,ho⟩
 ·obtain ⟨c,oc,vs,tq,e,ho,r⟩:=y
  cases e
  exact ⟨c',oc,vs,tq,rfl,k oc ho,r⟩
section
variable {X:Cx}{pins:List (Addr×Obj)}{σ:St}{H:Hp}{s:AL}
theorem Inv.trackU {a:Addr}{o:HO}(I:Inv X pins σ H s) (f:cH X pins H a) (hx:X.s₀.heap.get? a=none) (new:ObjOk X.prog X.w (upd H a o) s.heap a o):Inv X pins σ (upd H a o) s:=by
 obtain ⟨f0,f1,f2,f3,f4,f5⟩:=f
 have ne0:∀b o,X.s₀.heap.get? b=some o->b≠a:=fun b o e z=>by rw [z,hx] at e; cases e
 have neH:∀b u,H b=some u->b≠a:=fun b u e z=>by rw [z,f0] at e; cases e
 refine ⟨I.ok,I.os,I.bare,⟨I.base.keep,I.base.slot,fun b o e n he=>?_,I.base.there,fun b xs e=>?_,fun b o u e=>?_,fun b ps e=>?_⟩,I.loc,I.cell,?_,fun x c e=>?_,fun p hp=>?_,fun b u e=>?_,I.len⟩
 ·rw [aj (ne0 b o e)]; exact I.base.free b o e n he
 ·have:=I.base.tups b xs e
  rw [aj (neH _ _ this)]; exact this
 ·have:=I.base.frzs b o u e
  rw [aj (neH _ _ this)]; exact this
 ·obtain ⟨more,q⟩:=I.base.tbls b ps e
  exact ⟨more,by rw [aj (neH _ _ q)]; exact q⟩
 ·rw [aj (Cg f1)]; exact I.free
 ·rw [aj (f4 x c e)]; exact I.freeC x c e
 ·obtain ⟨q1,q2,q3⟩:=I.pin p hp
  exact ⟨q1,by rw [aj (f5 p hp)]; exact q2,q3⟩
 ·by_cases hb:b=a
  ·subst hb
   rw [ac] at e
   cases e
   exact new
  ·rw [aj hb] at e
   exact (I.hok b u e).stay (fun c v _ q=>q) (fun c q=>by rw [aj (neH _ _ q)]; exact q) fun c xs q=>by rw [aj (neH _ _ q)]; exact q
theorem Inv.grow {T c':Addr}{ps more:Array Value}{h':Heap}{t':Nat}{qual:Str}(I:Inv X pins σ H s) (hT:H T=some (.tbl ps)) (hx:E5 T s.heap h') (hc:s.heap.objs.size<=c') (hrec:h'.CodeRec (.ref c') qual) (hP:h'.get? T=some (D8 (ps++more))) :
  Inv X pins σ (upd (upd H T (.tbl (ps++more))) c' (cod c' qual)) { s with heap:=h',toks:=t' }:=by
 have nc:H c'=none:=I.hok.fresh hc
 have hTc:T≠c':=fun z=>by rw [z,nc] at hT; cases hT
 have neT:∀b,H b=none->b≠T:=fun b n z=>by rw [z,hT] at n; cases n
 have up:∀b,b≠T->b≠c'->upd (upd H T (.tbl (ps++more))) c' (cod c' qual) b=H b:=fun b h1 h2=>by rw [aj h2,aj h1]
 have neH:∀b u,H b=some u->b≠c':=fun b u e z=>by rw [z,nc] at e; cases e
 have nes:∀b o,s.heap.get? b=some o->b≠c':=fun b o e=>Bl (Bp (A3 e) hc)
 refine I.un ⟨fun b o e n _ _=>hx b o (neT b n) e,fun b o e n _ _=>⟨o.slots,hx b o (neT b n) e⟩,fun b o e n _=>?_,fun b o e _=>?_,fun b xs e=>?_,fun b o u e=>?_,fun b qs e=>?_⟩ fun b u e=>?_
 ·rw [up b (neT b n) (nes b o e)]; exact n
 ·by_cases hb:b=T
  ·rw [hb]; exact ⟨_,hP⟩
  ·exact ⟨o,hx b o hb e⟩
 ·have:b≠T:=fun z=>by rw [z,hT] at e; cases e
  rw [up b this (neH _ _ e)]; exact e
 ·have:b≠T:=fun z=>by rw [z,hT] at e; cases e
  rw [up b this (neH _ _ e)]; exact e
 ·by_cases hb:b=T
  ·subst hb
   rw [hT] at e
   cases e
   exact ⟨more,by rw [aj hTc,ac]⟩
  ·exact ⟨#[],by rw [up b hb (neH _ _ e),e]; simp⟩
 ·by_cases hb:b=c'
  ·subst hb
   rw [ac] at e
   cases e
   exact y_ hrec
  ·by_cases hb2:b=T
   ·subst hb2
    rw [aj hTc,ac] at e
    cases e
    exact hP
   ·rw [up b hb2 hb] at e
    refine (I.hok b u e).stay (fun c v hc' q=>hx c v ?_ q) (fun c q=>?_) fun c xs q=>?_
    ·rintro rfl
     rcases hc' with z | z
     ·exact hb2 z.symm
     ·rw [hT] at z; cases z
    ·have:c≠T:=fun z=>by rw [z,hT] at q; cases q
     rw [up c this (neH _ _ q)]; exact q
    ·have:c≠T:=fun z=>by rw [z,hT] at q; cases q
     rw [up c this (neH _ _ q)]; exact q
theorem Inv.add {a:Addr}{o:Obj}(I:Inv X pins σ H s) (f:cH X pins H a) (e:s.heap.get? a=some o) (hd:∀v,o.data≠.cell v):Inv X ((a,o) :: pins) σ H s :=
 I.pins_of fun p hp=>by
  rcases AX.mp hp with rfl | hp
  ·exact ⟨e,f.1,f.2.1,f.2.2.1,hd⟩
  ·exact I.pin p (Bb _ hp)
theorem Inv.sub {p:Addr×Obj}(I:Inv X (p :: pins) σ H s):Inv X pins σ H s:=I.pins_of fun q hq=>I.pin q (Bb _ (AO _ hq))
theorem Inv.hd {p:Addr×Obj}(I:Inv X (p :: pins) σ H s):s.heap.get? p.1=some p.2/\H p.1=none:=let ⟨a,b,_⟩:=I.pin p (Bb _ (AQ ..)); ⟨a,b⟩
theorem tG {c T:Addr}{params:Arguments}{body:Expr}{sc:Scope}{cl:List (Str×Addr)}{pos:Pos}{Q:Value->AL->Prop}{E:Value->AL->Prop}{A:Bk}{M:Model}(I:Inv X pins σ H s) (hcode:X.env.code=.ref c) (C:EK X.base c T) (hB:X.base.BuiltinsAt X.mg T)
  (hcl:Fj sc X.env=pure cl) (hdef:defaultsOf params X.env=([],[])) (hT:TabOk T pos (X.env.qual++"<lambda>") H)
  (h:∀f c' ctv H' s',Inv X ((f,kla_obj "<lambda>" (X.env.qual++"<lambda>") params body sc cl ((X.mg "__name__").getD .none) c' ctv) :: pins) σ H' s'->uI T pos (X.env.qual++"<lambda>") H' c'->(∀b o,b≠T->H b=some o->H' b=some o)->Q (.ref f) s') :
  A6 M A (eval (.Lambda params body sc pos) X.env) Q E s:=by
 refine PySem.W.kla_eval hdef ?_
 have hg:=I.mod.glob.keeps I.bk
 have hBs:s.heap.BuiltinsAt X.mg T:=by
  obtain ⟨bm,o,b1,b2,b3,b4,b5,r⟩:=hB
  exact ⟨bm,o,b1,b2,b3,b4,I.bk _ _ b5,r⟩
 rcases hT with ⟨ps,hT,ht,hnf⟩ | ⟨c',ps,hT,ht,hf,hc'⟩
 ·have hP:s.heap.get? T=some (D8 ps):=I.hok T _ hT
  have hgP:AY≠T:=fun q=>by
   obtain ⟨o,es,ep,e,hd,_⟩:=hg
   rw [q,hP] at e; cases e; cases hd
  refine PySem.W.kla_makeFunction (mg:=X.mg) hcl I.ok.glob hg hcode (C.keeps I.bk) hP ht hnf hgP hBs fun c' ctv h' tk hx hge hlt hrec htb=>?_
  have I1:=I.grow (t':=tk) hT hx hge hrec htb
  have hle:s.heap.objs.size<=h'.objs.size:=Ez (Nat.lt_of_le_of_lt hge hlt)
  have I2:Inv X pins σ _ { s with heap:=h'.push (kla_obj "<lambda>" (X.env.qual++"<lambda>") params body sc cl ((X.mg "__name__").getD .none) c' ctv),toks:=tk }:=I1.kept (t':=tk) fun b u e=>AJ _ e
  have nf:=I1.hok.fresh (AM h'.objs.size)
  have hcT:T≠c':=fun z=>by rw [<- z] at hge; exact absurd (A3 hP) (Nat.not_lt.mpr hge)
  refine h h'.objs.size c' ctv _ _ (I2.add (I1.fpOk (AM _) nf) (A5 _ rfl) fun v z=>by cases z) ⟨_,by rw [aj hcT,ac],?_,?_,ac⟩ fun b o hb e=>?_
  ·have e1:(ps++#[Cp pos.line,Cp pos.col,Bc c']).toList=ps.toList++[Cp pos.line,Cp pos.col,Bc c']:=by simp
   rw [e1]
   exact TriplesOk_snoc _ _ _ _ ht
  ·have e1:(ps++#[Cp pos.line,Cp pos.col,Bc c']).toList=ps.toList++[Cp pos.line,Cp pos.col,Bc c']:=by simp
   rw [e1]
   exact codeAmong_snoc _ ht hnf
  ·have:b≠c':=fun z=>by rw [z,I.hok.fresh hge] at e; cases e
   rw [aj this,aj hb]; exact e
 ·have hP:s.heap.get? T=some (D8 ps):=I.hok T _ hT
  refine PySem.W.kla_makeFunctionHit (mg:=X.mg) hcl I.ok.glob hg hcode (C.keeps I.bk) hP ht hf hBs fun ctv h' tk hk hsz=>?_
  have I1:Inv X pins σ H { s with heap:=h',toks:=tk }:=I.kept hk
  have I2:Inv X pins σ H { s with heap:=h'.push (kla_obj "<lambda>" (X.env.qual++"<lambda>") params body sc cl ((X.mg "__name__").getD .none) c' ctv),toks:=tk }:=I1.kept (t':=tk) fun b u e=>AJ _ e
  exact h h'.objs.size c' ctv _ _ (I2.add (I1.fpOk (AM _) (I1.hok.fresh (AM _))) (A5 _ rfl) fun v z=>by cases z) ⟨ps,hT,ht,hf,hc'⟩ fun b o _ e=>e
end
section
variable {prog:Program}{w:Bj}{A:Bk}{E:Value->AL->Prop}{s:AL}{a kS:Addr}{vs:List Value}{kz:List Int}{keys:Array Value}{e e1:Nat}{P:PySem.Fin->AL->Prop}{Ψ:AL->Prop}
theorem rh {f:Value}(I:Ψ s) (ok:cZ Ψ kS) (oa:cZ Ψ a) (nk:s.heap.get? kS=some (Bv "list" #[] 0)) (na:s.heap.get? a=some (Bv "list" #[] e1)) (hka:kS≠a) (hlen:kz.length=vs.length) (h64:vs.length<64)
  (turn:∀(i:Nat) (v:Value) (k:Int),vs[i]?=some v->kz[i]?=some k->∀(s:AL) kA e,Ψ s->s.heap.get? kS=some (Bv "list" kA e)->s.heap.get? a=some (Bv "list" #[] e1) ->
   A6 (Bf prog w) A (call f [v]) (fun u s'=>(∃t',u=.int k t')/\Ψ s'/\s'.heap.get? kS=some (Bv "list" kA e)/\s'.heap.get? a=some (Bv "list" #[] e1)) (fun _ _=>False) s)
  (h:∀s' out c,Ψ s'->s'.heap.get? a=some (Bv "list" out c)->KskOut false kz vs out.toList->P (.done (.ret .none)) s') :
  A6 (Bf prog w) A (ksk_rest a f false vs.toArray e1 (.ref kS)) P E s:=by
 unfold ksk_rest
 refine AI (wpAny_rule ?_)
 first
  | rw [List.forIn_toArray]
  | (rw [<- Array.forIn_toList]; simp only [List.toList_toArray])
  | rw [<- Array.forIn_toList]
 refine AI (ksk_fold (fun i s'=>∃kA e,Ψ s'/\s'.heap.get? kS=some (Bv "list" kA e)/\s'.heap.get? a=some (Bv "list" #[] e1)/\DZ kA.toList (kz.take i)) vs 0 s ⟨#[],0,I,nk,na,by simpa using DZ.nil⟩ ?step ?done)
 case step =>
  rintro j x s' hx ⟨kA,e,I',nk',na',hk⟩
  simp only [Nat.zero_add] at hk ⊢
  have hj:j<vs.length:=(AS.mp hx).1
  obtain ⟨k,hkj⟩:∃k,kz[j]?=some k:=⟨_,AN (by omega)⟩
  have hz:kA.size<=vs.length:=by
   have h1:=hk.length
   rw [B3,BA] at h1
   omega
  refine AI (wpAny_attempt (Bw (turn j x k hx hkj s' _ _ I' nk' na') (fun v s'' he=>?_) fun _ _ hF=>hF.elim))
  obtain ⟨⟨t2,rfl⟩,I2,nk2,na2⟩:=he
  try dsimp only
  have s1:=By.update s''.heap kS (BF (·.push (.int k t2)))
  obtain ⟨c2,hc2⟩:∃c2,(s''.heap.update kS (BF (·.push (.int k t2)))).get? kS=some (Bv "list" (kA.push (.int k t2)) c2):=⟨_,Dr nk2 (·.push (.int k t2))⟩
  have ek:kz.take (j+1)=kz.take j++[k]:=by rw [Cy,hkj]; simp
  have ea:(kA.push (EQ k t2)).toList=kA.toList++[EQ k t2]:=by simp
  refine AI (DE nk2 rfl ?_ (by rw [A9]; omega) (Bm (Ea (Array.size_push ..)) (by rw [A9]; omega)))
  exact AV ⟨rfl,kA.push (.int k t2),c2,ok _ _ I2 s1,hc2,(s1.2 a hka.symm).trans na2,by rw [ea,ek]; exact ksk_snoc hk⟩
 case done =>
  rintro s' ⟨kA,e,I',nk',na',hk⟩
  have hk':DZ kA.toList kz:=by
   have e3:kz.take (0+vs.length)=kz:=Cr (by omega)
   rw [e3] at hk
   exact hk
  try dsimp only
  refine AI (listItems_at nk' rfl ?_)
  exact xJ I' ok oa nk' na' hka hk' hlen h64 h
end
theorem ss {vs out:List Value}{ns:List Int}{g:Int->Int}(hi:DZ vs ns) (ko:KskOut false (ns.map g) vs out):∃ns',DZ out ns'/\ns'.Perm ns/\ns'.Pairwise (fun x y=>g x<=g y):=by
 have hlen:=hi.length
 obtain ⟨ps,hp,ho,hs⟩:=ko
 have hrel:∀p,p∈(ns.map g).zip vs->p.1=g (numOf p.2)/\p.2∈vs:=by
  rw [<- hi.nums,B5,List.zip_map_left]
  intro p hp
  obtain ⟨⟨u,v⟩,hq,rfl⟩:=Be.mp hp
  have h1:u=v/\u∈vs:=mem_zip_self hq
  refine ⟨?_,?_⟩
  ·show g (numOf u)=g (numOf v)
   rw [h1.1]
  ·show v∈vs
   rw [<- h1.1]
   exact h1.2
 have hI:DZ (ps.map Prod.snd) ((ps.map Prod.snd).map numOf):=intsAre_map _ fun v hv=>by
  obtain ⟨p,hp',rfl⟩:=Be.mp hv
  exact hi.all _ (hrel p (hp.mem_iff.mp hp')).2
 have hP:((ps.map Prod.snd).map numOf).Perm ns:=by
  have h1:=(hp.map Prod.snd).map numOf
  rw [List.map_snd_zip (by rw [AH]; omega),hi.nums] at h1
  exact h1
 have hO:((ps.map Prod.snd).map numOf).Pairwise (fun x y=>g x<=g y):=by
  rw [CY,CY]
  refine hs.imp_of_mem fun {p q} hp' hq' hr=>?_
  have hr':p.1<=q.1:=hr
  rw [(hrel p (hp.mem_iff.mp hp')).1,(hrel q (hp.mem_iff.mp hq')).1] at hr'
  exact hr'
 rw [<- ho] at hI hP hO
 exact ⟨_,hI,hP,hO⟩
theorem ld:∀(n:Nat) (us:List Value) (o:Nat),us.length=n->(∀(j:Nat) v,us[j]?=some v->∃t,v=.int ((o+j:Nat):Int) t)->DZ us ((List.range' o n).map fun (m:Nat)=>(m:Int))
 | 0,[],_,_,_=>.nil
 | n+1,u :: us,o,hl,h=>by
  rw [List.range'_succ,Br]
  obtain ⟨t,rfl⟩:=h 0 u rfl
  refine .cons _ t (ld n us (o+1) (by simpa using hl) fun j v e=>?_)
  obtain ⟨t,rfl⟩:=h (j+1) v (by simpa using e)
  exact ⟨t,by rw [show o+1+j=o+(j+1) by omega]⟩
def eR (n:Nat):List Int:=(BP n).map fun (m:Nat)=>(m:Int)
section
variable {X:Cx}{pins:List (Addr×Obj)}{σ:St}{H:Hp}{s:AL}
theorem lR {f R:Addr}{n:Nat}{fo:Obj}{t₁ t₂ t₃:Tok}{g:Int->Int}{Q E:Value->AL->Prop}(hh:X.A.handled=none)
  (I:Inv X ((f,fo) :: (R,{ cls:=.type "range",data:=.fields #[.int 0 t₁,.int n t₂,.int 1 t₃] }) :: pins) σ H s) (h64:n<64)
  (turn:∀(k:Nat) (t:Tok) (H':Hp) (s':AL) (pins':List (Addr×Obj)),k<n->Same H H'->Inv X ((f,fo) :: pins') σ H' s' ->
   A6 (Bf X.prog X.w) X.A.in1.in1 (call (.ref f) [.int k t]) (EP X ((f,fo) :: pins') σ fun v H2=>v=.int (g k)/\Same H' H2) (fun _ _=>False) s')
  (h:∀(D:Addr) (H2:Hp) (s':AL) (ns:List Int),Inv X pins σ H2 s'->H D=none->Same H H2->H2 D=some (.lst (ns.map V.int))->ns.Perm (eR n)->ns.Pairwise (fun x y=>g x<=g y)->Q (.ref D) s') :
  A6 (Bf X.prog X.w) X.A (call (.builtin "sorted") [.ref R] [(Dt "key",.ref f)]) Q E s:=by
 refine call_function_entry_kw kind_sorted plain_sorted entry_sorted (ksk_s1 _ _) ?_
 unfold Builtin.«sorted»
 refine AI (m:=checkCount "sorted" 1 1 _) (AV ?_)
 have hR:IsRange s.heap R 0 n 1 t₁ t₂ t₃:=I.sub.hd.1
 refine AI (lE (A:=X.A.in1) (n:=n) hh hR (small_one (by omega) (by omega) (by omega) (by omega)) (by rw [PyProof.Rows.rangeSize_nat]; simp) (by omega) fun h1 tk1 acc hk hacc=>?_)
 have hal:acc.toList.length=n:=by rw [B3]; exact hacc.1
 refine AI (E3 ?_ (by rw [hal,A9]; omega))
 have hi:DZ acc.toList (eR n):=by
  unfold eR
  rw [List.range_eq_range']
  refine ld n acc.toList 0 hal fun j v e=>?_
  obtain ⟨t,rfl⟩:=hacc.2 j v (by simpa using e)
  exact ⟨t,by simp⟩
 have I1:=I.kept (t':=tk1) hk
 have I2:=I1.kept (t':=tk1) fun b o e=>AJ (Bv "list" acc.toList.toArray 0) e
 have fa:=I1.fpOk (AM _) (I1.hok.fresh (AM _))
 have xa:X.s₀.heap.get? h1.objs.size=none:=CM I1.sz
 have ha:(h1.push (Bv "list" acc.toList.toArray 0)).get? h1.objs.size=some (Bv "list" acc.toList.toArray 0):=A5 _ rfl
 refine AI (Cd (wpAny_call_entry_kw slot_list_sort ⟨_,ha,rfl⟩ entry_list_sort ?body (ksk_l1 _ _)))
 case body =>
  show A6 (Bf X.prog X.w) X.A.in1.in1 (Builtin.«list.sort» ⟨[.ref h1.objs.size],[(Dt "key",.ref f)]⟩) _ _ { s with heap:=h1.push (Bv "list" acc.toList.toArray 0),toks:=tk1 }
  rw [ksk_t1]
  have s1:=By.update (h1.push (Bv "list" acc.toList.toArray 0)) h1.objs.size (BF fun _=>(#[]:Array Value))
  obtain ⟨e1,ho1⟩:∃e1,((h1.push (Bv "list" acc.toList.toArray 0)).update h1.objs.size (BF fun _=>(#[]:Array Value))).get? h1.objs.size=some (Bv "list" #[] e1):=⟨_,Dr ha fun _=>#[]⟩
  have I3:=I2.but s1 fa xa
  have I4:=I3.kept (t':=tk1) fun b o e=>AJ (Bv "tuple" acc.toList.toArray 0) e
  have I5:=I4.kept (t':=tk1) fun b o e=>AJ (Bv "list" #[] 0) e
  have fk:=I4.fpOk (AM _) (I4.hok.fresh (AM _))
  have xk:=CM I4.sz
  unfold ksk_tree
  refine AI (listItems_at ha rfl ?_)
  refine AI (DE ha rfl ?_ (by rw [AU,A9,hal]; omega) (Bo _))
  refine AI (E6 ho1 rfl ?_)
  refine AI (wpAny_newTuple ?_ (by show acc.toList.length<=_; rw [A9,hal]; omega))
  refine AI (E3 ?_ (Bo _))
  refine Cd ?_
  have na:(((h1.push (Bv "list" acc.toList.toArray 0)).update h1.objs.size (BF fun _=>(#[]:Array Value))).push (Bv "tuple" acc.toList.toArray 0)).get? h1.objs.size=some (Bv "list" #[] e1):=AJ _ ho1
  generalize hkS:(((h1.push (Bv "list" acc.toList.toArray 0)).update h1.objs.size (BF fun _=>(#[]:Array Value))).push (Bv "tuple" acc.toList.toArray 0)).objs.size=kS at fk xk
  have hka:kS≠h1.objs.size:=fun z=>by
   have:=A3 na
   rw [hkS,z] at this
   exact Cm _ this
  have nk:((((h1.push (Bv "list" acc.toList.toArray 0)).update h1.objs.size (BF fun _=>(#[]:Array Value))).push (Bv "tuple" acc.toList.toArray 0)).push (Bv "list" #[] 0)).get? kS=some (Bv "list" #[] 0):=by
   rw [<- hkS]; exact A5 _ rfl
  refine rh (kz:=(eR n).map g) (Ψ:=fun s'=>∃H',Inv X ((f,fo) :: (R,{ cls:=.type "range",data:=.fields #[.int 0 t₁,.int n t₂,.int 1 t₃] }) :: pins) σ H' s'/\Same H H'/\H' kS=none/\H' h1.objs.size=none)
   ⟨H,I5,fun _ _ e=>e,fk.1,fa.1⟩ ?ok ?oa nk (AJ _ na) hka (by rw [AH,hi.length]) (by rw [hal]; exact h64) ?turn ?fin
  case ok =>
   rintro s' h' ⟨H',J,sm,z1,z2⟩ sb
   exact ⟨H',J.but sb ⟨z1,fk.2⟩ xk,sm,z1,z2⟩
  case oa =>
   rintro s' h' ⟨H',J,sm,z1,z2⟩ sb
   exact ⟨H',J.but sb ⟨z2,fa.2⟩ xa,sm,z1,z2⟩
  case turn =>
   rintro i v k hv hk s' kA e ⟨H',J,sm,z1,z2⟩ g1 g2
   have hin:i<n:=by rw [<- hal]; exact (AS.mp hv).1
   obtain ⟨t,rfl⟩:=hacc.2 i v (by simpa using hv)
   have hk':g i=k:=by
    unfold eR at hk
    rw [AR,AR,Df hin] at hk
    exact Ba hk
   subst hk'
   have e0:(0:Int)+(i:Int)*1=i:=by omega
   rw [e0]
   have J2:Inv X ((f,fo) :: (kS,Bv "list" kA e) :: (h1.objs.size,Bv "list" #[] e1) :: (R,{ cls:=.type "range",data:=.fields #[.int 0 t₁,.int n t₂,.int 1 t₃] }) :: pins) σ H' s':=by
    refine J.pins_of fun p hp=>?_
    rcases AX.mp hp with rfl | hp
    ·exact J.pin _ (Bb _ (AQ ..))
    rcases AX.mp hp with rfl | hp
    ·exact ⟨g1,z1,fk.2.1,fk.2.2.1,fun _ z=>by cases z⟩
    rcases AX.mp hp with rfl | hp
    ·exact ⟨g2,z2,fa.2.1,fa.2.2.1,fun _ z=>by cases z⟩
    ·exact J.pin p (Bb _ (AO _ hp))
   refine Bw (turn i t H' s' _ hin sm J2) ?_ fun _ _ z=>z
   rintro u' s'' ⟨v',H2,K,rv,ev,sm2⟩
   subst ev
   have p1:=K.pin (kS,Bv "list" kA e) (Bb _ (by simp))
   have p2:=K.pin (h1.objs.size,Bv "list" #[] e1) (Bb _ (by simp))
   refine ⟨rv,⟨H2,K.pins_of fun p hp=>K.pin p (Bb _ ?_),fun b o e=>sm2 b o (sm b o e),p1.2.1,p2.2.1⟩,p1.1,p2.1⟩
   rcases AX.mp hp with rfl | hp
   ·exact AQ ..
   ·exact AO _ (AO _ (AO _ hp))
  case fin =>
   rintro s' out c ⟨H',J,sm,z1,z2⟩ ho ko
   obtain ⟨ns,hI,hP,hO⟩:=ss hi ko
   refine ⟨_,rfl,AV ⟨_,rfl,?_⟩⟩
   have hln:ns.length=n:=by rw [hP.length_eq]; unfold eR; simp
   have J2:=J.trackU (o:=.lst (ns.map V.int)) ⟨z2,fa.2⟩ xa ⟨by rw [AH,hln,A9]; omega,out.toList,c,fW hI,by simpa using ho⟩
   refine h h1.objs.size _ s' ns J2.sub.sub fa.1 (fun b o e=>?_) ac hP hO
   rw [aj (fun z=>by have:=sm b o e; rw [z,z2] at this; cases this)]
   exact sm b o e
end
def kE (T:Addr) (pos:Pos) (qual:Str) (js:List Nat) (ta:TA) (te:TE):TE:=fun σ H Q=>ta σ H fun vs H1=>∃n:Nat,vs=[.int n]/\n<64/\TabOk T pos qual H1/\∃g:Int->Int,
 (∀(k:Nat) (H':Hp),k<n->(∀b o,b≠T->H1 b=some o->H' b=some o)->te (some (.int k) :: d6 σ js) H' fun v H2=>v=.int (g k)/\Same H' H2) /\
 ∀(D:Addr) (H2:Hp) (ns:List Int),H1 D=none->(∀b o,b≠T->H1 b=some o->H2 b=some o)->(∃c',uI T pos qual H2 c')->H2 D=some (.lst (ns.map V.int))->ns.Perm (eR n)->ns.Pairwise (fun x y=>g x<=g y)->Q (.ref D) H2
section
variable {X:Cx}
theorem lZ {c T:Addr}{k:Nat}{x:Str}{ys:List Str}{js:List Nat}{cl:List (Str×Addr)}{params:Arguments}{body:Expr}{sc:Scope}{a:Expr}{ta:TA}{te:TE}{p p' pos pos' lpos kpos:Pos}
  (hr:Room (k+3) X.A) (hgl:X.env.kindOf "sorted"=some .globalImplicit) (hml:X.mg "sorted"=none) (hg:X.env.kindOf "range"=some .globalImplicit) (hm:X.mg "range"=none) (ha:PA X [a] ta) (h1:aw a=true)
  (hcode:X.env.code=.ref c) (C:EK X.base c T) (hB:X.base.BuiltinsAt X.mg T) (hcl:Fj sc X.env=pure cl) (hdef:defaultsOf params X.env=([],[]))
  (hbind:∀(pm ctv u:Value) (c':Addr),Fh (kla_fn "<lambda>" (X.env.qual++"<lambda>") params body sc cl pm (.ref c') ctv) ⟨[u],[]⟩=pure [(x,u)])
  (hco:sc.isCoroutine=false) (hgen:sc.isGenerator=false) (hkind:sc.kind=.function) (hcell:∀y∈sc.names,y.2≠.cell)
  (hx:sc.names.lookup x=some .local) (hcap:LCaps X sc cl ys js) (hin:∀y c,cl.lookup y=some c->X.env.cells.lookup y=some c) (hhas:∀y,(sc.names.lookup y=some .cell\/sc.names.lookup y=some .free)->∃c,cl.lookup y=some c)
  (he:∀(A:Bk) (s:AL) (H:Hp) (f c':Addr),Room k (eP X A (X.env.qual++"<lambda>") sc (x :: ys) cl s H f (.ref c')).A->PE (eP X A (X.env.qual++"<lambda>") sc (x :: ys) cl s H f (.ref c')) body te) :
  PE X (.Call (.Name "sorted" p) [.Call (.Name "range" p') [a] [] pos'] [⟨some "key",.Lambda params body sc lpos,kpos⟩] pos) (kE T lpos (X.env.qual++"<lambda>") js ta te):=by
 intro pins s σ H Q I h
 refine En (bG (u:=.builtin "sorted") I hgl hml (by decide +kernel) ?_)
 refine callWith_kw (id:="sorted") ?_
 show A6 _ _ (spliced ((false,eval (.Call (.Name "range" p') [a] [] pos') X.env) :: Dx pos (Bz [] X.env))) _ _ s
 refine CI (Call_ (bG I hg hm boot_range (BC (thn (ha pos' pins s σ H _ I h) fun us s1 ⟨vs,H1,I1,r1,q1⟩=>?_) (ar h1) (br (by simp)))))
 obtain ⟨n,e,h64,hT,g,hk,hq⟩:=q1
 subst e
 cases r1 with
 | cons r rr =>
  cases rr
  obtain ⟨t,rfl⟩:=r
  refine call_range_1 ?_
  refine Ds ?_
  have I2:Inv X pins σ H1 { s1 with heap:=s1.heap.push { cls:=.type "range",data:=.fields #[.int 0 s1.toks,.int n t,.int 1 (s1.toks+1)] },toks:=s1.toks+1+1 }:=I1.kept fun b o e=>AJ _ e
  have I3:=I2.add (I1.fpOk (AM _) (I1.hok.fresh (AM _))) (A5 _ rfl) fun v z=>by cases z
  show A6 _ _ (evalAll [(do let v <- eval (.Lambda params body sc lpos) X.env; standAt pos; pure v)]) _ _ _
  refine wpAny_evalAll_cons (AI (tG I3 hcode C hB hcl hdef hT fun f c' ctv H' s' I4 tab sm=>AI (DA (AV (wpAny_evalAll_nil ?_)))))
  have nT:∀{H2:Hp},Same H' H2->∀b o,b≠T->H1 b=some o->H2 b=some o:=fun sm2 b o hb e=>sm2 b o (sm b o hb e)
  refine lR (f:=f) (g:=g) hr.hd I4 h64 (fun k' t' H2 s2 pins' hk' sm2 J=>?_) fun D H2 s2 ns J hD sm2 hl hp ho=>?_
  ·obtain ⟨ps,_,_,_,hc'⟩:=tab
   have hrec:s2.heap.CodeRec (.ref c') (X.env.qual++"<lambda>"):=(J.hok c' _ (sm2 _ _ hc')).1
   exact tH (v:=.int k') (k:=k) J (A:=X.A.in1.in1) hr.in1.in1 J.ok.frames J.hd.1 hrec (hbind _ _ _ _) hco hgen hkind hcell hx hcap hin hhas (fun hr'=>he _ _ _ _ _ hr') ⟨t',rfl⟩ (hk k' H2 hk' (nT sm2))
  ·obtain ⟨ps,q1,q2,q3,q4⟩:=tab
   exact ⟨.ref D,H2,J,rfl,hq D H2 ns (by
    cases z:H1 D with
    | none=>rfl
    | some o =>
     by_cases hb:D=T
     ·subst hb; rw [q1] at hD; cases hD
     ·rw [sm D o hb z] at hD; cases hD) (nT sm2) ⟨c',ps,sm2 _ _ q1,q2,q3,sm2 _ _ q4⟩ hl hp ho⟩
end
section
variable {X:Cx}{A:Bk}{E:Value->AL->Prop}{pins:List (Addr×Obj)}{σ:St}{H:Hp}{s:AL}{a:Addr}{kvs:List (Key×V)}{k:Key}{u:Value}
theorem y7 {z:V}{r:Value}{Q:Value->AL->Prop}(I:Inv X pins σ H s) (e:H a=some (.dK kvs)) (hz:kvs.length<sizeLine) (ry:RelV (kV k) u) (rz:RelV z r)
  (h1:∀v w' s',aN kvs k=some v->Inv X pins σ H s'->RelV v w'->Q w' s') (h2:aN kvs k=none->∀s',Inv X pins σ (upd H a (.dK (bi kvs k z))) s'->Q r s') :
  A6 (Bf X.prog X.w) A (call (.builtin "dict.setdefault") [.ref a,u,r]) Q E s:=by
 obtain ⟨z',hd,vs,rel,dd⟩:=uo I.hok e
 have val:=rel.val k
 refine call_meetsIn PySem.F.slot_dict_setdefault dd.typeIs PySem.F.entry_dict_setdefault (PySem.F.args_dict_setdefault_3 _ _ _) (kt_meets_setdefault (aQ X.prog X.w) a (iu ry) hd r) ⟨vs,dd,by rw [<- rel.length]; exact z',fun w' hw=>?_,fun hn h' dd' hs=>?_⟩
 ·rw [hw] at val
  cases q:aN kvs k with
  | none=>rw [q] at val; exact BB val
  | some v=>rw [q] at val; exact h1 v w' _ q (I.tok _) val
 ·have hn':aN kvs k=none:=by
   rw [hn] at val
   cases q:aN kvs k with
   | none=>rfl
   | some v=>rw [q] at val; exact BB val
  refine h2 hn' _ ?_
  have he:∃q,h'.get? a=some q:=let ⟨q,_,_,hq,_⟩:=dd'; ⟨q,hq⟩
  refine gO I (by rw [e]; exact C5) hs he (mJ ?_ hd (rel.put k rz) dd')
  have:=bT kvs k z
  omega
end
def qP (td ty tx:TE):TE:=fun σ H Q=>td σ H fun x H1=>∃a,x=.ref a/\IsD H1 a/\ty σ H1 fun y H2=>tx σ H2 fun z H3=>∃kvs k,H3 a=some (.dK kvs)/\kvs.length<sizeLine/\y=kV k /\
 (∀v,aN kvs k=some v->Q v H3)/\(aN kvs k=none->Q z (upd H3 a (.dK (bi kvs k z))))
section
variable {X:Cx}{o e f:Expr}{apos cpos:Pos}{td ty tx:TE}
theorem rX (ho:PE X o td) (he:PE X e ty) (hf:PE X f tx) (m:M2 X o "setdefault" apos e f cpos):PE X (.Call (.Attribute o "setdefault" apos) [e,f] [] cpos) (qP td ty tx):=by
 intro pins s σ H Q I h
 refine wpAny_Call_method m.base m.few m.line Ew PySem.F.slot_dict_setdefault PySem.F.type_dict_setdefault (thn (ho pins s σ H _ I h) fun u s1 ⟨x,H1,I1,rx,a,ex,d,q1⟩=>?_)
 subst ex
 obtain rfl:u=Bc a:=rx
 obtain ⟨t1,t2,_⟩:=mB I1 d
 refine ⟨t1,t2,?_⟩
 rw [m.trees]
 refine DP rfl (Du (CI (thn (he pins s1 σ H1 _ I1 q1) fun iv s2 ⟨y,H2,I2,ry,q2⟩ =>
  CI (thn (hf pins s2 σ H2 _ I2 q2) fun fv s3 ⟨z,H3,I3,rz,kvs,k,ea,hz,ey,g1,g2⟩=>Ds ?_))))
 subst ey
 exact y7 I3 ea hz ry rz (fun v w' s4 hv I4 rw'=>⟨_,H3,I4,rw',g1 v hv⟩) fun hn s4 I4=>⟨_,_,I4,rz,g2 hn⟩
theorem wz (ho:QE X o td) (he:QE X e ty) (hf:QE X f tx) (h1:aw e=true:=by rfl) (h2:aw f=true:=by rfl) (hbase:DB o "setdefault" X.env (eval o X.env)=eval o X.env:=by rfl) (hline:(apos.endLine == cpos.line)=true:=by rfl) :
  QE X (.Call (.Attribute o "setdefault" apos) [e,f] [] cpos) (qP td ty tx) :=
 ⟨rX ho.h he.h hf.h ⟨hbase,by rw [ar h1,ar h2]; rfl,hline,by rw [ar h1,ar h2]; rfl⟩⟩
end
theorem e_f {X:Cx}(i:Nat) {x:Str}{pos:Pos}(hN:X.N[i]?=some x:=by kernel_rfl) (hv:X.env.scope.names.lookup x=some .free:=by kernel_rfl) (hd:(x == ("__debug__":Str))=false:=by kernel_rfl) (hcd:(x == ("__classdict__":Str))=false:=by kernel_rfl):QE X (.Name x pos) (lN i) :=
 ⟨jV hN (.inr (.inr hv)) hd hcd⟩
theorem ql {X:Cx}{c T:Addr}{k:Nat}{x:Str}{params:Arguments}{body:Expr}{sc:Scope}{a:Expr}{t1 te:TE}{p p' pos pos' lpos kpos:Pos}(ys:List Str) (js:List Nat) (cl:List (Str×Addr))
  (hr:Room (k+3) X.A) (hml:X.mg "sorted"=none) (hm:X.mg "range"=none) (hcode:X.env.code=.ref c) (C:EK X.base c T) (hB:X.base.BuiltinsAt X.mg T) (ha:QE X a t1)
  (hcl:Fj sc X.env=pure cl) (hcap:LCaps X sc cl ys js) (hin:ClIn X.env cl)
  (he:∀(A:Bk) (s:AL) (H:Hp) (f c':Addr),Room k (eP X A (X.env.qual++"<lambda>") sc (x :: ys) cl s H f (.ref c')).A->QE (eP X A (X.env.qual++"<lambda>") sc (x :: ys) cl s H f (.ref c')) body te)
  (hx:sc.names.lookup x=some .local:=by rfl) (hgl:X.env.kindOf "sorted"=some .globalImplicit:=by kernel_rfl) (hg:X.env.kindOf "range"=some .globalImplicit:=by kernel_rfl) (h1:aw a=true:=by rfl)
  (hdef:defaultsOf params X.env=([],[]):=by rfl) (hbind:∀(pm ctv u:Value) (c':Addr),Fh (kla_fn "<lambda>" (X.env.qual++"<lambda>") params body sc cl pm (.ref c') ctv) ⟨[u],[]⟩=pure [(x,u)]:=by intros; rfl)
  (hco:sc.isCoroutine=false:=by rfl) (hgen:sc.isGenerator=false:=by rfl) (hkind:sc.kind=.function:=by rfl) (hcell:(sc.names.all fun p=>p.2 != D4.cell)=true:=by rfl)
  (hhas:(sc.names.all fun p=>p.2 == D4.local||p.2 == D4.globalImplicit||(cl.lookup p.1).isSome)=true:=by rfl) :
  QE X (.Call (.Name "sorted" p) [.Call (.Name "range" p') [a] [] pos'] [⟨some "key",.Lambda params body sc lpos,kpos⟩] pos) (kE T lpos (X.env.qual++"<lambda>") js (bZ t1 gB) te):=by
 refine ⟨lZ hr hgl hml hg hm (pa' ha.h cz h1) h1 hcode C hB hcl hdef hbind hco hgen hkind (fun y hy z=>?_) hx hcap (fun y c e=>hin.mem (BO e)) (fun y h=>?_) fun A s H f c' hr'=>(he A s H f c' hr').h⟩
 ·have:=DI.mp hcell y hy
  rw [z] at this
  exact absurd this (by decide)
 ·have hm:∃k,(y,k)∈sc.names/\(k=.cell\/k=.free):=by
   rcases h with h | h
   ·exact ⟨_,BO h,.inl rfl⟩
   ·exact ⟨_,BO h,.inr rfl⟩
  obtain ⟨k,hk,hz⟩:=hm
  have:=DI.mp hhas _ hk
  rcases hz with rfl | rfl
  ·exact CA.mp (by simpa using this)
  ·exact CA.mp (by simpa using this)
def zh (K:AK) (x:Str) (st:Stmt) (c T:Addr):Prop:=PySem.W.codeHdIn K c T=true/\∃f fd,A4 K AY x=some (some (.ref f))/\Fun K x x st f fd/\fd.code=.ref c
section
variable {P:Program}{w:Bj}{K:AK}{mg:Str->Option Value}{base:Heap}
theorem Fun.okT {x qual:Str}{st:Stmt}{f c:Addr}{fd:Bg}{N ps:List Str}{k:Nat}{sp:Sp}(F:Fun K x qual st f fd) (hc:fd.code=.ref c) (S:aq N ps (ak st)) (len:∀vs H Q E,sp vs H Q E->vs.length=ps.length)
  (hbody:∀(A:Bk) (outer:List Env) (s:AL) (H:Hp) (vs:List V) (Q:VK) (E:XK),Room k (A.deeper (CJ qual (ak st) s.heap.objs.size f (.ref c)))->sp vs H Q E ->
   ∃t,PSs (be CX0 P w K mg base N qual (ak st) f (.ref c) A outer s H E).nox (bq st) t/\t { nx:=fun _ H'=>Q .non H',rt:=Q } (start N vs) H):aJ P w K mg base CX0 (k+1) f fd ps sp:=by
 obtain ⟨oc,od,kV,doc,pm,an,cdv,ct,osl,rfl,lk,hcd⟩:=F.ex
 have e:cdv=.ref c:=hc
 subst e
 refine uc lk hcd S len fun A outer s H vs Q E hr hsp=>?_
 obtain ⟨t,h,q⟩:=hbody A outer s H vs Q E hr hsp
 exact ⟨t,h.nox,q⟩
theorem Def.ofT {h:Heap}{CX:CXT}{x:Str}{c T:Addr}{k:Nat}{ps:List Str}{sp:Sp}{st:Stmt}(X:K.In h) (G:h.Ns AY mg) (FI:zh K x st c T)
  (ok:∀f fd,Fun K x x st f fd->fd.code=.ref c->aJ P w K mg base CX k f fd ps sp)
  (hb:∀(kV doc pm:Value) (an:Option Addr) (cdv ct:Value) (us:List Value),us.length=ps.length->Fh (CW x x (bP st) (bq st) (ak st) .none kV doc pm an cdv ct) ⟨us,[]⟩=pure (ps.zip us)) :
  Def P w K mg base CX x k ps sp:=by
 obtain ⟨_,f,fd,a,F,hc⟩:=FI
 exact ⟨f,fd,ok f fd F hc,F.binds hb,F.kp,CB X G a⟩
end
end L2
namespace K56
open PySem L2 G KS
section
variable {P:Program}{w:Bj}{K:AK}{mg:Str->Option Value}{base:Heap}
def d5 (c:Clip):Int:=if c.b<c.a then c.b else c.a
def z5 (c:Clip):Int:=if c.a<c.b then c.b else c.a
def nh:Sp:=fun vs H Q _=>∃(p:Addr) (c:Clip),vs=[.ref p]/\H p=some (.tup c.vs)/\Q (.int (d5 c)) H
theorem uY:aq ["strip"] ["strip"] (ak jN):=⟨rfl,rfl,rfl,by decide +kernel,rfl,by decide +kernel,by decide +kernel⟩
theorem sG {f:Addr}{fd:Bg}(F:Fun K "least" "least" jN f fd) (n_min:mg "min"=none):aJ P w K mg base CX0 1 f fd ["strip"] nh:=by
 refine F.ok uY (fun vs H Q E h=>?_) (fun cdv A outer s H vs Q E hr h=>?_)
 ·obtain ⟨p,c,rfl,_⟩:=h
  rfl
 obtain ⟨p,c,rfl,hp,q⟩:=h
 refine dN (ah (aB (e_b (jv rfl) n_min (by decide +kernel) (aa (au ao (e_v 0) ae) (aa (au ao (e_v 0) ae) af))))) ?_
 refine ⟨_,rfl,p,_,_,.int c.a,rfl,rfl,SqT.of hp,ad (j:=1) rfl,_,rfl,p,_,_,.int c.b,rfl,rfl,SqT.of hp,ad (j:=2) rfl,_,_,rfl,?_⟩
 exact q
def zB:Sp:=fun vs H Q _=>∃(p:Addr) (c:Clip),vs=[.ref p]/\H p=some (.tup c.vs)/\Q (.int (z5 c)) H
theorem An:aq ["strip"] ["strip"] (ak eX):=⟨rfl,rfl,rfl,by decide +kernel,rfl,by decide +kernel,by decide +kernel⟩
theorem zX {f:Addr}{fd:Bg}(F:Fun K "greatest" "greatest" eX f fd) (n_max:mg "max"=none):aJ P w K mg base CX0 1 f fd ["strip"] zB:=by
 refine F.ok An (fun vs H Q E h=>?_) (fun cdv A outer s H vs Q E hr h=>?_)
 ·obtain ⟨p,c,rfl,_⟩:=h
  rfl
 obtain ⟨p,c,rfl,hp,q⟩:=h
 refine dN (ah (aB (e_b (eC rfl) n_max (by decide +kernel) (aa (au ao (e_v 0) ae) (aa (au ao (e_v 0) ae) af))))) ?_
 refine ⟨_,rfl,p,_,_,.int c.a,rfl,rfl,SqT.of hp,ad (j:=1) rfl,_,rfl,p,_,_,.int c.b,rfl,rfl,SqT.of hp,ad (j:=2) rfl,_,_,rfl,?_⟩
 exact q
def q9:Sp:=fun vs H Q _=>∃(l:Addr) (es:List Int) (x:Int),vs=[.ref l,.int x]/\H l=some (.lst (es.map V.int))/\es.length<=1000/\∀H',Same H H'->Q (.int ((ff es x:Nat):Int)) H'
theorem scFree:aq ["ends", "frame", "place", "end"] ["ends", "frame"] (ak dr):=⟨rfl,rfl,rfl,by decide +kernel,rfl,by decide +kernel,by decide +kernel⟩
theorem vM {f:Addr}{fd:Bg}(F:Fun K "first_free" "first_free" dr f fd) (n_enumerate:mg "enumerate"=none) (n_len:mg "len"=none):aJ P w K mg base CX0 1 f fd ["ends", "frame"] q9:=by
 refine F.ok scFree (fun vs H Q E h=>?_) (fun cdv A outer s H vs Q E hr h=>?_)
 ·obtain ⟨l,es,x,rfl,_⟩:=h
  rfl
 obtain ⟨l,es,x,rfl,hl,hn,q⟩:=h
 refine eK (ag (bv BM rfl (mC n_enumerate (e_v 0)) (fM rfl (aM (aC (i:=2) scFree.nd) (aM (aC (i:=3) scFree.nd) dA)))
   (ah (bb (aK gk (e_v 3) (e_v 1))
    (ah (aB (e_v 2)))
    aI)))
  (ah (aB (e_b aH n_len Cc (aa (e_v 0) af))))) ?_
 intros
 refine ⟨_,rfl,l,rfl,⟨_,SqL.of hl⟩,iB (K:=K) (a:=l) (xs:=es.map V.int) (fun i σ H'=>∃(o2 o3:Option V),σ=[some (.ref l),some (.int x),o2,o3]/\Same H H'/\i<=ff es x) ⟨none,none,rfl,fun _ _ h=>h,Bo _⟩ ?_ ?_ ?_⟩
 ·rintro i σ H' _ ⟨o2,o3,rfl,hS,_⟩
  exact SqL.of (hS _ _ hl)
 ·rintro i v σ H' p hx ⟨o2,o3,rfl,hS,hi⟩ hp
  rw [AR] at hx
  cases hu:es[i]? with
  | none=>rw [hu] at hx; cases hx
  | some e =>
   rw [hu] at hx
   cases hx
   have s1:Same H (upd H' p (.tup [.int (i:Int),.int e])):=hS.trans (Same.new hp _)
   refine ⟨p,_,rfl,SqT.of ac,rfl,_,_,rfl,_,_,rfl,rfl,?_⟩
   refine ⟨_,rfl,_,rfl,_,_,rfl,rfl,_,rfl,?_⟩
   refine fc (fun z=>?_) (fun z=>?_)
   ·have z:=of_decide_eq_true z
    have e1:ff es x=i:=by
     rcases Nat.lt_or_ge i (ff es x) with h | h
     ·have:=ug h hu
      omega
     ·omega
    have q1:=q _ s1
    rw [e1] at q1
    exact ⟨_,rfl,q1⟩
   ·have z:¬ e<x:=fun y=>z (decide_eq_true y)
    refine ⟨_,_,rfl,s1,?_⟩
    rcases Nat.lt_or_ge i (ff es x) with h | h
    ·exact h
    ·have e1:ff es x=i:=by omega
     rw [<- e1] at hu
     exact absurd (uf hu) z
 ·rintro σ H' ⟨o2,o3,rfl,hS,hi⟩
  rw [AH] at hi
  have e1:ff es x=es.length:=Nat.le_antisymm (li es x) hi
  refine ⟨_,rfl,l,_,rfl,.inl (SqL.of (hS _ _ hl)),?_⟩
  rw [AH,<- e1]
  exact q _ hS
def w5:Sp:=fun vs H Q _=>∃(l:Addr) (es:List Int) (p:Nat) (e:Int),vs=[.ref l,.int (p:Int),.int e]/\H l=some (.lst (es.map V.int))/\p<=es.length/\es.length<1000/\Q .non (upd H l (.lst ((d4 es p e).map V.int)))
theorem zE:aq ["ends", "place", "end"] ["ends", "place", "end"] (ak fY):=⟨rfl,rfl,rfl,by decide +kernel,rfl,by decide +kernel,by decide +kernel⟩
theorem yw {f:Addr}{fd:Bg}(F:Fun K "put_end" "put_end" fY f fd) (n_len:mg "len"=none):aJ P w K mg base CX0 1 f fd ["ends", "place", "end"] w5:=by
 refine F.ok zE (fun vs H Q E h=>?_) (fun cdv A outer s H vs Q E hr h=>?_)
 ·obtain ⟨l,es,p,e,rfl,_⟩:=h
  rfl
 obtain ⟨l,es,p,e,rfl,hl,hp,hn,q⟩:=h
 refine dN (ah (bb (aK bf (e_v 1) (e_b aH n_len Cc (aa (e_v 0) af)))
   (ah (aO (bn (e_v 0) (e_v 2))))
   (ah (i5 (e_v 2) (oA (e_v 0) (e_v 1)))))) ?_
 refine ⟨_,rfl,_,rfl,l,_,rfl,.inl (SqL.of hl),rfl,_,rfl,?_⟩
 rw [AH]
 have zl:sizeLine=16777216:=A9
 by_cases e1:p=es.length
 ·refine iteY (decide_eq_true (by rw [e1])) ?_
  refine ⟨_,rfl,.inl ⟨rfl,_,SqL.of hl⟩,_,rfl,l,_,_,rfl,rfl,hl,by rw [AH]; omega,?_⟩
  have e2:d4 es p e=es++[e]:=by unfold d4; rw [if_pos e1]
  rw [e2,A8] at q
  exact q
 ·refine iteN (decide_eq_false (by intro z; have:=V.int.inj z; omega)) ?_
  refine ⟨_,rfl,_,rfl,_,rfl,l,_,_,p,rfl,rfl,hl,by rw [AH]; exact j5 (by omega),?_⟩
  have e2:d4 es p e=es.set p e:=by unfold d4; rw [if_neg e1]
  rw [e2,List.map_set] at q
  exact q
end
end K56
namespace L2
open PySem PySem.Spec PyProof.Rows
theorem none_of {H H':Hp}{b:Addr}(s:Same H H') (h:H' b=none):H b=none:=by
 cases e:H b with
 | none=>rfl
 | some o=>rw [s b o e] at h; cases h
theorem TabOk.same {T:Addr}{pos:Pos}{qual:Str}{H H':Hp}(h:TabOk T pos qual H) (s:Same H H'):TabOk T pos qual H':=by
 rcases h with ⟨ps,a,b,c⟩ | ⟨c',ps,a,b,c,d⟩
 ·exact .inl ⟨ps,s _ _ a,b,c⟩
 ·exact .inr ⟨c',ps,s _ _ a,b,c,s _ _ d⟩
theorem TabOk.at {T:Addr}{pos:Pos}{qual:Str}{H:Hp}(h:TabOk T pos qual H):∃ps,H T=some (.tbl ps):=by
 rcases h with ⟨ps,a,_⟩ | ⟨c',ps,a,_⟩
 ·exact ⟨ps,a⟩
 ·exact ⟨ps,a⟩
theorem TabOk.write {T a:Addr}{pos:Pos}{qual:Str}{H:Hp}{o u:HO}(h:TabOk T pos qual H) (e:H a=some u) (h1:∀ps,u≠.tbl ps) (h2:∀c q,u≠cod c q):TabOk T pos qual (upd H a o):=by
 rcases h with ⟨ps,x,b,c⟩ | ⟨c',ps,x,b,c,d⟩
 ·have n1:T≠a:=fun z=>by rw [z,e] at x; cases x; exact h1 _ rfl
  exact .inl ⟨ps,by rw [aj n1]; exact x,b,c⟩
 ·have n1:T≠a:=fun z=>by rw [z,e] at x; cases x; exact h1 _ rfl
  have n2:c'≠a:=fun z=>by
   rw [z,e] at d
   exact h2 _ _ (Ba d)
  exact .inr ⟨c',ps,by rw [aj n1]; exact x,b,c,by rw [aj n2]; exact d⟩
theorem nK:∀k:Nat,(Bs k [V.int 0]).flatten=(Bs k 0).map fun (p:Nat)=>V.int ((p:Nat):Int)
 | 0=>rfl
 | k+1=>by
  rw [B4,Ch,nK k,B4,Br]
  rfl
theorem rS {ns:List Int}{n:Nat}(h:ns.Perm (eR n)):∃js:List Nat,ns=js.map (fun j=>((j:Nat):Int))/\js.Perm (BP n):=by
 refine ⟨ns.map Int.toNat,?_,?_⟩
 ·rw [B5]
  have:∀x∈ns,((fun j:Nat=>(j:Int)) ∘ Int.toNat) x=x:=fun x hx=>by
   have:=h.mem_iff.mp hx
   unfold eR at this
   obtain ⟨m,_,rfl⟩:=Be.mp this
   rfl
  conv=>lhs; rw [<- List.map_id ns]
  exact C0 fun x hx=>(this x hx).symm
 ·have:=h.map Int.toNat
  unfold eR at this
  rw [B5] at this
  have e:(BP n).map (Int.toNat ∘ fun (m:Nat)=>(m:Int))=BP n:=by
   conv=>rhs; rw [<- List.map_id (BP n)]
   exact C0 fun x _=>rfl
  rw [e] at this
  exact this
end L2
namespace KS
open PySem
theorem iC:∀(us:List Iv) (v:Iv) (f:Ends),cY (us++[v]) f=(cY us f).put v.reel (d4 (cY us f v.reel) (ff (cY us f v.reel) v.lo) v.hi)
 | [],v,f=>rfl
 | u :: us,v,f=>by
  show cY (us++[v]) _=_
  rw [iC us v]
  rfl
theorem vf (f:Ends) (v:Iv) (n:Nat) (h:∀r,(f r).length<=n) (r:Str):(f.put v.reel (d4 (f v.reel) (ff (f v.reel) v.lo) v.hi) r).length<=n+1:=by
 unfold Ends.put
 split
 ·have h1:=h v.reel
  rw [rH]
  split <;> omega
 ·have:=h r
  omega
theorem lq:∀(us:List Iv) (f:Ends) (n:Nat),(∀r,(f r).length<=n)->∀r,(cY us f r).length<=n+us.length
 | [],f,n,h,r=>h r
 | v :: us,f,n,h,r=>by
  have:=lq us _ (n+1) (vf f v n h) r
  rw [AZ]
  show (cY us _ r).length<=_
  omega
theorem xT {vs:List Iv}{i:Nat}{v:Iv}(f:Ends) (h:vs[i]?=some v):(cW vs f)[i]?=some (v,ff (cY (vs.take i) f v.reel) v.lo):=by
 obtain ⟨hi,he⟩:=AS.mp h
 have e:vs=vs.take i++v :: vs.drop (i+1):=by
  rw [<- he,List.getElem_cons_drop hi,List.take_append_drop]
 have hl:(cW (vs.take i) f).length=i:=by
  have:=congrArg C1 (hU (vs.take i) f)
  rw [AH,BA] at this
  omega
 conv=>lhs; rw [e,kM]
 rw [BR (by omega),hl,Dv]
 rfl
end KS
namespace K56
open PySem L2 G KS
section
variable {P:Program}{w:Bj}{K:AK}{mg:Str->Option Value}{base:Heap}
def j3:Pos:=⟨157,49,157,75⟩
def j2:Str:="prints_for"++".<locals>."++"<lambda>"
def d0:Clip:=⟨"",0,0,0⟩
def i0:Iv:=⟨"",0,0⟩
def zd (H₀ H:Hp) (pp D:Addr) (kvs:List (Key×V)) (f:KS.Ends):Prop :=
 (∀r:Str,aN kvs (.inr r)=none->f r=[])/\(∀(r:Str) v,aN kvs (.inr r)=some v->∃l,v=.ref l/\H l=some (.lst ((f r).map V.int))/\H₀ l=none/\l≠pp/\l≠D) /\
 ∀(r r':Str) l,aN kvs (.inr r)=some (.ref l)->aN kvs (.inr r')=some (.ref l)->r=r'
def SLs (H:Hp) (p:Addr) (ps:List (Addr×Clip)):Prop:=H p=some (.lst (ps.map fun x=>V.ref x.1))/\∀x∈ps,H x.1=some (.tup x.2.vs)
def xH (T:Addr):Sp:=fun vs H Q _=>∃(pl:Addr) (ps:List (Addr×Clip)) (spoil:Int),vs=[.ref pl,.int spoil]/\SLs H pl ps/\ps.length<64/\0<=spoil/\TabOk T j3 j2 H /\
 ∀(l:Addr) (prs:List Nat) (H':Hp),H l=none->Bt T H H'->TabOk T j3 j2 H'->H' l=some (.lst (prs.map fun p=>V.int ((p:Nat):Int)))->PrOk (ps.map fun x=>bz spoil x.2) prs->Q (.ref l) H'
theorem scPr:aq ["strips", "spoil", "prints", "taken", "number", "strip", "ends"] ["strips", "spoil"] (ak dl):=⟨rfl,rfl,rfl,by decide +kernel,rfl,by decide +kernel,by decide +kernel⟩
theorem zW {f c T:Addr}{fd:Bg}(F:Fun K "prints_for" "prints_for" dl f fd) (hc:fd.code=.ref c) (C:EK base c T) (hB:base.BuiltinsAt mg T) (dLeast:Def P w K mg base CX0 "least" 1 ["strip"] nh) (dGr:Def P w K mg base CX0 "greatest" 1 ["strip"] zB)
  (dFree:Def P w K mg base CX0 "first_free" 1 ["ends", "frame"] q9) (dPut:Def P w K mg base CX0 "put_end" 1 ["ends", "place", "end"] w5) (n_len:mg "len"=none) (n_sorted:mg "sorted"=none) (n_range:mg "range"=none):aJ P w K mg base CX0 5 f fd ["strips", "spoil"] (xH T):=by
 refine F.okT (k:=4) hc scPr (fun vs H Q E h=>?_) (fun A outer s H vs Q E hr h=>?_)
 ·obtain ⟨pl,ps,spoil,rfl,_⟩:=h
  rfl
 obtain ⟨pl,ps,spoil,rfl,sl,hn,h0,tab,q⟩:=h
 have hr:Room (1+3) _:=hr
 refine kB (ag (ax (i:=2) scPr.nd (aD su (aW (aa ae af)) (e_b aH n_len Cc (aa (e_c 0) af))))
  (ag (ax (i:=3) scPr.nd kg)
  (ag (bv BM rfl (cC (ql (x:="k") ["strips"] [0] [("strips",s.heap.objs.size+1)] hr n_sorted n_range rfl C hB (e_b aH n_len Cc (aa (e_c 0) af)) rfl ⟨rfl,rfl,rfl,rfl,trivial⟩ ⟨rfl,trivial⟩ (fun _ _ _ _ _ hr=>(ap dLeast hr aF (aa (au (tM (K:=K) rfl) (e_f 1) (e_v 0)) af))))) (aC (i:=4) scPr.nd)
   (ag (ax (i:=5) scPr.nd (au aE (e_c 0) (e_v 4)))
   (ag (fC (ax (i:=6) scPr.nd (wz (e_v 3) (au ao (e_v 5) ae) (aW af))))
   (ag (i5 (ap dFree hr aF (aa (e_v 6) (aa (ap dLeast hr aF (aa (e_v 5) af)) af))) (oA (e_v 2) (e_v 4)))
   (ah (aO (ap dPut hr aF (aa (e_v 6) (aa (au aE (e_v 2) (e_v 4)) (aa (aD aV (ap dGr hr aF (aa (e_v 5) af)) (e_v 1)) af))))))))))
  (ah (aB (e_v 2)))))) ?_
 intros
 have zl:sizeLine=16777216:=A9
 refine ⟨(by show 1<=sizeLine; decide),fun pz hpz=>?_⟩
 have s1:=Same.new hpz (.lst [V.int 0])
 refine ⟨_,rfl,pl,_,rfl,.inl (SqL.of (s1 _ _ sl.1)),pz,_,_,rfl,rfl,ac,by omega,by rw [AH]; omega,by rw [AH]; show 1*_<=sizeLine; omega,fun pp hpp=>?_⟩
 have s2:=s1.trans (Same.new hpp (.lst (Bs ((ps.map fun x=>V.ref x.1).length:Int).toNat [V.int 0]).flatten))
 refine fun pt hpt=>?_
 have s3:=s2.trans (Same.new hpt (.dK []))
 obtain ⟨tps,hT⟩:=tab.at
 have nT:∀{b:Addr},H b=none->b≠T:=fun hb z=>by rw [z,hT] at hb; cases hb
 have hpp0:H pp=none:=none_of s1 hpp
 have hpt0:H pt=none:=none_of s2 hpt
 have f1:upd (upd (upd H pz (.lst [V.int 0])) pp (.lst (Bs ((ps.map fun x=>V.ref x.1).length:Int).toNat [V.int 0]).flatten)) pt (.dK []) pp=some (.lst ((Bs ps.length 0).map fun (p:Nat)=>V.int ((p:Nat):Int))):=by
  have e1:((ps.map fun x=>V.ref x.1).length:Int).toNat=ps.length:=by rw [AH]; rfl
  rw [aj (am ac hpt),ac,e1,nK]
 have nzt:∀ps',some (HO.tbl ps')≠H pl:=fun ps' z=>by rw [sl.1] at z; cases z
 refine ⟨_,rfl,pl,_,rfl,.inl (SqL.of (s3 _ _ sl.1)),ps.length,by rw [AH],hn,tab.same s3,fun k=>d5 ((ps.map (·.2)).getD k.toNat d0),fun k H' hk hb=>?_,fun D H2 ns hD hb tab2 hl hp ho=>?_⟩
 ·have hT':pl≠T:=bJ sl.1 hT (by intro z; cases z)
  have hz:=AN hk
  have hm:=BX hk
  have hzT:ps[k].1≠T:=bJ (sl.2 _ hm) hT (by intro z; cases z)
  refine ⟨_,rfl,_,rfl,pl,_,_,.ref ps[k].1,rfl,rfl,SqL.of (hb _ _ hT' (s3 _ _ sl.1)),ad (j:=k) (by rw [AR,hz]; rfl),ps[k].1,ps[k].2,rfl,hb _ _ hzT (s3 _ _ (sl.2 _ hm)),?_,fun _ _ h=>h⟩
  have:(ps.map (·.2)).getD k d0=ps[k].2:=by rw [AT,AR,hz]; rfl
  show V.int _=V.int (d5 ((ps.map (·.2)).getD ((k:Int).toNat) d0))
  rw [show ((k:Int).toNat)=k from rfl,this]
 obtain ⟨js,rfl,hjs⟩:=rS hp
 have hpT:pl≠T:=bJ sl.1 hT (by intro z; cases z)
 have hD0:H D=none:=none_of s3 hD
 have nppD:pp≠D:=am f1 hD
 have nptD:pt≠D:=am ac hD
 have nppt:pp≠pt:=fun z=>by rw [z,ac] at f1; cases f1
 have tk0:zd H H2 pp D [] (fun _=>[]):=⟨fun _ _=>rfl,fun r v z=>(by cases z),fun r r' l z=>(by cases z)⟩
 refine ⟨D,rfl,⟨_,SqL.of hl⟩,bU (K:=K) (a:=D) (xs:=(js.map fun (j:Nat)=>((j:Nat):Int)).map V.int) (fun i σ H'=>∃(prs:List Nat) (kvs:List (Key×V)) (o4 o5 o6:Option V),σ=[some (.ref pl),some (.int spoil),some (.ref pp),some (.ref pt),o4,o5,o6] /\
   H' pp=some (.lst (prs.map fun p=>V.int ((p:Nat):Int)))/\prs.length=ps.length/\H' pt=some (.dK kvs)/\kvs.length<=i/\zd H H' pp D kvs (cY ((js.map fun j=>(ps.map fun (x:Addr×Clip)=>bz spoil x.2).getD j i0).take i) fun _=>[]) /\
   (∀(i' j:Nat) x,i'<i->js[i']?=some j->(cW (js.map fun j=>(ps.map fun (x:Addr×Clip)=>bz spoil x.2).getD j i0) fun _=>[])[i']?=some x->prs[j]?=some x.2)/\Bt T H H'/\TabOk T j3 j2 H'/\H' D=some (.lst ((js.map fun (j:Nat)=>((j:Nat):Int)).map V.int)))
  ⟨_,[],none,none,none,rfl,hb _ _ (nT hpp0) f1,List.length_replicate,hb _ _ (nT hpt0) ac,AM _,tk0,fun i' _ _ z=>by omega,fun b o h1 h2=>hb b o h1 (s3 b o h2),.inr tab2,hl⟩ ?_ ?_ ?_⟩
 ·rintro i σ H' _ ⟨prs,kvs,o4,o5,o6,rfl,_,_,_,_,_,_,_,_,hD'⟩
  exact SqL.of hD'
 ·rintro i x σ H' hx ⟨prs,kvs,o4,o5,o6,rfl,hpp',hpl',hpt',hkl,⟨t1,t2,t3⟩,hdone,bt,tab',hD'⟩
  rw [AR,AR] at hx
  cases hj:js[i]? with
  | none=>rw [hj] at hx; cases hx
  | some j =>
   rw [hj] at hx
   cases hx
   have hjn:j<ps.length:=B7.mp (hjs.mem_iff.mp (Bh hj))
   have hil:i<ps.length:=by
    have:=(AS.mp hj).1
    have:=hjs.length_eq
    rw [Dc] at this
    omega
   have hz:=AN hjn
   have hm:=BX hjn
   generalize ps[j]=z at hz hm
   have hzT:z.1≠T:=bJ (sl.2 _ hm) hT (by intro y; cases y)
   have hzt:=bt _ _ hzT (sl.2 _ hm)
   have hiv:(ps.map fun (x:Addr×Clip)=>bz spoil x.2).getD j i0=bz spoil z.2:=by rw [AT,AR,hz]; rfl
   have hvi:(js.map fun j=>(ps.map fun (x:Addr×Clip)=>bz spoil x.2).getD j i0)[i]?=some (bz spoil z.2):=by rw [AR,hj]; exact congrArg some hiv
   have hrun:=xT (fun _=>[]) hvi
   have hend:=iC ((js.map fun j=>(ps.map fun (x:Addr×Clip)=>bz spoil x.2).getD j i0).take i) (bz spoil z.2) (fun _=>[])
   rw [<- aZ hvi] at hend
   have hlen:=lq ((js.map fun j=>(ps.map fun (x:Addr×Clip)=>bz spoil x.2).getD j i0).take i) (fun _=>[]) 0 (fun _=>AM _) z.2.reel
   rw [BA] at hlen
   generalize cY ((js.map fun j=>(ps.map fun (x:Addr×Clip)=>bz spoil x.2).getD j i0).take i) (fun _=>[])=fE at t1 t2 t3 hrun hend hlen
   refine ⟨_,rfl,_,rfl,pl,_,_,.ref z.1,rfl,rfl,SqL.of (bt _ _ hpT sl.1),ad (j:=j) (by rw [AR,hz]; rfl),?_⟩
   refine ⟨fun σ1 H1=>∃(l:Addr) (kvs':List (Key×V)),σ1=[some (.ref pl),some (.int spoil),some (.ref pp),some (.ref pt),some (.int ((j:Nat):Int)),some (.ref z.1),some (.ref l)]/\H1 pp=some (.lst (prs.map fun p=>V.int ((p:Nat):Int)))/\H1 pt=some (.dK kvs')/\kvs'.length<=i+1 /\
    zd H H1 pp D kvs' fE/\aN kvs' (.inr z.2.reel)=some (.ref l)/\Bt T H H1/\TabOk T j3 j2 H1/\H1 D=some (.lst ((js.map fun (j:Nat)=>((j:Nat):Int)).map V.int)),?_,?_⟩
   ·refine ⟨_,rfl,pt,rfl,.inl ⟨kvs,Rd.of hpt'⟩,_,rfl,z.1,_,_,.str z.2.reel,rfl,rfl,SqT.of hzt,ad (j:=0) rfl,(by show 0<=sizeLine; decide),fun pe hpe=>?_⟩
    have se:=Same.new hpe (.lst [])
    refine ⟨kvs,.inr z.2.reel,se _ _ hpt',by omega,rfl,fun v hv=>?_,fun hv=>?_⟩
    ·obtain ⟨l,rfl,hl1,hl0,hl2,hl3⟩:=t2 _ _ hv
     refine ⟨l,kvs,rfl,se _ _ hpp',se _ _ hpt',by omega,⟨t1,fun r v h=>?_,t3⟩,hv,fun b o h1 h2=>se _ _ (bt b o h1 h2),tab'.same se,se _ _ hD'⟩
     obtain ⟨l',e,h1,h2⟩:=t2 r v h
     exact ⟨l',e,se _ _ h1,h2⟩
    ·have npe:pt≠pe:=am hpt' hpe
     have hpe0:H pe=none:=by
      cases e:H pe with
      | none=>rfl
      | some o =>
       by_cases hb:pe=T
       ·obtain ⟨qs,hq⟩:=tab'.at
        rw [hb,hq] at hpe; cases hpe
       ·rw [bt _ _ hb e] at hpe; cases hpe
     have np:pp≠pe:=am hpp' hpe
     have nD:D≠pe:=am hD' hpe
     refine ⟨pe,bi kvs (.inr z.2.reel) (.ref pe),rfl,?_,ac,?_,⟨fun r h=>?_,fun r v h=>?_,fun r r' l h h'=>?_⟩,?_,fun b o h1 h2=>?_,?_,?_⟩
     ·rw [aj nppt,aj np]; exact hpp'
     ·have:=bT kvs (.inr z.2.reel) (.ref pe)
      omega
     ·rw [bQ] at h
      split at h
      ·cases h
      ·exact t1 r h
     ·rw [bQ] at h
      split at h
      ·rename_i e
       cases h
       have e:r=z.2.reel:=Co.inj e
       rw [e,t1 _ hv]
       exact ⟨pe,rfl,by rw [aj (Cg npe)]; exact ac,hpe0,Cg np,Cg nD⟩
      ·obtain ⟨l',e,h1,h2⟩:=t2 r v h
       refine ⟨l',e,?_,h2⟩
       rw [aj (bJ h1 hpt' (by intro y; cases y))]
       exact se _ _ h1
     ·rw [bQ] at h h'
      split at h
      ·rename_i e
       split at h'
       ·rename_i e'
        exact Co.inj (e.trans e'.symm)
       ·obtain ⟨l',e2,h1,_⟩:=t2 r' _ h'
        cases h
        cases e2
        rw [hpe] at h1; cases h1
      ·split at h'
       ·obtain ⟨l',e2,h1,_⟩:=t2 r _ h
        cases h'
        cases e2
        rw [hpe] at h1; cases h1
       ·exact t3 r r' l h h'
     ·rw [bQ,if_pos rfl]
     ·rw [aj (am h2 hpt0)]
      exact se _ _ (bt b o h1 h2)
     ·exact (tab'.same se).write (se _ _ hpt') (fun _ y=>by cases y) fun _ _ y=>by cases y
     ·rw [aj (Cg nptD)]
      exact se _ _ hD'
   ·rintro σ1 H1 ⟨l,kvs',rfl,hpp1,hpt1,hkl1,⟨u1,u2,u3⟩,hv1,bt1,tab1,hD1⟩
    obtain ⟨l',e,hl1,hl0,hl2,hl3⟩:=u2 _ _ hv1
    cases e
    have hz1:=bt1 _ _ hzT (sl.2 _ hm)
    have nlpp:=hl2
    refine ⟨_,rfl,_,rfl,z.1,z.2,rfl,hz1,l,fE z.2.reel,_,rfl,hl1,by omega,fun H3 s3'=>?_⟩
    have hpp3:=s3' _ _ hpp1
    refine ⟨_,rfl,_,rfl,pp,_,_,j,rfl,rfl,hpp3,by rw [AH,hpl']; exact j5 hjn,?_⟩
    have hl3':=s3' _ _ hl1
    have hz3:=s3' _ _ hz1
    have nzp:z.1≠pp:=bJ hz3 hpp3 (by intro y; cases y)
    have npr:((prs.map fun p=>V.int ((p:Nat):Int)).set j (.int ((ff (fE z.2.reel) (d5 z.2):Nat):Int)))=(prs.set j (ff (fE z.2.reel) (d5 z.2))).map fun p=>V.int ((p:Nat):Int):=by rw [List.map_set]
    rw [npr]
    have hpl2:(prs.set j (ff (fE z.2.reel) (d5 z.2))).length=ps.length:=by rw [Fb]; exact hpl'
    have hat:(prs.set j (ff (fE z.2.reel) (d5 z.2)))[j]?=some (ff (fE z.2.reel) (d5 z.2)):=by rw [DO (by rw [hpl']; exact hjn)]
    refine ⟨_,rfl,_,rfl,_,rfl,pp,_,_,.int ((ff (fE z.2.reel) (d5 z.2):Nat):Int),rfl,rfl,SqL.of ac,ad (j:=j) (by rw [AR,hat]; rfl),_,rfl,z.1,z.2,rfl,by rw [aj nzp]; exact hz3,_,rfl,_,_,rfl,rfl,
     l,fE z.2.reel,ff (fE z.2.reel) (d5 z.2),_,rfl,by rw [aj nlpp]; exact hl3',li _ _,by omega,?_⟩
    have up:∀b,b≠l->b≠pp->upd (upd H3 pp (.lst ((prs.set j (ff (fE z.2.reel) (d5 z.2))).map fun p=>V.int ((p:Nat):Int)))) l (.lst ((d4 (fE z.2.reel) (ff (fE z.2.reel) (d5 z.2)) (z5 z.2+spoil)).map V.int)) b=H3 b:=fun b h1 h2=>by rw [aj h1,aj h2]
    refine ⟨prs.set j (ff (fE z.2.reel) (d5 z.2)),kvs',_,_,_,rfl,by rw [aj (Cg nlpp)]; exact ac,hpl2,?_,hkl1,⟨fun r h=>?_,fun r v h=>?_,u3⟩,?_,fun b o h1 h2=>?_,?_,?_⟩
    ·rw [up _ (bJ hpt1 hl1 (by intro y; cases y)) (bJ hpt1 hpp1 (by intro y; cases y))]
     exact s3' _ _ hpt1
    ·rw [hend]
     show (if r=z.2.reel then _ else fE r)=_
     rw [if_neg (fun e=>by rw [e,hv1] at h; cases h)]
     exact u1 r h
    ·obtain ⟨l',e,h1,h2,h3,h4⟩:=u2 r v h
     refine ⟨l',e,?_,h2,h3,h4⟩
     rw [hend]
     show _=some (HO.lst ((if r=z.2.reel then _ else fE r).map V.int))
     by_cases er:r=z.2.reel
     ·rw [if_pos er]
      rw [er,hv1] at h
      have e:=(Ba h).trans e
      cases e
      exact ac
     ·rw [if_neg er,up l' (fun y=>er (u3 r z.2.reel l (by rw [h,e,y]) hv1)) h3]
      exact s3' _ _ h1
    ·intro i' j' x' hi' hj' hx'
     rcases Nat.lt_or_ge i' i with hlt | hge
     ·have h5:=hdone i' j' x' hlt hj' hx'
      have nj:j≠j':=fun e=>by
       have nd:js.Nodup:=hjs.nodup_iff.mpr EV
       exact gK nd hlt hj' hj e.symm
      rw [D3 nj]
      exact h5
     ·have e:i'=i:=by omega
      subst e
      rw [hj] at hj'
      cases hj'
      rw [hrun] at hx'
      cases hx'
      exact hat
    ·rw [up b (am h2 hl0) (am h2 hpp0)]
     exact s3' _ _ (bt1 b o h1 h2)
    ·have w1:=(tab1.same s3').write (o:=.lst ((prs.set j (ff (fE z.2.reel) (d5 z.2))).map fun p=>V.int ((p:Nat):Int))) hpp3 (fun _ y=>by cases y) fun _ _ y=>by cases y
     exact w1.write (by rw [aj nlpp]; exact hl3') (fun _ y=>by cases y) fun _ _ y=>by cases y
    ·rw [up D (Cg hl3) (Cg nppD)]
     exact s3' _ _ hD1
 ·rintro σ H' ⟨prs,kvs,o4,o5,o6,rfl,hpp',hpl',hpt',hkl,tk,hdone,bt,tab',hD'⟩
  refine ⟨_,rfl,q pp prs H' hpp0 bt tab' hpp' ?_⟩
  refine vp (js:=js) (by rw [hpl',AH]) (fun v hv=>?_) (by rw [AH]; exact hjs) i0 ?_ (fun i j x h1 h2=>hdone i j x ?_ h1 h2)
  ·obtain ⟨x,_,rfl⟩:=Be.mp hv
   unfold bz
   show (if x.2.b<x.2.a then x.2.b else x.2.a)<=(if x.2.a<x.2.b then x.2.b else x.2.a)+spoil
   split <;> split <;> omega
  ·rw [CY] at ho
   refine ho.imp_of_mem fun {a b} ha hb h=>?_
   have ka:=B7.mp (hjs.mem_iff.mp ha)
   have kb:=B7.mp (hjs.mem_iff.mp hb)
   have h':d5 ((ps.map (·.2)).getD a d0)<=d5 ((ps.map (·.2)).getD b d0):=h
   have eq:∀k,k<ps.length->((ps.map fun (x:Addr×Clip)=>bz spoil x.2).getD k i0).lo=d5 ((ps.map (·.2)).getD k d0):=fun k hk=>by
    rw [AT,AT,AR,AR,AN hk]
    rfl
   rw [eq a ka,eq b kb]
   exact h'
  ·rw [AH,AH]
   exact (AS.mp h1).1
end
end K56
namespace L2
open PySem PySem.Spec PyProof.Rows
section
variable {X:Cx}{pins:List (Addr×Obj)}{σ:St}{H:Hp}{s:AL}
theorem lS {A:Bk}{E:Value->AL->Prop}{a:Addr}{vs:List Value}{n:Nat}{P:PySem.Fin->AL->Prop}(I:Inv X pins σ H s) (fa:cH X pins H a) (xa:X.s₀.heap.get? a=none) (ha:s.heap.get? a=some (Bv "list" vs.toArray n)) (h2:vs.length<2)
  (h:∀h' c,Inv X pins σ H { s with heap:=h' }->h'.get? a=some (Bv "list" vs.toArray c)->P (.done (.ret .none)) { s with heap:=h' }) :
  A6 (Bf X.prog X.w) A (Builtin.«list.sort» ⟨[.ref a],[]⟩) P E s:=by
 rw [list_sort_plain]
 have s1:=By.update s.heap a (BF fun _=>(#[]:Array Value))
 obtain ⟨e1,ho1⟩:∃e1,(s.heap.update a (BF fun _=>(#[]:Array Value))).get? a=some (Bv "list" #[] e1):=⟨_,Dr ha fun _=>#[]⟩
 have I3:=I.but s1 fa xa
 have I4:=I3.kept (t':=s.toks) fun b o e=>AJ (Bv "tuple" vs.toArray 0) e
 have I5:=I4.kept (t':=s.toks) fun b o e=>AJ (Bv "list" #[] 0) e
 have na:(((s.heap.update a (BF fun _=>(#[]:Array Value))).push (Bv "tuple" vs.toArray 0)).push (Bv "list" #[] 0)).get? a=some (Bv "list" #[] e1):=AJ _ (AJ _ ho1)
 refine AI (listItems_at ha rfl ?_)
 refine AI (DE ha rfl ?_ (by rw [AU,A9]; omega) (Bo _))
 refine AI (E6 ho1 rfl ?_)
 refine AI (wpAny_newTuple ?_ (by show vs.length<=_; rw [A9]; omega))
 refine AI (E3 ?_ (Bo _))
 refine Cd ?_
 have hn2:vs.toArray.size<2:=by rw [AU]; exact h2
 dsimp only
 rw [if_pos hn2,if_pos hn2]
 refine AI (AV ?_)
 rw [StateT.run_pure]
 refine AI (AV ?_)
 dsimp only
 have hout:(EN (Fl general' (vs.toArray.zip vs.toArray) #[] 7 none)).map (·.2)=vs.toArray:=by
  show (vs.toArray.zip vs.toArray).map (·.2)=vs.toArray
  apply Array.toList_inj.mp
  rw [Array.toList_map,Array.toList_zip]
  exact List.map_snd_zip (AM _)
 rw [hout]
 have s6:=By.update (((s.heap.update a (BF fun _=>(#[]:Array Value))).push (Bv "tuple" vs.toArray 0)).push (Bv "list" #[] 0)) a (BF fun _=>vs.toArray)
 obtain ⟨c2,hc2⟩:∃c2,((((s.heap.update a (BF fun _=>(#[]:Array Value))).push (Bv "tuple" vs.toArray 0)).push (Bv "list" #[] 0)).update a (BF fun _=>vs.toArray)).get? a=some (Bv "list" vs.toArray c2):=⟨_,Dr na fun _=>vs.toArray⟩
 refine AI (E6 na rfl ?_)
 refine AI (DE na rfl ?_ (Bo _) (by rw [AU,A9]; omega))
 simp only [bne_self_eq_false,DR,if_false]
 have I6:=I5.but s6 fa xa
 exact AV (h _ c2 I6 hc2)
end
section
variable {X:Cx}
end
end L2
namespace KS
open PySem PySem.W PyProof.Rows
def AllK {α:Type}(N:Nat) (P:α->Prop):KasT α->Prop
 | .ret a=>P a
 | .ask i j k=>i<N/\j<N/\∀b,AllK N P (k b)
theorem AllK.bind {α β:Type}{N:Nat}{P:α->Prop}{R:β->Prop}{f:α->KasT β}:∀{t:KasT α},AllK N P t->(∀a,P a->AllK N R (f a))->AllK N R (t.bind f)
 | .ret a,h,hf=>hf a h
 | .ask i j k,h,hf=>⟨h.1,h.2.1,fun b=>AllK.bind (h.2.2 b) hf⟩
def Pm (N:Nat) (p:Array Nat):Prop:=p.Perm (BP N).toArray
theorem Pm.lt {N:Nat}{p:Array Nat}(h:Pm N p) (hN:0<N) (x:Nat):p.getD x 0<N:=by
 rw [CU]
 cases e:p[x]? with
 | none=>exact hN
 | some v =>
  have hv:v∈p:=Array.mem_of_getElem? e
  have:v∈(BP N).toArray:=h.mem_iff.mp hv
  simpa using this
theorem Pm.rev {N:Nat}{p:Array Nat}(h:Pm N p) (i j:Nat):Pm N (Fg p i j):=(mirror_perm p i j _).trans h
theorem Pm.bub {N:Nat}{p:Array Nat}(h:Pm N p) (k d:Nat):Pm N (bubble p k d):=(bubble_perm p k d).trans h
theorem km {N:Nat}(hN:0<N) {p:Array Nat}(h:Pm N p):∀(f n:Nat),AllK N (fun _=>True) (kas_asc p f n)
 | 0,_=>trivial
 | f+1,n=>⟨h.lt hN _,h.lt hN _,fun b=>by
  dsimp only
  split
  ·trivial
  ·exact km hN h f (n+1)⟩
theorem fU {N:Nat}(hN:0<N):∀(f:Nat) {p:Array Nat}(n q:Nat),Pm N p->AllK N (fun r=>Pm N r.1) (kas_desc f p n q)
 | 0,_,_,_,h=>h
 | f+1,p,n,q,h=>⟨h.lt hN _,h.lt hN _,fun b=>by
  dsimp only
  split
  ·split
   ·exact fU hN f _ _ (h.rev _ _)
   ·exact fU hN f _ _ h
  ·refine ⟨h.lt hN _,h.lt hN _,fun d=>?_⟩
   dsimp only
   split
   ·exact h
   ·exact fU hN f _ _ h⟩
theorem jB {N:Nat}(hN:0<N) {p:Array Nat}(h:Pm N p) (n nrem:Nat):AllK N (fun r=>Pm N r.2) (kas_tail3 n nrem p) :=
 AllK.bind (km hN (h.rev 0 n) _ _) fun _ _=>h.rev 0 n
theorem fT {N:Nat}(hN:0<N) {p:Array Nat}(h:Pm N p) (n nrem:Nat):AllK N (fun r=>Pm N r.2) (kas_descPart n nrem p) :=
 AllK.bind (fU hN _ _ _ h) fun r hr=>by
  split
  ·exact jB hN (hr.rev _ _) _ _
  ·exact jB hN hr _ _
theorem qz {N:Nat}(hN:0<N) {p:Array Nat}(h:Pm N p) (nrem:Nat):AllK N (fun r=>Pm N r.2) (kas_count nrem p) :=
 AllK.bind (km hN h _ _) fun n _=>by
  split
  ·exact h
  ·split
   ·refine ⟨h.lt hN _,h.lt hN _,fun c=>?_⟩
    dsimp only
    split
    ·exact h
    ·exact fT hN (h.rev _ _) _ _
   ·exact fT hN h _ _
theorem gf {N:Nat}(hN:0<N) {p:Array Nat}(h:Pm N p) (k:Nat):∀(f l r:Nat),AllK N (fun _=>True) (kas_place p k f l r)
 | 0,_,_=>trivial
 | f+1,l,r=>by
  show AllK N _ (if l ≥ r then _ else _)
  split
  ·trivial
  ·refine ⟨h.lt hN _,h.lt hN _,fun c=>?_⟩
   dsimp only
   split
   ·exact gf hN h k f _ _
   ·exact gf hN h k f _ _
theorem oY {N:Nat}(hN:0<N):∀(f:Nat) {p:Array Nat}(k:Nat),Pm N p->AllK N (Pm N) (kas_bin f p k)
 | 0,_,_,h=>h
 | f+1,p,k,h=>AllK.bind (gf hN h k _ _ _) fun l _=>oY hN f (k+1) (h.bub _ _)
theorem uG {N:Nat}(hN:0<N):AllK N (Pm N) (kas_sort N) :=
 AllK.bind (qz hN (Array.Perm.refl _) _) fun r hr=>by
  split
  ·exact oY hN _ _ hr
  ·exact hr
section
variable (r:Nat->Int)
def ky (p:Array Nat) (x:Nat):Int:=r (p.getD x 0)
def lr (i j:Nat):Bool:=decide (r i<r j)
def AllE {α:Type}(P:α->Prop):KasT α->Prop
 | .ret a=>P a
 | .ask i j k=>AllE P (k (lr r i j))
variable {r}
theorem AllE.bind {α β:Type}{P:α->Prop}{R:β->Prop}{f:α->KasT β}:∀{t:KasT α},AllE r P t->(∀a,P a->AllE r R (f a))->AllE r R (t.bind f)
 | .ret a,h,hf=>hf a h
 | .ask i j k,h,hf=>AllE.bind (t:=k (lr r i j)) h hf
theorem my {p:Array Nat}{i j:Nat}(hj:j<=p.size) (x:Nat):ky r (Fg p i j) x=if i<=x/\x<j then ky r p (i+j-1-x) else ky r p x:=by
 unfold ky Fg
 rw [CU,getElem?_mirror_all (i:=i) hj x]
 split <;> rw [CU]
theorem tJ {p:Array Nat}{s d:Nat}(hs:s<p.size) (hd:d<=s) (x:Nat):ky r (bubble p s d) x=if x=s-d then ky r p s else if s-d<x/\x<=s then ky r p (x-1) else ky r p x:=by
 unfold ky
 rw [CU,getElem?_bubble hs d hd x]
 have g:∀y,(p[y]?).getD 0=p.getD y 0:=fun y=>(CU ..).symm
 by_cases h1:x=s-d
 ·rw [if_pos h1,if_pos h1,g]
 ·rw [if_neg h1,if_neg h1]
  by_cases h2:s-d<x/\x<=s
  ·rw [if_pos h2,if_pos h2,g]
  ·rw [if_neg h2,if_neg h2,g]
variable (r)
def Up (p:Array Nat) (m:Nat):Prop:=∀x y,x<=y->y<m->ky r p x<=ky r p y
def Dn (p:Array Nat) (m:Nat):Prop:=∀x y,x<=y->y<m->ky r p y<=ky r p x
variable {r}
theorem Up.ext {p:Array Nat}{n:Nat}(h:Up r p n) (h1:1<=n) (hk:ky r p (n-1)<=ky r p n):Up r p (n+1):=fun x y hxy hy=>by
 by_cases e:y=n
 ·subst e
  by_cases e2:x=y
  ·subst e2; exact BH _
  ·exact Int.le_trans (h x (y-1) (by omega) (by omega)) hk
 ·exact h x y hxy (by omega)
theorem Dn.ext {p:Array Nat}{n:Nat}(h:Dn r p n) (h1:1<=n) (hk:ky r p n<=ky r p (n-1)):Dn r p (n+1):=fun x y hxy hy=>by
 by_cases e:y=n
 ·subst e
  by_cases e2:x=y
  ·subst e2; exact BH _
  ·exact Int.le_trans hk (h x (y-1) (by omega) (by omega))
 ·exact h x y hxy (by omega)
theorem ik (p:Array Nat) (x y:Nat):lr r (p.getD x 0) (p.getD y 0)=decide (ky r p x<ky r p y):=rfl
theorem ui {p:Array Nat}:∀(f n:Nat),1<=n->Up r p n->AllE r (fun m=>n<=m/\m<=n+f/\Up r p m/\(m=n+f\/ky r p m<ky r p (m-1))) (kas_asc p f n)
 | 0,n,_,h=>⟨AM _,AM _,h,.inl rfl⟩
 | f+1,n,h1,h=>by
  show AllE r _ (if lr r (p.getD n 0) (p.getD (n-1) 0)=true then _ else _)
  rw [ik]
  by_cases c:ky r p n<ky r p (n-1)
  ·rw [if_pos (decide_eq_true c)]
   exact ⟨AM _,by omega,h,.inr c⟩
  ·rw [if_neg (by rw [decide_eq_false c]; decide)]
   have ih:=ui f (n+1) (by omega) (h.ext h1 (by omega))
   have mono:∀{t:KasT Nat}{P Q:Nat->Prop},(∀a,P a->Q a)->AllE r P t->AllE r Q t:=fun {t P Q} hpq ht=>by
    induction t with
    | ret a=>exact hpq a ht
    | ask i j k ih=>exact ih _ ht
   exact mono (fun m ⟨a,b,c,d⟩=>⟨by omega,by omega,c,d.imp (fun e=>by omega) id⟩) ih
theorem AllE.mono {α:Type}{P Q:α->Prop}(hpq:∀a,P a->Q a):∀{t:KasT α},AllE r P t->AllE r Q t
 | .ret a,h=>hpq a h
 | .ask i j k,h=>AllE.mono (t:=k (lr r i j)) hpq h
theorem j4 {p:Array Nat}{i j:Nat}(hj:j<=p.size) (he:∀x,i<=x->x<j->ky r p x=ky r p (j-1)) (x:Nat):ky r (Fg p i j) x=ky r p x:=by
 rw [my hj]
 split
 ·rename_i h
  rw [he _ (by omega) (by omega),he x h.1 h.2]
 ·rfl
theorem kh (N:Nat):∀(f:Nat) {p:Array Nat}(n q:Nat),p.size=N->1<=n->n+f<=N->q+1<=n->Dn r p n->(∀x,n-(q+1)<=x->x<n->ky r p x=ky r p (n-1)) ->
  AllE r (fun t=>t.1.size=N/\n<=t.2.1/\t.2.1<=n+f/\t.2.2+1<=t.2.1/\Dn r t.1 t.2.1/\∀x,t.2.1-(t.2.2+1)<=x->x<t.2.1->ky r t.1 x=ky r t.1 (t.2.1-1)) (kas_desc f p n q)
 | 0,p,n,q,hs,h1,hf,hq,hd,he=>⟨hs,AM _,AM _,hq,hd,he⟩
 | f+1,p,n,q,hs,h1,hf,hq,hd,he=>by
  show AllE r _ (if lr r (p.getD n 0) (p.getD (n-1) 0)=true then _ else _)
  rw [ik]
  by_cases c:ky r p n<ky r p (n-1)
  ·rw [if_pos (decide_eq_true c)]
   by_cases hq0:q > 0
   ·rw [if_pos hq0]
    have same:=j4 (r:=r) (p:=p) (i:=n-(q+1)) (j:=n) (by omega) he
    refine AllE.mono ?_ (kh N f (p:=Fg p (n-(q+1)) n) (n+1) 0 (by unfold Fg; rw [mirror_size]; exact hs) (by omega) (by omega) (by omega) (fun x y hxy hy=>?_) fun x h2 h3=>?_)
    ·exact fun t ⟨a,b,c,d⟩=>⟨a,by omega,by omega,d⟩
    ·rw [same,same]
     exact hd.ext h1 (by omega) x y hxy hy
    ·have:x=n+1-1:=by omega
     rw [this]
   ·rw [if_neg hq0]
    refine AllE.mono ?_ (kh N f (n+1) 0 hs (by omega) (by omega) (by omega) (hd.ext h1 (by omega)) fun x h2 h3=>?_)
    ·exact fun t ⟨a,b,c,d⟩=>⟨a,by omega,by omega,d⟩
    ·have:x=n+1-1:=by omega
     rw [this]
  ·rw [if_neg (by rw [decide_eq_false c]; decide)]
   show AllE r _ (if lr r (p.getD (n-1) 0) (p.getD n 0)=true then _ else _)
   rw [ik]
   by_cases c2:ky r p (n-1)<ky r p n
   ·rw [if_pos (decide_eq_true c2)]
    exact ⟨hs,AM _,(by show n<=n+(f+1); omega),hq,hd,he⟩
   ·rw [if_neg (by rw [decide_eq_false c2]; decide)]
    have e0:ky r p n=ky r p (n-1):=by omega
    refine AllE.mono ?_ (kh N f (n+1) (q+1) hs (by omega) (by omega) (by omega) (hd.ext h1 (by omega)) fun x h2 h3=>?_)
    ·exact fun t ⟨a,b,c,d⟩=>⟨a,by omega,by omega,d⟩
    ·show ky r p x=ky r p n
     by_cases ex:x=n
     ·rw [ex]
     ·rw [he x (by omega) (by omega),e0]
theorem oG (N:Nat) {p:Array Nat}(n nrem:Nat) (hs:p.size=N) (h1:1<=n) (hn:n<=nrem) (hr:nrem<=N) (hd:Dn r p n):AllE r (fun t=>t.2.size=N/\1<=t.1/\t.1<=nrem/\Up r t.2 t.1) (kas_tail3 n nrem p):=by
 have hu:Up r (Fg p 0 n) n:=fun x y hxy hy=>by
  rw [my (by omega),my (by omega),if_pos (by omega),if_pos (by omega)]
  exact hd _ _ (by omega) (by omega)
 exact AllE.bind (ui _ _ h1 hu) fun m ⟨a,b,c,_⟩=>⟨by unfold Fg; rw [mirror_size]; exact hs,by omega,by omega,c⟩
theorem iE (N:Nat) {p:Array Nat}(n nrem:Nat) (hs:p.size=N) (h1:1<=n) (hn:n+1<=nrem) (hr:nrem<=N) (hd:Dn r p (n+1)):AllE r (fun t=>t.2.size=N/\1<=t.1/\t.1<=nrem/\Up r t.2 t.1) (kas_descPart n nrem p):=by
 have e0:∀x,n+1-(0+1)<=x->x<n+1->ky r p x=ky r p (n+1-1):=fun x h2 h3=>by
  have:x=n+1-1:=by omega
  rw [this]
 refine AllE.bind (kh N (nrem-(n+1)) (n+1) 0 hs (by omega) (by omega) (by omega) hd e0) fun t ⟨a,b,c,d,e,g⟩=>?_
 split
 ·have same:=j4 (r:=r) (p:=t.1) (i:=t.2.1-(t.2.2+1)) (j:=t.2.1) (by omega) g
  refine oG N _ _ (by unfold Fg; rw [mirror_size]; exact a) (by omega) (by omega) hr fun x y hxy hy=>?_
  rw [same,same]
  exact e x y hxy hy
 ·exact oG N _ _ a (by omega) (by omega) hr e
theorem wB (N:Nat) {p:Array Nat}(hs:p.size=N) (h1:1<=N):AllE r (fun t=>t.2.size=N/\1<=t.1/\t.1<=N/\Up r t.2 t.1) (kas_count N p):=by
 have hu:Up r p 1:=fun x y hxy hy=>by
  have:x=y:=by omega
  rw [this]; exact BH _
 refine AllE.bind (ui (N-1) 1 (by omega) hu) fun n ⟨a,b,c,d⟩=>?_
 by_cases en:n=N
 ·rw [if_pos (by simp [en])]
  exact ⟨hs,a,by omega,c⟩
 ·rw [if_neg (by simpa using en)]
  have d1:ky r p n<ky r p (n-1):=by
   rcases d with d | d
   ·omega
   ·exact d
  by_cases h2:n > 1
  ·rw [if_pos h2]
   show AllE r _ (if lr r (p.getD 0 0) (p.getD (n-1) 0)=true then _ else _)
   rw [ik]
   by_cases c2:ky r p 0<ky r p (n-1)
   ·rw [if_pos (decide_eq_true c2)]
    exact ⟨hs,a,by omega,c⟩
   ·rw [if_neg (by rw [decide_eq_false c2]; decide)]
    have eqs:∀x,x<n->ky r p x=ky r p (n-1):=fun x hx=>by
     have:=c 0 x (by omega) hx
     have:=c x (n-1) (by omega) (by omega)
     omega
    have same:=j4 (r:=r) (p:=p) (i:=0) (j:=n) (by omega) fun x _ hx=>eqs x hx
    refine iE N n N (by unfold Fg; rw [mirror_size]; exact hs) (by omega) (by omega) (AM _) fun x y hxy hy=>?_
    rw [same,same]
    have hdn:Dn r p n:=fun x y hxy hy=>by rw [eqs x (by omega),eqs y hy]; exact BH _
    exact hdn.ext (by omega) (by omega) x y hxy hy
  ·rw [if_neg h2]
   have e1:n=1:=by omega
   subst e1
   refine iE N 1 N hs (by omega) (by omega) (AM _) fun x y hxy hy=>?_
   have hdn:Dn r p 1:=fun x y hxy hy=>by
    have:x=y:=by omega
    rw [this]; exact BH _
   exact hdn.ext (by omega) (by omega) x y hxy hy
theorem kf {p:Array Nat}(k:Nat) (hu:Up r p k):∀(f l t:Nat),l<=t->t<=k->t-l<=f->(∀x,x<l->ky r p x<=ky r p k)->(∀x,t<=x->x<k->ky r p k<ky r p x) ->
  AllE r (fun m=>m<=k/\(∀x,x<m->ky r p x<=ky r p k)/\∀x,m<=x->x<k->ky r p k<ky r p x) (kas_place p k f l t)
 | 0,l,t,h1,h2,h3,ha,hb=>⟨by omega,ha,fun x hx=>hb x (by omega)⟩
 | f+1,l,t,h1,h2,h3,ha,hb=>by
  show AllE r _ (if l ≥ t then _ else _)
  by_cases hlt:l ≥ t
  ·rw [if_pos hlt]
   exact ⟨by omega,ha,fun x hx=>hb x (by omega)⟩
  ·rw [if_neg hlt]
   show AllE r _ (if lr r (p.getD k 0) (p.getD ((l+t) / 2) 0)=true then _ else _)
   rw [ik]
   by_cases c:ky r p k<ky r p ((l+t) / 2)
   ·rw [if_pos (decide_eq_true c)]
    exact kf k hu f l ((l+t) / 2) (by omega) (by omega) (by omega) ha fun x hx hk=>Int.lt_of_lt_of_le c (hu _ _ hx hk)
   ·rw [if_neg (by rw [decide_eq_false c]; decide)]
    exact kf k hu f ((l+t) / 2+1) t (by omega) (by omega) (by omega) (fun x hx=>Int.le_trans (hu x ((l+t) / 2) (by omega) (by omega)) (by omega)) hb
theorem xy (N:Nat):∀(f:Nat) {p:Array Nat}(k:Nat),p.size=N->k+f=N->Up r p k->AllE r (fun t=>Up r t N) (kas_bin f p k)
 | 0,p,k,hs,hk,hu=>by
  have:k=N:=by omega
  rw [<- this]; exact hu
 | f+1,p,k,hs,hk,hu=>by
  refine AllE.bind (kf k hu k 0 k (by omega) (by omega) (by omega) (fun x hx=>by omega) fun x h1 h2=>by omega) fun l ⟨a,b,c⟩=>?_
  refine xy N f (k+1) (by rw [bubble_size]; exact hs) (by omega) fun x y hxy hy=>?_
  have hks:k<p.size:=by omega
  rw [tJ hks (by omega),tJ hks (by omega),show k-(k-l)=l by omega]
  by_cases hx:x=l
  ·rw [if_pos hx]
   by_cases hy2:y=l
   ·rw [if_pos hy2]; exact BH _
   ·rw [if_neg hy2,if_pos (by omega)]
    exact Int.le_of_lt (c (y-1) (by omega) (by omega))
  ·rw [if_neg hx]
   by_cases hx2:l<x/\x<=k
   ·rw [if_pos hx2,if_neg (by omega),if_pos (by omega)]
    exact hu _ _ (by omega) (by omega)
   ·rw [if_neg hx2]
    by_cases hy2:y=l
    ·rw [if_pos hy2]
     exact b x (by omega)
    ·rw [if_neg hy2]
     by_cases hy3:l<y/\y<=k
     ·rw [if_pos hy3]
      exact hu _ _ (by omega) (by omega)
     ·rw [if_neg hy3]
      exact hu _ _ hxy (by omega)
theorem yZ (N:Nat) (h1:1<=N):AllE r (fun t=>Up r t N) (kas_sort N):=by
 refine AllE.bind (wB N (by simp) h1) fun t ⟨a,b,c,d⟩=>?_
 split
 ·have e:max t.1 1=t.1:=by omega
  rw [e]
  exact xy N _ _ a (by omega) d
 ·have:t.1=N:=by omega
  rw [this] at d
  exact d
theorem k9 {α:Type}{P R:α->Prop}{N:Nat}{cmp:Nat->Nat->(Bool->AL->Prop)->AL->Prop}{I:AL->Prop}(hc:∀i j C s,i<N->j<N->I s->(∀s',I s'->C (lr r i j) s')->cmp i j C s) :
  ∀(t:KasT α) (Q:α->AL->Prop) (s:AL),AllK N P t->AllE r R t->I s->(∀a s',P a->R a->I s'->Q a s')->t.kasWp cmp Q s
 | .ret a,Q,s,h,h',hI,hq=>hq a s h h' hI
 | .ask i j k,Q,s,h,h',hI,hq=>hc i j _ s h.1 h.2.1 hI fun s' hI'=>k9 hc (k (lr r i j)) Q s' (h.2.2 _) h' hI' hq
def jS {β:Type}(lt:β->β->Bool) (xs:List β) (d:β) (i:Nat):Int:=(((xs.filter fun y=>lt y (xs.getD i d)).length:Nat):Int)
theorem vb {β:Type}{lt:β->β->Bool}(irr:∀x,lt x x=false) (tr:∀x y z,lt x y=true->lt y z=true->lt x z=true) (tot:∀x y z,lt x z=true->lt x y=true\/lt y z=true) {xs:List β}{d:β}{i j:Nat}(hi:i<xs.length) (hj:j<xs.length) :
  lr (jS lt xs d) i j=lt (xs.getD i d) (xs.getD j d):=by
 have gi:xs.getD i d=xs[i]:=by rw [AT,AN hi]; rfl
 have key:∀a b:β,lt b a=false->∀l:List β,(l.filter fun y=>lt y b).length ≥ (l.filter fun y=>lt y a).length:=by
  intro a b hab l
  induction l with
  | nil=>exact AM _
  | cons y l ih =>
   rw [B8,B8]
   by_cases h:lt y a=true
   ·have h2:lt y b=true:=by
     rcases tot y b a h with h | h
     ·exact h
     ·rw [hab] at h; cases h
    rw [if_pos h,if_pos h2,AZ,AZ]
    omega
   ·rw [if_neg h]
    split
    ·rw [AZ]; omega
    ·exact ih
 have strict:∀a b:β,lt a b=true->∀l:List β,a∈l->(l.filter fun y=>lt y a).length<(l.filter fun y=>lt y b).length:=by
  intro a b hab l
  have hba:lt b a=false:=by
   cases h:lt b a with
   | false=>rfl
   | true =>
    have:=tr a b a hab h
    rw [irr] at this
    cases this
  induction l with
  | nil=>intro h; cases h
  | cons y l ih =>
   intro hm
   rw [B8,B8]
   rcases AX.mp hm with rfl | hm
   ·rw [if_neg (by rw [irr]; decide),if_pos hab,AZ]
    have:=key a b hba l
    omega
   ·have ih:=ih hm
    by_cases h:lt y a=true
    ·rw [if_pos h,if_pos (tr y a b h hab),AZ,AZ]
     omega
    ·rw [if_neg h]
     split
     ·rw [AZ]; omega
     ·exact ih
 unfold lr jS
 cases h:lt (xs.getD i d) (xs.getD j d) with
 | true =>
  have:=strict _ _ h xs (by rw [gi]; exact BX hi)
  exact decide_eq_true (by omega)
 | false =>
  have:=key (xs.getD j d) (xs.getD i d) h xs
  exact decide_eq_false (by omega)
end
end KS
namespace L2
open PySem PySem.Spec PyProof.Rows PySem.W KS
section
variable {X:Cx}{pins:List (Addr×Obj)}{σ:St}{H:Hp}{s:AL}
theorem pD {A:Bk}{E:Value->AL->Prop}{a:Addr}{vs:List Value}{n:Nat}{P:PySem.Fin->AL->Prop}{κ:SortKind}{r:Nat->Int}(I:Inv X pins σ H s) (fa:cH X pins H a) (xa:X.s₀.heap.get? a=none) (ha:s.heap.get? a=some (Bv "list" vs.toArray n)) (h2:2<=vs.length) (h64:vs.length<64)
  (kind:∀(s':AL) (Q:SortKind->AL->Prop),Inv X pins σ H s'->Q κ s'->A6 (Bf X.prog X.w) A (keyKind' vs.toArray) Q E s')
  (cmp:∀(i j:Nat) (s':AL) (pins':List (Addr×Obj)),i<vs.length->j<vs.length->Inv X pins' σ H s'->A6 (Bf X.prog X.w) A (keyLt' κ (vs.getD i .none) (vs.getD j .none)) (fun b s''=>b=lr r i j/\Inv X pins' σ H s'') (fun _ _=>False) s')
  (h:∀(s':AL) (p:Array Nat) (c:Nat),Inv X pins σ H s'->s'.heap.get? a=some (Bv "list" (p.toList.map fun i=>vs.getD i .none).toArray c)->Pm vs.length p->Up r p vs.length->P (.done (.ret .none)) s') :
  A6 (Bf X.prog X.w) A (Builtin.«list.sort» ⟨[.ref a],[]⟩) P E s:=by
 rw [list_sort_plain]
 have s1:=By.update s.heap a (BF fun _=>(#[]:Array Value))
 obtain ⟨e1,ho1⟩:∃e1,(s.heap.update a (BF fun _=>(#[]:Array Value))).get? a=some (Bv "list" #[] e1):=⟨_,Dr ha fun _=>#[]⟩
 have I3:=I.but s1 fa xa
 have I4:=I3.kept (t':=s.toks) fun b o e=>AJ (Bv "tuple" vs.toArray 0) e
 have I5:=I4.kept (t':=s.toks) fun b o e=>AJ (Bv "list" #[] 0) e
 have na:(((s.heap.update a (BF fun _=>(#[]:Array Value))).push (Bv "tuple" vs.toArray 0)).push (Bv "list" #[] 0)).get? a=some (Bv "list" #[] e1):=AJ _ (AJ _ ho1)
 refine AI (listItems_at ha rfl ?_)
 refine AI (DE ha rfl ?_ (by rw [AU,A9]; omega) (Bo _))
 refine AI (E6 ho1 rfl ?_)
 refine AI (wpAny_newTuple ?_ (by show vs.length<=_; rw [A9]; omega))
 refine AI (E3 ?_ (Bo _))
 refine Cd ?_
 have hn2:¬ vs.toArray.size<2:=by rw [AU]; omega
 dsimp only
 rw [if_neg hn2,if_neg hn2]
 refine AI (kind _ _ I5 ?_)
 have est:Fl κ (vs.toArray.zip vs.toArray) #[] 7 none=kas_st κ (pairsOf vs) (DS (BP vs.length)):=by
  have e:=kas_range (pairsOf vs)
  rw [pairsOf_size] at e
  show Fl κ (pairsOf vs) #[] 7 none=Fl κ ((DS (BP vs.length)).map (kas_item (pairsOf vs))) #[] 7 none
  rw [e]
 have I6:=I5.add fa na fun v z=>by cases z
 have ask:=k9 (r:=r) (P:=Pm vs.length) (R:=fun t=>Up r t vs.length) (N:=vs.length) (cmp:=kas_ask X.prog X.w A κ vs) (I:=fun s'=>Inv X ((a,Bv "list" #[] e1) :: pins) σ H s')
  (fun i j C s' hi hj hI hC=>Bw (cmp i j s' _ hi hj hI) (fun b s'' ⟨eb,hI'⟩=>by rw [eb]; exact hC s'' hI') fun _ _ z=>z)
  (kas_sort vs.length) (fun p s'=>Pm vs.length p/\Up r p vs.length/\Inv X ((a,Bv "list" #[] e1) :: pins) σ H s') _ (uG (by omega)) (yZ vs.length (by omega)) I6 fun p s' h1 h3 hI=>⟨h1,h3,hI⟩
 rw [kas_ask_eq] at ask
 have run:=kas_runs (E:=E) (Q:=fun _ st' s'=>∃p:Array Nat,p.size=vs.length/\EN st'=p.map (kas_item (pairsOf vs))/\failedOf st'=none/\Pm vs.length p/\Up r p vs.length/\Inv X ((a,Bv "list" #[] e1) :: pins) σ H s')
  h2 h64 (fun p' st' s' a1 a2 a3 a4=>⟨p',a1,a2,a3,a4⟩) ask
 rw [<- est] at run
 refine AI (Bw run ?_ fun _ _ e=>e)
 rintro ⟨⟨⟩,st'⟩ s' ⟨p,hp,har,hf,hpm,hup,J⟩
 dsimp only
 have ga:=J.hd.1
 have hout:(EN st').map (·.2)=DS (p.toList.map fun i=>vs.getD i BY):=by
  apply Array.toList_inj.mp
  rw [har,Array.map_map,Array.toList_map]
  exact C0 fun i _=>by show (kas_item (pairsOf vs) i).2=_; rw [kas_item_eq]
 have hsz:(DS (p.toList.map fun i=>vs.getD i BY)).size=vs.length:=by rw [AU,AH,B3,hp]
 rw [hout]
 have s6:=By.update s'.heap a (BF fun _=>DS (p.toList.map fun i=>vs.getD i BY))
 obtain ⟨c2,hc2⟩:∃c2,(s'.heap.update a (BF fun _=>DS (p.toList.map fun i=>vs.getD i BY))).get? a=some (Bv "list" (DS (p.toList.map fun i=>vs.getD i BY)) c2):=⟨_,Dr ga fun _=>DS (p.toList.map fun i=>vs.getD i BY)⟩
 refine AI (E6 ga rfl ?_)
 refine AI (DE ga rfl ?_ (Bo _) (Bm (Ea hsz) (by rw [A9]; omega)))
 rw [hf]
 simp only [bne_self_eq_false,DR,if_false]
 exact AV (h _ p c2 (J.sub.but s6 fa xa) hc2 hpm hup)
end
section
variable {prog:Program}{w:Bj}{A:Bk}{E:Value->AL->Prop}{s:AL}
end
section
variable {X:Cx}{pins:List (Addr×Obj)}{σ:St}{H:Hp}{s:AL}
end
end L2
namespace L2
open PySem
section
variable {prog:Program}{w:Bj}{A:Bk}{E:Value->AL->Prop}{s:AL}
end
section
variable {prog:Program}{w:Bj}{A:Bk}{E:Value->AL->Prop}{s:AL}
end
section
variable {prog:Program}{w:Bj}{A:Bk}{E:Value->AL->Prop}{s:AL}
end
section
variable {prog:Program}{w:Bj}{A:Bk}{E:Value->AL->Prop}{s:AL}
end
section
variable {prog:Program}{w:Bj}{A:Bk}{E:Value->AL->Prop}{s:AL}
end
section
variable {prog:Program}{w:Bj}{A:Bk}{E:Value->AL->Prop}{s:AL}
end
section
variable {prog:Program}{w:Bj}{A:Bk}{R:Result->AL->Prop}{I:Addr}{fp wr:List Addr}{G:Array E4->Array E4->Prop}{n:Nat}{P:Nat->Value->Prop}{St:Nat->AL->Prop}
end
section
variable {prog:Program}{w:Bj}{A:Bk}{E:Value->AL->Prop}{s:AL}
end
end L2
namespace L2
open PySem PySem.Spec PyProof.Rows PySem.W KS
def ltS (a b:Str):Bool:=decide (a.cps.toList<b.cps.toList)
theorem on (a:Str):ltS a a=false:=decide_eq_false (List.lt_irrefl _)
theorem yK (a b c:Str) (h1:ltS a b=true) (h2:ltS b c=true):ltS a c=true:=decide_eq_true (List.lt_trans (of_decide_eq_true h1) (of_decide_eq_true h2))
theorem om:∀x y z:List Nat,x<z->x<y\/y<z
 | [],[],z,h=>.inr h
 | [],_ :: _,z,_=>.inl (List.nil_lt_cons ..)
 | _ :: _,_,[],h=>absurd h (List.not_lt_nil _)
 | _ :: _,[],_ :: _,_=>.inr (List.nil_lt_cons ..)
 | a :: x,b :: y,c :: z,h=>by
  rw [EO] at h
  rw [EO,EO]
  rcases Nat.lt_trichotomy a b with hab | hab | hab
  ·exact .inl (.inl hab)
  ·subst hab
   rcases h with h | ⟨h1,h2⟩
   ·exact .inr (.inl h)
   ·subst h1
    rcases om x y z h2 with h | h
    ·exact .inl (.inr ⟨rfl,h⟩)
    ·exact .inr (.inr ⟨rfl,h⟩)
  ·rcases h with h | ⟨h1,h2⟩
   ·exact .inr (.inl (by omega))
   ·exact .inr (.inl (by omega))
theorem vZ (a b c:Str) (h:ltS a c=true):ltS a b=true\/ltS b c=true:=by
 rcases om _ _ _ (of_decide_eq_true h) with h | h
 ·exact .inl (decide_eq_true h)
 ·exact .inr (decide_eq_true h)
section
variable {X:Cx}
end
section
variable {X:Cx}{pins:List (Addr×Obj)}{σ:St}{H:Hp}{s:AL}
theorem gS:∀(us:List (Addr×Str×Int)) {H:Hp}(I:Inv X pins σ H s),(∀x∈us,cH X pins H x.1/\X.s₀.heap.get? x.1=none/\∃t t',s.heap.get? x.1=some { cls:=.type "tuple",data:=.seq #[.str x.2.1 t,.int x.2.2 t'] })->us.Pairwise (fun x y=>x.1≠y.1) ->
  ∃H2,Inv X pins σ H2 s/\Same H H2/\(∀x∈us,H2 x.1=some (.tup [.str x.2.1,.int x.2.2]))/\∀b,H b=none->(∀x∈us,b≠x.1)->H2 b=none
 | [],H,I,_,_=>⟨H,I,Same.refl _,(fun x hx=>nomatch hx),fun b h _=>h⟩
 | x :: us,H,I,h,hp=>by
  obtain ⟨f,hx,t,t',ho⟩:=h x (AQ ..)
  have I1:=I.trackU (o:=.tup [.str x.2.1,.int x.2.2]) f hx ⟨by show 2<=sizeLine; decide,[.str x.2.1 t,.int x.2.2 t'],.cons ⟨t,rfl⟩ (.cons ⟨t',rfl⟩ .nil),_,ho,rfl,_,rfl⟩
  obtain ⟨h1,h2⟩:=List.pairwise_cons.mp hp
  obtain ⟨H2,I2,s2,m2,n2⟩:=gS us I1 (fun y hy=>by
   obtain ⟨g,gx,gt⟩:=h y (AO _ hy)
   exact ⟨⟨by rw [aj (Cg (h1 y hy))]; exact g.1,g.2⟩,gx,gt⟩) h2
  refine ⟨H2,I2,(Same.new f.1 _).trans s2,fun y hy=>?_,fun b hb hn=>n2 b (by rw [aj (hn x (AQ ..))]; exact hb) fun y hy=>hn y (AO _ hy)⟩
  rcases AX.mp hy with rfl | hy
  ·exact s2 _ _ ac
  ·exact m2 y hy
theorem hX (I:Inv X pins σ H s) {x:Addr×Str×Int}(h:H x.1=some (.tup [.str x.2.1,.int x.2.2])):∃o n t t',s.heap.get? x.1=some o/\o.cls=.type "tuple"/\o.data=.seq #[.str x.2.1 t,.int x.2.2 t'] n:=by
 obtain ⟨_,its,rv,o,h1,h2,n,h3⟩:=(show ObjOk X.prog X.w H s.heap x.1 (.tup [.str x.2.1,.int x.2.2]) from I.hok _ _ h)
 cases rv with
 | cons r1 rv =>
  cases rv with
  | cons r2 rv =>
   cases rv
   obtain ⟨t,rfl⟩:=r1
   obtain ⟨t',rfl⟩:=r2
   exact ⟨o,n,t,t',h1,h2,h3⟩
theorem jm (I:Inv X pins σ H s):∀(ts:List (Addr×Str×Int)),(∀x∈ts,H x.1=some (.tup [.str x.2.1,.int x.2.2]))->∃fs:List Value,fs.length=ts.length/\KatTups s.heap (ts.map fun x=>Bc x.1) fs/\∀v∈fs,∃k t,v=.str k t
 | [],_=>⟨[],rfl,.nil,fun v hv=>nomatch hv⟩
 | x :: ts,h=>by
  obtain ⟨fs,hl,hk,hv⟩:=jm I ts fun y hy=>h y (AO _ hy)
  obtain ⟨o,n,t,t',e1,e2,e3⟩:=hX I (h x (AQ ..))
  refine ⟨.str x.2.1 t :: fs,by simp [hl],.cons e1 e2 e3 (by simp) hk,fun v hv'=>?_⟩
  rcases AX.mp hv' with rfl | hv'
  ·exact ⟨_,t,rfl⟩
  ·exact hv v hv'
theorem lT {A:Bk}{E:Value->AL->Prop}{a:Addr}{ts:List (Addr×Str×Int)}{n:Nat}{P:PySem.Fin->AL->Prop}(I:Inv X pins σ H s) (fa:cH X pins H a) (xa:X.s₀.heap.get? a=none) (ha:s.heap.get? a=some (Bv "list" (ts.map fun x=>Bc x.1).toArray n))
  (ht:∀x∈ts,H x.1=some (.tup [.str x.2.1,.int x.2.2])) (hnd:(ts.map fun x=>x.2.1).Nodup) (h64:ts.length<64)
  (h:∀(s':AL) (us:List (Addr×Str×Int)) (c:Nat),Inv X pins σ H s'->s'.heap.get? a=some (Bv "list" (us.map fun x=>Bc x.1).toArray c)->us.Perm ts->us.Pairwise (fun x y=>ltS y.2.1 x.2.1=false)->P (.done (.ret .none)) s') :
  A6 (Bf X.prog X.w) A (Builtin.«list.sort» ⟨[.ref a],[]⟩) P E s:=by
 by_cases h2:ts.length<2
 ·refine lS I fa xa ha (by rw [AH]; exact h2) fun h' c J hc=>h _ ts c J hc (List.Perm.refl _) ?_
  match ts,h2 with
  | [],_=>exact .nil
  | [x],_=>exact Ey ..
 ·have hgd:∀i,i<ts.length->(ts.map fun x=>Bc x.1).getD i .none=.ref (ts.getD i (0, "",0)).1:=fun i hi=>by
   rw [AT,AR,AN hi,AT,AN hi]
   rfl
  have hgm:∀i,i<ts.length->ts.getD i (0, "",0)∈ts:=fun i hi=>by
   rw [AT,AN hi]
   exact BX hi
  have hg2:∀i,i<ts.length->(ts.map fun x=>x.2.1).getD i ("":Str)=(ts.getD i (0, "",0)).2.1:=fun i hi=>by
   rw [AT,AR,AN hi,AT,AN hi]
   rfl
  have hrk:∀i j,i<ts.length->j<ts.length->lr (jS ltS (ts.map fun x=>x.2.1) "") i j=ltS (ts.getD i (0, "",0)).2.1 (ts.getD j (0, "",0)).2.1:=fun i j hi hj=>by
   rw [vb on yK vZ (by rw [AH]; exact hi) (by rw [AH]; exact hj),hg2 i hi,hg2 j hj]
  refine pD (κ:=tuples' true) (r:=jS ltS (ts.map fun x=>x.2.1) "") I fa xa ha (by rw [AH]; omega) (by rw [AH]; exact h64) (fun s' Q' J hQ=>?_) (fun i j s' pins' hi hj J=>?_) fun s' p c J hc hpm hup=>?_
  ·obtain ⟨fs,hl,hk,hv⟩:=jm J ts ht
   refine kat_kind hk (by omega) (T:=.type "str") (fun v hv'=>?_) (by decide) hQ
   obtain ⟨k,t,rfl⟩:=hv v hv'
   exact .now
  ·rw [AH] at hi hj
   rw [hgd i hi,hgd j hj]
   obtain ⟨o,n1,t,u,e1,e2,e3⟩:=hX J (ht _ (hgm i hi))
   obtain ⟨o',n1',t',u',e1',e2',e3'⟩:=hX J (ht _ (hgm j hj))
   refine kat_lt e1 e3 e1' e3' ?_
   refine kat_cons (eqBool_str ?_)
   refine kat_go (fun e=>?_) (fun e=>?_)
   ·have e:(ts.getD i (0, "",0)).2.1=(ts.getD j (0, "",0)).2.1:=eq_of_beq e
    have eij:i=j:=by
     rw [<- hg2 i hi,<- hg2 j hj,AT,AT,AN (by rw [AH]; exact hi),AN (by rw [AH]; exact hj)] at e
     exact (List.getElem_inj hnd).mp e
    subst eij
    refine kat_yes (kat_cons (wpAny_eqBool_int ?_))
    refine kat_go (fun _=>kat_yes (kat_nil ⟨?_,J⟩)) (fun e=>?_)
    ·rw [hrk i i hi hi,on]
     rfl
    ·simp at e
   ·refine kat_no (oneLt_str ⟨?_,J⟩)
    rw [hrk i j hi hj]
    rfl
  ·rw [AH] at hpm hup
   have hpl:p.toList.Perm (BP ts.length):=by
    have:=hpm.toList
    simpa using this
   have hlt:∀i∈p.toList,i<ts.length:=fun i hi=>B7.mp (hpl.mem_iff.mp hi)
   have e1:(p.toList.map fun i=>(ts.map fun x=>Bc x.1).getD i .none)=(p.toList.map fun i=>ts.getD i (0, "",0)).map fun x=>Bc x.1:=by
    rw [B5]
    exact C0 fun i hi=>hgd i (hlt i hi)
   rw [e1] at hc
   refine h _ _ c J hc ?_ ?_
   ·refine (hpl.map _).trans (List.Perm.of_eq ?_)
    refine List.ext_getElem (by simp) fun i h1 h3=>?_
    rw [List.getElem_map,List.getElem_range,AT,AN h3]
    rfl
   ·rw [CY,List.pairwise_iff_getElem]
    intro i j hi hj hij
    have hi':i<p.size:=by simpa using hi
    have hj':j<p.size:=by simpa using hj
    have hup':=hup i j (Ez hij) (by have:=hpl.length_eq; simp at this; omega)
    unfold ky at hup'
    have gi:p.getD i 0=p.toList[i]:=by simp [Array.getD,hi']
    have gj:p.getD j 0=p.toList[j]:=by simp [Array.getD,hj']
    rw [gi,gj] at hup'
    have:=hrk p.toList[j] p.toList[i] (hlt _ (BX hj)) (hlt _ (BX hi))
    rw [<- this]
    unfold lr
    exact decide_eq_false (by omega)
end
def eKI (ks:List (Str×Int)):List (Key×V):=ks.map fun x=>(Co x.1,V.int x.2)
def gg (to:TE):TE:=fun σ H Q=>to σ H fun x H1=>∃(d:Addr) (ks:List (Str×Int)),x=.ref d/\Rd H1 d (.dK (eKI ks))/\(ks.map (·.1)).Nodup/\ks.length<64/\∀(D:Addr) (us:List (Addr×Str×Int)) (H2:Hp),Same H1 H2->H1 D=none->H2 D=some (.lst (us.map fun x=>V.ref x.1)) ->
 (∀x∈us,H2 x.1=some (.tup [.str x.2.1,.int x.2.2]))->(us.map (·.2)).Perm ks->us.Pairwise (fun x y=>ltS y.2.1 x.2.1=false)->Q (.ref D) H2
section
variable {X:Cx}
theorem zY {P:Program}{w:Bj}:∀{ks:List (Str×Int)}{vs:List (Key×Value)}{j:Nat}{k:Key}{x key:Value},KV (eKI ks) vs->vs[j]?=some (k,x)->(aQ P w).is k key=true->∃y t t',ks[j]?=some y/\key=.str y.1 t/\x=.int y.2 t':=by
 intro ks vs j k x key h hj hk
 induction ks generalizing vs j with
 | nil=>cases h; cases hj
 | cons y ks ih =>
  cases h with
  | cons h0 r0 =>
   cases j with
   | zero =>
    rw [List.getElem?_cons_zero] at hj
    obtain ⟨e1,e2⟩:=h0
    have e3:=Ba hj
    subst e3
    have e1:(Co y.1:Key)=k:=e1
    subst e1
    obtain ⟨t',e2⟩:=e2
    rcases aY (show ir (Co y.1) key=true from hk) with ⟨i,t,e,_⟩ | ⟨z,t,e,rfl⟩
    ·cases e
    ·cases e
     exact ⟨y,t,t',rfl,rfl,e2⟩
   | succ j =>
    rw [De] at hj
    obtain ⟨y',t,t',h1,h2,h3⟩:=ih r0 hj
    exact ⟨y',t,t',by rw [De]; exact h1,h2,h3⟩
theorem iQ {o:Expr}{to:TE}{p pos apos cpos:Pos}(hc:X.calm=true) (hgl:X.env.kindOf "sorted"=some .globalImplicit) (hml:X.mg "sorted"=none) (ho:PE X o to)
  (hbase:DB o "items" X.env (eval o X.env)=eval o X.env) (hline:(apos.endLine == cpos.line)=true):PE X (.Call (.Name "sorted" p) [.Call (.Attribute o "items" apos) [] [] cpos] [] pos) (gg to):=by
 intro pins s σ H Q I h
 refine Call_ (bG (u:=.builtin "sorted") I hgl hml (by decide +kernel) (PyProof.Rows.callWith_builtin1 ?_ rfl rfl))
 show A6 _ _ (spliced ((false,eval (.Call (.Attribute o "items" apos) [] [] cpos) X.env) :: Dx pos (Bz [] X.env))) _ _ s
 refine CI (wpAny_Call_method0_late hbase hline (thn (ho pins s σ H _ I h) fun v s1 ⟨x,H1,I1,r1,d,ks,ex,hd,hnd,h64,q1⟩=>?_))
 subst ex
 obtain rfl:v=Bc d:=r1
 obtain ⟨t1,t2,lo⟩:=mB I1 (.inl ⟨_,hd⟩)
 refine ⟨"dict", "dict.items",Ew,PySem.F.slot_dict_items,PySem.F.type_dict_items,t1,t2,DP rfl (PySem.evalArgs_none ?_)⟩
 obtain ⟨z,hd0,vs,rel,dd⟩:=gy I1.hok hd
 refine call_meetsIn PySem.F.slot_dict_items dd.typeIs PySem.F.entry_dict_items (PySem.F.args_dict_items_1 _) (meets_dict_items (aQ X.prog X.w) d lo) ⟨⟨vs,dd⟩,?_⟩
 refine Ds ?_
 have I2:Inv X pins σ H1 { s1 with heap:=s1.heap.push { cls:=.type "dict_items",data:=.fields #[.ref d] } }:=I1.kept (t':=s1.toks) fun b o e=>AJ _ e
 refine Calls.call_function_entry kind_sorted plain_sorted entry_sorted (args_sorted1 _) ?_
 unfold Builtin.«sorted»
 refine AI (m:=checkCount "sorted" 1 1 _) (AV ?_)
 obtain ⟨z2,hd2,vs2,rel2,dd2⟩:=gy I2.hok hd
 obtain ⟨ep,dat⟩:=dd2.dictAt
 have hvl:vs2.length=ks.length:=by rw [<- rel2.length]; unfold eKI; rw [AH]
 refine AI (PySem.W.kdx_collect (A:=X.A.in1) (knd:=aQ X.prog X.w) (kvs:=vs2) (ep:=ep) (I.ok.hd hc) ⟨_,A5 _ rfl,rfl,rfl⟩ dat (by rw [hvl,A9]; omega) fun h' tk as hk hl hG=>?_)
 rw [hvl] at hl
 have I3:Inv X pins σ H1 { s1 with heap:=h',toks:=tk }:=I2.kept hk
 have eas:(as.zip ks).map (·.1)=as:=List.map_fst_zip (by omega)
 have eks:(as.zip ks).map (·.2)=ks:=List.map_snd_zip (by omega)
 have hin:∀x∈as.zip ks,cH X pins H1 x.1/\X.s₀.heap.get? x.1=none/\∃t t',h'.get? x.1=some { cls:=.type "tuple",data:=.seq #[.str x.2.1 t,.int x.2.2 t'] }:=fun x hx=>by
  obtain ⟨j,hj⟩:=List.mem_iff_getElem?.mp hx
  have ej:as[j]?=some x.1:=by rw [<- eas,AR,hj]; rfl
  have ek:ks[j]?=some x.2:=by rw [<- eks,AR,hj]; rfl
  obtain ⟨key,k',x',hkv,hkey,hobj⟩:=hG.pairs j x.1 ej
  obtain ⟨y,t,t',e1,rfl,rfl⟩:=zY rel2 hkv hkey
  rw [ek] at e1
  cases e1
  have hts:s1.heap.objs.size<=x.1:=by
   have:=hG.above x.1 (Bh ej)
   have e:(s1.heap.push { cls:=.type "dict_items",data:=.fields #[.ref d] }).objs.size=s1.heap.objs.size+1:=by rw [D7]
   rw [e] at this
   exact Ez (Nat.lt_of_le_of_lt (DM _) this)
  exact ⟨I1.fpOk hts (I1.hok.fresh hts),CM (Bm I1.sz hts),t,t',hobj⟩
 have hpw:(as.zip ks).Pairwise (fun x y=>x.1≠y.1):=by
  have h1:((as.zip ks).map (·.1)).Pairwise (·≠·):=by rw [eas]; exact hG.rise.imp fun h=>Bl h
  exact CY.mp h1
 obtain ⟨H2,I4,sm,ht,hno⟩:=gS (as.zip ks) I3 hin hpw
 refine AI (E3 ?_ (by rw [AH,hl,A9]; omega))
 have er:as.map Bc=(as.zip ks).map fun x=>Bc x.1:=by
  have:=congrArg (List.map Bc) eas
  rw [B5] at this
  exact this.symm
 rw [er]
 have I5:=I4.kept (t':=tk) fun b o e=>AJ (Bv "list" ((as.zip ks).map fun x=>Bc x.1).toArray 0) e
 have fa:=I4.fpOk (AM _) (I4.hok.fresh (AM _))
 have xa:X.s₀.heap.get? h'.objs.size=none:=CM I4.sz
 have ha:(h'.push (Bv "list" ((as.zip ks).map fun x=>Bc x.1).toArray 0)).get? h'.objs.size=some (Bv "list" ((as.zip ks).map fun x=>Bc x.1).toArray 0):=A5 _ rfl
 have hD1:H1 h'.objs.size=none:=I3.hok.fresh (AM _)
 have hzl:(as.zip ks).length=ks.length:=by rw [<- AH (f:=(·.2)),eks]
 refine AI (Cd (CQ slot_list_sort ⟨_,ha,rfl⟩ entry_list_sort (lT I5 fa xa ha ht (by
  have:=congrArg (List.map (·.1)) eks
  rw [B5] at this
  rw [<- this] at hnd
  exact hnd) (by rw [hzl]; exact h64) fun s' us c J hc hp hw=>⟨.none,rfl,?_⟩) (args_list_sort _)))
 have hvs:Vals (us.map fun x=>V.ref x.1) (us.map fun x=>Bc x.1):=by
  clear hc hp hw
  induction us with
  | nil=>exact .nil
  | cons x us ih=>exact .cons rfl ih
 have J2:=J.trackU (o:=.lst (us.map fun x=>V.ref x.1)) fa xa ⟨by rw [AH,hp.length_eq,hzl,A9]; omega,_,c,hvs,hc⟩
 refine AV ⟨_,rfl,.ref h'.objs.size,_,J2,rfl,q1 _ us _ (sm.trans (Same.new fa.1 _)) hD1 ac (fun x hx=>?_) ?_ hw⟩
 ·have:=ht x (hp.mem_iff.mp hx)
  rw [aj (am this fa.1)]
  exact this
 ·have:=hp.map (·.2)
  rw [eks] at this
  exact this
theorem ke {o:Expr}{to:TE}{p pos apos cpos:Pos}(hml:X.mg "sorted"=none) (ho:QE X o to) (hc:X.calm=true:=by rfl) (hgl:X.env.kindOf "sorted"=some .globalImplicit:=by kernel_rfl)
  (hbase:DB o "items" X.env (eval o X.env)=eval o X.env:=by rfl) (hline:(apos.endLine == cpos.line)=true:=by rfl):QE X (.Call (.Name "sorted" p) [.Call (.Attribute o "items" apos) [] [] cpos] [] pos) (gg to):=⟨iQ hc hgl hml ho.h hbase hline⟩
end
end L2
namespace KS
open PySem
end KS
namespace KS
open PySem L2
def dH {α:Type}(ks:List (Str×α)) (r:Str):Option α:=(ks.find? fun x=>decide (x.1=r)).map (·.2)
def e9 {α:Type}(ks:List (Str×α)) (r:Str) (v:α):List (Str×α):=if ks.any (fun x=>decide (x.1=r)) then ks.map (fun x=>if x.1=r then (x.1,v) else x) else ks++[(r,v)]
theorem oy (a b:Str):decide ((Co a:Key)=Co b)=decide (a=b):=by
 by_cases h:a=b
 ·rw [decide_eq_true h,decide_eq_true (by rw [h])]
 ·rw [decide_eq_false h,decide_eq_false (fun z=>h (Co.inj z))]
theorem mS {α:Type}(f:α->V) (r:Str):∀ks:List (Str×α),aN (ks.map fun x=>((Co x.1:Key),f x.2)) (.inr r)=(dH ks r).map f
 | []=>rfl
 | x :: ks=>by
  have ih:=mS f r ks
  unfold aN dH at ih ⊢
  rw [Br,C3,C3,oy]
  by_cases h:x.1=r
  ·rw [decide_eq_true h]
   rfl
  ·rw [decide_eq_false h]
   exact ih
theorem vd {α:Type}(f:α->V) (ks:List (Str×α)) (r:Str) (v:α):bi (ks.map fun x=>((Co x.1:Key),f x.2)) (.inr r) (f v)=(e9 ks r v).map fun x=>(Co x.1,f x.2):=by
 unfold bi e9
 have e:(ks.map fun x=>((Co x.1:Key),f x.2)).any (fun kv=>decide (kv.1=Co r))=ks.any (fun x=>decide (x.1=r)):=by
  rw [List.any_map]
  congr 1
  funext x
  exact oy _ _
 rw [e]
 split
 ·rw [B5,B5]
  refine C0 fun x _=>?_
  show (if (Co x.1:Key)=Co r then _ else _)=_
  by_cases h:x.1=r
  ·rw [if_pos (by rw [h])]
   show _=(fun x=>((Co x.1:Key),f x.2)) (if x.1=r then (x.1,v) else x)
   rw [if_pos h]
  ·rw [if_neg (fun z=>h (Co.inj z))]
   show _=(fun x=>((Co x.1:Key),f x.2)) (if x.1=r then (x.1,v) else x)
   rw [if_neg h]
 ·rw [A8]
  rfl
theorem wj {α:Type}{ks:List (Str×α)}{r:Str}{v:α}(h:dH ks r=some v):(r,v)∈ks:=by
 unfold dH at h
 cases e:ks.find? fun x=>decide (x.1=r) with
 | none=>rw [e] at h; cases h
 | some x =>
  rw [e] at h
  have h1:=List.find?_some e
  have h2:=List.mem_of_find?_eq_some e
  have h1:x.1=r:=of_decide_eq_true h1
  have h3:x.2=v:=Ba h
  rw [<- h1,<- h3]
  exact h2
theorem mG {α:Type}{ks:List (Str×α)}{r:Str}{v:α}(hn:(ks.map (·.1)).Nodup) (h:(r,v)∈ks):dH ks r=some v:=by
 induction ks with
 | nil=>cases h
 | cons x ks ih =>
  rw [Br,CH] at hn
  unfold dH
  rw [C3]
  rcases AX.mp h with e | h
  ·rw [<- e,decide_eq_true rfl]
   rfl
  ·have:¬ x.1=r:=fun z=>hn.1 (by rw [z]; exact List.mem_map_of_mem (f:=(·.1)) h)
   rw [decide_eq_false this]
   exact ih hn.2 h
theorem rG {α:Type}(ks:List (Str×α)) (r:Str) (v:α):(e9 ks r v).map (·.1)=if ks.any (fun x=>decide (x.1=r)) then ks.map (·.1) else ks.map (·.1)++[r]:=by
 unfold e9
 split
 ·rw [B5]
  refine C0 fun x _=>?_
  show (if x.1=r then (x.1,v) else x).1=x.1
  split <;> rfl
 ·rw [A8]
  rfl
theorem pL {α:Type}{ks:List (Str×α)}{r:Str}{v:α}(h:(ks.map (·.1)).Nodup):((e9 ks r v).map (·.1)).Nodup:=by
 rw [rG]
 split
 ·exact h
 ·rename_i hn
  rw [List.nodup_append]
  refine ⟨h,Ey ..,fun a ha b hb=>?_⟩
  rw [Bi.mp hb]
  intro z
  obtain ⟨x,hx,hz⟩:=Be.mp ha
  exact hn (C6.mpr ⟨x,hx,decide_eq_true (hz.trans z)⟩)
theorem rF {α:Type}(ks:List (Str×α)) (r:Str) (v:α):(e9 ks r v).length<=ks.length+1:=by
 unfold e9
 split
 ·rw [AH]
  omega
 ·rw [AW,BU]
  omega
theorem ve {α:Type}{ks:List (Str×α)}{r:Str}{v:α}{x:Str×α}(h:x∈e9 ks r v):x=(r,v)\/(x∈ks/\x.1≠r):=by
 unfold e9 at h
 split at h
 ·obtain ⟨y,hy,rfl⟩:=Be.mp h
  by_cases e:y.1=r
  ·rw [if_pos e,e]
   exact .inl rfl
  ·rw [if_neg e]
   exact .inr ⟨hy,e⟩
 ·rename_i hn
  rcases CG.mp h with h | h
  ·exact .inr ⟨h,fun z=>hn (C6.mpr ⟨x,h,decide_eq_true z⟩)⟩
  ·exact .inl (Bi.mp h)
theorem kQ {α:Type}{ks:List (Str×α)}{r:Str}{v:α}:(r,v)∈e9 ks r v:=by
 unfold e9
 split
 ·rename_i h
  obtain ⟨x,hx,e⟩:=C6.mp h
  have e:=of_decide_eq_true e
  exact Be.mpr ⟨x,hx,by rw [if_pos e,e]⟩
 ·exact Bb _ (Bi.mpr rfl)
theorem pK {α:Type}{ks:List (Str×α)}{r:Str}{v:α}{x:Str×α}(h:x∈ks) (hr:x.1≠r):x∈e9 ks r v:=by
 unfold e9
 split
 ·exact Be.mpr ⟨x,h,by rw [if_neg hr]⟩
 ·exact CO _ h
theorem tw {a b:Str}(h1:ltS a b=false) (h2:ltS b a=false):a=b:=by
 have h1:=of_decide_eq_false h1
 have h2:=of_decide_eq_false h2
 have e:a.cps.toList=b.cps.toList:=List.le_antisymm (List.not_lt.mp h2) (List.not_lt.mp h1)
 cases a
 cases b
 congr
 exact Array.toList_inj.mp e
theorem nG:∀{us ws:List Str},us.Nodup->ws.Nodup->(∀x,x∈us↔x∈ws)->us.Pairwise (fun x y=>ltS y x=false)->ws.Pairwise (fun x y=>ltS y x=false)->us=ws
 | [],[],_,_,_,_,_=>rfl
 | [],w :: ws,_,_,hm,_,_=>absurd ((hm w).mpr (AQ ..)) (Cf)
 | u :: us,[],_,_,hm,_,_=>absurd ((hm u).mp (AQ ..)) (Cf)
 | u :: us,w :: ws,n1,n2,hm,p1,p2=>by
  rw [CH] at n1 n2
  rw [List.pairwise_cons] at p1 p2
  have e:u=w:=by
   rcases AX.mp ((hm u).mp (AQ ..)) with e | h1
   ·exact e
   ·rcases AX.mp ((hm w).mpr (AQ ..)) with e | h2
    ·exact e.symm
    ·exact tw (p2.1 u h1) (p1.1 w h2)
  subst e
  congr 1
  refine nG n1.2 n2.2 (fun x=>?_) p1.2 p2.2
  constructor
  ·intro hx
   rcases AX.mp ((hm x).mp (AO _ hx)) with e | h
   ·subst e
    exact absurd hx n1.1
   ·exact h
  ·intro hx
   rcases AX.mp ((hm x).mpr (AO _ hx)) with e | h
   ·subst e
    exact absurd hx n2.1
   ·exact h
structure NeedIs (ivs:List Iv) (r:Str) (m:Int):Prop where
 ex:∃(k:Nat) (v:Iv),ivs[k]?=some v/\v.reel=r/\m=((az ivs r v.lo).length:Int)
 most:∀(k:Nat) (v:Iv),ivs[k]?=some v->v.reel=r->((az ivs r v.lo).length:Int)<=m
theorem NeedIs.uniq {ivs:List Iv}{r:Str}{m n:Int}(h1:NeedIs ivs r m) (h2:NeedIs ivs r n):m=n:=by
 obtain ⟨k,v,a1,a2,a3⟩:=h1.ex
 obtain ⟨k',v',b1,b2,b3⟩:=h2.ex
 have c1:=h2.most k v a1 a2
 have c2:=h1.most k' v' b1 b2
 omega
structure Ak (ivs:List Iv) (rs:List Str):Prop where
 nd:rs.Nodup
 mem:∀r,r∈rs↔∃(k:Nat) (v:Iv),ivs[k]?=some v/\v.reel=r
 up:rs.Pairwise (fun x y=>ltS y x=false)
structure Needs (ivs:List Iv) (ns:List (Str×Int)):Prop where
 rs:Ak ivs (ns.map (·.1))
 is:∀x∈ns,NeedIs ivs x.1 x.2
theorem sr {ns ms:List (Str×Int)}(h1:ns.map (·.1)=ms.map (·.1)) (h2:∀(i:Nat) x y,ns[i]?=some x->ms[i]?=some y->x.2=y.2):ns=ms:=by
 have hl:ns.length=ms.length:=by have:=congrArg C1 h1; rw [AH,AH] at this; exact this
 refine List.ext_getElem hl fun i hi hi'=>?_
 have e1:(ns.map (·.1))[i]?=(ms.map (·.1))[i]?:=by rw [h1]
 rw [AR,AR,AN hi,AN hi'] at e1
 exact Prod.ext (Ba e1) (h2 i _ _ (AN hi) (AN hi'))
structure Top (ivs:List Iv) (prs:List Nat) (r:Str) (p:Nat):Prop where
 ex:∃(k:Nat) (v:Iv),ivs[k]?=some v/\v.reel=r/\prs[k]?=some p
 most:∀(k:Nat) (v:Iv) (q:Nat),ivs[k]?=some v->v.reel=r->prs[k]?=some q->q<=p
theorem Top.want {ivs:List Iv}{prs:List Nat}{r:Str}{p:Nat}(P:PrOk ivs prs) (hl:∀v∈ivs,v.lo<=v.hi) (T:Top ivs prs r p) {k:Nat}{v:Iv}(hv:ivs[k]?=some v) (hr:v.reel=r) (hp:prs[k]?=some p):(az ivs r v.lo).length=p+1:=by
 have h1:=P.many hv hp (hl v (Bh hv))
 have h2:=P.few (r:=r) (x:=v.lo) (n:=p+1) fun k' v' q a b c=>by have:=T.most k' v' q a c b; omega
 rw [hr] at h1
 omega
theorem Top.need {ivs:List Iv}{prs:List Nat}{r:Str}{p:Nat}(P:PrOk ivs prs) (hl:∀v∈ivs,v.lo<=v.hi) (T:Top ivs prs r p):NeedIs ivs r ((p:Int)+1):=by
 obtain ⟨k,v,h1,h2,h3⟩:=T.ex
 refine ⟨⟨k,v,h1,h2,?_⟩,fun k' v' a b=>?_⟩
 ·rw [T.want P hl h1 h2 h3]
  omega
 ·have:=P.few (r:=r) (x:=v'.lo) (n:=p+1) fun k' v' q a b c=>by have:=T.most k' v' q a c b; omega
  omega
end KS
namespace L2
open PySem PySem.Spec PyProof.Rows
end L2
namespace K56
open PySem L2 G KS
section
variable {P:Program}{w:Bj}{K:AK}{mg:Str->Option Value}{base:Heap}
theorem SLs.same {H H':Hp}{p:Addr}{ps:List (Addr×Clip)}(h:SLs H p ps) (s:Same H H'):SLs H' p ps:=⟨s _ _ h.1,fun x hx=>s _ _ (h.2 x hx)⟩
def eQ (sp:Int) (ps:List (Addr×Clip)):List Iv:=ps.map fun x=>bz sp x.2
theorem j6 (sp:Int) (ps:List (Addr×Clip)):(eQ sp ps).length=ps.length:=AH ..
theorem v_ {sp:Int}{ps:List (Addr×Clip)}{k:Nat}{z:Addr×Clip}(h:ps[k]?=some z):(eQ sp ps)[k]?=some (bz sp z.2):=by unfold eQ; rw [AR,h]; rfl
theorem xm (sp:Int) (c:Clip) (h:0<=sp):(bz sp c).lo<=(bz sp c).hi:=by
 show (if c.b<c.a then c.b else c.a)<=(if c.a<c.b then c.b else c.a)+sp
 split <;> split <;> omega
theorem yQ {sp:Int}(h:0<=sp) (ps:List (Addr×Clip)):∀v∈eQ sp ps,v.lo<=v.hi:=fun v hv=>by
 obtain ⟨z,_,rfl⟩:=Be.mp hv
 exact xm sp z.2 h
structure NdInv (ivs:List Iv) (prs:List Nat) (i:Nat) (ks:List (Str×Int)):Prop where
 nd:(ks.map (·.1)).Nodup
 from_:∀x∈ks,∃(k:Nat) (v:Iv) (p:Nat),k<i/\ivs[k]?=some v/\v.reel=x.1/\prs[k]?=some p/\x.2=(p:Int)+1
 has:∀(k:Nat) (v:Iv) (p:Nat),k<i->ivs[k]?=some v->prs[k]?=some p->∃m,(v.reel,m)∈ks/\(p:Int)+1<=m
 len:ks.length<=i
theorem NdInv.nil (ivs:List Iv) (prs:List Nat):NdInv ivs prs 0 []:=⟨List.nodup_nil,(fun x hx=>nomatch hx),(fun k v p hk=>by omega),AM _⟩
theorem NdInv.step {ivs:List Iv}{prs:List Nat}{i:Nat}{ks:List (Str×Int)}(h:NdInv ivs prs i ks) {v:Iv}{p:Nat}(hv:ivs[i]?=some v) (hp:prs[i]?=some p) {m:Int}(hm:m=(dH ks v.reel).getD 0\/m=(p:Int)+1) (h1:(dH ks v.reel).getD 0<=m) (h2:(p:Int)+1<=m):NdInv ivs prs (i+1) (e9 ks v.reel m):=by
 refine ⟨pL h.nd,fun x hx=>?_,fun k u q hk hu hq=>?_,Bm (rF _ _ _) (by have:=h.len; omega)⟩
 ·rcases ve hx with rfl | ⟨hx,hr⟩
  ·by_cases e:m=(p:Int)+1
   ·exact ⟨i,v,p,by omega,hv,rfl,hp,e⟩
   ·have hm:m=(dH ks v.reel).getD 0:=by
     rcases hm with hm | hm
     ·exact hm
     ·exact absurd hm e
    cases hg:dH ks v.reel with
    | none =>
     rw [hg] at hm
     have hm:m=0:=hm
     omega
    | some m0 =>
     rw [hg] at hm
     have hm:m=m0:=hm
     obtain ⟨k,u,q,a1,a2,a3,a4,a5⟩:=h.from_ _ (wj hg)
     exact ⟨k,u,q,by omega,a2,a3,a4,by rw [hm]; exact a5⟩
  ·obtain ⟨k,u,q,a1,a2,a3,a4,a5⟩:=h.from_ x hx
   exact ⟨k,u,q,by omega,a2,a3,a4,a5⟩
 ·rcases Nat.lt_or_ge k i with hk' | hk'
  ·obtain ⟨n,a1,a2⟩:=h.has k u q hk' hu hq
   by_cases e:u.reel=v.reel
   ·rw [e] at a1 ⊢
    rw [mG h.nd a1] at h1
    have h1:n<=m:=h1
    exact ⟨m,kQ,by omega⟩
   ·exact ⟨n,pK a1 e,a2⟩
  ·have e:k=i:=by omega
   subst e
   rw [hv] at hu
   rw [hp] at hq
   cases hu
   cases hq
   exact ⟨m,kQ,h2⟩
theorem NdInv.done {ivs:List Iv}{prs:List Nat}{ks us:List (Str×Int)}(h:NdInv ivs prs ivs.length ks) (pr:PrOk ivs prs) (hl:∀v∈ivs,v.lo<=v.hi) (hp:us.Perm ks) (hw:us.Pairwise (fun x y=>ltS y.1 x.1=false)):Needs ivs us:=by
 refine ⟨⟨(hp.map _).nodup_iff.mpr h.nd,fun r=>?_,CY.mpr hw⟩,fun x hx=>?_⟩
 ·rw [(hp.map _).mem_iff,Be]
  constructor
  ·rintro ⟨x,hx,rfl⟩
   obtain ⟨k,v,p,_,a2,a3,_,_⟩:=h.from_ x hx
   exact ⟨k,v,a2,a3⟩
  ·rintro ⟨k,v,a1,rfl⟩
   have hk:=(AS.mp a1).1
   obtain ⟨m,b1,_⟩:=h.has k v _ hk a1 (AN (by rw [pr.len]; exact hk))
   exact ⟨_,b1,rfl⟩
 ·have hx:=hp.mem_iff.mp hx
  obtain ⟨k,v,p,a1,a2,a3,a4,a5⟩:=h.from_ x hx
  have T:Top ivs prs x.1 p:=⟨⟨k,v,a2,a3,a4⟩,fun k' v' q b1 b2 b3=>by
   obtain ⟨m,c1,c2⟩:=h.has k' v' q (AS.mp b1).1 b1 b3
   rw [b2] at c1
   have e:=(mG h.nd c1).symm.trans (mG h.nd (show (x.1,x.2)∈ks from hx))
   have e:=Ba e
   omega⟩
  rw [a5]
  exact T.need pr hl
def m_ (T:Addr):Sp:=fun vs H Q _=>∃(pl:Addr) (ps:List (Addr×Clip)) (spoil:Int),vs=[.ref pl,.int spoil]/\SLs H pl ps/\ps.length<64/\0<=spoil/\TabOk T j3 j2 H /\
 ∀(D:Addr) (us:List (Addr×Str×Int)) (H':Hp),H D=none->Bt T H H'->TabOk T j3 j2 H'->H' D=some (.lst (us.map fun x=>V.ref x.1))->(∀x∈us,H' x.1=some (.tup [.str x.2.1,.int x.2.2]))->Needs (eQ spoil ps) (us.map (·.2))->us.length<64->Q (.ref D) H'
theorem scNeeds:aq ["strips", "spoil", "many", "strip", "place"] ["strips", "spoil"] (ak jM):=⟨rfl,rfl,rfl,by decide +kernel,rfl,by decide +kernel,by decide +kernel⟩
theorem sD {f T:Addr}{fd:Bg}(F:Fun K "needs" "needs" jM f fd) (dPr:Def P w K mg base CX0 "prints_for" 5 ["strips", "spoil"] (xH T)) (n_zip:mg "zip"=none) (n_max:mg "max"=none) (n_sorted:mg "sorted"=none):aJ P w K mg base CX0 6 f fd ["strips", "spoil"] (m_ T):=by
 refine F.ok scNeeds (fun vs H Q E h=>?_) (fun cdv A outer s H vs Q E hr h=>?_)
 ·obtain ⟨pl,ps,spoil,rfl,_⟩:=h
  rfl
 obtain ⟨pl,ps,spoil,rfl,sl,hn,h0,tab,q⟩:=h
 refine eJ (ag (ax (i:=2) scNeeds.nd kg)
  (ag (bv BM rfl (zZ n_zip (e_v 0) (ap dPr hr aF (aa (e_v 0) (aa (e_v 1) af)))) (fM rfl (aM (aC (i:=3) scNeeds.nd) (aM (aC (i:=4) scNeeds.nd) dA)))
   (ah (lU (fK hr) (e_v 2) (au ao (e_v 3) ae) (e_b (eC rfl) n_max (by decide +kernel) (aa (oH (fK hr) (e_v 2) (au ao (e_v 3) ae) ae) (aa (aD aV (e_v 4) ae) af))))))
  (ah (aB (ke n_sorted (e_v 2)))))) ?_
 intros
 have zl:sizeLine=16777216:=A9
 refine fun pm hpm=>?_
 have s1:=Same.new hpm (.dK [])
 obtain ⟨tps,hT⟩:=tab.at
 have nT:pm≠T:=fun z=>by rw [z,hT] at hpm; cases hpm
 have hpT:pl≠T:=bJ sl.1 hT (by intro z; cases z)
 have hzT:∀x∈ps,x.1≠T:=fun x hx=>bJ (sl.2 x hx) hT (by intro z; cases z)
 refine ⟨_,rfl,_,rfl,_,rfl,pl,ps,spoil,rfl,⟨s1 _ _ sl.1,fun x hx=>s1 _ _ (sl.2 x hx)⟩,hn,h0,tab.same s1,fun lp prs H1 hlp bt tab1 hl1 pr=>?_⟩
 have pr:PrOk (eQ spoil ps) prs:=pr
 have hpl1:=bt _ _ hpT (s1 _ _ sl.1)
 have hpm1:=bt _ _ nT ac
 have nlp:lp≠pm:=fun z=>by rw [z,ac] at hlp; cases hlp
 have hlen:prs.length=ps.length:=by have:=pr.len; rwa [j6] at this
 refine ⟨pl,lp,rfl,⟨_,SqL.of hpl1⟩,⟨_,SqL.of hl1⟩,wn (K:=K) (a:=pl) (b:=lp) (xs:=ps.map fun x=>V.ref x.1) (ys:=prs.map fun p=>V.int ((p:Nat):Int)) (fun i σ H'=>∃(ks:List (Str×Int)) (o3 o4:Option V),σ=[some (.ref pl),some (.int spoil),some (.ref pm),o3,o4]/\H' pm=some (.dK (eKI ks))/\Bt pm H1 H'/\TabOk T j3 j2 H'/\NdInv (eQ spoil ps) prs i ks)
  (by rw [AH,AH,hlen]) ⟨[],none,none,rfl,hpm1,Bt.refl _ _,tab1,NdInv.nil _ _⟩ ?_ ?_ ?_⟩
 ·rintro i σ H' _ ⟨ks,o3,o4,rfl,hm',bt',_,_⟩
  exact ⟨SqL.of (bt' _ _ (bJ hpl1 hpm1 (by intro z; cases z)) hpl1),SqL.of (bt' _ _ nlp hl1)⟩
 ·rintro i x y σ H' pt hx hy ⟨ks,o3,o4,rfl,hm',bt',tab',nd⟩ hpt
  rw [AR] at hx hy
  cases hz:ps[i]? with
  | none=>rw [hz] at hx; cases hx
  | some z =>
   cases hp:prs[i]? with
   | none=>rw [hp] at hy; cases hy
   | some p =>
    rw [hz] at hx
    rw [hp] at hy
    cases hx
    cases hy
    have hil:=(AS.mp hz).1
    have hkl:=nd.len
    have hzm:=Bh hz
    have st:=Same.new hpt (.tup [.ref z.1,.int ((p:Nat):Int)])
    have hz1:=bt _ _ (hzT z hzm) (s1 _ _ (sl.2 z hzm))
    have hz2:=st _ _ (bt' _ _ (bJ hz1 hpm1 (by intro y; cases y)) hz1)
    have hm2:=st _ _ hm'
    refine ⟨pt,_,rfl,SqT.of ac,rfl,_,_,rfl,_,_,rfl,rfl,?_⟩
    refine ⟨_,rfl,pm,rfl,.inl ⟨eKI ks,Rd.of hm2⟩,_,rfl,z.1,_,_,.str z.2.reel,rfl,rfl,SqT.of hz2,ad (j:=0) rfl,aN (eKI ks) (.inr z.2.reel),.inl ⟨eKI ks,.inr z.2.reel,Rd.of hm2,rfl,rfl⟩,?_⟩
    rw [show aN (eKI ks) (.inr z.2.reel)=(dH ks z.2.reel).map V.int from mS V.int _ ks]
    have eo:(((dH ks z.2.reel).map V.int).getD (V.int 0))=V.int ((dH ks z.2.reel).getD 0):=by cases dH ks z.2.reel <;> rfl
    rw [eo]
    have hkz:(eKI ks).length<sizeLine:=by unfold eKI; rw [AH]; omega
    refine ⟨_,rfl,_,_,rfl,rfl,_,_,rfl,?_⟩
    refine ⟨_,rfl,_,rfl,z.1,_,_,.str z.2.reel,rfl,rfl,SqT.of hz2,ad (j:=0) rfl,pm,_,rfl,.inl ⟨eKI ks,.inr z.2.reel,hm2,rfl,hkz,rfl⟩,?_⟩
    have fin:∀(v:Int),(v=(dH ks z.2.reel).getD 0\/v=(p:Int)+1)->(dH ks z.2.reel).getD 0<=v->(p:Int)+1<=v->∃(ks':List (Str×Int)) (o3 o4:Option V),[some (V.ref pl),some (V.int spoil),some (V.ref pm),some (V.ref z.1),some (V.int ((p:Nat):Int))]=[some (V.ref pl),some (V.int spoil),some (V.ref pm),o3,o4] /\
      upd (upd H' pt (.tup [.ref z.1,.int ((p:Nat):Int)])) pm (.dK (bi (eKI ks) (.inr z.2.reel) (V.int v))) pm=some (.dK (eKI ks'))/\Bt pm H1 (upd (upd H' pt (.tup [.ref z.1,.int ((p:Nat):Int)])) pm (.dK (bi (eKI ks) (.inr z.2.reel) (V.int v))))/\TabOk T j3 j2 (upd (upd H' pt (.tup [.ref z.1,.int ((p:Nat):Int)])) pm (.dK (bi (eKI ks) (.inr z.2.reel) (V.int v)))) /\
      NdInv (eQ spoil ps) prs (i+1) ks':=fun v e1 e2 e3 =>
     ⟨e9 ks z.2.reel v,_,_,rfl,by rw [ac]; exact congrArg (fun l=>some (HO.dK l)) (vd V.int ks _ _),(bt'.trans (Bt.of st)).trans Bt.upd,(tab'.same st).write hm2 (fun _ y=>by cases y) (fun _ _ y=>by cases y),nd.step (v:=bz spoil z.2) (v_ hz) hp e1 e2 e3⟩
    have fin2:=fin (if (dH ks z.2.reel).getD 0<(p:Int)+1 then (p:Int)+1 else (dH ks z.2.reel).getD 0) (by split <;> simp) (by split <;> omega) (by split <;> omega)
    exact fin2
 ·rintro σ H' ⟨ks,o3,o4,rfl,hm',bt',tab',nd⟩
  rw [AH,<- j6 spoil ps] at nd
  have hkl:=nd.len
  rw [j6] at hkl
  refine ⟨_,rfl,pm,ks,rfl,Rd.of hm',nd.nd,by omega,fun D us H2 sm hD hl2 ht hp hw=>?_⟩
  have hul:us.length<64:=by have:=hp.length_eq; rw [AH] at this; omega
  refine q D us H2 ?_ (fun b o h1 h2=>sm _ _ (bt' _ _ (am h2 hpm) (bt _ _ h1 (s1 _ _ h2)))) (tab'.same sm) hl2 ht (nd.done pr (yQ h0 ps) hp (CY.mpr hw)) hul
  cases hH:H D with
  | none=>rfl
  | some o =>
   by_cases e:D=T
   ·obtain ⟨tt,ht'⟩:=tab'.at
    rw [e,ht'] at hD
    cases hD
   ·rw [bt' _ _ (am hH hpm) (bt _ _ e (s1 _ _ hH))] at hD
    cases hD
end
section
variable {P:Program}{w:Bj}{K:AK}{mg:Str->Option Value}{base:Heap}
def yP (n:Nat):Int:=if (0:Int) > (n:Int)-1 then 0 else (n:Int)-1
def nr:Sp:=fun vs H Q _=>∃(pc:Addr) (ps:List (Addr×Clip)) (n:Nat),vs=[.ref pc]/\CL 1000 n H pc ps/\n<=1000000/\ps.length<=100 /\
 ∀(H':Hp),Same H H'->Q (.int (yP (aL (moments (ps.map (·.2)))).length)) H'
theorem u5:aq ["clips"] ["clips"] (ak jO):=⟨rfl,rfl,rfl,by decide +kernel,rfl,by decide +kernel,by decide +kernel⟩
theorem sK {f:Addr}{fd:Bg}(F:Fun K "joins" "joins" jO f fd) (dStrips:Def P w K mg base CX0 "strips_of" 4 ["clips"] gX) (n_len:mg "len"=none) (n_max:mg "max"=none):aJ P w K mg base CX0 5 f fd ["clips"] nr:=by
 refine F.ok u5 (fun vs H Q E h=>?_) (fun cdv A outer s H vs Q E hr h=>?_)
 ·obtain ⟨pc,ps,n,rfl,_⟩:=h
  rfl
 obtain ⟨pc,ps,n,rfl,cl,hn,hpl,q⟩:=h
 refine dN (ah (aB (e_b (eC rfl) n_max (by decide +kernel) (aa (aD bL (e_b aH n_len Cc (aa (ap dStrips hr aF (aa (e_v 0) af)) af)) ae) (aa ae af))))) ?_
 refine ⟨_,rfl,pc,ps,n,rfl,cl,hn,hpl,fun l rs H1 s1 hl sl er=>?_⟩
 refine ⟨l,_,rfl,.inl (SqL.of sl.1),_,_,rfl,rfl,_,_,rfl,?_⟩
 have e:((rs.reverse.map fun x=>V.ref x.1).length:Int)=((aL (moments (ps.map (·.2)))).length:Int):=by rw [AH,A7,<- er,AH]
 rw [e]
 exact q H1 s1
end
end K56
namespace KS
open PySem
end KS
namespace L2
open PySem PySem.Spec PyProof.Rows
section
variable {X:Cx}{tg:Expr}
end
end L2
namespace KS
open PySem L2 G
end KS
namespace KS
open PySem
structure Frm where
 reel:Str
 n:Int
 p:Int
 w:Int
def putF (S:List (List Frm)) (c:Clip) (B k:Nat) (n:Int):List (List Frm) :=
 if (k:Int)<c.f then S.set (B+k) (match S.getD (B+k) [] with
  | []=>[]
  | g :: _=>[⟨g.reel,g.n,c.f-k,c.f+1⟩,⟨c.reel,n,k+1,c.f+1⟩])
 else S++[[⟨c.reel,n,1,1⟩]]
def shK (S:List (List Frm)) (c:Clip) (B:Nat):Nat->List (List Frm)
 | 0=>S
 | k+1=>putF (shK S c B k) c B k (c.a+(k:Int)*c.way)
def showC (S:List (List Frm)) (c:Clip):List (List Frm):=shK S c (S.length-c.f.toNat) c.cnt
def shown (cs:List Clip):List (List Frm):=cs.foldl showC []
theorem v5 (S:List (List Frm)) (c:Clip) (B k:Nat) (n:Int):(putF S c B k n).length=if (k:Int)<c.f then S.length else S.length+1:=by
 unfold putF
 split
 ·rw [Fb]
 ·rw [AW]; rfl
theorem fJ (S:List (List Frm)) (c:Clip) (B:Nat) (h:0<=c.f):∀k,(shK S c B k).length=S.length+(k-c.f.toNat)
 | 0=>by simp [shK]
 | k+1=>by
  show (putF _ c B k _).length=_
  rw [v5,fJ S c B h k]
  split <;> omega
theorem jk (S:List (List Frm)) (c:Clip) (h:0<=c.f):(showC S c).length=S.length+(c.cnt-c.f.toNat):=fJ S c _ h _
structure FOk (f:Frm):Prop where
 rf:C9 f.reel=true
def gF (S:List (List Frm)):Prop:=∀m∈S,m≠[]/\(∀f∈m,FOk f)/\m.length<=2
theorem yG {S:List (List Frm)}{c:Clip}{B k:Nat}{n:Int}(h:gF S) (hc:C9 c.reel=true) (hb:(k:Int)<c.f->B+k<S.length):gF (putF S c B k n):=by
 unfold putF
 split
 ·rename_i hk
  intro m hm
  rcases List.mem_or_eq_of_mem_set hm with hm | rfl
  ·exact h m hm
  ·have hg:S[B+k]?=some S[B+k]:=AN (hb hk)
   have hd:S.getD (B+k) []=S[B+k]:=by rw [AT,hg]; rfl
   obtain ⟨h1,h2,_⟩:=h _ (BX (hb hk))
   rw [hd]
   cases hx:S[B+k] with
   | nil=>exact absurd hx h1
   | cons g r =>
    refine ⟨by simp,fun f hf=>?_,AM 2⟩
    simp only [AX,Cf,or_false] at hf
    rcases hf with rfl | rfl
    ·exact ⟨(h2 g (by rw [hx]; exact AQ ..)).rf⟩
    ·exact ⟨hc⟩
 ·intro m hm
  rcases CG.mp hm with hm | hm
  ·exact h m hm
  ·rw [Bi.mp hm]
   exact ⟨by simp,fun f hf=>by rw [Bi.mp hf]; exact ⟨hc⟩,DM 1⟩
theorem l9 {S:List (List Frm)}{c:Clip}{B:Nat}(h:gF S) (hc:C9 c.reel=true) (f0:0<=c.f) (hb:B+c.f.toNat<=S.length):∀k,gF (shK S c B k)
 | 0=>h
 | k+1=>yG (l9 h hc f0 hb k) hc fun hk=>by rw [fJ S c B f0 k]; omega
structure Sd (cs:List Clip):Prop where
 f0:∀c∈cs,0<=c.f
 f1:∀c∈cs,c.f<=c.cnt
 f2:∀(i:Nat) c,cs[i]?=some c->c.f<=((shown (cs.take i)).length:Int)
 rf:∀c∈cs,C9 c.reel=true
theorem pG (cs:List Clip) (c:Clip):shown (cs++[c])=showC (shown cs) c:=by unfold shown; rw [Dw]; rfl
theorem df {cs:List Clip}{i:Nat}{c:Clip}(h:cs[i]?=some c):shown (cs.take (i+1))=showC (shown (cs.take i)) c:=by
 rw [Cy,h]
 exact pG _ _
theorem ib {cs:List Clip}(h:Sd cs):∀i,i<=cs.length->gF (shown (cs.take i))
 | 0,_=>fun m hm=>by simp [shown] at hm
 | i+1,hi=>by
  have hx:cs[i]?=some cs[i]:=AN (by omega)
  have hm:=BX (l:=cs) (n:=i) (by omega)
  rw [df hx]
  have f0:=h.f0 _ hm
  have f2:=h.f2 i _ hx
  exact l9 (ib h i (by omega)) (h.rf _ hm) f0 (by omega) _
theorem f_ {m:Nat}{cs:List Clip}(h:Sd cs) (hm:∀c∈cs,c.cnt<=m):∀i,i<=cs.length->(shown (cs.take i)).length<=m*i
 | 0,_=>by simp [shown]
 | i+1,hi=>by
  have hx:cs[i]?=some cs[i]:=AN (by omega)
  have hm':=BX (l:=cs) (n:=i) (by omega)
  have ih:=f_ h hm i (by omega)
  have:=hm _ hm'
  rw [df hx,jk _ _ (h.f0 _ hm'),Nat.mul_succ]
  omega
end KS
namespace K56
open PySem L2 G KS
open DT hiding iteN iteY
def _root_.KS.Frm.d (f:Frm):PyData:=.tuple [.str f.reel,.int f.n,.int f.p,.int f.w]
def _root_.KS.Frm.vs (f:Frm):List V:=[.str f.reel,.int f.n,.int f.p,.int f.w]
def gC (m:List Frm):PyData:=.tuple (m.map Frm.d)
def SH (H:Hp) (p:Addr) (S:List (List Frm)):Prop:=∃vs,H p=some (.lst vs)/\Tds H vs (S.map gC)
theorem SH.same {H H':Hp}{p:Addr}{S:List (List Frm)}(h:SH H p S) (s:Same H H'):SH H' p S:=by
 obtain ⟨vs,h1,h2⟩:=h
 exact ⟨vs,s _ _ h1,h2.tk (TK.of s)⟩
theorem qL {H:Hp}{v:V}{f:Frm}(h:Td H v f.d):∃a,v=.ref a/\H a=some (.tup f.vs):=by
 obtain ⟨a,vs,rfl,h1,h2⟩:=h.tinv
 cases h2 with | cons a1 h2=>cases h2 with | cons a2 h2=>cases h2 with | cons a3 h2=>cases h2 with | cons a4 h2=>cases h2; rw [a1.sinv,a2.iinv,a3.iinv,a4.iinv] at h1; exact ⟨_,rfl,h1⟩
theorem jY {H:Hp}{a:Addr}{f:Frm}(h:H a=some (.tup f.vs)):Td H (.ref a) f.d:=.tup h (.cons (.str _) (.cons (.int _) (.cons (.int _) (.cons (.int _) .nil))))
theorem xG {H:Hp}{v:V}{g:Frm}{r:List Frm}(h:Td H v (gC (g :: r))):∃a b rest,v=.ref a/\H a=some (.tup (.ref b :: rest))/\H b=some (.tup g.vs):=by
 obtain ⟨a,vs,rfl,h1,h2⟩:=h.tinv
 cases h2 with
 | cons a1 h2 =>
  obtain ⟨b,rfl,hb⟩:=qL a1
  exact ⟨a,b,_,rfl,h1,hb⟩
theorem mT {H:Hp}{v:V}{d:PyData}(h:Td H v d):∀{vs:List V}{ds:List PyData}(i:Nat),Tds H vs ds->Tds H (vs.set i v) (ds.set i d)
 | _,_,_,.nil=>.nil
 | _,_,0,.cons _ r=>.cons h r
 | _,_,i+1,.cons a r=>.cons a (mT h i r)
section
variable {P:Program}{w:Bj}{K:AK}{mg:Str->Option Value}{base:Heap}
def nu:Sp:=fun vs H Q _=>∃(gt:Addr) (g:Frm) (r:Str) (n pa wh:Int),vs=[.ref gt,.str r,.int n,.int pa,.int wh]/\H gt=some (.tup g.vs)/\∀p H',Same H H'->Td H' (.ref p) (gC [⟨g.reel,g.n,wh-pa,wh⟩,⟨r,n,pa,wh⟩])->Q (.ref p) H'
theorem u8:aq ["going", "reel", "number", "part", "whole"] ["going", "reel", "number", "part", "whole"] (ak jP):=⟨rfl,rfl,rfl,by decide +kernel,rfl,by decide +kernel,by decide +kernel⟩
theorem sO {f:Addr}{fd:Bg}(F:Fun K "faded" "faded" jP f fd):aJ P w K mg base CX0 1 f fd ["going", "reel", "number", "part", "whole"] nu:=by
 refine F.ok u8 (fun vs H Q E h=>?_) (fun cdv A outer s H vs Q E hr h=>?_)
 ·obtain ⟨gt,g,r,n,pa,wh,rfl,_⟩:=h
  rfl
 obtain ⟨gt,g,r,n,pa,wh,rfl,hg,q⟩:=h
 refine dN (ah (aB (ba (aa (aD fF (ge eg (e_v 0) cB (bj ae)) (ba (aa (aD bL (e_v 4) (e_v 3)) (aa (e_v 4) af)))) (aa (ba (aa (e_v 1) (aa (e_v 2) (aa (e_v 3) (aa (e_v 4) af))))) af))))) ?_
 refine ⟨_,rfl,_,rfl,gt,_,rfl,hg,fun p1 H1 s1 hp1=>?_⟩
 have hp1:H1 p1=some (.tup [.str g.reel,.int g.n]):=hp1
 refine ⟨_,rfl,_,rfl,_,_,rfl,rfl,_,rfl,(by show 2<=sizeLine; decide),fun p2 hp2=>?_⟩
 have s2:=Same.new hp2 (.tup [.int (wh-pa),.int wh])
 refine ⟨p1,p2,_,_,rfl,rfl,s2 _ _ hp1,ac,(by show 2+2<=sizeLine; decide),fun p3 H3 s3 hp3=>?_⟩
 refine ⟨_,rfl,_,rfl,_,rfl,_,rfl,(by show 4<=sizeLine; decide),fun p4 hp4=>⟨(by show 2<=sizeLine; decide),fun p5 hp5=>?_⟩⟩
 have s4:=Same.new hp4 (.tup (Frm.vs ⟨r,n,pa,wh⟩))
 have s5:=Same.new hp5 (.tup [.ref p3,.ref p4])
 refine q p5 _ ((((s1.trans s2).trans s3).trans s4).trans s5) (.tup ac (.cons (jY (f:=⟨g.reel,g.n,wh-pa,wh⟩) (s5 _ _ (s4 _ _ hp3))) (.cons (jY (f:=⟨r,n,pa,wh⟩) (s5 _ _ ac)) .nil)))
def zA:Sp:=fun vs H Q _=>∃(pl pc:Addr) (S:List (List Frm)) (c:Clip),vs=[.ref pl,.ref pc]/\SH H pl S/\H pc=some (.tup c.vs)/\Sm c/\C9 c.reel=true/\0<=c.f/\c.f<=(S.length:Int)/\gF S/\S.length<=100000 /\
 ∀H',Bt pl H H'->SH H' pl (showC S c)->Q .non H'
theorem scSC:aq ["moments", "clip", "fade", "begin", "k", "number", "going"] ["moments", "clip"] (ak dS):=⟨rfl,rfl,rfl,by decide +kernel,rfl,by decide +kernel,by decide +kernel⟩
theorem zV {f:Addr}{fd:Bg}(F:Fun K "show_clip" "show_clip" dS f fd) (dNos:Def P w K mg base CX0 "numbers_of" 2 ["clip"] xI) (dFaded:Def P w K mg base CX0 "faded" 1 ["going", "reel", "number", "part", "whole"] nu) (n_len:mg "len"=none) (n_enumerate:mg "enumerate"=none):aJ P w K mg base CX0 3 f fd ["moments", "clip"] zA:=by
 refine F.ok scSC (fun vs H Q E h=>?_) (fun cdv A outer s H vs Q E hr h=>?_)
 ·obtain ⟨pl,pc,S,c,rfl,_⟩:=h
  rfl
 obtain ⟨pl,pc,S,c,rfl,⟨vs0,hv0,td0⟩,hc,sm,rf,f0,f1,mk,hSl,q⟩:=h
 refine eJ (ag (ax (i:=2) scSC.nd (au ao (e_v 1) ae))
  (ag (ax (i:=3) scSC.nd (aD bL (e_b aH n_len Cc (aa (e_v 0) af)) (e_v 2)))
  (ah (bv BM rfl (mC n_enumerate (ap dNos hr aF (aa (e_v 1) af))) (fM rfl (aM (aC (i:=4) scSC.nd) (aM (aC (i:=5) scSC.nd) dA)))
   (ah (fC (bb (aK gk (e_v 4) (e_v 2))
    (ag (ax (i:=6) scSC.nd (au ao (au aE (e_v 0) (aD aV (e_v 3) (e_v 4))) ae))
    (ah (i5 (ap dFaded hr aF (aa (e_v 6) (aa (au ao (e_v 1) ae) (aa (e_v 5) (aa (aD aV (e_v 4) ae) (aa (aD aV (e_v 2) ae) af)))))) (oA (e_v 0) (aD aV (e_v 3) (e_v 4))))))
    (ah (aO (bn (e_v 0) (ba (aa (ba (aa (au ao (e_v 1) ae) (aa (e_v 5) (aa ae (aa ae af))))) af)))))))))))) ?_
 intros
 have zl:sizeLine=16777216:=A9
 have l0:vs0.length=S.length:=by rw [td0.len,AH]
 refine ⟨_,rfl,pc,_,_,.int c.f,rfl,rfl,SqT.of hc,ad (j:=3) rfl,?_⟩
 refine ⟨_,rfl,pl,_,rfl,.inl (SqL.of hv0),_,rfl,_,_,rfl,rfl,?_⟩
 refine ⟨_,rfl,pc,c,rfl,hc,sm,fun l1 hl1=>?_⟩
 have s1:=Same.new hl1 (.lst (c.nums.map V.int))
 have npl:pc≠pl:=bJ hc hv0 (by intro z; cases z)
 have nl1:l1≠pl:=fun e=>by rw [e,hv0] at hl1; cases hl1
 have hcn:=sm.cnt
 obtain ⟨B,hB⟩:∃B:Nat,B=S.length-c.f.toNat:=⟨_,rfl⟩
 have eB:(vs0.length:Int)-c.f=(B:Int):=by rw [l0,hB]; omega
 refine ⟨l1,rfl,⟨_,SqL.of ac⟩,iB (K:=K) (a:=l1) (xs:=c.nums.map V.int) (fun k σ H2=>∃(o4 o5 o6:Option V),σ=[some (.ref pl),some (.ref pc),some (.int c.f),some (.int ((vs0.length:Int)-c.f)),o4,o5,o6]/\SH H2 pl (shK S c B k)/\H2 l1=some (.lst (c.nums.map V.int))/\Bt pl H H2)
  ⟨none,none,none,rfl,⟨vs0,s1 _ _ hv0,td0.tk (TK.of s1)⟩,ac,Bt.of s1⟩ ?_ ?_ ?_⟩
 ·rintro k σ H2 hk ⟨o4,o5,o6,rfl,sh,hl2,bt⟩
  exact SqL.of hl2
 ·rintro k y σ H2 pt hy ⟨o4,o5,o6,rfl,⟨vs2,hv2,td2⟩,hl2,bt⟩ hpt
  rw [AR] at hy
  cases hu:c.nums[k]? with
  | none=>rw [hu] at hy; cases hy
  | some u =>
   rw [hu] at hy
   cases hy
   have hkc:k<c.cnt:=by
    have:=(AS.mp hu).1
    rwa [Clip.nums_len] at this
   have eu:u=c.a+(k:Int)*c.way:=by
    rw [bw hkc] at hu
    cases hu
    rfl
   have st:=Same.new hpt (.tup [.int (k:Int),.int u])
   have hc2:=st _ _ (bt _ _ npl hc)
   have td3:=td2.tk (TK.of st)
   have hl3:=st _ _ hl2
   have lk:vs2.length=S.length+(k-c.f.toNat):=by rw [td2.len,AH,fJ S c B f0 k]
   refine ⟨pt,_,rfl,SqT.of ac,rfl,_,_,rfl,_,_,rfl,rfl,?_⟩
   refine ⟨fun σ' H4=>∃(o6:Option V),σ'=[some (.ref pl),some (.ref pc),some (.int c.f),some (.int ((vs0.length:Int)-c.f)),some (.int (k:Int)),some (.int u),o6]/\SH H4 pl (shK S c B (k+1))/\H4 l1=some (.lst (c.nums.map V.int))/\Bt pl H H4,?_,?_⟩
   ·refine ⟨_,rfl,_,rfl,_,_,rfl,rfl,_,rfl,?_⟩
    refine fc (fun z=>?_) (fun z=>?_)
    ·have z:=of_decide_eq_true z
     have hb:B+k<(shK S c B k).length:=by rw [fJ S c B f0 k]; omega
     have mok:=l9 mk rf f0 (B:=B) (by omega) k
     have hg:(shK S c B k)[B+k]?=some (shK S c B k)[B+k]:=AN hb
     have hne:=(mok _ (BX hb)).1
     have epf:shK S c B (k+1)=KS.putF (shK S c B k) c B k (c.a+(k:Int)*c.way):=rfl
     generalize (shK S c B k)[B+k]=m at hg hne
     cases m with
     | nil=>exact absurd rfl hne
     | cons g r =>
      obtain ⟨v,hv,tv⟩:=td3.at (i:=B+k) (d:=gC (g :: r)) (by rw [AR,hg]; rfl)
      obtain ⟨ma,gt,rest,rfl,hma,hgt⟩:=xG tv
      have av:atI vs2 ((vs0.length:Int)-c.f+(k:Int))=some (.ref ma):=by
       rw [eB,show (B:Int)+(k:Int)=((B+k:Nat):Int) by omega]
       exact ad hv
      refine ⟨_,rfl,_,rfl,_,rfl,_,_,rfl,rfl,pl,_,_,.ref ma,rfl,rfl,SqL.of (st _ _ hv2),av,ma,_,_,.ref gt,rfl,rfl,SqT.of hma,ad (j:=0) rfl,?_⟩
      refine ⟨_,rfl,_,rfl,pc,_,_,.str c.reel,rfl,rfl,SqT.of hc2,ad (j:=0) rfl,_,rfl,_,rfl,_,_,rfl,rfl,_,rfl,_,_,rfl,rfl,gt,g,c.reel,u,_,_,rfl,hgt,fun p H5 s5 tp=>?_⟩
      have hv5:=s5 _ _ (st _ _ hv2)
      have T5:TK (upd H2 pt (.tup [.int (k:Int),.int u])) H5:=TK.of s5
      refine ⟨_,rfl,_,rfl,_,rfl,_,_,rfl,rfl,pl,_,_,B+k,rfl,rfl,hv5,?_,_,rfl,⟨vs2.set (B+k) (.ref p),ac,?_⟩,?_,?_⟩
      ·rw [eB,show (B:Int)+(k:Int)=((B+k:Nat):Int) by omega]
       exact j5 (by omega)
      ·rw [epf]
       unfold KS.putF
       rw [if_pos z,AT,hg,List.map_set]
       refine mT ?_ (B+k) ((td3.tk T5).tk (TK.lst hv5))
       have e1:(c.f+1-((k:Int)+1))=c.f-(k:Int):=by omega
       rw [e1,eu] at tp
       exact tp.tk (TK.lst hv5)
      ·rw [aj nl1]
       exact s5 _ _ hl3
      ·exact (bt.trans (Bt.of (st.trans s5))).trans Bt.upd
    ·have z:¬ (k:Int)<c.f:=fun y=>z (decide_eq_true y)
     refine ⟨_,rfl,.inl ⟨rfl,_,SqL.of (st _ _ hv2)⟩,_,rfl,pc,_,_,.str c.reel,rfl,rfl,SqT.of hc2,ad (j:=0) rfl,_,rfl,(by show 4<=sizeLine; decide),fun p5 hp5=>⟨(by show 1<=sizeLine; decide),fun p6 hp6=>?_⟩⟩
     have s5:=Same.new hp5 (.tup (Frm.vs ⟨c.reel,u,1,1⟩))
     have s6:=Same.new hp6 (.tup [.ref p5])
     have hv6:=s6 _ _ (s5 _ _ (st _ _ hv2))
     refine ⟨pl,_,_,rfl,rfl,hv6,by omega,_,rfl,⟨vs2++[.ref p6],ac,?_⟩,?_,?_⟩
     ·show Tds _ _ ((KS.putF (shK S c B k) c B k (c.a+(k:Int)*c.way)).map gC)
      unfold KS.putF
      rw [if_neg z,A8,<- eu]
      refine ((td3.tk (TK.of (s5.trans s6))).tk (TK.lst hv6)).app (.cons ?_ .nil)
      exact Td.tk (TK.lst hv6) (.tup ac (.cons (jY (f:=⟨c.reel,u,1,1⟩) (s6 _ _ ac)) .nil))
     ·rw [aj nl1]
      exact s6 _ _ (s5 _ _ hl3)
     ·exact (bt.trans (Bt.of ((st.trans s5).trans s6))).trans Bt.upd
   ·rintro σ H4 ⟨o6',rfl,sh4,hl4,bt4⟩
    exact ⟨_,_,_,rfl,sh4,hl4,bt4⟩
 ·rintro σ H2 ⟨o4,o5,o6,rfl,sh,hl2,bt⟩
  rw [AH,Clip.nums_len] at sh
  rw [hB] at sh
  exact q H2 bt sh
def m4:Sp:=fun vs H Q _=>∃(pc:Addr) (ps:List (Addr×Clip)) (n:Nat),vs=[.ref pc]/\CL 100 n H pc ps/\n<=1000000/\ps.length<=100/\Sd (ps.map (·.2)) /\
 ∀(l:Addr) (H':Hp),Same H H'->H l=none->SH H' l (shown (ps.map (·.2)))->Q (.ref l) H'
theorem scShown:aq ["clips", "moments", "clip"] ["clips"] (ak jK):=⟨rfl,rfl,rfl,by decide +kernel,rfl,by decide +kernel,by decide +kernel⟩
theorem sA {f:Addr}{fd:Bg}(F:Fun K "shown" "shown" jK f fd) (dSC:Def P w K mg base CX0 "show_clip" 3 ["moments", "clip"] zA):aJ P w K mg base CX0 4 f fd ["clips"] m4:=by
 refine F.ok scShown (fun vs H Q E h=>?_) (fun cdv A outer s H vs Q E hr h=>?_)
 ·obtain ⟨pc,ps,n,rfl,_⟩:=h
  rfl
 obtain ⟨pc,ps,N,rfl,cl,hN,hpl,sd,q⟩:=h
 refine eJ (ag (ax (i:=1) scShown.nd (aW af))
  (ag (bv BM rfl (cC (e_v 0)) (aC (i:=2) scShown.nd)
   (ah (aO (ap dSC hr aF (aa (e_v 1) (aa (e_v 2) af))))))
  (ah (aB (e_v 1))))) ?_
 intros
 have zl:sizeLine=16777216:=A9
 have ml:(ps.map (·.2)).length=ps.length:=AH ..
 refine ⟨(by show 0<=sizeLine; decide),fun pl hp=>?_⟩
 have s0:=Same.new hp (.lst [])
 have cnt:∀c∈ps.map (·.2),c.cnt<=100:=fun c hc=>by
  obtain ⟨x,hx,rfl⟩:=Be.mp hc
  exact (cl.2 x hx).2.d
 refine ⟨_,rfl,pc,rfl,⟨_,SqL.of (s0 _ _ cl.1)⟩,bU (xs:=ps.map fun x=>V.ref x.1) (fun i σ H'=>∃(o2:Option V),σ=[some (.ref pc),some (.ref pl),o2]/\SH H' pl (shown ((ps.map (·.2)).take i))/\Same H H')
  ⟨none,rfl,⟨[],ac,.nil⟩,s0⟩ ?_ ?_ ?_⟩
 ·rintro i σ H' hi ⟨o2,rfl,sh,hS⟩
  exact SqL.of (hS _ _ cl.1)
 ·rintro i x σ H' hx ⟨o2,rfl,sh,hS⟩
  rw [AR] at hx
  cases hz:ps[i]? with
  | none=>rw [hz] at hx; cases hx
  | some z =>
   rw [hz] at hx
   cases hx
   have hi:i<ps.length:=(AS.mp hz).1
   obtain ⟨hc,ok⟩:=cl.2 z (Bh hz)
   have hcz:(ps.map (·.2))[i]?=some z.2:=by rw [AR,hz]; rfl
   have hm:z.2∈ps.map (·.2):=Bh hcz
   have lb:=f_ sd cnt i (by omega)
   refine ⟨_,rfl,_,rfl,pl,z.1,_,z.2,rfl,sh,hS _ _ hc,ok.sm hN,sd.rf _ hm,sd.f0 _ hm,sd.f2 i _ hcz,ib sd i (by omega),by omega,fun H2 bt sh2=>?_⟩
   refine ⟨_,rfl,?_,Bt.same hS bt hp⟩
   rw [df hcz]
   exact sh2
 ·rintro σ H' ⟨o2,rfl,sh,hS⟩
  rw [AH,<- ml,BJ] at sh
  exact ⟨_,rfl,q pl H' hS hp sh⟩
end
end K56
namespace KS
open PySem
def cD:List Int->Int->Prop
 | [],_=>False
 | [a],n=>(n-a).natAbs=1
 | a :: b :: _,n=>n-a=a-b
instance:∀(l:List Int) (n:Int),Decidable (cD l n)
 | [],_=>inferInstanceAs (Decidable False)
 | [a],n=>inferInstanceAs (Decidable ((n-a).natAbs=1))
 | a :: b :: _,n=>inferInstanceAs (Decidable (n-a=a-b))
def iY (R:List (List Int)) (m:Int×Int):List (List Int):=match R with
 | []=>[[m.1]]
 | l :: r=>if m.2<=0/\cD l m.1 then (m.1 :: l) :: r else [m.1] :: l :: r
def kq (R:List (List Int)) (m:Int×Int) (R':List (List Int)):Prop:=R'=[m.1] :: R\/∃l r,R=l :: r/\m.2<=0/\cD l m.1/\R'=(m.1 :: l) :: r
def b2 (b:Bool):Nat:=if b then 1 else 0
def fQ (hit:Int->Bool) (R:List (List Int)):Nat:=(R.filter fun l=>l.any hit).length
theorem aT (hit:Int->Bool) (l:List Int) (R:List (List Int)):fQ hit (l :: R)=b2 (l.any hit)+fQ hit R:=by
 unfold fQ b2
 rw [B8]
 split
 ·rw [AZ]; omega
 ·omega
theorem Aj (a b:Bool):b2 (a||b)<=b2 a+b2 b:=by cases a <;> cases b <;> decide
def qA (hit:Int->Bool):Prop:=∀(u d:Int),(d=1\/d=-1)->hit u=true->hit (u-d)=false->∀k:Nat,1<=k->hit (u-(k:Int)*d)=false
def dn (u d:Int):Nat->List Int
 | 0=>[]
 | k+1=>(u-((k+1:Nat):Int)*d) :: dn u d k
theorem um {u d v:Int}:∀{k:Nat},v∈dn u d k->∃j:Nat,1<=j/\v=u-(j:Int)*d
 | 0,h=>by cases h
 | k+1,h=>by
  rcases AX.mp h with rfl | h
  ·exact ⟨k+1,by omega,rfl⟩
  ·exact um h
def R1 (g:List Int):Prop:=∀u w r,g=u :: w :: r->(u-w).natAbs=1
inductive Jn (hit:Int->Bool):List (List Int)->List (List Int)->Prop
 | A {o t:List Int}{GR OR:List (List Int)}:o≠[]->R1 (o++t)->fQ hit GR+b2 (t.any hit)<=fQ hit OR->Jn hit ((o++t) :: GR) (o :: OR)
 | B {u d w:Int}{k:Nat}{r:List Int}{GR OR:List (List Int)}:1<=k->d=u-w->(d=1\/d=-1)->fQ hit GR+b2 ((w :: r).any hit)<=fQ hit OR->Jn hit (dn u d k :: (u :: w :: r) :: GR) ((dn u d k++[u]) :: OR)
theorem Jn.total {hit:Int->Bool}(C:qA hit) {GR OR:List (List Int)}(h:Jn hit GR OR):fQ hit GR<=fQ hit OR:=by
 cases h with
 | A ho hr hc =>
  rename_i o t GR OR
  rw [aT,aT,List.any_append]
  have:=Aj (o.any hit) (t.any hit)
  omega
 | B hk hd hd1 hc =>
  rename_i u d w k r GR OR
  rw [aT,aT,aT,List.any_append]
  have e1:(u :: w :: r).any hit=(hit u||(w :: r).any hit):=rfl
  have e2:[u].any hit=hit u:=by simp
  rw [e1,e2]
  cases hw:(w :: r).any hit with
  | true =>
   rw [hw] at hc
   cases (dn u d k).any hit <;> cases hit u <;> simp [b2] at hc ⊢ <;> omega
  | false =>
   rw [hw] at hc
   cases hu:hit u with
   | false=>cases (dn u d k).any hit <;> simp [b2] at hc ⊢ <;> omega
   | true =>
    have hw':hit (u-d)=false:=by
     have e:u-d=w:=by omega
     rw [e]
     simp only [Ef,Bool.or_eq_false_iff] at hw
     exact hw.1
    have hn:(dn u d k).any hit=false:=by
     rw [List.any_eq_false]
     intro v hv
     obtain ⟨j,hj,rfl⟩:=um hv
     rw [C u d hd1 hu hw' j hj]
     decide
    rw [hn]
    simp [b2] at hc ⊢
    omega
theorem sm1 (k:Nat) (d:Int):((k+1:Nat):Int)*d=(k:Int)*d+d:=by rw [Dq,Int.add_mul]; omega
theorem oz {u d n:Int}:∀{k:Nat},1<=k->cD (dn u d k++[u]) n->n=u-((k+1:Nat):Int)*d
 | 1,_,h=>by
  have h:n-(u-((0+1:Nat):Int)*d)=(u-((0+1:Nat):Int)*d)-u:=h
  have e:((0+1:Nat):Int)*d=d:=by omega
  rw [e] at h
  have e2:((1+1:Nat):Int)*d=2*d:=rfl
  rw [e2]
  omega
 | k+2,_,h=>by
  have h:n-(u-((k+1+1:Nat):Int)*d)=(u-((k+1+1:Nat):Int)*d)-(u-((k+1:Nat):Int)*d):=h
  have e1:((k+1+1:Nat):Int)*d=((k+1:Nat):Int)*d+d:=by rw [Dq,Int.add_mul]; omega
  have e2:((k+2+1:Nat):Int)*d=((k+1+1:Nat):Int)*d+d:=sm1 (k+1+1) d
  rw [e2]
  omega
theorem tW {u d n:Int}(hd:d=1\/d=-1):∀{k:Nat},1<=k->cD (dn u d k++[u]) n->cD (dn u d k) n
 | 1,_,h=>by
  have:=oz (by omega) h
  show (n-(u-((0+1:Nat):Int)*d)).natAbs=1
  rw [this]
  rcases hd with rfl | rfl <;> omega
 | k+2,_,h=>h
theorem R1.ext {g:List Int}{n:Int}(h:R1 g) (hg:cD g n):R1 (n :: g):=by
 intro u w r e
 cases g with
 | nil=>cases e
 | cons a t =>
  cases e
  cases r with
  | nil=>exact hg
  | cons b t =>
   have h1:=h w b t rfl
   have h2:n-w=w-b:=hg
   rw [h2]
   exact h1
theorem Jn.step {hit:Int->Bool}(C:qA hit) {GR OR OR':List (List Int)}{m:Int×Int}(h:Jn hit GR OR) (hc:kq OR m OR'):Jn hit (iY GR m) OR':=by
 have tot:=h.total C
 have one:∀n:Int,R1 [n]:=fun n u w r e=>by cases e
 cases h with
 | A ho hr hcn =>
  rename_i o t GR OR
  unfold iY
  dsimp only
  rw [aT,aT] at tot
  by_cases hx:m.2<=0/\cD (o++t) m.1
  ·rw [if_pos hx]
   rcases hc with rfl | ⟨l,r,e,h1,h2,rfl⟩
   ·exact .A (o:=[m.1]) (t:=o++t) (by simp) (hr.ext hx.2) (by rw [aT]; omega)
   ·cases e
    exact .A (o:=m.1 :: o) (t:=t) (by simp) (hr.ext hx.2) hcn
  ·rw [if_neg hx]
   rcases hc with rfl | ⟨l,r,e,h1,h2,rfl⟩
   ·exact .A (o:=[m.1]) (t:=[]) (by simp) (one _) (by rw [aT,aT]; show _+0<=_; omega)
   ·cases e
    cases o with
    | nil=>exact absurd rfl ho
    | cons u o =>
     cases o with
     | cons w o=>exact absurd ⟨h1,h2⟩ hx
     | nil =>
      cases t with
      | nil=>exact absurd ⟨h1,h2⟩ hx
      | cons w t =>
       have hd:=hr u w t rfl
       have h2':(m.1-u).natAbs=1:=h2
       have hne:¬ (m.1-u=u-w):=fun z=>hx ⟨h1,z⟩
       have e1:m.1=u-((0+1:Nat):Int)*(u-w):=by
        have:((0+1:Nat):Int)*(u-w)=u-w:=by omega
        rw [this]
        omega
       have e2:[m.1]=dn u (u-w) 1:=by
        show _=[_]
        rw [<- e1]
       have e3:[m.1,u]=dn u (u-w) 1++[u]:=by rw [<- e2]; rfl
       rw [e2,e3]
       exact .B (by omega) rfl (by omega) hcn
 | B hk hd hd1 hcn =>
  rename_i u d w k r GR OR
  unfold iY
  dsimp only
  rw [aT,aT (R:=OR)] at tot
  by_cases hx:m.2<=0/\cD (dn u d k) m.1
  ·rw [if_pos hx]
   rcases hc with rfl | ⟨l,r',e,h1,h2,rfl⟩
   ·refine .A (o:=[m.1]) (t:=dn u d k) (by simp) ?_ (by rw [aT (R:=OR)]; omega)
    refine R1.ext ?_ hx.2
    intro a b q e
    cases k with
    | zero=>cases e
    | succ k =>
     cases k with
     | zero=>cases e
     | succ k =>
      cases e
      have e1:((k+1+1:Nat):Int)*d=((k+1:Nat):Int)*d+d:=by rw [Dq,Int.add_mul]; omega
      omega
   ·cases e
    have e1:=oz hk h2
    have e2:m.1 :: dn u d k=dn u d (k+1):=by rw [e1]; rfl
    have e3:m.1 :: (dn u d k++[u])=dn u d (k+1)++[u]:=by rw [e1]; rfl
    rw [e2,e3]
    exact .B (by omega) hd hd1 hcn
  ·rw [if_neg hx]
   rcases hc with rfl | ⟨l,r',e,h1,h2,rfl⟩
   ·exact .A (o:=[m.1]) (t:=[]) (by simp) (one _) (by rw [aT,aT (R:=OR)]; show _+0<=_; omega)
   ·cases e
    exact absurd ⟨h1,tW hd1 hk h2⟩ hx
theorem Jn.first (hit:Int->Bool) (n:Int):Jn hit [[n]] [[n]]:=.A (o:=[n]) (t:=[]) (by simp) (fun u w r e=>by cases e) (by simp [fQ,b2])
inductive CutR:List (Int×Int)->List (List Int)->Prop
 | one (m:Int×Int):CutR [m] [[m.1]]
 | step {ms R m R'}:CutR ms R->kq R m R'->CutR (ms++[m]) R'
theorem CutR.jn {hit:Int->Bool}(C:qA hit) {ms:List (Int×Int)}{R:List (List Int)}(h:CutR ms R):Jn hit (ms.foldl iY []) R:=by
 induction h with
 | one m=>exact Jn.first hit m.1
 | step h hs ih =>
  rw [Dw]
  exact ih.step C hs
theorem gb (s:Clip) (n:Int):iy s n↔cD s.nums.reverse n:=by
 obtain ⟨l,hl⟩:=sS s
 unfold iy
 by_cases h:s.a=s.b
 ·rw [if_pos h]
  have hc:=gP h
  have h0:=je s
  have hlen:=s.nums_len
  rw [hl] at h0 hlen ⊢
  rw [hc,AW] at hlen
  have:l=[]:=List.length_eq_zero_iff.mp (by simpa using hlen)
  subst this
  exact Iff.rfl
 ·rw [if_neg h]
  have hc:=wK h
  have hlen:=s.nums_len
  have h2:s.nums[s.cnt-2]?=some (s.b-s.way):=by
   rw [bw (by omega)]
   have e:=ei s
   have e2:s.cnt-1=(s.cnt-2)+1:=by omega
   rw [e2,sm1] at e
   congr 1
   omega
  rw [hl,Cv]
  have hlen2:l.length=s.cnt-1:=by
   rw [hl,AW] at hlen
   simp at hlen
   omega
  cases hr:l.reverse with
  | nil =>
   have:=congrArg C1 hr
   rw [A7,Dp] at this
   omega
  | cons y r =>
   have el:l=r.reverse++[y]:=by rw [<- Da l,hr,Bd]
   have hy:s.nums[s.cnt-2]?=some y:=by
    rw [hl,Ca (by omega),el]
    have:r.reverse.length=s.cnt-2:=by
     rw [el,AW] at hlen2
     simp at hlen2 ⊢
     omega
    rw [<- this]
    simp
   rw [hy] at h2
   have h2:y=s.b-s.way:=Ba h2
   show _↔n-s.b=s.b-y
   omega
def ix (x s:Int) (v:Int):Bool:=decide (v<=x)&&decide (x<=v+s)
theorem ux (x s:Int):qA (ix x s):=by
 intro u d hd h1 h2 k hk
 unfold ix at *
 rw [BG,decide_eq_true_eq,decide_eq_true_eq] at h1
 rw [Bool.and_eq_false_iff,decide_eq_false_iff_not,decide_eq_false_iff_not] at h2 ⊢
 rcases hd with rfl | rfl <;> omega
theorem jl {α:Type}(p:α->Bool):∀l:List α,((BP l.length).filter fun k=>match l[k]? with | some v=>p v | none=>false).length=(l.filter p).length
 | []=>rfl
 | a :: l=>by
  rw [AZ,EH,B8,List.filter_map,B8]
  have ih:=jl p l
  have e:((fun k=>match (a :: l)[k]? with | some v=>p v | none=>false) ∘ Nat.succ)=fun k=>match l[k]? with | some v=>p v | none=>false:=by
   funext k
   simp
  rw [e]
  have e0:(match (a :: l)[0]? with | some v=>p v | none=>false)=p a:=rfl
  rw [e0]
  split
  ·rw [AZ,AZ,AH,ih]
  ·rw [AH,ih]
theorem ij {c:Clip}{v:Int}(h1:(if c.b<c.a then c.b else c.a)<=v) (h2:v<=if c.a<c.b then c.b else c.a):v∈c.nums:=by
 unfold Clip.nums
 refine Be.mpr ?_
 by_cases h:c.b<c.a
 ·rw [if_pos h] at h1
  rw [if_neg (by omega)] at h2
  refine ⟨(c.a-v).toNat,B7.mpr (by unfold Clip.cnt; omega),?_⟩
  have e:c.way=-1:=if_pos h
  rw [e]
  omega
 ·rw [if_neg h] at h1
  refine ⟨(v-c.a).toNat,B7.mpr (by unfold Clip.cnt; split at h2 <;> omega),?_⟩
  have e:c.way=1:=if_neg h
  rw [e]
  omega
theorem qC {c:Clip}{r:Str}{x s:Int}(hs:0<=s) (h:dM r x (bz s c)=true):c.nums.reverse.any (ix x s)=true:=by
 unfold dM bz at h
 simp only [BG,decide_eq_true_eq] at h
 obtain ⟨_,h1,h2⟩:=h
 rw [List.any_reverse]
 rw [C6]
 by_cases hx:x<=if c.a<c.b then c.b else c.a
 ·refine ⟨x,ij h1 hx,?_⟩
  unfold ix
  rw [BG,decide_eq_true_eq,decide_eq_true_eq]
  omega
 ·refine ⟨_,ij (c:=c) (v:=if c.a<c.b then c.b else c.a) (by split <;> split <;> omega) (BH _),?_⟩
  unfold ix
  rw [BG,decide_eq_true_eq,decide_eq_true_eq]
  omega
end KS
namespace KS
open PySem L2
def bN (r:Str) (F:Int) (m:Mo):Int×Int:=if m.reel=r then (m.n,m.f) else (F,1)
def cF (r:Str) (hit:Int->Bool) (cs:List Clip):Nat:=(cs.filter fun c=>decide (c.reel=r)&&c.nums.reverse.any hit).length
theorem oU (r:Str) (hit:Int->Bool) (c:Clip) (cs:List Clip):cF r hit (c :: cs)=b2 (decide (c.reel=r)&&c.nums.reverse.any hit)+cF r hit cs:=by
 unfold cF b2
 rw [B8]
 split
 ·rw [AZ]; omega
 ·omega
def Lk (r:Str) (F:Int) (hit:Int->Bool) (cs:List Clip) (G:List (List Int)):Prop:=(cs=[]/\G=[])\/∃c cs' l G',cs=c :: cs'/\G=l :: G'/\(c.reel=r->l=c.nums.reverse)/\(c.reel≠r->l=[F])/\fQ hit G'=cF r hit cs'
theorem Lk.total {r:Str}{F:Int}{hit:Int->Bool}{cs:List Clip}{G:List (List Int)}(hF:hit F=false) (h:Lk r F hit cs G):fQ hit G=cF r hit cs:=by
 rcases h with ⟨rfl,rfl⟩ | ⟨c,cs',l,G',rfl,rfl,h1,h2,h3⟩
 ·rfl
 ·rw [aT,oU,h3]
  by_cases e:c.reel=r
  ·rw [h1 e,decide_eq_true e,Bool.true_and]
  ·rw [h2 e,decide_eq_false e,Bool.false_and]
   show b2 (hit F||false)+_=_
   rw [hF]
   rfl
theorem kR (r:Str) (n f:Int):(⟨r,n,n,f⟩:Clip).nums=[n]:=by
 rw [Clip.nums_eq]
 have:(⟨r,n,n,f⟩:Clip).cnt=1:=gP rfl
 rw [this]
 rfl
theorem Lk.step {r:Str}{F:Int}{hit:Int->Bool}{cs:List Clip}{G:List (List Int)}{m:Mo}(hF:hit F=false) (hm:m.n+1<F) (h:Lk r F hit cs G):Lk r F hit (aR cs m) (iY G (bN r F m)):=by
 have tot:=h.total hF
 have new:∀cs G,fQ hit G=cF r hit cs->Lk r F hit (⟨m.reel,m.n,m.n,m.f⟩ :: cs) ([(bN r F m).1] :: G):=fun cs G e=>by
  refine .inr ⟨_,cs,_,G,rfl,rfl,fun z=>?_,fun z=>?_,e⟩
  ·have z:m.reel=r:=z
   unfold bN
   rw [if_pos z,kR]
   rfl
  ·have z:¬ m.reel=r:=z
   unfold bN
   rw [if_neg z]
 rcases h with ⟨rfl,rfl⟩ | ⟨c,cs',l,G',rfl,rfl,h1,h2,h3⟩
 ·exact new [] [] rfl
 ·rw [a_]
  by_cases em:m.reel=r
  ·have ee:bN r F m=(m.n,m.f):=by unfold bN; rw [if_pos em]
   by_cases ec:c.reel=r
   ·have el:=h1 ec
    subst el
    show Lk r F hit _ (if (bN r F m).2<=0/\cD c.nums.reverse (bN r F m).1 then _ else _)
    by_cases hx:m.f<=0/\cD c.nums.reverse m.n
    ·have hg:=(gb c m.n).mpr hx.2
     rw [if_pos (show m.f<=0/\can c m from ⟨hx.1,ec.trans em.symm,hg⟩),if_pos (by rw [ee]; exact hx)]
     refine .inr ⟨_,cs',_,G',rfl,rfl,fun _=>?_,fun z=>absurd ec z,h3⟩
     rw [ee,ia hg,Cv]
     rfl
    ·rw [if_neg (show ¬ (m.f<=0/\can c m) from fun z=>hx ⟨z.1,(gb c m.n).mp z.2.2⟩),if_neg (by rw [ee]; exact hx)]
     exact new _ _ tot
   ·have el:=h2 ec
    subst el
    show Lk r F hit _ (if (bN r F m).2<=0/\cD [F] (bN r F m).1 then _ else _)
    rw [if_neg (show ¬ (m.f<=0/\can c m) from fun z=>ec (z.2.1.trans em)),if_neg (by
     rw [ee]
     rintro ⟨_,z⟩
     have z:(m.n-F).natAbs=1:=z
     omega)]
    exact new _ _ tot
  ·have ee:bN r F m=(F,1):=by unfold bN; rw [if_neg em]
   show Lk r F hit _ (if (bN r F m).2<=0/\cD l (bN r F m).1 then _ else _)
   rw [if_neg (show ¬ ((bN r F m).2<=0/\cD l (bN r F m).1) by rw [ee]; rintro ⟨z,_⟩; have z:(1:Int)<=0:=z; omega)]
   by_cases hx:m.f<=0/\can c m
   ·rw [if_pos hx]
    have ec:c.reel≠r:=fun z=>em (hx.2.1.symm.trans z)
    have el:=h2 ec
    subst el
    refine .inr ⟨_,cs',_,_,rfl,rfl,fun z=>absurd z ec,fun _=>by rw [ee],?_⟩
    rw [aT,h3]
    show b2 (hit F||false)+_=_
    rw [hF]
    show 0+_=_
    omega
   ·rw [if_neg hx]
    exact new _ _ tot
theorem Lk.fold {r:Str}{F:Int}{hit:Int->Bool}(hF:hit F=false):∀(ms:List Mo) (cs:List Clip) (G:List (List Int)),(∀m∈ms,m.n+1<F)->Lk r F hit cs G->Lk r F hit (ms.foldl aR cs) ((ms.map (bN r F)).foldl iY G)
 | [],_,_,_,h=>h
 | m :: ms,cs,G,hm,h=>Lk.fold hF ms _ _ (fun x hx=>hm x (AO _ hx)) (h.step hF (hm m (AQ ..)))
theorem mI (x:Int):∀ms:List Mo,∃F,x<F/\∀m∈ms,m.n+1<F
 | []=>⟨x+1,by omega,fun m hm=>nomatch hm⟩
 | m :: ms=>by
  obtain ⟨F,h1,h2⟩:=mI x ms
  refine ⟨if m.n+1<F then F else m.n+2,by split <;> omega,fun y hy=>?_⟩
  rcases AX.mp hy with rfl | hy
  ·split <;> omega
  ·have:=h2 y hy
   split <;> omega
theorem vR {c:Clip}{v:Int}(h:v∈c.nums):(if c.b<c.a then c.b else c.a)<=v/\v<=if c.a<c.b then c.b else c.a:=by
 unfold Clip.nums at h
 obtain ⟨m,hm,rfl⟩:=Be.mp h
 have hm:=B7.mp hm
 unfold Clip.cnt at hm
 unfold Clip.way
 by_cases e:c.b<c.a
 ·rw [if_pos e,if_pos e,if_neg (by omega)]
  omega
 ·rw [if_neg e,if_neg e]
  split <;> omega
theorem kr {c:Clip}{r:Str}{x s:Int}(hs:0<=s):dM r x (bz s c)=(decide (c.reel=r)&&c.nums.reverse.any (ix x s)):=by
 by_cases h:dM r x (bz s c)=true
 ·have h2:=qC hs h
  rw [h,h2,Bool.and_true]
  unfold dM at h
  simp only [BG,decide_eq_true_eq] at h
  exact (decide_eq_true h.1).symm
 ·rw [EJ.mpr h]
  symm
  rw [Bool.and_eq_false_iff]
  by_cases e:c.reel=r
  ·right
   rw [EJ]
   intro z
   rw [List.any_reverse,C6] at z
   obtain ⟨v,hv,hz⟩:=z
   unfold ix at hz
   rw [BG,decide_eq_true_eq,decide_eq_true_eq] at hz
   obtain ⟨h1,h2⟩:=vR hv
   apply h
   unfold dM bz
   simp only [BG,decide_eq_true_eq]
   exact ⟨e,by omega,by omega⟩
  ·left
   exact decide_eq_false e
def ivM (s:Int) (ms:List Mo):List Iv:=(aL ms).reverse.map (bz s)
theorem fh (ivs:List Iv) (r:Str) (x:Int):(az ivs r x).length=(ivs.filter (dM r x)).length:=by
 rw [<- jl (dM r x)]
 unfold az
 congr 1
 refine List.filter_congr fun k _=>?_
 cases ivs[k]? <;> rfl
theorem uM {s:Int}(hs:0<=s) (ms:List Mo) (r:Str) (x:Int):(az (ivM s ms) r x).length=cF r (ix x s) (aL ms):=by
 unfold ivM cF
 rw [fh,List.filter_map,AH,List.filter_reverse,A7]
 congr 2
 funext c
 exact kr hs
theorem yW {x s F:Int}(h:x<F):ix x s F=false:=by
 unfold ix
 rw [decide_eq_false (by omega)]
 rfl
def zg (ns ms:List (Str×Int)):Prop:=∀x∈ns,∃m,(x.1,m)∈ms/\x.2<=m
theorem NeedIs.any {ivs:List Iv}{r:Str}{m:Int}(h:NeedIs ivs r m) (x:Int):((az ivs r x).length:Int)<=m:=by
 have key:∀(l:List Nat),l≠[]->(∀k∈l,k∈az ivs r x)->∃k v,k∈l/\ivs[k]?=some v/\∀j∈l,∀u,ivs[j]?=some u->u.lo<=v.lo:=by
  intro l
  induction l with
  | nil=>intro h; exact absurd rfl h
  | cons k l ih =>
   intro _ hk
   obtain ⟨v,hv,_⟩:=mem_wanting.mp (hk k (AQ ..))
   by_cases hl:l=[]
   ·subst hl
    refine ⟨k,v,AQ ..,hv,fun j hj u hu=>?_⟩
    rw [Bi.mp hj,hv] at hu
    cases hu
    exact BH _
   ·obtain ⟨k',v',a1,a2,a3⟩:=ih hl fun j hj=>hk j (AO _ hj)
    by_cases hc:v.lo<=v'.lo
    ·refine ⟨k',v',AO _ a1,a2,fun j hj u hu=>?_⟩
     rcases AX.mp hj with rfl | hj
     ·rw [hv] at hu
      cases hu
      exact hc
     ·exact a3 j hj u hu
    ·refine ⟨k,v,AQ ..,hv,fun j hj u hu=>?_⟩
     rcases AX.mp hj with rfl | hj
     ·rw [hv] at hu
      cases hu
      exact BH _
     ·have:=a3 j hj u hu
      omega
 by_cases hw:az ivs r x=[]
 ·obtain ⟨k,v,h1,h2,h3⟩:=h.ex
  rw [hw,h3]
  show (0:Int)<=_
  omega
 ·obtain ⟨k,v,h1,h2,h3⟩:=key _ hw fun k hk=>hk
  obtain ⟨v',e1,e2,e3,e4⟩:=mem_wanting.mp h1
  rw [h2] at e1
  cases e1
  have h4:=h.most k v h2 e2
  have h5:=gL (m:=az ivs r v.lo) (eI ivs r x) fun j hj=>by
   obtain ⟨u,f1,f2,f3,f4⟩:=mem_wanting.mp hj
   have:=h3 j hj u f1
   exact mem_wanting.mpr ⟨u,f1,f2,this,by omega⟩
  omega
theorem Needs.no_more {ivs ivs':List Iv}{ns ns':List (Str×Int)}(hle:∀r x,(az ivs r x).length<=(az ivs' r x).length) (hl:∀v∈ivs,v.lo<=v.hi) (h:Needs ivs ns) (h':Needs ivs' ns'):zg ns ns':=fun x hx=>by
 have n:=h.is x hx
 obtain ⟨k,v,a1,a2,a3⟩:=n.ex
 have hle':=hle x.1 v.lo
 have hin:k∈az ivs x.1 v.lo:=mem_wanting.mpr ⟨v,a1,a2,BH _,hl v (Bh a1)⟩
 have hpos:0<(az ivs' x.1 v.lo).length:=Bp (List.length_pos_of_mem hin) hle'
 obtain ⟨j,hj⟩:=List.exists_mem_of_length_pos hpos
 obtain ⟨u,b1,b2,_⟩:=mem_wanting.mp hj
 obtain ⟨y,hy,ey⟩:=Be.mp ((h'.rs.mem x.1).mpr ⟨j,u,b1,b2⟩)
 have n':=h'.is y hy
 rw [ey] at n'
 have:=n'.any v.lo
 refine ⟨y.2,by rw [<- ey]; exact hy,by omega⟩
def vS (m:Mo):Clip:=⟨m.reel,m.n,m.n,m.f⟩
def yX (c:Clip) (m:Mo):Clip:=⟨c.reel,c.a,m.n,c.f⟩
def pb (cs:List Clip) (m:Mo) (cs':List Clip):Prop:=cs'=vS m :: cs\/∃c r,cs=c :: r/\m.f<=0/\can c m/\cs'=yX c m :: r
inductive OCut:List Mo->List Clip->Prop
 | nil:OCut [] []
 | step {ms cs m cs'}:OCut ms cs->pb cs m cs'->OCut (ms++[m]) cs'
theorem Lk.new {r:Str}{F:Int}{hit:Int->Bool}{cs:List Clip}{G:List (List Int)}(m:Mo) (e:fQ hit G=cF r hit cs):Lk r F hit (vS m :: cs) ([(bN r F m).1] :: G):=by
 refine .inr ⟨_,cs,_,G,rfl,rfl,fun z=>?_,fun z=>?_,e⟩
 ·have z:m.reel=r:=z
  unfold bN vS
  rw [if_pos z,kR]
  rfl
 ·have z:¬ m.reel=r:=z
  unfold bN
  rw [if_neg z]
theorem Lk.cut {r:Str}{F:Int}{hit:Int->Bool}{cs cs':List Clip}{G:List (List Int)}{m:Mo}(hF:hit F=false) (h:Lk r F hit cs G) (s:pb cs m cs'):∃G',kq G (bN r F m) G'/\Lk r F hit cs' G':=by
 rcases s with rfl | ⟨c,rs,rfl,hf,hc,rfl⟩
 ·exact ⟨_,.inl rfl,Lk.new m (h.total hF)⟩
 ·rcases h with ⟨e,_⟩ | ⟨c',cs',l,G',e,rfl,h1,h2,h3⟩
  ·cases e
  cases e
  by_cases em:m.reel=r
  ·have ec:c.reel=r:=hc.1.trans em
   have ee:bN r F m=(m.n,m.f):=by unfold bN; rw [if_pos em]
   refine ⟨(m.n :: l) :: G',.inr ⟨l,G',rfl,by rw [ee]; exact hf,?_,by rw [ee]⟩,.inr ⟨_,rs,_,G',rfl,rfl,fun _=>?_,fun z=>absurd ec z,h3⟩⟩
   ·rw [ee,h1 ec]
    exact (gb c m.n).mp hc.2
   ·rw [h1 ec]
    show _=(yX c m).nums.reverse
    unfold yX
    rw [ia hc.2,Cv]
    rfl
  ·have ec:c.reel≠r:=fun z=>em (hc.1.symm.trans z)
   have ee:bN r F m=(F,1):=by unfold bN; rw [if_neg em]
   have el:=h2 ec
   subst el
   refine ⟨[F] :: [F] :: G',.inl (by rw [ee]),.inr ⟨_,rs,_,_,rfl,rfl,fun z=>absurd z ec,fun _=>rfl,?_⟩⟩
   rw [aT,h3]
   show b2 (hit F||false)+_=_
   rw [hF]
   show 0+_=_
   omega
theorem OCut.lk {r:Str}{F:Int}{hit:Int->Bool}(hF:hit F=false) {ms:List Mo}{cs:List Clip}(h:OCut ms cs):(ms=[]/\cs=[])\/∃G,CutR (ms.map (bN r F)) G/\Lk r F hit cs G:=by
 induction h with
 | nil=>exact .inl ⟨rfl,rfl⟩
 | @step ms cs m cs' h s ih =>
  right
  rcases ih with ⟨rfl,rfl⟩ | ⟨G,h1,h2⟩
  ·rcases s with rfl | ⟨c,rs,e,_⟩
   ·exact ⟨_,.one (bN r F m),Lk.new (G:=[]) m rfl⟩
   ·cases e
  ·obtain ⟨G',h3,h4⟩:=h2.cut hF s
   exact ⟨G',by rw [A8]; exact .step h1 h3,h4⟩
theorem OCut.few {r:Str}{F:Int}{hit:Int->Bool}(hF:hit F=false) (C:qA hit) {ms:List Mo}{cs:List Clip}(hm:∀m∈ms,m.n+1<F) (h:OCut ms cs):cF r hit (aL ms)<=cF r hit cs:=by
 rcases h.lk (r:=r) hF with ⟨rfl,rfl⟩ | ⟨G,h1,h2⟩
 ·exact AM _
 ·rw [<- h2.total hF]
  have e:=(Lk.fold (r:=r) hF ms [] [] hm (.inl ⟨rfl,rfl⟩)).total hF
  show cF r hit (ms.foldl aR [])<=_
  rw [<- e]
  exact (h1.jn C).total C
def ivC (s:Int) (cs:List Clip):List Iv:=cs.reverse.map (bz s)
theorem qD {s:Int}(hs:0<=s) (cs:List Clip) (r:Str) (x:Int):(az (ivC s cs) r x).length=cF r (ix x s) cs:=by
 unfold ivC cF
 rw [fh,List.filter_map,AH,List.filter_reverse,A7]
 congr 2
 funext c
 exact kr hs
theorem OCut.want {ms:List Mo}{cs:List Clip}(h:OCut ms cs) {s:Int}(hs:0<=s) (r:Str) (x:Int):(az (ivM s ms) r x).length<=(az (ivC s cs) r x).length:=by
 obtain ⟨F,hx,hm⟩:=mI x ms
 rw [uM hs,qD hs]
 exact h.few (yW hx) (ux x s) hm
theorem wJ (F:Int):qA (fun v=>decide (v<F)):=fun u d hd h1 h2 k hk=>by
 have h1:=of_decide_eq_true h1
 have h2:=of_decide_eq_false h2
 refine decide_eq_false ?_
 rcases hd with rfl | rfl <;> omega
def InB (F:Int) (c:Clip):Prop:=c.a<F/\c.b<F
theorem yR {F:Int}{c:Clip}(h:InB F c):c.nums.reverse.any (fun v=>decide (v<F))=true:=by
 rw [List.any_reverse,C6]
 refine ⟨c.a,ij ?_ ?_,decide_eq_true h.1⟩
 ·split <;> omega
 ·split <;> omega
theorem mO {F:Int}{r:Str}:∀{cs:List Clip},(∀c∈cs,InB F c)->cF r (fun v=>decide (v<F)) cs=(cs.filter fun c=>decide (c.reel=r)).length
 | [],_=>rfl
 | c :: cs,h=>by
  rw [oU,mO fun x hx=>h x (AO _ hx),yR (h c (AQ ..)),Bool.and_true,B8]
  unfold b2
  split
  ·rw [AZ]; omega
  ·omega
theorem oV:∀(xs ys:List Clip),(∀r,(xs.filter fun c=>decide (c.reel=r)).length<=(ys.filter fun c=>decide (c.reel=r)).length)->xs.length<=ys.length
 | [],ys,_=>Bo _
 | c :: xs,ys,h=>by
  have hc:=h c.reel
  rw [B8,if_pos (decide_eq_true rfl),AZ] at hc
  obtain ⟨y,hy⟩:=List.exists_mem_of_length_pos (Bp (Nat.succ_pos _) hc)
  rw [E9] at hy
  obtain ⟨l1,l2,rfl⟩:=List.append_of_mem hy.1
  have ey:=of_decide_eq_true hy.2
  have:=oV xs (l1++l2) fun r=>by
   have h1:=h r
   rw [B8,List.filter_append,B8,AW,ey] at h1
   rw [List.filter_append,AW]
   split at h1
   ·rw [AZ,AZ] at h1; omega
   ·exact h1
  rw [AW] at this
  rw [AW,AZ,AZ]
  omega
theorem OCut.inb {F:Int}{ms:List Mo}{cs:List Clip}(h:OCut ms cs) (hm:∀m∈ms,m.n<F):∀c∈cs,InB F c:=by
 induction h with
 | nil=>intro c hc; cases hc
 | @step ms cs m cs' h s ih =>
  have ih:=ih fun x hx=>hm x (CO _ hx)
  have hm:=hm m (by simp)
  rcases s with rfl | ⟨c,rs,rfl,_,_,rfl⟩
  ·intro x hx
   rcases AX.mp hx with rfl | hx
   ·exact ⟨hm,hm⟩
   ·exact ih x hx
  ·intro x hx
   rcases AX.mp hx with rfl | hx
   ·exact ⟨(ih c (AQ ..)).1,hm⟩
   ·exact ih x (AO _ hx)
theorem qV (cs:List Clip) (m:Mo):pb cs m (aR cs m):=by
 cases cs with
 | nil=>exact .inl rfl
 | cons c cs =>
  rw [a_]
  by_cases h:m.f<=0/\can c m
  ·rw [if_pos h]
   exact .inr ⟨c,cs,rfl,h.1,h.2,rfl⟩
  ·rw [if_neg h]
   exact .inl rfl
theorem gv:∀(ms ms0:List Mo) (cs:List Clip),OCut ms0 cs->OCut (ms0++ms) (ms.foldl aR cs)
 | [],ms0,cs,h=>by rw [BK]; exact h
 | m :: ms,ms0,cs,h=>by
  have:=gv ms (ms0++[m]) (aR cs m) (.step h (qV cs m))
  rw [Bu] at this
  exact this
theorem mF (ms:List Mo):OCut ms (aL ms):=gv ms [] [] .nil
theorem OCut.len {ms:List Mo}{cs:List Clip}(h:OCut ms cs):(aL ms).length<=cs.length:=by
 obtain ⟨F,_,hm⟩:=mI 0 ms
 have hm2:∀m∈ms,m.n<F:=fun m h=>by have:=hm m h; omega
 refine oV _ _ fun r=>?_
 rw [<- mO ((mF ms).inb hm2),<- mO (h.inb hm2)]
 exact h.few (decide_eq_false (by omega)) (wJ F) hm
def cS:Int->List Clip->List Clip
 | _,[]=>[]
 | a,c :: r=>⟨c.reel,c.b,c.a,a⟩ :: cS c.f r
def mir (cs:List Clip):List Clip:=cS 0 cs.reverse
def mMA:Int->List Mo->List Mo
 | _,[]=>[]
 | a,m :: r=>⟨m.reel,m.n,a⟩ :: mMA m.f r
def tm (ms:List Mo):List Mo:=mMA 0 ms.reverse
theorem ii (a:Int):∀(A:List Clip) (c d:Clip),cS a (A++[c,d])=cS a (A++[c])++[⟨d.reel,d.b,d.a,c.f⟩]
 | [],c,d=>rfl
 | x :: A,c,d=>by
  show _ :: cS x.f (A++[c,d])=_ :: (cS x.f (A++[c])++_)
  rw [ii]
theorem k6:∀(a:Int) (A:List Clip),(cS a A).length=A.length
 | _,[]=>rfl
 | a,x :: A=>by show (cS x.f A).length+1=_; rw [k6]; rfl
theorem ol:∀(a:Int) (A B:List Mo) (m:Mo),mMA a (A++m :: B)=mMA a (A++[m])++mMA m.f B
 | a,[],B,m=>rfl
 | a,x :: A,B,m=>by
  show _ :: mMA x.f (A++m :: B)=_ :: (mMA x.f (A++[m])++_)
  rw [ol]
theorem iW (c:Clip) (f:Int):(⟨c.reel,c.b,c.a,f⟩:Clip).nums=c.nums.reverse:=by
 apply EL
 intro k
 have l:(⟨c.reel,c.b,c.a,f⟩:Clip).cnt=c.cnt:=by unfold Clip.cnt; show (c.a-c.b).natAbs+1=_; omega
 by_cases h:k<c.cnt
 ·rw [bw (by rw [l]; exact h),BD (by rw [Clip.nums_len]; exact h),Clip.nums_len,bw (by omega)]
  have e:=ei c
  have ec:((c.cnt-1-k:Nat):Int)=((c.cnt-1:Nat):Int)-(k:Int):=by omega
  have w:c.a≠c.b->(⟨c.reel,c.b,c.a,f⟩:Clip).way=- c.way:=fun z=>by
   unfold Clip.way
   show (if c.a<c.b then (-1:Int) else 1)=- (if c.b<c.a then (-1:Int) else 1)
   split <;> split <;> omega
  show some (c.b+(k:Int)*_)=_
  by_cases z:c.a=c.b
  ·have:c.cnt=1:=gP z
   have:k=0:=by omega
   subst this
   rw [z]
   simp [this]
  ·rw [w z,ec,<- e,Int.sub_mul,Int.mul_neg]
   congr 1
   omega
 ·rw [BL (by rw [Clip.nums_len,l]; omega),BL (by rw [A7,Clip.nums_len]; omega)]
theorem oj:∀{A:List Mo}{a:Int}{k:Nat}{m:Mo},A[k]?=some m->(mMA a A)[k]?=some ⟨m.reel,m.n,if k=0 then a else ((A[k-1]?).map Mo.f).getD 0⟩
 | x :: A,a,0,m,h=>by cases h; rfl
 | x :: A,a,k+1,m,h=>by
  have h:A[k]?=some m:=h
  show (mMA x.f A)[k]?=_
  rw [oj h]
  cases k with
  | zero=>rfl
  | succ k=>rfl
theorem oh:∀(a:Int) (A:List Mo),(mMA a A).length=A.length
 | _,[]=>rfl
 | a,x :: A=>by show (mMA x.f A).length+1=_; rw [oh]; rfl
theorem dP (c:Clip) (f:Int):(⟨c.reel,c.b,c.a,f⟩:Clip).cnt=c.cnt:=by unfold Clip.cnt; show (c.a-c.b).natAbs+1=_; omega
theorem uP (c:Clip) (a:Int):(⟨c.reel,c.b,c.a,a⟩:Clip).ms=mMA a c.ms.reverse:=by
 apply EL
 intro k
 by_cases h:k<c.cnt
 ·have hn:c.nums[c.cnt-1-k]?=some (c.a+((c.cnt-1-k:Nat):Int)*c.way):=bw (by omega)
  have h1:c.ms.reverse[k]?=some ⟨c.reel,c.a+((c.cnt-1-k:Nat):Int)*c.way,c.f*(if c.cnt-1-k=0 then 1 else 0)⟩:=by rw [BD (by rw [cR]; exact h),cR,ic hn]
  have h2:(⟨c.reel,c.b,c.a,a⟩:Clip).nums[k]?=some (c.a+((c.cnt-1-k:Nat):Int)*c.way):=by
   rw [iW,BD (by rw [Clip.nums_len]; exact h),Clip.nums_len,hn]
  rw [oj h1,ic h2]
  cases k with
  | zero=>simp
  | succ k =>
   have hn':c.nums[c.cnt-1-k]?=some (c.a+((c.cnt-1-k:Nat):Int)*c.way):=bw (by omega)
   have e:(c.ms.reverse)[k+1-1]?=some ⟨c.reel,c.a+((c.cnt-1-k:Nat):Int)*c.way,0⟩:=by
    rw [Nat.add_sub_cancel,BD (by rw [cR]; omega),cR,ic hn',if_neg (by omega),Int.mul_zero]
   rw [e]
   simp
 ·rw [BL (by rw [cR,dP]; omega),BL (by rw [oh,A7,cR]; omega)]
theorem n9:∀(a:Int) (L:List Clip),moments (cS a L)=mMA a (moments L.reverse).reverse
 | _,[]=>rfl
 | a,c :: r=>by
  show moments (⟨c.reel,c.b,c.a,a⟩ :: cS c.f r)=_
  rw [bF,uP,n9,Bd,bS,Cv,gm]
  conv=>rhs; rw [ce,Bd,Bu,List.singleton_append,ol]
  rw [ce,Bd]
theorem tj (S:List Clip):moments (mir S)=tm (moments S):=by unfold mir tm; rw [n9,Da]
def hd0 (ms:List Mo):Prop:=∀m,ms.head?=some m->m.f=0
theorem k7:∀(a:Int) (A:List Mo) (m:Mo),mMA a (A++[m])=mMA a A++[⟨m.reel,m.n,match A.getLast? with | none=>a | some x=>x.f⟩]
 | a,[],m=>rfl
 | a,[x],m=>rfl
 | a,x :: y :: A,m=>by
  show _ :: mMA x.f (y :: A++[m])=_ :: (mMA x.f (y :: A)++_)
  rw [k7,BV]
  cases h:(y :: A).getLast? with
  | none=>simp at h
  | some z=>rfl
theorem og:∀(ms:List Mo) (a:Int),mMA a (mMA 0 ms.reverse).reverse=match ms with
  | []=>[]
  | m :: r=>⟨m.reel,m.n,a⟩ :: r
 | [],a=>rfl
 | [m],a=>rfl
 | m :: n :: r,a=>by
  have ih:=og (n :: r) n.f
  rw [Bd,k7,Cv]
  show _ :: mMA _ (mMA 0 (n :: r).reverse).reverse=_
  have e:(n :: r).reverse.getLast?=some n:=by simp
  rw [e]
  show _ :: mMA n.f (mMA 0 (n :: r).reverse).reverse=_
  rw [ih]
theorem p8 {ms:List Mo}(h:hd0 ms):tm (tm ms)=ms:=by
 unfold tm
 rw [og]
 cases ms with
 | nil=>rfl
 | cons m r =>
  have:=h m rfl
  show (⟨m.reel,m.n,0⟩:Mo) :: r=m :: r
  rw [<- this]
theorem jd (c:Clip) (h:0<=c.f) {ms:List Mo}{cs:List Clip}(o:OCut ms cs):∀j,1<=j->j<=c.cnt->OCut (ms++c.ms.take j) (⟨c.reel,c.a,c.a+((j-1:Nat):Int)*c.way,c.f⟩ :: cs)
 | 0,h1,_=>by omega
 | 1,_,_=>by
  rw [ce]
  have:=OCut.step o (.inl rfl:pb cs ⟨c.reel,c.a,c.f⟩ _)
  simpa [vS] using this
 | j+2,_,h2=>by
  have ih:=jd c h o (j+1) (by omega) (by omega)
  have hn:c.nums[j+1]?=some (c.a+((j+1:Nat):Int)*c.way):=bw (by omega)
  have hm:=ic hn
  rw [if_neg (by omega),Int.mul_zero] at hm
  rw [Cy,hm,<- Bu]
  refine OCut.step ih (.inr ⟨_,cs,rfl,BH 0,?_,?_⟩)
  ·have hd:Hd c (j+1) ⟨c.reel,c.a,c.a+((j+1-1:Nat):Int)*c.way,c.f⟩:=⟨rfl,rfl,by
    rw [Nat.add_sub_cancel]
    show c.a=c.a+(j:Int)*c.way\/(if c.a+(j:Int)*c.way<c.a then (-1:Int) else 1)=c.way
    rcases d_ c with z | z <;> rw [z]
    ·exact .inr (if_neg (by omega))
    ·by_cases e:j=0
     ·exact .inl (by rw [e]; omega)
     ·exact .inr (if_pos (by omega))⟩
   exact tT hd (by omega)
  ·rfl
theorem jc:∀(S:List Clip),(∀c∈S,0<=c.f)->∀{ms:List Mo}{cs:List Clip},OCut ms cs->OCut (ms++moments S) (S.reverse++cs)
 | [],_,ms,cs,o=>by show OCut (ms++[]) cs; rw [BK]; exact o
 | c :: r,h,ms,cs,o=>by
  have h1:=jd c (h c AQ) o c.cnt (by unfold Clip.cnt; omega) (AM _)
  rw [<- cR,BJ,cR,ei] at h1
  have:=jc r (fun x hx=>h x (AO _ hx)) h1
  simpa [bF,Bu] using this
theorem vQ {S:List Clip}(h:∀c∈S,0<=c.f):OCut (moments S) S.reverse:=by
 have:=jc S h .nil
 simpa using this
theorem oe:∀{a:Int}{A:List Clip},0<=a->(∀c∈A,0<=c.f)->∀c∈cS a A,0<=c.f
 | _,[],_,_,c,hc=>nomatch hc
 | a,x :: A,h,hA,c,hc=>by
  rcases AX.mp hc with rfl | hc
  ·exact h
  ·exact oe (hA x AQ) (fun y hy=>hA y (AO _ hy)) c hc
theorem ig {A:List Clip}(h:∀c∈A,0<=c.f):∀c∈mir A,0<=c.f:=oe (BH 0) fun c hc=>h c (Ct.mp hc)
theorem uQ (s:Int) (c:Clip) (f:Int):bz s ⟨c.reel,c.b,c.a,f⟩=bz s c:=by
 unfold bz
 congr 1
 ·show (if c.a<c.b then c.a else c.b)=if c.b<c.a then c.b else c.a
  split <;> split <;> omega
 ·show (if c.b<c.a then c.a else c.b)+s=(if c.a<c.b then c.b else c.a)+s
  split <;> split <;> omega
theorem n_ (s:Int):∀(a:Int) (A:List Clip),(cS a A).map (bz s)=A.map (bz s)
 | _,[]=>rfl
 | a,c :: r=>by show bz s _ :: (cS c.f r).map (bz s)=_; rw [n_,uQ]; rfl
theorem j1 {cs:List Clip}(h:∀c∈cs,0<=c.f) (h0:hd0 (moments cs)) {s:Int}(hs:0<=s) (r:Str) (x:Int):(az (ivM s (moments cs)) r x).length<=(az (ivM s (moments (mir cs))) r x).length/\(aL (moments cs)).length<=(aL (moments (mir cs))).length:=by
 have f1:=ig h
 have e:moments (mir (strips (mir cs)))=moments cs:=by rw [tj,gh f1,tj,p8 h0]
 have f2:∀c∈strips (mir cs),0<=c.f:=fun c hc=>by
  have hm:(⟨c.reel,c.a,c.f⟩:Mo)∈moments (strips (mir cs)):=EU.mpr ⟨c,hc,by rw [ce]; exact AQ⟩
  rw [gh f1] at hm
  exact jh f1 _ hm
 have o:=vQ (ig f2)
 rw [e] at o
 refine ⟨Bm (o.want hs r x) ?_,Bm o.len ?_⟩
 ·rw [fh,fh]
  unfold ivC ivM mir strips
  rw [Da,n_,Da,DJ,List.filter_reverse,A7]
  exact AM _
 ·unfold mir strips
  rw [A7,k6,Da]
  exact AM _
theorem jj:∀(cs:List Clip) (a:Int),cS a (cS 0 cs.reverse).reverse=match cs with
  | []=>[]
  | c :: r=>⟨c.reel,c.a,c.b,a⟩ :: r
 | [],a=>rfl
 | [c],a=>rfl
 | c :: d :: r,a=>by
  have ih:=jj (d :: r) d.f
  have e:(c :: d :: r).reverse=r.reverse++[d,c]:=by simp
  rw [e,ii,Cv,<- Bd]
  show _ :: cS d.f (cS 0 (d :: r).reverse).reverse=_
  rw [ih]
theorem n8 {cs:List Clip}(h:∀c,cs.head?=some c->c.f=0):mir (mir cs)=cs:=by
 unfold mir
 rw [jj]
 cases cs with
 | nil=>rfl
 | cons c r =>
  have:=h c rfl
  show (⟨c.reel,c.a,c.b,0⟩:Clip) :: r=c :: r
  rw [<- this]
theorem j8 {cs:List Clip}(h:∀c,cs.head?=some c->c.f=0):hd0 (moments cs):=by
 cases cs with
 | nil=>intro m hm; cases hm
 | cons c r =>
  intro m hm
  rw [bF,ce] at hm
  cases hm
  exact h c rfl
theorem me (cs:List Clip):∀c,(mir cs).head?=some c->c.f=0:=by
 unfold mir
 cases cs.reverse with
 | nil=>intro c hc; cases hc
 | cons x r=>intro c hc; cases hc; rfl
theorem s_ {cs:List Clip}(h:∀c∈cs,0<=c.f) (h0:∀c,cs.head?=some c->c.f=0) {s:Int}(hs:0<=s) (r:Str) (x:Int):(az (ivM s (moments (mir cs))) r x).length=(az (ivM s (moments cs)) r x).length:=by
 have h1:=(j1 h (j8 h0) hs r x).1
 have h2:=(j1 (ig h) (j8 (me cs)) hs r x).1
 rw [n8 h0] at h2
 omega
theorem vY {cs:List Clip}(h:∀c∈cs,0<=c.f) (h0:∀c,cs.head?=some c->c.f=0):(aL (moments (mir cs))).length=(aL (moments cs)).length:=by
 have h1:=(j1 h (j8 h0) (BH 0) "" 0).2
 have h2:=(j1 (ig h) (j8 (me cs)) (BH 0) "" 0).2
 rw [n8 h0] at h2
 omega
def FtK:List Clip->Prop
 | []=>True
 | [c]=>c.f<=c.cnt
 | c :: e :: r=>c.f+e.f<=c.cnt/\FtK (e :: r)
def tn (c:Clip) (f:Int):Clip:=⟨c.reel,c.b,c.a,f⟩
def pl (c:Clip) (i n:Nat):List (List Frm):=(BP n).map fun k=>[⟨c.reel,c.a+((i+k:Nat):Int)*c.way,1,1⟩]
def ovl (c e:Clip) (f:Nat):List (List Frm):=(BP f).map fun k=>[⟨c.reel,c.a+((c.cnt-f+k:Nat):Int)*c.way,(f:Int)-k,(f:Int)+1⟩,⟨e.reel,e.a+(k:Int)*e.way,(k:Int)+1,(f:Int)+1⟩]
def fl:Nat->List Clip->Nat->List (List Frm)
 | _,[],_=>[]
 | i,[c],j=>pl c i (c.cnt-i-j)
 | i,c :: e :: r,j=>pl c i (c.cnt-i-e.f.toNat)++(ovl c e e.f.toNat++fl e.f.toNat (e :: r) j)
theorem hW (c:Clip) (i m n:Nat):pl c i (m+n)=pl c i m++pl c (i+m) n:=by
 unfold pl
 rw [List.range_add,A8,B5]
 congr 1
 apply C0
 intro k _
 show [(⟨c.reel,c.a+((i+(m+k):Nat):Int)*c.way,1,1⟩:Frm)]=_
 rw [Nat.add_assoc]
theorem e_ (c:Clip) (i n:Nat):(pl c i n).length=n:=by unfold pl; rw [AH,Dc]
theorem dy (c e:Clip) (f:Nat):(ovl c e f).length=f:=by unfold ovl; rw [AH,Dc]
theorem uS {α:Type}(P Q:List α) (x v:α) (n:Nat) (h:P.length=n):(P++x :: Q).set n v=P++v :: Q:=by
 subst h
 rw [List.set_append_right _ _ (AM _),Dv]
 rfl
theorem wg {α:Type}(P Q:List α) (x d:α) (n:Nat) (h:P.length=n):(P++x :: Q).getD n d=x:=by
 subst h
 rw [AT,BR (AM _),Dv]
 rfl
theorem nC {G:List (List Frm)}{c e:Clip}{f:Nat}(hf:e.f=(f:Int)):∀k,k<=f->shK (G++pl c (c.cnt-f) f) e G.length k=G++((ovl c e f).take k++(pl c (c.cnt-f) f).drop k)
 | 0,_=>by simp [shK]
 | k+1,hk=>by
  show putF _ e G.length k _=_
  rw [nC hf k (by omega)]
  have hd:(pl c (c.cnt-f) f).drop k=[⟨c.reel,c.a+((c.cnt-f+k:Nat):Int)*c.way,1,1⟩] :: (pl c (c.cnt-f) f).drop (k+1):=by
   rw [List.drop_eq_getElem_cons (by rw [e_]; omega)]
   congr 1
   unfold pl
   rw [List.getElem_map,List.getElem_range]
  have ht:(ovl c e f).take (k+1)=(ovl c e f).take k++[[⟨c.reel,c.a+((c.cnt-f+k:Nat):Int)*c.way,(f:Int)-k,(f:Int)+1⟩,⟨e.reel,e.a+(k:Int)*e.way,(k:Int)+1,(f:Int)+1⟩]]:=by
   rw [Cy,AN (by rw [dy]; omega)]
   congr 1
   unfold ovl
   rw [List.getElem_map,List.getElem_range]
   rfl
  have lp:(G++(ovl c e f).take k).length=G.length+k:=by rw [AW,BA,dy]; omega
  unfold putF
  rw [if_pos (by rw [hf]; omega),hd,<- Bu,wg _ _ _ _ _ lp,uS _ _ _ _ _ lp,ht,hf]
  simp
theorem nB {G:List (List Frm)}{c e:Clip}{f:Nat}(hf:e.f=(f:Int)):∀k,shK (G++pl c (c.cnt-f) f) e G.length (f+k)=G++(ovl c e f++pl e f k)
 | 0=>by
  rw [Nat.add_zero,nC hf f (AM _),Cr (by rw [dy]; exact AM _),List.drop_of_length_le (by rw [e_]; exact AM _)]
  rfl
 | k+1=>by
  show putF (shK _ e G.length (f+k)) e G.length (f+k) _=_
  rw [nB hf k]
  unfold putF
  rw [if_neg (by rw [hf]; omega),hW e f k 1]
  simp [pl]
theorem rj {G:List (List Frm)}{c e:Clip}{i:Nat}(h0:0<=e.f) (h1:(i:Int)+e.f<=c.cnt) (h2:e.f<=e.cnt):showC (G++pl c i (c.cnt-i)) e=G++(pl c i (c.cnt-i-e.f.toNat)++(ovl c e e.f.toNat++pl e e.f.toNat (e.cnt-e.f.toNat))):=by
 have hf:e.f=((e.f.toNat:Nat):Int):=by omega
 have es:pl c i (c.cnt-i)=pl c i (c.cnt-i-e.f.toNat)++pl c (c.cnt-e.f.toNat) e.f.toNat:=by
  have:=hW c i (c.cnt-i-e.f.toNat) e.f.toNat
  rw [show c.cnt-i-e.f.toNat+e.f.toNat=c.cnt-i by omega,show i+(c.cnt-i-e.f.toNat)=c.cnt-e.f.toNat by omega] at this
  exact this
 unfold showC
 rw [es,<- Bu]
 have hl:(G++pl c i (c.cnt-i-e.f.toNat)++pl c (c.cnt-e.f.toNat) e.f.toNat).length-e.f.toNat=(G++pl c i (c.cnt-i-e.f.toNat)).length:=by rw [AW,e_]; omega
 rw [hl]
 have:=nB (G:=G++pl c i (c.cnt-i-e.f.toNat)) (c:=c) hf (e.cnt-e.f.toNat)
 rw [show e.f.toNat+(e.cnt-e.f.toNat)=e.cnt by omega] at this
 rw [this]
 simp
theorem g6:∀(r:List Clip) (c:Clip) (G:List (List Frm)),FtK (c :: r)->(∀x∈c :: r,0<=x.f)->r.foldl showC (G++pl c c.f.toNat (c.cnt-c.f.toNat))=G++fl c.f.toNat (c :: r) 0
 | [],c,G,_,_=>rfl
 | e :: r,c,G,h,h0=>by
  have f0:=h0 c AQ
  have e0:=h0 e (AO _ AQ)
  have e1:e.f<=e.cnt:=by
   have:=h.2
   cases r with
   | nil=>exact this
   | cons x r=>have h1:=this.1; have:=h0 x (by simp); omega
  rw [DV,rj e0 (by have:=h.1; omega) e1,<- Bu,<- Bu]
  rw [g6 r e _ h.2 fun x hx=>h0 x (AO _ hx)]
  show _=G++(_++(_++_))
  simp
theorem kL {cs:List Clip}(h:FtK cs) (h0:∀x∈cs,0<=x.f) (hz:∀c,cs.head?=some c->c.f=0):shown cs=fl 0 cs 0:=by
 cases cs with
 | nil=>rfl
 | cons c r =>
  have z:=hz c rfl
  have e:showC [] c=[]++pl c c.f.toNat (c.cnt-c.f.toNat):=by
   unfold showC
   rw [z]
   show shK [] c 0 c.cnt=pl c 0 c.cnt
   have:∀k,shK [] c 0 k=pl c 0 k:=fun k=>by
    induction k with
    | zero=>rfl
    | succ k ih =>
     show putF _ c 0 k _=_
     rw [ih,hW c 0 k 1]
     unfold putF
     rw [if_neg (by rw [z]; omega)]
     simp [pl]
   exact this _
  have:=g6 r c [] h h0
  unfold shown
  rw [DV,e,this,z]
  rfl
def mM (S:List (List Frm)):List (List Frm):=(S.map List.reverse).reverse
theorem tu (A B:List (List Frm)):mM (A++B)=mM B++mM A:=by unfold mM; rw [A8,Cv]
theorem qJ {c:Clip}{g:Int}{k:Nat}(h:k<c.cnt):(tn c g).a+(k:Int)*(tn c g).way=c.a+((c.cnt-1-k:Nat):Int)*c.way:=by
 have h1:(tn c g).nums[k]?=some ((tn c g).a+(k:Int)*(tn c g).way):=bw (by rw [show (tn c g).cnt=c.cnt from dP c g]; exact h)
 rw [show (tn c g).nums=c.nums.reverse from iW c g,BD (by rw [Clip.nums_len]; exact h),Clip.nums_len,bw (by omega)] at h1
 exact (Ba h1).symm
theorem xl {c:Clip}{i n:Nat}(g:Int) (h:i+n<=c.cnt):mM (pl c i n)=pl (tn c g) (c.cnt-i-n) n:=by
 apply EL
 intro k
 unfold mM
 by_cases hk:k<n
 ·rw [BD (by rw [AH,e_]; exact hk),AH,e_]
  unfold pl
  rw [AR,AR,AR,Df (by omega),Df hk]
  show some ([(⟨c.reel,c.a+((i+(n-1-k):Nat):Int)*c.way,1,1⟩:Frm)].reverse)=some [⟨c.reel,(tn c g).a+((c.cnt-i-n+k:Nat):Int)*(tn c g).way,1,1⟩]
  rw [qJ (by omega),show c.cnt-1-(c.cnt-i-n+k)=i+(n-1-k) by omega]
  rfl
 ·rw [BL (by rw [A7,AH,e_]; omega),BL (by rw [e_]; omega)]
theorem yJ {c e:Clip}{f:Nat}(g g':Int) (h:f<=c.cnt) (h':f<=e.cnt):mM (ovl c e f)=ovl (tn e g) (tn c g') f:=by
 apply EL
 intro k
 unfold mM
 by_cases hk:k<f
 ·rw [BD (by rw [AH,dy]; exact hk),AH,dy]
  unfold ovl
  rw [AR,AR,AR,Df (by omega),Df hk]
  show some [(⟨e.reel,e.a+((f-1-k:Nat):Int)*e.way,((f-1-k:Nat):Int)+1,(f:Int)+1⟩:Frm),⟨c.reel,c.a+((c.cnt-f+(f-1-k):Nat):Int)*c.way,(f:Int)-((f-1-k:Nat):Int),(f:Int)+1⟩]
  =some [⟨e.reel,(tn e g).a+(((tn e g).cnt-f+k:Nat):Int)*(tn e g).way,(f:Int)-k,(f:Int)+1⟩,⟨c.reel,(tn c g').a+(k:Int)*(tn c g').way,(k:Int)+1,(f:Int)+1⟩]
  rw [show (tn e g).cnt=e.cnt from dP e g,qJ (by omega),qJ (by omega),show e.cnt-1-(e.cnt-f+k)=f-1-k by omega,show c.cnt-f+(f-1-k)=c.cnt-1-k by omega,
   show ((f-1-k:Nat):Int)+1=(f:Int)-k by omega,show (f:Int)-((f-1-k:Nat):Int)=(k:Int)+1 by omega]
 ·rw [BL (by rw [A7,AH,dy]; omega),BL (by rw [dy]; omega)]
theorem oE:∀(L:List Clip) (i j:Nat) (c e:Clip),fl i (L++[c,e]) j=fl i (L++[c]) e.f.toNat++(ovl c e e.f.toNat++pl e e.f.toNat (e.cnt-e.f.toNat-j))
 | [],i,j,c,e=>rfl
 | [x],i,j,c,e=>by
  show pl x i _++(ovl x c _++fl c.f.toNat [c,e] j)=(pl x i _++(ovl x c _++fl c.f.toNat [c] e.f.toNat))++_
  simp [fl]
 | x :: y :: L,i,j,c,e=>by
  show pl x i _++(ovl x y _++fl y.f.toNat (y :: L++[c,e]) j)=(pl x i _++(ovl x y _++fl y.f.toNat (y :: L++[c]) e.f.toNat))++_
  rw [oE (y :: L)]
  simp
theorem ji:∀(a:Int) (A:List Clip) (c:Clip),∃L g,cS a (A++[c])=L++[tn c g]
 | a,[],c=>⟨[],a,rfl⟩
 | a,x :: A,c=>by
  obtain ⟨L,g,e⟩:=ji x.f A c
  exact ⟨tn x a :: L,g,by show _ :: cS x.f (A++[c])=_; rw [e]; rfl⟩
theorem ue:∀(r:List Clip) (c:Clip) (i j:Nat) (a:Int),(∀x∈c :: r,0<=x.f)->(∀e,r.head?=some e->(i:Int)+e.f<=c.cnt)->FtK r->(r=[]->i+j<=c.cnt)->(∀e,r.getLast?=some e->e.f+j<=e.cnt)->mM (fl i (c :: r) j)=fl j (cS a (c :: r).reverse) i
 | [],c,i,j,a,_,_,_,hc,_=>by
  show mM (pl c i (c.cnt-i-j))=pl (tn c a) j ((tn c a).cnt-j-i)
  have:=hc rfl
  rw [xl a (by omega),show (tn c a).cnt=c.cnt from dP c a,show c.cnt-i-(c.cnt-i-j)=j by omega,show c.cnt-i-j=c.cnt-j-i by omega]
 | e :: r,c,i,j,a,h0,h1,hf,_,hl=>by
  have e0:=h0 e (AO _ AQ)
  have hc:=h1 e rfl
  have he:e.f<=e.cnt:=by
   cases r with
   | nil=>have:=hl e rfl; omega
   | cons x r=>have:=hf.1; have:=h0 x (by simp); omega
  have ih:=ue r e e.f.toNat j a (fun x hx=>h0 x (AO _ hx)) (fun x hx=>by
    cases r with
    | nil=>cases hx
    | cons y r=>cases hx; have:=hf.1; omega) (by
    cases r with
    | nil=>trivial
    | cons y r=>exact hf.2) (fun z=>by subst z; have:=hl e rfl; omega) (fun x hx=>hl x (by
    cases r with
    | nil=>cases hx
    | cons y r=>rw [BV]; exact hx))
  show mM (pl c i (c.cnt-i-e.f.toNat)++(ovl c e e.f.toNat++fl e.f.toNat (e :: r) j))=_
  rw [tu,tu,ih,xl (i:=i) e.f (by omega)]
  have er:(c :: e :: r).reverse=r.reverse++[e,c]:=by simp
  rw [er,ii,<- Bd]
  obtain ⟨L,g,el⟩:=ji a r.reverse e
  rw [<- Bd] at el
  rw [el,yJ g e.f (by omega) (by omega),Bu]
  rw [show L++[tn e g]++[(⟨c.reel,c.b,c.a,e.f⟩:Clip)]=L++[tn e g,tn c e.f] by simp [tn]]
  rw [oE]
  show _=fl j (L++[tn e g]) e.f.toNat++(ovl (tn e g) (tn c e.f) e.f.toNat++pl (tn c e.f) e.f.toNat ((tn c e.f).cnt-e.f.toNat-i))
  rw [show (tn c e.f).cnt=c.cnt from dP c e.f,show c.cnt-i-(c.cnt-i-e.f.toNat)=e.f.toNat by omega,show c.cnt-i-e.f.toNat=c.cnt-e.f.toNat-i by omega]
theorem pE {cs:List Clip}(h:FtK cs) (h':FtK (mir cs)) (h0:∀x∈cs,0<=x.f) (hz:∀c,cs.head?=some c->c.f=0):shown (mir cs)=mM (shown cs):=by
 rw [kL h h0 hz,kL h' (ig h0) (me cs)]
 cases cs with
 | nil=>rfl
 | cons c r =>
  refine (ue r c 0 0 0 h0 (fun e he=>?_) ?_ (fun _=>Bo _) (fun e he=>?_)).symm
  ·cases r with
   | nil=>cases he
   | cons x r=>cases he; have:=h.1; have:=h0 c AQ; omega
  ·cases r with
   | nil=>trivial
   | cons x r=>exact h.2
  ·have:∀(l:List Clip) (c:Clip),FtK (c :: l)->(∀x∈c :: l,0<=x.f)->∀e,l.getLast?=some e->e.f<=e.cnt:=by
    intro l
    induction l with
    | nil=>intro c _ _ e he; cases he
    | cons x l ih =>
     intro c hf h0 e he
     cases l with
     | nil=>cases he; exact hf.2
     | cons y l=>exact ih x hf.2 (fun z hz=>h0 z (AO _ hz)) e (by rw [BV] at he; exact he)
   have:=this r c h h0 e he
   omega
theorem sV {ivs ivs':List Iv}{ns ns':List (Str×Int)}(e:∀r x,(az ivs' r x).length=(az ivs r x).length) (hl:∀v∈ivs,v.lo<=v.hi) (hl':∀v∈ivs',v.lo<=v.hi) (h:Needs ivs ns) (h':Needs ivs' ns'):ns'=ns:=by
 have m1:=Needs.no_more (fun r x=>Ea (e r x).symm) hl h h'
 have m2:=Needs.no_more (fun r x=>Ea (e r x)) hl' h' h
 have nm:ns'.map (·.1)=ns.map (·.1):=by
  refine nG h'.rs.nd h.rs.nd (fun r=>⟨fun hr=>?_,fun hr=>?_⟩) h'.rs.up h.rs.up
  ·obtain ⟨x,hx,rfl⟩:=Be.mp hr
   obtain ⟨m,hm,_⟩:=m2 x hx
   exact Be.mpr ⟨_,hm,rfl⟩
  ·obtain ⟨x,hx,rfl⟩:=Be.mp hr
   obtain ⟨m,hm,_⟩:=m1 x hx
   exact Be.mpr ⟨_,hm,rfl⟩
 refine sr nm fun i x y hx hy=>?_
 have en:x.1=y.1:=by
  have:=congrArg (fun l=>l[i]?) nm
  simp only [AR,hx,hy] at this
  exact Ba this
 obtain ⟨m,hm,h1⟩:=m2 x (Bh hx)
 obtain ⟨n,hn,h2⟩:=m1 y (Bh hy)
 have e1:=(h.is _ hm).uniq (show NeedIs ivs x.1 y.2 from en ▸ h.is y (Bh hy))
 have e2:=(h'.is _ hn).uniq (show NeedIs ivs' y.1 x.2 from en ▸ h'.is x (Bh hx))
 have e1:m=y.2:=e1
 have e2:n=x.2:=e2
 omega
end KS
namespace L2
open PySem PySem.Spec PyProof.Rows PySem.W
section
variable {K:AK}{H:Hp}
end
section
variable {X:Cx}{pins:List (Addr×Obj)}{σ:St}{H:Hp}{s:AL}
end
section
variable {X:Cx}
end
end L2
namespace L2
open PySem PySem.Spec PyProof.Rows PySem.W
open AutoSeq1 (wpAny_loadPart')
section
variable {X:Cx}{pins:List (Addr×Obj)}{σ:St}{H:Hp}{s:AL}
end
section
variable {X:Cx}
end
end L2
namespace L2
open PySem PySem.Spec PyProof.Rows
theorem wA {X:Cx}{k1 v1:Expr}{a1 b1:TE}{pos:Pos}(h1:QE X k1 a1) (g1:QE X v1 b1):QE X (.Dict [some k1] [v1] pos) (wY [(a1,b1)]):=⟨vC (rM h1.h g1.h vq) rfl rfl (by intro z; cases z) (by show 1<=15; decide)⟩
end L2
namespace L2
open PySem PySem.Spec PyProof.Rows PySem.W
section
variable {X:Cx}
end
section
variable {X:Cx}
end
section
variable {X:Cx}
theorem zI {pins:List (Addr×Obj)}{σ:St}{H:Hp}{s:AL}{d:Addr}{kvs:List (Key×V)}(I:Inv X pins σ H s) (h:Rd H d (.dK kvs)):ObjOk X.prog X.w H s.heap d (.dK kvs):=by
 rcases h with h | ⟨o,h⟩
 ·exact I.hok _ _ h
 ·exact (show ObjOk X.prog X.w H s.heap d (.frz o (.dK kvs)) from I.hok _ _ h).2
theorem gA:bV X (.type "dict") (fun xs H Q=>∃(a:Addr) (kvs:List (Key×V)),xs=[.ref a]/\Rd H a (.dK kvs)/\∀D,H D=none->Q (.ref D) (upd H D (.dK kvs))):=by
 intro pins s σ H xs us Q I r h
 obtain ⟨a,kvs,rfl,ha,q⟩:=h
 obtain ⟨u,rfl,ru⟩:=cT r
 cases ru
 obtain ⟨z,hs,vs,kv,hd⟩:=zI I ha
 refine PySem.kt_call_dict hs hd (by rw [<- kv.length]; exact z) fun h' hd' sb=>?_
 have kp:∀b o,s.heap.get? b=some o->h'.get? b=some o:=fun b o e=>(sb.2 b (Bl (A3 e))).trans (AJ _ e)
 have I1:Inv X pins σ H { s with heap:=h' }:=I.kept (t':=s.toks) kp
 have fa:=I.fpOk (AM _) (I.hok.fresh (AM s.heap.objs.size))
 have xa:X.s₀.heap.get? s.heap.objs.size=none:=CM I.sz
 have hsm:(s.heap.objs.size == Di)=false:=beq_eq_false_iff_ne.mpr (EA I.big)
 have I2:=I1.trackV (o:=.dK kvs) fa xa ⟨z,hsm,vs,kv,hd'⟩
 exact ⟨.ref s.heap.objs.size,_,I2,rfl,q _ fa.1⟩
end
end L2
namespace K56
open PySem L2 G DT
open IT hiding It
open KS hiding CL
def mkC (c:Cl):List IT.It:=if 0<c.d then [.fade c.d,.clip c.r c.f c.l] else [.clip c.r c.f c.l]
def mkL (cs:List Cl):List IT.It:=cs.flatMap mkC
theorem bx (c:Cl) (r:List Cl):mkL (c :: r)=mkC c++mkL r:=Dd
theorem vX (p q:List Cl):mkL (p++q)=mkL p++mkL q:=List.flatMap_append
theorem vW {cs:List Cl}{x:IT.It}(h:x∈mkL cs):∃c∈cs,x=.clip c.r c.f c.l\/(x=.fade c.d/\0<c.d):=by
 unfold mkL at h
 obtain ⟨c,hc,hx⟩:=EU.mp h
 unfold mkC at hx
 refine ⟨c,hc,?_⟩
 split at hx
 ·rename_i hd
  simp only [AX,Cf,or_false] at hx
  rcases hx with rfl | rfl
  ·exact .inr ⟨rfl,hd⟩
  ·exact .inl rfl
 ·exact .inl (Bi.mp hx)
theorem sY:∀cs:List Cl,wL (mkL cs)<=2*cs.length
 | []=>AM _
 | c :: r=>by
  have:=sY r
  rw [bx,gQ,AZ]
  unfold mkC
  split <;> simp only [wL,wI] <;> omega
theorem jZ (cs:List Cl):dpL (mkL cs)<=0:=dpL_le.mpr fun x hx=>by
 obtain ⟨c,_,rfl | ⟨rfl,_⟩⟩:=vW hx <;> rw [dpI] <;> exact AM _
theorem sZ:∀(r:List Cl) (c:Cl),WL (.clip c.r c.f c.l :: mkL r)
 | [],c=>.one .clip
 | e :: s,c=>by
  have ih:=sZ s e
  rw [bx]
  unfold mkC
  split
  ·exact .fade .clip ih
  ·exact .cons .clip ih
theorem l_ {cs:List Cl}{c:Cl}{r:List Cl}(h:cs=c :: r) (hd:c.d<=0):WL (mkL cs):=by
 subst h
 rw [bx]
 unfold mkC
 rw [if_neg (by omega)]
 exact sZ r c
theorem n5:∀(cs F:List Cl),(∀c∈cs,0<=c.d)->IT.run (mkL cs) (F,0)=(F++cs,0)
 | [],F,_=>by rw [BK]; rfl
 | c :: r,F,h=>by
  have hc:=h c AQ
  have ih:=n5 r (F++[c]) fun x hx=>h x (AO _ hx)
  rw [Bu] at ih
  rw [bx,run_app]
  have e:IT.run (mkC c) (F,0)=(F++[c],0):=by
   unfold mkC
   split
   ·rw [IT.run,IT.run,IT.run,flI,flI]
    rfl
   ·rw [IT.run,IT.run,flI]
    have z:c.d=0:=by omega
    show (F++[(⟨c.r,c.f,c.l,0⟩:Cl)],(0:Int))=_
    rw [<- z]
  rw [e]
  exact ih
theorem md {cs:List Cl}(h:∀c∈cs,0<=c.d):flL (mkL cs)=cs:=by
 unfold flL
 rw [n5 cs [] h]
 rfl
theorem n6 {T:Str->Int->Int->Prop}{G:Str->List IT.It->Prop}:∀{cs:List Cl},(∀c∈cs,fV c.r/\T c.r c.f c.l)->hL T G (mkL cs)
 | [],_=>by show hL T G []; rw [hL]; trivial
 | c :: r,h=>by
  have ih:=n6 (G:=G) fun x hx=>h x (AO c hx)
  have hc:=h c AQ
  rw [bx]
  unfold mkC
  split
  ·show hL T G (_ :: _ :: mkL r)
   rw [hL,hL,hI,hI]
   exact ⟨by omega,hc,ih⟩
  ·show hL T G (_ :: mkL r)
   rw [hL,hI]
   exact ⟨hc,ih⟩
theorem f8:∀{cs:List Cl}{A B:List IT.It},mkL cs=A++B->(∀x,A.getLast?=some x->isF x=false)->∃p q,cs=p++q/\A=mkL p/\B=mkL q
 | cs,[],B,h,_=>⟨[],cs,rfl,rfl,by rw [B6] at h; exact h.symm⟩
 | [],x :: A,B,h,_=>by cases h
 | c :: r,x :: A,B,h,hl=>by
  rw [bx] at h
  by_cases hd:0<c.d
  ·have e:mkC c=[.fade c.d,.clip c.r c.f c.l]:=by unfold mkC; rw [if_pos hd]
   rw [e] at h
   cases A with
   | nil =>
    injection h with h1 h2
    subst h1
    have:=hl _ rfl
    cases this
   | cons y A =>
    injection h with h1 h2
    injection h2 with h2 h3
    subst h1 h2
    obtain ⟨p,q,e1,e2,e3⟩:=f8 (cs:=r) (A:=A) (B:=B) h3 fun z hz=>hl z (by
     cases A with
     | nil=>cases hz
     | cons u v=>rw [BV,BV]; exact hz)
    refine ⟨c :: p,q,by rw [e1]; rfl,?_,e3⟩
    rw [bx,e,e2]
    rfl
  ·have e:mkC c=[.clip c.r c.f c.l]:=by unfold mkC; rw [if_neg hd]
   rw [e] at h
   injection h with h1 h2
   subst h1
   obtain ⟨p,q,e1,e2,e3⟩:=f8 (cs:=r) (A:=A) (B:=B) h2 fun z hz=>hl z (by
    cases A with
    | nil=>cases hz
    | cons u v=>rw [BV]; exact hz)
   refine ⟨c :: p,q,by rw [e1]; rfl,?_,e3⟩
   rw [bx,e,e2]
   rfl
def Ft:List Cl->Prop
 | []=>True
 | [c]=>c.d<=frC c
 | c :: e :: r=>c.d+e.d<=frC c/\Ft (e :: r)
theorem Ft.tl {c:Cl}{r:List Cl}(h:Ft (c :: r)):Ft r:=by
 cases r with
 | nil=>trivial
 | cons e r=>exact h.2
theorem Ft.left:∀{A B:List Cl},(∀c∈B,0<=c.d)->Ft (A++B)->Ft A
 | [],_,_,_=>trivial
 | [c],[],_,h=>h
 | [c],e :: r,h0,h=>by
  have:=h0 e AQ
  have h:c.d+e.d<=frC c/\_:=h
  show c.d<=frC c
  omega
 | c :: e :: A,B,h0,h=>by
  have h:c.d+e.d<=frC c/\Ft (e :: A++B):=h
  exact ⟨h.1,Ft.left h0 h.2⟩
theorem Ft.right:∀{A B:List Cl},Ft (A++B)->Ft B
 | [],_,h=>h
 | c :: A,B,h=>Ft.right (A:=A) (Ft.tl h)
def H0' (A:List Cl):Prop:=∀c,A.head?=some c->c.d=0
theorem oC (c:Cl) (a:Int):frC ⟨c.r,c.l,c.f,a⟩=frC c:=by
 unfold frC
 dsimp only
 split <;> split <;> omega
theorem Ft.revA:∀{A:List Cl}{a:Int},(∀c∈A,0<=c.d)->0<=a->Ft A.reverse->(∀c,A.head?=some c->c.d+a<=frC c)->Ft (IT.revA a A)
 | [],_,_,_,_,_=>trivial
 | [c],a,h0,ha,_,h=>by
  have:=h0 c AQ
  have:=h c rfl
  show a<=frC ⟨c.r,c.l,c.f,a⟩
  rw [oC]
  omega
 | c :: e :: r,a,h0,ha,hF,h=>by
  have hc:=h c rfl
  have d0:=h0 c AQ
  rw [Bd] at hF
  have hl:Ft (e :: r).reverse:=Ft.left (fun x hx=>by rw [Bi.mp hx]; exact d0) hF
  have hj:e.d+c.d<=frC e:=by
   rw [Bd,Bu] at hF
   have:=Ft.right hF
   exact this.1
  refine ⟨?_,Ft.revA (fun x hx=>h0 x (AO _ hx)) d0 hl fun x hx=>by cases hx; exact hj⟩
  show a+c.d<=frC ⟨c.r,c.l,c.f,a⟩
  rw [oC]
  omega
theorem Ft.last:∀{A:List Cl}{c:Cl},Ft A->A.getLast?=some c->c.d<=frC c
 | [],_,_,h=>by cases h
 | [c],_,h,e=>by cases e; exact h
 | x :: e :: r,c,h,k=>Ft.last (A:=e :: r) h.2 (by rw [BV] at k; exact k)
theorem Ft.rev {A:List Cl}(h0:∀c∈A,0<=c.d) (h:Ft A):Ft (IT.rev A):=by
 refine Ft.revA (fun c hc=>h0 c (Ct.mp hc)) (BH 0) (by rw [Da]; exact h) fun c hc=>?_
 rw [List.head?_reverse] at hc
 have:=h.last hc
 omega
theorem xU (A:List Cl):H0' (IT.rev A):=fun c hc=>by
 unfold IT.rev at hc
 cases e:A.reverse with
 | nil=>rw [e] at hc; cases hc
 | cons x r=>rw [e] at hc; cases hc; rfl
theorem Ft.good:∀{A:List Cl},Ft A->∀k,¬ bad A k
 | [],_,k,⟨c,h,_⟩=>by cases h
 | [x],h,0,⟨c,e,b⟩=>by
  obtain rfl:x=c:=Ba e
  have h:x.d<=frC x:=h
  have b:frC x<x.d+0:=b
  omega
 | [x],h,k+1,⟨c,e,b⟩=>by cases e
 | x :: y :: r,h,0,⟨c,e,b⟩=>by
  obtain rfl:x=c:=Ba e
  have h:=h.1
  have b:frC x<x.d+y.d:=b
  omega
 | x :: y :: r,h,k+1,⟨c,e,b⟩=>Ft.good (A:=y :: r) h.2 k ⟨c,e,b⟩
theorem tZ:∀{A:List Cl}{m:Int},(∀c∈A,frC c<=m)->frS A<=m*A.length
 | [],m,_=>by show (0:Int)<=m*(0:Nat); simp
 | c :: r,m,h=>by
  have h1:=h c AQ
  have h2:=tZ (A:=r) fun x hx=>h x (AO _ hx)
  show frC c+frS r<=m*((r.length+1:Nat):Int)
  rw [Dq,Int.mul_add]
  omega
theorem nI:∀{A:List Cl}{a:Int}{c:Cl},c∈IT.revA a A->∃e∈A,c.r=e.r/\c.f=e.l/\c.l=e.f/\(c.d=a\/∃x∈A,c.d=x.d)
 | [],_,_,h=>by cases h
 | x :: r,a,c,h=>by
  rw [IT.revA] at h
  rcases AX.mp h with rfl | h
  ·exact ⟨x,AQ,rfl,rfl,rfl,.inl rfl⟩
  ·obtain ⟨e,he,h1,h2,h3,h4⟩:=nI h
   refine ⟨e,AO _ he,h1,h2,h3,.inr ?_⟩
   rcases h4 with z | ⟨y,hy,z⟩
   ·exact ⟨x,AQ,z⟩
   ·exact ⟨y,AO _ hy,z⟩
structure Lc (c:Cl):Prop where
 f0:0<=c.f
 f1:c.f<400
 l0:0<=c.l
 l1:c.l<400
 d0:0<=c.d
 m:frC c<=9
structure Lcs (cs:List Cl):Prop where
 ok:∀c∈cs,Lc c
 ft:Ft cs
 h0:H0' cs
 len:cs.length<=30
theorem mE {T:Str->Int->Int->Prop}{G:Str->List IT.It->Prop}:∀{p q:List IT.It},hL T G p->hL T G q->hL T G (p++q)
 | [],q,_,h=>h
 | x :: p,q,h,h'=>by
  rw [hL] at h
  rw [Ce,hL]
  exact ⟨h.1,mE h.2 h'⟩
theorem z6 {A:List Cl}(h:A≠[]) (z:H0' A):∃c r,A=c :: r/\c.d<=0:=by
 cases A with
 | nil=>exact absurd rfl h
 | cons c r=>exact ⟨c,r,rfl,by rw [z c rfl]; exact BH 0⟩
def toK (c:Cl):Clip:=⟨c.r,c.f,c.l,c.d⟩
theorem gW (cs:List Clip):(aL (moments cs)).length<=cs.length:=by
 have:=io cs []
 rw [Dp,Nat.zero_add] at this
 exact this
theorem uB {H:Hp}{l:Addr}{cs:List Cl}{m n:Nat}(h:DT.CL H l cs) (ok:∀c∈cs,COk m n (toK c)):∃ps,KS.CL m n H l ps/\ps.map (·.2)=cs.map toK:=by
 obtain ⟨vs,hl,tds⟩:=h
 have key:∀{vs:List V}{cs:List Cl},Tds H vs (cs.map dC)->(∀c∈cs,COk m n (toK c))->∃ps:List (Addr×Clip),vs=ps.map (fun x=>V.ref x.1)/\ps.map (·.2)=cs.map toK/\∀x∈ps,H x.1=some (.tup x.2.vs)/\COk m n x.2:=by
  intro vs cs
  induction cs generalizing vs with
  | nil=>intro t _; cases t; exact ⟨[],rfl,rfl,fun x hx=>nomatch hx⟩
  | cons c cs ih =>
   intro t ok
   rw [Br] at t
   cases t with
   | cons t1 t2 =>
    obtain ⟨a,rfl,ha⟩:=gU t1
    obtain ⟨ps,rfl,e2,e3⟩:=ih t2 fun x hx=>ok x (AO _ hx)
    refine ⟨(a,toK c) :: ps,rfl,by rw [Br,Br,e2],fun x hx=>?_⟩
    rcases AX.mp hx with rfl | hx
    ·exact ⟨ha,ok c AQ⟩
    ·exact e3 x hx
 obtain ⟨ps,rfl,e2,e3⟩:=key tds ok
 exact ⟨ps,⟨hl,e3⟩,e2⟩
def AB (r:Str):Prop:=r="a"\/r="ab"
theorem AB.fine {r:Str}(h:AB r):fV r:=by rcases h with rfl | rfl <;> decide +kernel
theorem wF:∀(k:Nat) (xs:List IT.It),(dL xs).take k=dL (xs.take k)
 | k,xs=>by rw [aU,aU,E2]
theorem wG:∀(k:Nat) (xs:List IT.It),(dL xs).drop k=dL (xs.drop k)
 | k,xs=>by rw [aU,aU,E1]
theorem uu (vs:List V) (k:Nat):bH vs none (some (k:Int))=vs.take k:=by
 unfold bH
 rw [HT.sIx_nat,HT.sIx_none,List.drop_zero,Nat.sub_zero,List.take_eq_take_min (i:=k),Nat.min_comm]
theorem Tds.take {H:Hp}:∀{vs:List V}{ds:List PyData}(k:Nat),Tds H vs ds->Tds H (vs.take k) (ds.take k)
 | _,_,0,_=>by rw [BS,BS]; exact .nil
 | _,_,k+1,.nil=>by rw [EZ,EZ]; exact .nil
 | _,_,k+1,.cons h t=>.cons h (Tds.take k t)
theorem Tds.drop {H:Hp}:∀{vs:List V}{ds:List PyData}(k:Nat),Tds H vs ds->Tds H (vs.drop k) (ds.drop k)
 | _,_,0,h=>h
 | _,_,k+1,.nil=>by rw [List.drop_nil,List.drop_nil]; exact .nil
 | _,_,k+1,.cons h t=>Tds.drop k t
end K56
namespace K56
open PySem L2 G DT
open IT hiding It
structure Lb (n:Int) (c:Cl):Prop where
 f0:0<=c.f
 f1:c.f<=n
 l0:0<=c.l
 l1:c.l<=n
 d0:0<=c.d
 m:frC c<=9
 rf:AB c.r
theorem Ft.snoc:∀{A:List Cl}{c:Cl},Ft A->(∀e,A.getLast?=some e->e.d+c.d<=frC e)->c.d<=frC c->Ft (A++[c])
 | [],c,_,_,h=>h
 | [x],c,_,h,h'=>⟨h x rfl,h'⟩
 | x :: y :: r,c,hA,h,h'=>⟨hA.1,Ft.snoc (A:=y :: r) hA.2 (fun e he=>h e (by rw [BV]; exact he)) h'⟩
structure Lv (cs:List Cl) (fr:Int):Prop where
 ok:∀c∈cs,Lb (31+9*(cs.length:Int)) c
 ft:Ft cs
 h0:H0' cs
 fr0:0<=fr
 fr:∀c,cs.getLast?=some c->c.d+fr<=frC c
theorem Lv.nil:Lv [] 0:=⟨(fun c hc=>nomatch hc),trivial,(fun c hc=>by cases hc),BH 0,(fun c hc=>by cases hc)⟩
theorem Lv.push {cs:List Cl}{fr:Int}{c:Cl}(h:Lv cs fr) (b:Lb (31+9*((cs.length:Int)+1)) c) (h1:cs=[]->c.d=0) (h2:c.d<=fr\/c.d=0) (h3:c.d<=frC c):Lv (cs++[c]) (frC c-c.d):=by
 have f0:=h.fr0
 refine ⟨fun x hx=>?_,h.ft.snoc (fun e he=>?_) h3,fun x hx=>?_,by omega,fun x hx=>?_⟩
 ·rw [AW,BU,Dq]
  rcases CG.mp hx with hx | hx
  ·have:=h.ok x hx
   exact ⟨this.f0,by have:=this.f1; omega,this.l0,by have:=this.l1; omega,this.d0,this.m,this.rf⟩
  ·rw [Bi.mp hx]
   exact b
 ·have:=h.fr e he
  omega
 ·cases cs with
  | nil=>cases hx; exact h1 rfl
  | cons y r=>exact h.h0 x (by cases hx; rfl)
 ·rw [List.getLast?_concat] at hx
  cases hx
  omega
theorem oo:∀{cs:List Cl},(∀c∈cs,fV c.r)->CZ (cs.map dC)=true
 | [],_=>rfl
 | c :: r,h=>by
  have h1:C9 c.r=true:=h c AQ
  simp [CZ,DK,dC,h1,oo fun x hx=>h x (AO c hx)]
theorem cX {cs:List Cl}(h:∀c∈cs,fV c.r):(E7 (cs.map dC)).canLay0=true:=by rw [DK]; exact oo h
theorem iJ {K:AK}{H:Hp}{l:Addr}{cs:List Cl}(h:CL H l cs):Den K H (.ref l) (.list (cs.map dC)):=by
 obtain ⟨vs,h1,h2⟩:=h
 exact .lst (SqL.of h1) h2.den
theorem bB {H H':Hp}{l:Addr}{cs:List Cl}(h:CL H l cs) (s:Same H H'):CL H' l cs:=by
 obtain ⟨vs,h1,h2⟩:=h
 exact ⟨vs,s _ _ h1,h2.tk (TK.of s)⟩
theorem wM {H:Hp}{l:Addr}{cs:List Cl}(h:CL H l cs) (hn:cs≠[]):∃us a c,H l=some (.lst us)/\atI us (-1)=some (.ref a)/\cs.getLast?=some c/\c∈cs/\H a=some (.tup [.str c.r,.int c.f,.int c.l,.int c.d]):=by
 obtain ⟨vs,h1,h2⟩:=h
 obtain ⟨A,c,rfl⟩:∃A c,cs=A++[c]:=⟨_,_,(List.dropLast_concat_getLast hn).symm⟩
 rw [A8] at h2
 have hl:=h2.len
 rw [AW,AH] at hl
 have hk:vs[A.length]?=some (vs[A.length]'(by rw [hl]; simp)):=AN _
 obtain ⟨d,hd,tv⟩:=h2.get hk
 rw [BR (by rw [AH]; exact AM _),AH,Dv] at hd
 cases hd
 obtain ⟨a,ea,ha⟩:=gU tv
 refine ⟨vs,a,c,h1,?_,by rw [List.getLast?_concat],Bb _ (Bi.mpr rfl),ha⟩
 have e:vs=vs.take A.length++[vs[A.length]'(by rw [hl]; simp)]:=by
  rw [<- aZ hk,Cr]
  rw [hl]; simp
 rw [e,ea]
 exact lI _ _
theorem Af (ns:List Int):∃ms:List Int,bH (ns.map V.int) (some 2) (some 32)=ms.map V.int/\ms.length<=30:=by
 unfold bH
 refine ⟨_,by rw [<- E1,<- E2],?_⟩
 rw [BA,Cq,show (some (2:Int))=some ((2:Nat):Int) from rfl,show (some (32:Int))=some ((32:Nat):Int) from rfl,HT.sIx_nat,HT.sIx_nat]
 omega
section
variable {P:Program}{w:Bj}{K:AK}{mg:Str->Option Value}{base:Heap}
def nv (K:AK):Sp:=fun vs H Q _=>∃(a:Addr) (ns:List Int),vs=[.ref a,.int 30]/\SqL K H a (ns.map V.int) /\
 ∀(l:Addr) (cs:List Cl) (H':Hp),Same H H'->H l=none->CL H' l cs->Lcs cs->(∀c∈cs,AB c.r)->Q (.ref l) H'
theorem scClips:aq ["_law_script", "_law_most", "_law_found", "_law_free", "_law_cell_here", "_law_xs", "_law_many", "_law_first", "_law_reel", "_law_way", "_law_last", "_law_fade"] ["_law_script", "_law_most"] (ak du):=⟨rfl,rfl,rfl,by decide +kernel,rfl,by decide +kernel,by decide +kernel⟩
theorem sP {f:Addr}{fd:Bg}(F:Fun K "_law_clips" "_law_clips" du f fd) (dNum:Def P w K mg base CX0 "_law_numbers" 1 ["_law_cell_here", "_law_many"] w6) (n_max:mg "max"=none) (n_min:mg "min"=none) (n_abs:mg "abs"=none):aJ P w K mg base CX0 2 f fd ["_law_script", "_law_most"] (nv K):=by
 refine F.ok scClips (fun vs H Q E h=>?_) (fun cdv A outer s H vs Q E hr h=>?_)
 ·obtain ⟨a,ns,rfl,_⟩:=h
  rfl
 obtain ⟨a,ns,rfl,hS,q⟩:=h
 refine kB (ag (ax (i:=2) scClips.nd (aW af))
  (ag (ax (i:=3) scClips.nd ae)
  (ag (bv BM rfl (cC (ge de (e_v 0) (bj ae) (bj (aD aV ae (e_v 1))))) (aC (i:=4) scClips.nd)
   (ag (ax (i:=5) scClips.nd (ap dNum hr aF (aa (e_v 4) (aa ae af))))
   (ag (ax (i:=6) scClips.nd (aD aV ae (aD bu (au aE (e_v 5) ae) (au aE (aW (aa ae (aa ae (aa ae (aa ae af))))) (aD bu (au aE (e_v 5) ae) ae)))))
   (ag (ax (i:=7) scClips.nd (aD aV (aD bu (au aE (e_v 5) ae) ae) (e_v 6)))
   (ag (ax (i:=8) scClips.nd (au aE (aW (aa aS (aa aS af))) (aD bu (aD jW (au aE (e_v 5) ae) ae) ae)))
   (ag (ax (i:=9) scClips.nd (au aE (aW (aa ae (aa (fP bD ae) af))) (aD bu (au aE (e_v 5) ae) ae)))
   (ag (fC (bb (t_w (iT (aK (h9 hr) (e_v 2) (aW af)) (jC (aK i_ (aD bu (au aE (e_v 5) ae) ae) ae))))
    (ag (ax (i:=8) scClips.nd (au ao (au aE (e_v 2) (fP bD ae)) ae))
    (ah (ax (i:=7) scClips.nd (e_b (eC rfl) n_max (by decide +kernel) (aa ae (aa (aD aV (au ao (au aE (e_v 2) (fP bD ae)) ae) (au aE (aW (aa ae (aa (fP bD ae) (aa ae (aa ae af))))) (aD bu (au aE (e_v 5) ae) ae))) af))))))
    aI))
   (ag (ax (i:=10) scClips.nd (aD aV (e_v 7) (aD f6 (aD bL (e_v 6) ae) (e_v 9))))
   (ag (fC (bb (aK gk (e_v 10) ae)
    (ah (ax (i:=10) scClips.nd (aD bL (aD aV (e_v 7) (e_v 6)) ae)))
    aI))
   (ag (ax (i:=11) scClips.nd ae)
   (ag (fC (bb (t_w (iT (aK (h9 hr) (e_v 2) (aW af)) (jC (aK bf (aD bu (au aE (e_v 5) ae) ae) ae))))
    (ah (ax (i:=11) scClips.nd (aD bu (aD jW (au aE (e_v 5) ae) ae) (aD aV (e_b (jv rfl) n_min (by decide +kernel) (aa (e_v 3) (aa (aD aV (e_b d7 n_abs (by decide +kernel) (aa (aD bL (e_v 10) (e_v 7)) af)) ae) af))) ae))))
    aI))
   (ag (aO (bn (e_v 2) (ba (aa (e_v 8) (aa (e_v 7) (aa (e_v 10) (aa (e_v 11) af)))))))
   (ah (ax (i:=3) scClips.nd (aD bL (aD aV (e_b d7 n_abs (by decide +kernel) (aa (aD bL (e_v 10) (e_v 7)) af)) ae) (e_v 11))))))))))))))))
  (ah (aB (e_v 2)))))) ?_
 intros
 have zl:sizeLine=16777216:=A9
 refine ⟨(by show 0<=sizeLine; decide),fun pf hpf=>?_⟩
 have s0:=Same.new hpf (.lst [])
 obtain ⟨ms,em,lm⟩:=Af ns
 refine ⟨_,rfl,_,rfl,_,rfl,_,_,rfl,rfl,_,rfl,a,_,rfl,s0.seq hS,fun pm hpm=>?_⟩
 have em':bH (ns.map V.int) (some 2) (some (2+30))=ms.map V.int:=em
 rw [em']
 have s1:=Same.new hpm (.lst (ms.map V.int))
 have S1:=s0.trans s1
 refine ⟨pm,rfl,⟨_,SqL.of ac⟩,bU (K:=K) (a:=pm) (xs:=ms.map V.int) (fun i σ H'=>∃(cs:List Cl) (fr:Int) (o4 o5 o6 o7 o8 o9 o10 o11:Option V),σ=[some (.ref a),some (.int 30),some (.ref pf),some (.int fr),o4,o5,o6,o7,o8,o9,o10,o11]/\CL H' pf cs/\Lv cs fr/\cs.length=i/\Same H H'/\H' pm=some (.lst (ms.map V.int)))
  ⟨[],0,none,none,none,none,none,none,none,none,rfl,⟨[],s1 _ _ ac,.nil⟩,Lv.nil,rfl,S1,ac⟩ ?_ ?_ ?_⟩
 ·rintro i σ H' _ ⟨cs,fr,_,_,_,_,_,_,_,_,rfl,_,_,_,_,hm⟩
  exact SqL.of hm
 ·rintro i x σ H' hx ⟨cs,fr,o4,o5,o6,o7,o8,o9,o10,o11,rfl,cl,lv,hlen,sm,hm⟩
  have hi:i<ms.length:=by
   have:=(AS.mp hx).1
   rwa [AH] at this
  rw [AR] at hx
  cases hz:ms[i]? with
  | none=>rw [hz] at hx; cases hx
  | some z =>
   rw [hz] at hx
   cases hx
   refine ⟨_,rfl,z,7,rfl,by decide,fun px xs H1 s1 hxl hpx0 hpx=>?_⟩
   obtain ⟨x0,x1,x2,x3,x4,x5,x6,rfl⟩:∃x0 x1 x2 x3 x4 x5 x6,xs=[x0,x1,x2,x3,x4,x5,x6]:=by
    match xs,hxl with
    | [x0,x1,x2,x3,x4,x5,x6],_=>exact ⟨_,_,_,_,_,_,_,rfl⟩
   obtain ⟨dv,hdv,dm⟩:=fS (xs:=[V.int 1,.int 4,.int 9,.int 2]) (i:=x1 % 4) (by omega) (by show _<(4:Int); omega)
   obtain ⟨d,rfl,d1,d9⟩:∃d:Int,dv=.int d/\1<=d/\d<=9:=by
    simp only [AX,Cf,or_false] at dm
    rcases dm with rfl | rfl | rfl | rfl <;> exact ⟨_,rfl,by decide,by decide⟩
   refine ⟨_,rfl,px,_,_,.int x0,rfl,rfl,SqL.of hpx,ad (j:=0) rfl,(by show 4<=sizeLine; decide),fun p1 hp1=>?_⟩
   have t1:=Same.new hp1 (.lst [V.int 1,.int 4,.int 9,.int 2])
   refine ⟨_,rfl,px,_,_,.int x1,rfl,rfl,SqL.of (t1 _ _ hpx),ad (j:=1) rfl,_,_,rfl,rfl,(by show (0:Int)<4; decide),p1,_,_,.int d,rfl,rfl,SqL.of ac,hdv,_,_,rfl,rfl,(by omega:(0:Int)<d),_,_,rfl,rfl,?_⟩
   have hpx1:=t1 _ _ hpx
   have S2:=s1.trans t1
   generalize upd H1 p1 (.lst [V.int 1,.int 4,.int 9,.int 2])=H2 at t1 hpx1 S2 ⊢
   have m1:1<=1+x0 % d:=by have:=Ek x0 (show d≠0 by omega); omega
   have m9:1+x0 % d<=9:=by have:=Ep x0 (show 0<d by omega); omega
   obtain ⟨mm,hmm⟩:∃mm,1+x0 % d=mm:=⟨_,rfl⟩
   rw [hmm] at m1 m9
   refine ⟨_,rfl,px,_,_,.int x2,rfl,rfl,SqL.of hpx1,ad (j:=2) rfl,_,_,rfl,rfl,(by show (0:Int)<24; decide),_,rfl,_,_,rfl,rfl,?_⟩
   refine ⟨(by show 2<=sizeLine; decide),fun p2 hp2=>?_⟩
   have t2:=Same.new hp2 (.lst [V.str "a",.str "ab"])
   obtain ⟨rv,hrv,rm⟩:=fS (xs:=[V.str "a",.str "ab"]) (i:=x1 / 4 % 2) (by omega) (by show _<(2:Int); omega)
   obtain ⟨r,rfl,rf⟩:∃r:Str,rv=.str r/\AB r:=by
    simp only [AX,Cf,or_false] at rm
    rcases rm with rfl | rfl
    ·exact ⟨_,rfl,.inl rfl⟩
    ·exact ⟨_,rfl,.inr rfl⟩
   refine ⟨_,rfl,px,_,_,.int x1,rfl,rfl,SqL.of (t2 _ _ hpx1),ad (j:=1) rfl,_,_,rfl,rfl,⟨by decide,by decide⟩,_,_,rfl,rfl,(by show (0:Int)<2; decide),p2,_,_,.str r,rfl,rfl,SqL.of ac,hrv,?_⟩
   have hpx2:=t2 _ _ hpx1
   have S3:=S2.trans t2
   generalize upd H2 p2 (.lst [V.str "a",.str "ab"])=H3 at t2 hpx2 S3 ⊢
   obtain ⟨wv,hwv,wm⟩:=fS (xs:=[V.int 1,.int (-1)]) (i:=x3 % 2) (by omega) (by show _<(2:Int); omega)
   obtain ⟨wy,rfl,wy1⟩:∃wy:Int,wv=.int wy/\(wy=1\/wy=-1):=by
    simp only [AX,Cf,or_false] at wm
    rcases wm with rfl | rfl
    ·exact ⟨_,rfl,.inl rfl⟩
    ·exact ⟨_,rfl,.inr rfl⟩
   refine ⟨_,rfl,(by show 2<=sizeLine; decide),fun p3 hp3=>?_⟩
   have t3:=Same.new hp3 (.lst [V.int 1,.int (-1)])
   refine ⟨_,rfl,px,_,_,.int x3,rfl,rfl,SqL.of (t3 _ _ hpx2),ad (j:=3) rfl,_,_,rfl,rfl,(by show (0:Int)<2; decide),p3,_,_,.int wy,rfl,rfl,SqL.of ac,hwv,?_⟩
   have hpx3:=t3 _ _ hpx2
   have S4:=S3.trans t3
   have ff:=fun c hc=>(lv.ok c hc).rf.fine
   generalize upd H3 p3 (.lst [V.int 1,.int (-1)])=H4 at t3 hpx3 S4 ⊢
   refine ⟨fun σ' H5=>∃(fi:Int) (re:Str),σ'=[some (.ref a),some (.int 30),some (.ref pf),some (.int fr),some (.int z),some (.ref px),some (.int mm),some (.int fi),some (.str re),some (.int wy),o10,o11]/\0<=fi/\fi<=32+9*(cs.length:Int)/\AB re/\Same H4 H5,?_,?_⟩
   ·refine ⟨_,rfl,(by show 0<=sizeLine; decide),fun p4 hp4=>?_⟩
    have t4:=Same.new hp4 (.lst [])
    refine ⟨_,_,iJ (bB cl (S4.trans t4)),.lst (SqL.of ac) .nil,cX ff,rfl,Bm (Dh _ _) (by decide),_,rfl,?_⟩
    have base':0<=x2 % 24+mm/\x2 % 24+mm<=32+9*(cs.length:Int):=⟨by omega,by omega⟩
    cases hcs:cs with
    | nil =>
     refine iteN (by rw [D9,Db _ rfl]; rfl) (gD ?_)
     rw [<- hcs]
     exact ⟨_,_,(by rw [<- hmm]; rfl),base'.1,base'.2,rf,t4⟩
    | cons c0 cr =>
     refine iteY rfl ?_
     rw [<- hcs]
     refine ⟨_,rfl,px,_,_,.int x5,rfl,rfl,SqL.of (t4 _ _ hpx3),ad (j:=5) rfl,_,_,rfl,rfl,(by show (0:Int)<3; decide),_,_,rfl,rfl,_,rfl,fc (fun _=>?_) (fun _=>?_)⟩
     ·obtain ⟨us,ca,c,hus,hat,hgl,hcm,hca⟩:=wM (bB cl (S4.trans t4)) (by rw [hcs]; exact C7 _ _)
      have lb:=lv.ok c hcm
      obtain ⟨sv,hsv,sm'⟩:=fS (xs:=[V.int 1,.int (-1),.int 1,.int 0]) (i:=x6 % 4) (by omega) (by show _<(4:Int); omega)
      obtain ⟨st,rfl,st1⟩:∃st:Int,sv=.int st/\st<=1:=by
       simp only [AX,Cf,or_false] at sm'
       rcases sm' with rfl | rfl | rfl | rfl <;> exact ⟨_,rfl,by decide⟩
      refine ⟨_,rfl,_,rfl,pf,_,_,.ref ca,rfl,rfl,SqL.of hus,hat,ca,_,_,.str c.r,rfl,rfl,SqT.of hca,ad (j:=0) rfl,?_⟩
      refine ⟨_,rfl,_,rfl,pf,_,_,.ref ca,rfl,rfl,SqL.of hus,hat,ca,_,_,.int c.l,rfl,rfl,SqT.of hca,ad (j:=2) rfl,_,rfl,(by show 4<=sizeLine; decide),fun p5 hp5=>?_⟩
      have t5:=Same.new hp5 (.lst [V.int 1,.int (-1),.int 1,.int 0])
      refine ⟨_,rfl,px,_,_,.int x6,rfl,rfl,SqL.of (t5 _ _ (t4 _ _ hpx3)),ad (j:=6) rfl,_,_,rfl,rfl,(by show (0:Int)<4; decide),p5,_,_,.int st,rfl,rfl,SqL.of ac,hsv,_,_,rfl,rfl,_,_,rfl,(if c.l+st > 0 then c.l+st else 0),c.r,(by rw [<- hmm]; rfl),?_,?_,lb.rf,t4.trans t5⟩
      ·split <;> omega
      ·have:=lb.l1
       split <;> omega
     ·exact ⟨_,_,(by rw [<- hmm]; rfl),base'.1,base'.2,rf,t4⟩
   rintro σ H5 ⟨fi,re,rfl,f0,f1,ref,s5⟩
   refine ⟨_,rfl,_,rfl,_,_,rfl,rfl,_,rfl,_,_,rfl,rfl,.inl ⟨by omega,by omega⟩,_,_,rfl,rfl,?_⟩
   refine ⟨fun σ' H6=>∃la:Int,σ'=[some (.ref a),some (.int 30),some (.ref pf),some (.int fr),some (.int z),some (.ref px),some (.int mm),some (.int fi),some (.str re),some (.int wy),some (.int la),o11]/\0<=la/\la<=fi+8/\frC ⟨re,fi,la,0⟩=mm/\Same H5 H6,?_,?_⟩
   ·refine ⟨_,rfl,_,_,rfl,rfl,_,rfl,fc (fun y=>?_) (fun y=>?_)⟩
    ·refine ⟨_,rfl,_,rfl,_,_,rfl,rfl,_,_,rfl,rfl,_,rfl,by omega,by omega,?_,Same.refl _⟩
     unfold frC
     dsimp only
     split <;> omega
    ·have y:¬ fi+(mm-1)*wy<0:=fun k=>y (decide_eq_true k)
     refine ⟨_,rfl,by omega,?_,?_,Same.refl _⟩
     ·rcases wy1 with rfl | rfl <;> omega
     ·unfold frC
      dsimp only
      rcases wy1 with rfl | rfl <;> split <;> omega
   rintro σ H6 ⟨la,rfl,l0,l1,hfr,s6⟩
   have S6:=S4.trans (s5.trans s6)
   have hpx6:=(s5.trans s6) _ _ hpx3
   refine ⟨fun σ' H7=>∃fd:Int,σ'=[some (.ref a),some (.int 30),some (.ref pf),some (.int fr),some (.int z),some (.ref px),some (.int mm),some (.int fi),some (.str re),some (.int wy),some (.int la),some (.int fd)]/\0<=fd/\(cs=[]->fd=0)/\(fd<=fr\/fd=0)/\fd<=frC ⟨re,fi,la,0⟩/\Same H6 H7,?_,?_⟩
   ·refine ⟨_,rfl,(by show 0<=sizeLine; decide),fun p7 hp7=>?_⟩
    have t7:=Same.new hp7 (.lst [])
    refine ⟨_,_,iJ (bB cl (S6.trans t7)),.lst (SqL.of ac) .nil,cX ff,rfl,Bm (Dh _ _) (by decide),_,rfl,?_⟩
    cases hcs:cs with
    | nil =>
     refine iteN (by rw [D9,Db _ rfl]; rfl) (gD ?_)
     exact ⟨0,rfl,BH 0,fun _=>rfl,.inr rfl,by omega,t7⟩
    | cons c0 cr =>
     refine iteY rfl ?_
     refine ⟨_,rfl,px,_,_,.int x4,rfl,rfl,SqL.of (t7 _ _ hpx6),ad (j:=4) rfl,_,_,rfl,rfl,(by show (0:Int)<5; decide),rfl,_,rfl,fc (fun _=>?_) (fun _=>?_)⟩
     ·have ea:(if la-fi<0 then -(la-fi) else la-fi)+1=mm:=hfr
      have fr0:=lv.fr0
      refine ⟨_,rfl,px,_,_,.int x4,rfl,rfl,SqL.of (t7 _ _ hpx6),ad (j:=4) rfl,_,_,rfl,rfl,⟨by decide,by decide⟩,_,rfl,_,rfl,_,rfl,_,_,rfl,rfl,_,rfl,_,_,rfl,rfl,_,_,rfl,_,_,rfl,rfl,_,_,rfl,rfl,?_,_,rfl,?_,(fun z=>absurd z (C7 _ _)),.inl ?_,?_,t7⟩
      ·rw [ea]
       show (0:Int)<(if mm<fr then mm else fr)+1
       split <;> omega
      ·refine Ek _ ?_
       rw [ea]
       split <;> omega
      ·rw [ea]
       have hp:(0:Int)<(if mm<fr then mm else fr)+1:=by split <;> omega
       have:=Ep (x4 / 5) hp
       split at this <;> split <;> omega
      ·rw [ea,hfr]
       have hp:(0:Int)<(if mm<fr then mm else fr)+1:=by split <;> omega
       have:=Ep (x4 / 5) hp
       split at this <;> split <;> omega
     ·exact ⟨0,rfl,BH 0,fun _=>rfl,.inr rfl,by omega,t7⟩
   rintro σ H7 ⟨fd,rfl,d0,e0,e1,e2,s7⟩
   have S7:=S6.trans s7
   obtain ⟨us,hus,tus⟩:=bB cl S7
   have lu:us.length=cs.length:=by rw [tus.len,AH]
   refine ⟨_,rfl,.inl ⟨rfl,_,SqL.of hus⟩,_,rfl,_,rfl,_,rfl,_,rfl,(by show 4<=sizeLine; decide),fun pt hpt=>?_⟩
   have t8:=Same.new hpt (.tup [.str re,.int fi,.int la,.int fd])
   have hus8:=t8 _ _ hus
   refine ⟨pf,_,_,rfl,rfl,hus8,by omega,?_⟩
   have hfr':(if la-fi<0 then -(la-fi) else la-fi)+1=mm:=hfr
   refine ⟨_,rfl,_,rfl,_,_,rfl,rfl,_,rfl,_,_,rfl,rfl,_,rfl,_,_,rfl,rfl,?_⟩
   have npm:pm≠pf:=fun z=>by rw [z,ac] at hpm; cases hpm
   refine ⟨cs++[⟨re,fi,la,fd⟩],_,_,_,_,_,_,_,_,_,rfl,⟨_,ac,?_⟩,lv.push (c:=⟨re,fi,la,fd⟩) ⟨f0,?_,l0,?_,d0,?_,ref⟩ e0 e1 e2,?_,fun b ob hb=>?_,?_⟩
   ·rw [A8]
    exact ((tus.tk (TK.of t8)).app (.one (kY (c:=⟨re,fi,la,fd⟩) ac))).tk (TK.lst hus8)
   ·show fi<=_; omega
   ·show la<=_; omega
   ·show frC ⟨re,fi,la,fd⟩<=9
    have:frC ⟨re,fi,la,fd⟩=mm:=hfr
    omega
   ·rw [AW,hlen]; rfl
   ·rw [aj (am hb hpf)]
    exact t8 _ _ (S7 _ _ (sm _ _ hb))
   ·rw [aj npm]
    exact t8 _ _ (S7 _ _ hm)
 ·rintro σ H' ⟨cs,fr,o4,o5,o6,o7,o8,o9,o10,o11,rfl,cl,lv,hlen,sm,hm⟩
  rw [AH] at hlen
  refine ⟨_,rfl,q pf cs H' sm hpf cl ⟨fun c hc=>?_,lv.ft,lv.h0,by omega⟩ fun c hc=>(lv.ok c hc).rf⟩
  have h:=lv.ok c hc
  exact ⟨h.f0,by have:=h.f1; omega,h.l0,by have:=h.l1; omega,h.d0,h.m⟩
end
section
variable {P:Program}{w:Bj}{K:AK}{mg:Str->Option Value}{base:Heap}
def Shp (H:Hp) (cs:List Cl) (xs:List IT.It) (kvs:List (Key×V)):Prop:=(xs=mkL cs/\kvs=[])\/∃(b:Addr) (p r:List Cl),cs=p++r/\p≠[]/\r≠[]/\(∀c,r.head?=some c->c.d<=0)/\xs=.part "p" (mkL p) :: mkL r/\kvs=[(.inr "p",.ref b)]/\Td H (.ref b) (.tuple (dL (mkL p)))
def qY:Sp:=fun vs H Q _=>∃(l:Addr) (n:Nat) (cs:List Cl),vs=[.ref l,.int (n:Int)]/\CL H l cs/\Lcs cs/\cs≠[] /\
 ∀(q a d:Addr) (xs:List IT.It) (kvs:List (Key×V)) (H':Hp),Same H H'->H d=none->H' q=some (.tup [.ref a,.ref d])->H' d=some (.dK kvs)->Td H' (.ref a) (.tuple (dL xs))->Shp H' cs xs kvs->Q (.ref q) H'
theorem kl {b:Bool}{A:Prop}{B:Hp->Prop}{T:Prop}{H:Hp}(hB:B H) (hT:b=true->B H->T):if b=true then T else (if false=true then A else B H):=by
 cases b with
 | false=>exact gD (gD hB)
 | true=>exact k_ (hT rfl hB)
theorem ot (x:IT.It):decide (V.str (kd x)=V.str "clip")=true->isF x=false/\∃r f l,x=.clip r f l:=by
 cases x with
 | clip r f l=>exact fun _=>⟨rfl,r,f,l,rfl⟩
 | times m xs=>exact fun h=>absurd (show decide (V.str "times"=V.str "clip")=true from h) (by decide +kernel)
 | back xs=>exact fun h=>absurd (show decide (V.str "back"=V.str "clip")=true from h) (by decide +kernel)
 | part n xs=>exact fun h=>absurd (show decide (V.str "part"=V.str "clip")=true from h) (by decide +kernel)
 | fade m=>exact fun h=>absurd (show decide (V.str "fade"=V.str "clip")=true from h) (by decide +kernel)
theorem qI {H:Hp}{vs:List V}{xs:List IT.It}{k:Nat}(h:Tds H vs (dL xs)) (hk:k<vs.length):∃a ws x,vs[k]?=some (.ref a)/\H a=some (.tup (.str (kd x) :: ws))/\xs[k]?=some x:=by
 have hv:vs[k]?=some vs[k]:=AN hk
 obtain ⟨d,hd,tv⟩:=h.get hv
 rw [aU,AR] at hd
 cases e:xs[k]? with
 | none=>rw [e] at hd; cases hd
 | some x =>
  rw [e] at hd
  cases hd
  obtain ⟨a,ws,ea,ha⟩:=qK tv
  exact ⟨a,ws,x,by rw [hv,ea],ha,rfl⟩
theorem wH {cs:List Cl}{n:Nat}{x y:IT.It}(h0:0<n) (h1:n<(mkL cs).length) (hx:(mkL cs)[n]?=some x) (hy:(mkL cs)[n-1]?=some y) (cx:isF x=false) (cy:isF y=false) :
  ∃p r,cs=p++r/\p≠[]/\r≠[]/\(∀c,r.head?=some c->c.d<=0)/\(mkL cs).take n=mkL p/\(mkL cs).drop n=mkL r:=by
 obtain ⟨p,r,e,ea,eb⟩:=f8 (cs:=cs) (A:=(mkL cs).take n) (B:=(mkL cs).drop n) (List.take_append_drop n _).symm (fun z hz=>by
  rw [List.getLast?_eq_getElem?,BA,DW (by omega),List.getElem?_take,if_pos (by omega),hy] at hz
  cases hz
  exact cy)
 refine ⟨p,r,e,fun z=>?_,fun z=>?_,fun c hc=>?_,ea,eb⟩
 ·subst z
  have:=congrArg C1 ea
  rw [BA] at this
  have e0:(mkL ([]:List Cl)).length=0:=rfl
  omega
 ·subst z
  have:=congrArg C1 eb
  rw [Cq] at this
  have e0:(mkL ([]:List Cl)).length=0:=rfl
  omega
 ·cases r with
  | nil=>cases hc
  | cons a r =>
   cases hc
   have hh:((mkL cs).drop n)[0]?=some x:=by rw [List.getElem?_drop]; exact hx
   rw [eb,bx] at hh
   unfold mkC at hh
   by_cases z:0<c.d
   ·rw [if_pos z] at hh
    cases hh
    cases cx
   ·omega
theorem scList:aq ["_law_clips_here", "_law_cut", "_law_found", "_law_k", "_law_reel", "_law_first", "_law_last", "_law_fade"] ["_law_clips_here", "_law_cut"] (ak dY):=⟨rfl,rfl,rfl,by decide +kernel,rfl,by decide +kernel,by decide +kernel⟩
theorem vK {f:Addr}{fd:Bg}(F:Fun K "_law_list" "_law_list" dY f fd) (n_len:mg "len"=none) (n_tuple:mg "tuple"=none) (n_range:mg "range"=none):aJ P w K mg base CX0 1 f fd ["_law_clips_here", "_law_cut"] qY:=by
 refine F.ok scList (fun vs H Q E h=>?_) (fun cdv A outer s H vs Q E hr h=>?_)
 ·obtain ⟨l,n,cs,rfl,_⟩:=h
  rfl
 obtain ⟨l,n,cs,rfl,cl,lc,hne,q⟩:=h
 refine wP (ag (ax (i:=2) scList.nd (aW af))
  (ag (bv BM rfl (tQ n_range (e_b aH n_len Cc (aa (e_v 0) af))) (aC (i:=3) scList.nd)
   (ag (i5 (au aE (e_v 0) (e_v 3)) (fM rfl (aM (aC (i:=4) scList.nd) (aM (aC (i:=5) scList.nd) (aM (aC (i:=6) scList.nd) (aM (aC (i:=7) scList.nd) dA))))))
   (ag (fC (bb (aK i_ (e_v 7) ae)
    (ah (aO (bn (e_v 2) (ba (aa aS (aa (e_v 7) af))))))
    aI))
   (ah (aO (bn (e_v 2) (ba (aa aS (aa (e_v 4) (aa (e_v 5) (aa (e_v 6) af)))))))))))
  (ag (ax (i:=5) scList.nd (e_t bc n_tuple (by decide +kernel) (aa (ge de (e_v 2) cB (bj (e_v 1))) af)))
  (ag (bb (t_w (iT (aK i_ (e_v 1) ae) (iT (aK gk (e_v 1) (e_b aH n_len Cc (aa (e_v 2) af))) (iT (aK bf (au ao (au aE (e_v 2) (e_v 1)) ae) aS) (jC (aK bf (au ao (au aE (e_v 2) (aD bL (e_v 1) ae)) ae) aS))))))
   (ah (aB (ba (aa (aD fF (ba (aa (ba (aa aS (aa aS af))) af)) (e_t bc n_tuple (by decide +kernel) (aa (ge de (e_v 2) (bj (e_v 1)) cB) af))) (aa (wA aS (e_v 5)) af)))))
   aI)
  (ah (aB (ba (aa (e_t bc n_tuple (by decide +kernel) (aa (e_v 2) af)) (aa kg af))))))))) ?_
 intros
 have zl:sizeLine=16777216:=A9
 obtain ⟨us,hus,tus⟩:=id cl
 have lu:us.length=cs.length:=by rw [tus.len,AH]
 have l20:=lc.len
 refine ⟨(by show 0<=sizeLine; decide),fun pf hpf=>?_⟩
 have s0:=Same.new hpf (.lst [])
 refine ⟨_,rfl,l,_,rfl,.inl (SqL.of (s0 _ _ hus)),_,rfl,by omega,by omega,jp (lo:=0) (n:=((us.length:Nat):Int).toNat) (fun i σ H'=>∃(fs:List V) (o3 o4 o5 o6 o7:Option V),σ=[some (.ref l),some (.int (n:Int)),some (.ref pf),o3,o4,o5,o6,o7]/\H' pf=some (.lst fs)/\Tds H' fs (dL (mkL (cs.take i)))/\fs.length<=2*i/\Same H H')
  ⟨[],none,none,none,none,none,rfl,ac,(by rw [BS]; show Tds _ [] (dL []); rw [dL]; exact .nil),by decide,s0⟩ ?_ ?_⟩
 ·rintro i σ H' hi ⟨fs,o3,o4,o5,o6,o7,rfl,hfs,tfs,hlen,sm⟩
  have hi:i<us.length:=by omega
  have hv:us[i]?=some us[i]:=AN hi
  obtain ⟨dd,hd,tv⟩:=(tus.tk (TK.of sm)).get hv
  obtain ⟨c,hc,rfl⟩:=jw hd
  obtain ⟨t,et,ht⟩:=gU tv
  rw [et] at hv
  refine ⟨_,rfl,_,rfl,l,_,_,.ref t,rfl,rfl,SqL.of (sm _ _ hus),by rw [Int.zero_add]; exact ad hv,?_⟩
  refine ⟨t,_,rfl,SqT.of ht,rfl,_,_,rfl,_,_,rfl,_,_,rfl,_,_,rfl,rfl,?_⟩
  refine ⟨fun σ' H1=>∃gs:List V,σ'=[some (.ref l),some (.int (n:Int)),some (.ref pf),some (.int (0+(i:Int))),some (.str c.r),some (.int c.f),some (.int c.l),some (.int c.d)]/\H1 pf=some (.lst gs)/\Tds H1 gs (dL (mkL (cs.take i)++(if 0<c.d then [.fade c.d] else [])))/\gs.length<=2*i+1/\Same H H1,?_,?_⟩
  ·refine ⟨_,rfl,_,_,rfl,rfl,_,rfl,fc (fun y=>?_) (fun y=>?_)⟩
   ·have y:0<c.d:=of_decide_eq_true y
    refine ⟨_,rfl,.inl ⟨rfl,_,SqL.of hfs⟩,_,rfl,(by show 2<=sizeLine; decide),fun p1 hp1=>?_⟩
    have t1:=Same.new hp1 (.tup [.str "fade",.int c.d])
    refine ⟨pf,_,_,rfl,rfl,t1 _ _ hfs,by omega,fs++[.ref p1],rfl,ac,?_,?_,fun b ob hb=>?_⟩
    ·rw [if_pos y,iH,show dL [IT.It.fade c.d]=[dI (.fade c.d)] by rw [dL,dL]]
     exact ((tfs.tk (TK.of t1)).app (Tds.one (vV ac))).tk (TK.lst (t1 _ _ hfs))
    ·rw [AW,BU]; omega
    ·rw [aj (am hb hpf)]
     exact t1 _ _ (sm _ _ hb)
   ·have y:¬ 0<c.d:=fun z=>y (decide_eq_true z)
    exact ⟨fs,rfl,hfs,by rw [if_neg y,BK]; exact tfs,by omega,sm⟩
  rintro σ H1 ⟨gs,rfl,hgs,tgs,hgl,s1⟩
  refine ⟨_,rfl,.inl ⟨rfl,_,SqL.of hgs⟩,_,rfl,_,rfl,_,rfl,(by show 4<=sizeLine; decide),fun p2 hp2=>?_⟩
  have t2:=Same.new hp2 (.tup [.str "clip",.str c.r,.int c.f,.int c.l])
  refine ⟨pf,_,_,rfl,rfl,t2 _ _ hgs,by omega,gs++[.ref p2],_,_,_,_,_,rfl,ac,?_,?_,fun b ob hb=>?_⟩
  ·have e:mkL (cs.take (i+1))=(mkL (cs.take i)++(if 0<c.d then [.fade c.d] else []))++[.clip c.r c.f c.l]:=by
    rw [aZ hc,vX,Bu]
    congr 1
    show mkL [c]=_
    rw [bx]
    unfold mkC
    show (if 0<c.d then _ else _)++[]=(if 0<c.d then _ else _)++_
    split <;> rfl
   rw [e,iH,show dL [IT.It.clip c.r c.f c.l]=[dI (.clip c.r c.f c.l)] by rw [dL,dL]]
   exact ((tgs.tk (TK.of t2)).app (Tds.one (nY ac))).tk (TK.lst (t2 _ _ hgs))
  ·rw [AW,BU]; omega
  ·rw [aj (am hb hpf)]
   exact t2 _ _ (s1 _ _ hb)
 ·rintro σ H' ⟨fs,o3,o4,o5,o6,o7,rfl,hfs,tfs,hlen,sm⟩
  rw [show ((us.length:Nat):Int).toNat=cs.length by omega,BJ] at tfs
  have lfs:fs.length=(mkL cs).length:=by rw [tfs.len,aU,AH]
  refine ⟨_,rfl,_,rfl,_,rfl,pf,_,rfl,SqL.of hfs,fun p1 hp1=>?_⟩
  rw [uu fs n]
  have t1:=Same.new hp1 (.lst (fs.take n))
  refine ⟨p1,_,rfl,.inl ⟨SqL.of ac,fun p2 hp2=>?_⟩⟩
  have t2:=t1.trans (Same.new hp2 (.tup (fs.take n)))
  have h2:=ac (H:=upd H' p1 (.lst (fs.take n))) (a:=p2) (o:=.tup (fs.take n))
  have S2:=sm.trans t2
  have hf2:=t2 _ _ hfs
  have tf2:=tfs.tk (TK.of t2)
  generalize upd (upd H' p1 (.lst (fs.take n))) p2 (.tup (fs.take n))=H2 at t2 h2 S2 hf2 tf2 ⊢
  refine ⟨_,rfl,_,_,rfl,rfl,_,rfl,kl (H:=H2) ?pl fun c1 hpl=>?_⟩
  case pl =>
   refine ⟨_,rfl,pf,_,rfl,.inl ⟨SqL.of hf2,fun p6 hp6=>fun pd hpd=>?_⟩⟩
   have t6:=Same.new hp6 (.tup fs)
   have h6:=ac (H:=H2) (a:=p6) (o:=.tup fs)
   generalize upd H2 p6 (.tup fs)=G6 at t6 h6 hpd ⊢
   have t7:=Same.new hpd (.dK [])
   refine ⟨(by show 2<=sizeLine; decide),fun p9 hp9=>?_⟩
   have t10:=Same.new hp9 (.tup [.ref p6,.ref pd])
   have T:=t6.trans (t7.trans t10)
   exact q p9 p6 pd (mkL cs) [] _ (S2.trans T) ((S2.trans t6).free hpd) ac (t10 _ _ ac) ((Td.tup h6 (tf2.tk (TK.of t6))).tk (TK.of (t7.trans t10))) (.inl ⟨rfl,rfl⟩)
  have c1:0<n:=by have:(0:Int)<(n:Int):=of_decide_eq_true c1; omega
  refine ⟨_,rfl,_,rfl,pf,_,rfl,.inl (SqL.of hf2),_,_,rfl,rfl,_,rfl,kl (H:=H2) hpl fun c2 hpl=>?_⟩
  have c2:n<fs.length:=by have:(n:Int)<(fs.length:Int):=of_decide_eq_true c2; omega
  obtain ⟨fa,fw,fx,f1,f2,f3⟩:=qI tf2 c2
  obtain ⟨ga,gw,gx,g1,g2,g3⟩:=qI tf2 (k:=n-1) (by omega)
  refine ⟨_,rfl,_,rfl,pf,_,_,.ref fa,rfl,rfl,SqL.of hf2,ad f1,fa,_,_,.str (kd fx),rfl,rfl,SqT.of f2,ad (j:=0) rfl,rfl,_,rfl,kl (H:=H2) hpl fun c3 hpl=>?_⟩
  refine ⟨_,rfl,_,rfl,_,_,rfl,rfl,pf,_,_,.ref ga,rfl,rfl,SqL.of hf2,(by rw [show (n:Int)-1=((n-1:Nat):Int) by omega]; exact ad g1),ga,_,_,.str (kd gx),rfl,rfl,SqT.of g2,ad (j:=0) rfl,rfl,_,rfl,fc (fun c4=>?_) (fun _=>hpl)⟩
  obtain ⟨p,r,e,ep,er,h0,eA,eB⟩:=wH c1 (by omega) f3 g3 (ot _ c3).1 (ot _ c4).1
  refine ⟨(by show 2<=sizeLine; decide),fun q1 hq1=>⟨(by show 1<=sizeLine; decide),fun q2 hq2=>?_⟩⟩
  have u1:=Same.new hq1 (.tup [.str "part",.str "p"])
  have u2:=u1.trans (Same.new hq2 (.tup [.ref q1]))
  have hq1':=Same.new hq2 (.tup [.ref q1]) _ _ (ac (H:=H2) (a:=q1) (o:=.tup [.str "part",.str "p"]))
  have hq2':=ac (H:=upd H2 q1 (.tup [.str "part",.str "p"])) (a:=q2) (o:=.tup [.ref q1])
  generalize upd (upd H2 q1 (.tup [.str "part",.str "p"])) q2 (.tup [.ref q1])=H3 at u2 hq1' hq2' ⊢
  refine ⟨_,rfl,_,rfl,_,rfl,pf,_,rfl,SqL.of (u2 _ _ hf2),fun p3 hp3=>?_⟩
  rw [lD fs n]
  refine ⟨p3,_,rfl,.inl ⟨SqL.of ac,fun p4 hp4=>?_⟩⟩
  have t4:=(Same.new hp3 (.lst (fs.drop n))).trans (Same.new hp4 (.tup (fs.drop n)))
  have h4:=ac (H:=upd H3 p3 (.lst (fs.drop n))) (a:=p4) (o:=.tup (fs.drop n))
  generalize upd (upd H3 p3 (.lst (fs.drop n))) p4 (.tup (fs.drop n))=H4 at t4 h4 ⊢
  refine ⟨q2,p4,_,_,rfl,rfl,t4 _ _ hq2',h4,by simp only [AZ,Dp,Cq]; omega,fun p5 H5 t5 h5=>fun pd hpd=>?_⟩
  have U5:=(u2.trans t4).trans t5
  refine ⟨_,rfl,ac,[(.inr "p",.ref p2)],rfl,by show 1<=15; decide,(by show 2<=sizeLine; decide),fun p9 hp9=>?_⟩
  have v1:=Same.new hpd (.dK [])
  have tk9:TK H5 (upd (upd H5 pd (.dK [])) pd (.dK (f9 [] [(.inr "p",.ref p2)]))):=(TK.of v1).trans (TK.dk ac)
  have t10:=Same.new hp9 (.tup [.ref p5,.ref pd])
  have pdn:H pd=none:=(S2.trans U5).free hpd
  have tB:Tds H5 (fs.drop n) (dL (mkL r)):=by rw [<- eB,<- wG]; exact Tds.drop n (tf2.tk (TK.of U5))
  have tA:Td H5 (.ref p2) (.tuple (dL (mkL p))):=.tup (U5 _ _ h2) (by rw [<- eA,<- wF]; exact Tds.take n (tf2.tk (TK.of U5)))
  have tX:Td H5 (.ref p5) (.tuple (dL (.part "p" (mkL p) :: mkL r))):=by
   rw [dL]
   exact .tup h5 (.cons (vU (t5 _ _ (t4 _ _ hq1'))) tB)
  refine q p9 p5 pd _ _ _ (fun b ob hb=>t10 _ _ ?_) pdn ac (t10 _ _ ac) ((tX.tk tk9).tk (TK.of t10)) (.inr ⟨p2,p,r,e,ep,er,h0,rfl,rfl,(tA.tk tk9).tk (TK.of t10)⟩)
  rw [aj (am hb pdn)]
  exact v1 _ _ (U5 _ _ (S2 _ _ hb))
end
end K56
namespace L2
open PySem PySem.Spec PyProof.Rows
section
variable {X:Cx}
def zp (K:AK) (te:TE) (tk:TO):TE:=fun σ H Q=>te σ H fun x H1=>tk σ H1 fun k H2=>k=some (-1)/\∃a xs,x=.ref a/\SqL K H2 a xs/\∀p,H2 p=none->Q (.ref p) (upd H2 p (.lst xs.reverse))
theorem yk {e st:Expr}{te:TE}{tk:TO}{p2 pos:Pos}(he:PE X e te) (hk:PO X (some st) tk):PE X (.Subscript e (.Slice none none (some st) p2) pos) (zp X.K te tk):=by
 intro pins s σ H Q I h
 refine Subscript_ (thn (he pins s σ H _ I h) fun v s1 ⟨x,H1,I1,r1,q1⟩=>?_)
 refine wpAny_Slice ?_
 rw [evalPart_none]
 refine AV (AV ?_)
 refine thn (hk pins s1 σ H1 _ I1 q1) fun vk s3 ⟨k,H3,I3,pk,q3⟩=>?_
 obtain ⟨rfl,a,xs,rfl,hx,q⟩:=q3
 cases r1
 have I4:Inv X pins σ H3 { s3 with heap:=s3.heap.push { cls:=.type "slice",data:=.fields #[.none,.none,vk] } }:=I3.kept (t':=s3.toks) fun b ob q=>AJ _ q
 obtain ⟨its,r,ht,hz⟩:=I4.list hx
 have hlen:=r.length
 show A6 (Bf X.prog X.w) X.A (EY e (.Slice none none (some st) p2) (.ref a) (.ref s3.heap.objs.size)) (EP X pins σ Q) X.xe { s3 with heap:=s3.heap.push { cls:=.type "slice",data:=.fields #[.none,.none,vk] } }
 refine tail_any (ops:=[.ref a,.ref s3.heap.objs.size]) ht.isList.typeIs slot_list_getitem.lookup ?_ (by with_unfolding_all rfl)
 refine wpAny_getItem_list_slice ht.isList (Heap.IsSliceOf.new ..) .none .none pk (by decide) ?_ (by rw [AU] <;> omega)
 rw [PySem.W.krv_pick,show its.toArray.toList.reverse=its.reverse by simp]
 refine ⟨.ref _,_,I4.laid (t':=s3.toks) (o:=.lst xs.reverse) (fun b ob q=>AJ _ q) (AM _) ?_,rfl,q _ (I4.hok.fresh (AM _))⟩
 exact ⟨by rw [A7]; exact hz,its.reverse,0,r.reverse,A5 _ rfl⟩
theorem z_ {e st:Expr}{te:TE}{tk:TO}{p2 pos:Pos}(he:QE X e te) (hk:QO X (some st) tk):QE X (.Subscript e (.Slice none none (some st) p2) pos) (zp X.K te tk):=⟨yk he.h hk.h⟩
end
section
variable {prog:Program}{w:Bj}{A:Bk}{E:Value->AL->Prop}{s:AL}
theorem lX (n:Nat):BW ((n:Int)-1) (-1) (-1)=n:=by
 unfold BW
 rw [if_neg (by decide),show-(-1:Int)=1 from rfl]
 split
 ·rw [Int.ediv_one]; omega
 ·omega
theorem mP (n:Nat):Cu none none (-1) (n:Int)=((n:Int)-1,-1):=by
 unfold Cu
 simp
theorem rN (xs:Array Value):((BP xs.size).filterMap fun (m:Nat)=>xs[((xs.size:Int)-1+(m:Int)*(-1)).toNat]?).toArray=xs.toList.reverse.toArray:=by
 congr 1
 have h:=congrArg List.reverse (PySem.W.krv_all xs)
 rw [<- List.filterMap_reverse,<- PySem.W.krv_range,List.filterMap_map] at h
 rw [<- h]
 congr 1
 funext m
 show xs[((xs.size:Int)-1+(m:Int)*(-1)).toNat]?=xs[xs.size-1-m]?
 congr 1
 omega
theorem fX {sl:Addr}{vk:Value}{n:Nat}{Q:Int×Int×Nat->AL->Prop}(hs:s.heap.IsSliceOf sl .none .none vk) (pk:Fi vk (some (-1))) (h:Q ((n:Int)-1,-1,n) s):A6 (Bf prog w) A (Dj (.ref sl) (pure (n:Int))) Q E s:=by
 obtain ⟨os,hos,hcs,hds⟩:=id hs
 unfold Dj Builtin.Slice.sliceFields
 refine AI (AI (B0 hos hds (x:=.none) rfl (AI (B0 hos hds (x:=.none) rfl (AI (B0 hos hds (x:=vk) rfl (AV ?_)))))))
 refine AI (HT.slicePart_ pk ?_)
 show A6 _ _ (if ((-1:Int) == 0)=true then _ else _) _ _ s
 rw [if_neg (by decide)]
 refine AI (HT.slicePart_ .none (AI (HT.slicePart_ .none (AI (AV ?_)))))
 show A6 _ _ (match Cu none none (-1) (n:Int) with | (lo,hi)=>pure (lo,(-1:Int),BW lo hi (-1))) _ _ s
 rw [mP n]
 show A6 _ _ (pure ((n:Int)-1,(-1:Int),BW ((n:Int)-1) (-1) (-1))) _ _ s
 rw [lX]
 exact AV h
theorem fL {t sl:Addr}{items:Array Value}{vk:Value}{Q:Value->AL->Prop}(ht:Fe s.heap t items) (hs:s.heap.IsSliceOf sl .none .none vk) (pk:Fi vk (some (-1)))
  (h:Q (.ref s.heap.objs.size) { s with heap:=s.heap.push { cls:=.type "tuple",data:=.seq items.toList.reverse.toArray } })
  (hsz:items.size<=sizeLine):A6 (Bf prog w) A (ED (.ref t) (.ref sl)) Q E s:=by
 have htake:sizeOk (.seq items.toList.reverse.toArray):=by
  show items.toList.reverse.toArray.size<=sizeLine
  rw [AU,A7,B3]
  omega
 obtain ⟨os,hos,hcs,hds⟩:=id hs
 have hTs:s.TypeIs (.ref sl) "slice":=⟨os,hos,hcs⟩
 unfold ED
 try with_reducible refine Cd ?_
 first | refine AI (AV ?_) | skip
 refine AI (wpAny_sequenceKey ht.typeIs (by decide) ?_)
 refine AI (Ci (name:=Dt "__getitem__") ht.typeIs BI
  (CQ BI ht.typeIs entry_tuple_getitem ?_ (args_tuple_getitem _ _)))
 show A6 _ _ (D6 (.ref t) >>= _) _ _ s
 refine AI (tupleItemsOf_ ht ?_)
 refine AI (wpAny_typeOf hTs ?_)
 rw [if_pos (by decide)]
 refine AI (fX hs pk ?_)
 have hno:¬ ((((items.size:Int)-1) == 0&&(-1:Int) == 1&&items.size == items.size)=true):=by
  intro q
  rw [BG,BG] at q
  exact absurd q.1.2 (by decide)
 show A6 _ _ (if (((items.size:Int)-1) == 0&&(-1:Int) == 1&&items.size == items.size)=true then _ else _) _ _ s
 rw [if_neg hno,rN]
 first
  | exact AI (m:=BZ _) (BE (AV ⟨_,rfl,AV h⟩) htake)
  | exact AI (m:=BZ _) (BE (AI (AV (AV ⟨_,rfl,AV h⟩))) htake)
  | exact AI (AI (m:=BZ _) (BE (AV (AV ⟨_,rfl,AV h⟩)) htake))
  | exact AI (AI (m:=BZ _) (BE (AV ⟨_,rfl,AV h⟩) htake))
end
section
variable {X:Cx}
def zo (K:AK) (te:TE) (tk:TO):TE:=fun σ H Q=>te σ H fun x H1=>tk σ H1 fun k H2=>k=some (-1)/\∃a xs,x=.ref a/\SqT K H2 a xs/\∀p,H2 p=none->Q (.ref p) (upd H2 p (.tup xs.reverse))
theorem y0 {e st:Expr}{te:TE}{tk:TO}{p2 pos:Pos}(he:QE X e te) (hk:QO X (some st) tk):QE X (.Subscript e (.Slice none none (some st) p2) pos) (zo X.K te tk):=by
 refine ⟨?_⟩
 intro pins s σ H Q I h
 refine Subscript_ (thn (he.h pins s σ H _ I h) fun v s1 ⟨x,H1,I1,r1,q1⟩=>?_)
 refine wpAny_Slice ?_
 rw [evalPart_none]
 refine AV (AV ?_)
 refine thn (hk.h pins s1 σ H1 _ I1 q1) fun vk s3 ⟨k,H3,I3,pk,q3⟩=>?_
 obtain ⟨rfl,a,xs,rfl,hx,q⟩:=q3
 cases r1
 have I4:Inv X pins σ H3 { s3 with heap:=s3.heap.push { cls:=.type "slice",data:=.fields #[.none,.none,vk] } }:=I3.kept (t':=s3.toks) fun b ob q=>AJ _ q
 obtain ⟨its,r,ht,hz⟩:=I4.tuple hx
 have hlen:its.toArray.size=xs.length:=by rw [AU]; exact r.length.symm
 show A6 (Bf X.prog X.w) X.A (EY e (.Slice none none (some st) p2) (.ref a) (.ref s3.heap.objs.size)) (EP X pins σ Q) X.xe { s3 with heap:=s3.heap.push { cls:=.type "slice",data:=.fields #[.none,.none,vk] } }
 refine tail_any (ops:=[.ref a,.ref s3.heap.objs.size]) ht.typeIs BI.lookup ?_ (by with_unfolding_all rfl)
 refine fL ht (Heap.IsSliceOf.new ..) pk ?_ (by rw [hlen]; exact hz)
 rw [show its.toArray.toList.reverse=its.reverse by simp]
 refine ⟨.ref _,_,I4.laid (t':=s3.toks) (o:=.tup xs.reverse) (fun b ob q=>AJ _ q) (AM _) ?_,rfl,q _ (I4.hok.fresh (AM _))⟩
 exact ⟨by rw [A7]; exact hz,its.reverse,r.reverse,Fe.new _ _⟩
end
end L2
namespace K56
open PySem L2 G
open KS hiding iteN iteY
open DT hiding iteN iteY CL
section
variable {P:Program}{w:Bj}{K:AK}{mg:Str->Option Value}{base:Heap}
def w8:Sp:=fun vs H Q _=>∃(p:Addr) (S:List (List Frm)),vs=[.ref p]/\SH H p S/\gF S/\S.length<=100000/\∀l H',Same H H'->H l=none->SH H' l (mM S)->Q (.ref l) H'
theorem scMir:aq ["_law_film", "_law_found", "_law_moment", "_law_some", "_law_reel", "_law_number", "_law_part", "_law_whole"] ["_law_film"] (ak bY):=⟨rfl,rfl,rfl,by decide +kernel,rfl,by decide +kernel,by decide +kernel⟩
theorem yA {f:Addr}{fd:Bg}(F:Fun K "_law_mirrored" "_law_mirrored" bY f fd) (n_tuple:mg "tuple"=none):aJ P w K mg base CX0 1 f fd ["_law_film"] w8:=by
 refine F.ok scMir (fun vs H Q E h=>?_) (fun cdv A outer s H vs Q E hr h=>?_)
 ·obtain ⟨p,S,rfl,_⟩:=h
  rfl
 obtain ⟨p,S,rfl,sh,mo,hS,q⟩:=h
 refine eJ (ag (ax (i:=1) scMir.nd (aW af))
  (ag (bv BM rfl (cC (z_ (e_v 0) (bj (fP bD ae)))) (aC (i:=2) scMir.nd)
   (ag (ax (i:=3) scMir.nd (aW af))
   (ag (bv BM rfl (lg (y0 (e_v 2) (bj (fP bD ae)))) (fM rfl (aM (aC (i:=4) scMir.nd) (aM (aC (i:=5) scMir.nd) (aM (aC (i:=6) scMir.nd) (aM (aC (i:=7) scMir.nd) dA)))))
    (ah (aO (bn (e_v 3) (ba (aa (e_v 4) (aa (e_v 5) (aa (e_v 6) (aa (e_v 7) af)))))))))
   (ah (aO (bn (e_v 1) (e_t bc n_tuple (by decide +kernel) (aa (e_v 3) af))))))))
  (ah (aB (e_v 1))))) ?_
 intros
 have zl:sizeLine=16777216:=A9
 obtain ⟨us,hus,tus⟩:=id sh
 have lu:us.length=S.length:=by rw [tus.len,AH]
 refine ⟨(by show 0<=sizeLine; decide),fun pf hpf=>?_⟩
 have s0:=Same.new hpf (.lst [])
 refine ⟨_,rfl,_,rfl,_,rfl,rfl,p,us,rfl,SqL.of (s0 _ _ hus),fun pr hpr=>?_⟩
 have s1:=s0.trans (Same.new hpr (.lst us.reverse))
 have hpr':=ac (H:=upd H pf (.lst [])) (a:=pr) (o:=.lst us.reverse)
 have hpf':=Same.new hpr (.lst us.reverse) _ _ (ac (H:=H) (a:=pf) (o:=.lst []))
 have hprn:pr≠pf:=am (ac (H:=H) (a:=pf) (o:=.lst [])) hpr |>.symm
 generalize upd (upd H pf (.lst [])) pr (.lst us.reverse)=H1 at s1 hpr' hpf' ⊢
 refine ⟨pr,rfl,⟨_,SqL.of hpr'⟩,bU (K:=K) (a:=pr) (xs:=us.reverse) (fun i σ H'=>∃(fs:List V) (o2 o3 o4 o5 o6 o7:Option V),σ=[some (.ref p),some (.ref pf),o2,o3,o4,o5,o6,o7]/\H' pf=some (.lst fs)/\Tds H' fs (((S.reverse.take i).map List.reverse).map gC)/\fs.length<=i/\Same H H'/\H' pr=some (.lst us.reverse))
  ⟨[],none,none,none,none,none,none,rfl,hpf',.nil,AM _,s1,hpr'⟩ (fun i σ H' _ ⟨_,_,_,_,_,_,_,_,_,_,_,_,h⟩=>SqL.of h) ?_ ?_⟩
 ·rintro i v σ H' hv ⟨fs,o2,o3,o4,o5,o6,o7,rfl,hfs,tfs,hlen,sm,hr'⟩
  have hi:i<us.length:=by have:=(AS.mp hv).1; rw [A7] at this; exact this
  rw [BD hi] at hv
  obtain ⟨d,hd,tv⟩:=(tus.tk (TK.of sm)).get hv
  rw [AR] at hd
  cases hm:S[us.length-1-i]? with
  | none=>rw [hm] at hd; cases hd
  | some m =>
   rw [hm] at hd
   cases hd
   have hmr:S.reverse[i]?=some m:=by rw [BD (by omega),<- lu]; exact hm
   obtain ⟨mt,ms,rfl,hmt,tms⟩:=tv.tinv
   have lm:ms.length=m.length:=by rw [tms.len,AH]
   have m2:=(mo m (Bh hm)).2.2
   refine ⟨(by show 0<=sizeLine; decide),fun ps hps=>?_⟩
   have t0:=Same.new hps (.lst [])
   refine ⟨_,rfl,_,rfl,_,rfl,rfl,mt,ms,rfl,SqT.of (t0 _ _ hmt),fun pq hpq=>?_⟩
   have t1:=t0.trans (Same.new hpq (.tup ms.reverse))
   have hpq':=ac (H:=upd H' ps (.lst [])) (a:=pq) (o:=.tup ms.reverse)
   have hps':=Same.new hpq (.tup ms.reverse) _ _ (ac (H:=H') (a:=ps) (o:=.lst []))
   generalize upd (upd H' ps (.lst [])) pq (.tup ms.reverse)=H2 at t1 hpq' hps' ⊢
   refine ⟨pq,rfl,⟨_,SqT.of hpq'⟩,gN (K:=K) (a:=pq) (xs:=ms.reverse) (fun j σ H3=>∃(gs:List V) (o4 o5 o6 o7:Option V),σ=[some (.ref p),some (.ref pf),some (.ref mt),some (.ref ps),o4,o5,o6,o7]/\H3 ps=some (.lst gs)/\Tds H3 gs ((m.reverse.take j).map Frm.d)/\gs.length<=j/\Same H' H3/\H3 pq=some (.tup ms.reverse))
    ⟨[],_,_,_,_,rfl,hps',.nil,AM _,t1,hpq'⟩ (fun i σ H' _ ⟨_,_,_,_,_,_,_,_,_,_,h⟩=>SqT.of h) ?_ ?_⟩
   ·rintro j v σ H3 hv ⟨gs,o4,o5,o6,o7,rfl,hgs,tgs,hgl,s3,hq3⟩
    have hj:j<ms.length:=by have:=(AS.mp hv).1; rw [A7] at this; exact this
    rw [BD hj] at hv
    obtain ⟨d,hd,tv⟩:=(tms.tk (TK.of s3)).get hv
    rw [AR] at hd
    cases hf:m[ms.length-1-j]? with
    | none=>rw [hf] at hd; cases hd
    | some fr =>
     rw [hf] at hd
     cases hd
     have hfr:m.reverse[j]?=some fr:=by rw [BD (by omega),<- lm]; exact hf
     obtain ⟨ft,rfl,hft⟩:=qL tv
     refine ⟨ft,_,rfl,SqT.of hft,rfl,_,_,rfl,_,_,rfl,_,_,rfl,_,_,rfl,rfl,?_⟩
     refine ⟨_,rfl,.inl ⟨rfl,_,SqL.of hgs⟩,_,rfl,_,rfl,_,rfl,_,rfl,(by show 4<=sizeLine; decide),fun p2 hp2=>?_⟩
     have t2:=Same.new hp2 (.tup fr.vs)
     refine ⟨ps,_,_,rfl,rfl,t2 _ _ hgs,by omega,gs++[.ref p2],_,_,_,_,rfl,ac,?_,?_,fun b ob hb=>?_,?_⟩
     ·rw [aZ hfr,A8]
      exact ((tgs.tk (TK.of t2)).app (Tds.one (jY ac))).tk (TK.lst (t2 _ _ hgs))
     ·rw [AW,BU]; omega
     ·rw [aj (am hb hps)]
      exact t2 _ _ (s3 _ _ hb)
     ·rw [aj (bJ hq3 hgs (by intro z; cases z))]
      exact t2 _ _ hq3
   ·rintro σ H3 ⟨gs,o4,o5,o6,o7,rfl,hgs,tgs,hgl,s3,hq3⟩
    rw [A7,lm,show m.length=m.reverse.length by rw [A7],BJ] at tgs
    refine ⟨_,rfl,.inl ⟨rfl,_,SqL.of (s3 _ _ hfs)⟩,_,rfl,ps,_,rfl,.inl ⟨SqL.of hgs,fun pt hpt=>?_⟩⟩
    have t4:=Same.new hpt (.tup gs)
    refine ⟨pf,_,_,rfl,rfl,t4 _ _ (s3 _ _ hfs),by omega,fs++[.ref pt],_,_,_,_,_,_,rfl,ac,?_,?_,fun b ob hb=>?_,?_⟩
    ·rw [aZ hmr,A8,A8]
     exact (((tfs.tk (TK.of s3)).tk (TK.of t4)).app (Tds.one (Td.tup ac (tgs.tk (TK.of t4))))).tk (TK.lst (t4 _ _ (s3 _ _ hfs)))
    ·rw [AW,BU]; omega
    ·rw [aj (am hb hpf)]
     exact t4 _ _ (s3 _ _ (sm _ _ hb))
    ·rw [aj hprn]
     exact t4 _ _ (s3 _ _ hr')
 ·rintro σ H' ⟨fs,o2,o3,o4,o5,o6,o7,rfl,hfs,tfs,hlen,sm,hr'⟩
  rw [A7,lu,show S.length=S.reverse.length by rw [A7],BJ] at tfs
  exact ⟨_,rfl,q pf H' sm hpf ⟨fs,hfs,by unfold mM; rw [<- DJ]; exact tfs⟩⟩
end
end K56
namespace K56
open PySem L2 G DT
open IT hiding It
theorem tV {T:Str->Int->Int->Prop}{G:Str->List IT.It->Prop}{xs:List IT.It}(h:hL T G xs):hL T G (inp xs):=by
 unfold inp
 split
 ·rw [hL,hL,hI]; exact ⟨h,trivial⟩
 ·exact h
mutual
theorem Aw {T:Str->Int->Int->Prop}{G:Str->List IT.It->Prop}(sy:∀r f l,T r f l->T r l f):∀{x:IT.It},hI T G x->hL T G (tI x)
 | .clip r f l,h=>by rw [hI] at h; rw [tI,hL,hL,hI]; exact ⟨⟨h.1,sy _ _ _ h.2⟩,trivial⟩
 | .times m xs,h=>by rw [hI] at h; rw [tI,hL,hL,hI]; exact ⟨wf sy h,trivial⟩
 | .part n xs,h=>by rw [tI,hL,hL,hI,hL,hL]; exact ⟨⟨h,trivial⟩,trivial⟩
 | .back xs,h=>by rw [hI] at h; rw [tI]; exact tV (yV sy h)
 | .fade m,h=>by rw [tI,hL,hL]; exact ⟨h,trivial⟩
theorem wf {T:Str->Int->Int->Prop}{G:Str->List IT.It->Prop}(sy:∀r f l,T r f l->T r l f):∀{xs:List IT.It},hL T G xs->hL T G (tL xs)
 | [],_=>by rw [tL,hL]; trivial
 | x :: r,h=>by rw [hL] at h; rw [tL]; exact mE (wf sy h.2) (Aw sy h.1)
theorem Ax {T:Str->Int->Int->Prop}{G:Str->List IT.It->Prop}(sy:∀r f l,T r f l->T r l f):∀{x:IT.It},hI T G x->hL T G (sI x)
 | .clip r f l,h=>by rw [sI,hL,hL]; exact ⟨h,trivial⟩
 | .times m xs,h=>by rw [hI] at h; rw [sI,hL,hL,hI]; exact ⟨yV sy h,trivial⟩
 | .part n xs,h=>by rw [sI,hL,hL]; exact ⟨h,trivial⟩
 | .back xs,h=>by rw [hI] at h; rw [sI]; exact tV (wf sy h)
 | .fade m,h=>by rw [sI,hL,hL]; exact ⟨h,trivial⟩
theorem yV {T:Str->Int->Int->Prop}{G:Str->List IT.It->Prop}(sy:∀r f l,T r f l->T r l f):∀{xs:List IT.It},hL T G xs->hL T G (sL xs)
 | [],_=>by rw [sL,hL]; trivial
 | x :: r,h=>by rw [hL] at h; rw [sL]; exact mE (Ax sy h.1) (yV sy h.2)
end
structure Gd (cs:List Cl):Prop where
 ok:∀c∈cs,AB c.r/\Lc c
 ft:Ft cs
 h0:H0' cs
 len:cs.length<=30
 ne:cs≠[]
theorem Gd.d0 {cs:List Cl}(h:Gd cs):∀c∈cs,0<=c.d:=fun c hc=>(h.ok c hc).2.d0
theorem tY {c e:Cl}(h1:c.f=e.l) (h2:c.l=e.f):frC c=frC e:=by unfold frC; rw [h1,h2]; split <;> split <;> omega
theorem Gd.rev {cs:List Cl}(h:Gd cs):Gd (IT.rev cs):=by
 refine ⟨fun c hc=>?_,h.ft.rev h.d0,xU cs,by rw [gI]; exact h.len,lV h.ne⟩
 obtain ⟨e,he,e1,e2,e3,ed⟩:=nI (A:=cs.reverse) hc
 have k:=(h.ok e (Ct.mp he))
 refine ⟨e1 ▸ k.1,e2 ▸ k.2.l0,e2 ▸ k.2.l1,e3 ▸ k.2.f0,e3 ▸ k.2.f1,?_,by rw [tY e2 e3]; exact k.2.m⟩
 rcases ed with z | ⟨x,hx,z⟩
 ·omega
 ·rw [z]; exact h.d0 x (Ct.mp hx)
theorem Gd.frs {cs:List Cl}(h:Gd cs):frS cs<=2000:=by
 have:=tZ (A:=cs) (m:=9) fun c hc=>(h.ok c hc).2.m
 have:=h.len
 omega
def reA:Reel:=⟨"a", "AB",0,400⟩
def reB:Reel:=⟨"ab", "AB",100,400⟩
theorem xW:ROk reA:=⟨by decide,by decide +kernel,by decide +kernel,by decide,by decide⟩
theorem xV:ROk reB:=⟨by decide,by decide +kernel,by decide +kernel,by decide,by decide⟩
theorem wQ {r1 r2:Addr}:Uq [(r1,reA),(r2,reB)]:=by
 intro x hx y hy e
 simp only [AX,Cf,or_false] at hx hy
 rcases hx with rfl | rfl <;> rcases hy with rfl | rfl
 ·rfl
 ·exact absurd (show ("a":Str)="ab" from e) (by decide)
 ·exact absurd (show ("ab":Str)="a" from e) (by decide)
 ·rfl
theorem Gd.ck {cs:List Cl}(h:Gd cs) (r1 r2:Addr):∀c∈cs,fV c.r/\Ck [(r1,reA),(r2,reB)] c.r c.f c.l:=fun c hc=>by
 obtain ⟨k1,k⟩:=h.ok c hc
 refine ⟨k1.fine,?_⟩
 rcases k1 with e | e
 ·exact ⟨_,AQ,e.symm,k.f0,k.f1,k.l0,k.l1⟩
 ·exact ⟨_,AO _ AQ,e.symm,k.f0,k.f1,k.l0,k.l1⟩
theorem za {prs:List (Addr×Reel)}(r:Str) (f l:Int) (h:Ck prs r f l):Ck prs r l f:=by
 obtain ⟨x,hx,e,a,b,c,d⟩:=h
 exact ⟨x,hx,e,c,d,a,b⟩
structure Pls (prs:List (Addr×Reel)) (G:Str->List IT.It->Prop) (xs:List IT.It) (fs:List Cl):Prop where
 wl:WL xs
 h:hL (Ck prs) G xs
 pa:Pa (Ck prs) G ["p"]
 dp:dpL xs<=5
 fl:flL xs=fs
 gd:Gd fs
theorem Pls.film {prs:List (Addr×Reel)}{G:Str->List IT.It->Prop}{xs:List IT.It}{fs:List Cl}(h:Pls prs G xs fs) (CT CS:Addr) (H:Hp) (E:XK):uK CT CS (flL xs) H E (fun _=>True):=by
 rw [h.fl]
 have:=h.gd.frs
 have:=h.gd.len
 refine ⟨fun z=>?_,fun _ _ k hb=>absurd hb (h.gd.ft.good k),fun _ _ _ _ _=>trivial⟩
 omega
theorem Pls.turned {prs:List (Addr×Reel)}{G:Str->List IT.It->Prop}{xs:List IT.It}{fs:List Cl}(h:Pls prs G xs fs) (d:dpL xs<=4):Pls prs G (tL xs) (IT.rev fs):=by
 obtain ⟨a,b⟩:=kF h.wl
 have:=oK xs
 exact ⟨a,wf za h.h,h.pa,by omega,by rw [b,h.fl],h.gd.rev⟩
theorem Pls.back {prs:List (Addr×Reel)}{G:Str->List IT.It->Prop}{xs:List IT.It}{fs:List Cl}(h:Pls prs G xs fs) (d:dpL xs<=4):Pls prs G [.back xs] (IT.rev fs):=by
 have w:WI (.back xs):=.back h.wl
 refine ⟨.one w,by rw [hL,hL,hI]; exact ⟨h.h,trivial⟩,h.pa,?_,by rw [bd w,cE,h.fl],h.gd.rev⟩
 rw [dpL_le]
 intro x hx
 rw [Bi.mp hx,dpI]
 omega
theorem Shp.pls {H:Hp}{cs:List Cl}{xs:List IT.It}{kvs:List (Key×V)}(h:Shp H cs xs kvs) (g:Gd cs) (r1 r2:Addr) :
  ∃G,Pls [(r1,reA),(r2,reB)] G xs cs/\dpL xs<=4/\wL xs<=1000/\∀H' d,TK H H'->Rd H' d (.dK kvs)->PR H' d G:=by
 obtain ⟨c,r,e,hd⟩:=z6 g.ne g.h0
 rcases h with ⟨rfl,rfl⟩ | ⟨b,p,q,ec,hp,hq,h0,rfl,rfl,tb⟩
 ·refine ⟨fun _ _=>False,⟨l_ e hd,n6 (g.ck r1 r2),⟨fun _ _ _ z=>z.elim,fun _ _ z=>z.elim,by decide,fun _ _ z=>z.elim,fun _ _ z=>z.elim⟩,by have:=jZ cs; omega,md g.d0,g⟩,by have:=jZ cs; omega,by have:=sY cs; have:=g.len; omega,fun H' d s rd=>⟨_,rd,fun _ _ z=>z.elim⟩⟩
 ·have g1:∀c∈p,c∈cs:=fun c hc=>by rw [ec]; exact CO _ hc
  have g2:∀c∈q,c∈cs:=fun c hc=>by rw [ec]; exact Bb _ hc
  obtain ⟨a,p',rfl⟩:=List.exists_cons_of_ne_nil hp
  obtain ⟨a',q',rfl⟩:=List.exists_cons_of_ne_nil hq
  have wp:WL (mkL (a :: p')):=l_ rfl (by have:=g.h0 a (by rw [ec]; rfl); omega)
  have wq:WL (mkL (a' :: q')):=l_ rfl (h0 a' rfl)
  have w:WI (.part "p" (mkL (a :: p'))):=.part wp
  have d1:=jZ (a :: p')
  have d2:=jZ (a' :: q')
  have d:dpL (.part "p" (mkL (a :: p')) :: mkL (a' :: q'))<=4:=by
   rw [dpL_le]
   intro x hx
   rcases AX.mp hx with rfl | hx
   ·rw [dpI]; omega
   ·have:=dpL_le.mp d2 x hx; omega
  have hpp:∀G,hL (Ck [(r1,reA),(r2,reB)]) G (mkL (a :: p')):=fun G=>n6 fun c hc=>g.ck r1 r2 c (g1 c hc)
  refine ⟨fun n zs=>n="p"/\zs=mkL (a :: p'),⟨.cons w wq,?_,⟨?_,?_,by decide,?_,?_⟩,by omega,?_,g⟩,d,?_,fun H' d s rd=>⟨_,rd,?_⟩⟩
  ·rw [hL,hI]
   exact ⟨⟨by decide +kernel,rfl,rfl⟩,n6 fun c hc=>g.ck r1 r2 c (g2 c hc)⟩
  ·rintro n zs zs' ⟨_,rfl⟩ ⟨_,rfl⟩; rfl
  ·rintro n zs ⟨rfl,_⟩; exact Bi.mpr rfl
  ·rintro n zs ⟨_,rfl⟩; exact wp
  ·rintro n zs ⟨_,rfl⟩; exact hpp _
  ·show flL ([.part "p" (mkL (a :: p'))]++mkL (a' :: q'))=cs
   rw [gc (.one w) wq,bd w,fO,md fun c hc=>g.d0 c (g1 c hc),md fun c hc=>g.d0 c (g2 c hc),ec]
  ·rw [wL,wI]
   have:=sY (a' :: q')
   have:=g.len
   rw [ec,AW] at this
   omega
  ·rintro n ys ⟨rfl,rfl⟩
   exact ⟨b,rfl,tb.tk s⟩
open KS hiding CL iteN iteY
theorem kC:∀(a:Int) (A:List Cl),(IT.revA a A).map toK=cS a (A.map toK)
 | _,[]=>rfl
 | a,c :: r=>by show toK _ :: (IT.revA c.d r).map toK=_; rw [kC]; rfl
theorem gG (A:List Cl):(IT.rev A).map toK=mir (A.map toK):=by unfold mir; rw [<- DJ]; exact kC 0 _
theorem mL (c:Cl):(((toK c).cnt:Nat):Int)=frC c:=by
 unfold KS.Clip.cnt toK frC
 dsimp only
 split <;> omega
theorem Ft.mem:∀{A:List Cl},Ft A->(∀c∈A,0<=c.d)->∀c∈A,c.d<=frC c
 | [],_,_,c,hc=>nomatch hc
 | [x],h,_,c,hc=>by rw [Bi.mp hc]; exact h
 | x :: y :: r,h,h0,c,hc=>by
  rcases AX.mp hc with rfl | hc
  ·have:=h.1; have:=h0 y (by simp); omega
  ·exact Ft.mem h.2 (fun z hz=>h0 z (AO _ hz)) c hc
theorem Ft.k:∀{A:List Cl},Ft A->FtK (A.map toK)
 | [],_=>trivial
 | [x],h=>by show x.d<=_; rw [mL]; exact h
 | x :: y :: r,h=>⟨by show x.d+y.d<=_; rw [mL]; exact h.1,Ft.k h.2⟩
theorem Gd.cok {cs:List Cl}(h:Gd cs):∀c∈cs,COk 100 400 (toK c):=fun c hc=>by
 obtain ⟨ab,k⟩:=h.ok c hc
 have e:=mL c
 have d1:=h.ft.mem h.d0 c hc
 have m:=k.m
 refine ⟨?_,ab.fine,k.f0,?_,k.l0,?_,k.d0,?_,by omega⟩
 ·show c.r.length<=100
  rcases ab with z | z <;> rw [z] <;> decide
 ·have:=k.f1; show c.f<=_; omega
 ·have:=k.l1; show c.l<=_; omega
 ·show c.d<=_; omega
theorem Gd.f0 {cs:List Cl}(h:Gd cs):∀x∈cs.map toK,0<=x.f:=fun x hx=>by
 obtain ⟨c,hc,rfl⟩:=Be.mp hx
 exact h.d0 c hc
theorem Gd.hz {cs:List Cl}(h:Gd cs):∀c,(cs.map toK).head?=some c->c.f=0:=fun c hc=>by
 rw [List.head?_map] at hc
 cases e:cs.head? with
 | none=>rw [e] at hc; cases hc
 | some x=>rw [e] at hc; cases hc; exact h.h0 x e
theorem oB:∀{C:List Clip}{i:Nat}{c e:Clip},FtK C->C[i]?=some c->C[i+1]?=some e->c.f+e.f<=c.cnt
 | [],_,_,_,_,h,_=>by cases h
 | [x],0,_,_,_,_,h=>by cases h
 | [x],i+1,_,_,_,h,_=>by cases h
 | x :: y :: r,0,c,e,f,h,h'=>by cases h; cases h'; exact f.1
 | x :: y :: r,i+1,c,e,f,h,h'=>oB (C:=y :: r) f.2 h h'
theorem Gd.sd {cs:List Cl}(h:Gd cs):Sd (cs.map toK):=by
 have f1:∀c∈cs.map toK,c.f<=c.cnt:=fun x hx=>by
  obtain ⟨c,hc,rfl⟩:=Be.mp hx
  exact (h.cok c hc).f1
 refine ⟨h.f0,f1,fun i c hc=>?_,fun x hx=>?_⟩
 ·cases i with
  | zero =>
   have:=h.hz c (by rw [List.head?_eq_getElem?]; exact hc)
   rw [this]; simp [shown]
  | succ i =>
   have hi:=(AS.mp hc).1
   have he:(cs.map toK)[i]?=some ((cs.map toK)[i]'(by omega)):=AN (by omega)
   have hm:=Bh he
   rw [df he,jk _ _ (h.f0 _ hm)]
   have:=oB h.ft.k he hc
   have:=h.f0 _ hm
   have:=f1 _ hm
   omega
 ·obtain ⟨c,hc,rfl⟩:=Be.mp hx
  exact (h.ok c hc).1.fine
theorem Gd.shown {cs:List Cl}(h:Gd cs):KS.shown ((IT.rev cs).map toK)=mM (KS.shown (cs.map toK)):=by
 rw [gG]
 exact pE h.ft.k (by rw [<- gG]; exact h.rev.ft.k) h.f0 h.hz
theorem Gd.strips {cs:List Cl}(h:Gd cs):(aL (moments ((IT.rev cs).map toK))).length=(aL (moments (cs.map toK))).length:=by
 rw [gG]
 exact vY h.f0 h.hz
theorem Gd.needs {cs:List Cl}(h:Gd cs) {s:Int}(hs:0<=s) {ns ns':List (Str×Int)}(n:Needs (ivM s (moments (cs.map toK))) ns) (n':Needs (ivM s (moments ((IT.rev cs).map toK))) ns'):ns'=ns:=by
 have le:∀ms:List Mo,∀v∈ivM s ms,v.lo<=v.hi:=fun ms v hv=>by
  obtain ⟨c,_,rfl⟩:=Be.mp hv
  exact xm s c hs
 refine sV (fun r x=>?_) (le _) (le _) n n'
 rw [gG]
 exact s_ h.f0 h.hz hs r x
theorem lH {T a:Addr}{H H':Hp}{o:HO}{ps:Array Value}(b:Bt T H H') (hT:H T=some (.tbl ps)) (h:H a=some o) (n:∀ps,o≠.tbl ps):H' a=some o:=b a o (by rintro rfl; rw [hT] at h; cases h; exact n _ rfl) h
theorem iM {T:Addr}{H H':Hp}{ps:Array Value}(b:Bt T H H') (hT:H T=some (.tbl ps)):TK H H':=fun a xs h=>lH b hT h (by intro p z; cases z)
theorem Ai {T:Addr}{H H':Hp}{l:Addr}{cs:List Cl}{ps:Array Value}(h:DT.CL H l cs) (hT:H T=some (.tbl ps)) (b:Bt T H H'):DT.CL H' l cs:=by
 obtain ⟨vs,h1,h2⟩:=h
 exact ⟨vs,lH b hT h1 (by intro p z; cases z),h2.tk (iM b hT)⟩
theorem Ah {T:Addr}{H H':Hp}{l:Addr}{prs:List (Addr×Reel)}{ps:Array Value}(h:RL H l prs) (hT:H T=some (.tbl ps)) (b:Bt T H H'):RL H' l prs:=⟨lH b hT h.1 (by intro p z; cases z),fun x hx=>⟨iM b hT _ _ (h.2 x hx).1,(h.2 x hx).2⟩⟩
theorem Ag {T:Addr}{H H':Hp}{l:Addr}{S:List (List Frm)}{ps:Array Value}(h:SH H l S) (hT:H T=some (.tbl ps)) (b:Bt T H H'):SH H' l S:=by
 obtain ⟨vs,h1,h2⟩:=h
 exact ⟨vs,lH b hT h1 (by intro p z; cases z),h2.tk (iM b hT)⟩
theorem uF {T:Addr}{H H':Hp}{l:Addr}{qs:List (Addr×Clip)}{ps:Array Value}(h:SLs H l qs) (hT:H T=some (.tbl ps)) (b:Bt T H H'):SLs H' l qs:=⟨lH b hT h.1 (by intro p z; cases z),fun x hx=>iM b hT _ _ (h.2 x hx)⟩
theorem y6 (cs:List Cl):(E7 (cs.map dC)).depth<=20:=by
 have:∀cs:List Cl,BQ (cs.map dC)<=5:=fun cs=>by
  induction cs with
  | nil=>simp [BQ]
  | cons c r ih =>
   rw [Br,BQ]
   simp only [dC,Ec,BQ] at ih ⊢
   omega
 rw [Ec]; have:=this cs; omega
theorem v7 {S:List (List Frm)}(h:gF S):(E7 (S.map gC)).canLay0=true:=by
 have hf:∀m:List Frm,(∀f∈m,FOk f)->CZ (m.map Frm.d)=true:=fun m=>by
  induction m with
  | nil=>intro _; rfl
  | cons f r ih =>
   intro h
   have h1:C9 f.reel=true:=(h f AQ).rf
   simp [CZ,DK,Frm.d,h1,ih fun x hx=>h x (AO _ hx)]
 have hm:∀S:List (List Frm),gF S->CZ (S.map gC)=true:=fun S=>by
  induction S with
  | nil=>intro _; rfl
  | cons m r ih =>
   intro h
   have h1:=hf m (h m AQ).2.1
   simp [CZ,DK,gC,h1,ih fun x hx=>h x (AO _ hx)]
 rw [DK]; exact hm S h
theorem wD (S:List (List Frm)):(E7 (S.map gC)).depth<=20:=by
 have hf:∀m:List Frm,BQ (m.map Frm.d)<=4:=fun m=>by
  induction m with
  | nil=>simp [BQ]
  | cons f r ih =>
   rw [Br,BQ]
   simp only [Frm.d,Ec,BQ] at ih ⊢
   omega
 have hm:∀S:List (List Frm),BQ (S.map gC)<=8:=fun S=>by
  induction S with
  | nil=>simp [BQ]
  | cons m r ih =>
   rw [Br,BQ]
   have:=hf m
   simp only [gC,Ec] at ih ⊢
   omega
 rw [Ec]; have:=hm S; omega
def ndD (x:Str×Int):PyData:=.tuple [.str x.1,.int x.2]
theorem l8 {H:Hp}:∀{us:List (Addr×Str×Int)},(∀x∈us,H x.1=some (.tup [.str x.2.1,.int x.2.2]))->Tds H (us.map fun x=>V.ref x.1) ((us.map (·.2)).map ndD)
 | [],_=>.nil
 | x :: r,h=>.cons (.tup (h x AQ) (.cons (.str _) (.cons (.int _) .nil))) (l8 fun y hy=>h y (AO _ hy))
theorem tF:∀{ns:List (Str×Int)},(∀x∈ns,fV x.1)->CZ (ns.map ndD)=true
 | [],_=>rfl
 | x :: r,h=>by
  have h1:C9 x.1=true:=h x AQ
  simp [CZ,DK,ndD,h1,tF fun y hy=>h y (AO _ hy)]
theorem y4 (ns:List (Str×Int)):(E7 (ns.map ndD)).depth<=20:=by
 have:∀ns:List (Str×Int),BQ (ns.map ndD)<=5:=fun ns=>by
  induction ns with
  | nil=>simp [BQ]
  | cons c r ih =>
   rw [Br,BQ]
   simp only [ndD,Ec,BQ] at ih ⊢
   omega
 rw [Ec]; have:=this ns; omega
theorem Gd.fine {cs:List Cl}(h:Gd cs):∀s∈aL (moments (cs.map toK)),fV s.reel:=fun s hs =>
 (kK _ [] (fun _ z=>nomatch z) (fun m hm=>by
  obtain ⟨x,hx,hm⟩:=EU.mp hm
  obtain ⟨c,hc,rfl⟩:=Be.mp hx
  exact (h.cok c hc).mok (by decide) (by decide) m hm) s hs).rf
theorem ow {s:Int}{rs:List (Addr×Clip)}{ms:List Mo}(h:rs.map (·.2)=aL ms):eQ s rs.reverse=ivM s ms:=by
 unfold eQ ivM
 rw [<- h,<- DJ,B5]
 rfl
theorem l7 {s:Int}{cs:List Cl}(h:Gd cs) {ns:List (Str×Int)}(n:Needs (ivM s (moments (cs.map toK))) ns):∀x∈ns,fV x.1:=fun x hx=>by
 obtain ⟨k,v,hv,e⟩:=(n.is x hx).ex
 obtain ⟨c,hc,rfl⟩:=Be.mp (Bh hv)
 rw [<- e.1]
 exact h.fine c (Ct.mp hc)
theorem Gd.mok {cs:List Cl}(h:Gd cs):gF (KS.shown (cs.map toK)):=by
 have:=ib h.sd (cs.map toK).length (AM _)
 rwa [BJ] at this
theorem Gd.slen {cs:List Cl}(h:Gd cs):(KS.shown (cs.map toK)).length<=100000:=by
 have:=f_ (m:=100) h.sd (fun c hc=>by obtain ⟨x,hx,rfl⟩:=Be.mp hc; exact (h.cok x hx).d) (cs.map toK).length (AM _)
 rw [BJ,AH] at this
 have:=h.len
 omega
theorem yI {S:List (List Frm)}(h:gF S):gF (mM S):=fun m hm=>by
 unfold mM at hm
 obtain ⟨x,hx,rfl⟩:=Be.mp (Ct.mp hm)
 obtain ⟨h1,h2,h3⟩:=h x hx
 exact ⟨fun z=>h1 (List.reverse_eq_nil_iff.mp z),fun f hf=>h2 f (Ct.mp hf),by rw [A7]; exact h3⟩
section
variable {P:Program}{w:Bj}{K:AK}{mg:Str->Option Value}{base:Heap}
theorem gd3:Gd [⟨"a",3,5,0⟩]:=⟨fun c hc=>by rw [Bi.mp hc]; exact ⟨.inl rfl,by decide,by decide,by decide,by decide,by decide,by decide⟩,(by show (0:Int)<=frC ⟨"a",3,5,0⟩; decide),fun c hc=>by cases hc; rfl,by decide,C7 _ _⟩
def spLaw (T:Addr) (K:AK):Sp:=fun vs H Q _=>∃(a:Addr) (ns:List Int),vs=[.ref a]/\SqL K H a (ns.map V.int)/\ns.length<=63/\H T=some (.tbl #[])/\∀H',Q (.bl true) H'
theorem scLaw:aq ["_law_script", "_law_clips_here", "_law_spoil", "_law_reels", "_law_items", "_law_parts", "_law_film", "_law_strips", "_law_other", "_law_back"] ["_law_script"] (ak rp):=⟨rfl,rfl,rfl,by decide +kernel,rfl,by decide +kernel,by decide +kernel⟩
theorem yB {f T CT CS:Addr}{fd:Bg}(F:Fun K "law" "law" rp f fd) (dClips:Def P w K mg base CX0 "_law_clips" 2 ["_law_script", "_law_most"] (nv K)) (dCell:Def P w K mg base CX0 "_law_cell" 1 ["_law_script", "_law_k"] (q_ K))
  (dList:Def P w K mg base CX0 "_law_list" 1 ["_law_clips_here", "_law_cut"] qY) (dPlayed:Def P w K mg base (CX1 P w) "played" 19 ["items", "parts", "reels"] (kI CT CS 5)) (dShown:Def P w K mg base CX0 "shown" 4 ["clips"] m4)
  (dStrips:Def P w K mg base CX0 "strips_of" 4 ["clips"] gX) (dTurned:Def P w K mg base CX0 "turned" 12 ["items"] (eT IT.tL 4)) (dMir:Def P w K mg base CX0 "_law_mirrored" 1 ["_law_film"] w8) (dJoins:Def P w K mg base CX0 "joins" 5 ["clips"] nr) (dNeeds:Def P w K mg base CX0 "needs" 6 ["strips", "spoil"] (m_ T))
  (n_list:mg "list"=none) (n_dict:mg "dict"=none) (n_len:mg "len"=none):aJ P w K mg base CX0 20 f fd ["_law_script"] (spLaw T K):=by
 refine F.ok scLaw (fun vs H Q E h=>?_) (fun cdv A outer s H vs Q E hr h=>?_)
 ·obtain ⟨a,ns,rfl,_⟩:=h
  rfl
 obtain ⟨a,ns,rfl,hS,hn63,hT,q⟩:=h
 refine xC (ag (ax (i:=1) scLaw.nd (ap dClips hr aF (aa (e_v 0) (aa ae af))))
  (ag (fC (bb (aK (yt hr) (e_v 1) (aW af))
   (ah (ax (i:=1) scLaw.nd (aW (aa (ba (aa aS (aa ae (aa ae (aa ae af))))) af))))
   aI))
  (ag (ax (i:=2) scLaw.nd (aD bu (ap dCell hr aF (aa (e_v 0) (aa ae af))) ae))
  (ag (ax (i:=3) scLaw.nd (aW (aa (ba (aa aS (aa aS (aa ae (aa ae af))))) (aa (ba (aa aS (aa aS (aa ae (aa ae af))))) af))))
  (ag (i5 (ap dList hr aF (aa (e_v 1) (aa (aD bu (ap dCell hr aF (aa (e_v 0) (aa ae af))) (aD f6 ae (e_b aH n_len Cc (aa (e_v 1) af)))) af))) (fM rfl (aM (aC (i:=4) scLaw.nd) (aM (aC (i:=5) scLaw.nd) dA))))
  (ag (bb (aK (h9 hr) (ap dPlayed hr xi (aa (e_v 4) (aa (e_t gA n_dict (by decide +kernel) (aa (e_v 5) af)) (aa (e_t dF n_list (by decide +kernel) (aa (e_v 3) af)) af)))) (e_v 1))
   (ah (aB lx))
   aI)
  (ag (ax (i:=6) scLaw.nd (ap dShown hr aF (aa (e_v 1) af)))
  (ag (ax (i:=7) scLaw.nd (ap dStrips hr aF (aa (e_v 1) af)))
  (ag (bv BM rfl (cC (aW (aa (ap dTurned hr aF (aa (e_v 4) af)) (aa (ba (aa (ba (aa aS (aa (e_v 4) af))) af)) af)))) (aC (i:=8) scLaw.nd)
   (ag (ax (i:=9) scLaw.nd (ap dPlayed hr xi (aa (e_v 8) (aa (e_t gA n_dict (by decide +kernel) (aa (e_v 5) af)) (aa (e_t dF n_list (by decide +kernel) (aa (e_v 3) af)) af)))))
   (ag (bb (t_w (qE (aK (h9 hr) (ap dShown hr aF (aa (e_v 9) af)) (ap dMir hr aF (aa (e_v 6) af))) (kt (aK xj (ap dJoins hr aF (aa (e_v 9) af)) (ap dJoins hr aF (aa (e_v 1) af))))))
    (ah (aB lx))
    aI)
   (ah (bb (aK (h9 hr) (ap dNeeds hr aF (aa (ap dStrips hr aF (aa (e_v 9) af)) (aa (e_v 2) af))) (ap dNeeds hr aF (aa (e_v 7) (aa (e_v 2) af))))
    (ah (aB lx))
    aI)))))
  (ah (aB lx))))))))))) ?_
 intros
 have zl:sizeLine=16777216:=A9
 refine ⟨_,rfl,a,ns,rfl,hS,fun l0 cs0 H1 s1 hl0 cl0 lc0 ff0=>?_⟩
 refine ⟨fun σ' H2=>∃(l:Addr) (cs:List Cl),σ'=[some (.ref a),some (.ref l),none,none,none,none,none,none,none,none]/\CL H2 l cs/\Gd cs/\Same H H2,?_,?_⟩
 ·refine ⟨_,rfl,(by show 0<=sizeLine; decide),fun p hp=>?_⟩
  have t:=Same.new hp (.lst [])
  refine ⟨_,_,iJ (bB cl0 t),.lst (SqL.of ac) .nil,cX fun c hc=>(ff0 c hc).fine,rfl,Bm (Dh _ _) (by decide),_,rfl,?_⟩
  cases hcs:cs0 with
  | nil =>
   refine iteY (by rw [D9,Db _ rfl]) ⟨(by show 4<=sizeLine; decide),fun p1 hp1=>⟨(by show 1<=sizeLine; decide),fun p2 hp2=>?_⟩⟩
   have t1:=Same.new hp1 (.tup [.str "a",.int 3,.int 5,.int 0])
   have t2:=Same.new hp2 (.lst [.ref p1])
   exact ⟨p2,[⟨"a",3,5,0⟩],rfl,⟨[.ref p1],ac,.one (kY (c:=⟨"a",3,5,0⟩) (t2 _ _ ac))⟩,gd3,((s1.trans t).trans t1).trans t2⟩
  | cons c r =>
   rw [hcs] at cl0 lc0 ff0
   exact iteN rfl ⟨l0,c :: r,rfl,bB cl0 t,⟨fun x hx=>⟨ff0 x hx,lc0.ok x hx⟩,lc0.ft,lc0.h0,lc0.len,C7 _ _⟩,s1.trans t⟩
 rintro σ H2 ⟨l,cs,rfl,cl,gd,s2⟩
 obtain ⟨us,hus,tus⟩:=id cl
 have lu:us.length=cs.length:=by rw [tus.len,AH]
 have l30:=gd.len
 have l0':0<cs.length:=List.length_pos_iff.mpr gd.ne
 refine ⟨_,rfl,a,ns,0,rfl,s2.seq hS,fun H3 s3=>⟨_,_,rfl,rfl,(by show (0:Int)<6; decide),?_⟩⟩
 refine ⟨(by show 4<=sizeLine; decide),fun r1 hr1=>⟨(by show 4<=sizeLine; decide),fun r2 hr2=>⟨(by show 2<=sizeLine; decide),fun lr hlr=>?_⟩⟩⟩
 have t1:=Same.new hr1 (.tup reA.vs)
 have t2:=Same.new hr2 (.tup reB.vs)
 have t3:=Same.new hlr (.lst [.ref r1,.ref r2])
 have rl:RL (upd (upd (upd H3 r1 (.tup reA.vs)) r2 (.tup reB.vs)) lr (.lst [.ref r1,.ref r2])) lr [(r1,reA),(r2,reB)]:=⟨ac,fun x hx=>by
  simp only [AX,Cf,or_false] at hx
  rcases hx with rfl | rfl
  ·exact ⟨t3 _ _ (t2 _ _ ac),xW⟩
  ·exact ⟨t3 _ _ ac,xV⟩⟩
 have S5:=s2.trans (s3.trans ((t1.trans t2).trans t3))
 have cl5:=bB cl (s3.trans ((t1.trans t2).trans t3))
 have hus5:=(s3.trans ((t1.trans t2).trans t3)) _ _ hus
 obtain ⟨sp,esp,sp0⟩:∃sp:Int,cG ns 0 % 6=sp/\0<=sp:=⟨_,rfl,Ek _ (by decide)⟩
 obtain ⟨n,hn⟩:∃n:Nat,cG ns 1 % (2*(us.length:Int))=(n:Int):=⟨(cG ns 1 % (2*(us.length:Int))).toNat,by have:=Ek (cG ns 1) (show 2*(us.length:Int)≠0 by omega); omega⟩
 refine ⟨_,rfl,_,rfl,a,ns,1,rfl,S5.seq hS,fun H6 s6=>⟨_,rfl,l,_,rfl,  .inl (SqL.of (s6 _ _ hus5)),_,_,rfl,rfl,.inl ⟨by decide,by decide⟩,_,_,rfl,rfl,(by show (0:Int)<2*(us.length:Int); omega),l,n,cs,(by rw [<- hn]; rfl),bB cl5 s6,⟨fun c hc=>(gd.ok c hc).2,gd.ft,gd.h0,gd.len⟩,gd.ne,fun q1 ai d xs kvs H7 s7 hd0 hq1 hd ta shp=>?_⟩⟩
 have S7:=S5.trans (s6.trans s7)
 have rl7:=rl.same (s6.trans s7)
 have cl7:=bB cl5 (s6.trans s7)
 have hT7:=S7 _ _ hT
 obtain ⟨G,pls,dx,wx,prG⟩:=shp.pls gd r1 r2
 refine ⟨q1,_,rfl,SqT.of hq1,rfl,_,_,rfl,_,_,rfl,rfl,?_⟩
 rw [show (fun i j=>V.int (i % j)) (cG ns 0) 6=V.int sp from congrArg V.int esp]
 refine ⟨_,rfl,_,rfl,d,_,rfl,.inl hd,fun d1 hd1=>⟨_,rfl,lr,_,rfl,.inl (SqL.of (Same.new hd1 (.dK kvs) _ _ rl7.1)),fun lr2 hlr2=>?_⟩⟩
 have u1:=Same.new hd1 (.dK kvs)
 have u2:=Same.new hlr2 (.lst ([(r1,reA),(r2,reB)].map fun x=>V.ref x.1))
 refine ⟨ai,d1,lr2,xs,G,["p"],_,rfl,ta.tk (TK.of (u1.trans u2)),pls.wl,pls.h,prG _ _ (TK.of (u1.trans u2)) (.inl (u2 _ _ ac)),pls.pa,⟨ac,(rl7.same (u1.trans u2)).2⟩,wQ,pls.dp,pls.film _ _ _ _,fun _ _ _ l1 H8 s8 hl10 cl8=>?_⟩
 rw [pls.fl] at cl8
 have S8:=(u1.trans u2).trans s8
 have cl7':=bB cl7 S8
 have fn:∀c∈cs,fV c.r:=fun c hc=>(gd.ok c hc).1.fine
 refine ⟨_,rfl,_,_,iJ cl8,iJ cl7',cX fn,cX fn,Bm (Dh _ _) (Bm (y6 cs) (by decide)),_,rfl,iteN (by rw [Db _ (cX fn)]; rfl) ?_⟩
 obtain ⟨ps,kc,ep⟩:=uB cl7' gd.cok
 have lp:ps.length=cs.length:=by have:=congrArg C1 ep; rwa [AH,AH] at this
 refine ⟨_,rfl,l,ps,400,rfl,kc,by decide,by omega,(by rw [ep]; exact gd.sd),fun pF H9 s9 hpF shF=>?_⟩
 rw [ep] at shF
 refine ⟨_,rfl,l,ps,400,rfl,(kc.mono (by decide) (by decide)).same s9,by decide,by omega,fun ls rs H10 s10 hls sl er=>?_⟩
 rw [ep] at er
 have lrs:rs.length<=30:=by
  have:=congrArg C1 er
  have:=gW (cs.map toK)
  rw [AH] at *
  omega
 have S10:=S8.trans (s9.trans s10)
 have ta10:=ta.tk (TK.of S10)
 refine ⟨_,rfl,ai,xs,rfl,ta10,dx,by omega,fun pt H11 s11 tt=>⟨_,rfl,(by show 2<=sizeLine; decide),fun b1 hb1=>⟨(by show 1<=sizeLine; decide),fun b2 hb2=>⟨(by show 2<=sizeLine; decide),fun lo hlo=>?_⟩⟩⟩⟩
 have v1:=Same.new hb1 (.tup [.str "back",.ref ai])
 have v2:=Same.new hb2 (.tup [.ref b1])
 have v3:=Same.new hlo (.lst [.ref pt,.ref b2])
 have V3:=(v1.trans v2).trans v3
 have tb12:Td (upd (upd (upd H11 b1 (.tup [.str "back",.ref ai])) b2 (.tup [.ref b1])) lo (.lst [.ref pt,.ref b2])) (.ref b2) (.tuple (dL [.back xs])):=by
  rw [show dL [IT.It.back xs]=[dI (.back xs)] by rw [dL,dL]]
  exact (Td.tup ac (Tds.one (nZ (v2 _ _ ac) (ta10.tk (TK.of (s11.trans (v1.trans v2))))))).tk (TK.of v3)
 have hlo12:=ac (H:=upd (upd H11 b1 (.tup [.str "back",.ref ai])) b2 (.tup [.ref b1])) (a:=lo) (o:=.lst [.ref pt,.ref b2])
 have tt12:=tt.tk (TK.of V3)
 have S12:=S10.trans (s11.trans V3)
 have cl12:=bB cl7 S12
 have rl12:=rl7.same S12
 have hd12:=S12 _ _ hd
 have shF12:=shF.same (s10.trans (s11.trans V3))
 have sls12:SLs _ ls rs.reverse:=SLs.same (⟨sl.1,fun x hx=>sl.2 x (Ct.mp hx)⟩:SLs H10 ls rs.reverse) (s11.trans V3)
 have hT12:=S12 _ _ hT7
 have tk12:=TK.of S12
 generalize upd (upd (upd H11 b1 (.tup [.str "back",.ref ai])) b2 (.tup [.ref b1])) lo (.lst [.ref pt,.ref b2])=H12 at tb12 hlo12 tt12 S12 cl12 rl12 hd12 shF12 sls12 hT12 tk12 ⊢
 refine ⟨lo,rfl,⟨_,SqL.of hlo12⟩,bU (K:=K) (a:=lo) (xs:=[.ref pt,.ref b2]) (fun i σ H'=>∃o8 o9:Option V,σ=[some (.ref a),some (.ref l),some (.int sp),some (.ref lr),some (.ref ai),some (.ref d),some (.ref pF),some (.ref ls),o8,o9]/\KS.Bt T H12 H'/\TabOk T j3 j2 H')
  ⟨none,none,rfl,KS.Bt.refl _ _,TabOk.new hT12⟩ (fun i σ H' _ ⟨_,_,_,b,_⟩=>SqL.of (lH b hT12 hlo12 (by intro p z; cases z))) ?_ ?_⟩
 ·rintro i v σ H' hv ⟨o8,o9,rfl,bt,tab⟩
  obtain ⟨pv,ys,rfl,tv,pv'⟩:∃(pv:Addr) (ys:List IT.It),v=.ref pv/\Td H12 (.ref pv) (.tuple (dL ys))/\Pls [(r1,reA),(r2,reB)] G ys (IT.rev cs):=by
   match i,hv with
   | 0,hv=>cases hv; exact ⟨pt,_,rfl,tt12,pls.turned dx⟩
   | 1,hv=>cases hv; exact ⟨b2,_,rfl,tb12,pls.back dx⟩
  have hd':=lH bt hT12 hd12 (by intro p z; cases z)
  have rl':=Ah rl12 hT12 bt
  have cl':=Ai cl12 hT12 bt
  have shF':=Ag shF12 hT12 bt
  have sls':=uF sls12 hT12 bt
  have tk':TK H7 H':=tk12.trans (iM bt hT12)
  have tv':=tv.tk (iM bt hT12)
  refine ⟨_,rfl,_,rfl,d,_,rfl,.inl hd',fun d2 hd2=>⟨_,rfl,lr,_,rfl,.inl (SqL.of (Same.new hd2 (.dK kvs) _ _ rl'.1)),fun lr3 hlr3=>?_⟩⟩
  have x1:=Same.new hd2 (.dK kvs)
  have x2:=Same.new hlr3 (.lst ([(r1,reA),(r2,reB)].map fun x=>V.ref x.1))
  refine ⟨pv,d2,lr3,ys,G,["p"],_,rfl,tv'.tk (TK.of (x1.trans x2)),pv'.wl,pv'.h,prG _ _ (tk'.trans (TK.of (x1.trans x2))) (.inl (x2 _ _ ac)),pv'.pa,⟨ac,(rl'.same (x1.trans x2)).2⟩,wQ,pv'.dp,pv'.film _ _ _ _,fun _ _ _ lb Hb sb hlb clb=>?_⟩
  rw [pv'.fl] at clb
  have Sb:=(x1.trans x2).trans sb
  have g':=gd.rev
  have lr':(IT.rev cs).length=cs.length:=gI cs
  obtain ⟨psb,kcb,epb⟩:=uB clb g'.cok
  have lpb:psb.length=cs.length:=by have:=congrArg C1 epb; rw [AH,AH] at this; omega
  refine ⟨_,rfl,lb,psb,400,rfl,kcb,by decide,by omega,(by rw [epb]; exact g'.sd),fun pS Hc sc hpS shS=>?_⟩
  rw [epb,gd.shown] at shS
  have Sc:=Sb.trans sc
  have mok:=gd.mok
  refine ⟨_,rfl,pF,_,rfl,shF'.same Sc,mok,gd.slen,fun pM Hd sd hpM shM=>?_⟩
  have Sd':=Sc.trans sd
  obtain ⟨vs1,hv1,tv1⟩:=shS.same sd
  obtain ⟨vs2,hv2,tv2⟩:=shM
  have lm:=v7 (yI mok)
  refine ⟨_,_,.lst (SqL.of hv1) tv1.den,.lst (SqL.of hv2) tv2.den,lm,lm,Bm (Dh _ _) (Bm (wD _) (by decide)),_,rfl,iteN (by rw [Db _ lm]; rfl) ?_⟩
  obtain ⟨psl,kcl,epl⟩:=uB (bB cl' Sd') gd.cok
  have lpl:psl.length=cs.length:=by have:=congrArg C1 epl; rwa [AH,AH] at this
  refine ⟨_,rfl,lb,psb,400,rfl,(kcb.mono (by decide) (by decide)).same (sc.trans sd),by decide,by omega,fun He se=>⟨_,rfl,l,psl,400,rfl,(kcl.mono (by decide) (by decide)).same se,by decide,by omega,fun Hf sf=>?_⟩⟩
  rw [epb,epl,gd.strips]
  refine ⟨rfl,_,rfl,iteN (by simp) ?_⟩
  have Sf:=sd.trans (se.trans sf)
  refine ⟨_,rfl,lb,psb,400,rfl,(kcb.mono (by decide) (by decide)).same (sc.trans Sf),by decide,by omega,fun ls2 rs2 Hg sg hls2 sl2 er2=>?_⟩
  rw [epb] at er2
  have lrs2:rs2.length<=30:=by
   have h1:=congrArg C1 er2
   have h2:=gW ((IT.rev cs).map toK)
   rw [AH] at h1 h2
   omega
  have Sg:=Sc.trans (Sf.trans sg)
  have tabg:=tab.same Sg
  obtain ⟨tpg,hTg⟩:=tabg.at
  refine ⟨_,rfl,ls2,rs2.reverse,sp,rfl,⟨sl2.1,fun x hx=>sl2.2 x (Ct.mp hx)⟩,by rw [A7]; omega,sp0,tabg,fun D1 us1 Hh hD1 bth tabh hl1 ht1 nd1 hn1=>?_⟩
  obtain ⟨tph,hTh⟩:=tabh.at
  refine ⟨_,rfl,_,rfl,ls,rs.reverse,sp,rfl,uF (sls'.same Sg) hTg bth,by rw [A7]; omega,sp0,tabh,fun D2 us2 Hi hD2 bti tabi hl2 ht2 nd2 hn2=>?_⟩
  rw [ow er2] at nd1
  rw [ow er] at nd2
  have en:=gd.needs sp0 nd2 nd1
  have td1:=l8 fun x hx=>iM bti hTh _ _ (ht1 x hx)
  have td2:=l8 ht2
  rw [en] at td1
  have ly:(E7 ((us2.map (·.2)).map ndD)).canLay0=true:=by rw [DK]; exact tF (l7 gd nd2)
  refine ⟨_,_,.lst (SqL.of (lH bti hTh hl1 (by intro p z; cases z))) td1.den,.lst (SqL.of hl2) td2.den,ly,ly,Bm (Dh _ _) (Bm (y4 _) (by decide)),_,rfl,iteN (by rw [Db _ ly]; rfl) ?_⟩
  exact ⟨_,_,rfl,(bt.trans (KS.Bt.of Sg)).trans (bth.trans bti),tabi⟩
 ·rintro σ H' ⟨o8,o9,rfl,bt,tab⟩
  exact q _
end
end K56
namespace L2
open PySem PySem.Spec PyProof.Rows
structure fg (K:AK) (C:Addr) (qual:Str) (st:Stmt):Prop where
 ex:∃fI fd,fe K C fI/\Fun K "__init__" qual st fI fd
 xc:uH K C
 ek:AD K C
 ec:∃bm id,ExcC K C bm id
theorem initIn_mk {K:AK}{C fI:Addr}{qual:Str}{st:Stmt}{oc:Value}{od an:Option Addr}{osl:Array (Option Value)}{kV doc pm cdv ct:Value}{cd:ClassData}
  {bm bs sub:List Value}{NN:Addr}{nm qn:Str}{hd ab:Bool}{sn:List Str}{col:Option Bool}{dd:Option Addr}{k0 k1 k2 k3 k5:Option Value}
  (hi:BN K (.ref C) "__init__"=some (some (.ref fI))) (ht:PySem.W.typeIn K (.ref fI)=some (.type "function"))
  (l:K.lookup fI=some ⟨oc,od,.func (CW "__init__" qual (bP st) (bq st) (ak st) .none kV doc pm an cdv ct),osl⟩) (cc:D5 K cdv qual=true) (kk:DH K (.ref fI)=true)
  (lC:K.lookup C=some (Cw nm qn C NN bs bm hd sn sub ab col dd k0 k1 k2 k3 k5 "ValueError.__new__")) (tl:PySem.W.tailIn K bmVE bm=true)
  (hcd:PySem.W.clsIn K C=some cd) (ho:cA cd.mro=true) (hdd:cd.hasDict=true) (sa:BN K (.ref C) "__setattr__"=some (some (.builtin "object.__setattr__")))
  (hm:EW K C (.type "BaseException")=some true) (hmo:EW K C (.type "object")=some true) (hga:BN K (.ref C) "__getattribute__"=some (some (.builtin "BaseException.__getattribute__"))) (hgn:BN K (.ref C) "__getattr__"=some none)
  (hc:(PySem.W.clsIn K C).isSome=true) (ha:BN K (.ref C) "__class__"=some (some (.builtin "object.__class__"))) (hn:PySem.W.specialIn K (.builtin "object.__class__") "__get__"=some (some (.builtin "getset_descriptor.__get__")))
  (htk:PySem.W.takesIn K (.builtin "object.__class__")=some true):fg K C qual st :=
 ⟨⟨fI,_,⟨⟨nm,qn,NN,bs,bm,hd,sn,sub,ab,col,dd,k0,k1,k2,k3,k5,lC,tl⟩,hi,ht⟩,mH l cc kk⟩,⟨⟨cd,hcd,ho,hdd⟩,sa⟩,⟨hm,hmo,hga,hgn,hc,ha,hn,htk⟩,⟨bm,_,.mk lC⟩⟩
theorem funT_of {K:AK}{x:Str}{st:Stmt}{f c T:Addr}{oc:Value}{od an:Option Addr}{osl:Array (Option Value)}{kV doc pm cdv ct:Value}(a:A4 K AY x=some (some (.ref f)))
  (l:K.lookup f=some ⟨oc,od,.func (CW x x (bP st) (bq st) (ak st) .none kV doc pm an cdv ct),osl⟩) (cI:D5 K cdv x=true) (k:DH K (.ref f)=true) (e:cdv=.ref c) (h:PySem.W.codeHdIn K c T=true):zh K x st c T :=
 ⟨h,f,_,a,mH l cI k,e⟩
end L2
namespace K56
open PySem L2 G
structure Cs where
 c2:Addr
 c3:Addr
 c5:Addr
 c6:Addr
 c7:Addr
structure CAll (K:AK) (c:Cs):Prop where
 m2:A4 K AY "NoFrame"=some (some (.ref c.c2))
 m3:A4 K AY "NoName"=some (some (.ref c.c3))
 m5:A4 K AY "NoFade"=some (some (.ref c.c5))
 m6:A4 K AY "TooMany"=some (some (.ref c.c6))
 m7:A4 K AY "TooShort"=some (some (.ref c.c7))
 e2:∃bm id,ExcC K c.c2 bm id/\bm.contains (.type "BaseException")=true
 e3:∃bm id,ExcC K c.c3 bm id/\bm.contains (.type "BaseException")=true
 e5:∃bm id,ExcC K c.c5 bm id/\bm.contains (.type "BaseException")=true
 e6:∃bm id,ExcC K c.c6 bm id/\bm.contains (.type "BaseException")=true
 e7:∃bm id,ExcC K c.c7 bm id/\bm.contains (.type "BaseException")=true
 i2:fg K c.c2 "NoFrame.__init__" bE
 i3:fg K c.c3 "NoName.__init__" bO
 i7:fg K c.c7 "TooShort.__init__" bA
 x2_reel:XNo K c.c2 "reel"
 x2_frame:XNo K c.c2 "frame"
 x3_name:XNo K c.c3 "name"
 x7_number:XNo K c.c7 "number"
 kq5:C8 K c.c5 bmVE "ValueError.__new__"=true
 kq6:C8 K c.c6 bmVE "ValueError.__new__"=true
theorem cs_mk {K:AK}{c2 c3 c5 c6 c7:Addr}(m2:A4 K AY "NoFrame"=some (some (.ref c2))) (m3:A4 K AY "NoName"=some (some (.ref c3))) (m5:A4 K AY "NoFade"=some (some (.ref c5))) (m6:A4 K AY "TooMany"=some (some (.ref c6))) (m7:A4 K AY "TooShort"=some (some (.ref c7)))
  {bmQ2 bsQ2 subQ2:List Value}{idQ2:String}{NQ2:Addr}{nmQ2 qnQ2:Str}{hdQ2 abQ2:Bool}{snQ2:List Str}{colQ2:Option Bool}{ddQ2:Option Addr}{aQ20 aQ21 aQ22 aQ23 aQ25:Option Value}
  {bmQ3 bsQ3 subQ3:List Value}{idQ3:String}{NQ3:Addr}{nmQ3 qnQ3:Str}{hdQ3 abQ3:Bool}{snQ3:List Str}{colQ3:Option Bool}{ddQ3:Option Addr}{aQ30 aQ31 aQ32 aQ33 aQ35:Option Value}
  {bmQ5 bsQ5 subQ5:List Value}{idQ5:String}{NQ5:Addr}{nmQ5 qnQ5:Str}{hdQ5 abQ5:Bool}{snQ5:List Str}{colQ5:Option Bool}{ddQ5:Option Addr}{aQ50 aQ51 aQ52 aQ53 aQ55:Option Value}
  {bmQ6 bsQ6 subQ6:List Value}{idQ6:String}{NQ6:Addr}{nmQ6 qnQ6:Str}{hdQ6 abQ6:Bool}{snQ6:List Str}{colQ6:Option Bool}{ddQ6:Option Addr}{aQ60 aQ61 aQ62 aQ63 aQ65:Option Value}
  {bmQ7 bsQ7 subQ7:List Value}{idQ7:String}{NQ7:Addr}{nmQ7 qnQ7:Str}{hdQ7 abQ7:Bool}{snQ7:List Str}{colQ7:Option Bool}{ddQ7:Option Addr}{aQ70 aQ71 aQ72 aQ73 aQ75:Option Value}
  (lQ2:K.lookup c2=some (Cw nmQ2 qnQ2 c2 NQ2 bsQ2 bmQ2 hdQ2 snQ2 subQ2 abQ2 colQ2 ddQ2 aQ20 aQ21 aQ22 aQ23 aQ25 idQ2))
  (lQ3:K.lookup c3=some (Cw nmQ3 qnQ3 c3 NQ3 bsQ3 bmQ3 hdQ3 snQ3 subQ3 abQ3 colQ3 ddQ3 aQ30 aQ31 aQ32 aQ33 aQ35 idQ3))
  (lQ5:K.lookup c5=some (Cw nmQ5 qnQ5 c5 NQ5 bsQ5 bmQ5 hdQ5 snQ5 subQ5 abQ5 colQ5 ddQ5 aQ50 aQ51 aQ52 aQ53 aQ55 idQ5))
  (lQ6:K.lookup c6=some (Cw nmQ6 qnQ6 c6 NQ6 bsQ6 bmQ6 hdQ6 snQ6 subQ6 abQ6 colQ6 ddQ6 aQ60 aQ61 aQ62 aQ63 aQ65 idQ6))
  (lQ7:K.lookup c7=some (Cw nmQ7 qnQ7 c7 NQ7 bsQ7 bmQ7 hdQ7 snQ7 subQ7 abQ7 colQ7 ddQ7 aQ70 aQ71 aQ72 aQ73 aQ75 idQ7)) (hbQ2:bmQ2.contains (.type "BaseException")=true) (hbQ3:bmQ3.contains (.type "BaseException")=true) (hbQ5:bmQ5.contains (.type "BaseException")=true) (hbQ6:bmQ6.contains (.type "BaseException")=true) (hbQ7:bmQ7.contains (.type "BaseException")=true) (I2:fg K c2 "NoFrame.__init__" bE) (I3:fg K c3 "NoName.__init__" bO) (I7:fg K c7 "TooShort.__init__" bA) (x2_reel:BN K (.ref c2) "reel"=some none) (x2_frame:BN K (.ref c2) "frame"=some none) (x3_name:BN K (.ref c3) "name"=some none) (x7_number:BN K (.ref c7) "number"=some none) (kq5:C8 K c5 bmVE "ValueError.__new__"=true) (kq6:C8 K c6 bmVE "ValueError.__new__"=true):∃c:Cs,CAll K c :=
 ⟨⟨c2,c3,c5,c6,c7⟩,m2,m3,m5,m6,m7,⟨bmQ2,idQ2,.mk lQ2,hbQ2⟩,⟨bmQ3,idQ3,.mk lQ3,hbQ3⟩,⟨bmQ5,idQ5,.mk lQ5,hbQ5⟩,⟨bmQ6,idQ6,.mk lQ6,hbQ6⟩,⟨bmQ7,idQ7,.mk lQ7,hbQ7⟩,I2,I3,I7,x2_reel,x2_frame,x3_name,x7_number,kq5,kq6⟩
@[elab_as_elim] theorem us1 {α:Type}{p:List α->Prop}(us:List α) (h:us.length=1) (g:∀a0,p [a0]):p us:=by
 rcases us with _ | ⟨_,_ | ⟨_,_⟩⟩
 all_goals first | exact g _ | (exfalso; simp at h)
@[elab_as_elim] theorem us2 {α:Type}{p:List α->Prop}(us:List α) (h:us.length=2) (g:∀a0 a1,p [a0,a1]):p us:=by
 rcases us with _ | ⟨_,_ | ⟨_,_ | ⟨_,_⟩⟩⟩
 all_goals first | exact g _ _ | (exfalso; simp at h)
@[elab_as_elim] theorem us3 {α:Type}{p:List α->Prop}(us:List α) (h:us.length=3) (g:∀a0 a1 a2,p [a0,a1,a2]):p us:=by
 rcases us with _ | ⟨_,_ | ⟨_,_ | ⟨_,_ | ⟨_,_⟩⟩⟩⟩
 all_goals first | exact g _ _ _ | (exfalso; simp at h)
@[elab_as_elim] theorem us4 {α:Type}{p:List α->Prop}(us:List α) (h:us.length=4) (g:∀a0 a1 a2 a3,p [a0,a1,a2,a3]):p us:=by
 rcases us with _ | ⟨_,_ | ⟨_,_ | ⟨_,_ | ⟨_,_ | ⟨_,_⟩⟩⟩⟩⟩
 all_goals first | exact g _ _ _ _ | (exfalso; simp at h)
@[elab_as_elim] theorem us5 {α:Type}{p:List α->Prop}(us:List α) (h:us.length=5) (g:∀a0 a1 a2 a3 a4,p [a0,a1,a2,a3,a4]):p us:=by
 rcases us with _ | ⟨_,_ | ⟨_,_ | ⟨_,_ | ⟨_,_ | ⟨_,_ | ⟨_,_⟩⟩⟩⟩⟩⟩
 all_goals first | exact g _ _ _ _ _ | (exfalso; simp at h)
structure DsIn (K:AK) (c T:Addr):Prop where
 whole:aG K "is_whole" eV
 named:aG K "reel_named" dj
 hasF:aG K "has_frame" dU
 sound:aG K "sound" jJ
 look:aG K "look_through" cj
 lclip:aG K "look_at_clip" cu
 lfade:aG K "look_at_fade" cq
 isF:aG K "is_fade" fZ
 lpart:aG K "look_at_part" cm
 turned:aG K "turned" g9
 turnI:aG K "turned_item" cO
 straight:aG K "straight" eU
 strI:aG K "straight_item" bW
 inp:aG K "in_place" eW
 played:aG K "played" g_
 clipsOf:aG K "clips_of" eZ
 clipsI:aG K "clips_of_item" bX
 fadedIn:aG K "faded_in" eY
 backw:aG K "backwards" dX
 frIn:aG K "frames_in" dW
 rfilm:aG K "refuse_film" cQ
 rmany:aG K "refuse_many" cP
 rshort:aG K "refuse_short" cg
 least:aG K "least" jN
 gr:aG K "greatest" eX
 pr:zh K "prints_for" dl c T
 free:aG K "first_free" dr
 put:aG K "put_end" fY
 needs:aG K "needs" jM
 way:aG K "way_of" g8
 nos:aG K "numbers_of" dq
 shown:aG K "shown" jK
 showC:aG K "show_clip" dS
 faded:aG K "faded" jP
 strips:aG K "strips_of" dR
 take:aG K "take_frame" dh
 can:aG K "can_have" e8
 joins:aG K "joins" jO
 cell:aG K "_law_cell" dZ
 num:aG K "_law_numbers" cv
 clips:aG K "_law_clips" du
 list':aG K "_law_list" dY
 mir:aG K "_law_mirrored" bY
 law:aG K "law" rp
structure NsIn (K:AK) (t:Nat->Tok):Prop where
 na:A4 K AY "NAME"=some (some (.int 0 (t 0)))
 ma:A4 K AY "MANY"=some (some (.int 3 (t 1)))
 mc:A4 K AY "MOST_CLIPS"=some (some (.int 100 (t 2)))
 mf:A4 K AY "MOST_FRAMES"=some (some (.int 2000 (t 3)))
 zisi:A4 K AY "isinstance"=some none
 zlen:A4 K AY "len"=some none
 zint:A4 K AY "int"=some none
 zbool:A4 K AY "bool"=some none
 ztup:A4 K AY "tuple"=some none
 zrng:A4 K AY "range"=some none
 zabs:A4 K AY "abs"=some none
 zmin:A4 K AY "min"=some none
 zmax:A4 K AY "max"=some none
 zlst:A4 K AY "list"=some none
 zdic:A4 K AY "dict"=some none
 zenu:A4 K AY "enumerate"=some none
 zrev:A4 K AY "reversed"=some none
 zsum:A4 K AY "sum"=some none
 zzip:A4 K AY "zip"=some none
 zsort:A4 K AY "sorted"=some none
 zany:A4 K AY "any"=some none
theorem ns_mk {K:AK}{t0:Tok}{i0:Int}{t1:Tok}{i1:Int}{t2:Tok}{i2:Int}{t3:Tok}{i3:Int}(a0:A4 K AY "NAME"=some (some (.int i0 t0))) (a1:A4 K AY "MANY"=some (some (.int i1 t1))) (a2:A4 K AY "MOST_CLIPS"=some (some (.int i2 t2))) (a3:A4 K AY "MOST_FRAMES"=some (some (.int i3 t3))) (e0:i0=0) (e1:i1=3) (e2:i2=100) (e3:i3=2000)
  (b0:A4 K AY "isinstance"=some none) (b1:A4 K AY "len"=some none) (b2:A4 K AY "int"=some none) (b3:A4 K AY "bool"=some none) (b4:A4 K AY "tuple"=some none) (b5:A4 K AY "range"=some none) (b6:A4 K AY "abs"=some none) (b7:A4 K AY "min"=some none) (b8:A4 K AY "max"=some none) (b9:A4 K AY "list"=some none) (b10:A4 K AY "dict"=some none) (b11:A4 K AY "enumerate"=some none) (b12:A4 K AY "reversed"=some none) (b13:A4 K AY "sum"=some none) (b14:A4 K AY "zip"=some none) (b15:A4 K AY "sorted"=some none) (b16:A4 K AY "any"=some none):∃t,NsIn K t:=by
 subst e0 e1 e2 e3
 exact ⟨fun i=>[t0,t1,t2,t3].getD i 0,a0,a1,a2,a3,b0,b1,b2,b3,b4,b5,b6,b7,b8,b9,b10,b11,b12,b13,b14,b15,b16⟩
theorem all_mk {l:PySem.W.OpenLaw}{w:Bj}{K:AK}{h:Heap}{mg:Str->Option Value}{fa:Addr}(X:K.In h) (G:h.Ns AY mg) (hfa:mg "law"=some (.ref fa)) {t:Nat->Tok}{c T:Addr}(D:DsIn K c T) (Z:NsIn K t) (CC:∃c:Cs,CAll K c) :
  ∃fd:Bg,(∀(s:AL) (v:Value),BindsTo s fd ⟨[v],[]⟩ [("_law_script",v)])/\∀base:Heap,K.In base->base.Ns AY mg->base.BuiltinsAt mg T->aJ l.prog w K mg base CX0 20 fa fd ["_law_script"] (spLaw T K):=by
 obtain ⟨c,m2',m3',m5',m6',m7',⟨bm2,id2,c2,hB2⟩,⟨bm3,id3,c3,hB3⟩,⟨bm5,id5,c5,hB5⟩,⟨bm6,id6,c6,hB6⟩,⟨bm7,id7,c7,hB7⟩,I2,I3,I7,x2_reel,x2_frame,x3_name,x7_number,kq5,kq6⟩:=CC
 have M2:=CB X G m2'
 have M3:=CB X G m3'
 have M5:=CB X G m5'
 have M6:=CB X G m6'
 have M7:=CB X G m7'
 have mna:=CB X G Z.na
 have mma:=CB X G Z.ma
 have mmc:=CB X G Z.mc
 have mmf:=CB X G Z.mf
 have nisi:=Bx X G Z.zisi
 have nlen:=Bx X G Z.zlen
 have nint:=Bx X G Z.zint
 have nbool:=Bx X G Z.zbool
 have ntup:=Bx X G Z.ztup
 have nrng:=Bx X G Z.zrng
 have nabs:=Bx X G Z.zabs
 have nmin:=Bx X G Z.zmin
 have nmax:=Bx X G Z.zmax
 have nlst:=Bx X G Z.zlst
 have ndic:=Bx X G Z.zdic
 have nenu:=Bx X G Z.zenu
 have nrev:=Bx X G Z.zrev
 have nsum:=Bx X G Z.zsum
 have nzip:=Bx X G Z.zzip
 have nsort:=Bx X G Z.zsort
 have nany:=Bx X G Z.zany
 obtain ⟨fl,fdl,al,FL⟩:=D.law
 have e:=hfa.symm.trans (CB X G al)
 cases e
 refine ⟨fdl,fun s v=>?_,fun base kb _ hB=>?_⟩
 ·obtain ⟨oc,od,kV,doc,pm,an,cdv,ct,osl,rfl,lk,hcd⟩:=FL.ex
  exact .of_eq rfl
 have C:=PySem.W.codeHd_of_K kb D.pr.1
 obtain ⟨f2,fd2,R2,F2⟩:=I2.ex
 have b2:=F2.binds (ps:=["self", "reel", "frame"]) fun _ _ _ _ _ _ us hl=>us3 us hl fun _ _ _=>rfl
 obtain ⟨f3,fd3,R3,F3⟩:=I3.ex
 have b3:=F3.binds (ps:=["self", "name"]) fun _ _ _ _ _ _ us hl=>us2 us hl fun _ _=>rfl
 obtain ⟨f7,fd7,R7,F7⟩:=I7.ex
 have b7:=F7.binds (ps:=["self", "number"]) fun _ _ _ _ _ _ us hl=>us2 us hl fun _ _=>rfl
 have dCell:=Def.of (P:=l.prog) (w:=w) (base:=base) X G D.cell (fun _ _ F=>vO F) fun _ _ _ _ _ _ us hl=>us2 us hl fun _ _=>rfl
 have dNum:=Def.of (P:=l.prog) (w:=w) (base:=base) X G D.num (fun _ _ F=>yx F nabs nrng nint) fun _ _ _ _ _ _ us hl=>us2 us hl fun _ _=>rfl
 have dWh:=Def.of (P:=l.prog) (w:=w) (base:=base) X G D.whole (fun _ _ F=>sw F nisi nint nbool) fun _ _ _ _ _ _ us hl=>us1 us hl fun _=>rfl
 have dHasF:=Def.of (P:=l.prog) (w:=w) (base:=base) X G D.hasF (fun _ _ F=>vL F dWh mma) fun _ _ _ _ _ _ us hl=>us2 us hl fun _ _=>rfl
 have dNamed:=Def.of (P:=l.prog) (w:=w) (base:=base) X G D.named (fun _ _ F=>sE F mna M3 R3 (jX F3 I3.xc x3_name) b3) fun _ _ _ _ _ _ us hl=>us2 us hl fun _ _=>rfl
 have dIsF:=Def.of (P:=l.prog) (w:=w) (base:=base) X G D.isF (fun _ _ F=>yC F) fun _ _ _ _ _ _ us hl=>us1 us hl fun _=>rfl
 have dLClip:=Def.of (P:=l.prog) (w:=w) (base:=base) X G D.lclip (fun _ _ F=>sJ F dNamed dHasF M2 R2 (sN F2 I2.xc x2_reel x2_frame) b2) fun _ _ _ _ _ _ us hl=>us2 us hl fun _ _=>rfl
 have dLFade:=Def.of (P:=l.prog) (w:=w) (base:=base) X G D.lfade (fun _ _ F=>sF F dIsF nlen M5 kq5) fun _ _ _ _ _ _ us hl=>us2 us hl fun _ _=>rfl
 have rLook:∀d:Nat,Def l.prog w K mg base (CX1 l.prog w) "look_through" (2*d+7) ["items", "parts", "reels", "within"] (gY d):=by
  intro d
  induction d with
  | zero=>exact Def.of X G D.look (fun f fd F=>nU (d:=0) F (Def.never X G D.look (fun _ _ _ _ _ _ us hl=>us4 us hl fun _ _ _ _=>rfl)) (Def.of X G D.lpart (fun f fd F=>kU (d:=0) F (Def.never X G D.look (fun _ _ _ _ _ _ us hl=>us4 us hl fun _ _ _ _=>rfl)) M3 R3 (jX F3 I3.xc x3_name) b3) (fun _ _ _ _ _ _ us hl=>us4 us hl fun _ _ _ _=>rfl)) dLClip dLFade nenu) (fun _ _ _ _ _ _ us hl=>us4 us hl fun _ _ _ _=>rfl)
  | succ d ih=>exact Def.of X G D.look (fun f fd F=>nU (d:=(d+1)) F ih (Def.of X G D.lpart (fun f fd F=>kU (d:=(d+1)) F ih M3 R3 (jX F3 I3.xc x3_name) b3) (fun _ _ _ _ _ _ us hl=>us4 us hl fun _ _ _ _=>rfl)) dLClip dLFade nenu) (fun _ _ _ _ _ _ us hl=>us4 us hl fun _ _ _ _=>rfl)
 have dSound:=Def.of (P:=l.prog) (w:=w) (base:=base) X G D.sound (fun _ _ F=>sx (d:=5) F (rLook 5)) fun _ _ _ _ _ _ us hl=>us3 us hl fun _ _ _=>rfl
 have dFrIn:=Def.of (P:=l.prog) (w:=w) (base:=base) X G D.frIn (fun _ _ F=>vN F nabs) fun _ _ _ _ _ _ us hl=>us1 us hl fun _=>rfl
 have dBackw:=Def.of (P:=l.prog) (w:=w) (base:=base) X G D.backw (fun _ _ F=>sQ F nrev) fun _ _ _ _ _ _ us hl=>us1 us hl fun _=>rfl
 have dFadedIn:=Def.of (P:=l.prog) (w:=w) (base:=base) X G D.fadedIn (fun _ _ F=>l5 F) fun _ _ _ _ _ _ us hl=>us2 us hl fun _ _=>rfl
 have dRMany:=Def.of (P:=l.prog) (w:=w) (base:=base) X G D.rmany (fun _ _ F=>sB F M6 kq6) fun _ _ _ _ _ _ us hl=>us2 us hl fun _ _=>rfl
 have dRShort:=Def.of (P:=l.prog) (w:=w) (base:=base) X G D.rshort (fun _ _ F=>pV F dFrIn nenu M7 R7 (sM F7 I7.xc x7_number) b7) fun _ _ _ _ _ _ us hl=>us1 us hl fun _=>rfl
 have dRFilm:=Def.of (P:=l.prog) (w:=w) (base:=base) X G D.rfilm (fun _ _ F=>sC F dRMany dRShort dFrIn nlen nsum mmc mmf) fun _ _ _ _ _ _ us hl=>us1 us hl fun _=>rfl
 have rClips:∀d:Nat,Def l.prog w K mg base (CX1 l.prog w) "clips_of" (2*d+3) ["items", "parts"] (cU c.c6 d):=by
  intro d
  induction d with
  | zero=>exact Def.of X G D.clipsOf (fun f fd F=>h_ (d:=0) F (Def.of X G D.clipsI (fun f fd F=>jb (d:=0) F (Def.never X G D.clipsOf (fun _ _ _ _ _ _ us hl=>us2 us hl fun _ _=>rfl)) dRMany dBackw nlen mmc) (fun _ _ _ _ _ _ us hl=>us2 us hl fun _ _=>rfl)) dRMany dFadedIn nlen mmc) (fun _ _ _ _ _ _ us hl=>us2 us hl fun _ _=>rfl)
  | succ d ih=>exact Def.of X G D.clipsOf (fun f fd F=>h_ (d:=(d+1)) F (Def.of X G D.clipsI (fun f fd F=>jb (d:=(d+1)) F ih dRMany dBackw nlen mmc) (fun _ _ _ _ _ _ us hl=>us2 us hl fun _ _=>rfl)) dRMany dFadedIn nlen mmc) (fun _ _ _ _ _ _ us hl=>us2 us hl fun _ _=>rfl)
 have dPlayed:=Def.of (P:=l.prog) (w:=w) (base:=base) X G D.played (fun _ _ F=>pW (d:=5) F dSound (rClips 5) dRFilm) fun _ _ _ _ _ _ us hl=>us3 us hl fun _ _ _=>rfl
 have dInp:=Def.of (P:=l.prog) (w:=w) (base:=base) X G D.inp (fun _ _ F=>yD F dIsF nany nlst) fun _ _ _ _ _ _ us hl=>us1 us hl fun _=>rfl
 have rTurned:∀d:Nat,Def l.prog w K mg base CX0 "turned" (2*d+4) ["items"] (eT IT.tL d)/\Def l.prog w K mg base CX0 "straight" (2*d+4) ["items"] (eT IT.sL d):=by
  intro d
  induction d with
  | zero=>exact ⟨Def.of X G D.turned (fun f fd F=>ja (d:=0) F (Def.of X G D.turnI (fun f fd F=>kT (d:=0) F (Def.never X G D.turned (fun _ _ _ _ _ _ us hl=>us1 us hl fun _=>rfl)) (Def.never X G D.straight (fun _ _ _ _ _ _ us hl=>us1 us hl fun _=>rfl)) dInp) (fun _ _ _ _ _ _ us hl=>us1 us hl fun _=>rfl)) nrev ntup) (fun _ _ _ _ _ _ us hl=>us1 us hl fun _=>rfl),Def.of X G D.straight (fun f fd F=>gl (d:=0) F (Def.of X G D.strI (fun f fd F=>nS (d:=0) F (Def.never X G D.turned (fun _ _ _ _ _ _ us hl=>us1 us hl fun _=>rfl)) (Def.never X G D.straight (fun _ _ _ _ _ _ us hl=>us1 us hl fun _=>rfl)) dInp) (fun _ _ _ _ _ _ us hl=>us1 us hl fun _=>rfl)) ntup) (fun _ _ _ _ _ _ us hl=>us1 us hl fun _=>rfl)⟩
  | succ d ih=>exact ⟨Def.of X G D.turned (fun f fd F=>ja (d:=(d+1)) F (Def.of X G D.turnI (fun f fd F=>kT (d:=(d+1)) F ih.1 ih.2 dInp) (fun _ _ _ _ _ _ us hl=>us1 us hl fun _=>rfl)) nrev ntup) (fun _ _ _ _ _ _ us hl=>us1 us hl fun _=>rfl),Def.of X G D.straight (fun f fd F=>gl (d:=(d+1)) F (Def.of X G D.strI (fun f fd F=>nS (d:=(d+1)) F ih.1 ih.2 dInp) (fun _ _ _ _ _ _ us hl=>us1 us hl fun _=>rfl)) ntup) (fun _ _ _ _ _ _ us hl=>us1 us hl fun _=>rfl)⟩
 have dWay:=Def.of (P:=l.prog) (w:=w) (base:=base) X G D.way (fun _ _ F=>yu F) fun _ _ _ _ _ _ us hl=>us1 us hl fun _=>rfl
 have dNos:=Def.of (P:=l.prog) (w:=w) (base:=base) X G D.nos (fun _ _ F=>yz F dWay nlst nrng) fun _ _ _ _ _ _ us hl=>us1 us hl fun _=>rfl
 have dCan:=Def.of (P:=l.prog) (w:=w) (base:=base) X G D.can (fun _ _ F=>yE F dWay nabs) fun _ _ _ _ _ _ us hl=>us3 us hl fun _ _ _=>rfl
 have dTake:=Def.of (P:=l.prog) (w:=w) (base:=base) X G D.take (fun _ _ F=>vJ F dCan) fun _ _ _ _ _ _ us hl=>us3 us hl fun _ _ _=>rfl
 have dStrips:=Def.of (P:=l.prog) (w:=w) (base:=base) X G D.strips (fun _ _ F=>pU F dNos dTake) fun _ _ _ _ _ _ us hl=>us1 us hl fun _=>rfl
 have dLeast:=Def.of (P:=l.prog) (w:=w) (base:=base) X G D.least (fun _ _ F=>sG F nmin) fun _ _ _ _ _ _ us hl=>us1 us hl fun _=>rfl
 have dGr:=Def.of (P:=l.prog) (w:=w) (base:=base) X G D.gr (fun _ _ F=>zX F nmax) fun _ _ _ _ _ _ us hl=>us1 us hl fun _=>rfl
 have dFree:=Def.of (P:=l.prog) (w:=w) (base:=base) X G D.free (fun _ _ F=>vM F nenu nlen) fun _ _ _ _ _ _ us hl=>us2 us hl fun _ _=>rfl
 have dPut:=Def.of (P:=l.prog) (w:=w) (base:=base) X G D.put (fun _ _ F=>yw F nlen) fun _ _ _ _ _ _ us hl=>us3 us hl fun _ _ _=>rfl
 have dPr:Def l.prog w K mg base CX0 "prints_for" 5 ["strips", "spoil"] (xH T):=Def.ofT X G D.pr (fun f fd F hc=>zW F hc C hB dLeast dGr dFree dPut nlen nsort nrng) fun _ _ _ _ _ _ us hl=>us2 us hl fun _ _=>rfl
 have dNeeds:=Def.of (P:=l.prog) (w:=w) (base:=base) X G D.needs (fun _ _ F=>sD F dPr nzip nmax nsort) fun _ _ _ _ _ _ us hl=>us2 us hl fun _ _=>rfl
 have dJoins:=Def.of (P:=l.prog) (w:=w) (base:=base) X G D.joins (fun _ _ F=>sK F dStrips nlen nmax) fun _ _ _ _ _ _ us hl=>us1 us hl fun _=>rfl
 have dFaded:=Def.of (P:=l.prog) (w:=w) (base:=base) X G D.faded (fun _ _ F=>sO F) fun _ _ _ _ _ _ us hl=>us5 us hl fun _ _ _ _ _=>rfl
 have dSC:=Def.of (P:=l.prog) (w:=w) (base:=base) X G D.showC (fun _ _ F=>zV F dNos dFaded nlen nenu) fun _ _ _ _ _ _ us hl=>us2 us hl fun _ _=>rfl
 have dShown:=Def.of (P:=l.prog) (w:=w) (base:=base) X G D.shown (fun _ _ F=>sA F dSC) fun _ _ _ _ _ _ us hl=>us1 us hl fun _=>rfl
 have dClips:=Def.of (P:=l.prog) (w:=w) (base:=base) X G D.clips (fun _ _ F=>sP F dNum nmax nmin nabs) fun _ _ _ _ _ _ us hl=>us2 us hl fun _ _=>rfl
 have dList:Def l.prog w K mg base CX0 "_law_list" 1 ["_law_clips_here", "_law_cut"] qY:=Def.of X G D.list' (fun f fd F=>vK F nlen ntup nrng) fun _ _ _ _ _ _ us hl=>us2 us hl fun _ _=>rfl
 have dMir:=Def.of (P:=l.prog) (w:=w) (base:=base) X G D.mir (fun _ _ F=>yA F ntup) fun _ _ _ _ _ _ us hl=>us1 us hl fun _=>rfl
 exact yB FL dClips dCell dList dPlayed dShown dStrips (rTurned 4).1 dMir dJoins dNeeds nlst ndic nlen
end K56
open PySem PySem.W PyProof.Rows
local macro_rules | `(tactic| walk_at "own def")=>`(tactic| (dsimp only [L2.KOf]; (first | (refine' L2.funIn_mk ?a ?l ?c ?k; (case a=>k_is); (case l=>k_is); (case c=>k_is); (case k=>k_is)) | (refine' L2.funT_of ?a ?l ?c ?k ?e ?h; (case a=>k_is); (case l=>k_is); (case c=>k_is); (case k=>k_is); (case e=>exact rfl); (case h=>kernel_rfl)))))
set_option maxRecDepth 100000 in
set_option maxHeartbeats 0 in
theorem PySem.Challenge.cw_leadersplice_k56_whole_the_other_way_holds : PySem.Challenge.rw_leadersplice_k56_whole_the_other_way.Holds := by
 refine Hd.all.2 (show Hd.all.1 from ?_)
 delta Hd.all
 dsimp only
 k_fill
 refine L2.walk_ofT (c:=281) (T:=277) (l:=PySem.Challenge.rw_leadersplice_k56_whole_the_other_way) (n:=63) (k:=20) (x:="_law_script") (CX:=L2.CX0) (sp:=K56.spLaw 277) rfl (by decide) rfl ⟨rfl,by decide,by decide⟩ (fun w h Y=>⟨PySem.W.km_in_of Y,PySem.W.km_tabs_of Y 277 (AQ ..)⟩) ?P ?C ?F (fun K H a ns hl hS hT=>⟨a,ns,rfl,hS,hl,hT,fun _=>rfl⟩) (fun _ _ _ _ z=>z)
 case P=>exact fun w=>by kernel_rfl
 case C=>exact fun w=>by kernel_rfl
 case F =>
  intro w mg fa h KX G hmg
  have D:K56.DsIn (L2.KOf KX) 281 277:=by
   refine ⟨?_,?_,?_,?_,?_,?_,?_,?_,?_,?_,?_,?_,?_,?_,?_,?_,?_,?_,?_,?_,?_,?_,?_,?_,?_,?_,?_,?_,?_,?_,?_,?_,?_,?_,?_,?_,?_,?_,?_,?_,?_,?_,?_,?_⟩ <;> walk_at "own def"
  have Z:∃t,K56.NsIn (L2.KOf KX) t:=by
   dsimp only [L2.KOf]
   refine' K56.ns_mk ?a0 ?a1 ?a2 ?a3 ?e0 ?e1 ?e2 ?e3 ?b0 ?b1 ?b2 ?b3 ?b4 ?b5 ?b6 ?b7 ?b8 ?b9 ?b10 ?b11 ?b12 ?b13 ?b14 ?b15 ?b16
   (case a0=>k_is); (case a1=>k_is); (case a2=>k_is); (case a3=>k_is); (case e0=>kernel_rfl); (case e1=>kernel_rfl); (case e2=>kernel_rfl); (case e3=>kernel_rfl); (case b0=>k_is); (case b1=>k_is); (case b2=>k_is); (case b3=>k_is); (case b4=>k_is); (case b5=>k_is); (case b6=>k_is); (case b7=>k_is); (case b8=>k_is); (case b9=>k_is); (case b10=>k_is); (case b11=>k_is); (case b12=>k_is); (case b13=>k_is); (case b14=>k_is); (case b15=>k_is); (case b16=>k_is)
  have CC:∃c:K56.Cs,K56.CAll (L2.KOf KX) c:=by
   dsimp only [L2.KOf]
   refine' K56.cs_mk ?xm2 ?xm3 ?xm5 ?xm6 ?xm7 ?xlQ2 ?xlQ3 ?xlQ5 ?xlQ6 ?xlQ7 ?xhbQ2 ?xhbQ3 ?xhbQ5 ?xhbQ6 ?xhbQ7 ?xI2 ?xI3 ?xI7 ?xx2_reel ?xx2_frame ?xx3_name ?xx7_number ?xkq5 ?xkq6
   (case xm2=>k_is); (case xm3=>k_is); (case xm5=>k_is); (case xm6=>k_is); (case xm7=>k_is); (case xlQ2=>k_is); (case xlQ3=>k_is); (case xlQ5=>k_is); (case xlQ6=>k_is); (case xlQ7=>k_is); (case xhbQ2=>kernel_rfl); (case xhbQ3=>kernel_rfl); (case xhbQ5=>kernel_rfl); (case xhbQ6=>kernel_rfl); (case xhbQ7=>kernel_rfl); (case xx2_reel=>k_is); (case xx2_frame=>k_is); (case xx3_name=>k_is); (case xx7_number=>k_is); (case xkq5=>k_exc); (case xkq6=>k_exc)
   case xI2 =>
    refine' L2.initIn_mk ?yhi ?yht ?yl ?ycc ?ykk ?ylC ?ytl ?yhcd ?yho ?yhdd ?ysa ?yhm ?yhmo ?yhga ?yhgn ?yhc ?yha ?yhn ?yhtk
    (case yhi=>k_is); (case yht=>k_is); (case yl=>k_is); (case ycc=>k_is); (case ykk=>k_is); (case ylC=>k_is); (case ytl=>kernel_rfl); (case yhcd=>k_is); (case yho=>kernel_rfl); (case yhdd=>kernel_rfl); (case ysa=>k_is); (case yhm=>k_is); (case yhmo=>k_is); (case yhga=>k_is); (case yhgn=>k_is); (case yhc=>kernel_rfl); (case yha=>k_is); (case yhn=>k_is); (case yhtk=>k_is)
   case xI3 =>
    refine' L2.initIn_mk ?zhi ?zht ?zl ?zcc ?zkk ?zlC ?ztl ?zhcd ?zho ?zhdd ?zsa ?zhm ?zhmo ?zhga ?zhgn ?zhc ?zha ?zhn ?zhtk
    (case zhi=>k_is); (case zht=>k_is); (case zl=>k_is); (case zcc=>k_is); (case zkk=>k_is); (case zlC=>k_is); (case ztl=>kernel_rfl); (case zhcd=>k_is); (case zho=>kernel_rfl); (case zhdd=>kernel_rfl); (case zsa=>k_is); (case zhm=>k_is); (case zhmo=>k_is); (case zhga=>k_is); (case zhgn=>k_is); (case zhc=>kernel_rfl); (case zha=>k_is); (case zhn=>k_is); (case zhtk=>k_is)
   case xI7 =>
    refine' L2.initIn_mk ?uhi ?uht ?ul ?ucc ?ukk ?ulC ?utl ?uhcd ?uho ?uhdd ?usa ?uhm ?uhmo ?uhga ?uhgn ?uhc ?uha ?uhn ?uhtk
    (case uhi=>k_is); (case uht=>k_is); (case ul=>k_is); (case ucc=>k_is); (case ukk=>k_is); (case ulC=>k_is); (case utl=>kernel_rfl); (case uhcd=>k_is); (case uho=>kernel_rfl); (case uhdd=>kernel_rfl); (case usa=>k_is); (case uhm=>k_is); (case uhmo=>k_is); (case uhga=>k_is); (case uhgn=>k_is); (case uhc=>kernel_rfl); (case uha=>k_is); (case uhn=>k_is); (case uhtk=>k_is)
  obtain ⟨t,Z⟩:=Z
  exact K56.all_mk KX G hmg D Z CC
