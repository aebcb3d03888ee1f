import PyProof.Rows.All
import Wide.All
import OpenK.AllK
import Wide.FinOn
import Lean
import PyProof.EqAt
import PyProof.EqKinds
import PyProof.TupleCall
import PyProof.StationsW
import PyProof.CompFree
import PyProof.CompUse
import OpenK.KCls
import OpenK.KDescr
import OpenK.KWalk
import PyProof.ExcAttrAll.ValueError
import OpenK.KMake
import PyProof.InstStoreFacts
import PyProof.ExcClass3
import PyProof.ListRange
import PyProof.Rows.Range3
import KE.KStateDown
import PyProof.MaxThree
import PyProof.Claim2
import PyProof.StrBlockI
import PyProof.StrBlock2
import PyProof.StrLawsIn
import PyProof.StrLawsIdx
import PyProof.Rows.ReprOcc
import KE.IntTextLaws
import PyProof.SumAny
import PyProof.Rows.SumGenD
import PyProof.ZipIter
import KE.KRevSl
import PySem.PyData
import PyProof.SeqI3
import PyProof.WalkInts
import PyProof.ListNew
import PyProof.WalksMore
import PyProof.ReprLoop
import KE.KRevIter
import KE.KxText
import KE.KSortKey
import KE.KLam
import KE.KNestM
import KE.KDictLaws
import KE.KItemsList
import KE.KSortAsk
import PyProof.SetKind
import PyProof.CollectWalk
import PyProof.DictStraight
import PyProof.FactsAll.set_1
import PyProof.Seq
import PyProof.Walks
import PyProof.FactsAll.set_2
import PyProof.FactsAll.set_0
import PyProof.SetNew
import PyProof.FactsAll.set_3
import PyProof.Rows.SortStr
import KE.KSorted
import KE.KDictSum
import PyProof.Rows.StrInSeq
import PyProof.Rows.SetFrom
import PyProof.SetRoads
import PySem.Challenge.RW_leadersplice_k55_whole_film_from_prints
set_option maxHeartbeats 4000000
local macro_rules | `(tactic| omega) => `(tactic| lia)
set_option hygiene false
local macro_rules
| `('a')=>`(⟨rfl,rfl,rfl,by decide +kernel,rfl,by decide +kernel,by decide +kernel⟩)
| `('b')=>`((by omega))
| `('c')=>`((by intro z; cases z))
| `('d')=>`((by decide +kernel))
| `('e')=>`((by simp))
| `('f')=>`((by decide))
| `('g')=>`((by show 0<=sizeLine; decide))
| `('h')=>`((by show 1<=sizeLine; decide))
| `('i')=>`((by show 2<=sizeLine; decide))
| `('j')=>`((by show 4<=sizeLine; decide))
| `('k')=>`(Def P w K mg base CX0)
| `('l')=>`(List (Addr×Clip))
| `('m')=>`(List (Addr×Obj))
| `('n')=>`(s.heap.objs.size)
| `('o')=>`(s2.heap.objs.size)
| `('p')=>`((ps.map fun x=>V.ref x.1))
| `('q')=>`((us.map fun x=>V.ref x.1))
| `('r')=>`((x == ("__debug__":Str)))
| `('s')=>`((ps.map (·.2)))
| `('t')=>`(Def.of (P:=l.prog) (w:=w) (base:=base) X G)
| `('u')=>`(fun _ _ _ _ _ _ us hl=>us1 us hl fun _=>rfl)
| `('v')=>`(fun _ _ _ _ _ _ us hl=>us2 us hl fun _ _=>rfl)
| `('w')=>`(fun _ _ _ _ _ _ us hl=>us3 us hl fun _ _ _=>rfl)
set_option hygiene true
open List renaming length_map->A2,getElem?_eq_getElem->A4,getElem?_map->A5,getD_eq_getElem?_getD->A7,getElem?_eq_some_iff->A8,length_append->Bd,size_toArray->Be,map_append->Bf,mem_of_getElem?->Bg,range->Bh,getElem?_append_left->Bk,getElem?_append_right->Bm,mem_cons->Bp,mem_cons_self->Bq,mem_cons_of_mem->Br,mem_singleton->Bu,mem_map->Bz,getElem_mem->BB,map_cons->BD,replicate->BF,append_nil->BH,mem_append_right->BI,length_cons->BK,length_range->BL,map_map->BV,mem_range->BW,length_singleton->BZ,take_length->B4,mem_append->B7,length_take->B9,pairwise_map->Cc,length->Ce,take_add_one->Cf,not_mem_nil->Cg,append_assoc->Cj,flatMap_cons->Ck,getElem?_eq_none->Cm,getElem?_cons_succ->Cu,pairwise_cons->CF,length_replicate->CG,map_congr_left->CH,length_nil->CI,filter_append->CN,filter_cons->CO,replicate_succ->CP,flatMap_append->CQ,getElem?_range->CS,take_append_drop->CT,pairwise_singleton->CZ,mem_filter->C6,take_of_length_le->C9,dropLast_concat_getLast->Dg,mem_append_left->Dh,getElem?_set_self->Dm,reverse_cons->Do,drop_eq_nil_of_le->Dq,toArray->Ds,length_reverse->Du,Perm->Dv,find?_cons->Dw,range_succ->Dx,pairwise_iff_getElem->DA,length_filter_le->DB,getElem_range->DC,ext_getElem->DD,getElem?_set_ne->DJ,filterMap_cons->DO,range'->DU,mem_iff_getElem?->D8,drop_eq_getElem_cons->Ec,nodup_cons->Ed,flatten_cons->Eh,range_eq_range'->Ei,Pairwise->Ep,all_eq_true->EE,flatMap_nil->EF,lookup->EJ,mem_filterMap->EN,pairwise_lt_range->ES,foldl_append->E2,take_succ->Fb,length_drop->Fd,range'_succ->Ff,mem_flatMap->Fg,nodup_range->Fi,getElem_map->Fl,isEmpty_nil->Fm,length_set->Fy,getElem?_replicate->FD,map_nil->FP,cons_lt_cons_iff->F0,cons_append->F5,map_snd_zip->F6,map->Gi,getElem?_zipIdx->Gj,pairwise_append->Gk,getElem?_of_mem->Gm,foldl_cons->Gr,foldl->Gz,take_zero->GB
open PySem renaming wpAny_bind->A3,Shared->A9,wpAny_pure->Bc,wpAny->Bl,sizeLine_eq->Bo,model->Bv,SetTable->By,mainGlobals->BA,Around->BC,World->BG,wpAny_mono->BJ,FuncData->BX,wpAny_holding->B0,starEach->B2,boot_len->B3,mem_of_lookup->Cn,wpAny_call_entry->Cq,wpAny_newObj_type->Cr,assignEach->CM,wpAny_truthy_bool->CU,foldedSetIterable->CV,compareOp->CW,bootBuiltins->C8,wpAny_callSpecial?_slot->Di,wpAny_standAt->Dk,attributeBase->Dl,swapsWith->Dt,rawInt->Dz,behindInMarks->DF,wpAny_newList->DI,excClassObj->DK,wpAny_loadPart_at->DL,backTo->DM,codeAny_builtin->DN,wpAny_setField->DY,wpAny_setState_of->Ek,sysModules->Em,closureFor->Es,codeAny->Ev,wpAny_setEntries_of->Ez,wpAny_Call_Name_kw->EQ,letOwnedTupleGo->EV,binaryOp->EW,pickOrder->EX,wpAny_pyIter_list->EZ,NameKind->E5,codeAny_mono->Fc,checkBuiltinCall->Fe,wpAny_isSubtype_exc->Fp,wpAny_attempt->Ft,plainId_quiet->Fu,wpAny_execs_nil->Fw,wpAny_passesOwn->Fx,wpAny_field->FF,sliceBounds->FG,Fin->FJ,GenState->FM,pyNext->FN,ExcBaseFacts->FR,isSubtype_type->FT,assign->F1,wpAny_call->F4,checkCount->F8,wpAny_askSetting->Gb,holding->Gd,relabel->Gf,codeAny_call_builtin->Gg,unsupported->Go,relayAll->Gp,CmpOp->Gs,getItem->Gv,wpAny_typeOf->Gw,wpAny_fieldsOf->GD,spliced->GE,bindArgs->GH,Result->GI,IsPart->GJ
open PySem.Heap renaming get?_push_of_some->A6,lt_size->Bi,get?_push_size->Bj,SameBut->Ca,get?_update_other->Ch,get?_update_self->Cl,get?_none_of_le->Cp,size_push->C3,get?_update_ne->Ew,get?_push_ne->E1,ExtBut->Gh
open PySem.W renaming Frag->Ba,nsIn->BN,mg_none_of->Cb,findIn->CJ,kia_one->C7,tabObj->Dr,fnOf->DG,keepIn->DX,kitOne->EB,CodeHd->EH,codeIn->E6,codeHd_of_K->Fq,boot_heap->FB,codeHdIn->F9,mroIn->Ge,kas_rev->Gx,InstAt->Gy
open Nat renaming le_refl->Bb,ne_of_lt->Bw,lt_of_lt_of_le->BO,le_trans->BR,zero_le->B6,lt_succ_of_lt->Ct,lt_irrefl->CB,le_succ->Dd,sub_self->Dp,min_le_left->Dy,lt_succ_self->DV,lt_or_ge->Ej,le_of_lt->EM,le_add_right->Fh,le_of_eq->FQ,ne_of_gt->Gu
open PySem.Value renaming ref->Bs,none->CA,type->EL,int->FC
open Bool renaming false_ne_true->Bx,false_eq_true->BY,and_eq_true_iff->Eg,and_eq_true->ED,not_true->EY,false_and->E4,eq_false_iff->FV,eq_iff_iff->Gq,and_false->GA
open PyProof.Rows renaming seqObj->BE,callWith_type1->BU,slot_tuple_getitem->C1,IntsAre->DQ,envOfC->Ea,get?_update_seq->Ee,entry_list_sort->Ef,listUpdate_at->Eu,callWith_builtin1->EC,slot_list_sort->EI,rangeSize_nat->E8,args_list_sort->E9,plain_sorted->Fj,entry_sorted->Fk,AllBare->Fv,kind_sorted->FK,args_sorted1->FS,arrOf->FY,boot_range->F3,seqEpoch_at->Gn,Call_->GG
open False renaming elim->BM
open Option.some renaming inj->BP
open PySem.PassesOwn renaming never->BQ
open PySem.Obj renaming mapSeq->BS,mapFields->Er,isFreed_of_fields->FW
open PySem.PyData renaming strOk->B5,depthAll->Cw,canLayAll0->Cz,canLay0->C4,depth->DR,int->Et,list->EK,str->Gc
open Array renaming length_toList->B8,getElem?_eq_getElem->CK,getD_eq_getD_getElem?->Dj,getElem?_eq_some_iff->DZ,getD->Fa,getElem?_toList->FZ,toList_inj->Ga
open Int renaming le_refl->Ci,toNat_natCast->Cy,zero_add->El,emod_nonneg->Fz,emod_lt_of_pos->FA
open Ne renaming symm->Co
open PySem.Calls renaming spliced_cons->CD,call_function_entry->Da,spliced_nil->Dc,callWith_builtin->ER,Name_function_global->E3,evalArgs_plain->E7
open PySem.Builtin.Range renaming rangeSize->CY,small->Ey
open Sum renaming inr->C0
open PySem.SeqAt renaming eqv_refl->C5
open Option renaming isSome_iff_exists->De,map_eq_some_iff->DP,bind_some->EA,map_some->EU
open PySem.Str renaming ofString->Df
open PySem.Builtin.ObjectAttr renaming Found->DH
open PySem.Builtin.List renaming listExtendWith->DS,listTooLong->Eo
open True renaming intro->DW
open PySem.Manifest renaming ParamKind->D7,Receiver->FU
open PySem.Builtin.Slice renaming slicePlaces->Eb,sliceAdjust->Fo
open PySem.Builtin.Tuple renaming tupleExact->En
open PySem.F renaming plain_list_iadd->EG,called_set->ET,args_tuple_add_2->Fs,entry_tuple_add->FE,plainAttrs_dict->FH,slot_tuple_add->FO,slot_dict_get->FX
open PyProof renaming noPylong_small->EO
open PyProof.Rows.SortSt renaming mk'->GC
open PySem.IsRange renaming new->GF
set_option Elab.async false
set_option linter.all false
set_option maxRecDepth 100000
namespace Hd
open PySem PySem.W PyProof.Rows
def run (tb:String->Option Builtin) (p:Program) (w:BG) (m:Nat) (ann:Option Value):Nat->SharedT->Thread->Option SharedT
 | 0,_,_=>none
 | n+1,s,t=>match through t with
  | true=>some s
  | false=>match stepOk m ann t with
   | false=>none
   | true=>match stepT (denote tb) p w s t with
    | none=>none
    | some x=>run tb p w m ann n x.1 x.2
theorem yc {tb:String->Option Builtin}{p:Program}{w:BG}{m:Nat}{ann:Option Value}{r:SharedT} :
  ∀(n:Nat) (s:SharedT) (t:Thread),run tb p w m ann n s t=some r->topRun tb p w m ann n s.abs t=some r.abs:=by
 intro n
 induction n with
 | zero=>intro s t h; cases h
 | succ n ih =>
  intro s t h
  simp only [run] at h
  simp only [topRun]
  cases a:through t
  ·simp only [a] at h ⊢
   cases b:stepOk m ann t
   ·simp only [b] at h; cases h
   ·simp only [b] at h ⊢
    cases c:stepT (denote tb) p w s t with
    | none=>simp only [c] at h; cases h
    | some x =>
     simp only [c] at h
     rw [stepT_spec (s':=x.1) (t':=x.2) c]
     exact ih _ _ h
  ·simp only [a] at h ⊢
   cases h; rfl
noncomputable def bt (P:Params):BT :=
 .node (boot_o_0 P)
  (.node (boot_o_1 P) (.node (boot_o_3 P) (.node (boot_o_7 P) .nil .nil) .nil) (.node (boot_o_5 P) (.node (boot_o_9 P) .nil .nil) .nil))
  (.node (boot_o_2 P) (.node (boot_o_4 P) (.node (boot_o_8 P) .nil .nil) .nil) (.node (boot_o_6 P) (.node (boot_o_10 P) .nil .nil) .nil))
theorem qW (w:BG):((FB w.params).isNs BA&&(#[]:Array FM).size == 0,(FB w.params).objs.size,(FB w.params).nsMap BA "__annotations__")=(true,11,some (.ref 6)):=by kernel_rfl
noncomputable def wV (p:Program) (w:BG) (s:A9):Bool :=
 staticsOk (importedModules p.main.body) (FB w.params) s.heap&&namesBound p s.heap&&gensDone s&&laidKept (FB w.params) s.heap
noncomputable def look (p q:Program) (loose:List Str) (Xt:A9->Bool) (N:Nat) (w:BG) (os:OsState) :=
 (run treeTable p w 11 (some (.ref 6)) N ⟨bt w.params,11,(FB w.params).life,#[],boot_drawn,boot_toks,os⟩ (topStub p)).map fun s =>
  (wV p w s.abs,openSeen q loose (importedModules p.main.body) Xt true s.abs,s.abs)
theorem wg {p q:Program}{loose:List Str}{Xt:A9->Bool}{α:Type}{Yf:A9->α}{Ya:BG->α}{N:Nat}
  (e:opening p=plainProg p.main.scope.names) (hN:Nat.ble 600 N=true) (f:∀s,fenceModules? p s=some s)
  (h:∀w,(fun os=>(look p q loose Xt N w os).map fun x=>(x.1,x.2.1,Yf x.2.2))=fun _=>some (true,openGood q loose,Ya w)):LeftO p q loose Xt Yf Ya N true:=by
 intro w
 have o:=boot_open e hN f w
 obtain ⟨⟨hp,gs,d,k,os⟩,e1,e2⟩:=DP.mp o
 simp only [Prod.mk.injEq] at e2
 obtain ⟨rfl,rfl,rfl,rfl⟩:=e2
 have z:=qW w
 simp only [Prod.mk.injEq] at z
 obtain ⟨z1,z2,z3⟩:=z
 obtain ⟨x,l1,l2⟩:=DP.mp (congrFun (h w) os)
 unfold look at l1
 obtain ⟨s,r,rfl⟩:=DP.mp l1
 simp only [Prod.mk.injEq] at l2
 obtain ⟨t1,t2,t3⟩:=l2
 have R:=yc _ _ _ r
 have E:SharedT.abs ⟨bt w.params,11,(FB w.params).life,#[],boot_drawn,boot_toks,os⟩=⟨FB w.params,#[],boot_drawn,boot_toks,os⟩:=rfl
 rw [E] at R
 have T:topFrom treeTable p w N ⟨FB w.params,#[],boot_drawn,boot_toks,os⟩=some s.abs:=by
  unfold topFrom
  simp only [z1,z2,z3,R,EA]
  unfold wV at t1
  simp only [t1]
 show (openEnds treeTable p w N).map _=_
 unfold openEnds
 rw [e1]
 simp only [EA,T,EU,t2,t3]
def yes {α β:Type}(_:α) (_:β):Bool:=true
theorem left_tw {p q:Program}{loose:List Str}{Xt:A9->Bool}{α:Type}{Yf:A9->α}{Ya:BG->α}{N:Nat}{L:BG->OsState->Option _}{g:_}
  (hl:look p q loose Xt N=L) (hg:openGood q loose=g) (e:opening p=plainProg p.main.scope.names) (hN:Nat.ble 600 N=true) (f:∀s,fenceModules? p s=some s)
  (h:∀w,(fun os=>(L w os).map fun x=>(x.1,x.2.1,Yf x.2.2))=fun _=>some (true,g,Ya w)):LeftO p q loose Xt Yf Ya N true:=by
 subst hl hg
 exact wg e hN f h
noncomputable def q:Program:=view PySem.Challenge.pw_leadersplice_k55_whole_film_from_prints [1,2,4,6,7,8,9,10,11,13,14,15,16,18,19,20,21,22,23,24,25,26,27,29,30,31,32,33,34,36,37,38,39,40,41,42,43,44,45,46,47,48]
noncomputable def lk:=look PySem.Challenge.pw_leadersplice_k55_whole_film_from_prints q [] (fun s=>xlAt q [] s&&recOk [] s) 3566
noncomputable def gd:=openGood q []
set_option maxHeartbeats 0 in
theorem made:yes lk gd=true:=by k_qdec
set_option maxHeartbeats 0 in
theorem lookA:∀w,(fun os=>(PySem.W.Fast.tw11159589718668676419 w os).map fun x=>x.1)=fun _=>some true:=fun w=>by kernel_rfl
set_option maxHeartbeats 0 in
theorem lookB:∀w,(fun os=>(PySem.W.Fast.tw11159589718668676419 w os).map fun x=>x.2.1.1)=fun _=>some (Prod.fst PySem.W.Fast.tw15256597767800516470):=fun w=>by kernel_rfl
set_option maxHeartbeats 0 in
theorem lookC:∀w,(fun os=>(PySem.W.Fast.tw11159589718668676419 w os).map fun x=>x.2.1.2)=fun _=>some (Prod.snd PySem.W.Fast.tw15256597767800516470):=fun w=>by kernel_rfl
theorem look3 {α β δ γ:Type}{L:BG->OsState->Option (Bool×(β×δ)×γ)}{g:β×δ}{Yf:γ->α}{Ya:BG->α}(a:∀w,(fun os=>(L w os).map fun x=>x.1)=fun _=>some true) (b:∀w,(fun os=>(L w os).map fun x=>x.2.1.1)=fun _=>some g.1) (b':∀w,(fun os=>(L w os).map fun x=>x.2.1.2)=fun _=>some g.2) (c:∀w,(fun os=>(L w os).map fun x=>Yf x.2.2)=fun _=>some (Ya w)) :
  ∀w,(fun os=>(L w os).map fun x=>(x.1,x.2.1,Yf x.2.2))=fun _=>some (true,g,Ya w):=fun w=>funext fun os=>by
 have a:=congrFun (a w) os
 have b:=congrFun (b w) os
 have b':=congrFun (b' w) os
 have c:=congrFun (c w) os
 revert a b b' c
 cases L w os with
 | none=>intro a; cases a
 | some x =>
  intro a b b' c
  have a:x.1=true:=BP a
  have b:x.2.1.1=g.1:=BP b
  have b':x.2.1.2=g.2:=BP b'
  have c:Yf x.2.2=Ya w:=BP c
  show some (x.1,x.2.1,Yf x.2.2)=some (true,g,Ya w)
  rw [a,c,show x.2.1=g from Prod.ext b b']
end Hd
section
open PySem PySem.W PyProof.Rows
local macro_rules | `(tactic| o_head $H)=>`(tactic| (
 refine holds_open (q:=Hd.q) (loose:=[]) (Xt:=fun s=>xlAt Hd.q [] s&&recOk [] s) (XP:=XL Hd.q [])
  (Yf:=Hook.obs $H) (Ya:=Hook.val $H) (YP:=Hook.says $H) (N:=3566)
  (Hd.left_tw PySem.W.Fast.te11159589718668676419 PySem.W.Fast.te15256597767800516470 rfl rfl (fun _=>rfl) (Hd.look3 Hd.lookA Hd.lookB Hd.lookC (fun w=>by kernel_rfl)))
  (Hook.of $H) (Hook.keeps $H) (fun s e=>xl_of s (Eg.mp e).1) XL.keeps (by rfl) (by rfl) (by rfl)
  (fun s e=>recFacts_of (Eg.mp e).2) rfl (by assumption) ?h4 ⟨rfl,rfl,rfl,rfl,rfl,?h5⟩ ?hw ?hc
 (case h4=>decide +kernel)
 (case h5=>decide +kernel)
 (case hw=>w_witness2)
 (rename_i z; clear z)))
set_option maxHeartbeats 0 in
noncomputable def Hd.all:{ W:Prop // W->PySem.Challenge.rw_leadersplice_k55_whole_film_from_prints.Holds }:=by
 refine' ⟨_,fun hwalk=>_⟩
 rotate_left
 w_on; o_law; k_head
 exact hwalk
end
namespace L2
open PySem PySem.Spec PyProof.Rows
abbrev Key:=Sum Int Str
def gB:Key->Value->Bool
 | .inl k,v=>Value.isInt k v
 | .inr x,v=>Value.isStrOf x v
def AS (w:BG):Key->Int
 | .inl k=>hashInt k
 | .inr x=>hashStr w x
theorem aY:∀{k:Key}{v:Value},gB k v=true->(∃i t,k=Sum.inl i/\v=FC i t)\/(∃x t,k=C0 x/\v=Value.str x t)
 | .inl i,v,h=>by
  obtain ⟨t,e⟩:=Value.isInt_shape (k:=i) (v:=v) h
  exact .inl ⟨i,t,rfl,e⟩
 | .inr x,v,h=>by
  obtain ⟨t,e⟩:=Value.isStrOf_shape (x:=x) (v:=v) h
  exact .inr ⟨x,t,rfl,e⟩
theorem qu (i:Int) (t:Tok):gB (.inl i) (.int i t)=true:=by simp [gB,Value.isInt]
theorem qr (x:Str) (t:Tok):gB (.inr x) (.str x t)=true:=by simp [gB,Value.isStrOf]
theorem y7 (a b:Int):decide ((Sum.inl a:Key)=Sum.inl b)=(a == b):=by
 by_cases e:a=b
 ·subst e; simp
 ·have h:¬ (Sum.inl a:Key)=Sum.inl b:=fun q=>e (Sum.inl.inj q)
  rw [decide_eq_false h]
  exact (beq_eq_false_iff_ne.mpr e).symm
theorem yY (a b:Str):decide ((C0 a:Key)=C0 b)=decide (a=b):=by
 by_cases e:a=b
 ·subst e; simp
 ·have h:¬ (C0 a:Key)=C0 b:=fun q=>e (C0.inj q)
  rw [decide_eq_false h,decide_eq_false e]
theorem y3 (a:Int) (b:Str):decide ((Sum.inl a:Key)=C0 b)=false:=decide_eq_false (fun q=>nomatch q)
theorem yZ (a:Str) (b:Int):decide ((C0 a:Key)=Sum.inl b)=false:=decide_eq_false (fun q=>nomatch q)
def aT (prog:Program) (w:BG):PySem.KeyKind prog w Key where
 is:=gB
 hash:=AS w
 inj:=fun v a b ha hb=>by
  rcases aY ha with ⟨i,t,rfl,rfl⟩ | ⟨x,t,rfl,rfl⟩
  ·rcases aY hb with ⟨j,u,rfl,e⟩ | ⟨y,u,rfl,e⟩
   ·injection e with e1 _; rw [e1]
   ·exact nomatch e
  ·rcases aY hb with ⟨j,u,rfl,e⟩ | ⟨y,u,rfl,e⟩
   ·exact nomatch e
   ·injection e with e1 _; rw [e1]
 byValue:=fun k v h=>by
  rcases aY h with ⟨i,t,rfl,rfl⟩ | ⟨x,t,rfl,rfl⟩ <;> rfl
 pyHash:=fun hv h=>by
  rcases aY hv with ⟨i,t,rfl,rfl⟩ | ⟨x,t,rfl,rfl⟩
  ·exact wpAny_pyHash_int h
  ·exact wpAny_pyHash_str h
 eqBool:=fun hu hv h=>by
  rcases aY hu with ⟨i,t,rfl,rfl⟩ | ⟨x,t,rfl,rfl⟩
  ·rcases aY hv with ⟨j,u,rfl,rfl⟩ | ⟨y,u,rfl,rfl⟩
   ·rw [y7] at h; exact wpAny_eqBool_int h
   ·rw [y3] at h; exact SeqAt.EqAt.int_str i t y u _ _ _ _ h
  ·rcases aY hv with ⟨j,u,rfl,rfl⟩ | ⟨y,u,rfl,rfl⟩
   ·rw [yZ] at h; exact SeqAt.EqAt.str_int x t j u _ _ _ _ h
   ·rw [yY] at h; exact wpAny_eqBool_str h
 «strs»:=fun k x t v h=>by
  rcases aY h with ⟨i,u,rfl,e⟩ | ⟨y,u,rfl,e⟩
  ·exact nomatch e
  ·injection e with e1 _
   subst e1
   cases v <;> rfl
theorem kT (prog:Program) (w:BG) (i:Int) (t:Tok):(aT prog w).is (.inl i) (.int i t)=true:=qu i t
theorem kR (prog:Program) (w:BG) (x:Str) (t:Tok):(aT prog w).is (.inr x) (.str x t)=true:=qr x t
inductive V where
 | non | bl (b:Bool) | int (i:Int) | str (x:Str) | byt (b:Array UInt8) | flt (b:UInt64) | ref (a:Addr) | ty (n:String)
 deriving DecidableEq
def RelV:V->Value->Prop
 | .non,u=>u=CA
 | .bl b,u=>u=Value.bool b
 | .int i,u=>∃t,u=FC i t
 | .str x,u=>∃t,u=Value.str x t
 | .byt b,u=>∃t,u=Value.bytes b t
 | .flt b,u=>∃t,u=Value.float b t
 | .ref a,u=>u=Bs a
 | .ty n,u=>u=EL n
abbrev Vals:List V->List Value->Prop:=Paired RelV
theorem Vals.length {xs:List V}{us:List Value}(r:Vals xs us):xs.length=us.length:=Paired.length r
theorem Vals.get:∀{xs:List V}{us:List Value}{i:Nat}{x:V},Vals xs us->xs[i]?=some x->∃u,us[i]?=some u/\RelV x u
 | _,_,_,_,.nil,e=>by simp at e
 | _,_,0,_,.cons r _,e=>by simp at e; subst e; exact ⟨_,rfl,r⟩
 | _,_,i+1,x,.cons _ t,e=>by
  obtain ⟨u,h1,h2⟩:=Vals.get (i:=i) (x:=x) t (by simpa using e)
  exact ⟨u,by simpa using h1,h2⟩
theorem Vals.set {x:V}{u:Value}(r:RelV x u):∀{xs:List V}{us:List Value}(i:Nat),Vals xs us->Vals (xs.set i x) (us.set i u)
 | _,_,_,.nil=>.nil
 | _,_,0,.cons _ t=>.cons r t
 | _,_,i+1,.cons q t=>.cons q (Vals.set r i t)
theorem Vals.append:∀{xs ys:List V}{us ws:List Value},Vals xs us->Vals ys ws->Vals (xs++ys) (us++ws)
 | _,_,_,_,.nil,s=>s
 | _,_,_,_,.cons r t,s=>.cons r (Vals.append t s)
theorem Vals.take:∀{xs:List V}{us:List Value}(n:Nat),Vals xs us->Vals (xs.take n) (us.take n)
 | _,_,0,_=>.nil
 | _,_,_+1,.nil=>.nil
 | _,_,n+1,.cons r t=>.cons r (Vals.take n t)
theorem Vals.drop:∀{xs:List V}{us:List Value}(n:Nat),Vals xs us->Vals (xs.drop n) (us.drop n)
 | _,_,0,r=>r
 | _,_,_+1,.nil=>.nil
 | _,_,n+1,.cons _ t=>Vals.drop n t
def RelO:Option V->Option Value->Prop
 | some v,some u=>RelV v u
 | none,none=>True
 | _,_=>False
def KV {κ:Type}:List (κ×V)->List (κ×Value)->Prop:=Paired fun (p:κ×V) (q:κ×Value)=>p.1=q.1/\RelV p.2 q.2
def kV:Key->V
 | .inl i=>.int i
 | .inr x=>.str x
inductive HO where
  | lst (xs:List V)
  | tup (xs:List V)
  | dK (kvs:List (Key×V)) | dT (kvs:List (List Key×V))
  | set (S:Int->Bool) (n:Nat)
  | ins (C dx:Addr) (fs:List (Str×V))
  | own (x:Addr)
  | xd (fs:List (Str×V))
  | met (f x:Addr)
  | rng (lo hi:Int)
  | frz (o:Obj) (u:HO)
  | tbl (ps:Array Value)
  | ext (φ:Heap->Prop)
abbrev Hp:=Addr->Option HO
def upd (H:Hp) (a:Addr) (o:HO):Hp:=fun b=>if b=a then some o else H b
theorem ac {H:Hp}{a:Addr}{o:HO}:upd H a o a=some o:=by unfold upd; rw [if_pos rfl]
theorem ah {H:Hp}{a b:Addr}{o:HO}(h:b≠a):upd H a o b=H b:=by unfold upd; rw [if_neg h]
theorem aK {H:Hp}{a b:Addr}{o u:HO}(h:H a=some o) (h':H b=some u) (d:o≠u):a≠b:=by
 intro e; subst e; rw [h] at h'; exact d (BP h')
theorem ak {H:Hp}{a b:Addr}{o:HO}(h:H a=some o) (h':H b=none):a≠b:=by
 intro e; subst e; rw [h] at h'; cases h'
section
variable (P:Program) (w:BG)
def ObjOk (H:Hp) (h:Heap) (a:Addr):HO->Prop
 | .lst xs=>xs.length<=sizeLine/\∃(its:List Value) (n:Nat),Vals xs its/\h.get? a=some { cls:=.type "list",data:=.seq its.toArray n }
 | .tup xs=>xs.length<=sizeLine/\∃its:List Value,Vals xs its/\IsTup h a its.toArray
 | .dK kvs=>kvs.length<=sizeLine/\(a == Em)=false/\∃vs,KV kvs vs/\h.DictOf (aT P w) a vs
 | .dT kvs=>kvs.length<=sizeLine/\(a == Em)=false/\∃xs:List (List Key×Addr×Value),
   Paired (fun (p:List Key×V) (q:List Key×Addr×Value)=>p.1=q.1/\H q.2.1=some (.tup (p.1.map kV))/\RelV p.2 q.2.2) kvs xs /\
   ∃o es ep,h.get? a=some o/\o.ExactDict/\o.data=.dict es ep/\es.toList=xs.map (entryOfKey (tupleKind (aT P w)))/\(xs.map (·.1)).Nodup
 | .set S n=>h.SetOf (intKind P w) a S n
 | .ins C dx fs=>H dx=some (.own a)/\fs.length<=1000/\dx≠a/\h.get? a=some (PySem.W.instObj C dx) /\
   ∃mA,h.Ns1 dx mA/\(∀f,RelO (fs.lookup f) (mA f))/\PySem.Within mA (fs.map (·.1))
 | .own _=>∃o,h.get? a=some o
 | .xd fs=>∃mA,h.Ns1 a mA/\∀f,RelO (fs.lookup f) (mA f)
 | .rng lo hi=>∃t u v,h.get? a=some { cls:=.type "range",data:=.fields #[.int lo t,.int hi u,.int 1 v] }
 | .frz o u=>h.get? a=some o/\ObjOk H h a u
 | .tbl ps=>h.get? a=some { cls:=.none,data:=.fields ps }
 | .met f x=>h.get? a=some (PySem.W.methodObj (.ref f) (.ref x))
 | .ext φ=>φ h/\(∃o,h.get? a=some o)/\∀h1 h2:Heap,φ h1->(∀o,h1.get? a=some o->h2.get? a=some o)->φ h2
def HOk (H:Hp) (h:Heap):Prop:=∀a o,H a=some o->ObjOk P w H h a o
end
section
variable {P:Program}{w:BG}{H H':Hp}{h h':Heap}{a:Addr}{o:HO}
theorem ObjOk.lt (x:ObjOk P w H h a o):a<h.objs.size:=by
 cases o with
 | lst xs=>obtain ⟨_,_,_,_,e⟩:=x; exact Bi e
 | tup xs=>obtain ⟨_,_,_,p⟩:=x; exact p.lt
 | dK kvs=>obtain ⟨_,_,_,_,o,_,_,e,_⟩:=x; exact Bi e
 | dT kvs=>obtain ⟨_,_,_,_,o,_,_,e,_⟩:=x; exact Bi e
 | set S n=>obtain ⟨o,_,_,_,e,_⟩:=x; exact Bi e
 | ins C dx fs=>obtain ⟨_,_,_,e,_⟩:=x; exact Bi e
 | own y=>obtain ⟨_,e⟩:=x; exact Bi e
 | xd fs=>obtain ⟨_,⟨_,_,_,e,_⟩,_⟩:=x; exact Bi e
 | rng lo hi=>obtain ⟨_,_,_,e⟩:=x; exact Bi e
 | frz ob u=>obtain ⟨e,_⟩:=x; exact Bi e
 | tbl ps=>exact Bi (show h.get? a=some _ from x)
 | met f y=>exact Bi (show h.get? a=some _ from x)
 | ext φ=>obtain ⟨_,⟨_,e⟩,_⟩:=x; exact Bi e
theorem Paired.mapP {α β:Type}{F G:α->β->Prop}:∀{l₁:List α}{l₂:List β},Paired F l₁ l₂->(∀a b,F a b->G a b)->Paired G l₁ l₂
 | _,_,.nil,_=>.nil
 | _,_,.cons r t,f=>.cons (f _ _ r) (Paired.mapP t f)
theorem ObjOk.stay (x:ObjOk P w H h a o) (k:∀b u,(b=a\/H b=some (.own a))->h.get? b=some u->h'.get? b=some u)
  (ho:∀b,H b=some (.own a)->H' b=some (.own a)) (ht:∀b xs,H b=some (.tup xs)->H' b=some (.tup xs)):ObjOk P w H' h' a o:=by
 induction o with
 | lst xs=>obtain ⟨z,its,n,r,e⟩:=x; exact ⟨z,its,n,r,k _ _ (.inl rfl) e⟩
 | tup xs=>obtain ⟨z,its,r,ob,e,c⟩:=x; exact ⟨z,its,r,ob,k _ _ (.inl rfl) e,c⟩
 | dK kvs=>obtain ⟨z,y,vs,r,ob,es,ep,e,c⟩:=x; exact ⟨z,y,vs,r,ob,es,ep,k _ _ (.inl rfl) e,c⟩
 | dT kvs =>
  obtain ⟨z,y,xs,r,ob,es,ep,e,c⟩:=x
  exact ⟨z,y,xs,Paired.mapP r fun p q z=>⟨z.1,ht _ _ z.2.1,z.2.2⟩,ob,es,ep,k _ _ (.inl rfl) e,c⟩
 | set S n=>obtain ⟨ob,es,ep,t,e,c⟩:=x; exact ⟨ob,es,ep,t,k _ _ (.inl rfl) e,c⟩
 | ins C dx fs =>
  obtain ⟨d,z,ne,e,mA,⟨od,es,ep,e2,c⟩,r⟩:=x
  exact ⟨ho _ d,z,ne,k _ _ (.inl rfl) e,mA,⟨od,es,ep,k _ _ (.inr d) e2,c⟩,r⟩
 | own y=>obtain ⟨ob,e⟩:=x; exact ⟨ob,k _ _ (.inl rfl) e⟩
 | xd fs=>obtain ⟨mA,⟨od,es,ep,e,c⟩,r⟩:=x; exact ⟨mA,⟨od,es,ep,k _ _ (.inl rfl) e,c⟩,r⟩
 | rng lo hi=>obtain ⟨t,u,v,e⟩:=x; exact ⟨t,u,v,k _ _ (.inl rfl) e⟩
 | frz ob u ih=>obtain ⟨e,q⟩:=x; exact ⟨k _ _ (.inl rfl) e,ih q⟩
 | tbl ps =>
  have e:h.get? a=some { cls:=.none,data:=.fields ps }:=x
  show h'.get? a=some { cls:=.none,data:=.fields ps }
  exact k a _ (.inl rfl) e
 | met f y =>
  have e:h.get? a=some (PySem.W.methodObj (.ref f) (.ref y)):=x
  show h'.get? a=some (PySem.W.methodObj (.ref f) (.ref y))
  exact k a _ (.inl rfl) e
 | ext φ=>obtain ⟨p,⟨o,e⟩,st⟩:=x; exact ⟨st _ _ p fun o q=>k _ _ (.inl rfl) q,⟨o,k _ _ (.inl rfl) e⟩,st⟩
theorem HOk.lt (x:HOk P w H h) (e:H a=some o):a<h.objs.size:=(x a o e).lt
theorem HOk.fresh (x:HOk P w H h) (e:h.objs.size<=a):H a=none:=by
 cases q:H a with
 | none=>rfl
 | some u=>exact absurd (BO (x.lt q) e) (CB _)
theorem HOk.kept (x:HOk P w H h) (k:∀b u,h.get? b=some u->h'.get? b=some u):HOk P w H h':=fun a o e =>
 (x a o e).stay (fun b u _ q=>k b u q) (fun _ q=>q) fun _ _ q=>q
theorem HOk.laid (x:HOk P w H h) (k:∀b u,h.get? b=some u->h'.get? b=some u) (hp:h.objs.size<=a) (new:ObjOk P w (upd H a o) h' a o):HOk P w (upd H a o) h':=fun b u e=>by
 have hn:=x.fresh hp
 by_cases hb:b=a
 ·subst hb; rw [ac] at e; cases e; exact new
 ·rw [ah hb] at e
  exact (x b u e).stay (fun c v _ q=>k c v q) (fun c q=>by rw [ah (ak q hn)]; exact q) fun c xs q=>by rw [ah (ak q hn)]; exact q
end
def Rd (H:Hp) (a:Addr) (u:HO):Prop:=H a=some u\/∃o,H a=some (.frz o u)
theorem Rd.of {H:Hp}{a:Addr}{u:HO}(h:H a=some u):Rd H a u:=.inl h
theorem Rd.ok {P:Program}{w:BG}{H:Hp}{h:Heap}{a:Addr}{u:HO}(r:Rd H a u) (x:HOk P w H h):ObjOk P w H h a u:=by
 rcases r with r | ⟨o,r⟩
 ·exact x a u r
 ·obtain ⟨_,q⟩:=x a _ r
  exact q
def Mut:Option HO->Prop
 | some (.lst _)=>True
 | some (.dK _)=>True
 | some (.dT _)=>True
 | some (.set _ _)=>True
 | some (.ins _ _ _)=>True
 | some (.ext _)=>True
 | _=>False
section
variable {P:Program}{w:BG}{H:Hp}{h h':Heap}{x e:Addr}{o':HO}
theorem HOk.write (ok:HOk P w H h) (mu:Mut (H x)) (he:e=x\/H e=some (.own x)) (k:∀b u,b≠e->h.get? b=some u->h'.get? b=some u) (heo:∃u,h'.get? e=some u)
  (new:ObjOk P w (upd H x o') h' x o'):HOk P w (upd H x o') h':=fun b u q=>by
 have nown:∀c y,H c=some (.own y)->c≠x:=fun c y r z=>by subst z; rw [r] at mu; exact mu
 have ntup:∀c xs,H c=some (.tup xs)->c≠x:=fun c xs r z=>by subst z; rw [r] at mu; exact mu
 by_cases hb:b=x
 ·subst hb; rw [ac] at q; cases q; exact new
 ·rw [ah hb] at q
  by_cases hbe:b=e
  ·have q':H b=some (.own x):=by
    rcases he with z | z
    ·exact absurd (hbe.trans z) hb
    ·rw [hbe]; exact z
   rw [q] at q'; cases q'
   obtain ⟨v,hv⟩:=heo
   exact ⟨v,by rw [hbe]; exact hv⟩
  ·refine (ok b u q).stay (fun c v hc r=>k c v ?_ r) (fun c r=>by rw [ah (nown c b r)]; exact r) fun c xs r=>by rw [ah (ntup c xs r)]; exact r
   rcases hc with rfl | hc
   ·exact hbe
   ·rintro rfl
    rcases he with z | z
    ·exact nown c b hc z
    ·rw [hc] at z; cases z; exact hb rfl
end
structure Un (fs ex:List Addr) (H H':Hp) (h h':Heap):Prop where
 keep:∀b o,h.get? b=some o->H b=none->b ∉ fs->b ∉ ex->h'.get? b=some o
 slot:∀b o,h.get? b=some o->H b=none->b∈fs->b ∉ ex->∃sl,h'.get? b=some { o with slots:=sl }
 free:∀b o,h.get? b=some o->H b=none->b ∉ ex->H' b=none
 there:∀b o,h.get? b=some o->b ∉ ex->∃o',h'.get? b=some o'
 tups:∀b xs,H b=some (.tup xs)->H' b=some (.tup xs)
 frzs:∀b o u,H b=some (.frz o u)->H' b=some (.frz o u)
 tbls:∀b ps,H b=some (.tbl ps)->∃more,H' b=some (.tbl (ps++more))
section
variable {fs fs' ex ex':List Addr}{H H1 H2:Hp}{h h1 h2 h':Heap}{a x e:Addr}{o:HO}
theorem Un.any (u:Un fs ex H H1 h h1) {b:Addr}{ob:Obj}(q:h.get? b=some ob) (n:H b=none) (hx:b ∉ ex):∃sl,h1.get? b=some { ob with slots:=sl }:=by
 by_cases hb:b∈fs
 ·exact u.slot b ob q n hb hx
 ·exact ⟨ob.slots,u.keep b ob q n hb hx⟩
theorem Un.kept (k:∀b u,h.get? b=some u->h'.get? b=some u):Un fs ex H H h h' :=
 ⟨fun b ob q _ _ _=>k b ob q,fun b ob q _ _ _=>⟨ob.slots,k b ob q⟩,fun _ _ _ n _=>n,fun b ob q _=>⟨ob,k b ob q⟩,fun _ _ q=>q,fun _ _ _ q=>q,fun _ ps q=>⟨#[],by rw [q]; simp⟩⟩
theorem Un.refl:Un fs ex H H h h:=Un.kept fun _ _ q=>q
theorem Un.laid (k:∀b u,h.get? b=some u->h'.get? b=some u) (hp:h.objs.size<=a) (hn:H a=none):Un fs ex H (upd H a o) h h' where
 keep:=fun b u q _ _ _=>k b u q
 slot:=fun b u q _ _ _=>⟨u.slots,k b u q⟩
 free:=fun b u q n _=>by rw [ah (Bw (BO (Bi q) hp))]; exact n
 there:=fun b u q _=>⟨u,k b u q⟩
 tups:=fun b xs q=>by rw [ah (ak q hn)]; exact q
 frzs:=fun b u xs q=>by rw [ah (ak q hn)]; exact q
 tbls:=fun b ps q=>⟨#[],by rw [ah (ak q hn),q]; simp⟩
theorem Un.write (mu:Mut (H x)) (he:e=x\/H e=some (.own x)) (k:∀b u,b≠e->h.get? b=some u->h'.get? b=some u) (heo:∃u,h'.get? e=some u):Un fs ex H (upd H x o) h h':=by
 have hx:∀b,H b=none->b≠x:=fun b n z=>by subst z; rw [n] at mu; exact mu
 have hb:∀b,H b=none->b≠e:=fun b n z=>by
  subst z
  rcases he with r | r
  ·exact hx b n r
  ·rw [n] at r; cases r
 have hm:∀b u,H b=some u->¬ Mut (some u)->b≠x:=fun b u q nm z=>by subst z; rw [q] at mu; exact nm mu
 refine ⟨fun b u q n _ _=>k b u (hb b n) q,fun b u q n _ _=>⟨u.slots,k b u (hb b n) q⟩,fun b u q n _=>by rw [ah (hx b n)]; exact n,fun b u q _=>?_,
  fun b xs q=>by rw [ah (hm b _ q fun z=>z)]; exact q,fun b u xs q=>by rw [ah (hm b _ q fun z=>z)]; exact q,fun b ps q=>⟨#[],by rw [ah (hm b _ q fun z=>z),q]; simp⟩⟩
 by_cases hbe:b=e
 ·subst hbe; exact heo
 ·exact ⟨u,k b u hbe q⟩
end
def trk (h:Heap) (H:Hp):List Addr:=(Bh h.objs.size).filter fun a=>(H a).isSome
def iH (h:Heap) (H:Hp):Heap:=PySem.W.hideAll h (trk h H)
theorem qA (h:Heap) (H:Hp):(iH h H).objs.size=h.objs.size:=PySem.W.hideAll_size _ _
theorem uv {h:Heap}{H:Hp}{b:Addr}{o:Obj}(e:h.get? b=some o) (n:H b=none):(iH h H).get? b=some o :=
 PySem.W.hideAll_get _ e fun hm=>by
  have q:(H b).isSome=true:=(C6.mp hm).2
  rw [n] at q; simp at q
theorem vZ {h:Heap}{H:Hp}{b:Addr}{o:Obj}(e:(iH h H).get? b=some o):h.get? b=some o/\H b=none:=by
 have e':h.get? b=some o:=PySem.W.of_hideAll (trk h H) e
 refine ⟨e',?_⟩
 cases q:H b with
 | none=>rfl
 | some x =>
  have hm:b∈trk h H:=C6.mpr ⟨BW.mpr (Bi e'),by simp [q]⟩
  have z:(iH h H).get? b=none:=PySem.W.hideAll_none (trk h H) hm
  rw [z] at e; cases e
structure Mod (K:Ba) (mg:Str->Option Value) (base:Heap):Prop where
 kin:K.In base
 glob:base.Ns BA mg
 blt:∃mb,base.Ns builtinsNs mb/\∀x:Str,x≠"__name__"->mb x=C8 x
 nolimit:base.NoLimit
structure Cx where
 prog:Program
 w:BG
 K:Ba
 mg:Str->Option Value
 base:Heap
 A:BC
 N:List Str
 s₀:A9
 H₀:Hp
 env:Env
 outer:List Env
 stack:List Env
 ex:List Addr
 fn:Str->Bool
 calm:Bool
 pn:'m'
 xe:Value->A9->Prop
def frs (l:List Env):List Addr:=l.filterMap (·.frame)
abbrev Cx.fs (X:Cx):List Addr:=frs X.outer
def Vis (sc:Scope) (x:Str):Prop:=sc.names.lookup x=some .local\/sc.names.lookup x=some .cell\/sc.names.lookup x=some .free
def Loc (sc:Scope) (x:Str):Prop:=sc.names.lookup x=some .local\/sc.names.lookup x=some .cell
def AZ (env:Env) (h:Heap) (m:Str->Option Value) (x:Str) (u:Value):Prop :=
 (env.kindOf x=some .local/\m x=some u)\/((env.kindOf x=some .cell\/env.kindOf x=some .free)/\∃c,env.cells.lookup x=some c/\h.IsCell c (some u))
structure Cx.Ok (X:Cx):Prop where
 mod:Mod X.K X.mg X.base
 kind:X.env.scope.kind=.function
 glob:X.env.globals=BA
 blt:X.env.builtins=builtinsNs
 above:X.s₀.heap.objs.size<=X.env.locals
 inj:∀x y c,X.env.cells.lookup x=some c->X.env.cells.lookup y=some c->x=y
 has:∀x,(X.env.kindOf x=some .cell\/X.env.kindOf x=some .free)->∃c,X.env.cells.lookup x=some c
 cab:∀x c,X.fn x=true->X.env.cells.lookup x=some c->X.s₀.heap.objs.size<=c
 hd:X.calm=true->X.A.handled=none
 frames:X.A.frames=some X.stack
 stk:X.stack=X.outer\/(X.stack=X.env :: X.outer/\X.env.frame=some X.env.locals)
 exf:∀b∈X.ex,b≠X.env.locals/\∀x c,X.env.cells.lookup x=some c->c≠b
 bs:∀b o,X.base.get? b=some o->X.s₀.heap.get? b=some o/\X.H₀ b=none
 bsz:X.base.objs.size<=X.s₀.heap.objs.size
 noex:∀b o,X.base.get? b=some o->b ∉ X.ex
 exfs:∀b∈X.ex,b ∉ X.fs
 funs:X.s₀.heap.FunFrames X.base X.outer
 frf:∀b∈X.fs,X.H₀ b=none
structure Inv (X:Cx) (pins:'m') (σ:List (Option V)) (H:Hp) (s:A9):Prop where
 ok:X.Ok
 os:s.os=X.s₀.os
 bare:Fv s.gens
 base:Un X.fs X.ex X.H₀ H X.s₀.heap s.heap
 loc:∃m,s.heap.Ns X.env.locals m/\∀(i:Nat) (x:Str) (v:V),X.N[i]?=some x->σ[i]?=some (some v)->Vis X.env.scope x->∃u,RelV v u/\AZ X.env s.heap m x u
 cell:∀x c,X.env.cells.lookup x=some c->∃v,s.heap.IsCell c v
 free:H X.env.locals=none
 freeC:∀x c,X.env.cells.lookup x=some c->H c=none
 pin:∀p∈X.pn++pins,s.heap.get? p.1=some p.2/\H p.1=none/\p.1≠X.env.locals/\p.1 ∉ X.fs/\∀v,p.2.data≠.cell v
 hok:HOk X.prog X.w H s.heap
 len:σ.length=X.N.length
section
variable {X:Cx}{pins:'m'}{σ:List (Option V)}{H H':Hp}{s:A9}{h':Heap}
theorem Cx.Ok.nofr (ok:X.Ok) {b:Addr}{o:Obj}(e:X.base.get? b=some o):b ∉ X.fs:=fun hb=>by
 have:=(ok.funs.mem hb).1
 rw [e] at this; cases this
theorem Inv.bs (I:Inv X pins σ H s):∀b o,X.base.get? b=some o->s.heap.get? b=some o/\H b=none:=fun b o e =>
 ⟨I.base.keep b o (I.ok.bs b o e).1 (I.ok.bs b o e).2 (I.ok.nofr e) (I.ok.noex b o e),I.base.free b o (I.ok.bs b o e).1 (I.ok.bs b o e).2 (I.ok.noex b o e)⟩
theorem Inv.bk (I:Inv X pins σ H s):∀b o,X.base.get? b=some o->s.heap.get? b=some o:=fun b o e=>(I.bs b o e).1
theorem Inv.mod (I:Inv X pins σ H s):Mod X.K X.mg X.base:=I.ok.mod
theorem Inv.kIn (I:Inv X pins σ H s):X.K.In s.heap:=I.ok.mod.kin.keeps I.bk
theorem Inv.nolimit (I:Inv X pins σ H s):s.heap.NoLimit:=I.ok.mod.nolimit.keeps I.bk
theorem Inv.lt (I:Inv X pins σ H s):X.env.locals<'n':=let ⟨_,hn,_⟩:=I.loc; hn.lt
theorem Inv.sz (I:Inv X pins σ H s):X.s₀.heap.objs.size<='n':=BR I.ok.above (EM I.lt)
theorem Inv.nofs (I:Inv X pins σ H s) {a:Addr}(h:'n'<=a):a ∉ X.fs:=fun hb=>by
 obtain ⟨_,o,ho,_⟩:=I.ok.funs.mem hb
 exact absurd (BO (Bi ho) (BR I.sz h)) (CB _)
theorem Inv.cne (I:Inv X pins σ H s):∀x c,X.env.cells.lookup x=some c->c≠X.env.locals:=fun x c e z=>by
 obtain ⟨v,o,ho,hd⟩:=I.cell x c e
 obtain ⟨m,⟨o',es,ep,ho',hd',_⟩,_⟩:=I.loc
 rw [z,ho'] at ho; cases ho; rw [hd'] at hd; cases hd
theorem Inv.funs (I:Inv X pins σ H s):s.heap.FunFrames X.base X.outer:=by
 have all:∀(l:List Env),(∀b∈frs l,b∈X.fs)->X.s₀.heap.FunFrames X.base l->s.heap.FunFrames X.base l:=by
  intro l
  induction l with
  | nil=>intro _ _; trivial
  | cons env r ih =>
   intro hs hl
   obtain ⟨hk,⟨L,o,hf,hn,ho,hd⟩,hr⟩:=hl
   have hL:L∈X.fs:=hs L (by unfold frs; rw [DO,hf]; exact Bq)
   obtain ⟨sl,e⟩:=I.base.slot L o ho (I.ok.frf L hL) hL fun z=>I.ok.exfs L z hL
   exact ⟨hk,⟨L,_,hf,hn,e,hd⟩,ih (fun b hb=>hs b (by unfold frs; rw [DO,hf]; exact Br _ hb)) hr⟩
 exact all X.outer (fun _ hb=>hb) I.ok.funs
theorem Inv.stack (I:Inv X pins σ H s):s.heap.FunFrames X.base X.stack:=by
 rcases I.ok.stk with e | ⟨e,hf⟩
 ·rw [e]; exact I.funs
 ·rw [e]
  obtain ⟨m,hn,_⟩:=I.loc
  refine .cons (by rw [I.ok.kind]; decide) hf hn ?_ I.funs
  exact Cp (BR I.ok.bsz I.ok.above)
theorem Inv.stkSub (I:Inv X pins σ H s):∀b∈frs X.stack,b∈X.env.locals :: X.fs:=fun b hb=>by
 rcases I.ok.stk with e | ⟨e,hf⟩
 ·rw [e] at hb; exact Br _ hb
 ·rw [e] at hb
  unfold frs at hb
  rw [DO,hf] at hb
  exact hb
theorem Inv.stkFree (I:Inv X pins σ H s):∀b∈frs X.stack,H b=none:=fun b hb=>by
 rcases Bp.mp (I.stkSub b hb) with e | hb
 ·rw [e]; exact I.free
 ·obtain ⟨_,o,ho,_⟩:=I.ok.funs.mem hb
  exact I.base.free b o ho (I.ok.frf b hb) fun z=>I.ok.exfs b z hb
/-- THE STEP: the untracked objects but the frame and the records at ch are kept (the callers' frames up to slots),the frame's map is kept,the new abstract heap is held -/
theorem Inv.step {g':Array FM}{t':Nat}{d':Drawn}{ch:List Addr}(I:Inv X pins σ H s)
  (hch:∀b∈ch,(b∈X.ex\/X.s₀.heap.objs.size<=b)/\b≠X.env.locals/\(∀x c,X.env.cells.lookup x=some c->c≠b)/\∀p∈X.pn++pins,p.1≠b)
  (keep:∀b o,b≠X.env.locals->b ∉ X.fs->b ∉ ch->s.heap.get? b=some o->H b=none->h'.get? b=some o)
  (slot:∀b o,b≠X.env.locals->b∈X.fs->b ∉ ch->s.heap.get? b=some o->H b=none->∃sl,h'.get? b=some { o with slots:=sl }) (free:∀b o,b ∉ ch->s.heap.get? b=some o->H b=none->H' b=none)
  (there:∀b o,b ∉ ch->s.heap.get? b=some o->∃o',h'.get? b=some o')
  (tups:∀b xs,H b=some (.tup xs)->H' b=some (.tup xs)) (frzs:∀b o u,H b=some (.frz o u)->H' b=some (.frz o u)) (tbls:∀b ps,H b=some (.tbl ps)->∃more,H' b=some (.tbl (ps++more)))
  (ns:∀m,s.heap.Ns X.env.locals m->h'.Ns X.env.locals m) (hok:HOk X.prog X.w H' h') (hg:Fv g') :
  Inv X pins σ H' { s with heap:=h',gens:=g',drawn:=d',toks:=t' }:=by
 have neL:∀b o,X.s₀.heap.get? b=some o->b≠X.env.locals:=fun b o e=>Bw (BO (Bi e) I.ok.above)
 have neC:∀b o,X.s₀.heap.get? b=some o->b ∉ X.ex->b ∉ ch:=fun b o e hx hb=>by
  rcases (hch b hb).1 with z | z
  ·exact hx z
  ·exact absurd (BO (Bi e) z) (CB _)
 have cellK:∀x c,X.env.cells.lookup x=some c->∀v,s.heap.IsCell c v->h'.IsCell c v:=fun x c e v ⟨o,ho,hd⟩=>by
  have nch:c ∉ ch:=fun z=>(hch c z).2.2.1 x c e rfl
  by_cases hc:c∈X.fs
  ·obtain ⟨sl,q⟩:=slot c o (I.cne x c e) hc nch ho (I.freeC x c e)
   exact ⟨_,q,hd⟩
  ·exact ⟨o,keep c o (I.cne x c e) hc nch ho (I.freeC x c e),hd⟩
 refine ⟨I.ok,I.os,hg,⟨fun b o e n hb hx=>?_,fun b o e n hb hx=>?_,fun b o e n hx=>?_,fun b o e hx=>?_,fun b xs e=>tups b xs (I.base.tups b xs e),fun b o xs e=>frzs b o xs (I.base.frzs b o xs e),fun b ps e=>?_⟩,?_,fun x c e=>?_,?_,fun x c e=>?_,fun p hp=>?_,hok,I.len⟩
 ·exact keep b o (neL b o e) hb (neC b o e hx) (I.base.keep b o e n hb hx) (I.base.free b o e n hx)
 ·obtain ⟨sl,e1⟩:=I.base.slot b o e n hb hx
  obtain ⟨sl',e2⟩:=slot b _ (neL b o e) hb (neC b o e hx) e1 (I.base.free b o e n hx)
  exact ⟨sl',e2⟩
 ·obtain ⟨o',e1⟩:=I.base.there b o e hx
  exact free b o' (neC b o e hx) e1 (I.base.free b o e n hx)
 ·obtain ⟨o',e1⟩:=I.base.there b o e hx
  exact there b o' (neC b o e hx) e1
 ·obtain ⟨m1,e1⟩:=I.base.tbls b ps e
  obtain ⟨m2,e2⟩:=tbls b _ e1
  exact ⟨m1++m2,by rw [e2,Array.append_assoc]⟩
 ·obtain ⟨m,hn,hl⟩:=I.loc
  refine ⟨m,ns m hn,fun i x v e1 e2 e3=>?_⟩
  obtain ⟨u,r,l⟩:=hl i x v e1 e2 e3
  refine ⟨u,r,?_⟩
  rcases l with l | ⟨k,c,e,z⟩
  ·exact .inl l
  ·exact .inr ⟨k,c,e,cellK x c e _ z⟩
 ·obtain ⟨v,z⟩:=I.cell x c e
  exact ⟨v,cellK x c e v z⟩
 ·obtain ⟨m,⟨o,_,_,ho,_⟩,_⟩:=I.loc
  exact free _ o (fun z=>(hch _ z).2.1 rfl) ho I.free
 ·obtain ⟨v,o,ho,hd⟩:=I.cell x c e
  exact free c o (fun z=>(hch c z).2.2.1 x c e rfl) ho (I.freeC x c e)
 ·obtain ⟨e,n,ne,nf,d⟩:=I.pin p hp
  have nch:p.1 ∉ ch:=fun z=>(hch p.1 z).2.2.2 p hp rfl
  exact ⟨keep p.1 p.2 ne nf nch e n,free p.1 p.2 nch e n,ne,nf,d⟩
theorem Inv.un {t':Nat}(I:Inv X pins σ H s) (u:Un X.fs [] H H' s.heap h') (hok:HOk X.prog X.w H' h'):Inv X pins σ H' { s with heap:=h',toks:=t' }:=by
 obtain ⟨m,⟨o,es,ep,ho,r⟩,_⟩:=id I.loc
 obtain ⟨sl,hL⟩:=u.any ho I.free 'e'
 exact I.step (g':=s.gens) (d':=s.drawn) (ch:=[]) (fun _ z=>nomatch z) (fun b o _ hb _ e n=>u.keep b o e n hb 'e') (fun b o _ hb _ e n=>u.slot b o e n hb 'e') (fun b o _ e n=>u.free b o e n 'e') (fun b o _ e=>u.there b o e 'e') u.tups u.frzs u.tbls (fun m' hm=>by
  obtain ⟨o',es',ep',ho',r'⟩:=hm
  rw [ho] at ho'; cases ho'
  exact ⟨_,es',ep',hL,r'⟩) hok I.bare
theorem Inv.call {g':Array FM}{t':Nat}{d':Drawn}{ch:List Addr}(I:Inv X pins σ H s) (u:Un (frs X.stack) ch H H' s.heap h') (hok:HOk X.prog X.w H' h') (hg:Fv g')
  (hch:∀b∈ch,(b∈X.ex\/X.s₀.heap.objs.size<=b)/\b≠X.env.locals/\(∀x c,X.env.cells.lookup x=some c->c≠b)/\∀p∈X.pn++pins,p.1≠b) :
  Inv X pins σ H' { s with heap:=h',gens:=g',drawn:=d',toks:=t' }:=by
 obtain ⟨m,⟨o,es,ep,ho,r⟩,_⟩:=id I.loc
 obtain ⟨sl,hL⟩:=u.any ho I.free fun z=>(hch _ z).2.1 rfl
 exact I.step (ch:=ch) hch (fun b o hL hb hc e n=>u.keep b o e n (fun z=>(Bp.mp (I.stkSub b z)).elim hL hb) hc) (fun b o _ _ hc e n=>u.any e n hc) (fun b o hc e n=>u.free b o e n hc) (fun b o hc e=>u.there b o e hc) u.tups u.frzs u.tbls (fun m' hm=>by
  obtain ⟨o',es',ep',ho',r'⟩:=hm
  rw [ho] at ho'; cases ho'
  exact ⟨_,es',ep',hL,r'⟩) hok hg
theorem Inv.turned {t':Nat}{it:Addr}(I:Inv X pins σ H s) (k:∀b o,b≠it->s.heap.get? b=some o->h'.get? b=some o) (hn:H it=none) (hL:it≠X.env.locals)
  (h1:it∈X.ex\/X.s₀.heap.objs.size<=it) (h2:∀x c,X.env.cells.lookup x=some c->c≠it) (h3:∀p∈X.pn++pins,p.1≠it):Inv X pins σ H { s with heap:=h',toks:=t' }:=by
 have nit:∀b u,H b=some u->b≠it:=fun b u e z=>by rw [z,hn] at e; cases e
 refine I.step (g':=s.gens) (d':=s.drawn) (ch:=[it]) (fun b hb=>?_) (fun b o _ _ hc e _=>k b o (fun z=>hc (by simp [z])) e) (fun b o _ _ hc e _=>⟨o.slots,k b o (fun z=>hc (by simp [z])) e⟩) (fun _ _ _ _ n=>n)
  (fun b o hc e=>⟨o,k b o (fun z=>hc (by simp [z])) e⟩) (fun _ _ e=>e) (fun _ _ _ e=>e) (fun b ps e=>⟨#[],by rw [e]; simp⟩) (fun m hm=>?_) (fun b u e=>?_) I.bare
 ·have e:b=it:=by simpa using hb
  subst e
  exact ⟨h1,hL,h2,h3⟩
 ·obtain ⟨o,es,ep,ho,r⟩:=hm
  exact ⟨o,es,ep,k _ o (Co hL) ho,r⟩
 ·refine (I.hok b u e).stay (fun c v hc q=>k c v ?_ q) (fun _ q=>q) fun _ _ q=>q
  rcases hc with z | z
  ·rw [z]; exact nit b u e
  ·exact nit c _ z
theorem Inv.tok (I:Inv X pins σ H s) (t:Nat):Inv X pins σ H { s with toks:=t }:=I.un (h':=s.heap) (t':=t) Un.refl I.hok
theorem Inv.kept {t':Nat}(I:Inv X pins σ H s) (k:∀b u,s.heap.get? b=some u->h'.get? b=some u):Inv X pins σ H { s with heap:=h',toks:=t' }:=I.un (Un.kept k) (I.hok.kept k)
theorem Inv.laid {a:Addr}{o:HO}{t':Nat}(I:Inv X pins σ H s) (k:∀b u,s.heap.get? b=some u->h'.get? b=some u) (hp:'n'<=a) (new:ObjOk X.prog X.w (upd H a o) h' a o) :
  Inv X pins σ (upd H a o) { s with heap:=h',toks:=t' }:=I.un (Un.laid k hp (I.hok.fresh hp)) (I.hok.laid k hp new)
theorem Inv.write {x e:Addr}{o:HO}{t':Nat}(I:Inv X pins σ H s) (mu:Mut (H x)) (he:e=x\/H e=some (.own x)) (k:∀b u,b≠e->s.heap.get? b=some u->h'.get? b=some u) (heo:∃u,h'.get? e=some u)
  (new:ObjOk X.prog X.w (upd H x o) h' x o):Inv X pins σ (upd H x o) { s with heap:=h',toks:=t' }:=I.un (Un.write mu he k heo) (I.hok.write mu he k heo new)
theorem Inv.pins_of {pins':'m'}(I:Inv X pins σ H s) (h:∀p∈pins',s.heap.get? p.1=some p.2/\H p.1=none/\p.1≠X.env.locals/\p.1 ∉ X.fs/\∀v,p.2.data≠.cell v):Inv X pins' σ H s :=
 ⟨I.ok,I.os,I.bare,I.base,I.loc,I.cell,I.free,I.freeC,fun p hp=>(B7.mp hp).elim (fun z=>I.pin p (Dh _ z)) (h p),I.hok,I.len⟩
theorem hV {N:List Str}(hN:N.Nodup) {i j:Nat}{x:Str}(a:N[i]?=some x) (b:N[j]?=some x):i=j:=by
 obtain ⟨h1,e1⟩:=A8.mp a
 obtain ⟨h2,e2⟩:=A8.mp b
 exact (List.getElem_inj hN).mp (e1.trans e2.symm)
theorem iQ {M:Model}{A:BC}{E:Value->A9->Prop}{i:Nat}{x:Str}{v:V}{u:Value}{Q:Unit->A9->Prop}(I:Inv X pins σ H s) (hN:X.N.Nodup) (hi:X.N[i]?=some x) (hx:Loc X.env.scope x) (r:RelV v u)
  (h:∀s',Inv X pins (σ.set i (some v)) H s'->(∃a,Ca a s.heap s'.heap/\(a=X.env.locals\/X.env.cells.lookup x=some a))->Q () s') (hf:X.fn x=true\/X.env.scope.names.lookup x=some .local:=by first | exact .inl rfl | exact .inr rfl | assumption):Bl M A (storeName X.env x u) Q E s:=by
 obtain ⟨m,hn,hl⟩:=id I.loc
 have hcls:(X.env.scope.kind == .class||(X.env.scope.kind == .module&&X.env.locals != X.env.globals))=false:=by rw [I.ok.kind]; rfl
 have hiσ:i<σ.length:=by rw [I.len]; exact (A8.mp hi).1
 have cne:=I.cne
 have tracked:∀{a:Addr}{h':Heap},(∃o,s.heap.get? a=some o/\H a=none)->Ca a s.heap h'->HOk X.prog X.w H h':=fun {a h'} ha hs b ob e=>by
  obtain ⟨_,_,hfree⟩:=ha
  refine (I.hok b ob e).stay (fun c w' hc q=>(hs.2 c ?_).trans q) (fun _ q=>q) fun _ _ q=>q
  rintro rfl
  rcases hc with rfl | hc
  ·rw [hfree] at e; cases e
  ·rw [hfree] at hc; cases hc
 rcases hx with hk | hk
 ·refine wpAny_storeName_local hk hn (fun h' hn' hs=>?_) hcls
  obtain ⟨oL,_,_,hoL,_⟩:=id hn
  refine h _ ⟨I.ok,I.os,I.bare,⟨fun b o e n hb hx=>?_,fun b o e n hb hx=>?_,I.base.free,fun b o e hx=>?_,I.base.tups,I.base.frzs,I.base.tbls⟩,⟨_,hn',fun j y v' e1 e2 e3=>?_⟩,fun y c e=>?_,I.free,I.freeC,fun p hp=>?_,tracked ⟨oL,hoL,I.free⟩ hs,by simpa using I.len⟩ ⟨_,hs,.inl rfl⟩
  ·exact (hs.2 b (Bw (BO (Bi e) I.ok.above))).trans (I.base.keep b o e n hb hx)
  ·obtain ⟨sl,e1⟩:=I.base.slot b o e n hb hx
   exact ⟨sl,(hs.2 b (Bw (BO (Bi e) I.ok.above))).trans e1⟩
  ·obtain ⟨o',e1⟩:=I.base.there b o e hx
   exact ⟨o',(hs.2 b (Bw (BO (Bi e) I.ok.above))).trans e1⟩
  ·by_cases hj:j=i
   ·subst hj
    rw [hi] at e1; cases e1
    rw [Dm hiσ] at e2
    cases e2
    exact ⟨u,r,.inl ⟨hk,by simp⟩⟩
   ·rw [DJ (Co hj)] at e2
    obtain ⟨u',r',q⟩:=hl j y v' e1 e2 e3
    refine ⟨u',r',?_⟩
    rcases q with ⟨k,e⟩ | ⟨k,c,e,z⟩
    ·refine .inl ⟨k,?_⟩
     have:y≠x:=fun e=>hj (hV hN e1 (e ▸ hi))
     simp [this,e]
    ·exact .inr ⟨k,c,e,z.sameBut hs (cne y c e)⟩
  ·obtain ⟨w',z⟩:=I.cell y c e
   exact ⟨w',z.sameBut hs (cne y c e)⟩
  ·obtain ⟨e,n,ne,nf,d⟩:=I.pin p hp
   exact ⟨(hs.2 p.1 ne).trans e,n,ne,nf,d⟩
 ·have hfn:X.fn x=true:=by
   rcases hf with z | z
   ·exact z
   ·rw [z] at hk; cases hk
  obtain ⟨c,hc⟩:=I.ok.has x (.inl hk)
  obtain ⟨w',z⟩:=I.cell x c hc
  refine wpAny_storeName_cell I.ok.kind hk hc z (fun h' hc' hs=>?_)
  obtain ⟨oc,hoc,hocd⟩:=id z
  refine h { s with heap:=h' } ⟨I.ok,I.os,I.bare,⟨fun b o e n hb hx=>?_,fun b o e n hb hx=>?_,I.base.free,fun b o e hx=>?_,I.base.tups,I.base.frzs,I.base.tbls⟩,⟨m,hn.sameBut hs (Co (cne x c hc)),fun j y v' e1 e2 e3=>?_⟩,fun y c' e=>?_,I.free,I.freeC,fun p hp=>?_,tracked ⟨oc,hoc,I.freeC x c hc⟩ hs,by simpa using I.len⟩ ⟨c,hs,.inr hc⟩
  ·exact (hs.2 b (Bw (BO (Bi e) (I.ok.cab x c hfn hc)))).trans (I.base.keep b o e n hb hx)
  ·obtain ⟨sl,e1⟩:=I.base.slot b o e n hb hx
   exact ⟨sl,(hs.2 b (Bw (BO (Bi e) (I.ok.cab x c hfn hc)))).trans e1⟩
  ·obtain ⟨o',e1⟩:=I.base.there b o e hx
   exact ⟨o',(hs.2 b (Bw (BO (Bi e) (I.ok.cab x c hfn hc)))).trans e1⟩
  ·by_cases hj:j=i
   ·subst hj
    rw [hi] at e1; cases e1
    rw [Dm hiσ] at e2
    cases e2
    exact ⟨u,r,.inr ⟨.inl hk,c,hc,hc'⟩⟩
   ·rw [DJ (Co hj)] at e2
    obtain ⟨u',r',q⟩:=hl j y v' e1 e2 e3
    refine ⟨u',r',?_⟩
    rcases q with q | ⟨k,c',e,z'⟩
    ·exact .inl q
    ·refine .inr ⟨k,c',e,z'.sameBut hs ?_⟩
     rintro rfl
     exact hj (hV hN e1 (I.ok.inj _ _ _ e hc ▸ hi))
  ·by_cases hcc:c'=c
   ·subst hcc; exact ⟨_,hc'⟩
   ·obtain ⟨w2,z2⟩:=I.cell y c' e
    exact ⟨w2,z2.sameBut hs hcc⟩
  ·obtain ⟨e,n,ne,nf,d⟩:=I.pin p hp
   refine ⟨(hs.2 p.1 ?_).trans e,n,ne,nf,d⟩
   intro q
   rw [q,hoc] at e
   have q':oc=p.2:=BP e
   exact d w' (by rw [<- q']; exact hocd)
theorem fw {M:Model}{A:BC}{E:Value->A9->Prop}{i:Nat}{x:Str}{v:V}{u:Value}{Q:Unit->A9->Prop}(I:Inv X pins σ H s) (hN:X.N.Nodup) (hi:X.N[i]?=some x) (hx:Loc X.env.scope x) (r:RelV v u)
  (h:∀s',Inv X pins (σ.set i (some v)) H s'->Q () s') (hf:X.fn x=true\/X.env.scope.names.lookup x=some .local:=by first | exact .inl rfl | exact .inr rfl | assumption):Bl M A (storeName X.env x u) Q E s :=
 iQ I hN hi hx r (fun s' I' _=>h s' I') hf
theorem Inv.call' {s':A9}{ch:List Addr}(I:Inv X pins σ H s) (ho:s'.os=s.os) (u:Un (frs X.stack) ch H H' s.heap s'.heap) (hok:HOk X.prog X.w H' s'.heap) (hg:Fv s'.gens)
  (hch:∀b∈ch,(b∈X.ex\/X.s₀.heap.objs.size<=b)/\b≠X.env.locals/\(∀x c,X.env.cells.lookup x=some c->c≠b)/\∀p∈X.pn++pins,p.1≠b):Inv X pins σ H' s':=by
 obtain ⟨h',g',d',t',o'⟩:=s'
 have e:o'=s.os:=ho
 subst e
 exact I.call (g':=g') (t':=t') (d':=d') u hok hg hch
end
abbrev XK:=Value->Option Addr->Hp->Prop
abbrev St:=List (Option V)
abbrev VK:=V->Hp->Prop
abbrev TE:=St->Hp->VK->Prop
abbrev TT:=St->Hp->(Bool->Hp->Prop)->Prop
abbrev TA:=St->Hp->(List V->Hp->Prop)->Prop
structure Ends where
 nx:St->Hp->Prop
 rt:VK
 bk:St->Hp->Prop:=fun _ _=>False
 ct:St->Hp->Prop:=fun _ _=>False
abbrev TS:=Ends->St->Hp->Prop
def EP (X:Cx) (pins:'m') (σ:St) (Q:VK) (u:Value) (s':A9):Prop:=∃v H',Inv X pins σ H' s'/\RelV v u/\Q v H'
def TP (X:Cx) (pins:'m') (σ:St) (Q:Bool->Hp->Prop) (b:Bool) (s':A9):Prop:=∃H',Inv X pins σ H' s'/\Q b H'
def AP (X:Cx) (pins:'m') (σ:St) (Q:List V->Hp->Prop) (us:List Value) (s':A9):Prop:=∃vs H',Inv X pins σ H' s'/\Vals vs us/\Q vs H'
def SP (X:Cx) (pins:'m') (D:Ends) (f:Flow) (s':A9):Prop :=
 match f with
 | .next=>∃ σ' H',Inv X pins σ' H' s'/\D.nx σ' H'
 | .brk=>∃ σ' H',Inv X pins σ' H' s'/\D.bk σ' H'
 | .cont=>∃ σ' H',Inv X pins σ' H' s'/\D.ct σ' H'
 | .ret u=>∃v σ' H',Inv X pins σ' H' s'/\RelV v u/\D.rt v H'
def PE (X:Cx) (e:Expr) (t:TE):Prop :=
 ∀(pins:'m') (s:A9) (σ:St) (H:Hp) (Q:VK),Inv X pins σ H s->t σ H Q->Bl (Bv X.prog X.w) X.A (eval e X.env) (EP X pins σ Q) X.xe s
def PT (X:Cx) (e:Expr) (t:TT):Prop :=
 ∀(pins:'m') (s:A9) (σ:St) (H:Hp) (Q:Bool->Hp->Prop),Inv X pins σ H s->t σ H Q->Bl (Bv X.prog X.w) X.A (isTrue e X.env (eval e X.env)) (TP X pins σ Q) X.xe s
def PW (X:Cx) (e:Expr) (t:TT):Prop :=
 ∀(whole:Sem Value) (pins:'m') (s:A9) (σ:St) (H:Hp) (Q:Bool->Hp->Prop),Inv X pins σ H s->t σ H Q->Bl (Bv X.prog X.w) X.A (isTrue e X.env whole) (TP X pins σ Q) X.xe s
theorem PW.pt {X:Cx}{e:Expr}{t:TT}(h:PW X e t):PT X e t:=h _
def PA (X:Cx) (es:List Expr) (t:TA):Prop :=
 ∀(pos:Pos) (pins:'m') (s:A9) (σ:St) (H:Hp) (Q:List V->Hp->Prop),Inv X pins σ H s->t σ H Q->Bl (Bv X.prog X.w) X.A (GE (DM pos (B2 es X.env))) (AP X pins σ Q) X.xe s
def PS (X:Cx) (st:Stmt) (t:TS):Prop :=
 ∀(pins:'m') (s:A9) (σ:St) (H:Hp) (D:Ends),Inv X pins σ H s->t D σ H->Bl (Bv X.prog X.w) X.A (exec st X.env) (SP X pins D) X.xe s
def PSs (X:Cx) (st:List Stmt) (t:TS):Prop :=
 ∀(pins:'m') (s:A9) (σ:St) (H:Hp) (D:Ends),Inv X pins σ H s->t D σ H->Bl (Bv X.prog X.w) X.A (execs st X.env) (SP X pins D) X.xe s
theorem thn {α:Type}{t:Sem α}{Q Q':α->A9->Prop}{M:Model}{A:BC}{E:Value->A9->Prop}{s:A9}(h:Bl M A t Q E s) (hQ:∀a s,Q a s->Q' a s):Bl M A t Q' E s:=BJ h hQ fun _ _ x=>x
section
variable {X:Cx}
def lW (i:Nat):TE:=fun σ H Q=>∃v,σ[i]?=some (some v)/\Q v H
def tC (v:V):TE:=fun _ H Q=>Q v H
theorem jQ {i:Nat}{x:Str}{pos:Pos}(hN:X.N[i]?=some x) (hv:Vis X.env.scope x) (hd:'r'=false:=by decide) (hcd:(x == ("__classdict__":Str))=false:=by decide):PE X (.Name x pos) (lW i):=by
 intro pins s σ H Q I h
 obtain ⟨v,e,h⟩:=h
 obtain ⟨m,hn,hl⟩:=I.loc
 obtain ⟨u,r,l⟩:=hl i x v hN e hv
 have fin:EP X pins σ Q u s:=⟨v,H,I,r,h⟩
 rcases l with ⟨hk,hm⟩ | ⟨hk,c,hc,hcell⟩
 ·exact wpAny_Name (wpAny_loadName_local I.ok.kind hk hn hm fin) hd
 ·rcases hk with hk | hk
  ·exact wpAny_Name (wpAny_loadName_cell I.ok.kind hk hc hcell fin) hd
  ·exact wpAny_Name (wpAny_loadName_free I.ok.kind hk hc hcell fin hcd) hd
theorem yC {i j pos}:PE X (.Constant (.int i) j pos) (tC (.int i)):=fun _ _ _ H _ I h=>wpAny_Constant_int ⟨.int i,H,I.tok _,⟨_,rfl⟩,h⟩
theorem Aa {b j pos}:PE X (.Constant (.bool b) j pos) (tC (.bl b)):=fun _ _ _ H _ I h=>Constant_bool ⟨.bl b,H,I,rfl,h⟩
theorem yA {j pos}:PE X (.Constant .none j pos) (tC .non):=fun _ _ _ H _ I h=>Constant_none ⟨.non,H,I,rfl,h⟩
theorem yw {x j pos}:PE X (.Constant (.str x) j pos) (tC (.str x)):=fun _ _ _ H _ I h=>Calls.Constant_str ⟨.str x,H,I.tok _,⟨_,rfl⟩,h⟩
def Gl (X:Cx) (x:Str):Prop:=X.env.kindOf x=some .globalImplicit
theorem jV {E:Value->A9->Prop}{pins:'m'}{s:A9}{σ:St}{H:Hp}{x:Str}{u:Value}{pos:Pos}{Q:Value->A9->Prop}(I:Inv X pins σ H s) (hg:Gl X x) (hm:X.mg x=some u) (h:Q u s)
  (hd:'r'=false:=by decide):Bl (Bv X.prog X.w) X.A (eval (.Name x pos) X.env) Q E s :=
 E3 I.ok.kind hg (Calls.loadGlobal_global (by rw [I.ok.glob]; exact I.mod.glob.keeps I.bk) hm h) hd
theorem bp {E:Value->A9->Prop}{pins:'m'}{s:A9}{σ:St}{H:Hp}{x:Str}{u:Value}{pos:Pos}{Q:Value->A9->Prop}(I:Inv X pins σ H s) (hg:Gl X x) (hm:X.mg x=none) (hv:C8 x=some u) (h:Q u s)
  (hn:x≠"__name__":=by decide) (hd:'r'=false:=by decide):Bl (Bv X.prog X.w) X.A (eval (.Name x pos) X.env) Q E s:=by
 obtain ⟨mb,h1,h2⟩:=I.mod.blt
 exact E3 I.ok.kind hg (Calls.loadGlobal_builtin (by rw [I.ok.glob]; exact I.mod.glob.keeps I.bk) hm (by rw [I.ok.blt]; exact h1.keeps I.bk) ((h2 x hn).trans hv) h) hd
theorem vK {x:Str}{v:V}{u:Value}{pos:Pos}(hg:Gl X x) (hm:X.mg x=none) (hv:C8 x=some u) (r:RelV v u) (hn:x≠"__name__":=by decide) (hd:'r'=false:=by decide):PE X (.Name x pos) (tC v) :=
 fun _ _ _ H _ I h=>bp I hg hm hv ⟨v,H,I,r,h⟩ hn hd
variable {a b:Expr}{ta tb:TE}{pos:Pos}
def PC (X:Cx) (op:Gs) (a b:Expr) (t:TE):Prop :=
 ∀(pins:'m') (s:A9) (σ:St) (H:Hp) (Q:VK),Inv X pins σ H s->t σ H Q ->
  Bl (Bv X.prog X.w) X.A (eval a X.env) (fun v s₁=>Bl (Bv X.prog X.w) X.A (eval b X.env) (fun u s₂=>Bl (Bv X.prog X.w) X.A (CW op v u) (EP X pins σ Q) X.xe s₂) X.xe s₁) X.xe s
theorem kP (b:Expr) {op:Gs}(h:op≠.In) (h2:op≠.NotIn):DF op b=false:=by
 have e1:(op == Gs.In)=false:=by cases op <;> first | rfl | exact absurd rfl h
 have e2:(op == Gs.NotIn)=false:=by cases op <;> first | rfl | exact absurd rfl h2
 cases b <;> simp [DF,e1,e2]
def xU (ta:TE):TE:=fun σ H Q=>ta σ H fun x H1=>Q (.bl (decide (x=.non))) H1
def wZ (ta:TE):TE:=fun σ H Q=>ta σ H fun x H1=>Q (.bl (!decide (x=.non))) H1
theorem RelV.none_iff {x:V}{v:Value}(r:RelV x v):(v == CA)=decide (x=.non):=by
 cases x with
 | non=>cases r; rfl
 | bl _=>cases r; rfl
 | int _=>obtain ⟨t,rfl⟩:=r; rfl
 | str _=>obtain ⟨t,rfl⟩:=r; rfl
 | byt _=>obtain ⟨t,rfl⟩:=r; rfl
 | flt _=>obtain ⟨t,rfl⟩:=r; rfl
 | ref _=>cases r; rfl
 | ty _=>cases r; rfl
theorem tD {j pos'} (ha:PE X a ta):PC X .Is a (.Constant .none j pos') (xU ta):=by
 intro pins s σ H Q I h
 refine thn (ha pins s σ H _ I h) fun v s1 ⟨x,H1,I1,r1,q1⟩=>?_
 exact Constant_none (is_none_gen ⟨.bl _,H1,I1,by rw [r1.none_iff]; rfl,q1⟩)
theorem vL {j pos'} (ha:PE X a ta):PC X .IsNot a (.Constant .none j pos') (wZ ta):=by
 intro pins s σ H Q I h
 refine thn (ha pins s σ H _ I h) fun v s1 ⟨x,H1,I1,r1,q1⟩=>?_
 exact Constant_none (isnot_none_gen ⟨.bl _,H1,I1,by rw [r1.none_iff]; rfl,q1⟩)
def tB (t:TE):TT:=fun σ H Q=>t σ H fun x H1=>∃c,x=.bl c/\Q c H1
theorem yD {op:Gs}{t:TE}(h:PC X op a b t) (h1:DF op b=false:=by first | exact kP _ 'f' 'f' | rfl):PE X (.Compare a [op] [b] pos) t:=fun pins s σ H Q I hw=>wpAny_Compare1 (h pins s σ H Q I hw) h1
theorem sI {op:Gs}{t:TE}(h:PC X op a b t) (h1:DF op b=false:=by first | exact kP _ 'f' 'f' | rfl):PT X (.Compare a [op] [b] pos) (tB t):=by
 intro pins s σ H Q I hw
 refine wpAny_isTrue_Compare1 (thn (h pins s σ H _ I hw) fun v s1 h1=>thn h1 fun u s2 h2=>thn h2 fun c s3 ⟨x,H1,I1,r1,q1⟩=>?_) h1
 obtain ⟨d,rfl,q⟩:=q1
 cases r1
 exact CU ⟨H1,I1,q⟩
theorem yh {e:Expr}{t:TE}(h:PE X e t) (he:∀whole,isTrue e X.env whole=(do let v <- whole; standAt e.pos; Gd [v] (truthy v)):=by intro _; rfl):PT X e (tB t):=by
 intro pins s σ H Q I hw
 refine isTrue_plain (thn (h pins s σ H _ I hw) fun v s1 ⟨x,H1,I1,r1,q1⟩=>?_) (he _)
 obtain ⟨d,rfl,q⟩:=q1
 cases r1
 exact CU ⟨H1,I1,q⟩
variable {tA tB':TT}{rest:List Expr}
def zH (t u:TT):TT:=fun σ H Q=>t σ H fun c H1=>if c=true then u σ H1 Q else Q false H1
def tOr (t u:TT):TT:=fun σ H Q=>t σ H fun c H1=>if c=true then Q true H1 else u σ H1 Q
def zC (t:TT):TT:=fun σ H Q=>t σ H fun c H1=>Q (!c) H1
theorem vm (ha:PT X a tA):PW X (.BoolOp .And [a] pos) tA:=by
 intro wh pins s σ H Q I h
 refine isTrue_and (thn (ha pins s σ H Q I h) fun c s1 e=>?_)
 cases c with
 | true=>exact isTrue_and_nil e
 | false=>exact e
theorem yf (ha:PT X a tA):PW X (.BoolOp .Or [a] pos) tA:=by
 intro wh pins s σ H Q I h
 refine isTrue_or (thn (ha pins s σ H Q I h) fun c s1 e=>?_)
 cases c with
 | false=>exact isTrue_or_nil e
 | true=>exact e
theorem yg (ha:PT X a tA) (hb:PW X (.BoolOp .And (b :: rest) pos) tB'):PW X (.BoolOp .And (a :: b :: rest) pos) (zH tA tB'):=by
 intro wh pins s σ H Q I h
 refine isTrue_and (thn (ha pins s σ H _ I h) fun c s1 ⟨H1,I1,q1⟩=>?_)
 cases c with
 | true=>exact hb wh pins s1 σ H1 Q I1 q1
 | false=>exact ⟨H1,I1,q1⟩
theorem z6 (ha:PT X a tA) (hb:PW X (.BoolOp .Or (b :: rest) pos) tB'):PW X (.BoolOp .Or (a :: b :: rest) pos) (tOr tA tB'):=by
 intro wh pins s σ H Q I h
 refine isTrue_or (thn (ha pins s σ H _ I h) fun c s1 ⟨H1,I1,q1⟩=>?_)
 cases c with
 | true=>exact ⟨H1,I1,q1⟩
 | false=>exact hb wh pins s1 σ H1 Q I1 q1
theorem yi (ha:PT X a tA):PT X (.UnaryOp .Not a pos) (zC tA):=by
 intro pins s σ H Q I h
 exact isTrue_not (ha pins s σ H (fun c H1=>Q (!c) H1) I h)
def w9 (ta tb:TE):TE:=fun σ H Q=>ta σ H fun x H1=>∃c,x=.bl c/\if c=true then tb σ H1 Q else Q (.bl false) H1
def wY (ta:TE):TE:=fun σ H Q=>ta σ H fun x H1=>∃c,x=.bl c/\Q (.bl (!c)) H1
theorem yx {op} {t:TE}(h:PE X a t):PE X (.BoolOp op [a] pos) t:=fun pins s σ H Q I hw=>BoolOp_one (h pins s σ H Q I hw)
theorem yE (ha:PE X a ta) (hb:PE X (.BoolOp .And (b :: rest) pos) tb):PE X (.BoolOp .And (a :: b :: rest) pos) (w9 ta tb):=by
 intro pins s σ H Q I h
 refine BoolOp_and (thn (ha pins s σ H _ I h) fun v s1 ⟨x,H1,I1,r1,q1⟩=>?_)
 obtain ⟨c,rfl,q1⟩:=q1
 cases r1
 refine CU ?_
 cases c with
 | true=>exact hb pins s1 σ H1 Q I1 q1
 | false=>exact ⟨.bl false,H1,I1,rfl,q1⟩
theorem yz (ha:PE X a ta):PE X (.UnaryOp .Not a pos) (wY ta):=by
 intro pins s σ H Q I h
 refine UnaryOp_ (thn (ha pins s σ H _ I h) fun v s1 ⟨x,H1,I1,r1,q1⟩=>?_)
 obtain ⟨c,rfl,q1⟩:=q1
 cases r1
 exact not_of (CU ⟨.bl (!c),H1,I1,rfl,q1⟩)
def tIf (t:TT) (ta tb:TE):TE:=fun σ H Q=>t σ H fun c H1=>if c=true then ta σ H1 Q else tb σ H1 Q
theorem sW {c:Expr}(hc:PT X c tA) (ha:PE X a ta) (hb:PE X b tb):PE X (.IfExp c a b pos) (tIf tA ta tb):=by
 intro pins s σ H Q I h
 refine wpAny_IfExp (thn (hc pins s σ H _ I h) fun d s1 ⟨H1,I1,q1⟩=>?_)
 cases d with
 | true=>exact ha pins s1 σ H1 Q I1 q1
 | false=>exact hb pins s1 σ H1 Q I1 q1
end
def SqL (K:Ba) (H:Hp) (a:Addr) (xs:List V):Prop :=
 Rd H a (.lst xs) \/
  ∃(o:Obj) (its:Array Value) (n:Nat),K.lookup a=some o/\o.cls=.type "list"/\o.dict=none/\o.data=.seq its n/\its.size<=sizeLine/\Vals xs its.toList
def SqT (K:Ba) (H:Hp) (a:Addr) (xs:List V):Prop :=
 Rd H a (.tup xs) \/
  ∃(o:Obj) (its:Array Value) (n:Nat),K.lookup a=some o/\o.cls=.type "tuple"/\o.data=.seq its n/\its.size<=sizeLine/\Vals xs its.toList
def AW:Value->Option V
 | .none=>some .non
 | .bool b=>some (.bl b)
 | .int i _=>some (.int i)
 | .str x _=>some (.str x)
 | .bytes b _=>some (.byt b)
 | .float b _=>some (.flt b)
 | .ref a=>some (.ref a)
 | .type n=>some (.ty n)
 | _=>none
theorem RelV.abs {x:V}{u:Value}(r:RelV x u):AW u=some x:=by
 cases x with
 | non=>cases r; rfl
 | bl _=>cases r; rfl
 | int _=>obtain ⟨t,rfl⟩:=r; rfl
 | str _=>obtain ⟨t,rfl⟩:=r; rfl
 | byt _=>obtain ⟨t,rfl⟩:=r; rfl
 | flt _=>obtain ⟨t,rfl⟩:=r; rfl
 | ref _=>cases r; rfl
 | ty _=>cases r; rfl
theorem RelV.inj {x y:V}{u:Value}(r:RelV x u) (q:RelV y u):x=y:=BP (r.abs.symm.trans q.abs)
theorem Vals.inj:∀{xs ys:List V}{us:List Value},Vals xs us->Vals ys us->xs=ys
 | _,_,_,.nil,.nil=>rfl
 | _,_,_,.cons r t,.cons r' t'=>by rw [r.inj r',Vals.inj t t']
section
variable {X:Cx}{pins:'m'}{σ:St}{H:Hp}{s:A9}{a:Addr}{xs ys:List V}
theorem SqL.of {K:Ba}(h:H a=some (.lst xs)):SqL K H a xs:=.inl (.inl h)
theorem SqT.of {K:Ba}(h:H a=some (.tup xs)):SqT K H a xs:=.inl (.inl h)
theorem Inv.list (I:Inv X pins σ H s) (h:SqL X.K H a xs):∃its:List Value,Vals xs its/\PlainL s.heap a its.toArray/\xs.length<=sizeLine:=by
 rcases h with h | ⟨o,its,n,hk,hc,hd,hs,hz,r⟩
 ·obtain ⟨z,its,n,r,e⟩:=h.ok I.hok
  exact ⟨its,r,⟨_,n,e,rfl,rfl,rfl⟩,z⟩
 ·refine ⟨its.toList,r,⟨o,n,I.kIn a o hk,hc,hd,by simpa using hs⟩,?_⟩
  have e:=r.length
  simp only [B8] at e
  omega
theorem Inv.tuple (I:Inv X pins σ H s) (h:SqT X.K H a xs):∃its:List Value,Vals xs its/\IsTup s.heap a its.toArray/\xs.length<=sizeLine:=by
 rcases h with h | ⟨o,its,n,hk,hc,hs,hz,r⟩
 ·obtain ⟨z,its,r,p⟩:=h.ok I.hok
  exact ⟨its,r,p,z⟩
 ·refine ⟨its.toList,r,⟨o,I.kIn a o hk,hc,n,by simpa using hs⟩,?_⟩
  have e:=r.length
  simp only [B8] at e
  omega
theorem Inv.list_inj (I:Inv X pins σ H s) (h:SqL X.K H a xs) (h':SqL X.K H a ys):xs=ys:=by
 obtain ⟨its,r,⟨o,n,e,_,_,d⟩,_⟩:=I.list h
 obtain ⟨its',r',⟨o',n',e',_,_,d'⟩,_⟩:=I.list h'
 rw [e] at e'; cases e'
 rw [d] at d'
 injection d' with d1 _
 have:its=its':=by simpa using congrArg Array.toList d1
 subst this
 exact r.inj r'
theorem Inv.tuple_inj (I:Inv X pins σ H s) (h:SqT X.K H a xs) (h':SqT X.K H a ys):xs=ys:=by
 obtain ⟨its,r,⟨o,e,_,n,d⟩,_⟩:=I.tuple h
 obtain ⟨its',r',⟨o',e',_,n',d'⟩,_⟩:=I.tuple h'
 rw [e] at e'; cases e'
 rw [d] at d'
 injection d' with d1 _
 have:its=its':=by simpa using congrArg Array.toList d1
 subst this
 exact r.inj r'
end
abbrev Cx.wish (X:Cx) (E:Value->A9->Prop):Cx:={ X with xe:=E }
abbrev Cx.nox (X:Cx):Cx:=X.wish fun _ _=>False
theorem Cx.Ok.wish {X:Cx}(ok:X.Ok) (E:Value->A9->Prop):(X.wish E).Ok :=
 ⟨ok.mod,ok.kind,ok.glob,ok.blt,ok.above,ok.inj,ok.has,ok.cab,ok.hd,ok.frames,ok.stk,ok.exf,ok.bs,ok.bsz,ok.noex,ok.exfs,ok.funs,ok.frf⟩
theorem Cx.Ok.unwish {X:Cx}{E:Value->A9->Prop}(ok:(X.wish E).Ok):X.Ok :=
 ⟨ok.mod,ok.kind,ok.glob,ok.blt,ok.above,ok.inj,ok.has,ok.cab,ok.hd,ok.frames,ok.stk,ok.exf,ok.bs,ok.bsz,ok.noex,ok.exfs,ok.funs,ok.frf⟩
section
variable {X:Cx}{pins:'m'}{σ:St}{H:Hp}{s:A9}{E:Value->A9->Prop}
theorem Inv.wish (I:Inv X pins σ H s) (E:Value->A9->Prop):Inv (X.wish E) pins σ H s:=⟨I.ok.wish E,I.os,I.bare,I.base,I.loc,I.cell,I.free,I.freeC,I.pin,I.hok,I.len⟩
theorem Inv.unwish (I:Inv (X.wish E) pins σ H s):Inv X pins σ H s:=⟨I.ok.unwish,I.os,I.bare,I.base,I.loc,I.cell,I.free,I.freeC,I.pin,I.hok,I.len⟩
theorem SP.unwish {D:Ends}{f:Flow}{s':A9}(h:SP (X.wish E) pins D f s'):SP X pins D f s':=by
 cases f with
 | next=>obtain ⟨σ',H',I,q⟩:=h; exact ⟨σ',H',I.unwish,q⟩
 | brk=>obtain ⟨σ',H',I,q⟩:=h; exact ⟨σ',H',I.unwish,q⟩
 | cont=>obtain ⟨σ',H',I,q⟩:=h; exact ⟨σ',H',I.unwish,q⟩
 | ret u=>obtain ⟨v,σ',H',I,r,q⟩:=h; exact ⟨v,σ',H',I.unwish,r,q⟩
theorem PSs.nox {st:List Stmt}{t:TS}(h:PSs X.nox st t):PSs X st t:=fun pins s σ H D I hw =>
 BJ (h pins s σ H D (I.wish _) hw) (fun _ _ q=>q.unwish) fun _ _ z=>BM z
end
section
variable {X:Cx}{st:Stmt}{rest:List Stmt}{t u:TS}{e:Expr}{te:TE}{pos:Pos}
def w4:TS:=fun D σ H=>D.nx σ H
def aI (t u:TS):TS:=fun D σ H=>t { D with nx:=u D } σ H
theorem vq:PSs X [] w4:=fun _ _ σ H _ I h=>Fw ⟨σ,H,I,h⟩
theorem sK (h1:PS X st t) (h2:PSs X rest u):PSs X (st :: rest) (aI t u):=by
 intro pins s σ H D I h
 refine wpAny_execs_cons (thn (h1 pins s σ H { D with nx:=u D } I h) fun f s1 q=>?_)
 cases f with
 | next =>
  obtain ⟨σ',H',I',q⟩:=q
  exact h2 pins s1 σ' H' D I' q
 | ret v=>exact q
 | brk=>exact q
 | cont=>exact q
theorem vp (h1:PS X st t):PSs X [st] t:=by
 intro pins s σ H D I h
 refine wpAny_execs_cons (thn (h1 pins s σ H D I h) fun f s1 q=>?_)
 cases f with
 | next=>exact Fw q
 | ret v=>exact q
 | brk=>exact q
 | cont=>exact q
theorem Inv.quiet {pins:'m'}{σ:St}{H:Hp}{s:A9}(I:Inv X pins σ H s):interactive X.env=false:=by simp [interactive,I.ok.kind]
def w5 (te:TE):TS:=fun D σ H=>te σ H fun _ H1=>D.nx σ H1
theorem vx (he:PE X e te) (hs:Dt e none pos.line X.env=pure false:=by rfl):PS X (.Expr e pos) (w5 te):=by
 intro pins s σ H D I h
 exact wpAny_Expr_any (thn (he pins s σ H _ I h) fun v s1 ⟨x,H1,I1,r1,q1⟩=>⟨σ,H1,I1,q1⟩) I.quiet hs
def zB (te:TE):TS:=fun D σ H=>te σ H D.rt
theorem yj (he:PE X e te):PS X (.Return (some e) pos) (zB te):=by
 intro pins s σ H D I h
 exact wpAny_Return_some (thn (he pins s σ H _ I h) fun v s1 ⟨x,H1,I1,r1,q1⟩=>⟨x,σ,H1,I1,r1,q1⟩)
def zE (c:TT) (t u:TS):TS:=fun D σ H=>c σ H fun b H1=>if b=true then t D σ H1 else u D σ H1
theorem z7 {c:Expr}{a b:List Stmt}{tc:TT}(hc:PT X c tc) (ha:PSs X a t) (hb:PSs X b u):PS X (.If c a b pos) (zE tc t u):=by
 intro pins s σ H D I h
 refine wpAny_If (thn (hc pins s σ H _ I h) fun d s1 ⟨H1,I1,q1⟩=>?_)
 cases d with
 | true=>exact ha pins s1 σ H1 D I1 q1
 | false=>exact hb pins s1 σ H1 D I1 q1
end
abbrev TG:=V->St->Hp->(St->Hp->Prop)->Prop
abbrev TGs:=List V->St->Hp->(St->Hp->Prop)->Prop
def PG (X:Cx) (target:Expr) (t:TG):Prop :=
 ∀(pins:'m') (s:A9) (σ:St) (H:Hp) (v:V) (u:Value) (Q:St->Hp->Prop),Inv X pins σ H s->RelV v u->t v σ H Q ->
  Bl (Bv X.prog X.w) X.A (F1 target X.env u) (fun _ s'=>∃ σ' H',Inv X pins σ' H' s'/\Q σ' H') X.xe s
def PGs (X:Cx) (ts:List Expr) (t:TGs):Prop :=
 ∀(pins:'m') (s:A9) (σ:St) (H:Hp) (vs:List V) (us:List Value) (Q:St->Hp->Prop),Inv X pins σ H s->Vals vs us->t vs σ H Q ->
  Bl (Bv X.prog X.w) X.A (assignInOrder ((CM ts X.env).map (·.2)) us) (fun _ s'=>∃ σ' H',Inv X pins σ' H' s'/\Q σ' H') X.xe s
abbrev zq:=V->V->V->Hp->(Hp->Prop)->Prop
def AF (X:Cx) (t:zq):Prop :=
 ∀(pins:'m') (s:A9) (σ:St) (H:Hp) (o i v:V) (ov iv u:Value) (Q:Hp->Prop),Inv X pins σ H s->RelV o ov->RelV i iv->RelV v u->t o i v H Q ->
  Bl (Bv X.prog X.w) X.A (setItem ov iv u) (fun _ s'=>∃H',Inv X pins σ H' s'/\Q H') X.xe s
section
variable {X:Cx}{pos:Pos}
def cu (i:Nat):TG:=fun v σ H Q=>Q (σ.set i (some v)) H
theorem eA {i:Nat}{x:Str}(hN:X.N.Nodup) (hi:X.N[i]?=some x) (hx:Loc X.env.scope x) (hf:X.fn x=true\/X.env.scope.names.lookup x=some .local:=by first | exact .inl rfl | exact .inr rfl | assumption):PG X (.Name x pos) (cu i):=by
 intro pins s σ H v u Q I r h
 exact wpAny_assign_Name (fw I hN hi hx r (fun s' I'=>⟨_,H,I',h⟩) hf)
def Aw:TGs:=fun vs σ H Q=>vs=[]/\Q σ H
def xC (t:TG) (u:TGs):TGs:=fun vs σ H Q=>∃v r,vs=v :: r/\t v σ H fun σ' H'=>u r σ' H' Q
theorem vE:PGs X [] Aw:=by
 intro pins s σ H vs us Q I r h
 obtain ⟨e,h⟩:=h
 subst e
 cases r
 exact assignInOrder_nil ⟨σ,H,I,h⟩
theorem sP {e:Expr}{es:List Expr}{t:TG}{u:TGs}(h1:PG X e t) (h2:PGs X es u)
  (hs:(CM (e :: es) X.env).map (·.2)=F1 e X.env :: (CM es X.env).map (·.2):=by rfl):PGs X (e :: es) (xC t u):=by
 intro pins s σ H vs us Q I r h
 obtain ⟨v,vr,e1,h⟩:=h
 subst e1
 cases r with
 | cons r rr =>
  rw [hs]
  refine assignInOrder_cons (thn (h1 pins s σ H _ _ _ I r h) fun _ s1 ⟨σ1,H1,I1,q1⟩=>?_)
  exact h2 pins s1 σ1 H1 _ _ Q I1 rr q1
def zc (K:Ba) (n:Nat) (t:TGs):TG:=fun v σ H Q=>∃a xs,v=.ref a/\SqT K H a xs/\xs.length=n/\t xs σ H Q
theorem yr {es:List Expr}{k:Nat}{t:TGs}{n:Nat}(hc:X.calm=true) (h:PGs X es t)
  (hn:(CM es X.env).length=n:=by rfl) (hst:(CM es X.env).findIdx? (·.1)=none:=by rfl):PG X (.Tuple es k pos) (zc X.K n t):=by
 intro pins s σ H v u Q I r hw
 obtain ⟨a,xs,e1,hq,hl,hw⟩:=hw
 subst e1
 cases r
 obtain ⟨its,rv,ht,hz⟩:=I.tuple hq
 refine assign_Tuple_tuple (I.ok.hd hc) ht (by simp [hn,<- hl,rv.length]) hst fun h' hx=>?_
 have I1:Inv X pins σ H { s with heap:=h' }:=I.kept (t':=s.toks) fun b o e=>hx b o (Bw (Bi e)) e
 exact h pins _ σ H xs _ Q I1 (by simpa using rv) hw
def Av (to ti:TE) (t:zq):TG:=fun v σ H Q=>to σ H fun o H1=>ti σ H1 fun i H2=>t o i v H2 fun H3=>Q σ H3
theorem yt {o i:Expr}{to ti:TE}{t:zq}(ho:PE X o to) (hi:PE X i ti) (hs:AF X t)
  (ha:∀v,F1 (.Subscript o i pos) X.env v=(do
   let ov <- Gd [v] (eval o X.env)
   let iv <- Gd [v,ov] (eval i X.env)
   standAt pos
   Gd [v,ov,iv] (setItem ov iv v)
   release [v,ov,iv] []):=by intro _; rfl):PG X (.Subscript o i pos) (Av to ti t):=by
 intro pins s σ H v u Q I r h
 rw [ha]
 refine A3 (B0 (thn (ho pins s σ H _ I h) fun ov s1 ⟨x,H1,I1,r1,q1⟩=>?_))
 refine A3 (B0 (thn (hi pins s1 σ H1 _ I1 q1) fun iv s2 ⟨y,H2,I2,r2,q2⟩=>?_))
 refine A3 (Dk (A3 (B0 (thn (hs pins s2 σ H2 x y v ov iv u _ I2 r1 r2 r q2) fun _ s3 ⟨H3,I3,q3⟩=>?_))))
 exact wpAny_release ⟨σ,H3,I3,q3⟩
def gP (te:TE) (g:TG):TS:=fun D σ H=>te σ H fun x H1=>g x σ H1 D.nx
theorem yn {tg e:Expr}{te:TE}{g:TG}(he:PE X e te) (hg:PG X tg g) (hs:swapsWithSole [tg] e pos.line X.env=pure false:=by rfl) (hw:swappedStores [tg] e X.env=pure none:=by rfl)
  (h1:(CM [tg] X.env).map (·.2)=[F1 tg X.env]:=by rfl):PS X (.Assign [tg] e pos) (gP te g):=by
 intro pins s σ H D I h
 refine wpAny_Assign_stores (thn (he pins s σ H _ I h) fun v s1 ⟨x,H1,I1,r1,q1⟩=>?_) hs hw
 rw [h1]
 exact thn (hg pins s1 σ H1 x v _ I1 r1 q1) fun _ s2 q=>q
theorem sN {i:Nat}{x:Str}{e:Expr}{te:TE}{pos':Pos}(hN:X.N.Nodup) (hi:X.N[i]?=some x) (hx:Loc X.env.scope x) (he:PE X e te) (hs:Dt e (some (.Name x pos')) pos.line X.env=pure false:=by rfl) (hf:X.fn x=true\/X.env.scope.names.lookup x=some .local:=by first | exact .inl rfl | exact .inr rfl | assumption) :
  PS X (.Assign [.Name x pos'] e pos) (gP te (cu i)):=by
 intro pins s σ H D I h
 refine wpAny_Assign_Name (thn (he pins s σ H _ I h) fun v s1 ⟨y,H1,I1,r1,q1⟩=>?_) hs
 exact fw I1 hN hi hx r1 (fun s2 I2=>⟨_,H1,I2,q1⟩) hf
end
section
variable {X:Cx}{pos:Pos}
end
structure It where
 go:Nat->Hp->Prop
 yld:Nat->Hp->V->Hp->Prop
 stop:Nat->Hp->Prop
def bU (X:Cx) (pins:'m') (H:Hp) (b:Addr):Prop :=
 H b=none/\b≠X.env.locals/\b ∉ X.fs/\(b∈X.ex\/X.s₀.heap.objs.size<=b)/\(∀x c,X.env.cells.lookup x=some c->c≠b)/\∀p∈X.pn++pins,p.1≠b
theorem Inv.fpOk {X:Cx}{pins:'m'}{σ:St}{H H':Hp}{s:A9}{b:Addr}(I:Inv X pins σ H s) (hb:'n'<=b) (hn:H' b=none):bU X pins H' b:=by
 refine ⟨hn,Gu (BO I.lt hb),I.nofs hb,.inr (BR I.sz hb),fun x c e z=>?_,fun p hp z=>?_⟩
 ·obtain ⟨v,q⟩:=I.cell x c e
  exact absurd (BO q.lt (by rw [z]; exact hb)) (CB _)
 ·exact absurd (BO (Bi (I.pin p hp).1) (by rw [z]; exact hb)) (CB _)
structure m5 (P:Program) (w:BG) (K:Ba) (tg:Expr) (J:It) (fp:List Addr) (it:Addr) (tn:Nat->Heap->Prop):Prop where
 mem:it∈fp
 obj:∀i h,tn i h->∀b∈fp,∃o,h.get? b=some o/\∀v,o.data≠.cell v
 keep:∀i h h',tn i h->(∀b∈fp,∀o,h.get? b=some o->h'.get? b=some o)->tn i h'
 item:∀(X:Cx),X.prog=P->X.w=w->X.K=K->X.calm=true->∀(i:Nat) (pins:'m') (s:A9) (σ:St) (H:Hp) (E:Value->A9->Prop),Inv X pins σ H s->(∀b∈fp,bU X pins H b)->tn i s.heap->J.go i H ->
  Bl (Bv P w) X.A (FN (.ref it)) (fun r s1=>∃u,r=some u /\
   Bl (Bv P w) X.A (EV tg (.ref it) u) (fun _ s2=>∃x H',Inv X pins σ H' s2/\RelV x u/\J.yld i H x H'/\tn (i+1) s2.heap/\∀b∈fp,H' b=none) E s1) E s
 done:∀(X:Cx),X.prog=P->X.w=w->X.K=K->X.calm=true->∀(i:Nat) (pins:'m') (s:A9) (σ:St) (H:Hp) (E:Value->A9->Prop),Inv X pins σ H s->(∀b∈fp,bU X pins H b)->tn i s.heap->J.stop i H ->
  Bl (Bv P w) X.A (FN (.ref it)) (fun r s1=>r=none/\Inv X pins σ H s1) E s
 self:∀(A:BC) (i:Nat) (s:A9) (Q:Value->A9->Prop) (E:Value->A9->Prop),tn i s.heap->Q (.ref it) s->Bl (Bv P w) A (pyIter (.ref it)) Q E s
abbrev TI:=St->Hp->(It->Hp->Prop)->Prop
def PIE (X:Cx) (pins:'m') (σ:St) (tg:Expr) (R:It->Hp->Prop) (itv:Value) (s2:A9):Prop :=
 ∃(it:Addr) (fp:List Addr) (tn:Nat->Heap->Prop) (J:It) (H':Hp),itv=.ref it/\Inv X pins σ H' s2/\m5 X.prog X.w X.K tg J fp it tn/\tn 0 s2.heap/\(∀b∈fp,bU X pins H' b)/\R J H'
def PI (X:Cx) (tg iter:Expr) (wi:TI):Prop :=
 ∀(pins:'m') (s:A9) (σ:St) (H:Hp) (R:It->Hp->Prop),Inv X pins σ H s->wi σ H R ->
  Bl (Bv X.prog X.w) X.A (eval iter X.env) (fun v s1=>Bl (Bv X.prog X.w) X.A (pyIter v) (PIE X pins σ tg R) X.xe s1) X.xe s
theorem oK {M:Model}{A:BC}{E:Value->A9->Prop}{s:A9}{tg:Expr}{it:Addr}{u:Value}{o:Obj}{n:String}{vs:Array Value}{Q:Unit->A9->Prop}(ho:s.heap.get? it=some o) (hc:o.cls=.type n) (hd:o.data=.fields vs)
    (hn:["enumerate", "zip", "dict_itemiterator", "dict_reverseitemiterator", "odict_iterator", "itertools.zip_longest", "itertools.pairwise"].contains n=false) (hQ:Q () s):Bl M A (EV tg (.ref it) u) Q E s:=by
  unfold EV
  cases tg <;> first
    | exact Bc hQ
    | (cases u <;> first
        | exact Bc hQ
        | (refine A3 (wpAny_load ho ?_)
           rw [hc,hd]
           show Bl M A (if (["enumerate", "zip", "dict_itemiterator", "dict_reverseitemiterator", "odict_iterator", "itertools.zip_longest", "itertools.pairwise"].contains n&&vs[0]? == some (Dz _))=true then _ else _) Q E s
           rw [if_neg (by intro h; rw [hn,E4] at h; cases h)]
           exact Bc hQ))
def Itl (K:Ba) (a:Addr):It :=
 ⟨fun i H=>∃xs x,SqL K H a xs/\xs[i]?=some x,fun i H x H'=>H'=H/\∀xs,SqL K H a xs->xs[i]?=some x,fun i H=>∃xs,SqL K H a xs/\xs.length<=i⟩
def Itt (K:Ba) (a:Addr):It :=
 ⟨fun i H=>∃xs x,SqT K H a xs/\xs[i]?=some x,fun i H x H'=>H'=H/\∀xs,SqT K H a xs->xs[i]?=some x,fun i H=>∃xs,SqT K H a xs/\xs.length<=i⟩
def Itr (lo:Int) (n:Nat):It:=⟨fun i _=>i<n,fun i H x H'=>H'=H/\x=.int (lo+i),fun i _=>n<=i⟩
theorem pK {P:Program}{w:BG}{K:Ba}{tg:Expr}(a it:Addr):m5 P w K tg (Itl K a) [it] it (fun i h=>h.IsListIter it a i) where
 mem:=by simp
 obj:=fun i h st b hb=>by
  have e:b=it:=by simpa using hb
  subst e
  obtain ⟨o,e,c,d⟩:=st
  exact ⟨o,e,fun v z=>by rw [d] at z; cases z⟩
 keep:=fun i h h' st k=>st.at fun o e=>k it 'e' o e
 item:=by
  intro X hP hw hK hc i pins s σ H E I hf st hg
  subst hP hw hK
  obtain ⟨xs,x,hq,hx⟩:=hg
  obtain ⟨its,rv,p,hz⟩:=I.list hq
  obtain ⟨u,hu,ru⟩:=rv.get hx
  obtain ⟨f0,f1,f2,f3,f4,f5⟩:=hf it 'e'
  refine wpAny_pyNext_list_item st p.isList (x:=u) (by simpa using hu) fun h' st' sb=>?_
  have I1:Inv X pins σ H { s with heap:=h' }:=I.turned (t':=s.toks) (fun b o hb e=>(sb.2 b hb).trans e) f0 f1 f3 f4 f5
  obtain ⟨o,e,c,d⟩:=id st'
  exact ⟨u,rfl,oK (s:={ s with heap:=h' }) e c d 'f' ⟨x,H,I1,ru,⟨rfl,fun ys hy=>by rw [I.list_inj hy hq]; exact hx⟩,st',fun b hb=>(hf b hb).1⟩⟩
 done:=by
  intro X hP hw hK hc i pins s σ H E I hf st hg
  subst hP hw hK
  obtain ⟨xs,hq,hx⟩:=hg
  obtain ⟨its,rv,p,hz⟩:=I.list hq
  obtain ⟨f0,f1,f2,f3,f4,f5⟩:=hf it 'e'
  have hl:=rv.length
  exact wpAny_pyNext_list_end (I.ok.hd hc) st p.isList (by simp; omega) fun h' eb=>⟨rfl,I.turned (t':=s.toks) (fun b o hb e=>eb b o hb e) f0 f1 f3 f4 f5⟩
 self:=fun _ _ _ _ _ st h=>wpAny_pyIter_listiter st h
theorem lR {P:Program}{w:BG}{K:Ba}{tg:Expr}(a it:Addr):m5 P w K tg (Itt K a) [it] it (fun i h=>h.IsTupleIter it a i) where
 mem:=by simp
 obj:=fun i h st b hb=>by
  have e:b=it:=by simpa using hb
  subst e
  obtain ⟨o,e,c,d⟩:=st
  exact ⟨o,e,fun v z=>by rw [d] at z; cases z⟩
 keep:=fun i h h' st k=>st.at fun o e=>k it 'e' o e
 item:=by
  intro X hP hw hK hc i pins s σ H E I hf st hg
  subst hP hw hK
  obtain ⟨xs,x,hq,hx⟩:=hg
  obtain ⟨its,rv,p,hz⟩:=I.tuple hq
  obtain ⟨u,hu,ru⟩:=rv.get hx
  obtain ⟨f0,f1,f2,f3,f4,f5⟩:=hf it 'e'
  refine wpAny_pyNext_tuple_item st (show s.heap.IsTuple a its.toArray from p) (x:=u) (by simpa using hu) fun h' st' sb=>?_
  have I1:Inv X pins σ H { s with heap:=h' }:=I.turned (t':=s.toks) (fun b o hb e=>(sb.2 b hb).trans e) f0 f1 f3 f4 f5
  obtain ⟨o,e,c,d⟩:=id st'
  exact ⟨u,rfl,oK (s:={ s with heap:=h' }) e c d 'f' ⟨x,H,I1,ru,⟨rfl,fun ys hy=>by rw [I.tuple_inj hy hq]; exact hx⟩,st',fun b hb=>(hf b hb).1⟩⟩
 done:=by
  intro X hP hw hK hc i pins s σ H E I hf st hg
  subst hP hw hK
  obtain ⟨xs,hq,hx⟩:=hg
  obtain ⟨its,rv,p,hz⟩:=I.tuple hq
  obtain ⟨f0,f1,f2,f3,f4,f5⟩:=hf it 'e'
  have hl:=rv.length
  exact wpAny_pyNext_tuple_end (I.ok.hd hc) st (show s.heap.IsTuple a its.toArray from p) (by simp; omega) fun h' eb=>⟨rfl,I.turned (t':=s.toks) (fun b o hb e=>eb b o hb e) f0 f1 f3 f4 f5⟩
 self:=fun _ _ _ _ _ st h=>wpAny_pyIter_tupleiter st h
theorem lT {P:Program}{w:BG}{K:Ba}{tg:Expr}(it:Addr) (lo:Int) (n:Nat):m5 P w K tg (Itr lo n) [it] it (fun i h=>IsRangeIter h it (lo+(i:Nat)*1) ((n:Int)-(i:Nat)) 1) where
 mem:=by simp
 obj:=fun i h st b hb=>by
  have e:b=it:=by simpa using hb
  subst e
  exact ⟨_,st,fun v z=>by
   have z':Data.fields _=Data.cell v:=z
   cases z'⟩
 keep:=fun i h h' st k=>k it 'e' _ st
 item:=by
  intro X hP hw hK hc i pins s σ H E I hf st hg
  subst hP hw hK
  obtain ⟨f0,f1,f2,f3,f4,f5⟩:=hf it 'e'
  have W:=Walks.range (prog:=X.prog) (w:=X.w) (I.ok.hd hc) it lo 1 n
  refine W.item i s _ _ hg st fun v h' tk hv st' kk=>?_
  obtain ⟨t,rfl⟩:=hv
  have I1:Inv X pins σ H { s with heap:=h',toks:=tk }:=I.turned (fun b o hb e=>kk b o (by simpa using hb) e) f0 f1 f3 f4 f5
  refine ⟨_,rfl,oK (s:={ s with heap:=h',toks:=tk }) (n:="range_iterator") st' rfl rfl 'f' ⟨.int (lo+i),H,I1,⟨t,?_⟩,⟨rfl,rfl⟩,st',fun b hb=>(hf b hb).1⟩⟩
  rw [Int.mul_one]
 done:=by
  intro X hP hw hK hc i pins s σ H E I hf st hg
  subst hP hw hK
  obtain ⟨f0,f1,f2,f3,f4,f5⟩:=hf it 'e'
  exact wpAny_pyNext_range_end (I.ok.hd hc) st (by have:n<=i:=hg; omega) fun h' eb=>⟨rfl,I.turned (t':=s.toks) (fun b o hb e=>eb b o hb e) f0 f1 f3 f4 f5⟩
 self:=fun _ _ _ _ _ st h=>wpAny_pyIter_rangeiter st h
section
variable {X:Cx}{tg:Expr}
def xz (K:Ba) (tl:TE):TI:=fun σ H R=>tl σ H fun x H1=>∃a,x=.ref a/\(∃xs,SqL K H1 a xs)/\R (Itl K a) H1
def At (K:Ba) (tl:TE):TI:=fun σ H R=>tl σ H fun x H1=>∃a,x=.ref a/\(∃xs,SqT K H1 a xs)/\R (Itt K a) H1
theorem vC {l:Expr}{tl:TE}(hl:PE X l tl):PI X tg l (xz X.K tl):=by
 intro pins s σ H R I h
 refine thn (hl pins s σ H _ I h) fun v s1 ⟨x,H1,I1,r1,q1⟩=>?_
 obtain ⟨a,e,⟨xs,hq⟩,q⟩:=q1
 subst e
 cases r1
 obtain ⟨its,rv,p,hz⟩:=I1.list hq
 refine EZ p.isList ?_
 refine ⟨s1.heap.objs.size,[s1.heap.objs.size],_,_,H1,rfl,I1.kept (t':=s1.toks) fun b o e=>A6 _ e,pK a _,⟨_,Bj _ rfl,rfl,rfl⟩,fun b hb=>?_,q⟩
 have e:b=s1.heap.objs.size:=by simpa using hb
 subst e
 exact I1.fpOk (Bb _) (I1.hok.fresh (Bb _))
theorem yq {l:Expr}{tl:TE}(hl:PE X l tl):PI X tg l (At X.K tl):=by
 intro pins s σ H R I h
 refine thn (hl pins s σ H _ I h) fun v s1 ⟨x,H1,I1,r1,q1⟩=>?_
 obtain ⟨a,e,⟨xs,hq⟩,q⟩:=q1
 subst e
 cases r1
 obtain ⟨its,rv,p,hz⟩:=I1.tuple hq
 refine wpAny_pyIter_tuple (show s1.heap.IsTuple a its.toArray from p) ?_
 refine ⟨s1.heap.objs.size,[s1.heap.objs.size],_,_,H1,rfl,I1.kept (t':=s1.toks) fun b o e=>A6 _ e,lR a _,⟨_,Bj _ rfl,rfl,rfl⟩,fun b hb=>?_,q⟩
 have e:b=s1.heap.objs.size:=by simpa using hb
 subst e
 exact I1.fpOk (Bb _) (I1.hok.fresh (Bb _))
theorem kI {pins:'m'}{σ:St}{H:Hp}{s:A9}{R:It->Hp->Prop}{E:Value->A9->Prop}{lo hi:Int}{t u v:Tok}{tk:Nat}(I:Inv X pins σ H s) (h1:-(2 ^ 62)<=lo) (h2:lo<2 ^ 62) (h3:-(2 ^ 62)<=hi) (h4:hi<2 ^ 62)
  (q:R (Itr lo (hi-lo).toNat) H):Bl (Bv X.prog X.w) X.A (pyIter (.ref 'n')) (PIE X pins σ tg R) E { s with heap:=s.heap.push { cls:=.type "range",data:=.fields #[.int lo t,.int hi u,.int 1 v] },toks:=tk }:=by
 refine wpAny_pyIter_range (GF ..) (small_one h1 h2 h3 h4) ?_
 have I1:Inv X pins σ H { s with heap:=s.heap.push { cls:=.type "range",data:=.fields #[.int lo t,.int hi u,.int 1 v] },toks:=tk }:=I.kept fun b o e=>A6 _ e
 refine ⟨(s.heap.push { cls:=.type "range",data:=.fields #[.int lo t,.int hi u,.int 1 v] }).objs.size,[(s.heap.push { cls:=.type "range",data:=.fields #[.int lo t,.int hi u,.int 1 v] }).objs.size],_,_,H,rfl,
  I1.kept (t':=tk) fun b o e=>A6 _ e,lT _ lo (hi-lo).toNat,?_,fun b hb=>?_,q⟩
 ·have e1:lo+((0:Nat):Int)*1=lo:=by simp
  have e2:(((hi-lo).toNat:Nat):Int)-((0:Nat):Int)=CY lo hi 1:=by rw [rangeSize_one]; split <;> omega
  show IsRangeIter _ _ (lo+((0:Nat):Int)*1) ((((hi-lo).toNat:Nat):Int)-((0:Nat):Int)) 1
  rw [e1,e2]
  exact Bj _ rfl
 ·have e:b=(s.heap.push { cls:=.type "range",data:=.fields #[.int lo t,.int hi u,.int 1 v] }).objs.size:=by simpa using hb
  subst e
  exact I1.fpOk (Bb _) (I1.hok.fresh (Bb _))
def xy (ta:TA):TI:=fun σ H R=>ta σ H fun vs H1=>∃j:Int,vs=[.int j]/\-(2 ^ 62)<=j/\j<2 ^ 62/\R (Itr 0 j.toNat) H1
def xx (ta:TA):TI:=fun σ H R=>ta σ H fun vs H1=>∃i j:Int,vs=[.int i,.int j]/\(-(2 ^ 62)<=i/\i<2 ^ 62/\-(2 ^ 62)<=j/\j<2 ^ 62)/\R (Itr i (j-i).toNat) H1
theorem qd {a:Expr}{ta:TA}{p pos:Pos}(hg:Gl X "range") (hm:X.mg "range"=none) (ha:PA X [a] ta) (hs:B2 [a] X.env=[(false,eval a X.env)]:=by rfl):PI X tg (.Call (.Name "range" p) [a] [] pos) (xy ta):=by
 intro pins s σ H R I h
 refine GG (bp I hg hm F3 (BU (thn (ha pos pins s σ H _ I h) fun us s1 ⟨vs,H1,I1,r1,q1⟩=>?_) hs rfl))
 obtain ⟨j,e,q1,q2,q⟩:=q1
 subst e
 cases r1 with
 | cons r rr =>
  cases rr
  obtain ⟨t,rfl⟩:=r
  exact call_range_1 (kI I1 'b' 'b' q1 q2 (by simpa using q))
theorem qc {a b:Expr}{ta:TA}{p pos:Pos}(hg:Gl X "range") (hm:X.mg "range"=none) (ha:PA X [a,b] ta) (hs:B2 [a,b] X.env=[(false,eval a X.env),(false,eval b X.env)]:=by rfl) (hs2:B2 [b] X.env=[(false,eval b X.env)]:=by rfl) :
  PI X tg (.Call (.Name "range" p) [a,b] [] pos) (xx ta):=by
 intro pins s σ H R I h
 refine GG (bp I hg hm F3 (BU (thn (ha pos pins s σ H _ I h) fun us s1 ⟨vs,H1,I1,r1,q1⟩=>?_) (by rw [hs,hs2]) (by rw [hs2]; rfl)))
 obtain ⟨i,j,e,⟨q1,q2,q3,q4⟩,q⟩:=q1
 subst e
 cases r1 with
 | cons r rr =>
  cases rr with
  | cons r' rr =>
   cases rr
   obtain ⟨t,rfl⟩:=r
   obtain ⟨t',rfl⟩:=r'
   exact call_range_2 (kI I1 q1 q2 q3 q4 q)
def zF (wi:TI) (g:TG) (tb:TS):TS:=fun D σ H=>wi σ H fun J H1=>∃W:Nat->Nat->St->Hp->Prop,(∃m,W 0 m σ H1)/\∀i m σ H,W i m σ H ->
 (J.stop i H/\D.nx σ H)\/(J.go i H/\∃N:St->Hp->Prop,(∀ σ' H',N σ' H'->∃m',m'<m/\W (i+1) m' σ' H')/\∀x H',J.yld i H x H'->g x σ H' fun σ2 H2=>tb { D with nx:=N,ct:=N,bk:=D.nx } σ2 H2)
def jO (fp:List Addr) (h:Heap):'m':=fp.filterMap fun b=>(h.get? b).map fun o=>(b,o)
theorem dj {fp:List Addr}{h:Heap}{b:Addr}{o:Obj}(hb:b∈fp) (e:h.get? b=some o):(b,o)∈jO fp h:=EN.mpr ⟨b,hb,by rw [e]; rfl⟩
theorem qk {fp:List Addr}{h:Heap}{p:Addr×Obj}(hp:p∈jO fp h):p.1∈fp/\h.get? p.1=some p.2:=by
 obtain ⟨b,hb,e⟩:=EN.mp hp
 cases q:h.get? b with
 | none=>rw [q] at e; cases e
 | some o =>
  rw [q] at e
  have e':(b,o)=p:=BP e
  subst e'
  exact ⟨hb,q⟩
theorem Inv.pinned {pins:'m'}{σ:St}{H:Hp}{s:A9}{fp:List Addr}(I:Inv X pins σ H s) (hf:∀b∈fp,bU X pins H b) (ho:∀b∈fp,∃o,s.heap.get? b=some o/\∀v,o.data≠.cell v):Inv X (pins++jO fp s.heap) σ H s :=
 I.pins_of fun p hp=>(B7.mp hp).elim (fun z=>I.pin p (BI _ z)) fun z=>by
  obtain ⟨hb,e⟩:=qk z
  obtain ⟨f0,f1,f2,_⟩:=hf p.1 hb
  obtain ⟨o,e',d⟩:=ho p.1 hb
  rw [e] at e'; cases e'
  exact ⟨e,f0,f1,f2,d⟩
theorem Inv.unpinned {pins pl:'m'}{σ:St}{H:Hp}{s:A9}(I:Inv X (pins++pl) σ H s):Inv X pins σ H s:=I.pins_of fun p hp=>I.pin p (BI _ (Dh _ hp))
theorem yk {iter:Expr}{body:List Stmt}{wi:TI}{g:TG}{tb:TS}{pos:Pos}(hp:PassesOwn (Bv X.prog X.w) X.A X.env X.xe) (hc:X.calm=true) (hi:PI X tg iter wi) (hg:PG X tg g) (hb:PSs X body tb)
  (hs:∀x,CV iter X.env x=pure x:=by intro _; rfl):PS X (.For tg iter body [] pos) (zF wi g tb):=by
 intro pins s σ H D I h
 refine wpAny_For (thn (hi pins s σ H _ I h) fun v s1 h1=>thn h1 fun itv s2 h2=>?_) hs
 obtain ⟨it,fp,tn,J,H2,e,I2,T,st2,f2,W,⟨m0,w0⟩,turn⟩:=h2
 subst e
 have stat:∀{H':Hp},(∀b∈fp,H' b=none)->∀b∈fp,bU X pins H' b:=fun hn b hb=>⟨hn b hb,(f2 b hb).2⟩
 refine codeAny_forLoop_any (fun n s'=>∃i σ' H',Inv X pins σ' H' s'/\tn i s'.heap/\(∀b∈fp,H' b=none)/\W i n σ' H') ?_ m0 ⟨0,σ,H2,I2,st2,fun b hb=>(f2 b hb).1,w0⟩
 rintro n s3 ⟨i,σ3,H3,I3,st3,fr3,w3⟩
 rcases turn i n σ3 H3 w3 with ⟨stop,qn⟩ | ⟨go,N,hN,step⟩
 ·refine Fx hp (thn (T.done X rfl rfl rfl hc i pins s3 σ3 H3 X.xe I3 (stat fr3) st3 stop) fun r s4 ⟨hr,I4⟩=>?_)
  subst hr
  exact Fw ⟨σ3,H3,I4,qn⟩
 ·refine Fx hp (thn (T.item X rfl rfl rfl hc i pins s3 σ3 H3 X.xe I3 (stat fr3) st3 go) fun r s4 ⟨u,hr,h4⟩=>?_)
  subst hr
  refine Fx hp (thn h4 fun _ s5 ⟨x,H5,I5,r5,y5,st5,fr5⟩=>?_)
  have I5':=I5.pinned (stat fr5) (T.obj _ _ st5)
  refine Fx hp (thn (hg _ s5 σ3 H5 x u _ I5' r5 (step x H5 y5)) fun _ s6 ⟨σ6,H6,I6,q6⟩=>?_)
  refine Fx hp (thn (hb _ s6 σ6 H6 _ I6 q6) fun f s7 q7=>?_)
  have again:∀{σ7:St}{H7:Hp},Inv X (pins++jO fp s5.heap) σ7 H7 s7->N σ7 H7->∃m,m<n/\∃i σ' H',Inv X pins σ' H' s7/\tn i s7.heap/\(∀b∈fp,H' b=none)/\W i m σ' H':=fun {σ7 H7} I7 n7=>by
   obtain ⟨m',hm,w7⟩:=hN σ7 H7 n7
   refine ⟨m',hm,i+1,σ7,H7,I7.unpinned,T.keep _ _ _ st5 fun b hb o e=>(I7.pin (b,o) (BI _ (BI _ (dj hb e)))).1,fun b hb=>?_,w7⟩
   obtain ⟨o,e,d⟩:=T.obj _ _ st5 b hb
   exact (I7.pin (b,o) (BI _ (BI _ (dj hb e)))).2.1
  cases f with
  | next=>obtain ⟨σ7,H7,I7,n7⟩:=q7; exact again I7 n7
  | cont=>obtain ⟨σ7,H7,I7,n7⟩:=q7; exact again I7 n7
  | brk=>obtain ⟨σ7,H7,I7,q7⟩:=q7; exact ⟨σ7,H7,I7.unpinned,q7⟩
  | ret v=>obtain ⟨x7,σ7,H7,I7,r7,q7⟩:=q7; exact ⟨x7,σ7,H7,I7.unpinned,r7,q7⟩
end
theorem a_ {K:Ba}{a:Addr}{xs:List V}{g:TG}{tb:TS}{D:Ends}{σ:St}{H:Hp}(Pv:Nat->St->Hp->Prop) (h0:Pv 0 σ H) (hl:∀i σ H,i<=xs.length->Pv i σ H->SqL K H a xs)
  (hs:∀i x σ H,xs[i]?=some x->Pv i σ H->g x σ H fun σ2 H2=>tb { D with nx:=Pv (i+1),ct:=Pv (i+1),bk:=D.nx } σ2 H2) (hd:∀ σ H,Pv xs.length σ H->D.nx σ H) :
  ∃W:Nat->Nat->St->Hp->Prop,(∃m,W 0 m σ H)/\∀i m σ H,W i m σ H ->
   ((Itl K a).stop i H/\D.nx σ H)\/((Itl K a).go i H/\∃N:St->Hp->Prop,(∀ σ' H',N σ' H'->∃m',m'<m/\W (i+1) m' σ' H')/\∀x H',(Itl K a).yld i H x H'->g x σ H' fun σ2 H2=>tb { D with nx:=N,ct:=N,bk:=D.nx } σ2 H2):=by
 refine ⟨fun i m σ H=>m=xs.length-i/\i<=xs.length/\Pv i σ H,⟨xs.length,by simp,B6 _,h0⟩,?_⟩
 rintro i m σ H ⟨rfl,hi,p⟩
 have q:=hl i σ H hi p
 by_cases hlt:i<xs.length
 ·refine .inr ⟨⟨xs,xs[i],q,by simp [hlt]⟩,Pv (i+1),fun σ' H' p'=>⟨xs.length-(i+1),by omega,rfl,hlt,p'⟩,fun x H' y=>?_⟩
  obtain ⟨e,y⟩:=y
  subst e
  exact hs i x σ _ (y xs q) p
 ·have e:i=xs.length:=by omega
  subst e
  exact .inl ⟨⟨xs,q,Bb _⟩,hd σ H p⟩
theorem bQ {lo:Int}{n:Nat}{g:TG}{tb:TS}{D:Ends}{σ:St}{H:Hp}(Pv:Nat->St->Hp->Prop) (h0:Pv 0 σ H)
  (hs:∀i σ H,i<n->Pv i σ H->g (.int (lo+i)) σ H fun σ2 H2=>tb { D with nx:=Pv (i+1),ct:=Pv (i+1),bk:=D.nx } σ2 H2) (hd:∀ σ H,Pv n σ H->D.nx σ H) :
  ∃W:Nat->Nat->St->Hp->Prop,(∃m,W 0 m σ H)/\∀i m σ H,W i m σ H ->
   ((Itr lo n).stop i H/\D.nx σ H)\/((Itr lo n).go i H/\∃N:St->Hp->Prop,(∀ σ' H',N σ' H'->∃m',m'<m/\W (i+1) m' σ' H')/\∀x H',(Itr lo n).yld i H x H'->g x σ H' fun σ2 H2=>tb { D with nx:=N,ct:=N,bk:=D.nx } σ2 H2):=by
 refine ⟨fun i m σ H=>m=n-i/\i<=n/\Pv i σ H,⟨n,by simp,B6 _,h0⟩,?_⟩
 rintro i m σ H ⟨rfl,hi,p⟩
 by_cases hlt:i<n
 ·refine .inr ⟨hlt,Pv (i+1),fun σ' H' p'=>⟨n-(i+1),by omega,rfl,hlt,p'⟩,fun x H' y=>?_⟩
  obtain ⟨e,y⟩:=y
  subst e y
  exact hs i σ _ hlt p
 ·have e:i=n:=by omega
  subst e
  exact .inl ⟨Bb _,hd σ H p⟩
abbrev R2:=V->V->Hp->VK->Prop
def OpR (X:Cx) (f:Value->Value->Sem Value) (r:R2):Prop :=
 ∀(pins:'m') (s:A9) (σ:St) (H:Hp) (x y:V) (v u:Value) (Q:VK),Inv X pins σ H s->RelV x v->RelV y u->r x y H Q ->
  Bl (Bv X.prog X.w) X.A (f v u) (EP X pins σ Q) X.xe s
def UnR (X:Cx) (f:Value->Sem Value) (r:V->Hp->VK->Prop):Prop :=
 ∀(pins:'m') (s:A9) (σ:St) (H:Hp) (x:V) (v:Value) (Q:VK),Inv X pins σ H s->RelV x v->r x H Q ->
  Bl (Bv X.prog X.w) X.A (f v) (EP X pins σ Q) X.xe s
def bz (X:Cx) (f:Value) (r:List V->Hp->VK->Prop):Prop :=
 ∀(pins:'m') (s:A9) (σ:St) (H:Hp) (xs:List V) (us:List Value) (Q:VK),Inv X pins σ H s->Vals xs us->r xs H Q ->
  Bl (Bv X.prog X.w) X.A (call f us) (EP X pins σ Q) X.xe s
def AX (X:Cx) (r:V->Hp->(Bool->Hp->Prop)->Prop):Prop :=
 ∀(pins:'m') (s:A9) (σ:St) (H:Hp) (x:V) (v:Value) (Q:Bool->Hp->Prop),Inv X pins σ H s->RelV x v->r x H Q ->
  Bl (Bv X.prog X.w) X.A (truthy v) (TP X pins σ Q) X.xe s
def tOp (r:R2) (ta tb:TE):TE:=fun σ H Q=>ta σ H fun x H1=>tb σ H1 fun y H2=>r x y H2 Q
def tUn (r:V->Hp->VK->Prop) (ta:TE):TE:=fun σ H Q=>ta σ H fun x H1=>r x H1 Q
def rI (C:Int->Int->Prop) (g:Int->Int->V):R2:=fun x y H Q=>∃i j,x=.int i/\y=.int j/\C i j/\Q (g i j) H
def rI0 (g:Int->Int->V):R2:=fun x y H Q=>∃i j,x=.int i/\y=.int j/\Q (g i j) H
def rU (g:Int->V):V->Hp->VK->Prop:=fun x H Q=>∃i,x=.int i/\Q (g i) H
section
variable {X:Cx}{a b c:Expr}{ta tb tc:TE}{pos:Pos}
theorem zn (ha:PE X a ta) (hb:PE X b tb) {pins:'m'}{s:A9}{σ:St}{H:Hp}{R:V->V->Hp->Prop}(I:Inv X pins σ H s)
  (h:ta σ H fun x H1=>tb σ H1 fun y H2=>R x y H2) {Q:Value->A9->Prop}{f:Value->Value->Sem Value}
  (hf:∀v u s2 x y H2,Inv X pins σ H2 s2->RelV x v->RelV y u->R x y H2->Bl (Bv X.prog X.w) X.A (f v u) Q X.xe s2) :
  Bl (Bv X.prog X.w) X.A (eval a X.env) (fun v s₁=>Bl (Bv X.prog X.w) X.A (eval b X.env) (fun u s₂=>Bl (Bv X.prog X.w) X.A (f v u) Q X.xe s₂) X.xe s₁) X.xe s:=by
 refine thn (ha pins s σ H _ I h) fun v s1 ⟨x,H1,I1,r1,q1⟩=>?_
 refine thn (hb pins s1 σ H1 _ I1 q1) fun u s2 ⟨y,H2,I2,r2,q2⟩=>?_
 exact hf v u s2 x y H2 I2 r1 r2 q2
theorem z9 {op:Operator}{r:R2}(ho:OpR X (EW op) r) (ha:PE X a ta) (hb:PE X b tb):PE X (.BinOp a op b pos) (tOp r ta tb):=by
 intro pins s σ H Q I h
 exact wpAny_BinOp (zn ha hb I h fun v u s2 x y H2 I2 rx ry q=>ho pins s2 σ H2 x y v u Q I2 rx ry q)
theorem z8 {op:UnaryOp}{r:V->Hp->VK->Prop}(ho:UnR X (unaryOp op) r) (ha:PE X a ta):PE X (.UnaryOp op a pos) (tUn r ta):=by
 intro pins s σ H Q I h
 exact UnaryOp_ (thn (ha pins s σ H _ I h) fun v s1 ⟨x,H1,I1,r1,q1⟩=>ho pins s1 σ H1 x v Q I1 r1 q1)
theorem opI {f:Value->Value->Sem Value}{C:Int->Int->Prop}{g:Int->Int->Int}
  (rule:∀(i j:Int) (t u:Tok) (s:A9) (Q:Value->A9->Prop) (E:Value->A9->Prop),C i j->Q (.int (g i j) s.toks) { s with toks:=s.toks+1 }->Bl (Bv X.prog X.w) X.A (f (.int i t) (.int j u)) Q E s) :
  OpR X f (rI C fun i j=>.int (g i j)):=by
 intro pins s σ H x y v u Q I rx ry h
 obtain ⟨i,j,rfl,rfl,hc,q⟩:=h
 obtain ⟨t,rfl⟩:=rx
 obtain ⟨t',rfl⟩:=ry
 exact rule i j t t' s _ _ hc ⟨.int (g i j),H,I.tok _,⟨_,rfl⟩,q⟩
theorem Ac {f:Value->Value->Sem Value}{g:Int->Int->Int}
  (rule:∀(i j:Int) (t u:Tok) (s:A9) (Q:Value->A9->Prop) (E:Value->A9->Prop),Q (.int (g i j) s.toks) { s with toks:=s.toks+1 }->Bl (Bv X.prog X.w) X.A (f (.int i t) (.int j u)) Q E s) :
  OpR X f (rI0 fun i j=>.int (g i j)):=by
 intro pins s σ H x y v u Q I rx ry h
 obtain ⟨i,j,rfl,rfl,q⟩:=h
 obtain ⟨t,rfl⟩:=rx
 obtain ⟨t',rfl⟩:=ry
 exact rule i j t t' s _ _ ⟨.int (g i j),H,I.tok _,⟨_,rfl⟩,q⟩
theorem vN {f:Value->Value->Sem Value}{g:Int->Int->Bool}
  (rule:∀(i j:Int) (t u:Tok) (s:A9) (Q:Value->A9->Prop) (E:Value->A9->Prop),Q (.bool (g i j)) s->Bl (Bv X.prog X.w) X.A (f (.int i t) (.int j u)) Q E s) :
  OpR X f (rI0 fun i j=>.bl (g i j)):=by
 intro pins s σ H x y v u Q I rx ry h
 obtain ⟨i,j,rfl,rfl,q⟩:=h
 obtain ⟨t,rfl⟩:=rx
 obtain ⟨t',rfl⟩:=ry
 exact rule i j t t' s _ _ ⟨.bl (g i j),H,I,rfl,q⟩
def A1 (i j:Int):Prop:=0<j/\j<1073741824
def A0 (i j:Int):Prop:=0<=j/\j<=1000000/\i.natAbs<2 ^ 64
def CMul (i j:Int):Prop:=(-(2 ^ 64)<i/\i<2 ^ 64)\/(-(2 ^ 64)<j/\j<2 ^ 64)
theorem CMul.ok {i j:Int}(h:CMul i j):IntMulOk i j:=by
 rcases h with ⟨h1,h2⟩ | ⟨h1,h2⟩
 ·exact .of_left (intBits_le_64 h1 h2)
 ·exact .of_right (intBits_le_64 h1 h2)
theorem aG:OpR X (EW .Add) (rI0 fun i j=>.int (i+j)):=Ac fun _ _ _ _ _ _ _ q=>add_int q
theorem aQ:OpR X (EW .Sub) (rI0 fun i j=>.int (i-j)):=Ac fun _ _ _ _ _ _ _ q=>sub_int q
theorem g_:OpR X (EW .Mult) (rI CMul fun i j=>.int (i*j)):=opI fun _ _ _ _ _ _ _ hc q=>mul_int q hc.ok
theorem jR:OpR X (EW .FloorDiv) (rI A1 fun i j=>.int (i / j)):=opI fun i j _ _ _ _ _ hc q=>by
 have h1:(0:Int)<j:=hc.1
 have h2:j<1073741824:=hc.2
 exact floordiv_int 'b' (by rw [Int.fdiv_eq_ediv_of_nonneg i 'b']; exact q) (.inl (EO 'b'))
theorem bC:OpR X (EW .Mod) (rI (fun _ j=>0<j) fun i j=>.int (i % j)):=opI fun i j _ _ _ _ _ hc q=>by
 have h1:(0:Int)<j:=hc
 exact mod_int' 'b' (by rw [Int.fmod_eq_emod_of_nonneg i 'b']; exact q)
theorem yG:OpR X (EW .Pow) (rI A0 fun i j=>.int (i ^ j.toNat)):=opI fun _ _ _ _ _ _ _ hc q=>pow_int_small hc.1 hc.2.1 hc.2.2 q
theorem unI {f:Value->Sem Value}{g:Int->Int}
  (rule:∀(i:Int) (t:Tok) (s:A9) (Q:Value->A9->Prop) (E:Value->A9->Prop),Q (.int (g i) s.toks) { s with toks:=s.toks+1 }->Bl (Bv X.prog X.w) X.A (f (.int i t)) Q E s) :
  UnR X f (rU fun i=>.int (g i)):=by
 intro pins s σ H x v Q I rx h
 obtain ⟨i,rfl,q⟩:=h
 obtain ⟨t,rfl⟩:=rx
 exact rule i t s _ _ ⟨.int (g i),H,I.tok _,⟨_,rfl⟩,q⟩
theorem bZ:UnR X (unaryOp .USub) (rU fun i=>.int (-i)):=unI fun _ _ _ _ _ q=>neg_int q
end
def zO:V->V->Bool
 | .non,.non=>true | .non,.int _=>true | .int _,.non=>true | .non,.bl _=>true | .bl _,.non=>true | .non,.str _=>true | .str _,.non=>true
 | .int _,.int _=>true | .bl _,.bl _=>true | .str _,.str _=>true | .byt _,.byt _=>true
 | .int _,.str _=>true | .str _,.int _=>true | .bl _,.str _=>true | .str _,.bl _=>true
 | _,_=>false
def rEq:R2:=fun x y H Q=>zO x y=true/\Q (.bl (decide (x=y))) H
def rNe:R2:=fun x y H Q=>zO x y=true/\Q (.bl (!decide (x=y))) H
theorem oY {i j:Int}:decide (V.int i=V.int j)=(i == j):=by
 rw [Gq]
 simp
theorem uO {i j:Bool}:decide (V.bl i=V.bl j)=(i == j):=by
 rw [Gq]
 simp
theorem oX {i j:Str}:decide (V.str i=V.str j)=(i == j):=by
 rw [Gq]
 simp
theorem oZ {i j:Array UInt8}:decide (V.byt i=V.byt j)=(i.toList == j.toList):=by
 rw [Gq]
 cases i
 cases j
 simp
section
variable {X:Cx}{a b c:Expr}{ta tb tc:TE}{pos:Pos}
theorem aO {pins:'m'}{σ:St}{H:Hp}{s:A9}{Q:VK}{k k':Bool}(I:Inv X pins σ H s) (q:Q (.bl k) H) (e:k=k'):EP X pins σ Q (.bool k') s:=by
 subst e
 exact ⟨.bl k,H,I,rfl,q⟩
theorem cx:OpR X (CW .Eq) rEq:=by
 intro pins s σ H x y v u Q I rx ry h
 obtain ⟨hs,q⟩:=h
 cases x with
 | non =>
  cases rx
  cases y with
  | non=>cases ry; exact PySem.EqNone.eq_none_none (aO I q 'e')
  | bl j=>cases ry; exact PySem.EqNone.eq_none_bool (aO I q 'e')
  | int j=>obtain ⟨t',rfl⟩:=ry; exact PySem.EqNone.eq_none_int (aO I q 'e')
  | str j=>obtain ⟨t',rfl⟩:=ry; exact PySem.EqNone.eq_none_str (aO I q 'e')
  | _=>exact absurd (show false=true from hs) Bx
 | bl i =>
  cases rx
  cases y with
  | non=>cases ry; exact PySem.EqNone.eq_bool_none (aO I q 'e')
  | bl j=>cases ry; exact eq_bool (aO I q uO)
  | str j=>obtain ⟨t',rfl⟩:=ry; exact PySem.EqMixed.eq_bool_str (aO I q 'e')
  | _=>exact absurd (show false=true from hs) Bx
 | int i =>
  obtain ⟨t,rfl⟩:=rx
  cases y with
  | non=>cases ry; exact PySem.EqNone.eq_int_none (aO I q 'e')
  | int j=>obtain ⟨t',rfl⟩:=ry; exact eq_int (aO I q oY)
  | str j=>obtain ⟨t',rfl⟩:=ry; exact PySem.EqMixed.eq_int_str (aO I q 'e')
  | _=>exact absurd (show false=true from hs) Bx
 | str i =>
  obtain ⟨t,rfl⟩:=rx
  cases y with
  | non=>cases ry; exact PySem.EqNone.eq_str_none (aO I q 'e')
  | bl j=>cases ry; exact PySem.EqMixed.eq_str_bool (aO I q 'e')
  | int j=>obtain ⟨t',rfl⟩:=ry; exact PySem.EqMixed.eq_str_int (aO I q 'e')
  | str j=>obtain ⟨t',rfl⟩:=ry; exact eq_str (aO I q oX)
  | _=>exact absurd (show false=true from hs) Bx
 | byt i =>
  obtain ⟨t,rfl⟩:=rx
  cases y with
  | byt j=>obtain ⟨t',rfl⟩:=ry; exact PySem.W.eq_bytes (aO I q oZ)
  | _=>exact absurd (show false=true from hs) Bx
 | _=>cases y <;> exact absurd (show false=true from hs) Bx
theorem eP:OpR X (CW .NotEq) rNe:=by
 intro pins s σ H x y v u Q I rx ry h
 obtain ⟨hs,q⟩:=h
 cases x with
 | non =>
  cases rx
  cases y with
  | non=>cases ry; exact PySem.EqNone.ne_none_none (aO I q 'e')
  | bl j=>cases ry; exact PySem.EqNone.ne_none_bool (aO I q 'e')
  | int j=>obtain ⟨t',rfl⟩:=ry; exact PySem.EqNone.ne_none_int (aO I q 'e')
  | str j=>obtain ⟨t',rfl⟩:=ry; exact PySem.EqNone.ne_none_str (aO I q 'e')
  | _=>exact absurd (show false=true from hs) Bx
 | bl i =>
  cases rx
  cases y with
  | non=>cases ry; exact PySem.EqNone.ne_bool_none (aO I q 'e')
  | bl j=>cases ry; exact ne_bool (aO I q (congrArg not uO))
  | str j=>obtain ⟨t',rfl⟩:=ry; exact PySem.EqMixed.ne_bool_str (aO I q 'e')
  | _=>exact absurd (show false=true from hs) Bx
 | int i =>
  obtain ⟨t,rfl⟩:=rx
  cases y with
  | non=>cases ry; exact PySem.EqNone.ne_int_none (aO I q 'e')
  | int j=>obtain ⟨t',rfl⟩:=ry; exact ne_int (aO I q (congrArg not oY))
  | str j=>obtain ⟨t',rfl⟩:=ry; exact PySem.EqMixed.ne_int_str (aO I q 'e')
  | _=>exact absurd (show false=true from hs) Bx
 | str i =>
  obtain ⟨t,rfl⟩:=rx
  cases y with
  | non=>cases ry; exact PySem.EqNone.ne_str_none (aO I q 'e')
  | bl j=>cases ry; exact PySem.EqMixed.ne_str_bool (aO I q 'e')
  | int j=>obtain ⟨t',rfl⟩:=ry; exact PySem.EqMixed.ne_str_int (aO I q 'e')
  | str j=>obtain ⟨t',rfl⟩:=ry; exact ne_str (aO I q (congrArg not oX))
  | _=>exact absurd (show false=true from hs) Bx
 | byt i =>
  obtain ⟨t,rfl⟩:=rx
  cases y with
  | byt j=>obtain ⟨t',rfl⟩:=ry; exact PySem.W.ne_bytes (aO I q (congrArg not oZ))
  | _=>exact absurd (show false=true from hs) Bx
 | _=>cases y <;> exact absurd (show false=true from hs) Bx
theorem gz:OpR X (CW .Lt) (rI0 fun i j=>.bl (decide (i<j))):=vN fun _ _ _ _ _ _ _ q=>lt_int q
theorem kM:OpR X (CW .LtE) (rI0 fun i j=>.bl (decide (i<=j))):=vN fun _ _ _ _ _ _ _ q=>le_int q
theorem kN:OpR X (CW .Gt) (rI0 fun i j=>.bl (decide (j<i))):=vN fun _ _ _ _ _ _ _ q=>gt_int q
theorem xm:OpR X (CW .GtE) (rI0 fun i j=>.bl (decide (j<=i))):=vN fun _ _ _ _ _ _ _ q=>ge_int q
theorem tU (b:Expr) {op:Gs}(h:op≠.In:=by decide) (h2:op≠.NotIn:=by decide):DF op b=false:=by
 have e1:(op == Gs.In)=false:=by cases op <;> first | rfl | exact absurd rfl h
 have e2:(op == Gs.NotIn)=false:=by cases op <;> first | rfl | exact absurd rfl h2
 cases b <;> simp [DF,e1,e2]
theorem vI {op:Gs}{r:R2}(ho:OpR X (CW op) r) (ha:PE X a ta) (hb:PE X b tb) (hm:DF op b=false):PE X (.Compare a [op] [b] pos) (tOp r ta tb):=by
 intro pins s σ H Q I h
 exact wpAny_Compare1 (zn ha hb I h fun v u s2 x y H2 I2 rx ry q=>ho pins s2 σ H2 x y v u Q I2 rx ry q) hm
def nq (t:TE):TT:=fun σ H Q=>t σ H fun x H'=>∃k,x=.bl k/\Q k H'
theorem vo {op:Gs}{r:R2}(ho:OpR X (CW op) r) (ha:PE X a ta) (hb:PE X b tb) (hm:DF op b=false):PT X (.Compare a [op] [b] pos) (nq (tOp r ta tb)):=by
 intro pins s σ H Q I h
 refine wpAny_isTrue_Compare1 (thn (ha pins s σ H _ I h) fun v s1 ⟨x,H1,I1,r1,q1⟩=>thn (hb pins s1 σ H1 _ I1 q1) fun u s2 ⟨y,H2,I2,r2,q2⟩ =>
  thn (ho pins s2 σ H2 x y v u _ I2 r1 r2 q2) fun c s3 ⟨z,H3,I3,r3,k,e,q3⟩=>?_) hm
 subst e
 cases r3
 exact CU ⟨H3,I3,q3⟩
def jA (r r':R2) (ta tb tc:TE):TE:=fun σ H Q=>ta σ H fun x H1=>tb σ H1 fun y H2=>r x y H2 fun z H3=>∃k,z=.bl k /\
 (if k=true then tc σ H3 fun w' H4=>r' y w' H4 Q else Q (.bl false) H3)
theorem tj {op op':Gs}{r r':R2}(ho:OpR X (CW op) r) (ho':OpR X (CW op') r') (ha:PE X a ta) (hb:PE X b tb) (hc:PE X c tc)
  (hm:lastMarks [op,op'] [b,c]=false:=by with_unfolding_all rfl):PE X (.Compare a [op,op'] [b,c] pos) (jA r r' ta tb tc):=by
 intro pins s σ H Q I h
 refine Compare_chain (thn (ha pins s σ H _ I h) fun v s1 ⟨x,H1,I1,r1,q1⟩=>chain_link (thn (hb pins s1 σ H1 _ I1 q1) fun u s2 ⟨y,H2,I2,r2,q2⟩ =>
  thn (ho pins s2 σ H2 x y v u _ I2 r1 r2 q2) fun d s3 ⟨z,H3,I3,r3,k,e,q3⟩=>?_)) hm
 subst e
 cases r3
 refine CU ?_
 cases k with
 | false=>exact ite_ff ⟨.bl false,H3,I3,rfl,q3⟩
 | true=>exact ite_tt (chain_last (thn (hc pins s3 σ H3 _ I3 q3) fun w' s4 ⟨z',H4,I4,r4,q4⟩=>ho' pins s4 σ H4 y z' u w' Q I4 r2 r4 q4))
theorem sJ {op op':Gs}{r r':R2}(ho:OpR X (CW op) r) (ho':OpR X (CW op') r') (ha:PE X a ta) (hb:PE X b tb) (hc:PE X c tc)
  (hm:lastMarks [op,op'] [b,c]=false:=by with_unfolding_all rfl):PT X (.Compare a [op,op'] [b,c] pos) (nq (jA r r' ta tb tc)):=by
 intro pins s σ H Q I h
 refine isTrue_chain (thn (ha pins s σ H _ I h) fun v s1 ⟨x,H1,I1,r1,q1⟩=>test_link (thn (hb pins s1 σ H1 _ I1 q1) fun u s2 ⟨y,H2,I2,r2,q2⟩ =>
  thn (ho pins s2 σ H2 x y v u _ I2 r1 r2 q2) fun d s3 ⟨z,H3,I3,r3,k,e,q3⟩=>?_)) hm
 subst e
 cases r3
 refine CU ?_
 cases k with
 | false =>
  obtain ⟨k',e',q'⟩:=q3
  cases e'
  exact ite_ff ⟨H3,I3,q'⟩
 | true =>
  refine ite_tt (test_last (thn (hc pins s3 σ H3 _ I3 q3) fun w' s4 ⟨z',H4,I4,r4,q4⟩=>thn (ho' pins s4 σ H4 y z' u w' _ I4 r2 r4 q4) fun d' s5 ⟨z2,H5,I5,r5,k2,e2,q5⟩=>?_))
  subst e2
  cases r5
  exact CU ⟨H5,I5,q5⟩
def zo (K:Ba) (x:V) (H:Hp) (k:Bool):Prop :=
 match x with
 | .non=>k=false
 | .bl b=>k=b
 | .int i=>k=(i != 0)
 | .str y=>y.length<=sizeLine/\k=((y.length:Int) != 0)
 | .byt y=>y.size<=sizeLine/\k=((y.size:Int) != 0)
 | .ref p=>(∃xs,SqL K H p xs/\k=!xs.isEmpty)\/(∃xs,SqT K H p xs/\k=!xs.isEmpty)\/∃kvs,H p=some (.dK kvs)/\k=!kvs.isEmpty
 | _=>False
theorem mM {κ:Type}{kvs:List (κ×V)}{vs:List (κ×Value)}(r:KV kvs vs):(!vs.isEmpty)=!kvs.isEmpty:=by
 cases r <;> rfl
theorem ig {xs:List V}{its:List Value}(r:Vals xs its):(!its.toArray.isEmpty)=!xs.isEmpty:=by
 cases r <;> simp
theorem ia:(sizeLine:Nat)<2 ^ 63:=by rw [Bo]; decide
theorem xQ:AX X (fun x H Q=>∃k,zo X.K x H k/\Q k H):=by
 intro pins s σ H x v Q I rx h
 obtain ⟨k,e,q⟩:=h
 have hl:=ia
 have hs:sizeLine=16777216:=Bo
 cases x with
 | non =>
  cases rx
  have e':k=false:=e
  subst e'
  exact truthy_none ⟨H,I,q⟩
 | bl b =>
  cases rx
  have e':k=b:=e
  subst e'
  exact CU ⟨H,I,q⟩
 | int i =>
  obtain ⟨t,rfl⟩:=rx
  have e':k=(i != 0):=e
  subst e'
  exact PySem.P.truthy_int ⟨H,I,q⟩
 | str y =>
  obtain ⟨t,rfl⟩:=rx
  obtain ⟨hy,e'⟩:y.length<=sizeLine/\k=((y.length:Int) != 0):=e
  subst e'
  exact PySem.P.truthy_str 'b' ⟨H,I.tok _,q⟩
 | byt y =>
  obtain ⟨t,rfl⟩:=rx
  obtain ⟨hy,e'⟩:y.size<=sizeLine/\k=((y.size:Int) != 0):=e
  subst e'
  exact PySem.W.truthy_bytes 'b' ⟨H,I.tok _,q⟩
 | ref p =>
  cases rx
  have e':(∃xs,SqL X.K H p xs/\k=!xs.isEmpty)\/(∃xs,SqT X.K H p xs/\k=!xs.isEmpty)\/∃kvs,H p=some (.dK kvs)/\k=!kvs.isEmpty:=e
  rcases e' with ⟨xs,hx,e'⟩ | ⟨xs,hx,e'⟩ | ⟨kvs,hx,e'⟩
  ·subst e'
   obtain ⟨its,r,pl,hz⟩:=I.list hx
   have hlen:=r.length
   exact wpAny_truthy_list pl.isList (by simp only [Be]; omega) ⟨H,I.tok _,by rw [ig r]; exact q⟩
  ·subst e'
   obtain ⟨its,r,pl,hz⟩:=I.tuple hx
   have hlen:=r.length
   exact truthy_tuple pl (by simp only [Be]; omega) ⟨H,I.tok _,by rw [ig r]; exact q⟩
  ·subst e'
   obtain ⟨hz,hS,vs,r,m⟩:kvs.length<=sizeLine/\(p == Em)=false/\∃vs,KV kvs vs/\s.heap.DictOf (aT X.prog X.w) p vs:=I.hok p _ hx
   have hlen:kvs.length=vs.length:=Paired.length r
   exact wpAny_truthy_dict hS m 'b' ⟨H,I.tok _,by rw [mM r]; exact q⟩
 | _=>exact (show False from e).elim
theorem sH (ha:PE X a ta) (he:∀whole,isTrue a X.env whole=(do let v <- whole; standAt a.pos; Gd [v] (truthy v))) :
  PT X a (fun σ H Q=>ta σ H fun x H'=>∃k,zo X.K x H' k/\Q k H'):=by
 intro pins s σ H Q I h
 exact isTrue_plain (thn (ha pins s σ H _ I h) fun v s1 ⟨x,H1,I1,r1,q1⟩=>xQ pins s1 σ H1 x v Q I1 r1 q1) (he _)
theorem bR {x:V}{us:List Value}(r:Vals [x] us):∃u,us=[u]/\RelV x u:=by
 cases r with
 | cons r1 r2=>cases r2; exact ⟨_,rfl,r1⟩
theorem rg {x y:V}{us:List Value}(r:Vals [x,y] us):∃u w',us=[u,w']/\RelV x u/\RelV y w':=by
 cases r with
 | cons r1 r2 =>
  cases r2 with
  | cons r3 r4=>cases r4; exact ⟨_,_,rfl,r1,r3⟩
theorem bL:bz X (.builtin "abs") (fun xs H Q=>∃i,xs=[.int i]/\Q (.int (if i<0 then -i else i)) H):=by
 intro pins s σ H xs us Q I r h
 obtain ⟨i,rfl,q⟩:=h
 obtain ⟨u,rfl,t,rfl⟩:=bR r
 exact call_abs_int fun u tk=>⟨.int (if i<0 then -i else i),H,I.tok _,⟨_,rfl⟩,q⟩
theorem gm (hc:X.calm=true):bz X (.builtin "max") (fun xs H Q=>∃i j,xs=[.int i,.int j]/\Q (.int (if j > i then j else i)) H):=by
 intro pins s σ H xs us Q I r h
 obtain ⟨i,j,rfl,q⟩:=h
 obtain ⟨u,w',rfl,⟨t,rfl⟩,⟨t',rfl⟩⟩:=rg r
 refine max_two_ints (I.ok.hd hc) fun h' tk k=>⟨_,H,I.kept k,?_,q⟩
 by_cases hj:j > i
 ·rw [if_pos hj,if_pos hj]; exact ⟨_,rfl⟩
 ·rw [if_neg hj,if_neg hj]; exact ⟨_,rfl⟩
theorem jt (hc:X.calm=true):bz X (.builtin "min") (fun xs H Q=>∃i j,xs=[.int i,.int j]/\Q (.int (if j<i then j else i)) H):=by
 intro pins s σ H xs us Q I r h
 obtain ⟨i,j,rfl,q⟩:=h
 obtain ⟨u,w',rfl,⟨t,rfl⟩,⟨t',rfl⟩⟩:=rg r
 refine min_two_ints (I.ok.hd hc) fun h' tk k=>⟨_,H,I.kept k,?_,q⟩
 by_cases hj:j<i
 ·rw [if_pos hj,if_pos hj]; exact ⟨_,rfl⟩
 ·rw [if_neg hj,if_neg hj]; exact ⟨_,rfl⟩
theorem qU:bz X (.type "int") (fun xs H Q=>(∃i,xs=[.int i]/\Q (.int i) H)\/∃k,xs=[.bl k]/\Q (.int (if k then 1 else 0)) H):=by
 intro pins s σ H xs us Q I r h
 rcases h with ⟨i,rfl,q⟩ | ⟨k,rfl,q⟩
 ·obtain ⟨u,rfl,t,rfl⟩:=bR r
  exact call_int_int ⟨.int i,H,I,⟨_,rfl⟩,q⟩
 ·obtain ⟨u,rfl,r1⟩:=bR r
  cases r1
  exact call_int_bool ⟨.int (if k then 1 else 0),H,I.tok _,⟨_,rfl⟩,q⟩
end
structure ObjM (h:Heap) (x dx C:Addr) (mA:Str->Option Value):Prop where
 obj:h.get? x=some (PySem.W.instObj C dx)
 ns:h.Ns1 dx mA
 ne:dx≠x
theorem jb {h:Heap}{dx:Addr}{mA:Str->Option Value}(n:h.Ns1 dx mA):∃od,h.get? dx=some od/\∀name,PySem.W.lookIn name od=some (mA name):=by
 obtain ⟨o,es,ep,ho,hd,hk,_,hm⟩:=n
 refine ⟨o,ho,fun name=>?_⟩
 have e:=hm name
 unfold nsFind findBy at e
 rw [<- Array.find?_toList] at e
 unfold PySem.W.lookIn
 rw [hd]
 dsimp only
 split
 ·rename_i y q
  rw [q] at e
  exact congrArg some e
 ·rename_i q
  rw [q] at e
  have a:es.toList.any (·.refKey)=false:=by
   rw [List.any_eq_false]
   intro y hy
   obtain ⟨z,t,hkey⟩:=hk y (Array.mem_toList_iff.mp hy)
   simp [DictEntry.refKey,hkey]
  have a':¬ es.toList.any (·.refKey)=true:=by rw [a]; exact Bx
  rw [if_neg a']
  exact congrArg some e
theorem ObjM.look {h:Heap}{x dx C:Addr}{mA:Str->Option Value}(I:ObjM h x dx C mA):∃od,Gy h x (PySem.W.instObj C dx) C (some od)/\∀name,PySem.W.lookIn name od=some (mA name) :=
 let ⟨od,ho,hl⟩:=jb I.ns
 ⟨od,⟨I.obj,rfl,rfl,ho⟩,hl⟩
section
variable {prog:Program}{w:BG}{A:BC}{E:Value->A9->Prop}{s:A9}{K:Ba}{x dx C f:Addr}{mA:Str->Option Value}{name:Str}{v:Value}
end
def putF (f:Str) (v:V):List (Str×V)->List (Str×V)
 | []=>[(f,v)]
 | (g,x) :: r=>if g=f then (g,v) :: r else (g,x) :: putF f v r
theorem gA (f g:Str) (v:V):∀fs:List (Str×V),(putF f v fs).lookup g=if g=f then some v else fs.lookup g
 | []=>by
  show EJ g [(f,v)]=_
  by_cases h:g=f
  ·have hb:(g == f)=true:=beq_iff_eq.mpr h
   simp only [EJ,hb,if_pos h]
  ·have hb:(g == f)=false:=beq_eq_false_iff_ne.mpr h
   simp only [EJ,hb,if_neg h]
 | (k,x) :: r=>by
  have ih:=gA f g v r
  rw [show putF f v ((k,x) :: r)=(if k=f then (k,v) :: r else (k,x) :: putF f v r) from rfl]
  by_cases hk:k=f
  ·rw [if_pos hk]
   by_cases h:g=k
   ·have hb:(g == k)=true:=beq_iff_eq.mpr h
    simp only [EJ,hb,if_pos (h.trans hk)]
   ·have hb:(g == k)=false:=beq_eq_false_iff_ne.mpr h
    simp only [EJ,hb,if_neg (fun e:g=f=>h (e.trans hk.symm))]
  ·rw [if_neg hk]
   by_cases h:g=k
   ·have hb:(g == k)=true:=beq_iff_eq.mpr h
    simp only [EJ,hb,if_neg (fun e:g=f=>hk (h.symm.trans e))]
   ·have hb:(g == k)=false:=beq_eq_false_iff_ne.mpr h
    simp only [EJ,hb]
    exact ih
theorem RelO.some_of {v:V}{o:Option Value}(r:RelO (some v) o):∃u,o=some u/\RelV v u:=by
 cases o with
 | none=>exact (show False from r).elim
 | some u=>exact ⟨u,rfl,r⟩
theorem RelO.none_of {o:Option Value}(r:RelO none o):o=none:=by
 cases o with
 | none=>rfl
 | some u=>exact (show False from r).elim
theorem qC {v:V}{u:Value}(r:RelV v u):PySem.W.handedIn u=true:=by
 cases v with
 | non=>cases (show u=CA from r); rfl
 | bl b=>cases (show u=Value.bool b from r); rfl
 | int i=>obtain ⟨t,e⟩:=(show ∃t,u=FC i t from r); cases e; rfl
 | str x=>obtain ⟨t,e⟩:=(show ∃t,u=Value.str x t from r); cases e; rfl
 | byt b=>obtain ⟨t,e⟩:=(show ∃t,u=Value.bytes b t from r); cases e; rfl
 | flt b=>obtain ⟨t,e⟩:=(show ∃t,u=Value.float b t from r); cases e; rfl
 | ref a=>cases (show u=Bs a from r); rfl
 | ty n=>cases (show u=EL n from r); rfl
section
variable {P:Program}{w:BG}{H H':Hp}{h h':Heap}{a C dx:Addr}{fs fs':List (Str×V)}
theorem wq (hok:HOk P w H h) (e:H a=some (.ins C dx fs)):∃mA,ObjM h a dx C mA/\(∀f,RelO (fs.lookup f) (mA f))/\PySem.Within mA (fs.map (·.1))/\fs.length<=1000/\H dx=some (.own a):=by
 obtain ⟨d,z,ne,ob,mA,n,r,q⟩:=(show ObjOk P w H h a (.ins C dx fs) from hok a _ e)
 exact ⟨mA,⟨ob,n,ne⟩,r,q,z,d⟩
end
structure Cls (K:Ba) (C:Addr):Prop where
 pg:PySem.W.plainGet K C Str.empty=true
 hd:PySem.W.hasDictIn K C=true
 po:PySem.W.plainOver K C=true
 sa:CJ K (.ref C) "__setattr__"=some (some (.builtin "object.__setattr__"))
theorem Cls.get {K:Ba}{C:Addr}(c:Cls K C) (f:Str):PySem.W.plainGet K C f=true:=c.pg
section
variable {X:Cx}{pins:'m'}{σ:St}{H:Hp}{s:A9}{a C dx:Addr}{fs:List (Str×V)}{f:Str}{v:V}{A:BC}{E:Value->A9->Prop}
theorem wP {prog:Program}{w:BG}{env:Env}{e:Expr}{f:Str}{pos:Pos}{s:A9}{Q:Value->A9->Prop}(hb:Dl e f env (eval e env)=eval e env)
  (h:Bl (Bv prog w) A (eval e env) (fun o s₁=>Bl (Bv prog w) A (getAttr o f true) Q E s₁) E s):Bl (Bv prog w) A (eval (.Attribute e f pos) env) Q E s :=
 Attribute_any_ h (by rw [arm_eval_Attribute,hb])
end
section
variable {X:Cx}{o e value:Expr}{f:Str}{pos pos' tpos:Pos}{ta tv:TE}
end
section
variable {X:Cx}{pins:'m'}{σ:St}{H:Hp}{s:A9}{A:BC}{E:Value->A9->Prop}{Q:Value->A9->Prop}{c:Value}{b:Bool}
inductive TyOf (K:Ba) (H:Hp):V->Value->Prop where
 | non:TyOf K H .non (.type "NoneType")
 | bl (x:Bool):TyOf K H (.bl x) (.type "bool")
 | int (i:Int):TyOf K H (.int i) (.type "int")
 | str (x:Str):TyOf K H (.str x) (.type "str")
 | flt (x:UInt64):TyOf K H (.flt x) (.type "float")
 | lst {a:Addr}{xs:List V}(e:H a=some (.lst xs)):TyOf K H (.ref a) (.type "list")
 | frz {a:Addr}{o:Obj}{xs:List V}(e:H a=some (.frz o (.lst xs))):TyOf K H (.ref a) (.type "list")
 | tup {a:Addr}{xs:List V}(e:H a=some (.tup xs)):TyOf K H (.ref a) (.type "tuple")
 | dK {a:Addr}{kvs:List (Key×V)}(e:H a=some (.dK kvs)):TyOf K H (.ref a) (.type "dict")
 | dT {a:Addr}{kvs:List (List Key×V)}(e:H a=some (.dT kvs)):TyOf K H (.ref a) (.type "dict")
 | ins {a C dx:Addr}{fs:List (Str×V)}(e:H a=some (.ins C dx fs)) (cl:Cls K C) (ha:CJ K (.ref C) "__class__"=some (some (.builtin "object.__class__")))
   (hn:PySem.W.specialIn K (.builtin "object.__class__") "__get__"=some (some (.builtin "getset_descriptor.__get__"))) (htk:PySem.W.takesIn K (.builtin "object.__class__")=some true)
   (hm:Ge K C (.type "object")=some true):TyOf K H (.ref a) (.ref C)
theorem qw {x:V}{u t:Value}(I:Inv X pins σ H s) (rx:RelV x u) (ty:TyOf X.K H x t) (e:EB X.K t c=some b) (h:∀tk,Q (.bool b) { s with toks:=tk }) :
  Bl (Bv X.prog X.w) A (call (.builtin "isinstance") [u,c]) Q E s:=by
 cases ty with
 | non=>cases (show u=CA from rx); exact C7 PySem.W.kitx_none I.kIn DW e (fun z=>nomatch z) h
 | bl y=>cases (show u=Value.bool y from rx); exact C7 PySem.W.kitx_bool I.kIn DW e (fun z=>nomatch z) h
 | int i=>obtain ⟨t,q⟩:=(show ∃t,u=FC i t from rx); cases q; exact C7 PySem.W.kitx_int I.kIn DW e (fun z=>nomatch z) h
 | str y=>obtain ⟨t,q⟩:=(show ∃t,u=Value.str y t from rx); cases q; exact C7 PySem.W.kitx_str I.kIn DW e (fun z=>nomatch z) h
 | flt y=>obtain ⟨t,q⟩:=(show ∃t,u=Value.float y t from rx); cases q; exact C7 PySem.W.kitx_float I.kIn DW e (fun z=>nomatch z) h
 | @lst a xs ea =>
  cases (show u=Bs a from rx)
  obtain ⟨_,_,n,_,h1⟩:=(show ObjOk X.prog X.w H s.heap a (.lst xs) from I.hok a _ ea)
  exact C7 PySem.W.kitx_list I.kIn ⟨_,h1,rfl⟩ e (fun z=>nomatch z) h
 | @frz a ob xs ea =>
  cases (show u=Bs a from rx)
  obtain ⟨_,_,_,n,_,h1⟩:=(show ObjOk X.prog X.w H s.heap a (.frz ob (.lst xs)) from I.hok a _ ea)
  exact C7 PySem.W.kitx_list I.kIn ⟨_,h1,rfl⟩ e (fun z=>nomatch z) h
 | @tup a xs ea =>
  cases (show u=Bs a from rx)
  obtain ⟨_,_,_,p⟩:=(show ObjOk X.prog X.w H s.heap a (.tup xs) from I.hok a _ ea)
  obtain ⟨o,h1,h2,_⟩:=p
  exact C7 PySem.W.kitx_tuple I.kIn ⟨o,h1,h2⟩ e (fun z=>nomatch z) h
 | @dK a kvs ea =>
  cases (show u=Bs a from rx)
  obtain ⟨_,_,vs,_,p⟩:=(show ObjOk X.prog X.w H s.heap a (.dK kvs) from I.hok a _ ea)
  obtain ⟨o,es,ep,h1,h2,_⟩:=p
  exact C7 PySem.W.kitx_dict I.kIn ⟨o,h1,h2.1⟩ e (fun z=>nomatch z) h
 | @dT a kvs ea =>
  cases (show u=Bs a from rx)
  obtain ⟨_,_,xs,_,o,es,ep,h1,h2,_⟩:=(show ObjOk X.prog X.w H s.heap a (.dT kvs) from I.hok a _ ea)
  exact C7 PySem.W.kitx_dict I.kIn ⟨o,h1,h2.1⟩ e (fun z=>nomatch z) h
 | @ins a C dx fs ea cl ha hn htk hm =>
  cases (show u=Bs a from rx)
  obtain ⟨mA,O,_⟩:=wq I.hok ea
  obtain ⟨od,J,_⟩:=O.look
  exact C7 (PySem.W.kitx_own (cl.get _) cl.hd ha hn htk hm) I.kIn J e (fun z=>nomatch z) h
end
structure Room (k:Nat) (A:BC):Prop where
 hd:A.handled=none
 dp:A.depth+3*k+5<recursionLimit
 un:A.units+16*k+200<cLine
theorem Room.mono {j k:Nat}{A:BC}(r:Room k A) (h:j<=k):Room j A:=⟨r.hd,by have:=r.dp; omega,by have:=r.un; omega⟩
theorem Room.deeper {k:Nat}{A:BC}(r:Room (k+1) A) (env:Env):Room k (A.deeper env) :=
 ⟨r.hd,by have:=r.dp; show A.depth+1+3*k+5<_; omega,by have:=r.un; show A.units+3+16*k+200<_; omega⟩
theorem Room.in1 {k:Nat}{A:BC}(r:Room (k+1) A):Room k A.in1 :=
 ⟨r.hd,by have:=r.dp; show A.depth+3*k+5<_; omega,by have:=r.un; show A.units+1+16*k+200<_; omega⟩
theorem mH {A:BC}{C:Addr}{us:List Value}{kw:List (Str×Value)}:(A.under (.builtin "type.__call__" ⟨.ref C :: us,kw⟩)).depth=A.depth+1:=by
 first | rfl | simp [BC.under,Code.weight,Code.isCreation,Code.isGuard,Code.isCaller,Code.frames,Code.isFrame,guardIds]
theorem mG {A:BC}{C:Addr}{us:List Value}{kw:List (Str×Value)}:(A.under (.builtin "type.__call__" ⟨.ref C :: us,kw⟩)).units=A.units+1:=by
 first | rfl | simp [BC.under,Code.cUnits,Code.frames,Code.isFrame]
theorem Room.make {k:Nat}{A:BC}(r:Room (k+1) A) (C:Addr) (us:List Value) (kw:List (Str×Value)):Room k (A.under (.builtin "type.__call__" ⟨.ref C :: us,kw⟩)) :=
 ⟨r.hd,by have:=r.dp; rw [mH]; omega,by have:=r.un; rw [mG]; omega⟩
theorem Room.depth {k:Nat}{A:BC}(r:Room k A):A.depth<recursionLimit:=by have:=r.dp; omega
theorem Room.units {k:Nat}{A:BC}(r:Room k A):A.units+64<cLine:=by have:=r.un; omega
def fV:TA:=fun _ H Q=>Q [] H
def bB (ta:TE) (tr:TA):TA:=fun σ H Q=>ta σ H fun x H1=>tr σ H1 fun xs H2=>Q (x :: xs) H2
section
variable {X:Cx}{e:Expr}{es:List Expr}{te:TE}{t:TA}{pos:Pos}
theorem bO:PA X [] fV:=fun _ _ _ _ H Q I h=>Dc ⟨[],H,I,.nil,h⟩
theorem on (ha:PE X e te) (hr:PA X es t) (hs:B2 (e :: es) X.env=(false,eval e X.env) :: B2 es X.env:=by rfl):PA X (e :: es) (bB te t):=by
 intro pos pins s σ H Q I h
 rw [hs]
 show Bl _ _ (GE ((false,eval e X.env) :: DM pos (B2 es X.env))) _ _ s
 refine CD (thn (ha pins s σ H _ I h) fun u s1 ⟨x,H1,I1,r1,q1⟩=>?_)
 exact thn (hr pos pins s1 σ H1 _ I1 q1) fun us s2 ⟨xs,H2,I2,r2,q2⟩=>⟨x :: xs,H2,I2,.cons r1 r2,q2⟩
def zA (t:TA):TE:=fun σ H Q=>t σ H fun xs H1=>xs.length<=sizeLine/\∀p,H1 p=none->Q (.ref p) (upd H1 p (.tup xs))
def zD (t:TA):TE:=fun σ H Q=>t σ H fun xs H1=>xs.length<=sizeLine/\∀p,H1 p=none->Q (.ref p) (upd H1 p (.lst xs))
theorem yu {x1} (h:PA X es t):PE X (.Tuple es x1 pos) (zA t):=by
 intro pins s σ H Q I hq
 refine wpAny_Tuple_spliced (thn (h pos pins s σ H _ I hq) fun us s1 ⟨xs,H1,I1,r,z,q⟩=>⟨by rw [<- r.length]; exact z,?_⟩)
 have hf:H1 s1.heap.objs.size=none:=I1.hok.fresh (Bb _)
 refine ⟨.ref s1.heap.objs.size,upd H1 s1.heap.objs.size (.tup xs),I1.laid (t':=s1.toks) (fun b u e=>A6 _ e) (Bb _) ?_,rfl,q _ hf⟩
 exact ⟨z,us,r,⟨_,Bj _ rfl,rfl,_,rfl⟩⟩
theorem yB (h:PA X es t):PE X (.List es pos) (zD t):=by
 intro pins s σ H Q I hq
 refine wpAny_List_spliced (thn (h pos pins s σ H _ I hq) fun us s1 ⟨xs,H1,I1,r,z,q⟩=>⟨by rw [<- r.length]; exact z,?_⟩)
 have hf:H1 s1.heap.objs.size=none:=I1.hok.fresh (Bb _)
 refine ⟨.ref s1.heap.objs.size,upd H1 s1.heap.objs.size (.lst xs),I1.laid (t':=s1.toks) (fun b u e=>A6 _ e) (Bb _) ?_,rfl,q _ hf⟩
 exact ⟨z,us,0,r,Bj _ rfl⟩
end
abbrev Sp:=List V->Hp->VK->XK->Prop
abbrev CXT:=List Env->Hp->A9->XK->Value->A9->Prop
structure Env0 (P:Program) (w:BG) (K:Ba) (mg:Str->Option Value) (base:Heap) (A:BC) (outer:List Env) (s:A9) (H:Hp):Prop where
 frames:A.frames=some outer
 mod:Mod K mg base
 bs:∀b o,base.get? b=some o->s.heap.get? b=some o/\H b=none
 bsz:base.objs.size<='n'
 funs:s.heap.FunFrames base outer
 frf:∀b∈frs outer,H b=none
 hok:HOk P w H s.heap
 bare:Fv s.gens
def CE (outer:List Env) (P:Program) (w:BG) (H:Hp) (s:A9) (Q:VK) (u:Value) (s':A9):Prop :=
 ∃v H',s'.os=s.os/\Fv s'.gens/\Un (frs outer) [] H H' s.heap s'.heap/\HOk P w H' s'.heap/\RelV v u/\Q v H'
def CR (CX:CXT) (outer:List Env) (P:Program) (w:BG) (H:Hp) (s:A9) (Q:VK) (E:XK) (r:GI) (s':A9):Prop :=
 match r with
 | .ok (.ret u)=>CE outer P w H s Q u s'
 | .ok _=>False
 | .error e=>CX outer H s E e s'
structure aS (P:Program) (w:BG) (K:Ba) (mg:Str->Option Value) (base:Heap) (CX:CXT) (k:Nat) (f:Addr) (fd:BX) (ps:List Str) (sp:Sp):Prop where
 len:∀vs H Q E,sp vs H Q E->vs.length=ps.length
 run:∀(A:BC) (outer:List Env) (s:A9) (H:Hp) (args:Args) (us:List Value) (vs:List V) (Q:VK) (E:XK),Room k A->Env0 P w K mg base A outer s H->BindsTo s fd args (ps.zip us)->Vals vs us->sp vs H Q E ->
  Ev (Bv P w) A (.call (.ref f) args) (CR CX outer P w H s Q E) s
theorem Env0.make {P:Program}{w:BG}{K:Ba}{mg:Str->Option Value}{base:Heap}{A:BC}{outer:List Env}{s:A9}{H:Hp}(e:Env0 P w K mg base A outer s H) (C:Addr) (us:List Value) (kw:List (Str×Value)) :
  Env0 P w K mg base (A.under (.builtin "type.__call__" ⟨.ref C :: us,kw⟩)) outer s H:=⟨by first | exact e.frames | (simpa [BC.under,Code.envs,Code.isFrame,pushEnvs] using e.frames),e.mod,e.bs,e.bsz,e.funs,e.frf,e.hok,e.bare⟩
section
variable {X:Cx}{pins:'m'}{σ:St}{H:Hp}{s s':A9}
theorem Inv.env0 (I:Inv X pins σ H s):Env0 X.prog X.w X.K X.mg X.base X.A X.stack s H :=
 ⟨I.ok.frames,I.ok.mod,I.bs,BR I.ok.bsz I.sz,I.stack,I.stkFree,I.hok,I.bare⟩
theorem Inv.after {Q:VK}{u:Value}(I:Inv X pins σ H s) (h:CE X.stack X.prog X.w H s Q u s'):EP X pins σ Q u s':=by
 obtain ⟨v,H',os,bare,un,hok,r,q⟩:=h
 obtain ⟨hh,g,d,t,os'⟩:=s'
 obtain rfl:os'=s.os:=os
 exact ⟨v,H',I.call (h':=hh) (g':=g) (d':=d) (t':=t) (ch:=[]) un hok bare (fun b z=>absurd z 'e'),r,q⟩
end
def nz (sp:Sp) (dvs:List V) (E:XK) (t:TA):TE:=fun σ H Q=>t σ H fun vs H1=>sp (vs++dvs) H1 Q E
def Binds (K:Ba) (fd:BX) (ps:List Str) (ds:List Value):Prop :=
 ∀(s:A9) (us:List Value),K.In s.heap->(us++ds).length=ps.length->BindsTo s fd ⟨us,[]⟩ (ps.zip (us++ds))
theorem Binds.all {K:Ba}{fd:BX}{ps:List Str}(h:∀us:List Value,us.length=ps.length->GH fd ⟨us,[]⟩=pure (ps.zip us)):Binds K fd ps []:=fun s us _ hl=>by
 rw [BH] at hl ⊢
 exact .of_eq (h us hl)
def fj (CX:CXT) (X:Cx) (E:XK):Prop:=∀(pins:'m') (σ:St) (H:Hp) (s:A9) (e:Value) (s':A9),Inv X pins σ H s->CX X.stack H s E e s'->X.xe e s'
section
variable {X:Cx}{CX:CXT}{k:Nat}{f C:Addr}{fd:BX}{ps:List Str}{sp:Sp}{dvs:List V}{ds:List Value}{E:XK}{x m:Str}{p pos apos:Pos}{e o:Expr}{es:List Expr}{ta:TE}{t:TA}
theorem yd {pins:'m'}{σ:St}{H:Hp}{s:A9}{Q:VK}{us:List Value}{vs:List V}(F:aS X.prog X.w X.K X.mg X.base CX k f fd ps sp) (hr:Room k X.A) (hb:Binds X.K fd ps ds) (hd:Vals dvs ds) (hx:fj CX X E)
  (I:Inv X pins σ H s) (r:Vals vs us) (h:sp (vs++dvs) H Q E):Bl (Bv X.prog X.w) X.A (call (.ref f) us) (EP X pins σ Q) X.xe s:=by
 have r2:Vals (vs++dvs) (us++ds):=r.append hd
 have hl:(us++ds).length=ps.length:=by rw [<- r2.length]; exact F.len _ _ _ _ h
 refine F4 (Fc (F.run X.A X.stack s H ⟨us,[]⟩ (us++ds) (vs++dvs) Q E hr I.env0 (hb s us I.kIn hl) r2 h) fun r s' hq=>?_)
 cases r with
 | error e=>exact hx pins σ H s e s' I hq
 | ok fl =>
  cases fl with
  | ret u=>exact I.after hq
  | next=>exact BM hq
  | brk=>exact BM hq
  | cont=>exact BM hq
theorem vJ (F:aS X.prog X.w X.K X.mg X.base CX k f fd ps sp) (hr:Room k X.A) (hg:Gl X x) (hm:X.mg x=some (.ref f)) (hk:DX X.K (.ref f)=true) (hb:Binds X.K fd ps ds) (hd:Vals dvs ds) (hx:fj CX X E)
  (ha:PA X (e :: es) t) (hdb:'r'=false:=by decide) (he:B2 (e :: es) X.env=(false,eval e X.env) :: B2 es X.env:=by rfl) (hpl:(DM pos (B2 es X.env)).any (·.1)=false:=by rfl) :
  PE X (.Call (.Name x p) (e :: es) [] pos) (nz sp dvs E t):=by
 intro pins s σ H Q I h
 refine EQ (jV I hg hm ?_ hdb)
 refine PySem.W.callWith_K (h₀:=X.base) I.ok.mod.kin hk (thn (ha pos pins s σ H _ I h) fun us s1 ⟨vs,H1,I1,r,q⟩=>⟨I1.kIn,?_⟩) he hpl
 exact yd F hr hb hd hx I1 r q
end
section
variable {X:Cx}{CX:CXT}{k:Nat}{f C:Addr}{fd:BX}{ps ks:List Str}{sp:Sp}{E:XK}{x m:Str}{p pos apos kpos:Pos}{e o:Expr}{es:List Expr}{kws:List Keyword}{te ta:TE}{t tk:TA}{nm:Option Str}
variable {g:List Value->List Value->List Value}{gV:List V->List V->List V}
end
structure ax (N P:List Str) (sc:Scope):Prop where
 kind:sc.kind=.function
 co:sc.isCoroutine=false
 gen:sc.isGenerator=false
 nd:N.Nodup
 pre:N.take P.length=P
 par:∀x∈P,sc.names.lookup x=some .local\/sc.names.lookup x=some .cell
 nofree:∀y∈sc.names,y.2≠.free
theorem ju {kindOf:Str->Option E5}{x:Str}:∀{binds:List (Str×Value)}{m:Str->Option Value},(∀v,(x,v) ∉ binds)->bindL kindOf binds m x=m x
 | [],_,_=>rfl
 | (n,v) :: r,m,h=>by
  unfold bindL
  rw [ju fun w hw=>h w (Br _ hw)]
  split
  ·have:x≠n:=by rintro rfl; exact h v Bq
   simp [this]
  ·rfl
theorem jw {kindOf:Str->Option E5}{x:Str}:∀{binds:List (Str×Value)}{m:Str->Option Value},(∀v,(x,v) ∉ binds)->bindC kindOf binds m x=m x
 | [],_,_=>rfl
 | (n,v) :: r,m,h=>by
  unfold bindC
  rw [jw fun w hw=>h w (Br _ hw)]
  split
  ·rfl
  ·have:x≠n:=by rintro rfl; exact h v Bq
   simp [this]
theorem jv {kindOf:Str->Option E5}{x:Str}{v:Value}:∀{P:List Str}{vs:List Value}{i:Nat}{m:Str->Option Value},P.Nodup->P[i]?=some x->vs[i]?=some v->kindOf x=some .local ->
  bindL kindOf (P.zip vs) m x=some v
 | [],_,_,_,_,h,_,_=>by simp at h
 | _ :: _,[],_,_,_,_,h,_=>by simp at h
 | p :: P,w :: vs,0,m,nd,h1,h2,hk=>by
  simp at h1 h2; subst h1; subst h2
  show bindL kindOf ((p,w) :: P.zip vs) m p=_
  unfold bindL
  rw [ju fun v hv=>(Ed.mp nd).1 (List.of_mem_zip hv).1,if_pos hk]
  simp
 | p :: P,w :: vs,i+1,m,nd,h1,h2,hk=>by
  show bindL kindOf ((p,w) :: P.zip vs) m x=_
  unfold bindL
  exact jv (i:=i) (Ed.mp nd).2 (by simpa using h1) (by simpa using h2) hk
theorem jx {kindOf:Str->Option E5}{x:Str}{v:Value}:∀{P:List Str}{vs:List Value}{i:Nat}{m:Str->Option Value},P.Nodup->P[i]?=some x->vs[i]?=some v->kindOf x≠some .local ->
  bindC kindOf (P.zip vs) m x=some v
 | [],_,_,_,_,h,_,_=>by simp at h
 | _ :: _,[],_,_,_,_,h,_=>by simp at h
 | p :: P,w :: vs,0,m,nd,h1,h2,hk=>by
  simp at h1 h2; subst h1; subst h2
  show bindC kindOf ((p,w) :: P.zip vs) m p=_
  unfold bindC
  rw [jw fun v hv=>(Ed.mp nd).1 (List.of_mem_zip hv).1,if_neg hk]
  simp
 | p :: P,w :: vs,i+1,m,nd,h1,h2,hk=>by
  show bindC kindOf ((p,w) :: P.zip vs) m x=_
  unfold bindC
  exact jx (i:=i) (Ed.mp nd).2 (by simpa using h1) (by simpa using h2) hk
def eM (N:List Str) (vs:List V):St:=vs.map some++BF (N.length-vs.length) none
def bT (CX:CXT) (P:Program) (w:BG) (K:Ba) (mg:Str->Option Value) (base:Heap) (N:List Str) (qual:Str) (scope:Scope) (f:Addr) (cd:Value) (A:BC) (outer:List Env) (s:A9) (H:Hp) (E:XK):Cx where
 prog:=P
 w:=w
 K:=K
 mg:=mg
 base:=base
 A:=A.deeper (Ea qual scope 'n' f cd)
 N:=N
 s₀:=s
 H₀:=H
 env:=Ea qual scope 'n' f cd
 outer:=outer
 stack:=Ea qual scope 'n' f cd :: outer
 ex:=[]
 calm:=true
 fn:=fun _=>true
 pn:=[]
 xe:=fun e s'=>Bl (Bv P w) (A.deeper (Ea qual scope 'n' f cd)) (leaving (Ea qual scope 'n' f cd) e) (fun _ s''=>CX outer H s E e s'') (fun e' s''=>CX outer H s E e' s'') s'
theorem lJ {sc:Scope}{n:Nat}{x:Str}(h:sc.names.lookup x=some .cell):∃c,(cellsFrom n sc.names []).lookup x=some c:=by
 have q:=PySem.W.cellsFrom_some sc.names n [] (.inl h)
 exact De.mp q
theorem qx {CX:CXT}{P:Program}{w:BG}{K:Ba}{mg:Str->Option Value}{base:Heap}{N ps:List Str}{qual:Str}{scope:Scope}{f:Addr}{cd:Value}{A:BC}{outer:List Env}{s s1:A9}{H:Hp}{E:XK}{us:List Value}{vs:List V}
  (S:ax N ps scope) (hd:A.handled=none) (e0:Env0 P w K mg base A outer s H) (hl:vs.length=ps.length) (r:Vals vs us)
  (x:InCallC s 'n' (bindL (Ea qual scope 'n' f cd).kindOf (ps.zip us) fun _=>none) (cellsFrom ('n'+1) scope.names []) (bindC (Ea qual scope 'n' f cd).kindOf (ps.zip us) fun _=>none) s1) :
  Inv (bT CX P w K mg base N qual scope f cd A outer s H E) [] (eM N vs) H s1:=by
 have hpl:ps.length<=N.length:=by have:=congrArg Ce S.pre; rw [B9] at this; omega
 obtain ⟨h1,tk,rfl,hk⟩:=x.done
 have noA:∀b:Addr,b ∉ (bT CX P w K mg base N qual scope f cd A outer s H E).ex:=fun b z=>absurd (show b∈([]:List Addr) from z) 'e'
 refine ⟨⟨e0.mod,S.kind,rfl,rfl,Bb _,fun y z c h1 h2=>?_,fun y hy=>?_,fun y c _ h=>?_,fun _=>hd,BC.frames_deeper e0.frames,.inr ⟨rfl,rfl⟩,fun b z=>absurd z (noA b),e0.bs,e0.bsz,fun b _ _=>noA b,fun b z=>absurd z (noA b),e0.funs,e0.frf⟩,
  rfl,e0.bare,Un.kept hk,⟨_,x.toInCall.ns,fun i y v h1 h2 h3=>?_⟩,fun y c h=>⟨_,x.cell y c h⟩,e0.hok.fresh (Bb _),fun y c h=>?_,fun p hp=>absurd (show p∈([]:'m') from hp) 'e',e0.hok.kept hk,?_⟩
 ·exact name_of_addr x.apart (Cn h1) (Cn h2)
 ·have hy:scope.names.lookup y=some .cell\/scope.names.lookup y=some .free:=hy
  rcases hy with hy | hy
  ·exact lJ hy
  ·exact absurd rfl (S.nofree _ (Cn hy))
 ·exact EM (x.above y c (Cn h))
 ·have hi:i<vs.length:=by
   unfold eM at h2
   by_cases hi:i<vs.length
   ·exact hi
   ·rw [Bm (by simpa using hi)] at h2
    rw [FD] at h2
    split at h2 <;> cases h2
  have ha:vs[i]?=some v:=by
   unfold eM at h2
   rw [Bk (by simpa using hi),A5] at h2
   cases e:vs[i]? with
   | none=>rw [e] at h2; cases h2
   | some a=>rw [e] at h2; cases h2; rfl
  obtain ⟨u,hu,rv⟩:=r.get ha
  have hp:ps[i]?=some y:=by
   rw [<- S.pre,List.getElem?_take_of_lt 'b']; exact h1
  have ndP:ps.Nodup:=by rw [<- S.pre]; exact S.nd.sublist (List.take_sublist _ _)
  refine ⟨u,rv,?_⟩
  rcases S.par y (Bg hp) with k | k
  ·exact .inl ⟨k,jv ndP hp hu k⟩
  ·obtain ⟨c,e⟩:=lJ (n:='n'+1) k
   refine .inr ⟨.inl k,c,e,?_⟩
   have q:=x.cell y c e
   rw [jx ndP hp hu (by show scope.names.lookup y≠_; rw [k]; decide)] at q
   exact q
 ·exact e0.hok.fresh (EM (x.above y c (Cn h)))
 ·unfold eM
  show _=N.length
  rw [Bd,A2,CG]
  omega
/-- THE RULE: a def (or a method) of the text,by its body. The body's reading t is chosen for each entry; it is run at the parameters' values -/
theorem uz {CX:CXT}{P:Program}{w:BG}{K:Ba}{mg:Str->Option Value}{base:Heap}{k:Nat}{f:Addr}{name qual:Str}{params:Arguments}{body:List Stmt}{scope:Scope}{dV kV doc pm cdv ct oc:Value}{an od:Option Addr}
  {osl:Array (Option Value)}{N ps:List Str}{sp:Sp}(lk:K.lookup f=some ⟨oc,od,.func (DG name qual params body scope dV kV doc pm an cdv ct),osl⟩) (hcd:E6 K cdv qual=true) (S:ax N ps scope)
  (len:∀vs H Q E,sp vs H Q E->vs.length=ps.length)
  (hbody:∀(A:BC) (outer:List Env) (s:A9) (H:Hp) (vs:List V) (Q:VK) (E:XK),Room k (A.deeper (Ea qual scope 'n' f cdv))->sp vs H Q E ->
   ∃t,PSs (bT CX P w K mg base N qual scope f cdv A outer s H E) body t/\t { nx:=fun _ H'=>Q .non H',rt:=Q } (eM N vs) H) :
  aS P w K mg base CX (k+1) f (DG name qual params body scope dV kV doc pm an cdv ct) ps sp:=by
 refine ⟨len,fun A outer s H args us vs Q E hr e0 hb r hsp=>?_⟩
 have hl:=len _ _ _ _ hsp
 have KX:K.In s.heap:=e0.mod.kin.keeps fun b o e=>(e0.bs b o e).1
 have lim:s.heap.NoLimit:=e0.mod.nolimit.keeps fun b o e=>(e0.bs b o e).1
 have hkind:∀y∈ps.zip us,scope.names.lookup y.1=some .local\/(scope.names.lookup y.1=some .cell/\((cellsFrom ('n'+1) scope.names []).lookup y.1).isSome=true):=fun ⟨n,v⟩ hy=>by
  rcases S.par n (List.of_mem_zip hy).1 with q | q
  ·exact .inl q
  ·exact .inr ⟨q,PySem.W.cellsFrom_some _ _ _ (.inl q)⟩
 refine codeAny_call_function hr.depth (KX _ _ lk) rfl S.co S.gen rfl (PySem.W.codeRec_of KX hcd) (hb _ _ _ _ ?_)
 refine wpAny_newFunctionEnv_cells S.kind hkind fun env he s1 x=>?_
 subst he
 refine ⟨lim.keeps x.toInCall.keep,codeAny_func ?_⟩
 obtain ⟨t,ht,hq⟩:=hbody A outer s H vs Q E (hr.deeper _) hsp
 have I:Inv (bT CX P w K mg base N qual scope f cdv A outer s H E) [] (eM N vs) H s1:=qx S hr.hd e0 hl r x
 refine BJ (ht [] s1 (eM N vs) H _ I hq) (fun fl s' hs=>?_) fun e s' hs=>hs
 have fin:∀{σ':St}{H':Hp}{v:V}{u:Value},Inv (bT CX P w K mg base N qual scope f cdv A outer s H E) [] σ' H' s'->RelV v u->Q v H'->CE outer P w H s Q u s' :=
  fun {σ' H' v u} J rv q=>⟨v,H',J.os,J.bare,J.base,J.hok,rv,q⟩
 cases fl with
 | ret u =>
  obtain ⟨v,σ',H',J,rv,q⟩:=hs
  exact fin J rv q
 | next =>
  obtain ⟨σ',H',J,q⟩:=hs
  exact fin (v:=V.non) (u:=CA) J rfl q
 | brk =>
  obtain ⟨_,_,_,q⟩:=hs
  exact BM q
 | cont =>
  obtain ⟨_,_,_,q⟩:=hs
  exact BM q
section
variable {X:Cx}{x:Str}{p pos:Pos}{e:Expr}{es:List Expr}{t:TA}{id T:String}{r:List V->Hp->VK->Prop}
def tCB (r:List V->Hp->VK->Prop) (t:TA):TE:=fun σ H Q=>t σ H fun vs H1=>r vs H1 Q
theorem tz (hc:bz X (.builtin id) r) (hg:Gl X x) (hm:X.mg x=none) (hv:C8 x=some (.builtin id)) (ha:PA X (e :: es) t) (hn:x≠"__name__":=by decide) (hdb:'r'=false:=by decide)
  (he:B2 (e :: es) X.env=(false,eval e X.env) :: B2 es X.env:=by rfl) (hpl:(DM pos (B2 es X.env)).any (·.1)=false:=by rfl):PE X (.Call (.Name x p) (e :: es) [] pos) (tCB r t):=by
 intro pins s σ H Q I h
 refine EQ (bp I hg hm hv ?_ hn hdb)
 exact EC (thn (ha pos pins s σ H _ I h) fun us s1 ⟨vs,H1,I1,r1,q1⟩=>hc pins s1 σ H1 vs us Q I1 r1 q1) he hpl
theorem qg (hc:bz X (.type T) r) (hg:Gl X x) (hm:X.mg x=none) (hv:C8 x=some (.type T)) (ha:PA X (e :: es) t) (hn:x≠"__name__":=by decide) (hdb:'r'=false:=by decide)
  (he:B2 (e :: es) X.env=(false,eval e X.env) :: B2 es X.env:=by rfl) (hpl:(DM pos (B2 es X.env)).any (·.1)=false:=by rfl):PE X (.Call (.Name x p) (e :: es) [] pos) (tCB r t):=by
 intro pins s σ H Q I h
 refine EQ (bp I hg hm hv ?_ hn hdb)
 exact BU (thn (ha pos pins s σ H _ I h) fun us s1 ⟨vs,H1,I1,r1,q1⟩=>hc pins s1 σ H1 vs us Q I1 r1 q1) he hpl
end
end L2
namespace HT
open PySem PyProof.Rows
def lexLt:List Int->List Int->Bool
 | [],[]=>false
 | [],_ :: _=>true
 | _ :: _,[]=>false
 | x :: xs,y :: ys=>if x=y then lexLt xs ys else decide (x<y)
theorem lexLt_cons (x y:Int) (xs ys:List Int):lexLt (x :: xs) (y :: ys)=if x=y then lexLt xs ys else decide (x<y):=rfl
section
open PySem.SeqAt
open PySem.AutoSeq1 (wpAny_loadPart')
open PySem.MeetsSeq PySem.MeetsSeq2 PySem.MeetsSeq3
end
section
variable {prog:Program}{w:BG}{A:BC}{E:Value->A9->Prop}{s:A9}
theorem cat_tup {t b:Addr}{vs ws:List Value}{Q:Value->A9->Prop}(ht:IsTup s.heap t vs.toArray) (hb:IsTup s.heap b ws.toArray) (hv:vs≠[])
  (h1:ws=[]->Q (.ref t) s) (h2:ws≠[]->Q (.ref 'n') { s with heap:=s.heap.push { cls:=.type "tuple",data:=.seq (vs++ws).toArray } })
  (hsz:vs.length+ws.length<=sizeLine):Bl (Bv prog w) A (EW .Add (.ref t) (.ref b)) Q E s:=by
 obtain ⟨⟨cls,dd,data,sl⟩,ho,hc,n,hd⟩:=id ht
 obtain ⟨⟨cls2,dd2,data2,sl2⟩,ho2,hc2,n2,hd2⟩:=id hb
 simp only at hc hd hc2 hd2
 subst hc hd hc2 hd2
 have e:vs.toArray++ws.toArray=(vs++ws).toArray:=by simp
 by_cases hw:ws=[]
 ·exact concat_meets ⟨_,ho,rfl⟩ ⟨_,ho2,rfl⟩ noFill_tuple_add seq_tuple_add FO FE (Fs _ _)
   (tuple_addW1 t b vs.toArray ws.toArray n n2 dd dd2 sl sl2 (by simpa using hv) (by simp [hw])) ⟨ho,ho2,h1 hw⟩
 ·refine concat_meets ⟨_,ho,rfl⟩ ⟨_,ho2,rfl⟩ noFill_tuple_add seq_tuple_add FO FE (Fs _ _)
   (tuple_addW2 t b vs.toArray ws.toArray n n2 dd dd2 sl sl2 (by simpa using hv) (by simpa using hw) (by rw [Be,Be]; exact hsz)) ⟨ho,ho2,?_⟩
  rw [e]
  exact h2 hw
def sIx (n d:Nat):Option Int->Nat
 | none=>d
 | some v=>if v<0 then (v+(n:Int)).toNat else min v.toNat n
theorem sIx_none (n d:Nat):sIx n d none=d:=rfl
theorem sIx_nat (n d k:Nat):sIx n d (some (k:Int))=min k n:=by
 show (if (k:Int)<0 then ((k:Int)+(n:Int)).toNat else min (k:Int).toNat n)=min k n
 rw [if_neg 'b',Cy]
theorem yb (n d:Nat) (hd:d<=n) (o:Option Int):sIx n d o<=n:=by
 cases o with
 | none=>exact hd
 | some v =>
  show (if v<0 then (v+(n:Int)).toNat else min v.toNat n)<=n
  by_cases hv:v<0
  ·rw [if_pos hv]; omega
  ·rw [if_neg hv]; exact Nat.min_le_right _ _
theorem pi (v:Int) (n d:Nat):(if v<0 then max (v+(n:Int)) 0 else min v (n:Int))=((sIx n d (some v):Nat):Int):=by
 show (if v<0 then max (v+(n:Int)) 0 else min v (n:Int))=(((if v<0 then (v+(n:Int)).toNat else min v.toNat n):Nat):Int)
 by_cases hv:v<0
 ·simp only [if_pos hv]; omega
 ·simp only [if_neg hv]; omega
theorem m4 (lo hi:Option Int) (n:Nat):Fo lo hi 1 (n:Int)=(((sIx n 0 lo:Nat):Int),((sIx n n hi:Nat):Int)):=by
 have h1:¬ ((1:Int)<0):=by omega
 unfold Fo
 simp only [h1,if_false]
 refine Prod.ext ?_ ?_
 ·cases lo with
  | none=>rfl
  | some v=>exact pi v n 0
 ·cases hi with
  | none=>rfl
  | some v=>exact pi v n n
theorem mo (i j:Nat):Eb (i:Int) (j:Int) 1=j-i:=by
 unfold Eb
 have h1:(1:Int) > 0:=by omega
 simp only [h1,if_true,Int.ediv_one]
 split <;> omega
theorem gU {v:Value}{o:Option Int}{Q:Option Int->A9->Prop}(p:GJ v o) (h:Q o s):Bl (Bv prog w) A (Builtin.Slice.slicePartIndex v) Q E s:=by
 cases p with
 | none=>exact slicePart_none h
 | int i t=>exact slicePart_int h
theorem sliceApplied_gen {sl:Addr}{vl vu:Value}{lo hi:Option Int}{n:Nat}{Q:Int×Int×Nat->A9->Prop}(hs:s.heap.IsSliceOf sl vl vu .none) (pl:GJ vl lo) (pu:GJ vu hi)
  (h:Q (((sIx n 0 lo:Nat):Int),1,sIx n n hi-sIx n 0 lo) s):Bl (Bv prog w) A (Builtin.Slice.sliceApplied (.ref sl) (pure (n:Int))) Q E s:=by
 obtain ⟨os,hos,hcs,hds⟩:=id hs
 unfold Builtin.Slice.sliceApplied Builtin.Slice.sliceFields
 refine A3 (A3 (FF hos hds (x:=vl) rfl (A3 (FF hos hds (x:=vu) rfl (A3 (FF hos hds (x:=.none) rfl (Bc ?_)))))))
 refine A3 (slicePart_none ?_)
 show Bl _ _ (if ((1:Int) == 0)=true then _ else _) _ _ s
 rw [if_neg 'f']
 refine A3 (gU pl (A3 (gU pu (A3 (Bc ?_)))))
 show Bl _ _ (match Fo lo hi 1 (n:Int) with | (lo,hi)=>pure (lo,(1:Int),Eb lo hi 1)) _ _ s
 rw [m4 lo hi n]
 show Bl _ _ (pure (((sIx n 0 lo:Nat):Int),(1:Int),Eb ((sIx n 0 lo:Nat):Int) ((sIx n n hi:Nat):Int) 1)) _ _ s
 rw [mo]
 exact Bc h
theorem sO (xs:Array Value) (i k:Nat):((Bh k).filterMap fun (m:Nat)=>xs[((i:Int)+(m:Int)*1).toNat]?).toArray=((xs.toList.drop i).take k).toArray:=by
 have e:(fun (m:Nat)=>xs[((i:Int)+(m:Int)*1).toNat]?)=fun m=>xs[i+m]?:=by
  funext m
  have:((i:Int)+(m:Int)*1).toNat=i+m:=by omega
  rw [this]
 rw [e]
 have:=pick_run xs i k
 rw [List.filterMap_map] at this
 have e2:((fun x=>xs[x]?) ∘ fun x=>i+x)=fun m=>xs[i+m]?:=rfl
 rw [e2] at this
 rw [this]
theorem getItem_tuple_cut {t sl:Addr}{items:Array Value}{vl vu:Value}{lo hi:Option Int}{Q:Value->A9->Prop}(ht:IsTup s.heap t items) (hs:s.heap.IsSliceOf sl vl vu .none) (pl:GJ vl lo) (pu:GJ vu hi)
  (hw:¬ (sIx items.size 0 lo=0/\sIx items.size items.size hi=items.size))
  (h:Q (.ref 'n') { s with heap:=s.heap.push { cls:=.type "tuple",data:=.seq ((items.toList.drop (sIx items.size 0 lo)).take (sIx items.size items.size hi-sIx items.size 0 lo)).toArray } })
  (hsz:items.size<=sizeLine):Bl (Bv prog w) A (Gv (.ref t) (.ref sl)) Q E s:=by
 have htake:sizeOk (.seq ((items.toList.drop (sIx items.size 0 lo)).take (sIx items.size items.size hi-sIx items.size 0 lo)).toArray):=by
  show ((items.toList.drop (sIx items.size 0 lo)).take (sIx items.size items.size hi-sIx items.size 0 lo)).toArray.size<=sizeLine
  rw [Be,B9,Fd,B8]
  omega
 have hj:sIx items.size items.size hi<=items.size:=yb _ _ (Bb _) hi
 obtain ⟨os,hos,hcs,hds⟩:=id hs
 have hTs:s.TypeIs (.ref sl) "slice":=⟨os,hos,hcs⟩
 unfold Gv
 try with_reducible refine B0 ?_
 first | refine A3 (Bc ?_) | skip
 refine A3 (wpAny_sequenceKey ht.typeIs 'f' ?_)
 refine A3 (Di (name:=Df "__getitem__") ht.typeIs C1
  (Cq C1 ht.typeIs entry_tuple_getitem ?_ (args_tuple_getitem _ _)))
 show Bl _ _ (Builtin.Tuple.tupleItemsOf (.ref t) >>= _) _ _ s
 refine A3 (tupleItemsOf_ ht ?_)
 refine A3 (Gw hTs ?_)
 rw [if_pos 'f']
 refine A3 (sliceApplied_gen hs pl pu ?_)
 have hno:¬ ((((sIx items.size 0 lo:Nat):Int) == 0&&(1:Int) == 1&&(sIx items.size items.size hi-sIx items.size 0 lo) == items.size)=true):=by
  intro q
  rw [ED,ED] at q
  have q1:((sIx items.size 0 lo:Nat):Int)=0:=eq_of_beq q.1.1
  have q2:sIx items.size items.size hi-sIx items.size 0 lo=items.size:=eq_of_beq q.2
  exact hw ⟨by omega,by omega⟩
 show Bl _ _ (if (((sIx items.size 0 lo:Nat):Int) == 0&&(1:Int) == 1&&(sIx items.size items.size hi-sIx items.size 0 lo) == items.size)=true then _ else _) _ _ s
 rw [if_neg hno,sO]
 first
  | exact A3 (m:=En _) (Cr (Bc ⟨_,rfl,Bc h⟩) htake)
  | exact A3 (m:=En _) (Cr (A3 (Bc (Bc ⟨_,rfl,Bc h⟩))) htake)
  | exact A3 (A3 (m:=En _) (Cr (Bc (Bc ⟨_,rfl,Bc h⟩)) htake))
  | exact A3 (A3 (m:=En _) (Cr (Bc ⟨_,rfl,Bc h⟩) htake))
end
end HT
namespace L2
open PySem PySem.Spec PyProof.Rows
abbrev TO:=St->Hp->(Option Int->Hp->Prop)->Prop
def PO (X:Cx) (e:Option Expr) (t:TO):Prop :=
 ∀(pins:'m') (s:A9) (σ:St) (H:Hp) (Q:Option Int->Hp->Prop),Inv X pins σ H s->t σ H Q ->
  Bl (Bv X.prog X.w) X.A (evalPart e X.env) (fun u s'=>∃o H',Inv X pins σ H' s'/\GJ u o/\Q o H') X.xe s
def ny:TO:=fun _ H Q=>Q none H
def wX (t:TE):TO:=fun σ H Q=>t σ H fun x H1=>∃i,x=.int i/\Q (some i) H1
section
variable {X:Cx}{e:Expr}{te:TE}{lo hi:Option Expr}{tl th:TO}{pos p2:Pos}
theorem vB:PO X none ny:=by
 intro pins s σ H Q I h
 rw [evalPart_none]
 exact Bc ⟨none,H,I,.none,h⟩
theorem vA (h:PE X e te):PO X (some e) (wX te):=by
 intro pins s σ H Q I hw
 rw [evalPart_some]
 refine thn (h pins s σ H _ I hw) fun u s1 ⟨x,H1,I1,r1,q1⟩=>?_
 obtain ⟨i,rfl,q⟩:=q1
 obtain ⟨t,rfl⟩:=r1
 exact ⟨some i,H1,I1,.int i t,q⟩
def SlR (X:Cx) (r:V->Option Int->Option Int->Hp->VK->Prop):Prop :=
 ∀(pins:'m') (s:A9) (σ:St) (H:Hp) (x:V) (v vl vu:Value) (lo hi:Option Int) (sl:Addr) (Q:VK),Inv X pins σ H s->RelV x v->s.heap.IsSliceOf sl vl vu .none->GJ vl lo->GJ vu hi->r x lo hi H Q ->
  ∃T id,typeLookup (.type T) "__getitem__"=pure (some (.builtin id))/\s.TypeIs v T/\Bl (Bv X.prog X.w) X.A (Gv v (.ref sl)) (EP X pins σ Q) X.xe s
def tSl (r:V->Option Int->Option Int->Hp->VK->Prop) (te:TE) (tl th:TO):TE:=fun σ H Q=>te σ H fun x H1=>tl σ H1 fun l H2=>th σ H2 fun u H3=>r x l u H3 Q
theorem sS {r:V->Option Int->Option Int->Hp->VK->Prop}(hr:SlR X r) (he:PE X e te) (hl:PO X lo tl) (hu:PO X hi th):PE X (.Subscript e (.Slice lo hi none p2) pos) (tSl r te tl th):=by
 intro pins s σ H Q I h
 refine Subscript_ (thn (he pins s σ H _ I h) fun v s1 ⟨x,H1,I1,r1,q1⟩=>?_)
 refine wpAny_Slice (thn (hl pins s1 σ H1 _ I1 q1) fun vl s2 ⟨l,H2,I2,pl,q2⟩=>thn (hu pins s2 σ H2 _ I2 q2) fun vu s3 ⟨u,H3,I3,pu,q3⟩=>?_)
 rw [evalPart_none]
 refine Bc ?_
 have I4:Inv X pins σ H3 { s3 with heap:=s3.heap.push { cls:=.type "slice",data:=.fields #[vl,vu,.none] } }:=I3.kept (t':=s3.toks) fun b ob q=>A6 _ q
 obtain ⟨T,id,hT,ht,hg⟩:=hr pins { s3 with heap:=s3.heap.push { cls:=.type "slice",data:=.fields #[vl,vu,.none] } } σ H3 x v vl vu l u s3.heap.objs.size Q I4 r1 (Heap.IsSliceOf.new ..) pl pu q3
 show Bl (Bv X.prog X.w) X.A (subscriptTail e (.Slice lo hi none p2) v (.ref s3.heap.objs.size)) (EP X pins σ Q) X.xe { s3 with heap:=s3.heap.push { cls:=.type "slice",data:=.fields #[vl,vu,.none] } }
 exact tail_any (ops:=[.ref s3.heap.objs.size,v]) ht hT hg (by with_unfolding_all rfl)
def fg (xs:List V) (lo hi:Option Int):List V:=(xs.drop (HT.sIx xs.length 0 lo)).take (HT.sIx xs.length xs.length hi-HT.sIx xs.length 0 lo)
theorem gD (xs:List V) (lo hi:Option Int):(fg xs lo hi).length<=xs.length:=by
 unfold fg
 rw [B9,Fd]
 omega
theorem Vals.nil_iff {xs:List V}{us:List Value}(r:Vals xs us):us=[]↔xs=[]:=by
 cases r with
 | nil=>simp
 | cons _ _=>simp
end
def ixN (n:Nat) (i:Int):Option Nat:=if 0<=i then (if i<n then some i.toNat else none) else if -(n:Int)<=i then some (i+n).toNat else none
def atI {α:Type}(xs:List α) (i:Int):Option α:=(ixN xs.length i).bind fun j=>xs[j]?
theorem oG {n:Nat}{i:Int}{j:Nat}(h:ixN n i=some j):seqIndex? i n=some j/\j<n/\-(n:Int)<=i/\i<n:=by
 unfold ixN at h
 by_cases h0:0<=i
 ·rw [if_pos h0] at h
  by_cases h1:i<n
  ·rw [if_pos h1] at h
   have e:i.toNat=j:=BP h
   exact ⟨by rw [seqIndex_of h0 h1,e],by omega,by omega,h1⟩
  ·rw [if_neg h1] at h; cases h
 ·rw [if_neg h0] at h
  by_cases h1:-(n:Int)<=i
  ·rw [if_pos h1] at h
   have e:(i+n).toNat=j:=BP h
   exact ⟨by rw [seqIndex_neg 'b' h1,e],by omega,h1,by omega⟩
  ·rw [if_neg h1] at h; cases h
theorem pv {α:Type}{xs:List α}{i:Int}{v:α}(h:atI xs i=some v):∃j,seqIndex? i xs.length=some j/\xs[j]?=some v/\j<xs.length/\-(xs.length:Int)<=i/\i<xs.length:=by
 unfold atI at h
 cases e:ixN xs.length i with
 | none=>rw [e] at h; cases h
 | some j =>
  rw [e] at h
  obtain ⟨h1,h2,h3,h4⟩:=oG e
  exact ⟨j,h1,h,h2,h3,h4⟩
theorem af {α:Type}{xs:List α}{j:Nat}{v:α}(h:xs[j]?=some v):atI xs (j:Int)=some v:=by
 have hj:j<xs.length:=(A8.mp h).1
 have e:ixN xs.length (j:Int)=some j:=by
  unfold ixN
  rw [if_pos 'b',if_pos 'b']; simp
 unfold atI; rw [e]; exact h
theorem iB {α:Type}(xs:List α) (v:α):atI (xs++[v]) (-1)=some v:=by
 have hl:(xs++[v]).length=xs.length+1:=by simp
 have e:ixN (xs++[v]).length (-1)=some xs.length:=by
  unfold ixN
  rw [hl,if_neg 'f',if_pos 'b']
  congr 1
  omega
 unfold atI
 rw [e]
 show (xs++[v])[xs.length]?=some v
 simp
def pC (b:Expr):Prop:=∀o i,subscripted b false o i=operate [o,i] (Gv o i)
def IxR (X:Cx) (r:R2):Prop :=
 ∀(value slice:Expr) (pins:'m') (s:A9) (σ:St) (H:Hp) (x y:V) (v u:Value) (Q:VK),Inv X pins σ H s->RelV x v->RelV y u->r x y H Q ->
  subscripted slice false v u=operate [v,u] (Gv v u)->Bl (Bv X.prog X.w) X.A (subscriptTail value slice v u) (EP X pins σ Q) X.xe s
def MtR (X:Cx) (id:String) (r:V->List V->Hp->VK->Prop):Prop :=
 ∀(pins:'m') (s:A9) (σ:St) (H:Hp) (x:V) (xs:List V) (v:Value) (us:List Value) (Q:VK),Inv X pins σ H s->RelV x v->Vals xs us->r x xs H Q ->
  Bl (Bv X.prog X.w) X.A (call (.builtin id) (v :: us)) (EP X pins σ Q) X.xe s
section
variable {X:Cx}{a b:Expr}{ta tb:TE}{pos:Pos}
theorem z_ {r:R2}(hr:IxR X r) (ha:PE X a ta) (hb:PE X b tb) (hs:pC b):PE X (.Subscript a b pos) (tOp r ta tb):=by
 intro pins s σ H Q I h
 exact Subscript_ (zn ha hb I h fun v u s2 x y H2 I2 rx ry q=>hr a b pins s2 σ H2 x y v u Q I2 rx ry q (hs _ _))
def z4 (K:Ba):R2:=fun x y H Q=>∃p xs i v,x=.ref p/\y=.int i/\SqL K H p xs/\atI xs i=some v/\Q v H
def zZ (K:Ba):R2:=fun x y H Q=>∃p xs i v,x=.ref p/\y=.int i/\SqT K H p xs/\atI xs i=some v/\Q v H
theorem aw:IxR X (z4 X.K):=by
 intro value slice pins s σ H x y v u Q I rx ry h hs
 obtain ⟨p,xs,i,z,rfl,rfl,hq,he,q⟩:=h
 cases rx
 obtain ⟨t,rfl⟩:=ry
 obtain ⟨its,r,pl,hz⟩:=I.list hq
 obtain ⟨j,h1,h2,h3,h4,h5⟩:=pv he
 obtain ⟨w,ew,rw'⟩:=r.get h2
 have hl:=r.length
 have hn:=ia
 have fin:EP X pins σ Q w s:=⟨z,H,I,rw',q⟩
 by_cases h0:0<=i
 ·have hj:i.toNat=j:=by
   rw [seqIndex_of h0 h5] at h1
   exact BP h1
  exact item_listR pl.isList h0 'b' (by rw [hj]; simpa using ew) fin hs
 ·have hj:(i+(its.toArray.size:Int)).toNat=j:=by
   rw [seqIndex_neg 'b' h4] at h1
   rw [Be,<- hl]
   exact BP h1
  exact subscriptTail_builtinR (x:=w) pl.isList.typeIs slot_list_getitem.lookup
   (wpAny_getItem_list_neg (Q:=fun r s'=>r=w/\EP X pins σ Q r s') pl.isList 'b' (by rw [Be] <;> omega) 'b' (by rw [hj]; simpa using ew) ⟨rfl,fin⟩) hs
theorem az:IxR X (zZ X.K):=by
 intro value slice pins s σ H x y v u Q I rx ry h hs
 obtain ⟨p,xs,i,z,rfl,rfl,hq,he,q⟩:=h
 cases rx
 obtain ⟨t,rfl⟩:=ry
 obtain ⟨its,r,pl,hz⟩:=I.tuple hq
 obtain ⟨j,h1,h2,h3,h4,h5⟩:=pv he
 obtain ⟨w,ew,rw'⟩:=r.get h2
 have hl:=r.length
 have hn:=ia
 have fin:EP X pins σ Q w s:=⟨z,H,I,rw',q⟩
 exact subscriptTail_builtinR (x:=w) pl.typeIs slot_tuple_getitem.lookup
  (getItem_tuple (j:=j) (Q:=fun r s'=>r=w/\EP X pins σ Q r s') pl 'b' 'b' (by rw [Be,<- hl]; exact h1) (by simpa using ew) ⟨rfl,fin⟩) hs
theorem mF (its:List Value) (n j:Nat) (u:Value):BS (·.setIfInBounds j u) { cls:=.type "list",data:=.seq its.toArray n }={ cls:=.type "list",data:=.seq (its.set j u).toArray n }:=by
 simp [BS]
theorem Inv.lst {pins:'m'}{σ:St}{H:Hp}{s:A9}{p:Addr}{xs:List V}(I:Inv X pins σ H s) (h:H p=some (.lst xs)) :
  ∃(its:List Value) (n:Nat),Vals xs its/\s.heap.get? p=some { cls:=.type "list",data:=.seq its.toArray n }/\xs.length<=sizeLine:=by
 obtain ⟨z,its,n,r,e⟩:=I.hok p _ h
 exact ⟨its,n,r,e,z⟩
theorem Inv.lstUpd {pins:'m'}{σ:St}{H:Hp}{s:A9}{p:Addr}{xs ys:List V}{its its':List Value}{n n':Nat}{f:Obj->Obj}(I:Inv X pins σ H s) (h:H p=some (.lst xs))
  (ho:s.heap.get? p=some { cls:=.type "list",data:=.seq its.toArray n }) (hf:f { cls:=.type "list",data:=.seq its.toArray n }={ cls:=.type "list",data:=.seq its'.toArray n' }) (r:Vals ys its') (hz:ys.length<=sizeLine) (t:Nat) :
  Inv X pins σ (upd H p (.lst ys)) { s with heap:=s.heap.update p f,toks:=t }:=by
 have e:(s.heap.update p f).get? p=some { cls:=.type "list",data:=.seq its'.toArray n' }:=by
  rw [Cl f ho (by rw [hf] <;> rfl),hf]
 refine I.write (x:=p) (e:=p) (by rw [h]; trivial) (.inl rfl) (fun b u hb q=>(Ch _ _ (Co hb)).trans q) ⟨_,e⟩ ?_
 exact ⟨hz,its',n',r,e⟩
def xj:V->V->V->Hp->(Hp->Prop)->Prop:=fun o i v H Q=>∃p xs k j,o=.ref p/\i=.int k/\H p=some (.lst xs)/\ixN xs.length k=some j/\Q (upd H p (.lst (xs.set j v)))
theorem sr:AF X xj:=by
 intro pins s σ H o i v ov iv u Q I ro ri rv h
 obtain ⟨p,xs,k,j,rfl,rfl,hp,hj,q⟩:=h
 cases ro
 obtain ⟨t,rfl⟩:=ri
 obtain ⟨its,n,r,ho,hz⟩:=I.lst hp
 obtain ⟨h1,h2,h3,h4⟩:=oG hj
 have hl:=r.length
 have hn:=ia
 have I':Inv X pins σ (upd H p (.lst (xs.set j v))) { s with heap:=s.heap.update p (BS (·.setIfInBounds j u)) } :=
  I.lstUpd hp ho (mF its n j u) (r.set rv j) (by rw [Fy]; exact hz) s.toks
 by_cases h0:0<=k
 ·have hk:k.toNat=j:=by
   rw [seqIndex_of h0 h4] at h1
   exact BP h1
  exact PySem.W.ki_setAt ho h0 'b' (by rw [Be,<- hl]; exact h4) (by rw [hk]; exact ⟨_,I',q⟩)
 ·have hk:(k+(its.toArray.size:Int)).toNat=j:=by
   rw [seqIndex_neg 'b' h3] at h1
   rw [Be,<- hl]
   exact BP h1
  exact PySem.W.ki_setBack ho 'b' (by rw [Be,<- hl]; exact h3) 'b' (by rw [hk]; exact ⟨_,I',q⟩)
theorem jE (lo hi:Option Int) (n:Nat):(FG lo hi none n).1=((HT.sIx n 0 lo:Nat):Int)/\(FG lo hi none n).2.1=((HT.sIx n n hi:Nat):Int)/\(FG lo hi none n).2.2=1:=by
 refine ⟨?_,?_,rfl⟩
 ·cases lo with
  | none=>simp [FG,HT.sIx]
  | some i =>
   simp only [FG,HT.sIx,Option.getD_none,show (1:Int) > 0 by decide,if_true]
   by_cases h:i<0
   ·simp only [h,if_true] <;> omega
   ·simp only [h,if_false] <;> omega
 ·cases hi with
  | none=>simp [FG,HT.sIx]
  | some i =>
   simp only [FG,HT.sIx,Option.getD_none,show (1:Int) > 0 by decide,if_true]
   by_cases h:i<0
   ·simp only [h,if_true] <;> omega
   ·simp only [h,if_false] <;> omega
theorem iE (its:List Value) (lo hi:Option Int):slicePick its.toArray lo hi none=((its.drop (HT.sIx its.length 0 lo)).take (HT.sIx its.length its.length hi-HT.sIx its.length 0 lo)).toArray:=by
 obtain ⟨h1,h2,h3⟩:=jE lo hi its.toArray.size
 unfold slicePick
 rw [h1,h2,h3]
 simp only [sliceRange_one,pick_run,Be] <;> rfl
def AK (K:Ba):V->Option Int->Option Int->Hp->VK->Prop:=fun x lo hi H Q=>∃a xs,x=.ref a/\SqL K H a xs/\∀p,H p=none->Q (.ref p) (upd H p (.lst (fg xs lo hi)))
theorem jF:SlR X (AK X.K):=by
 intro pins s σ H x v vl vu lo hi sl Q I rx hs pl pu h
 obtain ⟨a,xs,rfl,hx,q⟩:=h
 cases rx
 obtain ⟨its,r,ht,hz⟩:=I.list hx
 have hlen:=r.length
 refine ⟨"list",_,slot_list_getitem.lookup,ht.isList.typeIs,?_⟩
 refine wpAny_getItem_list_slice ht.isList hs pl pu .none 'e' ?_ (by rw [Be] <;> omega)
 rw [iE,<- hlen]
 refine ⟨.ref 'n',_,I.laid (t':=s.toks) (o:=.lst (fg xs lo hi)) (fun b ob q=>A6 _ q) (Bb _) ?_,rfl,q _ (I.hok.fresh (Bb _))⟩
 exact ⟨BR (gD xs lo hi) hz,_,0,(r.drop (HT.sIx xs.length 0 lo)).take (HT.sIx xs.length xs.length hi-HT.sIx xs.length 0 lo),Bj _ rfl⟩
theorem ao:bz X (.builtin "len") (fun xs H Q=>∃p ys,xs=[.ref p]/\(SqL X.K H p ys\/SqT X.K H p ys)/\Q (.int ys.length) H):=by
 intro pins s σ H xs us Q I r h
 obtain ⟨p,ys,rfl,hq,q⟩:=h
 obtain ⟨u,rfl,rx⟩:=bR r
 cases rx
 have hn:=ia
 rcases hq with hq | hq
 ·obtain ⟨its,r',pl,hz⟩:=I.list hq
  have hlen:=r'.length
  exact Calls.call_len_list pl.isList (by simp only [Be] <;> omega) ⟨.int ys.length,H,I.tok _,⟨s.toks+1,by rw [Be,hlen]⟩,q⟩
 ·obtain ⟨its,r',pl,hz⟩:=I.tuple hq
  have hlen:=r'.length
  exact len_tuple pl (by simp only [Be] <;> omega) ⟨.int ys.length,H,I.tok _,⟨s.toks+1,by rw [Be,hlen]⟩,q⟩
theorem fN:bz X (.type "list") (fun xs H Q=>∃p ys,xs=[.ref p]/\(SqL X.K H p ys\/SqT X.K H p ys)/\∀l,H l=none->Q (.ref l) (upd H l (.lst ys))):=by
 intro pins s σ H xs us Q I r h
 obtain ⟨p,ys,rfl,hq,q⟩:=h
 obtain ⟨u,rfl,rx⟩:=bR r
 cases rx
 have fin:∀(its:List Value),Vals ys its->ys.length<=sizeLine->∀(h':Heap) (c':Nat),(∀b o',s.heap.get? b=some o'->h'.get? b=some o') ->
   h'.get? 'n'=some { cls:=.type "list",dict:=none,data:=.seq its.toArray c',slots:=#[] }->EP X pins σ Q (.ref 'n') { s with heap:=h' }:=fun its r' hz h' c' kp e =>
  ⟨.ref 'n',_,I.laid (t':=s.toks) kp (Bb _) (show ObjOk X.prog X.w _ h' _ (.lst ys) from ⟨hz,its,c',r',e⟩),rfl,q _ (I.hok.fresh (Bb _))⟩
 rcases hq with hq | hq
 ·obtain ⟨its,r',pl,hz⟩:=I.list hq
  have hlen:=r'.length
  obtain ⟨o,ho,hc,n,hd⟩:=pl.isList
  exact call_list_seq p (.inl rfl) ho hc hd (fun h' c' kp e=>fin its r' hz h' c' kp e) (by simp only [Be] <;> omega)
 ·obtain ⟨its,r',pl,hz⟩:=I.tuple hq
  have hlen:=r'.length
  obtain ⟨o,ho,hc,n,hd⟩:=pl
  exact call_list_seq p (.inr rfl) ho hc hd (fun h' c' kp e=>fin its r' hz h' c' kp e) (by simp only [Be] <;> omega)
def tyV (K:Ba) (T:String) (x:V) (H:Hp):Prop:=match x with
 | .str _=>T="str"
 | .int _=>T="int"
 | .ref p=>(T="list"/\∃xs,SqL K H p xs)\/(T="tuple"/\∃o,K.lookup p=some o/\o.cls=.type "tuple"/\o.dict=none) \/
   (T="dict"/\((∃kvs,H p=some (.dK kvs))\/∃kvs,H p=some (.dT kvs)))\/(T="set"/\∃S n,H p=some (.set S n))
 | _=>False
theorem xP {pins:'m'}{σ:St}{H:Hp}{s:A9}{T:String}{x:V}{v:Value}(I:Inv X pins σ H s) (r:RelV x v) (ty:tyV X.K T x H) :
  s.TypeIs v T/\∀a,v=.ref a->∃ob,s.heap.get? a=some ob/\ob.dict=none:=by
 cases x with
 | str z =>
  obtain ⟨t,rfl⟩:=r
  cases (show T="str" from ty)
  exact ⟨typeIs_str s z t,fun _ e=>nomatch e⟩
 | int i =>
  obtain ⟨t,rfl⟩:=r
  cases (show T="int" from ty)
  exact ⟨typeIs_int s i t,fun _ e=>nomatch e⟩
 | ref p =>
  cases r
  rcases ty with ⟨rfl,xs,hq⟩ | ⟨rfl,o,hk,hc,hd⟩ | ⟨rfl,hk⟩ | ⟨rfl,S,n,hk⟩
  ·obtain ⟨its,_,pl,_⟩:=I.list hq
   refine ⟨pl.isList.typeIs,fun a e=>?_⟩
   cases e
   obtain ⟨o,n,e,c,hd,_⟩:=pl
   exact ⟨o,e,hd⟩
  ·refine ⟨⟨o,I.kIn p o hk,hc⟩,fun a e=>?_⟩
   cases e
   exact ⟨o,I.kIn _ o hk,hd⟩
  ·have z:∃o,s.heap.get? p=some o/\o.ExactDict:=by
    rcases hk with ⟨kvs,hk⟩ | ⟨kvs,hk⟩
    ·obtain ⟨_,_,_,_,o,_,_,e,ex,_⟩:=I.hok p _ hk
     exact ⟨o,e,ex⟩
    ·obtain ⟨_,_,_,_,o,_,_,e,ex,_⟩:=I.hok p _ hk
     exact ⟨o,e,ex⟩
   obtain ⟨o,e,ex⟩:=z
   refine ⟨⟨o,e,ex.1⟩,fun a e2=>?_⟩
   cases e2
   exact ⟨o,e,ex.2.1⟩
  ·obtain ⟨o,_,_,_,e,ex,_⟩:=I.hok p _ hk
   refine ⟨⟨o,e,ex.1⟩,fun a e2=>?_⟩
   cases e2
   exact ⟨o,e,ex.2.1⟩
 | _=>exact BM ty
def tBM (K:Ba) (T:String) (r:V->List V->Hp->VK->Prop) (to:TE) (t:TA):TE:=fun σ H Q=>to σ H fun x H1=>tyV K T x H1/\t σ H1 fun xs H2=>r x xs H2 Q
variable {o e:Expr}{es:List Expr}{to:TE}{t:TA}{name:Str}{apos cpos:Pos}{T id:String}{r:V->List V->Hp->VK->Prop}
theorem xl (pa:PlainAttrs T) (slot:Slot T name id) (hty:typeOf (.builtin id)=pure (.type "method_descriptor")) (hm:MtR X id r) (ho:PE X o to) (ha:PA X (e :: es) t)
  (hbase:Dl o name X.env (eval o X.env)=eval o X.env:=by rfl)
  (hfew:((DM cpos (B2 (e :: es) X.env)).all (fun x=>!x.1)&&(backToKw cpos (keywordEach [] X.env)).all (fun x=>x.1.isSome)
  &&decide ((e :: es).length+([]:List Keyword).length+(if ([]:List Keyword).isEmpty then 0 else 1)<30))=true:=by rfl)
  (hline:(apos.endLine == cpos.line)=true:=by rfl) (hs:B2 (e :: es) X.env=(false,eval e X.env) :: B2 es X.env:=by rfl) (hplain:(DM cpos (B2 es X.env)).any (·.1)=false:=by rfl) :
  PE X (.Call (.Attribute o name apos) (e :: es) [] cpos) (tBM X.K T r to t):=by
 intro pins s σ H Q I h
 refine wpAny_Call_method_late hbase hfew hline rfl (thn (ho pins s σ H _ I h) fun v s1 ⟨x,H1,I1,r1,ty,q1⟩=>?_)
 obtain ⟨h1,h2⟩:=xP I1 r1 ty
 refine ⟨T,id,pa,slot,hty,h1,h2,?_⟩
 have hA:=ha cpos pins s1 σ H1 _ I1 q1
 rw [hs] at hA ⊢
 refine ER (by show (false||(DM cpos (B2 es X.env)).any (·.1))=false; rw [hplain] <;> rfl) (E7 ?_)
 exact thn hA fun us s2 ⟨vs,H2,I2,r2,q2⟩=>hm pins s2 σ H2 x vs v us Q I2 r1 r2 q2
end
def MtM (X:Cx) (id:String) (r:V->List V->Hp->VK->Prop):Prop :=
 ∀(pins:'m') (s:A9) (σ:St) (H:Hp) (x:V) (xs:List V) (v:Value) (us:List Value) (Q:VK),Inv X pins σ H s->RelV x v->Vals xs us->r x xs H Q ->
  Bl (Bv X.prog X.w) X.A (call (.builtin id) (v :: us)) (EP X pins σ Q) X.xe s
theorem Vals.one:∀{x:V}{us:List Value},Vals [x] us->∃u,us=[u]/\RelV x u
 | _,_,.cons r .nil=>⟨_,rfl,r⟩
theorem Vals.rep {xs:List V}{us:List Value}(h:Vals xs us):∀k:Nat,Vals (BF k xs).flatten (BF k us).flatten
 | 0=>.nil
 | k+1=>by
  rw [CP,CP,Eh,Eh]
  exact Vals.append h (Vals.rep h k)
theorem jj (its:List Value):∀(k:Nat) (acc:List Value),
  Gz (fun x1 x2=>x1++x2) acc.toArray (BF k its.toArray)=(acc++(BF k its).flatten).toArray
 | 0,acc=>by simp
 | k+1,acc=>by
  have e:acc.toArray++its.toArray=(acc++its).toArray:=by simp
  have e2:(acc++its)++(BF k its).flatten=acc++(BF (k+1) its).flatten:=by
   rw [CP,Eh,Cj]
  rw [<- e2,<- jj its k (acc++its),<- e,CP,Gr]
section
variable {X:Cx}{pins:'m'}{σ:St}{H:Hp}{s:A9}{l b:Addr}{xs ys zs:List V}
theorem Inv.lset {its its':List Value}{n:Nat}{f:Array Value->Array Value}{t':Nat}(I:Inv X pins σ H s) (hH:H l=some (.lst xs))
  (e:s.heap.get? l=some { cls:=.type "list",data:=.seq its.toArray n }) (hf:f its.toArray=its'.toArray) (hv:Vals ys its') (hz:ys.length<=sizeLine) :
  Inv X pins σ (upd H l (.lst ys)) { s with heap:=s.heap.update l (BS f),toks:=t' }:=by
 have q:=PySem.IsL.update e f
 rw [hf] at q
 refine I.write (x:=l) (e:=l) (by rw [hH]; exact trivial) (.inl rfl) (fun b' u hb hu=>(Ch s.heap (BS f) (Co hb)).trans hu) ⟨_,q⟩ ?_
 exact ⟨hz,its',_,hv,q⟩
theorem Inv.lnew {its:List Value}{t':Nat}(I:Inv X pins σ H s) (hv:Vals ys its) (hz:ys.length<=sizeLine) :
  Inv X pins σ (upd H 'n' (.lst ys)) { s with heap:=s.heap.push { cls:=.type "list",data:=.seq its.toArray },toks:=t' } :=
 I.laid (fun _ _ q=>A6 _ q) (Bb _) ⟨hz,its,0,hv,Bj _ rfl⟩
theorem Inv.fresh (I:Inv X pins σ H s):H 'n'=none:=I.hok.fresh (Bb _)
theorem Inv.lstM (I:Inv X pins σ H s) (hH:H l=some (.lst xs)):xs.length<=sizeLine/\∃(its:List Value) (n:Nat),Vals xs its/\xs.length=its.length/\s.heap.get? l=some { cls:=.type "list",data:=.seq its.toArray n }:=by
 obtain ⟨z,its,n,r,e⟩:=I.hok l _ hH
 exact ⟨z,its,n,r,r.length,e⟩
theorem kO {n:Nat}(h:n<=sizeLine):Eo n=false:=by
 unfold Eo
 exact decide_eq_false 'b'
end
section
variable {X:Cx}
def n9:V->List V->Hp->VK->Prop:=fun x vs H Q=>∃l xs y,x=.ref l/\vs=[y]/\H l=some (.lst xs)/\xs.length<sizeLine/\Q .non (upd H l (.lst (xs++[y])))
theorem ja:MtM X "list.append" n9:=by
 intro pins s σ H x vs v us Q I rx rv h
 obtain ⟨l,xs,y,rfl,rfl,hH,hz,q⟩:=h
 cases rx
 obtain ⟨u,rfl,ru⟩:=rv.one
 obtain ⟨z,its,n,r,hl,e⟩:=I.lstM hH
 refine call_meets F.slot_list_append ⟨_,e,rfl⟩ F.entry_list_append (F.args_list_append_2 _ _) (PySem.list_append l its.toArray n u (by rw [Be]; omega)) ⟨e,?_⟩
 refine ⟨.non,_,I.lset (its':=its++[u]) hH e 'e' (r.append (.cons ru .nil)) ?_,rfl,q⟩
 rw [Bd,BZ]
 omega
def n8:V->List V->Hp->VK->Prop:=fun x vs H Q=>∃l b xs zs,x=.ref l/\vs=[.ref b]/\H l=some (.lst xs)/\H b=some (.lst zs)/\xs.length+zs.length<=sizeLine/\Q .non (upd H l (.lst (xs++zs)))
theorem qm:MtM X "list.extend" n8:=by
 intro pins s σ H x vs v us Q I rx rv h
 obtain ⟨l,b,xs,zs,rfl,rfl,hH,hB,hz,q⟩:=h
 cases rx
 obtain ⟨u,rfl,ru⟩:=rv.one
 cases ru
 obtain ⟨z,its,n,r,hl,e⟩:=I.lstM hH
 obtain ⟨z2,its2,n2,r2,hl2,e2⟩:=I.lstM hB
 have hsz:its.toArray.size+its2.toArray.size<=sizeLine:=by rw [Be,Be]; omega
 have hlong:¬ (!its.toArray.isEmpty&&Eo (its.toArray.size+its2.toArray.size))=true:=by
  rw [kO hsz,GA]
  exact Bx
 refine call_meets F.slot_list_extend ⟨_,e,rfl⟩ F.entry_list_extend (F.args_list_extend_2 _ _)
  (AutoSeq1.list_extend_list_list_0 l its.toArray n b its2.toArray n2 hlong (by rw [Be]; omega) 'b') ⟨e,e2,?_⟩
 refine ⟨.non,_,I.lset (its':=its++its2) hH e 'e' (r.append r2) ?_,rfl,q⟩
 rw [Bd]
 omega
def AQ:R2:=fun x y H Q=>∃l b xs zs,x=.ref l/\y=.ref b/\H l=some (.lst xs)/\H b=some (.lst zs)/\xs.length+zs.length<=sizeLine/\∀p,H p=none->Q (.ref p) (upd H p (.lst (xs++zs)))
theorem yH:OpR X (EW .Add) AQ:=by
 intro pins s σ H x y v u Q I rx ry h
 obtain ⟨l,b,xs,zs,rfl,rfl,hH,hB,hz,q⟩:=h
 cases rx
 cases ry
 obtain ⟨z,its,n,r,hl,e⟩:=I.lstM hH
 obtain ⟨z2,its2,n2,r2,hl2,e2⟩:=I.lstM hB
 refine PySem.P.add_list e e2 ?_ (by rw [Be,Be]; omega)
 have ea:its.toArray++its2.toArray=(its++its2).toArray:=by simp
 rw [ea]
 exact ⟨.ref _,_,I.lnew (t':=s.toks) (r.append r2) (by rw [Bd]; omega),rfl,q _ I.fresh⟩
def AM:R2:=fun x y H Q=>∃l k xs,x=.ref l/\y=.int k/\H l=some (.lst xs)/\-(2 ^ 63)<=k/\k<2 ^ 63/\xs.length*k.toNat<=sizeLine /\
 ∀p,H p=none->Q (.ref p) (upd H p (.lst (BF k.toNat xs).flatten))
theorem wc {α:Type}(xs:List α) (k:Nat):(BF k xs).flatten.length=k*xs.length:=by
 induction k with
 | zero=>simp
 | succ k ih=>rw [CP,Eh,Bd,ih,Nat.succ_mul,Nat.add_comm]
theorem tG:OpR X (EW .Mult) AM:=by
 intro pins s σ H x y v u Q I rx ry h
 obtain ⟨l,k,xs,rfl,rfl,hH,h1,h2,hz,q⟩:=h
 cases rx
 obtain ⟨t,rfl⟩:=ry
 obtain ⟨z,its,n,r,hl,e⟩:=I.lstM hH
 have hlen:its.toArray.size*k.toNat<=sizeLine:=by rw [Be,<- hl]; exact hz
 have hcap:¬ its.toArray.size*k.toNat > (2 ^ 63-1) / 8:=by
  have:(sizeLine:Nat)<=(2 ^ 63-1) / 8:=by decide
  omega
 have hfit:¬ (!Builtin.List.listFitsIndex k)=true:=by
  rw [fitsIndex_both h1 h2]
  exact Bx
 have hlong:¬ Eo (its.toArray.size*k.toNat)=true:=by
  rw [kO hlen]
  exact Bx
 have hnew:Gz (fun x1 x2=>x1++x2) #[] (BF (if its.toArray.isEmpty=true then 0 else k.toNat) its.toArray)=(BF k.toNat its).flatten.toArray:=by
  have f0:∀m:Nat,Gz (fun x1 x2=>x1++x2) #[] (BF m its.toArray)=(BF m its).flatten.toArray:=fun m=>by
   have:=jj its m []
   rw [List.nil_append] at this
   exact this
  rw [f0]
  cases its with
  | nil=>simp
  | cons a r'=>rw [if_neg 'e']
 refine wpAny_binaryOp_repeat_ref (T:="list") (U:="int") 'f' ⟨_,e,rfl⟩ (fun s'=>typeIs_int s' k t) noFill_list_mul F.fills_int_mul F.slot_int_rmul repeat_list F.slot_int_index.lookup
  (call_meets F.slot_int_rmul (typeIs_int s k t) F.entry_int_rmul (F.args_int_rmul_2 _ _) (int___rmul___int_list k t l its.toArray n)
   ⟨e,rfl,⟨_,e,rfl⟩,call_meets F.slot_list_mul ⟨_,e,rfl⟩ F.entry_list_mul (F.args_list_mul_2 _ _) (AutoListH.list___mul___list_int_3 l its.toArray n k t hfit hcap hlong) ⟨e,?_⟩⟩)
 rw [hnew]
 exact ⟨.ref _,_,I.lnew (t':=s.toks) (r.rep k.toNat) (by rw [wc,Nat.mul_comm]; exact hz),rfl,q _ I.fresh⟩
end
section
variable {prog:Program}{w:BG}{A:BC}{E:Value->A9->Prop}{s:A9}
set_option maxRecDepth 100000 in
end
section
variable {X:Cx}
end
end L2
namespace Att
open PySem PySem.W PySem.Calls PyProof.Rows
theorem gF {P:Params}{h:Heap}:∀(ns:List Int) (vs:List Value),WellAll P h vs (ns.map WData.int)->DQ vs ns:=by
 intro ns
 induction ns with
 | nil =>
  intro vs w
  rw [FP] at w
  cases w
  exact .nil
 | cons n ns ih =>
  intro vs w
  rw [BD] at w
  cases w with
  | cons a b =>
   cases a
   exact .cons _ _ (ih _ b)
theorem pW {l:OpenLaw}{n:Nat}(hn:l.most=some n) {P:Params}{h:Heap}{args:List WData}{vals:List Value}
  (hpre:l.row.toRowW.claim.pre args=true) (hwl:WellAll P h vals args) :
  ∃a vs ns,vals=[Bs a]/\args=[WData.list (ns.map WData.int)]/\h.get? a=some { cls:=.type "list",data:=.seq vs.toArray }/\DQ vs ns/\ns.length<=n:=by
 have hsh:WShape.hasAll [] args [.list .int]=true:=(pre_splitW hpre).1
 have hc:l.pre.holds [] { args:=args }=true:=(pre_splitW hpre).2
 obtain ⟨d,r,rfl,h1,h2⟩:=hasAllW_cons hsh
 obtain rfl:=hasAllW_nil h2
 obtain ⟨xs,rfl,h3⟩:=hasW_list h1
 obtain ⟨ns,rfl⟩:=items_int h3
 have hlen:ns.length<=n:=by
  unfold OpenLaw.pre at hc
  have h4:(WTm.not (.lt (.lit (.int (n:Int))) (.len (.arg 0)))).holds [] { args:=[.list (ns.map .int)] }=true:=by
   have h4:=(holds_andW hc).1
   rw [hn] at h4
   exact h4
  have h5:=condW_of h4 (w_not (w_lt w_lit (w_len_list (w_arg rfl))))
  rw [A2] at h5
  refine Nat.le_of_not_lt fun q=>?_
  have q':(n:Int)<((ns.length:Nat):Int):=by omega
  first
   | (rw [decide_eq_true q'] at h5; exact absurd h5 'f')
   | (simp at h5; omega)
 cases hwl with
 | cons w1 w2 =>
  cases w2
  cases w1 with
  | list ho hall=>exact ⟨_,_,ns,rfl,rfl,ho,gF ns _ hall,hlen⟩
theorem qa (l:OpenLaw) (args:List WData):l.row.toRowW.claim.post args (.bool true) args=true :=
 postW_of (r:=l.row.toRowW) (X:=(true == true))
  (show WShape.has [] (.bool true) .bool=true by first | rfl | decide | simp [WShape.has,WShape.arms,WShape.armsAll])
  (show (WTm.eq .res (.lit (.bool true))).value [] { args:=args,res:=some (.bool true),after:=args }=some (.bool (true == true)) from w_eq_bool (w_res rfl) w_lit) rfl
theorem attach_call {l:OpenLaw}{n:Nat}{q:Program}{loose:List Str}{XP:(Str->Option Value)->Heap->Prop}{YP:BG->Heap->Prop}{d:DefRec}
  (hn:l.most=some n) (hdf:d.params.defaults=[])
  (call:∀(w:BG) (s₀ s₁:A9) (mg mb:Str->Option Value) (fa:Addr) (o:Obj) (pm cd doc:Value) (a:Addr) (vs:List Value) (ns:List Int),
   Ground q loose [] XP w s₀ mg mb s₁.heap->YP w s₁.heap ->
   s₁.heap.get? fa=some o->o.data=.func (docDef d.name d.params d.body d.scope pm cd doc)->s₁.heap.CodeRec cd d.name->mg d.name=some (.ref fa) ->
   s₁.heap.get? a=some { cls:=.type "list",data:=.seq vs.toArray }->DQ vs ns->ns.length<=n->s₁.gens=#[] ->
   Ev (Bv l.prog w) callerA (.call (.ref fa) ⟨[.ref a],[]⟩) (fun r s'=>r=.ok (.ret (.bool true))/\OldK s₁.heap s'.heap/\s'.os=s₁.os/\Fv s'.gens) s₁) :
  WalkO q loose XP YP l.row.toRowW d [] (fun f vs=>PySem.call f vs):=by
 intro w s₀ s₁ mg mb G Y fa o pm cd doc dV kV ho hd hcd hD hmg hg args vals as hpre hlay hrd hwl hlo
 obtain rfl:dV=.none:=Dflts.none hD hdf
 obtain rfl:kV=.none:=Dflts.noKw hD
 obtain ⟨a,vs,ns,rfl,rfl,hobj,hints,hlen⟩:=pW hn hpre hwl
 refine enter_call (Fc (call w s₀ s₁ mg mb fa o pm cd doc a vs ns G Y ho (fd_plain hd) hcd hmg hobj hints hlen hg) fun r s' hq=>?_)
 obtain ⟨rfl,h2,h3,h4⟩:=hq
 exact ⟨.inl ⟨.bool true,.bool true,[],rfl,fun _=>rfl,.bool true,qa l _,fun _=>⟨Ep.nil,fun _ hm=>(nomatch hm)⟩⟩,h2,h3,h4⟩
section
variable {prog:Program}{w:BG}{A:BC}{E:Value->A9->Prop}{s:A9}{K:Frag}
end
end Att
namespace L2
open PySem PySem.Spec PyProof.Rows
theorem d_:∀{vs:List Value}{ns:List Int},DQ vs ns->Vals (ns.map V.int) vs
 | _,_,.nil=>.nil
 | _,_,.cons n t h=>.cons ⟨t,rfl⟩ (d_ h)
abbrev KOf {K:Ba}{h:Heap}(_:K.In h):Ba:=K
def wt (s:Stmt) (j:Nat):Stmt:=match s with
 | .ClassDef _ _ _ body _ _ _ _ _ _ _=>body.getD j (.Pass ⟨0,0,0,0⟩)
 | _=>.Pass ⟨0,0,0,0⟩
def bY (s:Stmt):Arguments:=match s with
 | .FunctionDef _ a _ _ _ _ _ _ _ _=>a
 | _=>{ posonlyargs:=[],args:=[],vararg:=none,kwonlyargs:=[],kw_defaults:=[],kwarg:=none,defaults:=[] }
def bF (s:Stmt):List Stmt:=match s with
 | .FunctionDef _ _ b _ _ _ _ _ _ _=>b
 | _=>[]
def aj (s:Stmt):Scope:=match s with
 | .FunctionDef _ _ _ _ _ _ sc _ _ _=>sc
 | _=>{ kind:=.function,names:=[],isGenerator:=false,isCoroutine:=false }
abbrev CX0:CXT:=fun _ _ _ _ _ _=>False
abbrev E0:XK:=fun _ _ _=>False
theorem aD {X:Cx}:fj CX0 X E0:=fun _ _ _ _ _ _ _ h=>h.elim
structure Fun (K:Ba) (x qual:Str) (st:Stmt) (f:Addr) (fd:BX):Prop where
 ex:∃(oc:Value) (od:Option Addr) (kV doc pm:Value) (an:Option Addr) (cdv ct:Value) (osl:Array (Option Value)),
  fd=DG x qual (bY st) (bF st) (aj st) .none kV doc pm an cdv ct/\K.lookup f=some ⟨oc,od,.func fd,osl⟩/\E6 K cdv qual=true
 kp:DX K (.ref f)=true
section
variable {P:Program}{w:BG}{K:Ba}{mg:Str->Option Value}{base:Heap}
/-- THE RULE for a def: its body as a term of rules,and the reading of that term -/
theorem Fun.ok {x qual:Str}{st:Stmt}{f:Addr}{fd:BX}{N ps:List Str}{k:Nat}{sp:Sp}(F:Fun K x qual st f fd) (S:ax N ps (aj st)) (len:∀vs H Q E,sp vs H Q E->vs.length=ps.length)
  (hbody:∀(cdv:Value) (A:BC) (outer:List Env) (s:A9) (H:Hp) (vs:List V) (Q:VK) (E:XK),Room k (A.deeper (Ea qual (aj st) 'n' f cdv))->sp vs H Q E ->
   ∃t,PSs (bT CX0 P w K mg base N qual (aj st) f cdv A outer s H E).nox (bF st) t/\t { nx:=fun _ H'=>Q .non H',rt:=Q } (eM N vs) H):aS P w K mg base CX0 (k+1) f fd ps sp:=by
 obtain ⟨oc,od,kV,doc,pm,an,cdv,ct,osl,rfl,lk,hcd⟩:=F.ex
 refine uz lk hcd S len fun A outer s H vs Q E hr hsp=>?_
 obtain ⟨t,h,q⟩:=hbody cdv A outer s H vs Q E hr hsp
 exact ⟨t,h.nox,q⟩
theorem Fun.binds {x qual:Str}{st:Stmt}{f:Addr}{fd:BX}{ps:List Str}(F:Fun K x qual st f fd)
  (h:∀(kV doc pm:Value) (an:Option Addr) (cdv ct:Value) (us:List Value),us.length=ps.length->GH (DG x qual (bY st) (bF st) (aj st) .none kV doc pm an cdv ct) ⟨us,[]⟩=pure (ps.zip us)):Binds K fd ps []:=by
 obtain ⟨oc,od,kV,doc,pm,an,cdv,ct,osl,rfl,lk,hcd⟩:=F.ex
 exact .all (h kV doc pm an cdv ct)
theorem mQ {x qual:Str}{st:Stmt}{f:Addr}{oc:Value}{od an:Option Addr}{osl:Array (Option Value)}{kV doc pm cdv ct:Value}(l:K.lookup f=some ⟨oc,od,.func (DG x qual (bY st) (bF st) (aj st) .none kV doc pm an cdv ct),osl⟩)
  (c:E6 K cdv qual=true) (k:DX K (.ref f)=true):Fun K x qual st f (DG x qual (bY st) (bF st) (aj st) .none kV doc pm an cdv ct):=⟨⟨oc,od,kV,doc,pm,an,cdv,ct,osl,rfl,l,c⟩,k⟩
end
theorem oI {A:BC}{k:Nat}(hr:Room k A):A.units+1<cLine:=Nat.lt_of_le_of_lt (Nat.add_le_add_left (by decide:1<=64) _) hr.units
section
variable {X:Cx}
end
theorem dW {A B:Prop}(h:B):if false=true then A else B:=by
 rw [if_neg Bx]
 exact h
theorem iG {A B:Prop}(h:A):if true=true then A else B:=by
 rw [if_pos rfl]
 exact h
theorem cH {c A B:Prop} [Decidable c] (h1:c->A) (h2:¬ c->B):if c then A else B:=by
 by_cases h:c
 ·rw [if_pos h]
  exact h1 h
 ·rw [if_neg h]
  exact h2 h
def Same (H H':Hp):Prop:=∀b o,H b=some o->H' b=some o
theorem Same.refl (H:Hp):Same H H:=fun _ _ h=>h
theorem Same.trans {H H1 H2:Hp}(a:Same H H1) (b:Same H1 H2):Same H H2:=fun c o h=>b c o (a c o h)
theorem Same.free {H H':Hp}(e:Same H H') {l:Addr}(h:H' l=Option.none):H l=Option.none:=by
 cases q:H l with
 | none=>rfl
 | some o =>
  rw [e l o q] at h
  cases h
theorem Same.seq {K:Ba}{H H':Hp}{a:Addr}{xs:List V}(e:Same H H') (h:SqL K H a xs):SqL K H' a xs:=by
 rcases h with (h | ⟨o,h⟩) | h
 ·exact .inl (.inl (e _ _ h))
 ·exact .inl (.inr ⟨o,e _ _ h⟩)
 ·exact .inr h
end L2
namespace L2
open PySem
structure Flt (B:Heap) (l:List Env) (e:Addr) (cls:Value) (d:Option Addr) (fl:Value) (h:Heap):Prop where
 stays:B.StaysIn h
 new:B.get? e=none
 frames:h.FunFrames B l
 tr:∃ox ws T oT ts,h.get? e=some ox/\ox.cls=cls/\ox.dict=d/\ox.data=.fields ws/\ws[1]?=some (.ref T) /\
  B.get? T=none/\T≠e/\h.get? T=some oT/\oT.data=.fields ts/\ts[3]?=some fl
theorem qJ (o:Obj) (f:Array Value->Array Value):(o.mapFields f).dict=o.dict:=by
 unfold Er
 split <;> rfl
section
variable {M:Model}{A:BC}{E:Value->A9->Prop}{s:A9}{B:Heap}{env:Env}{outer l:List Env}{L e:Addr}{cls fl:Value}{d:Option Addr}{Q:Unit->A9->Prop}
theorem Flt.obj {h:Heap}(x:Flt B l e cls d fl h):∃ox ws,h.get? e=some ox/\ox.cls=cls/\ox.dict=d/\ox.data=.fields ws:=by
 obtain ⟨ox,ws,_,_,_,a1,a2,a3,a4,_⟩:=x.tr
 exact ⟨ox,ws,a1,a2,a3,a4⟩
theorem i8 {ox:Obj}{ws:Array Value}{head:Value}{more:Bool}(hA:A.frames=some (env :: outer)) (hF:s.heap.FunFrames B (env :: outer)) (hL:env.frame=some L)
  (h1:s.heap.get? e=some ox) (hB:B.StaysIn s.heap) (hn:B.get? e=none) (hw:ox.data=.fields ws) (hz:1<ws.size)
  (k:∀h',Flt B (env :: outer) e ox.cls ox.dict (Dz L) h'->s.heap.UpToSlots h'->Q () { s with heap:=h' }) :
  Bl M A (do let a <- frameOf env; let pl <- entryPlaceOf L more; let b <- EntryCells.newEntry head a .none (Dz L) .none pl; setField (.ref e) 1 b) Q E s:=by
 have nf:e ∉ (env :: outer).filterMap (·.frame):=by
  intro z
  obtain ⟨_,o,q,r⟩:=hF.mem z
  rw [h1] at q
  cases q
  exact r ws hw
 refine A3 (wpAny_frameOf_fun hA hF hL ?_)
 intro g1 k1
 refine A3 (wpAny_entryPlaceOf ?_)
 intro pl hp
 unfold EntryCells.newEntry newFields
 refine A3 (Cr ?_ (hp.sizeOk5 _ _ _ _ _))
 have e1:g1.get? e=some ox:=(k1.2.1 e nf).trans h1
 have B1:B.StaysIn g1:=by
  intro b o q
  refine (k1.2.1 b ?_).trans (hB b o q)
  intro z
  rw [(hF.mem z).1] at q
  cases q
 generalize hR:({ cls:=.type "traceback",dict:=none,data:=.fields ([head,.ref L,.none,Dz L,.none]++(if pl.isEmpty then BF 6 CA else pl)).toArray }:Obj)=R
 have R3:∃ts,R.data=.fields ts/\ts[3]?=some (Dz L):=by
  subst hR
  exact ⟨_,rfl,by simp⟩
 have Rf:R.isFreed=false:=by subst hR; rfl
 have e2:=A6 (h:=g1) R e1
 refine DY e2 hw hz (k _ ?_ ?_)
 ·have hT:g1.objs.size≠e:=Gu (Bi e1)
  have w3:=Obj.data_mapFields hw (·.setIfInBounds 1 (Bs g1.objs.size))
  have e3:=Cl (Er (·.setIfInBounds 1 (Bs g1.objs.size))) e2 (FW w3)
  have T3:=(Ch (g1.push R) (Er (·.setIfInBounds 1 (Bs g1.objs.size))) (Co hT)).trans (Bj g1 Rf)
  refine ⟨?_,hn,?_,?_⟩
  ·intro b o q
   have ne:e≠b:=by intro z; subst z; rw [hn] at q; cases q
   rw [Ch _ _ ne]
   exact A6 _ (B1 b o q)
  ·refine hF.of_keeps ?_
   intro b o q r
   obtain ⟨sl,z⟩:=k1.2.2 b o q
   have ne:e≠b:=by intro y; subst y; rw [h1] at q; cases q; exact r ws hw
   refine ⟨{ o with slots:=sl },?_,rfl⟩
   rw [Ch _ _ ne]
   exact A6 _ z
  ·obtain ⟨ts,r1,r2⟩:=R3
   exact ⟨_,_,g1.objs.size,R,ts,e3,Obj.cls_mapFields _ _,qJ _ _,w3,by simp [hz],B1.fresh,hT,T3,r1,r2⟩
 ·intro b o q r
  obtain ⟨sl,z⟩:=k1.2.2 b o q
  have ne:e≠b:=by intro y; subst y; rw [h1] at q; cases q; exact r ws hw
  refine ⟨sl,?_⟩
  rw [Ch _ _ ne]
  exact A6 _ z
theorem mw {ox:Obj}{ws:Array Value}(hA:A.frames=some (env :: outer)) (hF:s.heap.FunFrames B (env :: outer)) (hL:env.frame=some L)
  (h1:s.heap.get? e=some ox) (hB:B.StaysIn s.heap) (hn:B.get? e=none) (hw:ox.data=.fields ws) (hz:ws[1]?=some .none)
  (k:∀h',Flt B (env :: outer) e ox.cls ox.dict (Dz L) h'->s.heap.UpToSlots h'->Q () { s with heap:=h' }):Bl M A (noteFrame (.ref e) env) Q E s:=by
 unfold noteFrame
 simp only [hL]
 refine A3 (FF h1 hw hz ?_)
 rw [if_neg 'f']
 exact i8 hA hF hL h1 hB hn hw (DZ.mp hz).1 k
theorem i9 (hA:A.frames=some (env :: outer)) (hL:env.frame=some L) (x:Flt B (env :: outer) e cls d .none s.heap)
  (k:∀h',Flt B (env :: outer) e cls d (Dz L) h'->s.heap.UpToSlots h'->Q () { s with heap:=h' }):Bl M A (noteFrame (.ref e) env) Q E s:=by
 obtain ⟨ox,ws,T,oT,ts,a1,a2,a3,a4,a5,a6,a7,a8,a9,a10⟩:=x.tr
 subst a2 a3
 unfold noteFrame
 simp only [hL]
 refine A3 (FF a1 a4 a5 ?_)
 rw [if_pos (show (Bs T != CA)=true by simp)]
 refine A3 (FF a8 a9 a10 ?_)
 rw [if_neg (show ¬ ((CA == Dz L)=true) by simp [Dz])]
 refine A3 (DY a8 a9 (DZ.mp a10).1 ?_)
 have oth:∀b,b≠T->(s.heap.update T (Er (·.setIfInBounds 3 CA))).get? b=s.heap.get? b:=by
  intro b z
  exact Ch _ _ (Co z)
 have nT:∀b o,s.heap.get? b=some o->(∀us,o.data≠.fields us)->b≠T:=by
  intro b o q r z
  rw [z,a8] at q
  cases q
  exact r ts a9
 refine i8 hA ?_ hL ((oth e (Co a7)).trans a1) ?_ x.new a4 (DZ.mp a5).1 ?_
 ·refine x.frames.of_keeps ?_
  intro b o q r
  exact ⟨o,(oth b (nT b o q r)).trans q,rfl⟩
 ·intro b o q
  refine (oth b ?_).trans (x.stays b o q)
  intro z
  rw [z,a6] at q
  cases q
 ·intro h' y1 y2
  refine k h' y1 ?_
  intro b o q r
  exact y2 b o ((oth b (nT b o q r)).trans q) r
theorem j6 (x:Flt B l e cls d fl s.heap) (k:∀h',Flt B l e cls d .none h'->s.heap.UpToSlots h'->Q () { s with heap:=h' }):Bl M A (setFlight (.ref e) none) Q E s:=by
 obtain ⟨ox,ws,T,oT,ts,a1,a2,a3,a4,a5,a6,a7,a8,a9,a10⟩:=x.tr
 have z3:3<ts.size:=(DZ.mp a10).1
 have oth:∀b,b≠T->(s.heap.update T (Er (·.setIfInBounds 3 ((none:Option Addr).elim CA fun f=>Dz f)))).get? b=s.heap.get? b:=by
  intro b z
  exact Ch _ _ (Co z)
 have nT:∀b o,s.heap.get? b=some o->(∀us,o.data≠.fields us)->b≠T:=by
  intro b o q r z
  rw [z,a8] at q
  cases q
  exact r ts a9
 unfold setFlight
 refine A3 (FF a1 a4 a5 ?_)
 rw [if_pos (show (Bs T != CA)=true by simp)]
 refine DY a8 a9 z3 (k _ ⟨?_,x.new,?_,?_⟩ ?_)
 ·intro b o q
  refine (oth b ?_).trans (x.stays b o q)
  intro z
  rw [z,a6] at q
  cases q
 ·refine x.frames.of_keeps ?_
  intro b o q r
  exact ⟨o,(oth b (nT b o q r)).trans q,rfl⟩
 ·have w3:=Obj.data_mapFields a9 (·.setIfInBounds 3 ((none:Option Addr).elim CA fun f=>Dz f))
  exact ⟨ox,ws,T,_,_,(oth e (Co a7)).trans a1,a2,a3,a4,a5,a6,a7,Cl _ a8 (FW w3),w3,by simp [z3]⟩
 ·intro b o q r
  exact ⟨o.slots,(oth b (nT b o q r)).trans q⟩
theorem Flt.out {h:Heap}(x:Flt B (env :: outer) e cls d fl h):Flt B outer e cls d fl h:=by
 obtain ⟨a1,a2,⟨_,_,a3⟩,a4⟩:=x
 exact ⟨a1,a2,a3,a4⟩
theorem kX {ox:Obj}{ws:Array Value}(hA:A.frames=some (env :: outer)) (hF:s.heap.FunFrames B (env :: outer)) (hL:env.frame=some L)
  (h1:s.heap.get? e=some ox) (hB:B.StaysIn s.heap) (hn:B.get? e=none) (hw:ox.data=.fields ws) (hz:ws[1]?=some .none)
  (k:∀h',Flt B outer e ox.cls ox.dict .none h'->s.heap.UpToSlots h'->Q () { s with heap:=h' }):Bl M A (leaving env (.ref e)) Q E s:=by
 unfold leaving
 refine A3 (mw hA hF hL h1 hB hn hw hz ?_)
 intro h' x y
 refine j6 x ?_
 intro h'' x' y'
 exact k h'' x'.out (y.trans y')
theorem mJ (hA:A.frames=some (env :: outer)) (hL:env.frame=some L) (x:Flt B (env :: outer) e cls d .none s.heap)
  (k:∀h',Flt B outer e cls d .none h'->s.heap.UpToSlots h'->Q () { s with heap:=h' }):Bl M A (leaving env (.ref e)) Q E s:=by
 unfold leaving
 refine A3 (i9 hA hL x ?_)
 intro h' x y
 refine j6 x ?_
 intro h'' x' y'
 exact k h'' x'.out (y.trans y')
end
end L2
namespace L2
open PySem PySem.Spec PyProof.Rows
def CX1 (P:Program) (w:BG):CXT:=fun outer H s E e s' =>
 ∃(a:Addr) (cls:Value) (d:Option Addr) (B:Heap) (H':Hp),e=.ref a/\s'.os=s.os/\Fv s'.gens/\Un (frs outer) [] H H' s.heap s'.heap/\HOk P w H' s'.heap /\
  Flt B outer a cls d .none s'.heap/\H' a=none /\
  (∀b o,s.heap.get? b=some o->b ∉ frs outer->H b=none->B.get? b=some o) /\
  (∀b u,H' b=some u->∃o,B.get? b=some o) /\
  (∀b o,s.heap.get? b=some o->b∈frs outer\/∃o',B.get? b=some o')/\E cls d H'
theorem lc {env:Env}{outer:List Env}{L:Addr}(h:env.frame=some L):frs (env :: outer)=L :: frs outer:=by
 unfold frs
 rw [DO,h]
theorem ObjOk.ex {P:Program}{w:BG}{H:Hp}{h:Heap}{a:Addr}{o:HO}(x:ObjOk P w H h a o):∃ob,h.get? a=some ob:=by
 cases o with
 | lst xs=>obtain ⟨_,_,_,_,e⟩:=x; exact ⟨_,e⟩
 | tup xs=>obtain ⟨_,_,_,ob,e,_⟩:=x; exact ⟨_,e⟩
 | dK kvs=>obtain ⟨_,_,_,_,o,_,_,e,_⟩:=x; exact ⟨_,e⟩
 | dT kvs=>obtain ⟨_,_,_,_,o,_,_,e,_⟩:=x; exact ⟨_,e⟩
 | set S n=>obtain ⟨o,_,_,_,e,_⟩:=x; exact ⟨_,e⟩
 | ins C dx fs=>obtain ⟨_,_,_,e,_⟩:=x; exact ⟨_,e⟩
 | own y=>exact x
 | xd fs=>obtain ⟨_,⟨_,_,_,e,_⟩,_⟩:=x; exact ⟨_,e⟩
 | rng lo hi=>obtain ⟨_,_,_,e⟩:=x; exact ⟨_,e⟩
 | frz ob u=>obtain ⟨e,_⟩:=x; exact ⟨_,e⟩
 | tbl ps=>exact ⟨_,(show h.get? a=some _ from x)⟩
 | met f y=>exact ⟨_,(show h.get? a=some _ from x)⟩
 | ext φ=>obtain ⟨_,e,_⟩:=x; exact e
section
variable {X:Cx}{pins:'m'}{σ:St}{H H':Hp}{s s1:A9}{B h':Heap}
theorem Inv.flown (I:Inv X pins σ H s) (os:s1.os=s.os) (bare:Fv s1.gens) (un:Un (frs X.stack) [] H H' s.heap s1.heap) (hok:HOk X.prog X.w H' s1.heap) (bs:B.StaysIn s1.heap)
  (b1:∀b o,s.heap.get? b=some o->b ∉ frs X.stack->H b=none->B.get? b=some o) (b2:∀b u,H' b=some u->∃o,B.get? b=some o)
  (b3:∀b o,s.heap.get? b=some o->b∈frs X.stack\/∃o',B.get? b=some o') (st:B.StaysIn h') (up:s1.heap.UpToSlots h'):Inv X pins σ H' { s1 with heap:=h' }:=by
 have nf:∀b∈frs X.stack,∀o,s.heap.get? b=some o->∀vs,o.data≠.fields vs:=fun b hb o e=>by
  obtain ⟨_,o',e',r⟩:=I.stack.mem hb
  rw [e] at e'
  cases e'
  exact r
 have sl:∀b o,s.heap.get? b=some o->b∈frs X.stack->∃sl,h'.get? b=some { o with slots:=sl }:=fun b o e hb=>by
  obtain ⟨s2,e2⟩:=un.slot b o e (I.stkFree b hb) hb 'e'
  obtain ⟨s3,e3⟩:=up b _ e2 (nf b hb o e)
  exact ⟨s3,e3⟩
 refine I.call' (s':={ s1 with heap:=h' }) os ⟨fun b o e n hb _=>st b o (b1 b o e hb n),fun b o e n hb _=>sl b o e hb,un.free,fun b o e hx=>?_,un.tups,un.frzs,un.tbls⟩ (fun b u e=>?_) bare fun b z=>nomatch z
 ·rcases b3 b o e with z | ⟨o',z⟩
  ·obtain ⟨_,q⟩:=sl b o e z
   exact ⟨_,q⟩
  ·exact ⟨o',st b o' z⟩
 ·refine (hok b u e).stay (fun c v hc q=>?_) (fun _ q=>q) fun _ _ q=>q
  have ht:∃u',H' c=some u':=by
   rcases hc with rfl | hc
   ·exact ⟨u,e⟩
   ·exact ⟨_,hc⟩
  obtain ⟨u',hu⟩:=ht
  obtain ⟨o,ho⟩:=b2 c u' hu
  have q':=bs c o ho
  rw [q] at q'
  cases q'
  exact st c v ho
end
section
variable {P:Program}{w:BG}{K:Ba}{mg:Str->Option Value}{base:Heap}{N:List Str}{qual:Str}{scope:Scope}{f:Addr}{cd:Value}{A:BC}{outer:List Env}{s₀:A9}{H₀:Hp}{E:XK}
theorem Ab:fj (CX1 P w) (bT (CX1 P w) P w K mg base N qual scope f cd A outer s₀ H₀ E) E:=by
 intro pins σ H s e s1 I h
 obtain ⟨a,cls,d,B,H',rfl,os,bare,un,hok,fl,ha,b1,b2,b3,q⟩:=h
 have hfr:(Ea qual scope s₀.heap.objs.size f cd).frame=some s₀.heap.objs.size:=rfl
 refine mJ (B:=B) (outer:=outer) I.ok.frames hfr fl fun h' x y=>?_
 have J:=I.flown (s1:=s1) os bare un hok fl.stays b1 b2 b3 x.stays y
 have nL:∀b o,s₀.heap.get? b=some o->b ∉ frs outer->b ∉ frs (Ea qual scope s₀.heap.objs.size f cd :: outer):=fun b o e hb z=>by
  rw [lc hfr] at z
  rcases Bp.mp z with z | z
  ·exact absurd (Bi e) (by rw [z]; exact CB _)
  ·exact hb z
 refine ⟨a,cls,d,B,H',rfl,J.os,J.bare,J.base,J.hok,x,ha,fun b o e hb n=>?_,b2,fun b o e=>?_,q⟩
 ·exact b1 b o (I.base.keep b o e n hb 'c') (nL b o e hb) (I.base.free b o e n 'c')
 ·obtain ⟨o',e'⟩:=I.base.there b o e 'c'
  by_cases hb:b∈frs outer
  ·exact .inl hb
  ·rcases b3 b o' e' with z | z
   ·exact absurd z (nL b o e hb)
   ·exact .inr z
end
theorem Fun.okX {P:Program}{w:BG}{K:Ba}{mg:Str->Option Value}{base:Heap}{x qual:Str}{st:Stmt}{f:Addr}{fd:BX}{N ps:List Str}{k:Nat}{sp:Sp}(F:Fun K x qual st f fd) (S:ax N ps (aj st))
  (len:∀vs H Q E,sp vs H Q E->vs.length=ps.length)
  (hbody:∀(cdv:Value) (A:BC) (outer:List Env) (s:A9) (H:Hp) (vs:List V) (Q:VK) (E:XK),Room k (A.deeper (Ea qual (aj st) 'n' f cdv))->sp vs H Q E ->
   ∃t,PSs (bT (CX1 P w) P w K mg base N qual (aj st) f cdv A outer s H E) (bF st) t/\t { nx:=fun _ H'=>Q .non H',rt:=Q } (eM N vs) H):aS P w K mg base (CX1 P w) (k+1) f fd ps sp:=by
 obtain ⟨oc,od,kV,doc,pm,an,cdv,ct,osl,rfl,lk,hcd⟩:=F.ex
 exact uz lk hcd S len fun A outer s H vs Q E hr hsp=>hbody cdv A outer s H vs Q E hr hsp
abbrev bmVE:List Value:=[.type "ValueError",.type "Exception",.type "BaseException",.type "object"]
section
variable {P:Program}{w:BG}{K:Ba}{mg:Str->Option Value}{base:Heap}{N:List Str}{qual:Str}{scope:Scope}{f:Addr}{cd:Value}{A:BC}{outer:List Env}{s₀:A9}{H₀:Hp}{E:XK}
end
def mT (a:Addr) (cls:Value) (d:Option Addr):HO:=.ext fun h=>∃ox ws,h.get? a=some ox/\ox.cls=cls/\ox.dict=d/\ox.data=.fields ws
theorem wC {P:Program}{w:BG}{H:Hp}{h:Heap}{a:Addr}{cls:Value}{d:Option Addr}(x:∃ox ws,h.get? a=some ox/\ox.cls=cls/\ox.dict=d/\ox.data=.fields ws):ObjOk P w H h a (mT a cls d):=by
 obtain ⟨ox,ws,e1,e2,e3,e4⟩:=x
 refine ⟨⟨ox,ws,e1,e2,e3,e4⟩,⟨ox,e1⟩,?_⟩
 rintro h1 h2 ⟨o,us,f1,f2,f3,f4⟩ k
 exact ⟨o,us,k o f1,f2,f3,f4⟩
section
variable {X:Cx}{pins:'m'}{σ:St}{H:Hp}{s:A9}
theorem Inv.track {a:Addr}{o:HO}(I:Inv X pins σ H s) (n:H a=none) (nL:a≠X.env.locals) (nC:∀x c,X.env.cells.lookup x=some c->c≠a) (nP:∀p∈X.pn++pins,p.1≠a) (n0:X.s₀.heap.get? a=none)
  (new:ObjOk X.prog X.w (upd H a o) s.heap a o):Inv X pins σ (upd H a o) s:=by
 have ne:∀b u,H b=some u->b≠a:=fun b u e z=>by rw [z,n] at e; cases e
 refine ⟨I.ok,I.os,I.bare,⟨I.base.keep,I.base.slot,fun b ob e m hx=>?_,I.base.there,fun b xs e=>?_,fun b ob u e=>?_,fun b ps e=>?_⟩,I.loc,I.cell,?_,fun x c e=>?_,fun p hp=>?_,fun b u e=>?_,I.len⟩
 ·rw [ah (by intro z; rw [z,n0] at e; cases e)]
  exact I.base.free b ob e m hx
 ·have e1:=I.base.tups b xs e
  rw [ah (ne _ _ e1)]
  exact e1
 ·have e1:=I.base.frzs b ob u e
  rw [ah (ne _ _ e1)]
  exact e1
 ·obtain ⟨m,e1⟩:=I.base.tbls b ps e
  exact ⟨m,by rw [ah (ne _ _ e1)]; exact e1⟩
 ·rw [ah (Co nL)]
  exact I.free
 ·rw [ah (nC x c e)]
  exact I.freeC x c e
 ·obtain ⟨e1,e2,e3⟩:=I.pin p hp
  exact ⟨e1,by rw [ah (nP p hp)]; exact e2,e3⟩
 ·by_cases hb:b=a
  ·subst hb
   rw [ac] at e
   cases e
   exact new
  ·rw [ah hb] at e
   refine (I.hok b u e).stay (fun _ _ _ q=>q) (fun c q=>?_) fun c xs q=>?_
   ·rw [ah (ne _ _ q)]
    exact q
   ·rw [ah (ne _ _ q)]
    exact q
theorem Inv.unname {M:Model}{A:BC}{E:Value->A9->Prop}{i:Nat}{n:Str}{pos:Pos}{Q:Unit->A9->Prop}(I:Inv X pins σ H s) (hN:X.N.Nodup) (hi:X.N[i]?=some n) (hk:X.env.scope.names.lookup n=some .local)
  (k:∀s',Inv X pins (σ.set i none) H s'->Q () s'):Bl M A (do bindName X.env n .none; unbindBehindTheSuite X.env n pos) Q E s:=by
 obtain ⟨m,hn,hl⟩:=id I.loc
 obtain ⟨oL,_,_,hoL,_⟩:=id hn
 refine wpAny_nameGoes_keeps hk hn (by rw [I.ok.kind]; rfl) fun h' v hn' sb=>k _ ?_
 have ne0:∀b o,X.s₀.heap.get? b=some o->b≠X.env.locals:=fun b o e=>Bw (BO (Bi e) I.ok.above)
 refine ⟨I.ok,I.os,I.bare,⟨fun b o e m hb hx=>(sb.2 b (ne0 b o e)).trans (I.base.keep b o e m hb hx),fun b o e m hb hx=>?_,I.base.free,fun b o e hx=>?_,I.base.tups,I.base.frzs,I.base.tbls⟩,⟨_,hn',fun j y w e1 e2 e3=>?_⟩,fun y c e=>?_,I.free,I.freeC,fun p hp=>?_,fun b u e=>?_,?_⟩
 ·obtain ⟨sl,e1⟩:=I.base.slot b o e m hb hx
  exact ⟨sl,(sb.2 b (ne0 b o e)).trans e1⟩
 ·obtain ⟨o',e1⟩:=I.base.there b o e hx
  exact ⟨o',(sb.2 b (ne0 b o e)).trans e1⟩
 ·have hj:j≠i:=by
   intro z
   subst z
   have hz:j<σ.length:=by rw [I.len]; exact (A8.mp hi).1
   rw [Dm hz] at e2
   cases e2
  rw [DJ (Co hj)] at e2
  obtain ⟨u,r,l⟩:=hl j y w e1 e2 e3
  have hy:y≠n:=by
   intro z
   subst z
   exact hj (hV hN e1 hi)
  refine ⟨u,r,?_⟩
  rcases l with ⟨l1,l2⟩ | ⟨l1,c,l2,l3⟩
  ·exact .inl ⟨l1,(if_neg hy).trans l2⟩
  ·exact .inr ⟨l1,c,l2,l3.sameBut sb (I.cne y c l2)⟩
 ·obtain ⟨w,z⟩:=I.cell y c e
  exact ⟨w,z.sameBut sb (I.cne y c e)⟩
 ·obtain ⟨e1,e2,e3,e4⟩:=I.pin p hp
  exact ⟨(sb.2 p.1 e3).trans e1,e2,e3,e4⟩
 ·refine (I.hok b u e).stay (fun c w hc q=>(sb.2 c ?_).trans q) (fun _ q=>q) fun _ _ q=>q
  intro z
  subst z
  rcases hc with hc | hc
  ·rw [<- hc,I.free] at e
   cases e
  ·rw [I.free] at hc
   cases hc
 ·rw [Fy]
  exact I.len
end
def XP (X:Cx) (pins:'m') (σ:St) (Ex:XK) (e:Value) (s':A9):Prop:=∃H s,Inv X pins σ H s/\CX1 X.prog X.w X.stack H s Ex e s'
abbrev TX:=St->Hp->VK->XK->Prop
def PEX (X:Cx) (e:Expr) (t:TX):Prop :=
 ∀(pins:'m') (s:A9) (σ:St) (H:Hp) (Q:VK) (Ex:XK),Inv X pins σ H s->t σ H Q Ex->Bl (Bv X.prog X.w) X.A (eval e X.env) (EP X pins σ Q) (XP X pins σ Ex) s
def jB (sp:Sp) (dvs:List V) (t:TA):TX:=fun σ H Q Ex=>t σ H fun vs H1=>sp (vs++dvs) H1 Q Ex
section
variable {X:Cx}{k:Nat}{f:Addr}{fd:BX}{ps:List Str}{sp:Sp}{dvs:List V}{ds:List Value}{x:Str}{p pos:Pos}{e:Expr}{es:List Expr}{t:TA}
theorem PA.nox' {es:List Expr}{t:TA}(h:PA X.nox es t) {pos:Pos}{pins:'m'}{s:A9}{σ:St}{H:Hp}{Q:List V->Hp->Prop}{E:Value->A9->Prop}(I:Inv X pins σ H s) (q:t σ H Q) :
  Bl (Bv X.prog X.w) X.A (GE (DM pos (B2 es X.env))) (AP X pins σ Q) E s :=
 BJ (h pos pins s σ H Q (I.wish _) q) (fun _ _ ⟨vs,H',I',r,z⟩=>⟨vs,H',I'.unwish,r,z⟩) fun _ _ z=>BM z
theorem sQ (F:aS X.prog X.w X.K X.mg X.base (CX1 X.prog X.w) k f fd ps sp) (hr:Room k X.A) (hg:Gl X x) (hm:X.mg x=some (.ref f)) (hk:DX X.K (.ref f)=true) (hb:Binds X.K fd ps ds) (hd:Vals dvs ds)
  (ha:PA X.nox (e :: es) t) (hdb:'r'=false:=by decide) (he:B2 (e :: es) X.env=(false,eval e X.env) :: B2 es X.env:=by rfl) (hpl:(DM pos (B2 es X.env)).any (·.1)=false:=by rfl) :
  PEX X (.Call (.Name x p) (e :: es) [] pos) (jB sp dvs t):=by
 intro pins s σ H Q Ex I h
 refine EQ (jV I hg hm ?_ hdb)
 refine PySem.W.callWith_K (h₀:=X.base) I.ok.mod.kin hk (thn (ha.nox' I h) ?_) he hpl
 rintro us s1 ⟨vs,H1,I1,r,q⟩
 refine ⟨I1.kIn,?_⟩
 have r2:Vals (vs++dvs) (us++ds):=r.append hd
 have hl:(us++ds).length=ps.length:=by rw [<- r2.length]; exact F.len _ _ _ _ q
 refine F4 (Fc (F.run X.A X.stack s1 H1 ⟨us,[]⟩ (us++ds) (vs++dvs) Q Ex hr I1.env0 (hb s1 us I1.kIn hl) r2 q) ?_)
 intro r s' z
 cases r with
 | error e=>exact ⟨H1,s1,I1,z⟩
 | ok fl =>
  cases fl with
  | ret u=>exact I1.after z
  | next=>exact BM z
  | brk=>exact BM z
  | cont=>exact BM z
end
abbrev Cx.caught (X:Cx) (a:Addr):Cx:={ X with A:=X.A.mark (some (.ref a)),calm:=false }
theorem Inv.caught {X:Cx}{pins:'m'}{σ:St}{H:Hp}{s:A9}(I:Inv X pins σ H s) (a:Addr):Inv (X.caught a) pins σ H s :=
 ⟨⟨I.ok.mod,I.ok.kind,I.ok.glob,I.ok.blt,I.ok.above,I.ok.inj,I.ok.has,I.ok.cab,(fun z=>nomatch z),I.ok.frames,I.ok.stk,I.ok.exf,I.ok.bs,I.ok.bsz,I.ok.noex,I.ok.exfs,I.ok.funs,I.ok.frf⟩,I.os,I.bare,I.base,I.loc,I.cell,I.free,I.freeC,I.pin,I.hok,I.len⟩
theorem Inv.uncaught {X:Cx}{pins:'m'}{σ:St}{H:Hp}{s:A9}{a:Addr}(ok:X.Ok) (I:Inv (X.caught a) pins σ H s):Inv X pins σ H s :=
 ⟨ok,I.os,I.bare,I.base,I.loc,I.cell,I.free,I.freeC,I.pin,I.hok,I.len⟩
theorem mE {M:Model}{A:BC}{E:Value->A9->Prop}{nm q nm' q':Str}{C N S N':Addr}{bs bm bs' bm':List Value}{hd hd':Bool}{sn sn':List Str}{sub sub':List Value}{ab ab':Bool}{col col':Option Bool}{dd dd':Option Addr}
  {k0 k1 k2 k3 k5 l0 l1 l2 l3 l5:Option Value}{id id':String}{s:A9}{e:Addr}{oe:Obj}{Q:Bool->A9->Prop}
  (hC:s.heap.get? C=some (DK nm q C N bs bm hd sn sub ab col dd k0 k1 k2 k3 k5 id)) (hS:s.heap.get? S=some (DK nm' q' S N' bs' bm' hd' sn' sub' ab' col' dd' l0 l1 l2 l3 l5 id'))
  (he:s.heap.get? e=some oe) (hc:oe.cls=.ref C) (hb:bm'.contains (.type "BaseException")=true) (hup:(Bs C :: bm).contains (.ref S)=true) (k:Q true s):Bl M A (excMatches (.ref e) (.ref S)) Q E s:=by
 obtain ⟨h,g,d,t,os⟩:=s
 have hcB:(Bs S :: bm').contains (.type "BaseException")=true:=by rw [List.contains_cons,hb,Bool.or_true]
 have nt:=tc_notTuple
 unfold excMatches
 repeat (first | (with_reducible refine DL he ?_; rw [hc]) | with_reducible refine DL hS ?_ | (with_reducible refine Fp hS ?_; rw [hcB]) | (with_reducible refine Fp hC ?_; rw [hup]) | wp_step)
 exact k
def ExcC (K:Ba) (C:Addr) (bm:List Value) (nid:String):Prop :=
 ∃nm qn N bs hd sn sub ab col dd k0 k1 k2 k3 k5,K.lookup C=some (DK nm qn C N bs bm hd sn sub ab col dd k0 k1 k2 k3 k5 nid)
theorem ExcC.mk {K:Ba}{C N:Addr}{bm bs sub:List Value}{nid:String}{nm qn:Str}{hd ab:Bool}{sn:List Str}{col:Option Bool}{dd:Option Addr}{k0 k1 k2 k3 k5:Option Value}
  (h:K.lookup C=some (DK nm qn C N bs bm hd sn sub ab col dd k0 k1 k2 k3 k5 nid)):ExcC K C bm nid:=⟨nm,qn,N,bs,hd,sn,sub,ab,col,dd,k0,k1,k2,k3,k5,h⟩
def rB (K:Ba) (i j:Nat) (S:Addr) (tx:TX) (ts:Addr->TS):TS:=fun D σ H =>
 tx σ H (fun v H1=>D.nx (σ.set i (some v)) H1) fun cls d H1=>∃C bm nid,cls=.ref C/\ExcC K C bm nid/\(Bs C :: bm).contains (.ref S)=true /\
  ∀a,H1 a=none->ts a { nx:=fun σ' H'=>D.nx (σ'.set j none) H',rt:=D.rt,bk:=fun σ' H'=>D.bk (σ'.set j none) H',ct:=fun σ' H'=>D.ct (σ'.set j none) H' } (σ.set j (some (.ref a))) (upd H1 a (mT a cls d))
section
variable {X:Cx}
theorem qF {pins:'m'}{σ:St}{H H':Hp}{s s1:A9}{B:Heap}{a:Addr}{cls fl:Value}{d:Option Addr}{l:List Env}(I:Inv X pins σ H s) (un:Un (frs X.stack) [] H H' s.heap s1.heap) (x:Flt B l a cls d fl s1.heap)
  (b3:∀b o,s.heap.get? b=some o->b∈frs X.stack\/∃o',B.get? b=some o'):s.heap.get? a=none:=by
 cases e:s.heap.get? a with
 | none=>rfl
 | some o =>
  rcases b3 a o e with z | ⟨o',z⟩
  ·obtain ⟨_,o2,e2,r⟩:=I.stack.mem z
   rw [e] at e2
   cases e2
   obtain ⟨sl,e3⟩:=un.slot a o e (I.stkFree a z) z 'e'
   obtain ⟨ox,ws,e4,_,_,e5⟩:=x.obj
   rw [e3] at e4
   cases e4
   exact absurd e5 (r ws)
  ·rw [x.new] at z
   cases z
theorem sM {i j:Nat}{y n S':Str}{S:Addr}{bmS:List Value}{idS:String}{ce:Expr}{b0:Stmt}{suite:List Stmt}{py np apos hpos pos:Pos}{tx:TX}{ts:Addr->TS}
  (hN:X.N.Nodup) (hi:X.N[i]?=some y) (hy:Loc X.env.scope y) (hj:X.N[j]?=some n) (hn:X.env.scope.names.lookup n=some .local) (hfr:X.env.frame=some X.env.locals) (hst:X.stack=X.env :: X.outer) (hex:X.ex=[])
  (hgS:Gl X S') (hmS:X.mg S'=some (.ref S)) (cS:ExcC X.K S bmS idS) (hbS:bmS.contains (.type "BaseException")=true) (hx:PEX X ce tx) (hs:∀a,PSs (X.caught a).nox (b0 :: suite) (ts a))
  (hf:X.fn y=true\/X.env.scope.names.lookup y=some .local:=by first | exact .inl rfl | exact .inr rfl | assumption)
  (hsw:Dt ce (some (.Name y py)) apos.line X.env=pure false:=by rfl) (hdb:(S' == ("__debug__":Str))=false:=by decide) :
  PS X (.Try [.Assign [.Name y py] ce apos] [.ExceptHandler (some (.Name S' np)) (some n) (b0 :: suite) hpos] [] [] pos) (rB X.K i j S tx ts):=by
 intro pins s σ H D I h
 refine wpAny_Try_except (wpAny_execs_cons (wpAny_Assign_Name (BJ (hx pins s σ H _ _ I h) ?ok ?err) hsw))
 case ok =>
  rintro v s1 ⟨x,H1,I1,r1,q1⟩
  refine fw I1 hN hi hy r1 (fun s2 I2=>?_) hf
  exact Fw (Fw ⟨_,H1,I2,q1⟩)
 case err =>
  rintro e s1 ⟨H0,s0,I0,a,cls,d,B,H',rfl,os,bare,un,hok,fl,ha,b1,b2,b3,C,bm,nid,rfl,cC,hup,q⟩
  have fl':=fl
  rw [hst] at fl'
  have hA:X.A.frames=some (X.env :: X.outer):=by rw [I.ok.frames,hst]
  have fr0:=qF I0 un fl b3
  refine i9 (B:=B) hA hfr fl' fun h4 x4 y4=>?_
  refine j6 (s:={ s1 with heap:=h4 }) x4 fun h5 x5 y5=>?_
  have I5:Inv X pins σ H' { s1 with heap:=h5 }:=I0.flown os bare un hok fl.stays b1 b2 b3 x5.stays (y4.trans y5)
  refine wpAny_handleBy_cons (codeAny_handlers_test ?_) 'c'
  refine E3 I5.ok.kind hgS (Calls.loadGlobal_global (by rw [I5.ok.glob]; exact I5.mod.glob.keeps I5.bk) hmS ?_) hdb
  obtain ⟨ox,ws,e1,e2,e3,e4⟩:=x5.obj
  obtain ⟨_,_,_,_,_,_,_,_,_,_,_,_,_,_,_,lC⟩:=cC
  obtain ⟨_,_,_,_,_,_,_,_,_,_,_,_,_,_,_,lS⟩:=cS
  refine mE (s:={ s1 with heap:=h5 }) (I5.kIn _ _ lC) (I5.kIn _ _ lS) e1 e2 hbS hup ?_
  show Ev _ _ (.handlers (.ref a) [.ExceptHandler none (some n) (b0 :: suite) hpos] X.env) _ _
  refine codeAny_handlers_suite_as ?_
  refine j6 (s:={ s1 with heap:=h5 }) x5 fun h6 x6 y6=>?_
  have I6:Inv X pins σ H' { s1 with heap:=h6 }:=I0.flown os bare un hok fl.stays b1 b2 b3 x6.stays ((y4.trans y5).trans y6)
  have I7:Inv X pins σ (upd H' a (mT a (.ref C) d)) { s1 with heap:=h6 }:=by
   refine I6.track ha ?_ ?_ ?_ ?_ (wC x6.obj)
   ·obtain ⟨m,⟨o,_,_,ho,_⟩,_⟩:=I0.loc
    intro z
    rw [<- z,fr0] at ho
    cases ho
   ·intro x c ec z
    obtain ⟨v,o,ho,_⟩:=I0.cell x c ec
    rw [z,fr0] at ho
    cases ho
   ·intro p hp z
    have ho:=(I0.pin p hp).1
    rw [z,fr0] at ho
    cases ho
   ·cases z:X.s₀.heap.get? a with
    | none=>rfl
    | some o =>
     obtain ⟨o',ho⟩:=I0.base.there a o z (by rw [hex]; simp)
     rw [fr0] at ho
     cases ho
  have I8:=(I7.caught a).wish fun _ _=>False
  refine fw (X:=(X.caught a).nox) (M:=Bv X.prog X.w) (i:=j) (v:=.ref a) I8 hN hj (.inl hn) rfl (fun s7 I9=>?_) (.inr hn)
  refine BJ (hs a pins s7 _ _ _ I9 (q a ha)) ?_ fun _ _ z=>BM z
  intro f s8 z
  show Bl _ _ (do bindName X.env n .none; unbindBehindTheSuite X.env n hpos) _ _ _
  cases f with
  | next =>
   obtain ⟨σ',H8,J,z⟩:=z
   exact Inv.unname (J.unwish.uncaught I.ok) hN hj hn fun s9 J9=>⟨_,H8,J9,z⟩
  | brk =>
   obtain ⟨σ',H8,J,z⟩:=z
   exact Inv.unname (J.unwish.uncaught I.ok) hN hj hn fun s9 J9=>⟨_,H8,J9,z⟩
  | cont =>
   obtain ⟨σ',H8,J,z⟩:=z
   exact Inv.unname (J.unwish.uncaught I.ok) hN hj hn fun s9 J9=>⟨_,H8,J9,z⟩
  | ret u =>
   obtain ⟨v,σ',H8,J,r,z⟩:=z
   exact Inv.unname (J.unwish.uncaught I.ok) hN hj hn fun s9 J9=>⟨v,_,H8,J9,r,z⟩
end
theorem qP {prog:Program}{w:BG}{A:BC}{R:GI->A9->Prop}{s:A9}{elt target iter:Expr}{sc:Scope}{pos:Pos}{it acc:Value}{env:Env}(J:Nat->A9->Prop)
  (turn:∀n s,J n s->Bl (Bv prog w) A (FN it) (fun r s1=>match r with
   | none=>R (.ok .next) s1
   | some v=>Bl (Bv prog w) A (EV target it v) (fun _ s2=>Bl (Bv prog w) A (F1 target env v) (fun _ s3=>Bl (Bv prog w) A (eval elt env) (fun x s4 =>
     Bl (Bv prog w) A (call (.builtin "list.append") [acc,x]) (fun _ s5=>∃m,m<n/\J m s5) (fun _ _=>False) s4) (fun _ _=>False) s3) (fun _ _=>False) s2) (fun _ _=>False) s1) (fun _ _=>False) s)
  (n:Nat) (h:J n s):Ev (Bv prog w) A (.compLoop (.ListComp elt [⟨target,iter,[],0⟩] sc pos) 0 it acc env) R s:=by
 refine codeAny_loop rfl J ?_ n h
 intro n s hJ
 show Bl _ _ ((compTurn (.ListComp elt [⟨target,iter,[],0⟩] sc pos) 0 it acc env).onRaise (fun x=>do noteFrame x env; theTreesLotGoes x)) _ _ s
 refine wpAny_noted ?_
 rw [compTurn_list1]
 refine A3 (Dk (A3 (BJ (turn n s hJ) ?_ fun _ _ z=>BM z)))
 intro r s1 h1
 cases r with
 | none=>exact Bc h1
 | some v =>
  refine A3 (BJ h1 ?_ fun _ _ z=>BM z)
  intro _ s2 h2
  refine A3 (BJ h2 ?_ fun _ _ z=>BM z)
  intro _ s3 h3
  refine A3 (A3 (BJ h3 ?_ fun _ _ z=>BM z))
  intro x s4 h4
  refine A3 (BJ h4 ?_ fun _ _ z=>BM z)
  intro _ s5 h5
  exact Bc (Bc ⟨rfl,h5⟩)
def aR (X:Cx) (sc:Scope) (N':List Str) (cl:List (Str×Addr)) (s2:A9) (H2:Hp) (C:Addr) (ex:List Addr):Cx :=
 { X with N:=N',s₀:=s2,H₀:=H2,env:=compEnvC sc cl C X.env,outer:=X.stack,ex:=ex,fn:=fun _=>false,pn:=[],xe:=fun _ _=>False }
def Caps (X:Cx) (sc:Scope) (cl:List (Str×Addr)):List Str->List Nat->Prop
 | [],[]=>True
 | y :: ys,j :: js=>X.N[j]?=some y/\X.env.kindOf y=some .cell/\cl.lookup y=X.env.cells.lookup y/\(Gf sc X.env).names.lookup y=some .cell/\Caps X sc cl ys js
 | _,_=>False
theorem Caps.get {X:Cx}{sc:Scope}{cl:List (Str×Addr)}:∀{ys:List Str}{js:List Nat}{i:Nat}{y:Str},Caps X sc cl ys js->ys[i]?=some y ->
  ∃j,js[i]?=some j/\X.N[j]?=some y/\X.env.kindOf y=some .cell/\cl.lookup y=X.env.cells.lookup y/\(Gf sc X.env).names.lookup y=some .cell
 | [],[],i,y,_,e=>by simp at e
 | _ :: _,j :: _,0,y,h,e=>by
  simp at e
  subst e
  exact ⟨j,rfl,h.1,h.2.1,h.2.2.1,h.2.2.2.1⟩
 | _ :: _,_ :: _,i+1,y,h,e=>by
  have q:=Caps.get (i:=i) (y:=y) h.2.2.2.2 (by simpa using e)
  simpa using q
 | [],_ :: _,_,_,h,_=>BM h
 | _ :: _,[],_,_,h,_=>BM h
theorem Caps.len {X:Cx}{sc:Scope}{cl:List (Str×Addr)}:∀{ys:List Str}{js:List Nat},Caps X sc cl ys js->ys.length=js.length
 | [],[],_=>rfl
 | _ :: _,_ :: _,h=>by simp [Caps.len h.2.2.2.2]
 | [],_ :: _,h=>BM h
 | _ :: _,[],h=>BM h
def cR (σ:St) (js:List Nat):St:=js.map fun j=>(σ[j]?).join
def d4 (J:It) (cap:St) (te:TE) (Q:VK) (H1:Hp):Prop:=∀D,H1 D=none->∃W:Nat->Nat->List V->Hp->Prop,(∃m,W 0 m [] (upd H1 D (.lst [])))/\∀i m ys H2,W i m ys H2->H2 D=some (.lst ys) /\
 ((J.stop i H2/\Q (.ref D) H2)\/(J.go i H2/\∀x H3,J.yld i H2 x H3->te (some x :: cap) H3 fun y H4=>H4 D=some (.lst ys)/\ys.length<sizeLine/\∃m',m'<m/\W (i+1) m' (ys++[y]) (upd H4 D (.lst (ys++[y])))))
def w8 (wi:TI) (js:List Nat) (te:TE):TE:=fun σ H Q=>wi σ H fun J H1=>d4 J (cR σ js) te Q H1
def ClIn (env:Env):List (Str×Addr)->Prop
 | []=>True
 | p :: r=>env.cells.lookup p.1=some p.2/\ClIn env r
theorem ClIn.mem {env:Env}:∀{cl:List (Str×Addr)}{p:Str×Addr},ClIn env cl->p∈cl->env.cells.lookup p.1=some p.2
 | [],_,_,h=>by cases h
 | q :: r,p,k,h=>by
  rcases Bp.mp h with z | z
  ·subst z; exact k.1
  ·exact ClIn.mem k.2 z
theorem Inv.but {X:Cx}{pins:'m'}{σ:St}{H:Hp}{s:A9}{C:Addr}{h':Heap}(I:Inv X pins σ H s) (sb:Ca C s.heap h') (f:bU X pins H C) (hx:X.s₀.heap.get? C=none:=by assumption):Inv X pins σ H { s with heap:=h' }:=by
 obtain ⟨f0,f1,f2,f3,f4,f5⟩:=f
 have ne0:∀b o,X.s₀.heap.get? b=some o->b≠C:=fun b o e z=>by rw [z,hx] at e; cases e
 have cellS:∀{c v},c≠C->s.heap.IsCell c v->h'.IsCell c v:=fun hc ⟨o,ho,hd⟩=>⟨o,(sb.2 _ hc).trans ho,hd⟩
 refine ⟨I.ok,I.os,I.bare,⟨fun b o e n hb he=>(sb.2 b (ne0 b o e)).trans (I.base.keep b o e n hb he),fun b o e n hb he=>?_,I.base.free,fun b o e he=>?_,I.base.tups,I.base.frzs,I.base.tbls⟩,?_,fun x c e=>?_,I.free,I.freeC,fun p hp=>?_,fun b u e=>?_,I.len⟩
 ·obtain ⟨sl,q⟩:=I.base.slot b o e n hb he
  exact ⟨sl,(sb.2 b (ne0 b o e)).trans q⟩
 ·obtain ⟨o',q⟩:=I.base.there b o e he
  exact ⟨o',(sb.2 b (ne0 b o e)).trans q⟩
 ·obtain ⟨m,hm,hl⟩:=I.loc
  refine ⟨m,hm.sameBut sb (Co f1),fun i x v e1 e2 e3=>?_⟩
  obtain ⟨u,r,l⟩:=hl i x v e1 e2 e3
  refine ⟨u,r,?_⟩
  rcases l with l | ⟨l1,c,l2,l3⟩
  ·exact .inl l
  ·exact .inr ⟨l1,c,l2,cellS (f4 _ _ l2) l3⟩
 ·obtain ⟨v,q⟩:=I.cell x c e
  exact ⟨v,cellS (f4 _ _ e) q⟩
 ·obtain ⟨q1,q2⟩:=I.pin p hp
  exact ⟨(sb.2 _ (f5 p hp)).trans q1,q2⟩
 ·refine (I.hok b u e).stay (fun c v hc z=>(sb.2 c ?_).trans z) (fun _ z=>z) fun _ _ z=>z
  rintro rfl
  rcases hc with hc | hc
  ·rw [<- hc,f0] at e; cases e
  ·rw [f0] at hc; cases hc
theorem mW {prog:Program}{w:BG}{A:BC}{R:GI->A9->Prop}{s:A9}{elt target iter cnd:Expr}{sc:Scope}{pos:Pos}{it acc:Value}{env:Env}(J:Nat->A9->Prop)
  (turn:∀n s,J n s->Bl (Bv prog w) A (FN it) (fun r s1=>match r with
   | none=>R (.ok .next) s1
   | some v=>Bl (Bv prog w) A (EV target it v) (fun _ s2=>Bl (Bv prog w) A (F1 target env v) (fun _ s3=>Bl (Bv prog w) A (isTrue cnd env (eval cnd env)) (fun ok s6=>if ok=true then Bl (Bv prog w) A (eval elt env) (fun x s4 =>
     Bl (Bv prog w) A (call (.builtin "list.append") [acc,x]) (fun _ s5=>∃m,m<n/\J m s5) (fun _ _=>False) s4) (fun _ _=>False) s6 else ∃m,m<n/\J m s6) (fun _ _=>False) s3) (fun _ _=>False) s2) (fun _ _=>False) s1) (fun _ _=>False) s)
  (n:Nat) (h:J n s):Ev (Bv prog w) A (.compLoop (.ListComp elt [⟨target,iter,[cnd],0⟩] sc pos) 0 it acc env) R s:=by
 refine codeAny_loop rfl J ?_ n h
 intro n s hJ
 show Bl _ _ ((compTurn (.ListComp elt [⟨target,iter,[cnd],0⟩] sc pos) 0 it acc env).onRaise (fun x=>do noteFrame x env; theTreesLotGoes x)) _ _ s
 refine wpAny_noted ?_
 rw [compTurn_list]
 refine A3 (Dk (A3 (BJ (turn n s hJ) ?_ fun _ _ z=>BM z)))
 intro r s1 h1
 cases r with
 | none=>exact Bc h1
 | some v =>
  refine A3 (BJ h1 ?_ fun _ _ z=>BM z)
  intro _ s2 h2
  refine A3 (BJ h2 ?_ fun _ _ z=>BM z)
  intro _ s3 h3
  refine A3 (wpAny_tests_one (BJ h3 ?_ fun _ _ z=>BM z))
  intro ok s6 h6
  cases ok with
  | false =>
   rw [if_neg Bx] at h6
   exact Bc ⟨rfl,h6⟩
  | true =>
   rw [if_pos rfl] at h6
   refine A3 (A3 (BJ h6 ?_ fun _ _ z=>BM z))
   intro x s4 h4
   refine A3 (BJ h4 ?_ fun _ _ z=>BM z)
   intro _ s5 h5
   exact Bc (Bc ⟨rfl,h5⟩)
def CompedF (J:It) (cap:St) (tc:TT) (te:TE) (Q:VK) (H1:Hp):Prop:=∀D,H1 D=none->∃W:Nat->Nat->List V->Hp->Prop,(∃m,W 0 m [] (upd H1 D (.lst [])))/\∀i m ys H2,W i m ys H2->H2 D=some (.lst ys) /\
 ((J.stop i H2/\Q (.ref D) H2)\/(J.go i H2/\∀x H3,J.yld i H2 x H3->tc (some x :: cap) H3 fun b H4=>if b=true then te (some x :: cap) H4 fun y H5=>H5 D=some (.lst ys)/\ys.length<sizeLine/\∃m',m'<m/\W (i+1) m' (ys++[y]) (upd H5 D (.lst (ys++[y]))) else ∃m',m'<m/\W (i+1) m' ys H4))
def cU (J:It) (n:Nat) (cap:St) (g:TG) (tc:TT) (te:TE) (Q:VK) (H1:Hp):Prop:=∀D,H1 D=none->∃W:Nat->Nat->List V->Hp->Prop,(∃m,W 0 m [] (upd H1 D (.lst [])))/\∀i m ys H2,W i m ys H2->H2 D=some (.lst ys) /\
 ((J.stop i H2/\Q (.ref D) H2)\/(J.go i H2/\∀x H3 (xo:St),xo.length=n->J.yld i H2 x H3->g x (xo++cap) H3 fun σ6 H6=>(∃xo':St,xo'.length=n/\σ6=xo'++cap)/\tc σ6 H6 fun b H4=>if b=true then te σ6 H4 fun y H5=>H5 D=some (.lst ys)/\ys.length<sizeLine/\∃m',m'<m/\W (i+1) m' (ys++[y]) (upd H5 D (.lst (ys++[y]))) else ∃m',m'<m/\W (i+1) m' ys H4))
structure Lp (P:Program) (w:BG) (A:BC) (elt tgt iter:Expr) (cs:List Expr) (sc:Scope) (pos:Pos) (TS:Env->A9->(Bool->A9->Prop)->Prop):Prop where
 h:∀{R:GI->A9->Prop}{s:A9}{it acc:Value}{env:Env}(J:Nat->A9->Prop)
  (_:∀n s,J n s->Bl (Bv P w) A (FN it) (fun r s1=>match r with
   | none=>R (.ok .next) s1
   | some v=>Bl (Bv P w) A (EV tgt it v) (fun _ s2=>Bl (Bv P w) A (F1 tgt env v) (fun _ s3=>TS env s3 fun ok s6=>if ok=true then Bl (Bv P w) A (eval elt env) (fun x s4 =>
     Bl (Bv P w) A (call (.builtin "list.append") [acc,x]) (fun _ s5=>∃m,m<n/\J m s5) (fun _ _=>False) s4) (fun _ _=>False) s6 else ∃m,m<n/\J m s6) (fun _ _=>False) s2) (fun _ _=>False) s1) (fun _ _=>False) s)
  (n:Nat),J n s->Ev (Bv P w) A (.compLoop (.ListComp elt [⟨tgt,iter,cs,0⟩] sc pos) 0 it acc env) R s
structure Tst (X:Cx) (sc:Scope) (N:List Str) (cl:List (Str×Addr)) (tc:TT) (TS:Env->A9->(Bool->A9->Prop)->Prop):Prop where
 h:∀{s2 H2 C ex pins s σ H} {P:Bool->Hp->Prop}{Y:Bool->A9->Prop},Inv (aR X sc N cl s2 H2 C ex) pins σ H s->tc σ H P->(∀b s',TP (aR X sc N cl s2 H2 C ex) pins σ P b s'->Y b s')->TS (aR X sc N cl s2 H2 C ex).env s Y
theorem Lp.no {P:Program}{w:BG}{A:BC}{elt tgt iter:Expr}{sc:Scope}{pos:Pos}:Lp P w A elt tgt iter [] sc pos fun _ s Y=>Y true s:=⟨fun J t n h=>qP J t n h⟩
theorem Lp.one {P:Program}{w:BG}{A:BC}{elt tgt iter cnd:Expr}{sc:Scope}{pos:Pos}:Lp P w A elt tgt iter [cnd] sc pos fun e s Y=>Bl (Bv P w) A (isTrue cnd e (eval cnd e)) Y (fun _ _=>False) s:=⟨fun J t n h=>mW J t n h⟩
def tTr:TT:=fun _ H P=>P true H
theorem Tst.no {X:Cx}{sc:Scope}{N:List Str}{cl:List (Str×Addr)}:Tst X sc N cl tTr fun _ s Y=>Y true s:=⟨fun I h f=>f _ _ ⟨_,I,h⟩⟩
theorem Tst.one {X:Cx}{sc:Scope}{N:List Str}{cl:List (Str×Addr)}{tc:TT}{cnd:Expr}(hcd:∀s2 H2 C ex,PT (aR X sc N cl s2 H2 C ex) cnd tc):Tst X sc N cl tc fun e s Y=>Bl (Bv X.prog X.w) X.A (isTrue cnd e (eval cnd e)) Y (fun _ _=>False) s:=⟨fun I h f=>BJ (hcd _ _ _ _ _ _ _ _ _ I h) f fun _ _ z=>z⟩
structure CSd (X:Cx) (sc:Scope) (cl:List (Str×Addr)):Prop where
 hc:X.calm=true
 hcell:(sc.names.all fun p=>p.2 != E5.cell)=true
 hkind:sc.kind=.function
 hnames:(sc.names.all fun p=>p.2 != E5.local||sc.names.lookup p.1 == some E5.local)=true
 hhas:((Gf sc X.env).names.all fun p=>p.2 == E5.local||p.2 == E5.globalImplicit||(cl.lookup p.1).isSome)=true
theorem CompedF.up {J:It}{cap:St}{tc:TT}{te:TE}{Q:VK}{H:Hp}(h:CompedF J cap tc te Q H):cU J 1 cap (cu 0) tc te Q H:=fun D hD=>by
 obtain ⟨W,w0,t⟩:=h D hD
 refine ⟨W,w0,fun i m ys H2 w=>?_⟩
 obtain ⟨d,a⟩:=t i m ys H2 w
 refine ⟨d,a.imp id (And.imp id fun st x H3 xo hx y=>?_)⟩
 match xo,hx with
 | [o],_=>exact ⟨⟨[some x],rfl,rfl⟩,st x H3 y⟩
section
variable {X:Cx}{pos p2:Pos}{elt iter tgt:Expr}{cs:List Expr}{sc:Scope}{xs ys:List Str}{js:List Nat}{cl:List (Str×Addr)}{wi:TI}{te:TE}{tc:TT}{g:TG}{TS:Env->A9->(Bool->A9->Prop)->Prop}
theorem qy {pins:'m'}{σ:St}{H:Hp}{s s4:A9}{fp:List Addr}{C:Addr}{H4:Hp}{m:Str->Option Value}(I:Inv X pins σ H s) (hf:∀b∈fp,bU X pins H b)
  (hkind:sc.kind=.function) (hcap:Caps X sc cl ys js) (hin:∀y c,cl.lookup y=some c->X.env.cells.lookup y=some c) (hhas:∀y,((Gf sc X.env).names.lookup y=some .cell\/(Gf sc X.env).names.lookup y=some .free)->∃c,cl.lookup y=some c)
  (hfl:∀b∈fp,b<'n') (hC:'n'<=C) (hos:s4.os=s.os) (hb:Fv s4.gens) (un:Un (frs X.stack) fp H H4 s.heap s4.heap) (kp:∀b o,s.heap.get? b=some o->s4.heap.get? b=some o) (hn:s4.heap.Ns C m) (hC4:H4 C=none)
  (hok:HOk X.prog X.w H4 s4.heap):Inv (aR X sc (xs++ys) cl s H C fp) [] ((xs.map fun _=>none)++cR σ js) H4 s4:=by
 have frb:∀b∈fp,b ∉ frs X.stack:=fun b hb z=>by
  rcases Bp.mp (I.stkSub b z) with q | q
  ·exact (hf b hb).2.1 q
  ·exact (hf b hb).2.2.1 q
 refine ⟨⟨I.ok.mod,hkind,I.ok.glob,I.ok.blt,hC,fun y z c h1 h2=>I.ok.inj y z c (hin y c h1) (hin z c h2),hhas,(fun _ _ z=>nomatch z),I.ok.hd,I.ok.frames,.inl rfl,fun b z=>⟨?_,fun y c e=>?_⟩,I.bs,BR I.ok.bsz I.sz,fun b o e z=>?_,frb,I.stack,I.stkFree⟩,
  hos,hb,un,⟨m,hn,fun i y v e1 e2 e3=>?_⟩,fun y c e=>?_,hC4,fun y c e=>?_,fun p hp=>?_,hok,?_⟩
 ·exact Bw (BO (hfl b z) hC)
 ·exact (hf b z).2.2.2.2.1 y c (hin y c e)
 ·rcases (hf b z).2.2.2.1 with q | q
  ·exact I.ok.noex b o e q
  ·exact absurd (BO (Bi e) (BR I.ok.bsz q)) (CB _)
 ·by_cases hlt:i<xs.length
  ·rw [Bk (by rw [A2]; exact hlt),A5,A4 hlt] at e2
   have z:(none:Option V)=some v:=by simpa using e2
   cases z
  ·have e1':ys[i-xs.length]?=some y:=by
    have e1:(xs++ys)[i]?=some y:=e1
    rw [Bm 'b'] at e1
    exact e1
   have e2':(cR σ js)[i-xs.length]?=some (some v):=by
    rw [Bm (by rw [A2]; omega),A2] at e2
    exact e2
   obtain ⟨j,q1,q2,q3,q4,q5⟩:=hcap.get e1'
   unfold cR at e2'
   rw [A5,q1] at e2'
   have e2'':(σ[j]?).join=some v:=by simpa using e2'
   have e3':σ[j]?=some (some v):=by
    cases z:σ[j]? with
    | none=>rw [z] at e2''; cases e2''
    | some o =>
     cases o with
     | none=>rw [z] at e2''; cases e2''
     | some w'=>rw [z] at e2''; cases e2''; rfl
   obtain ⟨m0,_,hl⟩:=I.loc
   obtain ⟨u,r,l⟩:=hl j y v q2 e3' (.inr (.inl q3))
   refine ⟨u,r,.inr ⟨.inl q5,?_⟩⟩
   rcases l with ⟨l1,_⟩ | ⟨_,c,l2,l3⟩
   ·rw [q3] at l1; cases l1
   ·obtain ⟨o,ho,hd⟩:=l3
    exact ⟨c,q4.trans l2,o,kp c o ho,hd⟩
 ·obtain ⟨v,o,ho,hd⟩:=I.cell y c (hin y c e)
  exact ⟨v,o,kp c o ho,hd⟩
 ·obtain ⟨v,o,ho,hd⟩:=I.cell y c (hin y c e)
  exact un.free c o ho (I.freeC y c (hin y c e)) fun z=>(hf c z).2.2.2.2.1 y c (hin y c e) rfl
 ·exact absurd (show p∈([]:'m') from hp) 'e'
 ·show ((xs.map fun _=>(none:Option V))++cR σ js).length=(xs++ys).length
  unfold cR
  rw [Bd,Bd,A2,A2,hcap.len]
theorem jr {u:Option (Value->Sem Unit)}{QQ:Value->A9->Prop}{KV:VK}{R:It->Hp->Prop}{pins:'m'}{s:A9}{σ:St}{H:Hp}(hl:Lp X.prog X.w X.A elt tgt iter cs sc pos TS) (ht:Tst X sc (xs++ys) cl tc TS) (hclos:Es sc X.env=pure cl) (sd:CSd X sc cl)
  (hcap:Caps X sc cl ys js) (hin:ClIn X.env cl) (hi:PI X.nox tgt iter wi) (hg:∀s2 H2 C ex,PG (aR X sc (xs++ys) cl s2 H2 C ex) tgt g) (he:∀s2 H2 C ex,PE (aR X sc (xs++ys) cl s2 H2 C ex) elt te) (hs:∀v,CV iter X.env v=pure v)
  (I:Inv X pins σ H s) (h:wi σ H R) (up:∀J H1,R J H1->cU J xs.length (cR σ js) g tc te KV H1)
  (fin:∀{s2:A9}{H2:Hp}{C:Nat}{fp:List Addr}{σ':St}{H':Hp}{s':A9},Inv X pins σ H2 s2->(∀b∈fp,bU X pins H2 b)->C='o'+1->Inv (aR X sc (xs++ys) cl s2 H2 C fp) [] σ' H' s'->KV (.ref 'o') H' ->
   compPost (Bv X.prog X.w) X.A (fun _ _=>False) u QQ (.ref 'o') C (.ok .next) s') :
  Bl (Bv X.prog X.w) X.A (comprehension (.ListComp elt [⟨tgt,iter,cs,0⟩] sc pos) sc X.env p2 (newList []) false (eval iter X.env) u) QQ (fun _ _=>False) s:=by
 have hc:=sd.hc
 have hkind:=sd.hkind
 have hnames:∀y∈sc.names,y.2=.local->sc.names.lookup y.1=some .local:=fun y hy z=>by
  have:=EE.mp sd.hnames y hy
  rw [z] at this
  simpa using this
 have hcell:∀y∈sc.names,y.2≠.cell:=fun y hy z=>by
  have:=EE.mp sd.hcell y hy
  rw [z] at this
  exact absurd this 'f'
 have hhas:∀y,((Gf sc X.env).names.lookup y=some .cell\/(Gf sc X.env).names.lookup y=some .free)->∃c,cl.lookup y=some c:=fun y h=>by
  rcases h with h | h
  ·exact De.mp (by simpa using EE.mp sd.hhas _ (Cn h))
  ·exact De.mp (by simpa using EE.mp sd.hhas _ (Cn h))
 have hin:∀y c,cl.lookup y=some c->X.env.cells.lookup y=some c:=fun y c e=>hin.mem (Cn e)
 refine wpAny_comprehension_free rfl hs hclos hkind hnames (BJ (hi pins s σ H _ (I.wish _) h) ?_ fun _ _ z=>BM z)
 intro v s1 h1
 refine BJ h1 ?_ fun _ _ z=>BM z
 rintro itv s2 ⟨it,fp,tn,J,H2,rfl,I2w,T,st2,f2w,q⟩
 have I2:=I2w.unwish
 have f2:∀b∈fp,bU X pins H2 b:=f2w
 refine Cr (wpAny_newFunctionEnv hcell (by intro y hy; simp at hy) (fun h4 hns hsb=>?_) hkind)
 dsimp only at hns hsb ⊢
 generalize hE:s2.heap.push { cls:=.type "list",dict:=none,data:=.seq ([]:List Value).toArray }=g3 at hns hsb ⊢
 have hsz:g3.objs.size='o'+1:=by rw [<- hE,C3]
 have hDC:'o'≠g3.objs.size:=by omega
 have old:∀b o,s2.heap.get? b=some o->h4.get? b=some o:=fun b o e=>by
  have lt:b<'o':=Bi e
  rw [hsb.2 b (Bw (by rw [hsz]; exact Ct lt))]
  exact A6 _ (hE ▸ A6 _ e)
 have hD0:H2 'o'=none:=I2.hok.fresh (Bb _)
 have hC0:H2 g3.objs.size=none:=I2.hok.fresh 'b'
 have hDat:h4.get? 'o'=some { cls:=.type "list",data:=.seq ([]:List Value).toArray }:=by
  rw [hsb.2 _ hDC]
  exact A6 _ (hE ▸ Bj _ rfl)
 obtain ⟨W,⟨m0,w0⟩,turn⟩:=up _ _ q 'o' hD0
 have hfl:∀b∈fp,b<'o':=fun b hb=>by
  obtain ⟨o,e,_⟩:=T.obj _ _ st2 b hb
  exact Bi e
 have J0:Inv (aR X sc (xs++ys) cl s2 H2 g3.objs.size fp) [] ((xs.map fun _=>none)++cR σ js) (upd H2 'o' (.lst [])) { s2 with heap:=h4,toks:=s2.toks+([]:List (Str×Value)).length }:=by
  refine qy (xs:=xs) (m:=fun y=>([]:List (Str×Value)).reverse.lookup y) I2 f2 hkind hcap hin hhas hfl 'b' rfl I2.bare (Un.laid old (Bb _) hD0) old hns ?_ ?_
  ·rw [ah (Co hDC)]; exact hC0
  ·exact I2.hok.laid old (Bb _) ⟨B6 _,[],0,.nil,hDat⟩
 have st4:tn 0 h4:=T.keep _ _ _ st2 fun b hb o e=>old b o e
 have xcell:∀y c,(aR X sc (xs++ys) cl s2 H2 g3.objs.size fp).env.cells.lookup y=some c->X.env.cells.lookup y=some c:=hin
 have stat:∀{H':Hp},(∀b∈fp,H' b=none)->∀b∈fp,bU (aR X sc (xs++ys) cl s2 H2 g3.objs.size fp) [] H' b:=fun hn b hb=>by
  refine ⟨hn b hb,?_,?_,.inl hb,fun y c e=>(f2 b hb).2.2.2.2.1 y c (hin y c e),fun p hp=>absurd (show p∈([]:'m') from hp) 'e'⟩
  ·have lt:b<'o':=hfl b hb
   exact Bw (by show b<g3.objs.size; rw [hsz]; exact Ct lt)
  ·intro z
   rcases Bp.mp (I2.stkSub b z) with q | q
   ·exact (f2 b hb).2.1 q
   ·exact (f2 b hb).2.2.1 q
 have loop:∀s4:A9,s4={ s2 with heap:=h4,toks:=s2.toks+([]:List (Str×Value)).length } ->
   Ev (Bv X.prog X.w) X.A (.compLoop (.ListComp elt [⟨tgt,iter,cs,0⟩] sc pos) 0 (.ref it) (.ref 'o') (compEnvC sc cl g3.objs.size X.env))
    (compPost (Bv X.prog X.w) X.A (fun _ _=>False) u QQ (.ref 'o') g3.objs.size) s4:=by
  rintro s4 rfl
  refine hl.h (fun n s'=>∃(i:Nat) (xo:St) (ys':List V) (H':Hp),xo.length=xs.length/\Inv (aR X sc (xs++ys) cl s2 H2 g3.objs.size fp) [] (xo++cR σ js) H' s'/\tn i s'.heap/\(∀b∈fp,H' b=none)/\W i n ys' H') ?_ m0 ⟨0,xs.map fun _=>none,[],_,by rw [A2],J0,st4,fun b hb=>?_,w0⟩
  ·rintro n s' ⟨i,xo,ys',H',hxo,J',st',fr',w'⟩
   obtain ⟨hD,alt⟩:=turn i n ys' H' w'
   rcases alt with ⟨stop,qn⟩ | ⟨go,step⟩
   ·refine BJ (T.done (aR X sc (xs++ys) cl s2 H2 g3.objs.size fp) rfl rfl rfl hc i [] s' _ H' (fun _ _=>False) J' (stat fr') st' stop) ?_ fun _ _ z=>z
    rintro r s'' ⟨rfl,J''⟩
    exact fin I2 f2 hsz J'' qn
   ·refine BJ (T.item (aR X sc (xs++ys) cl s2 H2 g3.objs.size fp) rfl rfl rfl hc i [] s' _ H' (fun _ _=>False) J' (stat fr') st' go) ?_ fun _ _ z=>z
    rintro r s'' ⟨u,rfl,hu⟩
    refine BJ hu ?_ fun _ _ z=>z
    rintro _ s5 ⟨xv,H5,J5,r5,y5,st5,fr5⟩
    have J5':=J5.pinned (stat fr5) (T.obj _ _ st5)
    refine BJ (hg s2 H2 g3.objs.size fp _ s5 _ H5 xv u _ J5' r5 (step xv H5 xo hxo y5)) ?_ fun _ _ z=>z
    rintro _ s6 ⟨σ6,H6,J6,⟨xo',hxo',rfl⟩,h6⟩
    refine ht.h J6 h6 ?_
    rintro okb s9 ⟨H9,J9,c9⟩
    cases okb with
    | false =>
     rw [if_neg Bx] at c9 ⊢
     obtain ⟨m',hm',w7⟩:=c9
     have pinned:∀b∈fp,∀o,s5.heap.get? b=some o->s9.heap.get? b=some o/\H9 b=none:=fun b hb o e=>by
      obtain ⟨q1,q2,_⟩:=J9.pin (b,o) (BI _ (BI _ (dj hb e)))
      exact ⟨q1,q2⟩
     refine ⟨m',hm',i+1,xo',ys',_,hxo',J9.unpinned,T.keep _ _ _ st5 fun b hb o e=>(pinned b hb o e).1,fun b hb=>?_,w7⟩
     obtain ⟨o,e,_⟩:=T.obj _ _ st5 b hb
     exact (pinned b hb o e).2
    | true =>
     rw [if_pos rfl] at c9 ⊢
     refine BJ (he s2 H2 g3.objs.size fp _ s9 _ H9 _ J9 c9) ?_ fun _ _ z=>z
     rintro yv s7 ⟨yy,H7,J7,r7,hD7,hlen,m',hm',w7⟩
     refine BJ (ja (X:=aR X sc (xs++ys) cl s2 H2 g3.objs.size fp) _ s7 _ H7 (.ref 'o') [yy] (.ref 'o') [yv] (fun _ H8=>H8=upd H7 'o' (.lst (ys'++[yy]))) J7 rfl (.cons r7 .nil) ⟨_,ys',yy,rfl,rfl,hD7,hlen,rfl⟩) ?_ fun _ _ z=>z
     rintro _ s8 ⟨_,H8,J8,_,rfl⟩
     have pinned:∀b∈fp,∀o,s5.heap.get? b=some o->s8.heap.get? b=some o/\(upd H7 'o' (.lst (ys'++[yy]))) b=none:=fun b hb o e=>by
      obtain ⟨q1,q2,_⟩:=J8.pin (b,o) (BI _ (BI _ (dj hb e)))
      exact ⟨q1,q2⟩
     refine ⟨m',hm',i+1,xo',ys'++[yy],_,hxo',J8.unpinned,T.keep _ _ _ st5 fun b hb o e=>(pinned b hb o e).1,fun b hb=>?_,w7⟩
     obtain ⟨o,e,_⟩:=T.obj _ _ st5 b hb
     exact (pinned b hb o e).2
  ·rw [ah (Bw (hfl b hb))]
   exact (f2 b hb).1
 exact codeAny_compStart_list (loop _ rfl) (T.self _ _ _ _ _ st4 (loop _ rfl))
theorem uF {R:St->VK->It->Hp->Prop}(up:∀ σ Q J H1,R σ Q J H1->cU J xs.length (cR σ js) g tc te Q H1) (hl:Lp X.prog X.w X.A elt tgt iter cs sc pos TS) (ht:Tst X sc (xs++ys) cl tc TS) (hclos:Es sc X.env=pure cl) (sd:CSd X sc cl)
  (hcap:Caps X sc cl ys js) (hin:ClIn X.env cl) (hi:PI X.nox tgt iter wi) (hg:∀s2 H2 C ex,PG (aR X sc (xs++ys) cl s2 H2 C ex) tgt g) (he:∀s2 H2 C ex,PE (aR X sc (xs++ys) cl s2 H2 C ex) elt te) (hs:∀v,CV iter X.env v=pure v) :
  PE X (.ListComp elt [⟨tgt,iter,cs,0⟩] sc pos) fun σ H Q=>wi σ H (R σ Q):=by
 intro pins s σ H Q I h
 rw [eval_ListComp]
 refine BJ (jr (u:=none) (QQ:=EP X pins σ Q) hl ht hclos sd hcap hin hi hg he hs I h (up σ Q) (fun {s2 H2 C fp σ' H' s'} I2 f2 hsz J' q'=>by
  obtain ⟨m,hm,_⟩:=J'.loc
  refine ⟨m,hm,fun h' sb=>?_⟩
  have neC:∀b o,s2.heap.get? b=some o->b≠C:=fun b o e=>by
   have lt:b<'o':=Bi e
   exact Bw (by rw [hsz]; exact Ct lt)
  have ub:=J'.base
  refine ⟨.ref 'o',H',?_,rfl,q'⟩
  refine I2.call' (s':={ s' with heap:=h' }) (ch:=fp) J'.os ⟨fun b o e n hb hx=>(sb.2 b (neC b o e)).trans (ub.keep b o e n hb hx),fun b o e n hb hx=>?_,ub.free,fun b o e hx=>?_,ub.tups,ub.frzs,ub.tbls⟩ (fun b u e=>?_) J'.bare fun b hb=>⟨(f2 b hb).2.2.2.1,(f2 b hb).2.1,(f2 b hb).2.2.2.2.1,(f2 b hb).2.2.2.2.2⟩
  ·obtain ⟨sl,e1⟩:=ub.slot b o e n hb hx
   exact ⟨sl,(sb.2 b (neC b o e)).trans e1⟩
  ·obtain ⟨o',e1⟩:=ub.there b o e hx
   exact ⟨o',(sb.2 b (neC b o e)).trans e1⟩
  ·have hCn:H' C=none:=J'.free
   refine (J'.hok b u e).stay (fun c v hc z=>(sb.2 c ?_).trans z) (fun _ z=>z) fun _ _ z=>z
   rintro rfl
   rcases hc with hc | hc
   ·rw [<- hc,hCn] at e; cases e
   ·rw [hCn] at hc; cases hc)) (fun _ _ z=>z) fun _ _ z=>BM z
theorem mi {R:St->VK->It->Hp->Prop}{i:Nat}{y0:Str}{py spos:Pos}(up:∀ σ Q J H1,R σ Q J H1->cU J xs.length (cR σ js) g tc te Q H1) (hl:Lp X.prog X.w X.A elt tgt iter cs sc pos TS) (ht:Tst X sc (xs++ys) cl tc TS) (hclos:Es sc X.env=pure cl) (sd:CSd X sc cl)
  (hcap:Caps X sc cl ys js) (hin:ClIn X.env cl) (hi:PI X.nox tgt iter wi) (hg:∀s2 H2 C ex,PG (aR X sc (xs++ys) cl s2 H2 C ex) tgt g) (he:∀s2 H2 C ex,PE (aR X sc (xs++ys) cl s2 H2 C ex) elt te) (hs:∀v,CV iter X.env v=pure v)
  (hN:X.N.Nodup) (hi0:X.N[i]?=some y0) (hy0:X.env.scope.names.lookup y0=some .local) (hsw:Dt (.ListComp elt [⟨tgt,iter,cs,0⟩] sc pos) (some (.Name y0 py)) spos.line X.env=pure true) :
  PS X (.Assign [.Name y0 py] (.ListComp elt [⟨tgt,iter,cs,0⟩] sc pos) spos) (gP (fun σ H Q=>wi σ H (R σ Q)) (cu i)):=by
 intro pins s σ H DE I h
 rw [exec_Assign_Name_used _ _ _ _ hsw]
 refine A3 (Dk (A3 ?_))
 show Bl _ _ (do let _ <- comprehension (.ListComp elt [⟨tgt,iter,cs,0⟩] sc pos) sc X.env _ (newList []) false (eval iter X.env) (some (F1 (.Name y0 py) X.env))) _ _ s
 refine A3 (BJ (jr (u:=some (F1 (.Name y0 py) X.env)) (QQ:=fun _ s'=>SP X pins DE .next s') hl ht hclos sd hcap hin hi hg he hs I h (up σ _) (fun {s2 H2 C fp σ' H' s'} I2 f2 hsz J' q'=>by
  obtain ⟨m,hm,_⟩:=J'.loc
  have neC:∀b o,s2.heap.get? b=some o->b≠C:=fun b o e=>by
   have lt:b<'o':=Bi e
   exact Bw (by rw [hsz]; exact Ct lt)
  have ub:=J'.base
  have I':Inv X pins σ H' s':=I2.call' (ch:=fp) J'.os ub J'.hok J'.bare fun b hb=>⟨(f2 b hb).2.2.2.1,(f2 b hb).2.1,(f2 b hb).2.2.2.2.1,(f2 b hb).2.2.2.2.2⟩
  have fC:bU X pins H' C:=I2.fpOk 'b' J'.free
  show Bl _ _ (F1 (.Name y0 py) X.env (.ref 'o')) _ _ s'
  refine wpAny_assign_Name (iQ (v:=.ref 'o') I' hN hi0 (.inl hy0) rfl (fun s3 I3 sb3=>?_) (.inr hy0))
  obtain ⟨a3,sb3,ha3⟩:=sb3
  have na:C≠a3:=by
   rcases ha3 with rfl | z
   ·exact fC.2.1
   ·exact fun e=>fC.2.2.2.2.1 _ _ z e.symm
  have h0:X.s₀.heap.get? C=none:=by
   cases e:X.s₀.heap.get? C with
   | none=>rfl
   | some o =>
    have l1:=Bi e
    exact absurd (BO l1 (BR I2.sz (BR (Dd _) (FQ hsz.symm)))) (CB _)
  exact ⟨m,hm.sameBut sb3 na,fun h' sb=>⟨_,H',I3.but sb fC h0,q'⟩⟩)) (fun _ s' hq=>Bc (Bc hq)) fun _ _ z=>BM z)
end
section
variable {X:Cx}
theorem uV:bz X (.builtin "all") (fun xs H Q=>∃(a:Addr) (bs:List Bool),xs=[.ref a]/\SqL X.K H a (bs.map V.bl)/\X.calm=true/\Q (.bl (bs.all id)) H):=by
 intro pins s σ H xs us Q I r h
 obtain ⟨a,bs,rfl,hS,hc,q⟩:=h
 obtain ⟨u,rfl,rx⟩:=bR r
 cases rx
 obtain ⟨its,rv,pl,hz⟩:=I.list hS
 have hlen:its.length=bs.length:=by rw [<- rv.length,A2]
 refine call_all_walk (EZ pl.isList ?_)
 have ne:a≠'n':=by
  obtain ⟨o,e,_⟩:=pl.isList
  exact Bw (Bi e)
 have hh:X.A.in1.handled=none:=I.ok.hd hc
 refine ⟨'n',_,_,_,_,_,fun i=>bs.getD i true,rfl,Walks.list hh 'n' a ne its.toArray,⟨⟨_,Bj _ rfl,rfl,rfl⟩,?_⟩,?_,?_⟩
 ·obtain ⟨o,e,r⟩:=pl.isList
  exact ⟨o,A6 _ e,r⟩
 ·intro i v s' Q' E' hv hq
  have hv':its[i]?=some v:=by simpa using hv
  have hi:i<its.length:=(A8.mp hv').1
  have hb:bs[i]?=some bs[i]:=A4 'b'
  obtain ⟨u,hu,ru⟩:=rv.get (i:=i) (x:=V.bl bs[i]) (by rw [A5,hb]; rfl)
  rw [hv'] at hu
  cases hu
  cases ru
  refine CU ?_
  have e:bs.getD i true=bs[i]:=by rw [A7,hb]; rfl
  exact e ▸ hq
 ·intro h' tk kp
  have e:(Bh its.toArray.size).all (fun i=>bs.getD i true)=bs.all id:=by
   rw [Be,hlen]
   clear q hS rv hz hlen pl
   induction bs with
   | nil=>rfl
   | cons b r ih =>
    rw [BK,List.range_succ_eq_map,List.all_cons,List.all_cons,<- ih,List.all_map]
    rfl
  rw [e]
  refine ⟨.bl _,H,?_,rfl,q⟩
  refine I.kept (h':=h') fun b o e=>kp b o ?_ (A6 _ e)
  have lt:b<'n':=Bi e
  rw [Bu]
  exact Bw lt
end
mutual
inductive Den (K:Ba) (H:Hp):V->PyData->Prop
 | non:Den K H .non .none
 | bl (b:Bool):Den K H (.bl b) (.bool b)
 | int (i:Int):Den K H (.int i) (.int i)
 | str (x:Str):Den K H (.str x) (.str x)
 | lst {a:Addr}{xs:List V}{ds:List PyData}:SqL K H a xs->DenAll K H xs ds->Den K H (.ref a) (.list ds)
 | tup {a:Addr}{xs:List V}{ds:List PyData}:SqT K H a xs->DenAll K H xs ds->Den K H (.ref a) (.tuple ds)
inductive DenAll (K:Ba) (H:Hp):List V->List PyData->Prop
 | nil:DenAll K H [] []
 | cons {x:V}{xs:List V}{d:PyData}{ds:List PyData}:Den K H x d->DenAll K H xs ds->DenAll K H (x :: xs) (d :: ds)
end
section
variable {X:Cx}{pins:'m'}{σ:St}{H:Hp}{s:A9}
mutual
theorem Den.reads (I:Inv X pins σ H s):∀{v:V}{d:PyData}{u:Value},Den X.K H v d->RelV v u->∃as,Reads s.heap u d as
 | _,_,_,.non,r=>by cases r; exact ⟨_,.none⟩
 | _,_,_,.bl b,r=>by cases r; exact ⟨_,.bool b⟩
 | _,_,_,.int i,r=>by obtain ⟨t,rfl⟩:=r; exact ⟨_,.int i t⟩
 | _,_,_,.str x,r=>by obtain ⟨t,rfl⟩:=r; exact ⟨_,.str x t⟩
 | _,_,_,.lst hS ha,r=>by
  cases r
  obtain ⟨its,rv,⟨o,n,e,c,_,d⟩,_⟩:=I.list hS
  obtain ⟨as,ra⟩:=DenAll.reads I ha rv
  exact ⟨_,.list e c d (by simpa using ra)⟩
 | _,_,_,.tup hS ha,r=>by
  cases r
  obtain ⟨its,rv,⟨o,e,c,n,d⟩,_⟩:=I.tuple hS
  obtain ⟨as,ra⟩:=DenAll.reads I ha rv
  exact ⟨_,.tuple e c d (by simpa using ra)⟩
theorem DenAll.reads (I:Inv X pins σ H s):∀{vs:List V}{ds:List PyData}{us:List Value},DenAll X.K H vs ds->Vals vs us->∃as,ReadsAll s.heap us ds as
 | _,_,_,.nil,r=>by cases r; exact ⟨_,.nil⟩
 | _,_,_,.cons h t,r=>by
  cases r with
  | cons r1 r2 =>
   obtain ⟨as,ra⟩:=Den.reads I h r1
   obtain ⟨bs,rb⟩:=DenAll.reads I t r2
   exact ⟨_,.cons ra rb⟩
end
end
section
variable {X:Cx}
def AO (K:Ba):R2:=fun x y H Q=>∃da db,Den K H x da/\Den K H y db/\da.canLay0=true/\db.canLay0=true/\min da.depth db.depth<=60/\Q (.bl (PyData.eqv da db)) H
def AN (K:Ba):R2:=fun x y H Q=>∃da db,Den K H x da/\Den K H y db/\da.canLay0=true/\db.canLay0=true/\min da.depth db.depth<=60/\Q (.bl (!PyData.eqv da db)) H
theorem tI {k:Nat}(hr:Room k X.A):OpR X (CW .Eq) (AO X.K):=by
 intro pins s σ H x y v u Q I rx ry h
 obtain ⟨da,db,ha,hb,ca,cb,hd,q⟩:=h
 obtain ⟨as,ra⟩:=ha.reads I rx
 obtain ⟨bs,rb⟩:=hb.reads I ry
 have hu:=hr.units
 exact PySem.SeqAt.compareEq_reads ra rb ca cb 'b' ⟨.bl _,H,I,rfl,q⟩
theorem dg {k:Nat}(hr:Room k X.A):OpR X (CW .NotEq) (AN X.K):=by
 intro pins s σ H x y v u Q I rx ry h
 obtain ⟨da,db,ha,hb,ca,cb,hd,q⟩:=h
 obtain ⟨as,ra⟩:=ha.reads I rx
 obtain ⟨bs,rb⟩:=hb.reads I ry
 have hu:=hr.units
 exact PySem.SeqAt.compareNe_reads ra rb ca cb 'b' ⟨.bl _,H,I,rfl,q⟩
def iK:V->Value
 | .ref a=>.ref a
 | .ty n=>.type n
 | _=>.none
theorem d3:bz X (.builtin "isinstance") (fun xs H Q=>∃x c t b,xs=[x,c]/\TyOf X.K H x t/\(c=.ref (match c with | .ref a=>a | _=>0)\/∃n,c=.ty n)/\EB X.K t (iK c)=some b/\Q (.bl b) H):=by
 intro pins s σ H xs us Q I r h
 obtain ⟨x,c,t,b,rfl,ty,hc,hk,q⟩:=h
 obtain ⟨u,w',rfl,rx,rc⟩:=rg r
 have e:w'=iK c:=by
  cases c with
  | ref a=>exact rc
  | ty n=>exact rc
  | _=>rcases hc with z | ⟨n,z⟩ <;> cases z
 subst e
 exact qw I rx ty hk fun tk=>⟨.bl b,H,I.tok _,rfl,q⟩
end
end L2
namespace L2
open PySem PySem.W
section
variable {prog:Program}{w:BG}{A:BC}{E:Value->A9->Prop}{K:Frag}{x C:Addr}{ox:Obj}{od:Option Obj}{name:Str}
def eE (prog:Program) (w:BG) (A:BC) (x C:Addr) (Q:Value->A9->Prop) (s:A9):DH->Prop
 | .value v=>handedIn v=true/\Q v s
 | .bind g a=>Bl (Bv prog w) A (call g [a,.ref x,.ref C]) (fun v s'=>handedIn v=true/\Q v s') (fun _ _=>False) s
 | .missing=>False
theorem qH {s:A9}{tk:Tok}{r:DH}{Q:Value->A9->Prop}(X:K.In s.heap) (I:InstAt s.heap x ox C od) (hf:findObj K C od name=some r) (h:eE prog w A x C Q s r) :
  Bl (Bv prog w) A (Builtin.«object.__getattribute__» ⟨[.ref x,.str name tk],[]⟩) (fun fin s'=>match fin with | .done (.ret v)=>handedIn v=true/\Q v s' | _=>False) (fun _ _=>False) s:=by
 obtain ⟨hh,g,d,t,os⟩:=s
 have L0:=I.type (M:=Bv prog w)
 have L1:=looks_find (M:=Bv prog w) X I hf
 unfold Builtin.«object.__getattribute__»
 refine A3 (Bc ?_)
 dsimp only
 refine A3 (Bc ?_)
 refine A3 (L0.at ?_)
 refine A3 (L1.at ?_)
 cases r with
 | value v=>exact Bc h
 | bind g a =>
  dsimp only
  unfold Builtin.ObjectAttr.bindTo
  exact A3 (B0 (BJ h (fun v s' q=>Bc q) fun _ _ z=>z))
 | missing=>exact BM h
theorem uC {s:A9}{tk:Tok}{r:DH}{Q:Value->A9->Prop}(X:K.In s.heap) (I:InstAt s.heap x ox C od) (hm:mroIn K C (.type "BaseException")=some true) (hf:findObj K C od name=some r)
  (h:eE prog w A.in1 x C Q s r) :
  Bl (Bv prog w) A (call (.builtin "BaseException.__getattribute__") [.ref x,.str name tk]) (fun v s'=>handedIn v=true/\Q v s') (fun _ _=>False) s:=by
 have hk:builtinKind "BaseException.__getattribute__"=some .slot:=by decide +kernel
 have hsplit:splitId "BaseException.__getattribute__"=some ("BaseException", "__getattribute__"):=by decide +kernel
 have ha:=PySem.F.args_bexc_ga (.ref x) (.str name tk)
 have L0:=I.type (M:=Bv prog w)
 have L1:=looks_mroIn (M:=Bv prog w) X hm
 refine F4 (Gg PySem.F.attr_ValueError.ga.plain PySem.F.entry_bexc_ga ?_)
 simp only [Fe,hk,hsplit]
 refine A3 ?_
 unfold isInstance
 refine A3 (L0.here (L1.here ?_))
 rw [if_neg 'f']
 unfold argsOk at ha
 have go:=BJ (qH (tk:=tk) X I hf h) (Q':=fun fin s'=>match fin with
  | .done f=>(match (Except.ok f:GI) with | .ok (.ret v)=>handedIn v=true/\Q v s' | .ok _=>False | .error _=>False)
  | .again c'=>c'.quiet=true/\Ev (Bv prog w) A c' (fun r s'=>match r with | .ok (.ret v)=>handedIn v=true/\Q v s' | .ok _=>False | .error _=>False) s') (fun fin s' z=>by
   rcases fin with (_ | _ | _ | _) | _ <;> first | exact z | exact BM z) fun _ _ z=>z
 cases hs:Manifest.signature? "BaseException.__getattribute__" with
 | none=>exact Bc go
 | some sg =>
  rw [hs] at ha
  dsimp only at ha ⊢
  rw [ha]
  exact Bc go
theorem zd {s:A9}{tk:Tok}{fill expr:Bool}{r:DH}{Q:Value->A9->Prop}(X:K.In s.heap) (I:InstAt s.heap x ox C od) (hm:mroIn K C (.type "BaseException")=some true) (hf:findObj K C od name=some r)
  (hga:findIn K (.ref C) "__getattribute__"=some (some (.builtin "BaseException.__getattribute__"))) (hgn:findIn K (.ref C) "__getattr__"=some none) (h:eE prog w A.in1 x C Q s r) :
  Bl (Bv prog w) A (getAttrBy (.ref x) (.str name tk) fill expr) Q E s:=by
 have L0:=I.type (M:=Bv prog w)
 have L1:=looks_findIn (M:=Bv prog w) X hga
 have L2:=looks_findIn (M:=Bv prog w) X hgn
 have hx2:(Value.builtin "BaseException.__getattribute__" == Value.builtin "object.__getattribute__")=false:=by decide +kernel
 unfold getAttrBy
 refine B0 (A3 (L0.here (A3 (L1.here ?_))))
 dsimp only
 rw [hx2,GA,if_neg 'f']
 unfold getAttrByItsOwn hookBefore
 rw [if_pos (show onTheHeap (Bs C)=true from rfl)]
 refine A3 (L2.here (A3 (Ft (B0 ?_))))
 unfold callGetattribute
 rw [show (expr&&onTheHeap (Value.builtin "BaseException.__getattribute__"))=false by cases expr <;> rfl,if_neg 'f']
 unfold boundAndCalled
 rw [PySem.F.attr_ValueError.ga.bind (.ref x)]
 refine A3 (Bc (BJ (uC X I hm hf h) ?_ fun _ _ z=>BM z))
 rintro v s' ⟨hv,q⟩
 exact handed_on hv q
theorem uD {s:A9}{expr:Bool}{r:DH}{Q:Value->A9->Prop}(X:K.In s.heap) (I:InstAt s.heap x ox C od) (hm:mroIn K C (.type "BaseException")=some true) (hf:findObj K C od name=some r)
  (hga:findIn K (.ref C) "__getattribute__"=some (some (.builtin "BaseException.__getattribute__"))) (hgn:findIn K (.ref C) "__getattr__"=some none) (h:eE prog w A.in1 x C Q { s with toks:=s.toks+1 } r) :
  Bl (Bv prog w) A (getAttr (.ref x) name expr) Q E s:=by
 unfold getAttr
 exact A3 (wpAny_mkText (zd (s:={ s with toks:=s.toks+1 }) X I hm hf hga hgn h))
end
end L2
namespace L2
open PySem PySem.Spec PyProof.Rows
structure zu (K:Ba) (C:Addr):Prop where
 hm:Ge K C (.type "BaseException")=some true
 hmo:Ge K C (.type "object")=some true
 hga:CJ K (.ref C) "__getattribute__"=some (some (.builtin "BaseException.__getattribute__"))
 hgn:CJ K (.ref C) "__getattr__"=some none
 hc:(PySem.W.clsIn K C).isSome=true
 ha:CJ K (.ref C) "__class__"=some (some (.builtin "object.__class__"))
 hn:PySem.W.specialIn K (.builtin "object.__class__") "__get__"=some (some (.builtin "getset_descriptor.__get__"))
 ht:PySem.W.takesIn K (.builtin "object.__class__")=some true
section
variable {X:Cx}
end
theorem Same.new {H:Hp}{p:Addr}(h:H p=none) (o:HO):Same H (upd H p o):=fun b u q=>by rw [ah (ak q h)]; exact q
theorem Same.seqT {K:Ba}{H H':Hp}{a:Addr}{xs:List V}(e:Same H H') (h:SqT K H a xs):SqT K H' a xs:=by
 rcases h with (h | ⟨o,h⟩) | h
 ·exact .inl (.inl (e _ _ h))
 ·exact .inl (.inr ⟨o,e _ _ h⟩)
 ·exact .inr h
def Def (P:Program) (w:BG) (K:Ba) (mg:Str->Option Value) (base:Heap) (CX:CXT) (x:Str) (k:Nat) (ps:List Str) (sp:Sp):Prop :=
 ∃f fd,aS P w K mg base CX k f fd ps sp/\Binds K fd ps []/\DX K (.ref f)=true/\mg x=some (.ref f)
section
variable {X:Cx}{CX:CXT}{j k:Nat}{ps:List Str}{sp:Sp}{E:XK}{x:Str}{p pos:Pos}{e:Expr}{es:List Expr}{t:TA}
theorem tw (D:Def X.prog X.w X.K X.mg X.base CX x j ps sp) (hr:Room k X.A) (hx:fj CX X E) (ha:PA X (e :: es) t) (hj:j<=k:=by decide) (hg:Gl X x:=by rfl)
  (hdb:'r'=false:=by decide) (he:B2 (e :: es) X.env=(false,eval e X.env) :: B2 es X.env:=by rfl) (hpl:(DM pos (B2 es X.env)).any (·.1)=false:=by rfl) :
  PE X (.Call (.Name x p) (e :: es) [] pos) (nz sp [] E t):=by
 obtain ⟨f,fd,F,b,kk,m⟩:=D
 exact vJ F (hr.mono hj) hg m kk b .nil hx ha hdb he hpl
theorem qf (D:Def X.prog X.w X.K X.mg X.base (CX1 X.prog X.w) x j ps sp) (hr:Room k X.A) (ha:PA X.nox (e :: es) t) (hj:j<=k:=by decide) (hg:Gl X x:=by rfl)
  (hdb:'r'=false:=by decide) (he:B2 (e :: es) X.env=(false,eval e X.env) :: B2 es X.env:=by rfl) (hpl:(DM pos (B2 es X.env)).any (·.1)=false:=by rfl) :
  PEX X (.Call (.Name x p) (e :: es) [] pos) (jB sp [] t):=by
 obtain ⟨f,fd,F,b,kk,m⟩:=D
 exact sQ F (hr.mono hj) hg m kk b .nil ha hdb he hpl
def zG (t:TS):TS:=fun D σ H=>∃P:St->Hp->Prop,t { D with nx:=P } σ H/\∀ σ' H',P σ' H'->D.nx σ' H'
theorem ym {st:Stmt}{t:TS}(h:PS X st t):PS X st (zG t):=by
 rintro pins s σ H D I ⟨P,hp,hq⟩
 refine thn (h pins s σ H _ I hp) fun f s' q=>?_
 cases f with
 | next =>
  obtain ⟨σ',H',I',q⟩:=q
  exact ⟨σ',H',I',hq _ _ q⟩
 | brk=>exact q
 | cont=>exact q
 | ret v=>exact q
end
def aP (K:Ba) (x:Str) (st:Stmt):Prop:=∃f fd,BN K BA x=some (some (.ref f))/\Fun K x x st f fd
theorem funIn_mk {K:Ba}{x:Str}{st:Stmt}{f:Addr}{oc:Value}{od an:Option Addr}{osl:Array (Option Value)}{kV doc pm cdv ct:Value}(a:BN K BA x=some (some (.ref f)))
  (l:K.lookup f=some ⟨oc,od,.func (DG x x (bY st) (bF st) (aj st) .none kV doc pm an cdv ct),osl⟩) (c:E6 K cdv x=true) (k:DX K (.ref f)=true):aP K x st :=
 ⟨f,_,a,mQ l c k⟩
theorem Def.of {P:Program}{w:BG}{K:Ba}{mg:Str->Option Value}{base h:Heap}{CX:CXT}{x:Str}{k:Nat}{ps:List Str}{sp:Sp}{st:Stmt}(X:K.In h) (G:h.Ns BA mg) (FI:aP K x st)
  (ok:∀f fd,Fun K x x st f fd->aS P w K mg base CX k f fd ps sp)
  (hb:∀(kV doc pm:Value) (an:Option Addr) (cdv ct:Value) (us:List Value),us.length=ps.length->GH (DG x x (bY st) (bF st) (aj st) .none kV doc pm an cdv ct) ⟨us,[]⟩=pure (ps.zip us)) :
  Def P w K mg base CX x k ps sp:=by
 obtain ⟨f,fd,a,F⟩:=FI
 exact ⟨f,fd,ok f fd F,F.binds hb,F.kp,PySem.W.mg_of X G a⟩
end L2
namespace L2
open PySem PySem.W Builtin Builtin.ObjectAttr
def cp:List Value->Bool
 | .ref _ :: r=>cp r
 | l=>l == [.type "ValueError",.type "Exception",.type "BaseException",.type "object"]
theorem e_:cp []=false:=by decide
theorem fD {v:Value}{r:List Value}(h:∀c,v≠.ref c) (e:cp (v :: r)=true):v :: r=[.type "ValueError",.type "Exception",.type "BaseException",.type "object"]:=by
 have z:cp (v :: r)=(v :: r == [.type "ValueError",.type "Exception",.type "BaseException",.type "object"]):=by
  cases v <;> first | rfl | exact absurd rfl (h _)
 rw [z] at e
 exact beq_iff_eq.mp e
theorem i3 (self:Value):∀{l:List Value},cp l=true->refuseLoop self "__setattr__" l=pure ()
 | [],e=>by rw [e_] at e; cases e
 | v :: r,e=>by
  by_cases h:∃c,v=.ref c
  ·obtain ⟨c,rfl⟩:=h
   rw [refuseLoop_ref]
   exact i3 self (l:=r) e
  ·rw [fD (fun c z=>h ⟨c,z⟩) e]
   exact PySem.F.store_ValueError.passes self
theorem uw:∀{l:List Value},cp l=true->l.contains (.type "object")=true
 | [],e=>by rw [e_] at e; cases e
 | v :: r,e=>by
  by_cases h:∃c,v=.ref c
  ·obtain ⟨c,rfl⟩:=h
   rw [List.contains_cons,uw (l:=r) e,Bool.or_true]
  ·rw [fD (fun c z=>h ⟨c,z⟩) e]
   decide
section
variable {prog:Program}{w:BG}{A:BC}{E:Value->A9->Prop}{K:Frag}{x C:Addr}{ox:Obj}{od:Option Obj}{name:Str}{s:A9}{cd:ClassData}{v:Value}{R:GI->A9->Prop}
theorem oo {tk:Tok}(X:K.In s.heap) (I:InstAt s.heap x ox C od) (hc:clsIn K C=some cd) (ho:cp cd.mro=true) (ht:takerIn K C name=some none)
  (h:∀b,Bl (Bv prog w) A.in1 (storeInOwnDict (.ref x) (.ref C) (.str name tk) name v b)
   (fun fin s'=>match fin with | .done f=>R (.ok f) s' | .again c'=>c'.quiet=true/\Ev (Bv prog w) A c' R s') (fun e s'=>R (.error e) s') s) :
  Ev (Bv prog w) A (.call (.builtin "object.__setattr__") ⟨[.ref x,.str name tk,v],[]⟩) R s:=by
 have SF:=PySem.F.store_object
 have ne:cd.mro.isEmpty=false:=by cases q:cd.mro with | nil=>rw [q,e_] at ho; cases ho | cons _ _=>rfl
 have sub:Looks (Bv prog w) s.heap (isInstance (.ref x) (.type "object")) true:=I.type.andThen (looks_mroIn X (by unfold mroIn; rw [hc,EA,if_neg (by rw [ne]; decide),uw ho]))
 refine Gg SF.slot.plain SF.entry (@check_slot (Bv prog w) _ _ s "object.__setattr__" "object" "__setattr__" (.ref x) [.str name tk,v] [] _ SF.kind SF.split sub (SF.args (.ref x) (.str name tk) v) ?_)
 obtain ⟨attr,ha,hr⟩:=Option.bind_eq_some_iff.mp ht
 have hm:Looks (Bv prog w) s.heap (mroOf (.ref C)) cd.mro:=(looks_clsIn X hc).andThen .now
 have L3:Looks (Bv prog w) s.heap (storeTaker? attr) none:=by
  cases attr with
  | none=>exact .now
  | some a =>
   obtain ⟨b,hb,e⟩:=DP.mp hr
   refine (looks_takesIn X hb).andThen ?_
   cases b with
   | true=>cases e
   | false=>exact .now
 rw [osa_eq,refuse_eq]
 refine A3 (A3 (I.type.here (A3 (hm.here ?_))))
 rw [i3 _ ho]
 refine Bc (A3 (I.type.here (A3 ((looks_findIn X ha).here (A3 (L3.here ?_))))))
 exact h _
theorem li {ws:Array Value}{Q:Unit->A9->Prop}(X:K.In s.heap) (I:InstAt s.heap x ox C od) (hc:clsIn K C=some cd) (ho:cp cd.mro=true) (ht:takerIn K C name=some none)
  (hs:findIn K (.ref C) "__setattr__"=some (some (.builtin "object.__setattr__"))) (hdd:cd.hasDict=true) (hn:ox.dict=none) (hf:ox.data=.fields ws)
  (h:∀h',h'.get? x=some { ox with dict:=some 'n' }->h'.Ns1 'n' (fun y=>if y=name then some v else none) ->
   (∀b o,b≠x->s.heap.get? b=some o->h'.get? b=some o)->Q () { s with heap:=h',toks:=s.toks+2 }) :
  Bl (Bv prog w) A (setAttr (.ref x) name v) Q E s:=by
 refine PySem.W.set_plain X I hs (oo (s:={ s with toks:=s.toks+1 }) X I hc ho ht fun b=>?_)
 obtain ⟨hx,hcl,_,_⟩:=I
 have hxs:x≠'n':=Bw (Bi hx)
 unfold storeInOwnDict ownStreamTells
 refine A3 (Bc ?_)
 rw [if_neg (by intro z; cases (beq_iff_eq.mp z))]
 refine A3 ?_
 unfold ownDictForStores instanceDict
 refine A3 (wpAny_loadPart hx ?_)
 rw [hcl]
 dsimp only
 refine A3 (Looks.here (s:={ s with toks:=s.toks+1 }) (looks_clsIn X hc) ?_)
 rw [hdd,hn,hf]
 dsimp only
 rw [if_neg 'f',if_neg (show ¬ ((!true||!typeHasDict (Bs C))=true) by simp [typeHasDict])]
 have hx1:(s.heap.push { cls:=.type "dict",data:=.dict #[] }).get? x=some ox:=A6 _ hx
 refine A3 (wpAny_alloc' ?_)
 refine A3 (wpAny_update' hx1 ?_)
 refine Bc ?_
 have hgd:((s.heap.push { cls:=.type "dict",data:=.dict #[] }).update x fun o=>{ cls:=o.cls,dict:=some 'n',data:=o.data,slots:=o.slots }).get? 'n'=some { cls:=.type "dict",data:=.dict #[] } :=
  (Ew _ _ _ _ hxs.symm).trans (Heap.get?_push_at rfl rfl)
 have hnd:((s.heap.push { cls:=.type "dict",data:=.dict #[] }).update x fun o=>{ cls:=o.cls,dict:=some 'n',data:=o.data,slots:=o.slots }).Ns 'n' (fun _=>none) :=
  ⟨_,#[],_,hgd,rfl,fun e he=>absurd he 'e',fun _=>rfl⟩
 show Bl _ _ (storeInDict 'n' (.str name _) name v) _ _ _
 unfold storeInDict newKeyGuard
 refine A3 (Bc (A3 (wpAny_nsSet1 (Heap.Ns1.of_empty hnd) fun h' hn' hs'=>?_)))
 obtain ⟨oD,esD,epD,hoD,hdD,hcD⟩:=hn'.count (Within.cons name v Within.nil)
 refine A3 (wpAny_lookBehind hoD (by rw [hdD]; exact pastItsLine_dict (BR hcD (by rw [BK,CI,Bo]; omega))) ?_)
 refine Bc (h h' ?_ hn' fun b ob hbx hb=>?_)
 ·refine (hs'.2 x hxs).trans (Cl _ hx1 ?_)
  exact FW (o:={ ox with dict:=some 'n' }) (by exact hf)
 ·exact (hs'.2 b (Bw (Bi hb))).trans ((Ew _ _ _ _ hbx).trans (A6 _ hb))
theorem lh {dx:Addr}{mA:Str->Option Value}{ns:List Str}{Q:Unit->A9->Prop}(X:K.In s.heap) (I:InstAt s.heap x ox C od) (hc:clsIn K C=some cd) (ho:cp cd.mro=true) (ht:takerIn K C name=some none)
  (hs:findIn K (.ref C) "__setattr__"=some (some (.builtin "object.__setattr__"))) (hdd:cd.hasDict=true) (hn:ox.dict=some dx) (hm:s.heap.Ns1 dx mA) (hw:PySem.Within mA ns) (hsz:ns.length<=1000)
  (h:∀h',h'.Ns1 dx (fun y=>if y=name then some v else mA y)->Ca dx s.heap h'->Q () { s with heap:=h',toks:=s.toks+2 }) :
  Bl (Bv prog w) A (setAttr (.ref x) name v) Q E s:=by
 refine PySem.W.set_plain X I hs (oo (s:={ s with toks:=s.toks+1 }) X I hc ho ht fun b=>?_)
 obtain ⟨hx,hcl,_,_⟩:=I
 unfold storeInOwnDict ownStreamTells
 refine A3 (Bc ?_)
 rw [if_neg (by intro z; cases (beq_iff_eq.mp z))]
 refine A3 ?_
 unfold ownDictForStores instanceDict
 refine A3 (wpAny_loadPart hx ?_)
 rw [hcl]
 dsimp only
 refine A3 (Looks.here (s:={ s with toks:=s.toks+1 }) (looks_clsIn X hc) ?_)
 rw [hdd,hn]
 dsimp only
 rw [if_neg 'f']
 refine Bc ?_
 show Bl _ _ (storeInDict dx (.str name _) name v) _ _ _
 unfold storeInDict newKeyGuard
 refine A3 (Bc (A3 (wpAny_nsSet1 hm fun h' hn' hs'=>?_)))
 obtain ⟨oD,esD,epD,hoD,hdD,hcD⟩:=hn'.count (Within.cons name v hw)
 refine A3 (wpAny_lookBehind hoD (by rw [hdD]; exact pastItsLine_dict (BR hcD (by rw [BK,Bo]; omega))) ?_)
 exact Bc (h h' hn' hs')
end
end L2
namespace L2
open PySem PySem.W
section
variable {prog:Program}{w:BG}{A:BC}{E:Value->A9->Prop}{h:Heap}{g:Array FM}{d:Drawn}{t:Nat}{os:OsState}
variable {nm q:Str}{C N fI:Addr}{bs bm bmB:List Value}{hdct:Bool}{sn:List Str}{sub:List Value}{ab:Bool}{col:Option Bool}{dd:Option Addr}{k0 k1 k2 k3 k5:Option Value}{B Bn newId nid initId inN:String}{bmN:List Value}{K:Frag}
abbrev ze (C t:Addr):Obj:={ cls:=.ref C,data:=.fields #[.ref t,.none,.none,.none,.bool false,.none] }
abbrev dr (C t:Addr) (dO:Option Addr):Obj:={ cls:=.ref C,dict:=dO,data:=.fields #[.ref t,.none,.none,.none,.bool false,.none] }
abbrev dt (h:Heap) (C:Addr) (rest:List Value):Heap:=(h.push { cls:=.type "tuple",data:=.seq rest.toArray }).push (ze C h.objs.size)
theorem gK (Fn:FR Bn newId inN bmN) (hBn:bmB.contains (.type Bn)=true) (F:FR B nid initId bmB) (T:OwnTail h bmB bm) {rest:List Value}{Q:Fin->A9->Prop}(X:K.In h)
  (hC:h.get? C=some (DK nm q C N bs bm hdct sn sub ab col dd k0 k1 k2 k3 k5 newId)) (hi:findIn K (.ref C) "__init__"=some (some (.ref fI))) (hf:typeIn K (.ref fI)=some (.type "function"))
  (hq:Bl (Bv prog w) A (call (.ref fI) (.ref (h.objs.size+1) :: rest)) (fun v s'=>v=.none/\Q (.done (.ret (.ref (h.objs.size+1)))) s') E ⟨dt h C rest,g,d,t,os⟩) (hrest:rest.length<=sizeLine) :
  Bl (Bv prog w) A (Builtin.«type.__call__» ⟨.ref C :: rest,[]⟩) Q E ⟨h,g,d,t,os⟩:=by
 repeat (first | with_reducible refine DL hC ?_ | with_reducible refine wpAny_madeBy_exc hC ?_ | wp_step)
 refine codeAny_call_builtin_code (Code.quiet_builtin _ Fn.quiet) (wpAny_check_new_subU Fn hBn T hC ?_)
 refine codeAny_exc_new_subU Fn hBn F T hC ?_ hrest
 show Bl _ _ _ _ _ _
 have hC₁:=A6 { cls:=.ref C,data:=.fields #[.ref h.objs.size,.none,.none,.none,.bool false,.none] }
  (A6 { cls:=.type "tuple",data:=.seq rest.toArray } hC)
 have hget:((h.push { cls:=.type "tuple",data:=.seq rest.toArray }).push
   { cls:=.ref C,data:=.fields #[.ref h.objs.size,.none,.none,.none,.bool false,.none] }).get? (h.objs.size+1)=some
   { cls:=.ref C,data:=.fields #[.ref h.objs.size,.none,.none,.none,.bool false,.none] }:=by heap_get
 have hcC:(Bs C :: bm).contains (.ref C)=true:=by simp
 have X₁:K.In (dt h C rest):=X.keeps fun b o e=>A6 _ (A6 _ e)
 unfold isInstance
 repeat (first | with_reducible refine DL hget ?_ | (with_reducible refine Fp hC₁ ?_; rw [hcC]) | wp_step)
 show Bl _ _ (typeLookup (.ref C) _) _ _ _
 refine (looks_findIn X₁ hi).at ?_
 refine B0 (A3 ((bind_fn X₁ _ hf).at ?_))
 refine A3 (BJ hq ?_ fun _ _ z=>z)
 rintro v s' ⟨rfl,z⟩
 wp_walk
 exact z
theorem qV (Fn:FR Bn newId inN bmN) (hBn:bmB.contains (.type Bn)=true) (F:FR B nid initId bmB) (T:OwnTail h bmB bm) {rest:List Value}{Q:Value->A9->Prop}(X:K.In h)
  (hC:h.get? C=some (DK nm q C N bs bm hdct sn sub ab col dd k0 k1 k2 k3 k5 newId)) (hi:findIn K (.ref C) "__init__"=some (some (.ref fI))) (hf:typeIn K (.ref fI)=some (.type "function"))
  (hq:Bl (Bv prog w) (A.under (.builtin "type.__call__" ⟨.ref C :: rest,[]⟩)) (call (.ref fI) (.ref (h.objs.size+1) :: rest)) (fun v s'=>v=.none/\Q (.ref (h.objs.size+1)) s') E ⟨dt h C rest,g,d,t,os⟩) (hrest:rest.length<=sizeLine) :
  Bl (Bv prog w) A (call (.ref C) rest) Q E ⟨h,g,d,t,os⟩:=by
 have f1:=tc_lookup
 have f2:=tc_bind (.ref C)
 have hT:(⟨h,g,d,t,os⟩:A9).TypeIs (.ref C) "type":=⟨_,hC,rfl⟩
 refine F4 (codeAny_of_tree ?_)
 show Bl _ _ (callAny (.ref C) _) _ _ _
 repeat (any_goals (first | assumption | with_reducible refine DL hC ?_ | wp_step))
 refine ⟨rfl,?_⟩
 refine codeAny_call_builtin_at (Code.quiet_builtin _ 'd') entry_typeCall (wpAny_check_type_call_sub hC (gK Fn hBn F T X hC hi hf ?_ hrest))
 exact hq
end
section
variable {prog:Program}{w:BG}{A:BC}{E:Value->A9->Prop}{s:A9}{env:Env}
variable {nm q:Str}{C N fI:Addr}{bs bm bmB:List Value}{hdct:Bool}{sn:List Str}{sub:List Value}{ab:Bool}{col:Option Bool}{dd:Option Addr}{k0 k1 k2 k3 k5:Option Value}{B Bn newId nid initId inN:String}{bmN:List Value}{K:Frag}
theorem eO {M:Model}{x:Sem Value}{Q:Flow->A9->Prop}(hbase:bm.contains (.type "BaseException")=true) (hh:A.handled=none)
  (h:Bl M A x (fun v s₁=>∃e t dO,v=.ref e/\s₁.heap.get? C=some (DK nm q C N bs bm hdct sn sub ab col dd k0 k1 k2 k3 k5 newId)/\s₁.heap.get? e=some (dr C t dO)/\E (.ref e) s₁) E s) :
  Bl M A (raiseStmt env (some x) none) Q E s:=by
 have hcB:(Bs C :: bm).contains (.type "BaseException")=true:=by rw [List.contains_cons,hbase,Bool.or_true]
 unfold raiseStmt
 refine A3 (BJ h (fun v s₁ h₁=>?_) fun _ _ x=>x)
 obtain ⟨e,t,dO,rfl,hC,he,hE⟩:=h₁
 obtain ⟨hp,g,d,tk,os⟩:=s₁
 repeat (first | with_reducible refine DL he ?_ | with_reducible refine DL hC ?_ | (with_reducible refine Fp hC ?_; rw [hcB]) | wp_step)
 exact wpAny_raiseNew_none hh hE
theorem m6 (Fn:FR Bn newId inN bmN) (hBn:bmB.contains (.type Bn)=true) (F:FR B nid initId bmB) {x:Str}{np cpos pos:Pos}{args:List Expr}{Q:Flow->A9->Prop}
  (hbase:bm.contains (.type "BaseException")=true) (hh:A.handled=none) (hplain:(DM cpos (B2 args env)).any (·.1)=false) (hi:findIn K (.ref C) "__init__"=some (some (.ref fI))) (hf:typeIn K (.ref fI)=some (.type "function"))
  (h:Bl (Bv prog w) A (eval (.Name x np) env) (fun f s₁=>f=.ref C/\Bl (Bv prog w) A (evalArgs (.ref C) true (DM cpos (B2 args env)) [])
   (fun a s₂=>a.kw=[]/\a.pos.length<=sizeLine/\s₂.heap.get? C=some (DK nm q C N bs bm hdct sn sub ab col dd k0 k1 k2 k3 k5 newId)/\K.In s₂.heap/\OwnTail s₂.heap bmB bm /\
    Bl (Bv prog w) (A.under (.builtin "type.__call__" ⟨.ref C :: a.pos,[]⟩)) (call (.ref fI) (.ref (s₂.heap.objs.size+1) :: a.pos)) (fun v s'=>v=.none/\s'.heap.get? C=some (DK nm q C N bs bm hdct sn sub ab col dd k0 k1 k2 k3 k5 newId) /\
     (∃t dO,s'.heap.get? (s₂.heap.objs.size+1)=some (dr C t dO))/\E (.ref (s₂.heap.objs.size+1)) s') E { s₂ with heap:=dt s₂.heap C a.pos }) E s₁) E s) :
  Bl (Bv prog w) A (exec (.Raise (some (.Call (.Name x np) args [] cpos)) none pos) env) Q E s:=by
 rw [arm_exec_Raise]
 first
  | refine A3 (Dk (eO (C:=C) (nm:=nm) (q:=q) (N:=N) (bs:=bs) (bm:=bm) (hdct:=hdct) (sn:=sn) (sub:=sub) (ab:=ab) (col:=col) (dd:=dd) (k0:=k0) (k1:=k1) (k2:=k2) (k3:=k3) (k5:=k5) (newId:=newId) hbase hh (A3 (BJ (wpAny_Call_ofName (BJ h (fun f s₁ h₁=>?_) fun _ _ x=>x)) (fun v s₃ h₃=>A3 (Dk (Bc h₃))) fun _ _ x=>x))))
  | (simp only [evalOpt,Option.map]; refine A3 (Dk (eO (C:=C) (nm:=nm) (q:=q) (N:=N) (bs:=bs) (bm:=bm) (hdct:=hdct) (sn:=sn) (sub:=sub) (ab:=ab) (col:=col) (dd:=dd) (k0:=k0) (k1:=k1) (k2:=k2) (k3:=k3) (k5:=k5) (newId:=newId) hbase hh (A3 (BJ (wpAny_Call_ofName (BJ h (fun f s₁ h₁=>?_) fun _ _ x=>x)) (fun v s₃ h₃=>A3 (Dk (Bc h₃))) fun _ _ x=>x)))))
 obtain ⟨rfl,h₁⟩:=h₁
 unfold callWith
 refine A3 (B0 (BJ h₁ (fun a s₂ h₂=>A3 (Dk ?_)) fun _ _ x=>x))
 obtain ⟨apos,akw⟩:=a
 obtain ⟨hkw,hlen,hC,X,T,h₂⟩:=h₂
 obtain rfl:akw=[]:=hkw
 obtain ⟨hp,g,d,tk,os⟩:=s₂
 simp only [hplain]
 refine A3 (wpAny_keeperOf_exc hC ?_)
 refine A3 (qV Fn hBn F T X hC hi hf (BJ h₂ ?_ fun _ _ z=>z) hlen)
 rintro v s' ⟨rfl,hC',⟨t,dO,he⟩,hE⟩
 exact ⟨rfl,A3 (B0 (wpAny_point (Bc ⟨_,t,dO,rfl,hC',he,hE⟩)))⟩
end
end L2
namespace L2
open PySem PySem.Spec PyProof.Rows
def gc (a C:Addr) (d:Option Addr):HO:=.ext fun h=>∃t,h.get? a=some (dr C t d)
def xdO (a:Addr) (fs:List (Str×V)):HO:=.ext fun h=>∃mA,h.Ns1 a mA/\∀f,RelO (fs.lookup f) (mA f)
section
variable {P:Program}{w:BG}{H:Hp}{h:Heap}{a C:Addr}{d:Option Addr}{fs:List (Str×V)}
theorem ou (x:∃t,h.get? a=some (dr C t d)):ObjOk P w H h a (gc a C d):=by
 obtain ⟨t,e⟩:=x
 refine ⟨⟨t,e⟩,⟨_,e⟩,?_⟩
 rintro h1 h2 ⟨t,f⟩ k
 exact ⟨t,k _ f⟩
theorem fF (x:ObjOk P w H h a (gc a C d)):∃t,h.get? a=some (dr C t d):=x.1
theorem q9 (x:∃mA,h.Ns1 a mA/\∀f,RelO (fs.lookup f) (mA f)):ObjOk P w H h a (xdO a fs):=by
 obtain ⟨mA,n,r⟩:=x
 refine ⟨⟨mA,n,r⟩,?_,?_⟩
 ·obtain ⟨o,_,_,e,_⟩:=n
  exact ⟨o,e⟩
 ·rintro h1 h2 ⟨mA,n,r⟩ k
  obtain ⟨o,es,ep,e,q⟩:=n
  exact ⟨mA,⟨o,es,ep,k _ e,q⟩,r⟩
theorem nb (x:ObjOk P w H h a (xdO a fs)):∃mA,h.Ns1 a mA/\∀f,RelO (fs.lookup f) (mA f):=x.1
theorem pH {mA:Str->Option Value}(r:∀f,RelO (fs.lookup f) (mA f)):PySem.Within mA (fs.map (·.1)):=by
 intro g hg
 cases q:fs.lookup g with
 | none =>
  have z:=r g
  rw [q] at z
  exact absurd z.none_of hg
 | some v =>
  exact Bz.mpr ⟨(g,v),Cn q,rfl⟩
end
structure u4 (K:Ba) (C:Addr):Prop where
 cd:∃cd,PySem.W.clsIn K C=some cd/\cp cd.mro=true/\cd.hasDict=true
 sa:CJ K (.ref C) "__setattr__"=some (some (.builtin "object.__setattr__"))
def XNo (K:Ba) (C:Addr) (f:Str):Prop:=CJ K (.ref C) f=some none
theorem XNo.taker {K:Ba}{C:Addr}{f:Str}(n:XNo K C f):PySem.W.takerIn K C f=some none:=by
 unfold PySem.W.takerIn
 rw [n]
 rfl
theorem dX {h:Heap}{o v:Obj}{b:Addr}(z:(h.push o).get? b=some v) (hb:b≠h.objs.size):h.get? b=some v:=by
 rw [<- z]
 exact (E1 h b o hb).symm
def sX (K:Ba) (ta tv:TE) (f:Str):TS:=fun D σ H=>tv σ H fun y H1=>ta σ H1 fun x H2=>∃a C,x=.ref a/\u4 K C/\XNo K C f /\
 ((H2 a=some (gc a C none)/\∀dx,H2 dx=none->dx≠a->D.nx σ (upd (upd H2 dx (xdO dx [(f,y)])) a (gc a C (some dx)))) \/
  (∃dx fs,H2 a=some (gc a C (some dx))/\H2 dx=some (xdO dx fs)/\fs.length<1000/\D.nx σ (upd H2 dx (xdO dx (putF f y fs)))))
section
variable {X:Cx}{o value:Expr}{f:Str}{pos pos':Pos}{ta tv:TE}
theorem vt (ha:PE X o ta) (hv:PE X value tv) (hs:Dt value (some (.Attribute o f pos')) pos.line X.env=pure false:=by rfl):PS X (.Assign [.Attribute o f pos'] value pos) (sX X.K ta tv f):=by
 intro pins s σ H D I h
 refine plainObj_wpAny_Assign_Attribute (thn (hv pins s σ H _ I h) fun u s1 ⟨y,H1,I1,ry,q⟩=>thn (ha pins s1 σ H1 _ I1 q) fun ov s2 ⟨x,H2,I2,rx,a,C,ex,c,n,q2⟩=>?_) hs
 subst ex
 obtain rfl:ov=Bs a:=rx
 obtain ⟨cd,c1,c2,c3⟩:=c.cd
 rcases q2 with ⟨ea,q2⟩ | ⟨dx,fs,ea,ed,hl,q2⟩
 ·obtain ⟨t,et⟩:=fF (I2.hok a _ ea)
  have hI:Gy s2.heap a (dr C t none) C none:=⟨et,rfl,rfl,trivial⟩
  refine li I2.kIn hI c1 c2 n.taker c.sa c3 rfl rfl fun h' g1 g2 g3=>?_
  have nd:H2 'o'=none:=I2.hok.fresh (Bb _)
  have na:'o'≠a:=Co (Bw (Bi et))
  obtain ⟨od,es,ep,e1,e2⟩:=id g2
  have hfr:od.isFreed=false:=(Heap.get?_some_iff.mp e1).2
  have p1:(s2.heap.push od).get? 'o'=some od:=Bj _ hfr
  have J1:=I2.laid (a:='o') (o:=xdO 'o' [(f,y)]) (h':=s2.heap.push od) (t':=s2.toks) (fun b v z=>A6 _ z) (Bb _) (q9 ⟨_,⟨od,es,ep,p1,e2⟩,fun g=>by
   by_cases z:g=f
   ·subst z
    simp only [EJ,beq_self_eq_true,if_pos]
    exact ry
   ·have z':(g == f)=false:=beq_eq_false_iff_ne.mpr z
    simp only [EJ,z',if_neg z]
    trivial⟩)
  refine ⟨σ,_,J1.write (x:=a) (e:=a) (o:=gc a C (some 'o')) (h':=h') (t':=s2.toks+2) ?_ (.inl rfl) ?_ ⟨_,g1⟩ (ou ⟨t,g1⟩),q2 _ nd na⟩
  ·rw [ah (Co na),ea]
   exact DW
  ·intro b v hb z
   by_cases hd:b='o'
   ·subst hd
    rw [p1] at z
    cases z
    exact e1
   ·refine g3 b v hb ?_
    exact dX z hd
 ·obtain ⟨t,et⟩:=fF (I2.hok a _ ea)
  obtain ⟨mA,hm,r⟩:=nb (I2.hok dx _ ed)
  obtain ⟨od,es,ep,e1,e2⟩:=id hm
  have hI:Gy s2.heap a (dr C t (some dx)) C (some od):=⟨et,rfl,rfl,e1⟩
  refine lh I2.kIn hI c1 c2 n.taker c.sa c3 rfl hm (pH r) (by rw [A2]; omega) fun h' g1 g2=>?_
  refine ⟨σ,_,I2.write (x:=dx) (e:=dx) (o:=xdO dx (putF f y fs)) (h':=h') (t':=s2.toks+2) (by rw [ed]; exact DW) (.inl rfl) (fun b v hb z=>(g2.2 b hb).trans z) (let ⟨o,_,_,e',_⟩:=g1; ⟨o,e'⟩) (q9 ⟨_,g1,fun g=>?_⟩),q2⟩
  rw [gA]
  by_cases z:g=f
  ·rw [if_pos z,if_pos z]; exact ry
  ·rw [if_neg z,if_neg z]; exact r g
end
def del (H:Hp) (a:Addr):Hp:=fun b=>if b=a then none else H b
theorem iw {H:Hp}{a:Addr}:del H a a=none:=if_pos rfl
theorem dw {H:Hp}{a b:Addr}(h:b≠a):del H a b=H b:=if_neg h
theorem lE {H:Hp}{a b:Addr}{u:HO}(h:del H a b=some u):b≠a/\H b=some u:=by
 by_cases e:b=a
 ·subst e; rw [iw] at h; cases h
 ·rw [dw e] at h; exact ⟨e,h⟩
theorem uN {H:Hp}{a b:Addr}(h:H b=none):del H a b=none:=by
 by_cases e:b=a
 ·subst e; exact iw
 ·rw [dw e]; exact h
theorem Same.del {H H':Hp}{a:Addr}(e:Same H H') (n:H a=none):Same H (del H' a):=fun b o q=>by
 rw [dw (ak q n)]
 exact e b o q
section
variable {X:Cx}{pins:'m'}{σ:St}{H H':Hp}{s s1:A9}{B h':Heap}{a C:Addr}{d:Option Addr}
theorem xO {fs:List Addr}{φ:Heap->Prop}(e:H a=some (.ext φ)):Un fs [] H (del H a) s.heap s.heap where
 keep:=fun b o q _ _ _=>q
 slot:=fun b o q _ _ _=>⟨o.slots,q⟩
 free:=fun b o q n _=>uN n
 there:=fun b o q _=>⟨o,q⟩
 tups:=fun b xs q=>by rw [dw (by intro z; subst z; rw [e] at q; cases q)]; exact q
 frzs:=fun b o u q=>by rw [dw (by intro z; subst z; rw [e] at q; cases q)]; exact q
 tbls:=fun b ps q=>⟨#[],by rw [dw (by intro z; subst z; rw [e] at q; cases q)]; simpa using q⟩
theorem wu {φ:Heap->Prop}{P:Program}{w:BG}{h:Heap}(ok:HOk P w H h) (e:H a=some (.ext φ)):HOk P w (del H a) h:=fun b u q=>by
 obtain ⟨hb,q⟩:=lE q
 refine (ok b u q).stay (fun _ _ _ z=>z) (fun c z=>?_) fun c xs z=>?_
 ·rw [dw (by intro y; subst y; rw [e] at z; cases z)]; exact z
 ·rw [dw (by intro y; subst y; rw [e] at z; cases z)]; exact z
theorem Inv.flown2 (I:Inv X pins σ H s) (os:s1.os=s.os) (bare:Fv s1.gens) (un:Un (frs X.stack) [] H H' s.heap s1.heap) (hok:HOk X.prog X.w H' s1.heap) (bs:B.StaysIn s1.heap)
  (b1:∀b o,s.heap.get? b=some o->b ∉ frs X.stack->H b=none->B.get? b=some o) (b2:∀b u,H' b=some u->∃o,B.get? b=some o)
  (b3:∀b o,s.heap.get? b=some o->b∈frs X.stack\/(∃o',B.get? b=some o')\/∃o',h'.get? b=some o') (st:B.StaysIn h') (up:s1.heap.UpToSlots h'):Inv X pins σ H' { s1 with heap:=h' }:=by
 have nf:∀b∈frs X.stack,∀o,s.heap.get? b=some o->∀vs,o.data≠.fields vs:=fun b hb o e=>by
  obtain ⟨_,o',e',r⟩:=I.stack.mem hb
  rw [e] at e'
  cases e'
  exact r
 have sl:∀b o,s.heap.get? b=some o->b∈frs X.stack->∃sl,h'.get? b=some { o with slots:=sl }:=fun b o e hb=>by
  obtain ⟨s2,e2⟩:=un.slot b o e (I.stkFree b hb) hb 'e'
  obtain ⟨s3,e3⟩:=up b _ e2 (nf b hb o e)
  exact ⟨s3,e3⟩
 refine I.call' (s':={ s1 with heap:=h' }) os ⟨fun b o e n hb _=>st b o (b1 b o e hb n),fun b o e n hb _=>sl b o e hb,un.free,fun b o e hx=>?_,un.tups,un.frzs,un.tbls⟩ (fun b u e=>?_) bare fun b z=>nomatch z
 ·rcases b3 b o e with z | ⟨o',z⟩ | z
  ·obtain ⟨_,q⟩:=sl b o e z
   exact ⟨_,q⟩
  ·exact ⟨o',st b o' z⟩
  ·exact z
 ·refine (hok b u e).stay (fun c v hc q=>?_) (fun _ q=>q) fun _ _ q=>q
  have ht:∃u',H' c=some u':=by
   rcases hc with rfl | hc
   ·exact ⟨u,e⟩
   ·exact ⟨_,hc⟩
  obtain ⟨u',hu⟩:=ht
  obtain ⟨o,ho⟩:=b2 c u' hu
  have q':=bs c o ho
  rw [q] at q'
  cases q'
  exact st c v ho
end
section
variable {P:Program}{w:BG}{K:Ba}{mg:Str->Option Value}{base:Heap}{N:List Str}{qual:Str}{scope:Scope}{f:Addr}{cd:Value}{A:BC}{outer:List Env}{s₀:A9}{H₀:Hp}{E:XK}
theorem mI {pins:'m'}{σ:St}{H:Hp}{s:A9}{a C:Addr}{d:Option Addr}(I:Inv (bT (CX1 P w) P w K mg base N qual scope f cd A outer s₀ H₀ E) pins σ H s)
  (hd:H a=some (gc a C d)) (n0:s₀.heap.get? a=none) (q:E (.ref C) d (del H a)):(bT (CX1 P w) P w K mg base N qual scope f cd A outer s₀ H₀ E).xe (.ref a) s:=by
 have hfr:(Ea qual scope s₀.heap.objs.size f cd).frame=some s₀.heap.objs.size:=rfl
 have hstk:s.heap.FunFrames base (Ea qual scope s₀.heap.objs.size f cd :: outer):=I.stack
 obtain ⟨t,et⟩:=fF (I.hok a _ hd)
 have nfr:a ∉ frs (Ea qual scope s₀.heap.objs.size f cd :: outer):=fun z=>by
  have:=I.stkFree a z
  rw [hd] at this
  cases this
 have hin:∀env∈(Ea qual scope s₀.heap.objs.size f cd :: outer),∀b,env.frame=some b->b∈a :: frs (Ea qual scope s₀.heap.objs.size f cd :: outer):=fun env he b hb=>.tail _ (EN.mpr ⟨env,he,hb⟩)
 have hB:=PySem.W.funFrames_hide hstk hin
 have hBa:(PySem.W.hideAll s.heap (a :: frs (Ea qual scope s₀.heap.objs.size f cd :: outer))).get? a=none:=PySem.W.hideAll_none _ (.head _)
 generalize hBB:PySem.W.hideAll s.heap (a :: frs (Ea qual scope s₀.heap.objs.size f cd :: outer))=B at hB hBa
 have inB:∀b o,s.heap.get? b=some o->b≠a->b ∉ frs (Ea qual scope s₀.heap.objs.size f cd :: outer)->B.get? b=some o:=fun b o e n1 n=>by
  rw [<- hBB]
  refine PySem.W.hideAll_get _ e fun z=>?_
  rcases Bp.mp z with z | z
  ·exact n1 z
  ·exact n z
 have ofB:∀b o,B.get? b=some o->s.heap.get? b=some o:=fun b o e=>by rw [<- hBB] at e; exact PySem.W.of_hideAll _ e
 show Bl _ _ (leaving _ (.ref a)) _ _ _
 refine kX (B:=B) (outer:=outer) (s:=s) I.ok.frames hB hfr et (fun b o e=>ofB b o e) hBa rfl rfl fun h' x y=>?_
 have b2:∀b u,del H a b=some u->∃o,B.get? b=some o:=fun b u e=>by
  obtain ⟨hb,e⟩:=lE e
  obtain ⟨o,eo⟩:=(I.hok b u e).ex
  refine ⟨o,inB b o eo hb fun z=>?_⟩
  have:=I.stkFree b z
  rw [this] at e
  cases e
 have J:=I.flown2 (s1:=s) (H':=del H a) rfl I.bare (xO hd) (wu I.hok hd) (fun b o e=>ofB b o e) (fun b o e hb n=>inB b o e (by intro z; subst z; rw [hd] at n; cases n) hb) b2 (fun b o e=>by
  by_cases hb:b∈frs (Ea qual scope s₀.heap.objs.size f cd :: outer)
  ·exact .inl hb
  ·by_cases hba:b=a
   ·subst hba
    obtain ⟨ox,ws,e1,_⟩:=x.obj
    exact .inr (.inr ⟨ox,e1⟩)
   ·exact .inr (.inl ⟨o,inB b o e hba hb⟩)) x.stays y
 have nL:∀b o,s₀.heap.get? b=some o->b ∉ frs outer->b ∉ frs (Ea qual scope s₀.heap.objs.size f cd :: outer):=fun b o e hb z=>by
  rw [lc hfr] at z
  rcases Bp.mp z with z | z
  ·exact absurd (Bi e) (by rw [z]; exact CB _)
  ·exact hb z
 have nA:∀b o,s₀.heap.get? b=some o->b≠a:=fun b o e z=>by rw [z,n0] at e; cases e
 refine ⟨a,.ref C,d,B,del H a,rfl,J.os,J.bare,J.base,J.hok,x,iw,fun b o e hb n=>?_,b2,fun b o e=>?_,q⟩
 ·exact inB b o (I.base.keep b o e n hb 'c') (nA b o e) (nL b o e hb)
 ·obtain ⟨o',e'⟩:=I.base.there b o e 'c'
  by_cases hb:b∈frs outer
  ·exact .inl hb
  ·exact .inr ⟨o',inB b o' e' (nA b o e) (nL b o e hb)⟩
structure ki (K:Ba) (C fI:Addr):Prop where
 obj:∃nm qn NN bs bm hd sn sub ab col dd k0 k1 k2 k3 k5,K.lookup C=some (DK nm qn C NN bs bm hd sn sub ab col dd k0 k1 k2 k3 k5 "ValueError.__new__")/\PySem.W.tailIn K bmVE bm=true
 init:CJ K (.ref C) "__init__"=some (some (.ref fI))
 fn:PySem.W.typeIn K (.ref fI)=some (.type "function")
def nr (C:Addr) (sp:Sp) (E:XK) (t:TA):TS:=fun _ σ H=>t σ H fun vs H1=>vs.length<=sizeLine/\∀a,H1 a=none ->
 sp (.ref a :: vs) (upd H1 a (gc a C none)) (fun v H2=>v=.non/\∃d,H2 a=some (gc a C d)/\E (.ref C) d (del H2 a)) E0
theorem p_ {x:Str}{C fI:Addr}{fd:BX}{ps:List Str}{sp:Sp}{k:Nat}{e:Expr}{es:List Expr}{t:TA}{np cpos pos:Pos}(hg:Gl (bT (CX1 P w) P w K mg base N qual scope f cd A outer s₀ H₀ E) x) (hm:mg x=some (.ref C)) (R:ki K C fI)
  (G:aS P w K mg base CX0 k fI fd ps sp) (hr:Room (k+1) (bT (CX1 P w) P w K mg base N qual scope f cd A outer s₀ H₀ E).A) (hb:Binds K fd ps [])
  (ha:PA (bT (CX1 P w) P w K mg base N qual scope f cd A outer s₀ H₀ E) (e :: es) t) (hdb:'r'=false:=by decide)
  (he:B2 (e :: es) (bT (CX1 P w) P w K mg base N qual scope f cd A outer s₀ H₀ E).env=(false,eval e (bT (CX1 P w) P w K mg base N qual scope f cd A outer s₀ H₀ E).env) :: B2 es (bT (CX1 P w) P w K mg base N qual scope f cd A outer s₀ H₀ E).env:=by rfl)
  (hpl:(DM cpos (B2 es (bT (CX1 P w) P w K mg base N qual scope f cd A outer s₀ H₀ E).env)).any (·.1)=false:=by rfl) :
  PS (bT (CX1 P w) P w K mg base N qual scope f cd A outer s₀ H₀ E) (.Raise (some (.Call (.Name x np) (e :: es) [] cpos)) none pos) (nr C sp E t):=by
 intro pins s σ H D I h
 obtain ⟨nm,qn,NN,bs,bm,hdd,sn,sub,ab,col,dd,k0,k1,k2,k3,k5,lC,ht⟩:=R.obj
 have hbase:bm.contains (.type "BaseException")=true:=(PySem.W.tail_of_in I.kIn ht).hasType 'f'
 refine m6 (K:=K) (C:=C) (nm:=nm) (q:=qn) (N:=NN) (bs:=bs) (bm:=bm) (hdct:=hdd) (sn:=sn) (sub:=sub) (ab:=ab) (col:=col) (dd:=dd) (k0:=k0) (k1:=k1) (k2:=k2) (k3:=k3) (k5:=k5) (newId:="ValueError.__new__")
  PySem.F.excBase_ValueError (by decide:bmVE.contains (.type "ValueError")=true) PySem.F.excBase_ValueError hbase (I.ok.hd rfl) ?_ R.init R.fn (jV I hg hm ⟨rfl,?_⟩ hdb)
 ·rw [he]
  show (false||(DM cpos (B2 es _)).any (·.1))=false
  rw [hpl]
  rfl
 ·have hp:=ha cpos pins s σ H _ I h
  rw [he] at hp ⊢
  refine E7 (thn hp ?_)
  rintro us s2 ⟨vs,H1,I2,r,hz,q⟩
  refine ⟨rfl,by rw [<- r.length]; exact hz,I2.kIn _ _ lC,I2.kIn,PySem.W.tail_of_in I2.kIn ht,?_⟩
  have I3:Inv (bT (CX1 P w) P w K mg base N qual scope f cd A outer s₀ H₀ E) pins σ (upd H1 ('o'+1) (gc ('o'+1) C none)) { s2 with heap:=dt s2.heap C us }:=by
   have J:=I2.kept (h':=s2.heap.push { cls:=.type "tuple",data:=.seq us.toArray }) (t':=s2.toks) fun b o e=>A6 _ e
   refine J.laid (a:='o'+1) (h':=dt s2.heap C us) (t':=s2.toks) (fun b o e=>A6 _ e) (FQ (C3 _ _)) (ou ⟨'o',?_⟩)
   exact Heap.get?_push_at (by rw [C3]) rfl
  have nA:H1 ('o'+1)=none:=I2.hok.fresh (Dd _)
  have hq:=q _ nA
  have r2:Vals (V.ref ('o'+1) :: vs) (Bs ('o'+1) :: us):=.cons rfl r
  have hl:((Bs ('o'+1) :: us)++[]).length=ps.length:=by
   rw [BH,<- r2.length]
   exact G.len _ _ _ _ hq
  have hbd:=hb { s2 with heap:=dt s2.heap C us } (Bs ('o'+1) :: us) I3.kIn hl
  rw [BH] at hbd
  refine F4 (Fc (G.run _ (bT (CX1 P w) P w K mg base N qual scope f cd A outer s₀ H₀ E).stack _ _ ⟨Bs ('o'+1) :: us,[]⟩ (Bs ('o'+1) :: us) _ _ _ (hr.make C us []) (I3.env0.make C us []) hbd r2 hq) fun r s' hq'=>?_)
  cases r with
  | error e=>exact BM hq'
  | ok fl =>
   cases fl with
   | ret u =>
    obtain ⟨v,H4,I4,rv,ev,d,hd,q4⟩:=I3.after hq'
    subst ev
    have n0:s₀.heap.get? ('o'+1)=none:=Cp (BR I2.sz (Dd _))
    obtain ⟨t,et⟩:=fF (I4.hok _ _ hd)
    exact ⟨rv,I4.kIn _ _ lC,⟨t,d,et⟩,mI I4 hd n0 q4⟩
   | next=>exact BM hq'
   | brk=>exact BM hq'
   | cont=>exact BM hq'
end
section
variable {X:Cx}
def wW (K:Ba) (ta:TE) (f:Str):TE:=fun σ H Q=>ta σ H fun x H1=>∃a C dx fs v,x=.ref a/\H1 a=some (mT a (.ref C) (some dx))/\H1 dx=some (xdO dx fs)/\zu K C/\u4 K C/\XNo K C f/\fs.lookup f=some v/\Q v H1
theorem vG {e:Expr}{f:Str}{pos:Pos}{ta:TE}(he:PE X e ta) (hb:Dl e f X.env (eval e X.env)=eval e X.env:=by rfl):PE X (.Attribute e f pos) (wW X.K ta f):=by
 intro pins s σ H Q I h
 refine wP hb (thn (he pins s σ H _ I h) ?_)
 rintro u s1 ⟨x,H1,I1,rx,a,C,dx,fs,v,rfl,hH,hx,k,c,n,l,q⟩
 obtain rfl:u=Bs a:=rx
 obtain ⟨⟨ox,ws,e1,e2,e3,e4⟩,_,_⟩:=(show ObjOk X.prog X.w H1 s1.heap a (mT a (.ref C) (some dx)) from I1.hok a _ hH)
 obtain ⟨mA,hn,r⟩:=nb (I1.hok dx _ hx)
 obtain ⟨od,ho,hl⟩:=jb hn
 have hI:Gy s1.heap a ox C (some od):=⟨e1,e2,by unfold PySem.W.notCls; rw [e4],by rw [e3]; exact ho⟩
 obtain ⟨cd,c1,c2,c3⟩:=c.cd
 have rv:=r f
 rw [l] at rv
 obtain ⟨u,hu,ru⟩:=rv.some_of
 have hf:PySem.W.findObj X.K C (some od) f=some (.value u):=by
  unfold PySem.W.findObj
  rw [c1,EA,n,EA]
  simp only [EA,PySem.W.ownOf,c3,hl f,hu,if_true]
 exact uD I1.kIn hI k.hm hf k.hga k.hgn ⟨qC ru,⟨v,H1,I1.tok _,ru,q⟩⟩
end
section
variable {κ:Type} [DecidableEq κ]
def br (kvs:List (κ×V)) (k:κ):Option V:=(kvs.find? fun kv=>decide (kv.1=k)).map (·.2)
def cN (kvs:List (κ×V)) (k:κ) (v:V):List (κ×V) :=
 if (kvs.any fun kv=>decide (kv.1=k))=true then kvs.map (fun kv=>if kv.1=k then (kv.1,v) else kv) else kvs++[(k,v)]
theorem bw {p:κ×V}{r:List (κ×V)}{k:κ}(e:p.1=k):br (p :: r) k=some p.2:=by simp [br,Dw,e]
theorem bx {p:κ×V}{r:List (κ×V)}{k:κ}(e:¬ p.1=k):br (p :: r) k=br r k:=by simp [br,Dw,e]
theorem fu (k:κ):∀kvs:List (κ×V),(kvs.any fun kv=>decide (kv.1=k))=(br kvs k).isSome
 | []=>rfl
 | p :: r=>by
  rw [List.any_cons]
  by_cases e:p.1=k
  ·simp only [bw e,decide_eq_true e,Bool.true_or,Option.isSome_some]
  ·rw [bx e,decide_eq_false e,Bool.false_or]; exact fu k r
theorem kq (k j:κ) (y:V):∀kvs:List (κ×V),br (kvs.map fun kv=>if kv.1=k then (kv.1,y) else kv) j=(br kvs j).map fun x=>if j=k then y else x
 | []=>rfl
 | p :: r=>by
  have ih:=kq k j y r
  rw [BD]
  by_cases h:p.1=k
  ·rw [if_pos h]
   by_cases e:p.1=j
   ·rw [bw (p:=(p.1,y)) e,bw e,EU,if_pos (e.symm.trans h)]
   ·rw [bx (p:=(p.1,y)) e,bx e,ih]
  ·rw [if_neg h]
   by_cases e:p.1=j
   ·rw [bw (p:=p) e,bw e,EU,if_neg (fun z=>h (e.trans z))]
   ·rw [bx (p:=p) e,bx e,ih]
theorem iJ (k j:κ) (y:V):∀kvs:List (κ×V),br kvs k=none->br (kvs++[(k,y)]) j=if j=k then some y else br kvs j
 | [],_=>by
  by_cases e:k=j
  ·rw [if_pos e.symm]; exact bw (p:=(k,y)) e
  ·rw [if_neg (fun z=>e z.symm)]; exact bx (p:=(k,y)) e
 | p :: r,hn=>by
  rw [F5]
  have hk:¬ p.1=k:=fun z=>by rw [bw z] at hn; cases hn
  rw [bx hk] at hn
  have ih:=iJ k j y r hn
  by_cases e:p.1=j
  ·rw [bw e,bw e,if_neg (fun z=>hk (e.trans z))]
  ·rw [bx e,bx e,ih]
theorem ft (kvs:List (κ×V)) (k j:κ) (y:V):br (cN kvs k y) j=if j=k then some y else br kvs j:=by
 unfold cN
 by_cases a:(kvs.any fun kv=>decide (kv.1=k))=true
 ·rw [if_pos a,kq]
  rw [fu] at a
  by_cases e:j=k
  ·obtain ⟨x,hx⟩:=De.mp a
   rw [if_pos e,e,hx,EU,if_pos rfl]
  ·rw [if_neg e]
   cases br kvs j with
   | none=>rfl
   | some x=>rw [EU,if_neg e]
 ·rw [if_neg a]
  refine iJ k j y kvs ?_
  rw [fu] at a
  cases q:br kvs k with
  | none=>rfl
  | some x=>rw [q] at a; exact (a rfl).elim
theorem cA (kvs:List (κ×V)) (k:κ) (v:V):(cN kvs k v).length<=kvs.length+1:=by
 unfold cN
 split
 ·rw [A2]; omega
 ·rw [Bd,BK,CI]; omega
theorem RelO.isSome_eq {o:Option V}{u:Option Value}(r:RelO o u):o.isSome=u.isSome:=by
 cases o with
 | none=>cases u with
  | none=>rfl
  | some _=>exact (show False from r).elim
 | some _=>cases u with
  | none=>exact (show False from r).elim
  | some _=>rfl
theorem RelO.getD {o:Option V}{u:Option Value}{d:V}{d':Value}(r:RelO o u) (rd:RelV d d'):RelV (o.getD d) (u.getD d'):=by
 cases o with
 | none=>cases u with
  | none=>exact rd
  | some _=>exact (show False from r).elim
 | some _=>cases u with
  | none=>exact (show False from r).elim
  | some _=>exact r
theorem KV.val {kvs:List (κ×V)}{vs:List (κ×Value)}(r:KV kvs vs) (k:κ):RelO (br kvs k) (valueAt vs k):=by
 unfold KV at r
 induction r with
 | nil=>exact DW
 | @cons p q ps qs h t ih =>
  obtain ⟨h1,h2⟩:=h
  by_cases e:p.1=k
  ·have e':q.1=k:=h1.symm.trans e
   have b:valueAt (q :: qs) k=some q.2:=by simp [valueAt,Dw,e']
   rw [bw e,b]; exact h2
  ·have e':¬ q.1=k:=fun z=>e (h1.trans z)
   have b:valueAt (q :: qs) k=valueAt qs k:=by simp [valueAt,Dw,e']
   rw [bx e,b]; exact ih
theorem KV.any {kvs:List (κ×V)}{vs:List (κ×Value)}(r:KV kvs vs) (k:κ):(kvs.any fun kv=>decide (kv.1=k))=vs.any fun kv=>decide (kv.1=k):=by
 unfold KV at r
 induction r with
 | nil=>rfl
 | cons h t ih=>rw [List.any_cons,List.any_cons,ih,h.1]
theorem KV.repl {kvs:List (κ×V)}{vs:List (κ×Value)}(r:KV kvs vs) (k:κ) {y:V}{u:Value}(ry:RelV y u) :
  KV (kvs.map fun kv=>if kv.1=k then (kv.1,y) else kv) (vs.map fun kv=>if kv.1=k then (kv.1,u) else kv):=by
 unfold KV at r ⊢
 induction r with
 | nil=>exact .nil
 | @cons p q ps qs h t ih =>
  rw [BD,BD]
  refine .cons ?_ ih
  obtain ⟨h1,h2⟩:=h
  by_cases e:p.1=k
  ·rw [if_pos e,if_pos (h1.symm.trans e)]; exact ⟨h1,ry⟩
  ·rw [if_neg e,if_neg (fun z=>e (h1.trans z))]; exact ⟨h1,h2⟩
theorem KV.put {kvs:List (κ×V)}{vs:List (κ×Value)}(r:KV kvs vs) (k:κ) {y:V}{u:Value}(ry:RelV y u):KV (cN kvs k y) (stored vs k u):=by
 unfold cN stored
 rw [r.any k]
 by_cases e:(vs.any fun kv=>decide (kv.1=k))=true
 ·rw [if_pos e,if_pos e]; exact r.repl k ry
 ·rw [if_neg e,if_neg e]; exact Paired.snoc r ⟨rfl,ry⟩
theorem KV.length {kvs:List (κ×V)}{vs:List (κ×Value)}(r:KV kvs vs):kvs.length=vs.length:=Paired.length r
end
theorem k8 {P:Program}{w:BG}{k:Key}{u:Value}(r:RelV (kV k) u):(aT P w).is k u=true:=by
 cases k with
 | inl i=>obtain ⟨t,e⟩:=(show ∃t,u=FC i t from r); subst e; exact kT P w i t
 | inr x=>obtain ⟨t,e⟩:=(show ∃t,u=Value.str x t from r); subst e; exact kR P w x t
theorem jf {P:Program}{w:BG}:∀{ks:List Key}{us:List Value},Vals (ks.map kV) us->ItemsAre (aT P w) ks us
 | [],_,r=>by rw [FP] at r; cases r; exact .nil
 | k :: ks,_,r=>by
  rw [BD] at r
  cases r with
  | cons h t=>exact .cons (k8 h) (jf t)
abbrev KT (H:Hp):List (List Key×V)->List (List Key×Addr×Value)->Prop:=Paired fun p q=>p.1=q.1/\H q.2.1=some (.tup (p.1.map kV))/\RelV p.2 q.2.2
theorem KT.val {H:Hp}{kvs:List (List Key×V)}{xs:List (List Key×Addr×Value)}(r:KT H kvs xs) (k:List Key):RelO (br kvs k) ((atKey xs k).map (·.2)):=by
 induction r with
 | nil=>exact DW
 | @cons p q ps qs h t ih =>
  obtain ⟨h1,_,h2⟩:=h
  by_cases e:p.1=k
  ·have e':q.1=k:=h1.symm.trans e
   have b:atKey (q :: qs) k=some q.2:=by simp [atKey,Dw,e']
   rw [bw e,b]; exact h2
  ·have e':¬ q.1=k:=fun z=>e (h1.trans z)
   have b:atKey (q :: qs) k=atKey qs k:=by simp [atKey,Dw,e']
   rw [bx e,b]; exact ih
theorem KT.repl {H:Hp}{kvs:List (List Key×V)}{xs:List (List Key×Addr×Value)}(r:KT H kvs xs) (k:List Key) {y:V}{u:Value}(ry:RelV y u) :
  KT H (kvs.map fun kv=>if kv.1=k then (kv.1,y) else kv) (xs.map (putAt k u)):=by
 induction r with
 | nil=>exact .nil
 | @cons p q ps qs h t ih =>
  rw [BD,BD]
  refine .cons ?_ ih
  obtain ⟨h1,h2,h3⟩:=h
  unfold putAt
  by_cases e:p.1=k
  ·rw [if_pos e,if_pos (h1.symm.trans e)]; exact ⟨h1,h2,ry⟩
  ·rw [if_neg e,if_neg (fun z=>e (h1.trans z))]; exact ⟨h1,h2,h3⟩
theorem KT.put {H:Hp}{kvs:List (List Key×V)}{xs:List (List Key×Addr×Value)}(r:KT H kvs xs) (k:List Key) {b:Addr}{y:V}{u:Value}(hb:H b=some (.tup (k.map kV))) (ry:RelV y u) :
  KT H (cN kvs k y) (storedH xs k b u):=by
 have e:(kvs.any fun kv=>decide (kv.1=k))=(atKey xs k).isSome:=by
  rw [fu,(r.val k).isSome_eq,Option.isSome_map]
 unfold cN storedH
 rw [e]
 by_cases q:(atKey xs k).isSome=true
 ·rw [if_pos q,if_pos q]; exact r.repl k ry
 ·rw [if_neg q,if_neg q]; exact Paired.snoc r ⟨rfl,hb,ry⟩
theorem KT.keeps {H H':Hp}{kvs:List (List Key×V)}{xs:List (List Key×Addr×Value)}(r:KT H kvs xs) (ht:∀b ys,H b=some (.tup ys)->H' b=some (.tup ys)):KT H' kvs xs :=
 Paired.mapP r fun _ _ z=>⟨z.1,ht _ _ z.2.1,z.2.2⟩
section
variable {P:Program}{w:BG}{H:Hp}{h:Heap}{a:Addr}
theorem xi {u:HO}(ok:HOk P w H h) (e:Rd H a u):ObjOk P w H h a u:=e.ok ok
theorem iu {kvs:List (Key×V)}(ok:HOk P w H h) (e:Rd H a (.dK kvs)):kvs.length<=sizeLine/\(a == Em)=false/\∃vs,KV kvs vs/\h.DictOf (aT P w) a vs :=
 show ObjOk P w H h a (.dK kvs) from xi ok e
theorem uJ {kvs:List (Key×V)}(ok:HOk P w H h) (e:H a=some (.dK kvs)):kvs.length<=sizeLine/\(a == Em)=false/\∃vs,KV kvs vs/\h.DictOf (aT P w) a vs:=iu ok (.inl e)
theorem jY {ks:List Key}(ok:HOk P w H h) (e:H a=some (.tup (ks.map kV))):(tupleKind (aT P w)).is h ks a:=by
 obtain ⟨_,its,r,o,h1,h2,n,h3⟩:=(show ObjOk P w H h a (.tup (ks.map kV)) from ok a _ e)
 exact ⟨o,its.toArray,n,h1,h2,h3,by simpa using jf r⟩
theorem lA {kvs:List (List Key×V)}(ok:HOk P w H h) (e:Rd H a (.dT kvs)):kvs.length<=sizeLine/\(a == Em)=false /\
  ∃xs,KT H kvs xs/\h.DictOfH (tupleKind (aT P w)) a xs:=by
 obtain ⟨z,y,xs,r,o,es,ep,h1,h2,h3,h4,h5⟩:=(show ObjOk P w H h a (.dT kvs) from xi ok e)
 refine ⟨z,y,xs,r,o,es,ep,h1,h2,h3,h4,fun x hx=>?_,h5⟩
 have all:∀{l:List (List Key×V)}{m:List (List Key×Addr×Value)},KT H l m->∀x∈m,(tupleKind (aT P w)).is h x.1 x.2.1:=by
  intro l m q
  induction q with
  | nil=>intro x hx; exact nomatch hx
  | @cons p q ps qs hq t ih =>
   intro x hx
   rcases Bp.mp hx with e | hx
   ·subst e
    exact jY ok (by rw [<- hq.1]; exact hq.2.1)
   ·exact ih x hx
 exact all r x hx
theorem Az {kvs:List (List Key×V)}(ok:HOk P w H h) (e:H a=some (.dT kvs)):kvs.length<=sizeLine/\(a == Em)=false /\
  ∃xs,KT H kvs xs/\h.DictOfH (tupleKind (aT P w)) a xs:=lA ok (.inl e)
end
def DGet (H:Hp) (a:Addr) (y:V) (r:Option V):Prop :=
 (∃kvs k,Rd H a (.dK kvs)/\y=kV k/\r=br kvs k)\/∃kvs k b,Rd H a (.dT kvs)/\y=.ref b/\H b=some (.tup (k.map kV))/\r=br kvs k
def AG (H:Hp) (a:Addr) (y v:V) (H':Hp):Prop :=
 (∃kvs k,H a=some (.dK kvs)/\y=kV k/\kvs.length<sizeLine/\H'=upd H a (.dK (cN kvs k v))) \/
 ∃kvs k b,H a=some (.dT kvs)/\y=.ref b/\H b=some (.tup (k.map kV))/\kvs.length<sizeLine/\H'=upd H a (.dT (cN kvs k v))
theorem DGet.k {H:Hp}{a:Addr}{kvs:List (Key×V)}{k:Key}(e:H a=some (.dK kvs)):DGet H a (kV k) (br kvs k):=.inl ⟨kvs,k,.inl e,rfl,rfl⟩
section
variable {X:Cx}{pins:'m'}{σ:St}{H:Hp}{s:A9}{a:Addr}{y v:V}{u r:Value}{o:Option V}{A:BC}{E:Value->A9->Prop}
theorem Inv.big (I:Inv X pins σ H s):Em<'n':=by
 have h:BA<'n':=(I.mod.glob.keeps I.bk).lt
 exact Nat.lt_trans 'f' h
theorem qL {Q:Value->A9->Prop}(hu:A.units+1<cLine) (I:Inv X pins σ H s) (g:DGet H a y (some v)) (ry:RelV y u) (h:∀w' s',Inv X pins σ H s'->RelV v w'->Q w' s') :
  Bl (Bv X.prog X.w) A (Gv (.ref a) u) Q E s:=by
 rcases g with ⟨kvs,k,e,ey,l⟩ | ⟨kvs,k,b,e,ey,eb,l⟩
 ·subst ey
  obtain ⟨z,hd,vs,rel,dd⟩:=iu I.hok e
  obtain ⟨w',hw,rw'⟩:=RelO.some_of (v:=v) (o:=valueAt vs k) (by rw [l]; exact rel.val k)
  exact wpAny_getItem_of (k8 ry) dd.mapOf hw (h w' _ (I.tok _) rw')
 ·subst ey
  cases (show u=Bs b from ry)
  obtain ⟨z,hd,xs,rel,dd⟩:=lA I.hok e
  obtain ⟨w',hw,rw'⟩:=RelO.some_of (v:=v) (o:=(atKey xs k).map (·.2)) (by rw [l]; exact rel.val k)
  obtain ⟨p,hp,hp2⟩:=DP.mp hw
  refine wpAny_getItem_heap (tupleKind_room_in1 hu) (jY I.hok eb) dd hp ?_
  rw [hp2]
  exact h w' _ (I.tok _) rw'
theorem ke {h':Heap}{t':Nat}{ob:HO}(I:Inv X pins σ H s) (mu:Mut (H a)) (hs:Ca a s.heap h') (he:∃q,h'.get? a=some q) (new:ObjOk X.prog X.w (upd H a ob) h' a ob) :
  Inv X pins σ (upd H a ob) { s with heap:=h',toks:=t' } :=
 I.write (x:=a) (e:=a) mu (.inl rfl) (fun b q hb z=>(hs.2 b hb).trans z) he new
theorem uK {P:Program}{w:BG}{H':Hp}{h':Heap}{kvs:List (Key×V)}{vs:List (Key×Value)}(z:kvs.length<=sizeLine) (hd:(a == Em)=false) (rel:KV kvs vs) (dd:h'.DictOf (aT P w) a vs) :
  ObjOk P w H' h' a (.dK kvs):=⟨z,hd,vs,rel,dd⟩
theorem qK {H':Hp}{Q:Unit->A9->Prop}(hu:A.units+1<cLine) (I:Inv X pins σ H s) (g:AG H a y v H') (ry:RelV y u) (rv:RelV v r) (h:∀s',Inv X pins σ H' s'->Q () s') :
  Bl (Bv X.prog X.w) A (setItem (.ref a) u r) Q E s:=by
 rcases g with ⟨kvs,k,e,ey,l,eH⟩ | ⟨kvs,k,b,e,ey,eb,l,eH⟩
 ·subst ey eH
  obtain ⟨z,hd,vs,rel,dd⟩:=uJ I.hok e
  have hz:vs.length<=sizeLine:=by rw [<- rel.length]; exact z
  have hl:(cN kvs k v).length<=sizeLine:=by have:=cA kvs k v; omega
  refine wpAny_setItem_pairs (hsz:=hz) (k8 ry) dd fun h' dd' hs=>h _ ?_
  have he:∃q,h'.get? a=some q:=let ⟨q,_,_,hq,_⟩:=dd'; ⟨q,hq⟩
  exact ke I (by rw [e]; exact DW) hs he (uK hl hd (rel.put k rv) dd')
 ·subst ey eH
  cases (show u=Bs b from ry)
  obtain ⟨z,hd,xs,rel,dd⟩:=Az I.hok e
  have hz:xs.length<=sizeLine:=by rw [<- Paired.length rel]; exact z
  have hl:(cN kvs k v).length<=sizeLine:=by have:=cA kvs k v; omega
  refine wpAny_setItem_heap (hsz:=hz) (tupleKind_room_in1 hu) (jY I.hok eb) dd fun h' dd' hs=>h _ ?_
  obtain ⟨q,es,ep,hq,h2,h3,h4,_,h5⟩:=dd'
  refine ke I (by rw [e]; exact DW) hs ⟨q,hq⟩ ⟨hl,hd,_,(rel.put k eb rv).keeps fun c ys ec=>?_,q,es,ep,hq,h2,h3,h4,h5⟩
  rw [ah (aK ec e (fun z=>nomatch z))]
  exact ec
end
section
variable {X:Cx}{pins:'m'}{σ:St}{H:Hp}{s:A9}{a:Addr}{kvs:List (Key×V)}{k:Key}{u:Value}{A:BC}{E:Value->A9->Prop}
end
def zr (i:Expr):Prop:=∀ov iv,subscripted i false ov iv=operate [ov,iv] (Gv ov iv)
theorem ve {prog:Program}{w:BG}{A:BC}{E:Value->A9->Prop}{s:A9}{env:Env}{value slice:Expr}{pos:Pos}{T id:String}{Q:Value->A9->Prop}
  (hl:typeLookup (.type T) "__getitem__"=pure (some (.builtin id))) (hs:zr slice)
  (h:Bl (Bv prog w) A (eval value env) (fun o s₁=>Bl (Bv prog w) A (eval slice env) (fun i s₂=>s₂.TypeIs o T/\Bl (Bv prog w) A (Gv o i) Q E s₂) E s₁) E s) :
  Bl (Bv prog w) A (eval (.Subscript value slice pos) env) Q E s:=by
 refine Subscript_ (BJ h (fun o s₁ h₁=>BJ h₁ (fun i s₂ h₂=>?_) fun _ _ x=>x) fun _ _ x=>x)
 obtain ⟨hT,h₂⟩:=h₂
 unfold subscriptTail
 refine A3 ?_
 rw [getitemInPython_of_ne hT.not_modules]
 refine A3 (wpAny_specialOf hT hl ?_)
 have fin:Bl (Bv prog w) A (subscripted slice false o i) (fun r s₃=>Bl (Bv prog w) A (letTemporaryGo value o r >>= fun _=>pure r) Q E s₃) E s₂:=by
  rw [hs o i]
  exact wpAny_operating (BJ h₂ (fun r s₃ h₃=>A3 (wpAny_letTemporaryGo (Bc h₃))) fun _ _ x=>x)
 first
  | exact Bc (A3 fin)
  | exact A3 (Bc (A3 fin))
  | exact A3 fin
theorem lD {X:Cx}{pins:'m'}{σ:St}{H:Hp}{s:A9}{a:Addr}{y:V}{o:Option V}(I:Inv X pins σ H s) (g:DGet H a y o):s.TypeIs (.ref a) "dict":=by
 rcases g with ⟨kvs,k,e,_,_⟩ | ⟨kvs,k,b,e,_,_,_⟩
 ·obtain ⟨_,_,vs,_,dd⟩:=iu I.hok e
  exact dd.typeIs
 ·obtain ⟨_,_,xs,_,dd⟩:=lA I.hok e
  exact dd.typeIs
def w6 (td ty:TE):TE:=fun σ H Q=>td σ H fun x H1=>ty σ H1 fun y H2=>∃a v,x=.ref a/\DGet H2 a y (some v)/\Q v H2
def xh (td ty tv:TE):TS:=fun D σ H=>tv σ H fun v H1=>td σ H1 fun x H2=>ty σ H2 fun y H3=>∃a H4,x=.ref a/\AG H3 a y v H4/\D.nx σ H4
section
variable {X:Cx}{o i e value:Expr}{pos pos' tpos:Pos}{td ty tv:TE}
theorem vH (hu:X.A.units+1<cLine) (ho:PE X o td) (hi:PE X i ty) (hs:zr i):PE X (.Subscript o i pos) (w6 td ty):=by
 intro pins s σ H Q I h
 refine ve PySem.F.slot_dict_getitem.lookup hs (thn (ho pins s σ H _ I h) fun u s1 ⟨x,H1,I1,rx,q1⟩=>thn (hi pins s1 σ H1 _ I1 q1) fun iv s2 ⟨y,H2,I2,ry,a,v,ex,g,q2⟩=>?_)
 subst ex
 obtain rfl:u=Bs a:=rx
 exact ⟨lD I2 g,qL hu I2 g ry fun w' s3 I3 rw'=>⟨v,H2,I3,rw',q2⟩⟩
theorem vy (hu:X.A.units+1<cLine) (ho:PE X o td) (hi:PE X i ty) (hv:PE X value tv) (hs:Dt value (some (.Subscript o i pos')) pos.line X.env=pure false) :
  PS X (.Assign [.Subscript o i pos'] value pos) (xh td ty tv):=by
 intro pins s σ H D I h
 refine wpAny_Assign_Subscript (thn (hv pins s σ H _ I h) fun r s1 ⟨v,H1,I1,rv,q1⟩=>thn (ho pins s1 σ H1 _ I1 q1) fun u s2 ⟨x,H2,I2,rx,q2⟩=>thn (hi pins s2 σ H2 _ I2 q2) fun iv s3 ⟨y,H3,I3,ry,a,H4,ex,g,q3⟩=>?_) hs
 subst ex
 obtain rfl:u=Bs a:=rx
 exact qK hu I3 g ry rv fun s4 I4=>⟨σ,H4,I4,q3⟩
end
theorem uL {P:Program}{w:BG}{H:Hp}(h:Heap) (hb:Em<h.objs.size):ObjOk P w H (h.push { cls:=.type "dict",data:=.dict #[] }) h.objs.size (.dK []) :=
 ⟨B6 _,beq_eq_false_iff_ne.mpr (Co (Bw hb)),[],.nil,Heap.DictOf.new h⟩
def rH:TE:=fun _ H Q=>∀p,H p=none->Q (.ref p) (upd H p (.dK []))
section
variable {X:Cx}{pos:Pos}
theorem sZ:PE X (.Dict [] [] pos) rH:=fun pins s σ H Q I h =>
 wpAny_Dict_empty ⟨.ref 'n',_,I.laid (a:='n') (o:=.dK []) (t':=s.toks) (fun _ _ q=>A6 _ q) (Bb _) (uL s.heap I.big),rfl,h _ (I.hok.fresh (Bb _))⟩
end
structure M2 (X:Cx) (o:Expr) (m:Str) (apos:Pos) (e f:Expr) (cpos:Pos):Prop where
 base:Dl o m X.env (eval o X.env)=eval o X.env
 few:((DM cpos (B2 [e,f] X.env)).all (fun x=>!x.1)&&(backToKw cpos (keywordEach [] X.env)).all (fun x=>x.1.isSome)
 &&decide (([e,f]:List Expr).length+([]:List Keyword).length+(if ([]:List Keyword).isEmpty then 0 else 1)<30))=true
 line:(apos.endLine == cpos.line)=true
 trees:DM cpos (B2 [e,f] X.env)=[(false,eval e X.env),(false,eval f X.env)]
def IsD (H:Hp) (a:Addr):Prop:=(∃kvs,Rd H a (.dK kvs))\/∃kvs,Rd H a (.dT kvs)
theorem mN {X:Cx}{pins:'m'}{σ:St}{H:Hp}{s:A9}{a:Addr}(I:Inv X pins σ H s) (d:IsD H a) :
  s.TypeIs (.ref a) "dict"/\(∀b,Bs a=.ref b->∃ob,s.heap.get? b=some ob/\ob.dict=none)/\(a == Em)=false:=by
 rcases d with ⟨kvs,e⟩ | ⟨kvs,e⟩
 ·obtain ⟨_,hd,vs,_,dd⟩:=iu I.hok e
  refine ⟨dd.typeIs,fun b q=>?_,hd⟩
  cases q
  obtain ⟨ob,_,_,h1,h2,_⟩:=dd
  exact ⟨ob,h1,h2.2.1⟩
 ·obtain ⟨_,hd,xs,_,dd⟩:=lA I.hok e
  refine ⟨dd.typeIs,fun b q=>?_,hd⟩
  cases q
  obtain ⟨ob,_,_,h1,h2,_⟩:=dd
  exact ⟨ob,h1,h2.2.1⟩
section
variable {X:Cx}{pins:'m'}{σ:St}{H:Hp}{s:A9}{a:Addr}{y d:V}{u r:Value}{o:Option V}{A:BC}{E:Value->A9->Prop}
theorem zk {Q:Value->A9->Prop}(hu:A.units+1<cLine) (I:Inv X pins σ H s) (g:DGet H a y o) (ry:RelV y u) (rd:RelV d r) (h:∀w' s',Inv X pins σ H s'->RelV (o.getD d) w'->Q w' s') :
  Bl (Bv X.prog X.w) A (call (.builtin "dict.get") [.ref a,u,r]) Q E s:=by
 rcases g with ⟨kvs,k,e,ey,l⟩ | ⟨kvs,k,b,e,ey,eb,l⟩
 ·subst ey
  obtain ⟨z,hd,vs,rel,dd⟩:=iu I.hok e
  refine call_meetsIn FX dd.typeIs PySem.F.entry_dict_get (PySem.F.args_dict_get_3 _ _ _) (meets_dict_get_default (aT X.prog X.w) a (k8 ry) hd r) ⟨_,dd.mapOf,h _ _ (I.tok _) ?_⟩
  rw [l]
  exact (rel.val k).getD rd
 ·subst ey
  cases (show u=Bs b from ry)
  obtain ⟨z,hd,xs,rel,dd⟩:=lA I.hok e
  refine call_meetsIn FX dd.typeIs PySem.F.entry_dict_get (PySem.F.args_dict_get_3 _ _ _) (meetsH_dict_get_default (tupleKind (aT X.prog X.w)) a b hd r) ⟨tupleKind_room_in1 hu,k,xs,jY I.hok eb,dd,h _ _ (I.tok _) ?_⟩
  rw [l]
  exact (rel.val k).getD rd
end
def rJ (td ty tx:TE):TE:=fun σ H Q=>td σ H fun x H1=>∃a,x=.ref a/\IsD H1 a/\ty σ H1 fun y H2=>tx σ H2 fun z H3=>∃o,DGet H3 a y o/\Q (o.getD z) H3
section
variable {X:Cx}{o e f:Expr}{apos cpos:Pos}{td ty tx:TE}
theorem s_ (hu:X.A.units+1<cLine) (ho:PE X o td) (he:PE X e ty) (hf:PE X f tx) (m:M2 X o "get" apos e f cpos):PE X (.Call (.Attribute o "get" apos) [e,f] [] cpos) (rJ td ty tx):=by
 intro pins s σ H Q I h
 refine wpAny_Call_method m.base m.few m.line FH FX PySem.F.type_dict_get (thn (ho pins s σ H _ I h) fun u s1 ⟨x,H1,I1,rx,a,ex,d,q1⟩=>?_)
 subst ex
 obtain rfl:u=Bs a:=rx
 obtain ⟨t1,t2,_⟩:=mN I1 d
 refine ⟨t1,t2,?_⟩
 rw [m.trees]
 refine ER rfl (E7 (CD (thn (he pins s1 σ H1 _ I1 q1) fun iv s2 ⟨y,H2,I2,ry,q2⟩ =>
  CD (thn (hf pins s2 σ H2 _ I2 q2) fun fv s3 ⟨z,H3,I3,rz,ov,g,q3⟩=>Dc ?_))))
 exact zk hu I3 g ry rz fun w' s4 I4 rw'=>⟨_,H3,I4,rw',q3⟩
end
section
variable {X:Cx}{pins:'m'}{σ:St}{H:Hp}{s:A9}{a:Addr}{kvs:List (Key×V)}{A:BC}{E:Value->A9->Prop}
end
section
variable {X:Cx}{pins:'m'}{σ:St}{H:Hp}{s:A9}{a:Addr}{y:V}{u:Value}{A:BC}{E:Value->A9->Prop}
end
section
variable {X:Cx}
end
section
variable {κ:Type} [DecidableEq κ]
end
section
variable {X:Cx}{pins:'m'}{σ:St}{H:Hp}{s:A9}{h':Heap}
theorem Inv.turnedL {t':Nat}{ch:List Addr}(I:Inv X pins σ H s) (k:∀b o,b ∉ ch->s.heap.get? b=some o->h'.get? b=some o) (hf:∀b∈ch,bU X pins H b):Inv X pins σ H { s with heap:=h',toks:=t' }:=by
 have nit:∀b u,H b=some u->b ∉ ch:=fun b u e z=>by rw [(hf b z).1] at e; cases e
 refine I.step (g':=s.gens) (d':=s.drawn) (ch:=ch) (fun b hb=>⟨(hf b hb).2.2.2.1,(hf b hb).2.1,(hf b hb).2.2.2.2.1,(hf b hb).2.2.2.2.2⟩) (fun b o _ _ hc e _=>k b o hc e) (fun b o _ _ hc e _=>⟨o.slots,k b o hc e⟩) (fun _ _ _ _ n=>n)
  (fun b o hc e=>⟨o,k b o hc e⟩) (fun _ _ e=>e) (fun _ _ _ e=>e) (fun b ps e=>⟨#[],by rw [e]; simp⟩) (fun m hm=>?_) (fun b u e=>?_) I.bare
 ·obtain ⟨o,es,ep,ho,r⟩:=hm
  exact ⟨o,es,ep,k _ o (fun z=>(hf _ z).2.1 rfl) ho,r⟩
 ·refine (I.hok b u e).stay (fun c v hc q=>k c v ?_ q) (fun _ q=>q) fun _ _ q=>q
  rcases hc with z | z
  ·rw [z]; exact nit b u e
  ·exact nit c _ z
end
def Ite (K:Ba) (a:Addr):It :=
 ⟨fun i H=>∃xs x,SqL K H a xs/\xs[i]?=some x,fun i H x H'=>∃p v,x=.ref p/\H p=none/\H'=upd H p (.tup [.int (i:Int),v])/\∀xs,SqL K H a xs->xs[i]?=some v,fun i H=>∃xs,SqL K H a xs/\xs.length<=i⟩
theorem pL {P:Program}{w:BG}{K:Ba}{elts:List Expr}{x1} {pos:Pos}(a e it:Addr) (hne:e≠it) :
  m5 P w K (.Tuple elts x1 pos) (Ite K a) [e,it] e (fun i h=>∃old,IsEnum h e it (i:Int) old/\h.IsListIter it a i) where
 mem:=by simp
 obj:=fun i h st b hb=>by
  obtain ⟨old,he,o,e1,c,d⟩:=st
  have hb':b=e\/b=it:=by simpa using hb
  rcases hb' with rfl | rfl
  ·exact ⟨_,he,fun v z=>by
    have z':Data.fields _=Data.cell v:=z
    cases z'⟩
  ·exact ⟨o,e1,fun v z=>by rw [d] at z; cases z⟩
 keep:=fun i h h' st k=>by
  obtain ⟨old,he,hi⟩:=st
  exact ⟨old,k e 'e' _ he,hi.at fun o q=>k it 'e' o q⟩
 item:=by
  intro X hP hw hK hc i pins s σ H E I hf st hg
  subst hP hw hK
  obtain ⟨xs,x,hq,hx⟩:=hg
  obtain ⟨old,he,hit⟩:=st
  obtain ⟨its,rv,p,hz⟩:=I.list hq
  obtain ⟨u,hu,ru⟩:=rv.get hx
  refine wpAny_pyNext_enum_item he hit p.isList (x:=u) (by simpa using hu) hne fun h1 eo hit1 ht hz1 hk1=>?_
  refine ⟨_,rfl,wpAny_letOwnedTupleGo_enum (s:={ s with heap:=h1,toks:=s.toks+1 }) eo fun h2 he2 hs2=>?_⟩
  have hs2':Ca e h1 h2:=hs2
  have nH:H 'n'=none:=I.hok.fresh (Bb _)
  have eL:e<'n':=Bi he
  obtain ⟨oi,hoi,ci,di⟩:=id hit
  have iL:it<'n':=Bi hoi
  have ht2:h2.get? 'n'=some { cls:=.type "tuple",data:=.seq #[.int i s.toks,u] }:=(hs2'.2 _ (Gu eL)).trans ht
  have pg:(s.heap.push { cls:=.type "tuple",data:=.seq #[.int i s.toks,u] }).get? 'n'=some { cls:=.type "tuple",data:=.seq #[.int i s.toks,u] }:=Bj _ rfl
  have J1:=I.laid (a:='n') (o:=.tup [.int (i:Int),x]) (h':=s.heap.push { cls:=.type "tuple",data:=.seq #[.int i s.toks,u] }) (t':=s.toks) (fun b v z=>A6 _ z) (Bb _)
   ⟨'i',[.int i s.toks,u],.cons ⟨_,rfl⟩ (.cons ru .nil),⟨_,pg,rfl,_,rfl⟩⟩
  have fp':∀b∈[e,it],bU X pins (upd H 'n' (.tup [.int (i:Int),x])) b:=fun b hb=>by
   obtain ⟨f0,f1,f2,f3,f4,f5⟩:=hf b hb
   have hb':b=e\/b=it:=by simpa using hb
   refine ⟨?_,f1,f2,f3,f4,f5⟩
   rw [ah (by rcases hb' with rfl | rfl; exact Bw eL; exact Bw iL)]
   exact f0
  have J2:=J1.turnedL (h':=h2) (t':=s.toks+1) (ch:=[e,it]) (fun b o hb z=>by
   have n1:b≠e:=fun y=>hb (by simp [y])
   have n2:b≠it:=fun y=>hb (by simp [y])
   by_cases hp:b='n'
   ·subst hp
    have z':'n'='n'->(s.heap.push { cls:=.type "tuple",data:=.seq #[.int i s.toks,u] }).get? 'n'=some o:=fun _=>z
    rw [pg] at z'
    have:=z' rfl
    cases this
    exact ht2
   ·have z2:s.heap.get? b=some o:=dX z hp
    exact (hs2'.2 b n1).trans (hk1 b o n1 n2 z2)) fp'
  refine ⟨.ref 'n',_,J2,rfl,⟨_,x,rfl,nH,rfl,fun ys hy=>by rw [I.list_inj hy hq]; exact hx⟩,⟨u,?_,?_⟩,fun b hb=>(fp' b hb).1⟩
  ·have e1:((i:Int)+1)=((i+1:Nat):Int):=by omega
   rw [<- e1]
   exact he2
  ·exact hit1.at fun o q=>(hs2'.2 it (Co hne)).trans q
 done:=by
  intro X hP hw hK hc i pins s σ H E I hf st hg
  subst hP hw hK
  obtain ⟨xs,hq,hx⟩:=hg
  obtain ⟨old,he,hit⟩:=st
  obtain ⟨its,rv,p,hz⟩:=I.list hq
  have hl:=rv.length
  refine wpAny_pyNext_enum_end (I.ok.hd hc) he hit p.isList (by simp; omega) fun h' eb=>⟨rfl,I.turnedL (t':=s.toks) (ch:=[e,it]) (fun b o hb z=>eb b o (fun y=>hb (by simp [y])) z) hf⟩
 self:=fun _ _ _ _ _ st h=>by
  obtain ⟨old,he,_⟩:=st
  exact wpAny_pyIter_enum he h
def xA (K:Ba) (ta:TA):TI:=fun σ H R=>ta σ H fun vs H1=>∃a,vs=[.ref a]/\(∃xs,SqL K H1 a xs)/\R (Ite K a) H1
section
variable {X:Cx}
theorem vD {elts:List Expr}{x1} {tpos p pos:Pos}{a:Expr}{ta:TA}(hg:Gl X "enumerate") (hm:X.mg "enumerate"=none) (hbt:C8 "enumerate"=some (.type "enumerate")) (ha:PA X [a] ta) (hs:B2 [a] X.env=[(false,eval a X.env)]:=by rfl) :
  PI X (.Tuple elts x1 tpos) (.Call (.Name "enumerate" p) [a] [] pos) (xA X.K ta):=by
 intro pins s σ H R I h
 refine GG (bp I hg hm hbt (BU (thn (ha pos pins s σ H _ I h) fun us s1 ⟨vs,H1,I1,r1,q1⟩=>?_) hs rfl))
 obtain ⟨a,rfl,⟨xs,hq⟩,q⟩:=q1
 obtain ⟨u,rfl,ru⟩:=bR r1
 cases ru
 obtain ⟨its,rv,pl,hz⟩:=I1.list hq
 refine call_enumerate_list pl.isList fun h' he hi hsz hk=>?_
 refine wpAny_pyIter_enum he ?_
 have I2:Inv X pins σ H1 { s1 with heap:=h' }:=I1.kept (t':=s1.toks) hk
 refine ⟨s1.heap.objs.size+1,[s1.heap.objs.size+1,s1.heap.objs.size],_,_,H1,rfl,I2,pL a _ _ (Nat.succ_ne_self _),⟨_,he,hi⟩,fun b hb=>?_,q⟩
 have hb':b=s1.heap.objs.size+1\/b=s1.heap.objs.size:=by simpa using hb
 rcases hb' with rfl | rfl
 ·exact I1.fpOk (Dd _) (I1.hok.fresh (Dd _))
 ·exact I1.fpOk (Bb _) (I1.hok.fresh (Bb _))
theorem ii {K:Ba}{a:Addr}{xs:List V}{g:TG}{tb:TS}{D:Ends}{σ:St}{H:Hp}(Pv:Nat->St->Hp->Prop) (h0:Pv 0 σ H) (hl:∀i σ H,i<=xs.length->Pv i σ H->SqL K H a xs)
  (hs:∀i x σ H p,xs[i]?=some x->Pv i σ H->H p=none->g (.ref p) σ (upd H p (.tup [.int (i:Int),x])) fun σ2 H2=>tb { D with nx:=Pv (i+1),ct:=Pv (i+1),bk:=D.nx } σ2 H2) (hd:∀ σ H,Pv xs.length σ H->D.nx σ H) :
  ∃W:Nat->Nat->St->Hp->Prop,(∃m,W 0 m σ H)/\∀i m σ H,W i m σ H ->
   ((Ite K a).stop i H/\D.nx σ H)\/((Ite K a).go i H/\∃N:St->Hp->Prop,(∀ σ' H',N σ' H'->∃m',m'<m/\W (i+1) m' σ' H')/\∀x H',(Ite K a).yld i H x H'->g x σ H' fun σ2 H2=>tb { D with nx:=N,ct:=N,bk:=D.nx } σ2 H2):=by
 refine ⟨fun i m σ H=>m=xs.length-i/\i<=xs.length/\Pv i σ H,⟨xs.length,by simp,B6 _,h0⟩,?_⟩
 rintro i m σ H ⟨rfl,hi,p⟩
 have q:=hl i σ H hi p
 by_cases hlt:i<xs.length
 ·refine .inr ⟨⟨xs,xs[i],q,by simp [hlt]⟩,Pv (i+1),fun σ' H' p'=>⟨xs.length-(i+1),by omega,rfl,hlt,p'⟩,fun x H' y=>?_⟩
  obtain ⟨pp,v,rfl,hn,rfl,y⟩:=y
  exact hs i v σ H pp (y xs q) p hn
 ·have e:i=xs.length:=by omega
  subst e
  exact .inl ⟨⟨xs,q,Bb _⟩,hd σ H p⟩
end
section
variable {X:Cx}
end
def au:Expr->Bool
 | .Starred _ _=>false
 | _=>true
theorem aq {e:Expr}{es:List Expr}{env:Env}(h:au e=true):B2 (e :: es) env=(false,eval e env) :: B2 es env:=by
 cases e <;> first | rfl | cases h
theorem bc {env:Env}{pos:Pos}:∀{es:List Expr},es.all au=true->(DM pos (B2 es env)).any (·.1)=false
 | [],_=>rfl
 | e :: es,h=>by
  rw [List.all_cons,ED] at h
  rw [aq h.1]
  show (false||(DM pos (B2 es env)).any (·.1))=false
  rw [bc h.2]
  rfl
section
variable {X:Cx}
theorem pw' (i:Nat) {x:Str}{pos:Pos}(hN:X.N[i]?=some x:=by kernel_rfl) (hv:X.env.scope.names.lookup x=some .local:=by kernel_rfl) (hd:'r'=false:=by kernel_rfl)
  (hcd:(x == ("__classdict__":Str))=false:=by kernel_rfl):PE X (.Name x pos) (lW i):=jQ hN (.inl hv) hd hcd
theorem pc' (i:Nat) {x:Str}{pos:Pos}(hN:X.N[i]?=some x:=by kernel_rfl) (hv:X.env.scope.names.lookup x=some .cell:=by kernel_rfl) (hd:'r'=false:=by kernel_rfl)
  (hcd:(x == ("__classdict__":Str))=false:=by kernel_rfl):PE X (.Name x pos) (lW i):=jQ hN (.inr (.inl hv)) hd hcd
theorem vv {i:Nat}{x:Str}{e:Expr}{te:TE}{pos pos':Pos}(hN:X.N.Nodup) (he:PE X e te) (hi:X.N[i]?=some x:=by kernel_rfl) (hx:X.env.scope.names.lookup x=some .local:=by kernel_rfl)
  (hs:Dt e (some (.Name x pos')) pos.line X.env=pure false:=by kernel_rfl):PS X (.Assign [.Name x pos'] e pos) (gP te (cu i)):=sN (i:=i) hN hi (.inl hx) he hs (.inr hx)
theorem vw {i:Nat}{x:Str}{e:Expr}{te:TE}{pos pos':Pos}(hN:X.N.Nodup) (hfn:X.fn x=true) (he:PE X e te) (hi:X.N[i]?=some x:=by kernel_rfl) (hx:X.env.scope.names.lookup x=some .cell:=by kernel_rfl)
  (hs:Dt e (some (.Name x pos')) pos.line X.env=pure false:=by kernel_rfl):PS X (.Assign [.Name x pos'] e pos) (gP te (cu i)):=sN (i:=i) hN hi (.inr hx) he hs (.inl hfn)
theorem kK {i:Nat}{x:Str}{pos:Pos}(hN:X.N.Nodup) (hi:X.N[i]?=some x:=by kernel_rfl) (hx:X.env.scope.names.lookup x=some .local:=by kernel_rfl):PG X (.Name x pos) (cu i):=eA hN hi (.inl hx) (.inr hx)
theorem pa' {e:Expr}{es:List Expr}{te:TE}{t:TA}(ha:PE X e te) (hr:PA X es t) (hs:au e=true:=by rfl):PA X (e :: es) (bB te t):=on ha hr (aq hs)
theorem tm {CX:CXT}{j k:Nat}{ps:List Str}{sp:Sp}{E:XK}{x:Str}{p pos:Pos}{e:Expr}{es:List Expr}{t:TA}(D:Def X.prog X.w X.K X.mg X.base CX x j ps sp) (hr:Room k X.A) (hx:fj CX X E) (ha:PA X (e :: es) t) (hj:j<=k:=by decide) (hg:X.env.kindOf x=some .globalImplicit:=by kernel_rfl)
  (hdb:'r'=false:=by kernel_rfl) (he:au e=true:=by rfl) (hpl:es.all au=true:=by rfl) :
  PE X (.Call (.Name x p) (e :: es) [] pos) (nz sp [] E t):=tw D hr hx ha hj hg hdb (aq he) (bc hpl)
theorem qe {j k:Nat}{ps:List Str}{sp:Sp}{x:Str}{p pos:Pos}{e:Expr}{es:List Expr}{t:TA}(D:Def X.prog X.w X.K X.mg X.base (CX1 X.prog X.w) x j ps sp) (hr:Room k X.A) (ha:PA X.nox (e :: es) t) (hj:j<=k:=by decide) (hg:X.env.kindOf x=some .globalImplicit:=by kernel_rfl)
  (hdb:'r'=false:=by kernel_rfl) (he:au e=true:=by rfl) (hpl:es.all au=true:=by rfl) :
  PEX X (.Call (.Name x p) (e :: es) [] pos) (jB sp [] t):=qf D hr ha hj hg hdb (aq he) (bc hpl)
theorem pb' {id:String}{r:List V->Hp->VK->Prop}{x:Str}{p pos:Pos}{e:Expr}{es:List Expr}{t:TA}(hc:bz X (.builtin id) r) (hm:X.mg x=none) (hv:C8 x=some (.builtin id)) (ha:PA X (e :: es) t) (hg:X.env.kindOf x=some .globalImplicit:=by kernel_rfl) (hn:x≠"__name__":=by decide) (hdb:'r'=false:=by kernel_rfl)
  (he:au e=true:=by rfl) (hpl:es.all au=true:=by rfl):PE X (.Call (.Name x p) (e :: es) [] pos) (tCB r t):=tz hc hg hm hv ha hn hdb (aq he) (bc hpl)
theorem pt' {T:String}{r:List V->Hp->VK->Prop}{x:Str}{p pos:Pos}{e:Expr}{es:List Expr}{t:TA}(hc:bz X (.type T) r) (hm:X.mg x=none) (hv:C8 x=some (.type T)) (ha:PA X (e :: es) t) (hg:X.env.kindOf x=some .globalImplicit:=by kernel_rfl) (hn:x≠"__name__":=by decide) (hdb:'r'=false:=by kernel_rfl)
  (he:au e=true:=by rfl) (hpl:es.all au=true:=by rfl):PE X (.Call (.Name x p) (e :: es) [] pos) (tCB r t):=qg hc hg hm hv ha hn hdb (aq he) (bc hpl)
theorem pbl {x:Str}{v:V}{u:Value}{pos:Pos}(hm:X.mg x=none) (hv:C8 x=some u) (r:RelV v u) (hg:X.env.kindOf x=some .globalImplicit:=by kernel_rfl) (hn:x≠"__name__":=by decide) (hd:'r'=false:=by kernel_rfl):PE X (.Name x pos) (tC v):=vK hg hm hv r hn hd
end
end L2
set_option autoImplicit true
set_option relaxedAutoImplicit true
namespace L2
open PySem PySem.Spec PyProof.Rows
structure QE (X:Cx) (e:Expr) (t:TE):Prop where
 h:PE X e t
structure QT (X:Cx) (e:Expr) (t:TT):Prop where
 h:PT X e t
structure QW (X:Cx) (e:Expr) (t:TT):Prop where
 h:PW X e t
structure QA (X:Cx) (es:List Expr) (t:TA):Prop where
 h:PA X es t
structure QS (X:Cx) (st:Stmt) (t:TS):Prop where
 h:PS X st t
structure QSs (X:Cx) (st:List Stmt) (t:TS):Prop where
 h:PSs X st t
structure QG (X:Cx) (e:Expr) (t:TG):Prop where
 h:PG X e t
structure QGs (X:Cx) (es:List Expr) (t:TGs):Prop where
 h:PGs X es t
structure QO (X:Cx) (e:Option Expr) (t:TO):Prop where
 h:PO X e t
structure QI (X:Cx) (tg it:Expr) (t:TI):Prop where
 h:PI X tg it t
structure QX (X:Cx) (e:Expr) (t:TX):Prop where
 h:PEX X e t
section
variable {X:Cx}
theorem ae {i j pos}:QE X (.Constant (.int i) j pos) (tC (.int i)):=⟨yC⟩
theorem jo {x j pos}:QE X (.Constant (.str x) j pos) (tC (.str x)):=⟨yw⟩
theorem gh {b j pos}:QE X (.Constant (.bool b) j pos) (tC (.bl b)):=⟨Aa⟩
theorem oU {j pos}:QE X (.Constant .none j pos) (tC .non):=⟨yA⟩
theorem e_v (i:Nat) {x:Str}{pos:Pos}(hN:X.N[i]?=some x:=by kernel_rfl) (hv:X.env.scope.names.lookup x=some .local:=by kernel_rfl) (hd:'r'=false:=by kernel_rfl) (hcd:(x == ("__classdict__":Str))=false:=by kernel_rfl):QE X (.Name x pos) (lW i):=⟨pw' i hN hv hd hcd⟩
theorem e_c (i:Nat) {x:Str}{pos:Pos}(hN:X.N[i]?=some x:=by kernel_rfl) (hv:X.env.scope.names.lookup x=some .cell:=by kernel_rfl) (hd:'r'=false:=by kernel_rfl) (hcd:(x == ("__classdict__":Str))=false:=by kernel_rfl):QE X (.Name x pos) (lW i):=⟨pc' i hN hv hd hcd⟩
theorem e_n (i:Nat) {x:Str}{pos:Pos}(hN:X.N[i]?=some x:=by rfl) (hv:Vis X.env.scope x:=by first | exact Or.inl rfl | exact Or.inr (Or.inl rfl) | exact Or.inr (Or.inr rfl)) (hd:'r'=false:=by kernel_rfl) (hcd:(x == ("__classdict__":Str))=false:=by kernel_rfl):QE X (.Name x pos) (lW i):=⟨jQ hN hv hd hcd⟩
theorem zi {x:Str}{v:V}{u:Value}{pos:Pos}(hm:X.mg x=none) (hv:C8 x=some u) (r:RelV v u) (hg:X.env.kindOf x=some .globalImplicit:=by kernel_rfl) (hn:x≠"__name__":=by decide) (hd:'r'=false:=by kernel_rfl):QE X (.Name x pos) (tC v):=⟨pbl hm hv r hg hn hd⟩
theorem aB {op:Operator}{r:R2}{a b:Expr}{ta tb:TE}{pos:Pos}(ho:OpR X (EW op) r) (ha:QE X a ta) (hb:QE X b tb):QE X (.BinOp a op b pos) (tOp r ta tb):=⟨z9 ho ha.h hb.h⟩
theorem ip {op:UnaryOp}{r:V->Hp->VK->Prop}{a:Expr}{ta:TE}{pos:Pos}(ho:UnR X (unaryOp op) r) (ha:QE X a ta):QE X (.UnaryOp op a pos) (tUn r ta):=⟨z8 ho ha.h⟩
theorem ir {op:Gs}{r:R2}{a b:Expr}{ta tb:TE}{pos:Pos}(ho:OpR X (CW op) r) (ha:QE X a ta) (hb:QE X b tb) (hm:DF op b=false:=by first | exact tU _ | with_unfolding_all rfl):QE X (.Compare a [op] [b] pos) (tOp r ta tb):=⟨vI ho ha.h hb.h hm⟩
theorem aJ {op:Gs}{r:R2}{a b:Expr}{ta tb:TE}{pos:Pos}(ho:OpR X (CW op) r) (ha:QE X a ta) (hb:QE X b tb) (hm:DF op b=false:=by first | exact tU _ | with_unfolding_all rfl):QT X (.Compare a [op] [b] pos) (nq (tOp r ta tb)):=⟨vo ho ha.h hb.h hm⟩
theorem wJ {op op':Gs}{r r':R2}{a b c:Expr}{ta tb tc:TE}{pos:Pos}(ho:OpR X (CW op) r) (ho':OpR X (CW op') r') (ha:QE X a ta) (hb:QE X b tb) (hc:QE X c tc) (hm:lastMarks [op,op'] [b,c]=false:=by with_unfolding_all rfl) :
  QE X (.Compare a [op,op'] [b,c] pos) (jA r r' ta tb tc):=⟨tj ho ho' ha.h hb.h hc.h hm⟩
theorem vb {op op':Gs}{r r':R2}{a b c:Expr}{ta tb tc:TE}{pos:Pos}(ho:OpR X (CW op) r) (ho':OpR X (CW op') r') (ha:QE X a ta) (hb:QE X b tb) (hc:QE X c tc) (hm:lastMarks [op,op'] [b,c]=false:=by with_unfolding_all rfl) :
  QT X (.Compare a [op,op'] [b,c] pos) (nq (jA r r' ta tb tc)):=⟨sJ ho ho' ha.h hb.h hc.h hm⟩
theorem Ay {a:Expr}{ta:TE}{j pos pos'} (ha:QE X a ta):QE X (.Compare a [.Is] [.Constant .none j pos'] pos) (xU ta):=⟨yD (tD ha.h)⟩
theorem zy {a:Expr}{ta:TE}{j pos pos'} (ha:QE X a ta):QT X (.Compare a [.Is] [.Constant .none j pos'] pos) (tB (xU ta)):=⟨sI (tD ha.h)⟩
theorem rA {a:Expr}{ta:TE}{j pos pos'} (ha:QE X a ta):QT X (.Compare a [.IsNot] [.Constant .none j pos'] pos) (tB (wZ ta)):=⟨sI (vL ha.h)⟩
theorem iO {e:Expr}{t:TE}(h:QE X e t) (he:∀whole,isTrue e X.env whole=(do let v <- whole; standAt e.pos; Gd [v] (truthy v)):=by intro _; rfl):QT X e (tB t):=⟨yh h.h he⟩
theorem nn {a:Expr}{t:TT}{pos} (h:QT X a t):QT X (.UnaryOp .Not a pos) (zC t):=⟨yi h.h⟩
theorem t_w {e:Expr}{t:TT}(h:QW X e t):QT X e t:=⟨PW.pt h.h⟩
theorem eS {a:Expr}{t:TT}{pos} (h:QT X a t):QW X (.BoolOp .And [a] pos) t:=⟨vm h.h⟩
theorem fm {a:Expr}{t:TT}{pos} (h:QT X a t):QW X (.BoolOp .Or [a] pos) t:=⟨yf h.h⟩
theorem gJ {a b:Expr}{rest:List Expr}{t u:TT}{pos} (ha:QT X a t) (hb:QW X (.BoolOp .And (b :: rest) pos) u):QW X (.BoolOp .And (a :: b :: rest) pos) (zH t u):=⟨yg ha.h hb.h⟩
theorem gI {a b:Expr}{rest:List Expr}{t u:TT}{pos} (ha:QT X a t) (hb:QW X (.BoolOp .Or (b :: rest) pos) u):QW X (.BoolOp .Or (a :: b :: rest) pos) (tOr t u):=⟨z6 ha.h hb.h⟩
theorem uE {op} {a:Expr}{t:TE}{pos} (h:QE X a t):QE X (.BoolOp op [a] pos) t:=⟨yx h.h⟩
theorem uI {a b:Expr}{rest:List Expr}{ta tb:TE}{pos} (ha:QE X a ta) (hb:QE X (.BoolOp .And (b :: rest) pos) tb):QE X (.BoolOp .And (a :: b :: rest) pos) (w9 ta tb):=⟨yE ha.h hb.h⟩
theorem Ax {a:Expr}{ta:TE}{pos} (ha:QE X a ta):QE X (.UnaryOp .Not a pos) (wY ta):=⟨yz ha.h⟩
theorem AU {c a b:Expr}{t:TT}{ta tb:TE}{pos} (hc:QT X c t) (ha:QE X a ta) (hb:QE X b tb):QE X (.IfExp c a b pos) (tIf t ta tb):=⟨sW hc.h ha.h hb.h⟩
theorem ag:QA X [] fV:=⟨bO⟩
theorem aa {e:Expr}{es:List Expr}{te:TE}{t:TA}(ha:QE X e te) (hr:QA X es t) (hs:au e=true:=by rfl):QA X (e :: es) (bB te t):=⟨pa' ha.h hr.h hs⟩
theorem bh {es:List Expr}{t:TA}{pos} (h:QA X es t):QE X (.List es pos) (zD t):=⟨yB h.h⟩
theorem bJ {es:List Expr}{t:TA}{x1 pos} (h:QA X es t):QE X (.Tuple es x1 pos) (zA t):=⟨yu h.h⟩
theorem ar {r:R2}{a b:Expr}{ta tb:TE}{pos} (hr:IxR X r) (ha:QE X a ta) (hb:QE X b tb) (hs:pC b:=by exact fun _ _=>rfl):QE X (.Subscript a b pos) (tOp r ta tb):=⟨z_ hr ha.h hb.h hs⟩
theorem mt:QO X none ny:=⟨vB⟩
theorem bP {e:Expr}{t:TE}(h:QE X e t):QO X (some e) (wX t):=⟨vA h.h⟩
theorem lx {r:V->Option Int->Option Int->Hp->VK->Prop}{e:Expr}{lo hi:Option Expr}{te:TE}{tl th:TO}{p2 pos} (hr:SlR X r) (he:QE X e te) (hl:QO X lo tl) (hu:QO X hi th):QE X (.Subscript e (.Slice lo hi none p2) pos) (tSl r te tl th):=⟨sS hr he.h hl.h hu.h⟩
theorem ay {CX:CXT}{j k:Nat}{ps:List Str}{sp:Sp}{E:XK}{x:Str}{p pos:Pos}{e:Expr}{es:List Expr}{t:TA}(D:Def X.prog X.w X.K X.mg X.base CX x j ps sp) (hr:Room k X.A) (hx:fj CX X E) (ha:QA X (e :: es) t) (hj:j<=k:=by decide) (hg:X.env.kindOf x=some .globalImplicit:=by kernel_rfl)
  (hdb:'r'=false:=by kernel_rfl) (he:au e=true:=by rfl) (hpl:es.all au=true:=by rfl):QE X (.Call (.Name x p) (e :: es) [] pos) (nz sp [] E t):=⟨tm D hr hx ha.h hj hg hdb he hpl⟩
theorem xM {j k:Nat}{ps:List Str}{sp:Sp}{x:Str}{p pos:Pos}{e:Expr}{es:List Expr}{t:TA}(D:Def X.prog X.w X.K X.mg X.base (CX1 X.prog X.w) x j ps sp) (hr:Room k X.A) (ha:QA X.nox (e :: es) t) (hj:j<=k:=by decide) (hg:X.env.kindOf x=some .globalImplicit:=by kernel_rfl)
  (hdb:'r'=false:=by kernel_rfl) (he:au e=true:=by rfl) (hpl:es.all au=true:=by rfl):QX X (.Call (.Name x p) (e :: es) [] pos) (jB sp [] t):=⟨qe D hr ha.h hj hg hdb he hpl⟩
theorem e_b {id:String}{r:List V->Hp->VK->Prop}{x:Str}{p pos:Pos}{e:Expr}{es:List Expr}{t:TA}(hc:bz X (.builtin id) r) (hm:X.mg x=none) (hv:C8 x=some (.builtin id)) (ha:QA X (e :: es) t) (hg:X.env.kindOf x=some .globalImplicit:=by kernel_rfl) (hn:x≠"__name__":=by decide) (hdb:'r'=false:=by kernel_rfl)
  (he:au e=true:=by rfl) (hpl:es.all au=true:=by rfl):QE X (.Call (.Name x p) (e :: es) [] pos) (tCB r t):=⟨pb' hc hm hv ha.h hg hn hdb he hpl⟩
theorem e_t {T:String}{r:List V->Hp->VK->Prop}{x:Str}{p pos:Pos}{e:Expr}{es:List Expr}{t:TA}(hc:bz X (.type T) r) (hm:X.mg x=none) (hv:C8 x=some (.type T)) (ha:QA X (e :: es) t) (hg:X.env.kindOf x=some .globalImplicit:=by kernel_rfl) (hn:x≠"__name__":=by decide) (hdb:'r'=false:=by kernel_rfl)
  (he:au e=true:=by rfl) (hpl:es.all au=true:=by rfl):QE X (.Call (.Name x p) (e :: es) [] pos) (tCB r t):=⟨pt' hc hm hv ha.h hg hn hdb he hpl⟩
theorem aU {o e:Expr}{to te:TE}{apos cpos:Pos}(ho:QE X o to) (ha:QE X e te) (hs:au e=true:=by rfl) (hbase:Dl o "append" X.env (eval o X.env)=eval o X.env:=by rfl) (hline:(apos.endLine == cpos.line)=true:=by rfl) :
  QE X (.Call (.Attribute o "append" apos) [e] [] cpos) (tBM X.K "list" n9 to (bB te fV)):=⟨xl PySem.F.plainAttrs_list PySem.F.slot_list_append PySem.F.type_list_append ja ho.h (pa' ha.h bO hs) hbase (by rw [aq hs]; rfl) hline (aq hs)⟩
theorem AT {e:Expr}{f:Str}{pos:Pos}{ta:TE}(he:QE X e ta) (hb:Dl e f X.env (eval e X.env)=eval e X.env:=by rfl):QE X (.Attribute e f pos) (wW X.K ta f):=⟨vG he.h hb⟩
theorem mU {pos}:QE X (.Dict [] [] pos) rH:=⟨sZ⟩
theorem du {x:Str}{px pos:Pos}{elt iter:Expr}{sc:Scope}{wi:TI}{te:TE}(ys:List Str) (js:List Nat) (cl:List (Str×Addr)) (hclos:Es sc X.env=pure cl) (hcap:Caps X sc cl ys js) (hin:ClIn X.env cl)
  (hi:QI X.nox (.Name x px) iter wi) (he:∀s2 H2 C ex,QE (aR X sc (x :: ys) cl s2 H2 C ex) elt te) (sd:CSd X sc cl:=by exact ⟨by rfl,by rfl,by rfl,by rfl,by rfl⟩)
  (hx:(Gf sc X.env).names.lookup x=some .local:=by rfl)
  (hnd:(x :: ys).Nodup:=by decide +kernel) (hs:∀v,CV iter X.env v=pure v:=by intro _; rfl):QE X (.ListComp elt [⟨.Name x px,iter,[],0⟩] sc pos) (w8 wi js te) :=
 ⟨uF (xs:=[x]) (fun _ _ _ _ h=>CompedF.up (tc:=tTr) h) Lp.no Tst.no hclos sd hcap hin hi.h (fun _ _ _ _=>eA hnd rfl (.inl hx) (.inr hx)) (fun a b c d=>(he a b c d).h) hs⟩
theorem aV:QSs X [] w4:=⟨vq⟩
theorem ad {st:Stmt}{rest:List Stmt}{t u:TS}(h1:QS X st t) (h2:QSs X rest u):QSs X (st :: rest) (aI t u):=⟨sK h1.h h2.h⟩
theorem ai {st:Stmt}{t:TS}(h1:QS X st t):QSs X [st] t:=⟨vp h1.h⟩
theorem aA {i:Nat}{x:Str}{e:Expr}{te:TE}{pos pos':Pos}(hN:X.N.Nodup) (he:QE X e te) (hi:X.N[i]?=some x:=by kernel_rfl) (hx:X.env.scope.names.lookup x=some .local:=by kernel_rfl)
  (hs:Dt e (some (.Name x pos')) pos.line X.env=pure false:=by kernel_rfl):QS X (.Assign [.Name x pos'] e pos) (gP te (cu i)):=⟨vv (i:=i) hN he.h hi hx hs⟩
theorem f8 {i:Nat}{x:Str}{e:Expr}{te:TE}{pos pos':Pos}(hN:X.N.Nodup) (he:QE X e te) (hfn:X.fn x=true:=by rfl) (hi:X.N[i]?=some x:=by kernel_rfl) (hx:X.env.scope.names.lookup x=some .cell:=by kernel_rfl)
  (hs:Dt e (some (.Name x pos')) pos.line X.env=pure false:=by kernel_rfl):QS X (.Assign [.Name x pos'] e pos) (gP te (cu i)):=⟨vw (i:=i) hN hfn he.h hi hx hs⟩
theorem iW {tg e:Expr}{te:TE}{g:TG}{pos} (he:QE X e te) (hg:QG X tg g) (hs:swapsWithSole [tg] e pos.line X.env=pure false:=by rfl) (hw:swappedStores [tg] e X.env=pure none:=by rfl)
  (h1:(CM [tg] X.env).map (·.2)=[F1 tg X.env]:=by rfl):QS X (.Assign [tg] e pos) (gP te g):=⟨yn he.h hg.h hs hw h1⟩
theorem bK {c:Expr}{a b:List Stmt}{tc:TT}{t u:TS}{pos} (hc:QT X c tc) (ha:QSs X a t) (hb:QSs X b u):QS X (.If c a b pos) (zE tc t u):=⟨z7 hc.h ha.h hb.h⟩
theorem bf {tg iter:Expr}{body:List Stmt}{wi:TI}{g:TG}{tb:TS}{pos} (hp:PassesOwn (Bv X.prog X.w) X.A X.env X.xe) (hc:X.calm=true) (hi:QI X tg iter wi) (hg:QG X tg g) (hb:QSs X body tb)
  (hs:∀x,CV iter X.env x=pure x:=by intro _; rfl):QS X (.For tg iter body [] pos) (zF wi g tb):=⟨yk hp hc hi.h hg.h hb.h hs⟩
theorem aF {e:Expr}{t:TE}{pos} (h:QE X e t):QS X (.Return (some e) pos) (zB t):=⟨yj h.h⟩
theorem aW {e:Expr}{t:TE}{pos} (h:QE X e t) (hs:Dt e none pos.line X.env=pure false:=by rfl):QS X (.Expr e pos) (w5 t):=⟨vx h.h hs⟩
theorem fz {st:Stmt}{t:TS}(h:QS X st t):QS X st (zG t):=⟨ym h.h⟩
theorem x9 {o value:Expr}{f:Str}{pos pos':Pos}{ta tv:TE}(ha:QE X o ta) (hv:QE X value tv) (hs:Dt value (some (.Attribute o f pos')) pos.line X.env=pure false:=by rfl):QS X (.Assign [.Attribute o f pos'] value pos) (sX X.K ta tv f):=⟨vt ha.h hv.h hs⟩
theorem sA {o i value:Expr}{td ty tv:TE}{pos pos':Pos}(hu:X.A.units+1<cLine) (ho:QE X o td) (hi:QE X i ty) (hv:QE X value tv) (hs:Dt value (some (.Subscript o i pos')) pos.line X.env=pure false:=by rfl):QS X (.Assign [.Subscript o i pos'] value pos) (xh td ty tv):=⟨vy hu ho.h hi.h hv.h hs⟩
theorem aE {i:Nat}{x:Str}{pos:Pos}(hN:X.N.Nodup) (hi:X.N[i]?=some x:=by kernel_rfl) (hx:X.env.scope.names.lookup x=some .local:=by kernel_rfl):QG X (.Name x pos) (cu i):=⟨kK hN hi hx⟩
theorem cJ:QGs X [] Aw:=⟨vE⟩
theorem aN {e:Expr}{es:List Expr}{t:TG}{u:TGs}(h1:QG X e t) (h2:QGs X es u) (hs:(CM (e :: es) X.env).map (·.2)=F1 e X.env :: (CM es X.env).map (·.2):=by rfl):QGs X (e :: es) (xC t u):=⟨sP h1.h h2.h hs⟩
theorem fK {es:List Expr}{k:Nat}{t:TGs}{n:Nat}{pos} (hc:X.calm=true) (h:QGs X es t) (hn:(CM es X.env).length=n:=by rfl) (hst:(CM es X.env).findIdx? (·.1)=none:=by rfl):QG X (.Tuple es k pos) (zc X.K n t):=⟨yr hc h.h hn hst⟩
theorem aZ {tg l:Expr}{t:TE}(h:QE X l t):QI X tg l (xz X.K t):=⟨vC h.h⟩
theorem xu {tg l:Expr}{t:TE}(h:QE X l t):QI X tg l (At X.K t):=⟨yq h.h⟩
theorem dn {tg a:Expr}{t:TE}{p pos:Pos}(hm:X.mg "range"=none) (ha:QE X a t) (hg:X.env.kindOf "range"=some .globalImplicit:=by kernel_rfl) (hs:au a=true:=by rfl):QI X tg (.Call (.Name "range" p) [a] [] pos) (xy (bB t fV)):=⟨qd hg hm (pa' ha.h bO hs) ((aq hs).trans rfl)⟩
theorem uu {tg a b:Expr}{t u:TE}{p pos:Pos}(hm:X.mg "range"=none) (ha:QE X a t) (hb:QE X b u) (hg:X.env.kindOf "range"=some .globalImplicit:=by kernel_rfl) (hs:au a=true:=by rfl) (hs2:au b=true:=by rfl):QI X tg (.Call (.Name "range" p) [a,b] [] pos) (xx (bB t (bB u fV))) :=
 ⟨qc hg hm (pa' ha.h (pa' hb.h bO hs2) hs) (by rw [aq hs,aq hs2]; rfl) (by rw [aq hs2]; rfl)⟩
theorem j2 {elts:List Expr}{x1} {tpos p pos:Pos}{a:Expr}{t:TE}(hm:X.mg "enumerate"=none) (ha:QE X a t) (hg:X.env.kindOf "enumerate"=some .globalImplicit:=by kernel_rfl) (hs:au a=true:=by rfl):QI X (.Tuple elts x1 tpos) (.Call (.Name "enumerate" p) [a] [] pos) (xA X.K (bB t fV)) :=
 ⟨vD hg hm 'd' (pa' ha.h bO hs) ((aq hs).trans rfl)⟩
theorem zX {i j:Nat}{y n S':Str}{S:Addr}{bmS:List Value}{idS:String}{ce:Expr}{b0:Stmt}{suite:List Stmt}{py np apos hpos pos:Pos}{tx:TX}{ts:Addr->TS}
  (hN:X.N.Nodup) (hmS:X.mg S'=some (.ref S)) (cS:ExcC X.K S bmS idS) (hbS:bmS.contains (.type "BaseException")=true) (hx:QX X ce tx) (hs:∀a,QSs (X.caught a).nox (b0 :: suite) (ts a))
  (hi:X.N[i]?=some y:=by kernel_rfl) (hy:X.env.scope.names.lookup y=some .local:=by kernel_rfl) (hj:X.N[j]?=some n:=by kernel_rfl) (hn:X.env.scope.names.lookup n=some .local:=by kernel_rfl) (hfr:X.env.frame=some X.env.locals:=by rfl) (hst:X.stack=X.env :: X.outer:=by rfl) (hex:X.ex=[]:=by rfl)
  (hgS:X.env.kindOf S'=some .globalImplicit:=by kernel_rfl) (hsw:Dt ce (some (.Name y py)) apos.line X.env=pure false:=by rfl) (hdb:(S' == ("__debug__":Str))=false:=by kernel_rfl) :
  QS X (.Try [.Assign [.Name y py] ce apos] [.ExceptHandler (some (.Name S' np)) (some n) (b0 :: suite) hpos] [] [] pos) (rB X.K i j S tx ts) :=
 ⟨sM (i:=i) (j:=j) hN hi (.inl hy) hj hn hfr hst hex hgS hmS cS hbS hx.h (fun a=>(hs a).h) (.inr hy) hsw hdb⟩
end
section
variable {P:Program}{w:BG}{K:Ba}{mg:Str->Option Value}{base:Heap}{N:List Str}{qual:Str}{scope:Scope}{f:Addr}{cd:Value}{A:BC}{outer:List Env}{s₀:A9}{H₀:Hp}{E:XK}
theorem sx {x:Str}{C fI:Addr}{fd:BX}{ps:List Str}{sp:Sp}{k j:Nat}{e:Expr}{es:List Expr}{t:TA}{np cpos pos:Pos}(hm:mg x=some (.ref C)) (R:ki K C fI)
  (G:aS P w K mg base CX0 k fI fd ps sp) (hr:Room j (bT (CX1 P w) P w K mg base N qual scope f cd A outer s₀ H₀ E).A) (hb:Binds K fd ps [])
  (ha:QA (bT (CX1 P w) P w K mg base N qual scope f cd A outer s₀ H₀ E) (e :: es) t) (hj:k+1<=j:=by decide) (hg:(bT (CX1 P w) P w K mg base N qual scope f cd A outer s₀ H₀ E).env.kindOf x=some .globalImplicit:=by kernel_rfl) (hdb:'r'=false:=by kernel_rfl) (he:au e=true:=by rfl) (hpl:es.all au=true:=by rfl) :
  QS (bT (CX1 P w) P w K mg base N qual scope f cd A outer s₀ H₀ E) (.Raise (some (.Call (.Name x np) (e :: es) [] cpos)) none pos) (nr C sp E t):=⟨p_ hg hm R G (hr.mono hj) hb ha.h hdb (aq he) (bc hpl)⟩
end
theorem fS {prog:Program}{w:BG}{A:BC}{E:Value->A9->Prop}{s:A9}{l:Addr}{items:Array Value}{Q:List Value->A9->Prop}(hh:A.handled=none) (hl:s.heap.IsList l items)
  (q:∀h',Gh 'n' s.heap h'->Q items.toList { s with heap:=h' }):Bl (Bv prog w) A (unpackItems (.ref l) items.size none) Q E s:=by
 unfold unpackItems notIterableAtAll
 have ty:s.TypeIs (.ref l) "list":=by
  obtain ⟨o,e,c,d⟩:=hl
  exact ⟨o,e,c⟩
 refine A3 (A3 (wpAny_specialOf ty PySem.F.slot_list_iter.lookup (Bc ?_)))
 refine A3 (B0 (EZ hl ?_))
 have hlt:l<'n':=by
  obtain ⟨o,e,c,d⟩:=hl
  exact Bi e
 have ne:l≠'n':=Bw hlt
 have hl1:(s.heap.push { cls:=.type "list_iterator",data:=.fields #[.ref l,.int 0 0] }).IsList l items:=by
  obtain ⟨o,e,c,d⟩:=hl
  exact ⟨o,A6 _ e,c,d⟩
 refine A3 (B0 (PySem.W.kun_draw ne items.size 0 _ _ ⟨_,Bj _ rfl,rfl,rfl⟩ hl1 'b' fun h' it' sb=>?_))
 have hl2:h'.IsList l items:=by
  obtain ⟨o,e,c,d⟩:=hl1
  exact ⟨o,(sb.2 l ne).trans e,c,d⟩
 have e:List.take items.size (List.drop 0 items.toList)=items.toList:=by
  rw [List.drop_zero]
  exact C9 'e'
 rw [e]
 have hn:¬ items.toList.length<items.size:=by simp
 show Bl _ _ (if items.toList.length<items.size then _ else _) _ _ _
 rw [if_neg hn]
 refine A3 (B0 (wpAny_pyNext_list_end hh it' hl2 'e' fun h2 eb=>Bc (q h2 fun b o hb eo=>eb b o hb ?_)))
 rw [sb.2 b hb]
 exact A6 _ eo
theorem fP {prog:Program}{w:BG}{A:BC}{E:Value->A9->Prop}{s:A9}{env:Env}{elts:List Expr}{x1:Nat}{pos:Pos}{l:Addr}{items:Array Value}{Q:Unit->A9->Prop}(hh:A.handled=none) (hl:s.heap.IsList l items)
  (hn:(CM elts env).length=items.size) (hst:List.findIdx? (fun x=>x.fst) (CM elts env)=none)
  (q:∀h',Gh 'n' s.heap h'->Bl (Bv prog w) A (assignInOrder ((CM elts env).map (·.2)) items.toList) Q E { s with heap:=h' }):Bl (Bv prog w) A (F1 (.Tuple elts x1 pos) env (.ref l)) Q E s:=by
 rw [PyProof.Rows.assign_Tuple]
 refine A3 (Dk ?_)
 unfold unpack
 rw [hst,hn]
 exact A3 (B0 (fS hh hl fun h' hx=>q h' hx))
section
variable {X:Cx}{pos:Pos}
def xB (K:Ba) (n:Nat) (t:TGs):TG:=fun v σ H Q=>∃a xs,v=.ref a/\SqL K H a xs/\xs.length=n/\t xs σ H Q
theorem vF {es:List Expr}{k:Nat}{t:TGs}{n:Nat}(hc:X.calm=true) (h:PGs X es t)
  (hn:(CM es X.env).length=n:=by rfl) (hst:(CM es X.env).findIdx? (·.1)=none:=by rfl):PG X (.Tuple es k pos) (xB X.K n t):=by
 intro pins s σ H v u Q I r hw
 obtain ⟨a,xs,e1,hq,hl,hw⟩:=hw
 subst e1
 cases r
 obtain ⟨its,rv,p,hz⟩:=I.list hq
 refine fP (I.ok.hd hc) p.isList (by simp [hn,<- hl,rv.length]) hst fun h' hx=>?_
 have I1:Inv X pins σ H { s with heap:=h' }:=I.kept (t':=s.toks) fun b o e=>hx b o (Bw (Bi e)) e
 exact h pins _ σ H xs _ Q I1 (by simpa using rv) hw
theorem za {es:List Expr}{k:Nat}{t:TGs}{n:Nat}{pos} (hc:X.calm=true) (h:QGs X es t) (hn:(CM es X.env).length=n:=by rfl) (hst:(CM es X.env).findIdx? (·.1)=none:=by rfl):QG X (.Tuple es k pos) (xB X.K n t):=⟨vF hc h.h hn hst⟩
end
section
variable {X:Cx}
end
def eI (i:Int) (n:Nat) (k:Int):List V:=(Bh n).map fun (m:Nat)=>V.int (i+(m:Int)*k)
theorem sD {i k:Int}{n:Nat}:(eI i n k).length=n:=by unfold eI; rw [A2,BL]
theorem km {i k:Int}:∀(n:Nat) (us:List Value) (o:Nat),us.length=n->(∀(j:Nat) v,us[j]?=some v->∃t,v=.int (i+((o+j:Nat):Int)*k) t)->Vals ((DU o n).map fun (m:Nat)=>V.int (i+(m:Int)*k)) us
 | 0,[],_,_,_=>.nil
 | n+1,u :: us,o,hl,h=>by
  rw [Ff,BD]
  refine .cons ?_ (km n us (o+1) (by simpa using hl) fun j v e=>?_)
  ·obtain ⟨t,rfl⟩:=h 0 u rfl
   exact ⟨t,rfl⟩
  ·obtain ⟨t,rfl⟩:=h (j+1) v (by simpa using e)
   exact ⟨t,by rw [show o+1+j=o+(j+1) by omega]⟩
section
variable {X:Cx}
theorem h_ {pins:'m'}{σ:St}{H:Hp}{s:A9}{r:Addr}{a b c:Int}{t u v:Tok}{n:Nat}{Q:VK}{E:Value->A9->Prop}(hc:X.calm=true) (I:Inv X pins σ H s) (hr:IsRange s.heap r a b c t u v)
  (hsmall:Ey a b c=true) (hn:CY a b c=n) (hlen:n<=2 ^ 24) (q:∀l,H l=none->Q (.ref l) (upd H l (.lst (eI a n c)))) :
  Bl (Bv X.prog X.w) X.A (call (.type "list") [.ref r]) (EP X pins σ Q) E s:=by
 refine call_list_range (I.ok.hd hc) hr hsmall hn hlen fun h' tk acc' c' hk hS' hacc=>?_
 have rv:Vals (eI a n c) acc'.toList:=by
  unfold eI
  rw [Ei]
  refine km n acc'.toList 0 (by rw [B8]; exact hacc.1) fun j v e=>?_
  obtain ⟨t,rfl⟩:=hacc.2 j v (by simpa using e)
  exact ⟨t,by rw [Nat.zero_add]⟩
 have zl:=Bo
 refine ⟨.ref 'n',_,I.laid (t':=tk) hk (Bb _) (show ObjOk X.prog X.w _ h' _ (.lst (eI a n c)) from ⟨by rw [sD]; omega,acc'.toList,c',rv,by simpa using hS'⟩),rfl,q _ (I.hok.fresh (Bb _))⟩
def kj (i:Int):Prop:=-(2 ^ 62)<=i/\i<2 ^ 62
def rE (ta:TA):TE:=fun σ H Q=>ta σ H fun vs H1=>∃i j k:Int,vs=[.int i,.int j,.int k]/\kj i/\kj j/\∃n:Nat,((k=1/\n=(j-i).toNat)\/(k=-1/\n=(i-j).toNat))/\n<=2 ^ 24/\∀l,H1 l=none->Q (.ref l) (upd H1 l (.lst (eI i n k)))
theorem sU {a b c:Expr}{ta:TA}{p p' pos pos':Pos}(hc:X.calm=true) (hgl:X.env.kindOf "list"=some .globalImplicit) (hml:X.mg "list"=none) (hg:X.env.kindOf "range"=some .globalImplicit) (hm:X.mg "range"=none) (ha:PA X [a,b,c] ta)
  (h1:au a=true) (h2:au b=true) (h3:au c=true):PE X (.Call (.Name "list" p) [.Call (.Name "range" p') [a,b,c] [] pos'] [] pos) (rE ta):=by
 intro pins s σ H Q I h
 refine GG (bp (u:=.type "list") I hgl hml 'd' (BU ?_ rfl rfl))
 show Bl _ _ (GE ((false,eval (.Call (.Name "range" p') [a,b,c] [] pos') X.env) :: DM pos (B2 [] X.env))) _ _ s
 refine CD (GG (bp I hg hm F3 (BU (thn (ha pos' pins s σ H _ I h) fun us s1 ⟨vs,H1,I1,r1,q1⟩=>?_) (aq h1) (bc (by simp [h2,h3])))))
 obtain ⟨i,j,k,e,si,sj,n,hk,hn,q⟩:=q1
 subst e
 cases r1 with
 | cons r rr =>
  cases rr with
  | cons r' rr =>
   cases rr with
   | cons r'' rr =>
    cases rr
    obtain ⟨t,rfl⟩:=r
    obtain ⟨t',rfl⟩:=r'
    obtain ⟨t'',rfl⟩:=r''
    refine call_range_3 'b' ?_ (Or.inl (EO 'b'))
    refine Dc ?_
    have I2:Inv X pins σ H1 { s1 with heap:=s1.heap.push { cls:=.type "range",data:=.fields #[.int i t,.int j t',.int k t''] },toks:=s1.toks }:=I1.kept fun b o e=>A6 _ e
    refine h_ hc I2 (GF ..) ?_ ?_ hn q
    ·rcases hk with ⟨rfl,_⟩ | ⟨rfl,_⟩
     ·exact small_one si.1 si.2 sj.1 sj.2
     ·exact PySem.W.small_down si.1 si.2 sj.1 sj.2
    ·rcases hk with ⟨rfl,rfl⟩ | ⟨rfl,rfl⟩
     ·exact E8 i j
     ·exact PySem.W.rangeSize_downNat i j
theorem wE {a b c:Expr}{t1 t2 t3:TE}{p p' pos pos':Pos}(hc:X.calm=true) (hml:X.mg "list"=none) (hm:X.mg "range"=none) (h1:QE X a t1) (h2:QE X b t2) (h3:QE X c t3) (hgl:X.env.kindOf "list"=some .globalImplicit:=by kernel_rfl) (hg:X.env.kindOf "range"=some .globalImplicit:=by kernel_rfl)
  (s1:au a=true:=by rfl) (s2:au b=true:=by rfl) (s3:au c=true:=by rfl):QE X (.Call (.Name "list" p) [.Call (.Name "range" p') [a,b,c] [] pos'] [] pos) (rE (bB t1 (bB t2 (bB t3 fV)))):=⟨sU hc hgl hml hg hm (pa' h1.h (pa' h2.h (pa' h3.h bO s3) s2) s1) s1 s2 s3⟩
theorem oM {o i:Expr}{to ti:TE}{pos:Pos}(ho:QE X o to) (hi:QE X i ti)
  (ha:∀v,F1 (.Subscript o i pos) X.env v=(do
   let ov <- Gd [v] (eval o X.env)
   let iv <- Gd [v,ov] (eval i X.env)
   standAt pos
   Gd [v,ov,iv] (setItem ov iv v)
   release [v,ov,iv] []):=by intro _; rfl):QG X (.Subscript o i pos) (Av to ti xj):=⟨yt ho.h hi.h sr ha⟩
theorem jZ {n j:Nat}(h:j<n):ixN n (j:Int)=some j:=by
 unfold ixN
 simp [h]
theorem uo {n:Nat}(h:0<n):ixN n (-1)=some (n-1):=by
 unfold ixN
 simp
 omega
end
section
variable {X:Cx}{K:Ba}
theorem bD (hK:X.K=K):IxR X (z4 K):=by subst hK; exact aw
theorem bu (hK:X.K=K):IxR X (zZ K):=by subst hK; exact az
theorem zb {es:List Expr}{k:Nat}{t:TGs}{n:Nat}{pos} (hK:X.K=K) (hc:X.calm=true) (h:QGs X es t) (hn:(CM es X.env).length=n:=by rfl) (hst:(CM es X.env).findIdx? (·.1)=none:=by rfl):QG X (.Tuple es k pos) (zc K n t):=by
 subst hK
 exact fK hc h hn hst
end
theorem eT {X:Cx}{b:List Stmt}{t:TS}{D:Ends}{σ:St}{H:Hp}(h:QSs X b t) (r:t D σ H):∃t,PSs X b t/\t D σ H:=⟨t,h.h,r⟩
variable {X:Cx}{b:List Stmt}{D:Ends}{σ:St}{H:Hp}
theorem wU {t1 t2:TS}(h:QSs X b (aI t1 t2)) (r:let E:Ends:=D; let r1:TS:=t2; aI t1 r1 E σ H):∃t,PSs X b t/\t D σ H:=⟨_,h.h,r⟩
theorem cL {t1 t2 t3:TS}(h:QSs X b (aI t1 (aI t2 t3))) (r:let E:Ends:=D; let r2:TS:=t3; let r1:TS:=aI t2 r2; aI t1 r1 E σ H):∃t,PSs X b t/\t D σ H:=⟨_,h.h,r⟩
theorem iM {t1 t2 t3 t4:TS}(h:QSs X b (aI t1 (aI t2 (aI t3 t4)))) (r:let E:Ends:=D; let r3:TS:=t4; let r2:TS:=aI t3 r3; let r1:TS:=aI t2 r2; aI t1 r1 E σ H):∃t,PSs X b t/\t D σ H:=⟨_,h.h,r⟩
theorem zw {t1 t2 t3 t4 t5:TS}(h:QSs X b (aI t1 (aI t2 (aI t3 (aI t4 t5))))) (r:let E:Ends:=D; let r4:TS:=t5; let r3:TS:=aI t4 r4; let r2:TS:=aI t3 r3; let r1:TS:=aI t2 r2; aI t1 r1 E σ H):∃t,PSs X b t/\t D σ H:=⟨_,h.h,r⟩
theorem wT {t1 t2 t3 t4 t5 t6:TS}(h:QSs X b (aI t1 (aI t2 (aI t3 (aI t4 (aI t5 t6)))))) (r:let E:Ends:=D; let r5:TS:=t6; let r4:TS:=aI t5 r5; let r3:TS:=aI t4 r4; let r2:TS:=aI t3 r3; let r1:TS:=aI t2 r2; aI t1 r1 E σ H):∃t,PSs X b t/\t D σ H:=⟨_,h.h,r⟩
theorem zv {t1 t2 t3 t4 t5 t6 t7 t8:TS}(h:QSs X b (aI t1 (aI t2 (aI t3 (aI t4 (aI t5 (aI t6 (aI t7 t8)))))))) (r:let E:Ends:=D; let r7:TS:=t8; let r6:TS:=aI t7 r7; let r5:TS:=aI t6 r6; let r4:TS:=aI t5 r5; let r3:TS:=aI t4 r4; let r2:TS:=aI t3 r3; let r1:TS:=aI t2 r2; aI t1 r1 E σ H):∃t,PSs X b t/\t D σ H:=⟨_,h.h,r⟩
theorem xN {t1 t2 t3 t4 t5 t6 t7 t8 t9 t10 t11 t12 t13:TS}(h:QSs X b (aI t1 (aI t2 (aI t3 (aI t4 (aI t5 (aI t6 (aI t7 (aI t8 (aI t9 (aI t10 (aI t11 (aI t12 t13))))))))))))) (r:let E:Ends:=D; let r12:TS:=t13; let r11:TS:=aI t12 r12; let r10:TS:=aI t11 r11; let r9:TS:=aI t10 r10; let r8:TS:=aI t9 r9; let r7:TS:=aI t8 r8; let r6:TS:=aI t7 r7; let r5:TS:=aI t6 r6; let r4:TS:=aI t5 r5; let r3:TS:=aI t4 r4; let r2:TS:=aI t3 r3; let r1:TS:=aI t2 r2; aI t1 r1 E σ H):∃t,PSs X b t/\t D σ H:=⟨_,h.h,r⟩
end L2
namespace KS
open PySem
structure Clip where
 reel:Str
 a:Int
 b:Int
 f:Int
def Clip.way (c:Clip):Int:=if c.b<c.a then -1 else 1
def Clip.cnt (c:Clip):Nat:=(c.b-c.a).natAbs+1
def Clip.nums (c:Clip):List Int:=(Bh c.cnt).map fun (m:Nat)=>c.a+(m:Int)*c.way
theorem Clip.nums_len (c:Clip):c.nums.length=c.cnt:=by
 unfold Clip.nums
 rw [A2,BL]
structure Mo where
 reel:Str
 n:Int
 f:Int
theorem Clip.nums_eq (c:Clip):c.nums=c.a :: ((Bh (c.cnt-1)).map fun (m:Nat)=>c.a+((m+1:Nat):Int)*c.way):=by
 unfold Clip.nums
 have e:c.cnt=c.cnt-1+1:=by unfold Clip.cnt; omega
 rw [e,List.range_succ_eq_map,BD,BV]
 simp
def Clip.ms (c:Clip):List Mo:=match c.nums with
 | []=>[]
 | x :: r=>⟨c.reel,x,c.f⟩ :: r.map fun n=>⟨c.reel,n,0⟩
def moments (cs:List Clip):List Mo:=cs.flatMap Clip.ms
def j3 (s:Clip) (n:Int):Prop:=if s.a=s.b then (n-s.b).natAbs=1 else n=s.b+s.way
instance (s:Clip) (n:Int):Decidable (j3 s n):=by unfold j3; exact inferInstance
def can (s:Clip) (m:Mo):Prop:=s.reel=m.reel/\j3 s m.n
instance (s:Clip) (m:Mo):Decidable (can s m):=by unfold can; exact inferInstance
def bb:List Clip->Mo->List Clip
 | [],m=>[⟨m.reel,m.n,m.n,m.f⟩]
 | s :: r,m=>if m.f<=0/\can s m then ⟨s.reel,s.a,m.n,s.f⟩ :: r else ⟨m.reel,m.n,m.n,m.f⟩ :: s :: r
theorem bo (s:Clip) (r:List Clip) (m:Mo):bb (s :: r) m=if m.f<=0/\can s m then ⟨s.reel,s.a,m.n,s.f⟩ :: r else ⟨m.reel,m.n,m.n,m.f⟩ :: s :: r:=rfl
def bW (ms:List Mo):List Clip:=ms.foldl bb []
def strips (cs:List Clip):List Clip:=(bW (moments cs)).reverse
theorem wM {s:Clip}(h:s.a=s.b):s.cnt=1:=by unfold Clip.cnt; omega
theorem d7 (s:Clip):s.way=1\/s.way=-1:=by unfold Clip.way; split <;> simp
theorem tT {s:Clip}{n:Int}(h:j3 s n):(⟨s.reel,s.a,n,s.f⟩:Clip).nums=s.nums++[n]:=by
 unfold j3 at h
 have key:(⟨s.reel,s.a,n,s.f⟩:Clip).cnt=s.cnt+1/\((⟨s.reel,s.a,n,s.f⟩:Clip).way=s.way\/s.cnt=1)/\s.a+(s.cnt:Int)*(⟨s.reel,s.a,n,s.f⟩:Clip).way=n:=by
  unfold Clip.cnt Clip.way at *
  simp only at *
  split at h
  ·refine ⟨by omega,by omega,?_⟩
   split <;> omega
  ·split at h <;> (refine ⟨by omega,.inl (by split <;> omega),?_⟩; split <;> omega)
 obtain ⟨k1,k2,k3⟩:=key
 unfold Clip.nums
 rw [k1,Dx,Bf,BD,FP]
 have k3':(⟨s.reel,s.a,n,s.f⟩:Clip).a+(s.cnt:Int)*(⟨s.reel,s.a,n,s.f⟩:Clip).way=n:=k3
 rw [k3']
 congr 1
 rcases k2 with e | e
 ·rw [e]
 ·rw [e]
  simp
theorem yT {s:Clip}{m:Mo}(h:can s m) (hf:m.f=0):(⟨s.reel,s.a,m.n,s.f⟩:Clip).ms=s.ms++[m]:=by
 have e:=tT h.2
 unfold Clip.ms
 rw [e]
 cases hn:s.nums with
 | nil=>rw [Clip.nums_eq] at hn; cases hn
 | cons x r =>
  show _ :: Gi _ (r++[m.n])=(_ :: Gi _ r)++[m]
  rw [Bf,F5]
  have:m=⟨s.reel,m.n,0⟩:=by
   obtain ⟨mr,mn,mf⟩:=m
   have hf:mf=0:=hf
   have hr:s.reel=mr:=h.1
   rw [hf,hr]
  exact congrArg (fun y=>(⟨s.reel,x,s.f⟩:Mo) :: (Gi (fun n=>(⟨s.reel,n,0⟩:Mo)) r++[y])) this.symm
theorem tX (m:Mo):(⟨m.reel,m.n,m.n,m.f⟩:Clip).ms=[m]:=by
 have e:(⟨m.reel,m.n,m.n,m.f⟩:Clip).nums=[m.n]:=by
  rw [Clip.nums_eq,wM rfl]
  rfl
 unfold Clip.ms
 rw [e]
 rfl
theorem aX (a b:List Clip):moments (a++b)=moments a++moments b:=by unfold moments; rw [CQ]
theorem pS {r:List Clip}{m:Mo}(hf:0<=m.f):moments (bb r m).reverse=moments r.reverse++[m]:=by
 cases r with
 | nil =>
  show moments [⟨m.reel,m.n,m.n,m.f⟩]=[m]
  unfold moments
  rw [Ck,EF,tX,BH]
 | cons s r =>
  rw [bo]
  split
  ·rename_i h
   rw [Do,Do,aX,aX,Cj]
   congr 1
   unfold moments
   rw [Ck,Ck,EF,BH,BH]
   exact yT h.2 'b'
  ·rw [Do,aX]
   congr 1
   unfold moments
   rw [Ck,EF,tX,BH]
theorem iS:∀(ms:List Mo) (r:List Clip),(∀m∈ms,0<=m.f)->moments (ms.foldl bb r).reverse=moments r.reverse++ms
 | [],r,_=>by rw [BH]; rfl
 | m :: ms,r,h=>by
  rw [Gr,iS ms _ fun x hx=>h x (Br _ hx),pS (h m (Bq ..)),Cj]
  rfl
theorem AR {c:Clip}(h:0<=c.f):∀m∈c.ms,0<=m.f:=by
 intro m hm
 unfold Clip.ms at hm
 cases hn:c.nums with
 | nil=>rw [hn] at hm; cases hm
 | cons x r =>
  rw [hn] at hm
  rcases Bp.mp hm with rfl | hm
  ·exact h
  ·obtain ⟨y,_,rfl⟩:=Bz.mp hm
   exact Ci 0
theorem qo {cs:List Clip}(h:∀c∈cs,0<=c.f):∀m∈moments cs,0<=m.f:=by
 intro m hm
 unfold moments at hm
 obtain ⟨c,hc,hm⟩:=Fg.mp hm
 exact AR (h c hc) m hm
theorem gq {cs:List Clip}(h:∀c∈cs,0<=c.f):moments (strips cs)=moments cs:=by
 unfold strips bW
 rw [iS _ _ (qo h)]
 rfl
structure MOk (m:Mo):Prop where
 rl:m.reel.length<=100
 rf:B5 m.reel=true
 n0:0<=m.n
 n1:m.n<=1000000
 f0:0<=m.f
 f1:m.f<=1000000
structure SOk (c:Clip):Prop where
 rl:c.reel.length<=100
 rf:B5 c.reel=true
 a0:0<=c.a
 a1:c.a<=1000000
 b0:0<=c.b
 b1:c.b<=1000000
 f0:0<=c.f
 f1:c.f<=1000000
theorem nO {m:Mo}(h:MOk m):SOk ⟨m.reel,m.n,m.n,m.f⟩:=⟨h.rl,h.rf,h.n0,h.n1,h.n0,h.n1,h.f0,h.f1⟩
theorem r_ {r:List Clip}{m:Mo}(h:∀s∈r,SOk s) (hm:MOk m):∀s∈bb r m,SOk s:=by
 cases r with
 | nil =>
  intro s hs
  rw [Bu.mp hs]
  exact nO hm
 | cons t r =>
  intro s hs
  rw [bo] at hs
  split at hs
  ·rcases Bp.mp hs with rfl | hs
   ·obtain ⟨h1,h2,h3,h4,h5,h6,h7,h8⟩:=h t (Bq ..)
    exact ⟨h1,h2,h3,h4,hm.n0,hm.n1,h7,h8⟩
   ·exact h s (Br _ hs)
  ·rcases Bp.mp hs with rfl | hs
   ·exact nO hm
   ·exact h s hs
theorem gQ:∀(ms:List Mo) (r:List Clip),(∀s∈r,SOk s)->(∀m∈ms,MOk m)->∀s∈ms.foldl bb r,SOk s
 | [],r,h,_=>h
 | m :: ms,r,h,hm=>gQ ms _ (r_ h (hm m (Bq ..))) fun x hx=>hm x (Br _ hx)
theorem ud (r:List Clip) (m:Mo):(bb r m).length<=r.length+1:=by
 cases r with
 | nil=>exact Bb _
 | cons t r =>
  rw [bo]
  split
  ·exact Dd _
  ·exact Bb _
theorem dU:∀(ms:List Mo) (r:List Clip),(ms.foldl bb r).length<=r.length+ms.length
 | [],r=>Bb _
 | m :: ms,r=>by
  have h1:=dU ms (bb r m)
  have h2:=ud r m
  rw [Gr,BK]
  omega
theorem cq (c:Clip):c.ms.length=c.cnt:=by
 have h:=c.nums_len
 unfold Clip.ms
 cases hn:c.nums with
 | nil=>rw [Clip.nums_eq] at hn; cases hn
 | cons x r =>
  rw [hn] at h
  rw [<- h]
  simp
theorem cz {m:Nat}:∀(cs:List Clip),(∀c∈cs,c.cnt<=m)->(moments cs).length<=m*cs.length
 | [],_=>B6 _
 | c :: cs,h=>by
  have h1:=cz cs fun x hx=>h x (Br _ hx)
  have h2:=h c (Bq ..)
  unfold moments at h1 ⊢
  rw [Ck,Bd,cq,BK,Nat.mul_succ]
  omega
theorem bX (c:Clip) (cs:List Clip):moments (c :: cs)=c.ms++moments cs:=by unfold moments; rw [Ck]
theorem bn (c:Clip):moments [c]=c.ms:=by rw [bX]; exact BH _
theorem v8 {c:Clip}(h:c.f=0):c.ms=c.nums.map fun n=>⟨c.reel,n,0⟩:=by
 unfold Clip.ms
 cases hn:c.nums with
 | nil=>rfl
 | cons x r=>rw [h]; rfl
theorem cy (c:Clip):c.ms=⟨c.reel,c.a,c.f⟩ :: (c.nums.drop 1).map fun n=>⟨c.reel,n,0⟩:=by
 unfold Clip.ms
 rw [Clip.nums_eq]
 rfl
theorem tS {c:Clip}{n:Int}(h:n∈c.nums) (ha:0<=c.a/\c.a<=1000000) (hb:0<=c.b/\c.b<=1000000):0<=n/\n<=1000000:=by
 unfold Clip.nums at h
 obtain ⟨k,hk,rfl⟩:=Bz.mp h
 have hk:=BW.mp hk
 unfold Clip.cnt at hk
 unfold Clip.way
 split <;> omega
theorem pQ {r:List Clip}{m:Mo}(h:0<m.f):bb r m=⟨m.reel,m.n,m.n,m.f⟩ :: r:=by
 cases r with
 | nil=>rfl
 | cons s r=>rw [bo,if_neg 'b']
theorem ql (c:Clip):c.nums[0]?=some c.a:=by rw [Clip.nums_eq]; rfl
theorem dS {c:Clip}{k:Nat}(h:k<c.cnt):c.nums[k]?=some (c.a+(k:Int)*c.way):=by
 unfold Clip.nums
 rw [A5,CS h]
 rfl
theorem tY {c:Clip}{k:Nat}{n:Int}(h:c.nums[k]?=some n):c.ms[k]?=some ⟨c.reel,n,c.f*(if k=0 then 1 else 0)⟩:=by
 rw [cy]
 cases k with
 | zero =>
  rw [ql] at h
  cases h
  simp
 | succ k =>
  rw [Cu,A5,List.getElem?_drop,Nat.add_comm,h]
  simp
def noC:Clip:=⟨Df "",0,0,0⟩
def clA (cs:List Clip) (k:Nat):Clip:=cs.getD k noC
theorem bA {cs:List Clip}{k:Nat}{c:Clip}(h:cs[k]?=some c):clA cs k=c:=by
 unfold clA
 rw [A7,h]
 rfl
def eK (cs:List Clip) (k:Nat):Int:=(clA cs k).cnt-(clA cs k).f-(clA cs (k+1)).f
def bM (cs:List Clip) (ld:Int) (k:Nat):Prop:=1<=k/\k+1<cs.length/\eK cs k<ld
def FirstS (cs:List Clip) (ld:Int) (k:Nat):Prop:=bM cs ld k/\∀j,j<k->¬ bM cs ld j
theorem FirstS.uniq {cs:List Clip}{ld:Int}{j k:Nat}(a:FirstS cs ld j) (b:FirstS cs ld k):j=k:=by
 rcases Nat.lt_trichotomy j k with h | h | h
 ·exact absurd a.1 (b.2 j h)
 ·exact h
 ·exact absurd b.1 (a.2 k h)
def aH (cs:List Clip):Nat->Int
 | 0=>0
 | k+1=>aH cs k-(clA cs k).f+(clA cs k).cnt
def bgA (cs:List Clip) (k:Nat):Int:=aH cs k-(clA cs k).f
theorem lw (cs ds:List Clip):∀k,k<=cs.length->aH (cs++ds) k=aH cs k
 | 0,_=>rfl
 | k+1,h=>by
  have e:clA (cs++ds) k=clA cs k:=by
   unfold clA
   rw [A7,A7,Bk 'b']
  show aH (cs++ds) k-_+_=_
  rw [lw cs ds k 'b',e]
  rfl
theorem lu:∀(ds cs:List Clip),aH (cs++ds) (cs++ds).length=aH cs cs.length+(ds.map fun c=>(c.cnt:Int)-c.f).sum
 | [],cs=>by simp
 | d :: ds,cs=>by
  have h:=lu ds (cs++[d])
  rw [Cj,List.singleton_append] at h
  have e:aH (cs++[d]) (cs++[d]).length=aH cs cs.length-d.f+d.cnt:=by
   rw [Bd,BZ]
   show aH (cs++[d]) cs.length-(clA (cs++[d]) cs.length).f+(clA (cs++[d]) cs.length).cnt=_
   rw [lw cs [d] _ (Bb _),bA (c:=d) (by rw [Bm (Bb _),Dp]; rfl)]
  rw [h,e,BD,List.sum_cons]
  omega
theorem ue (cs:List Clip):(cs.map fun c=>(c.cnt:Int)-c.f).sum=aH cs cs.length:=by
 have h:=lu cs []
 rw [List.nil_append] at h
 rw [h]
 show _=0+_
 omega
structure Th where
 lead:Bool
 n:Int
def ldP (m:Int):List Th:=if 0<m then [⟨true,m⟩] else []
def cg (cs:List Clip) (fi:Nat):Nat->Int
 | 0=>0
 | i+1=>aH cs (fi+2*i+1)
def bq (cs:List Clip) (fi:Nat):Nat->List Th
 | 0=>[]
 | i+1=>bq cs fi i++ldP (bgA cs (fi+2*i)-cg cs fi i)++[⟨false,((fi+2*i:Nat):Int)⟩]
def aL (cs:List Clip) (fi:Nat):Nat:=(cs.length+1-fi) / 2
def bi (cs:List Clip) (fi:Nat):List Th:=bq cs fi (aL cs fi)++ldP (aH cs cs.length-cg cs fi (aL cs fi))
theorem jW (m:Int):(ldP m).length<=1:=by
 unfold ldP
 split
 ·exact Bb 1
 ·exact B6 1
theorem eh (cs:List Clip) (fi:Nat):∀i,(bq cs fi i).length<=2*i
 | 0=>Bb _
 | i+1=>by
  have:=eh cs fi i
  have:=jW (bgA cs (fi+2*i)-cg cs fi i)
  show (bq cs fi i++ldP _++[_]).length<=_
  rw [Bd,Bd,BZ]
  omega
theorem ji (cs:List Clip) (fi:Nat):(bi cs fi).length<=cs.length+3:=by
 have:=eh cs fi (aL cs fi)
 have:=jW (aH cs cs.length-cg cs fi (aL cs fi))
 unfold bi
 rw [Bd]
 unfold aL at *
 omega
end KS
namespace G
open PySem L2
abbrev zt (x:Str):Prop:=B5 x=true
theorem iz {J:It}{xs ys:List V}{H:Hp}{cap:St}{te:TE}{Q:VK}(hn:xs.length<=sizeLine) (hl:ys.length=xs.length)
  (go:∀i H',Same H H'->i<xs.length->J.go i H') (yld:∀i H' x H'',Same H H'->i<xs.length->J.yld i H' x H''->H''=H'/\xs[i]?=some x) (stop:∀H',Same H H'->J.stop xs.length H')
  (el:∀(i:Nat) x y H' (P:VK),Same H H'->xs[i]?=some x->ys[i]?=some y->(∀H'',Same H' H''->P y H'')->te (some x :: cap) H' P) (fin:∀D H',Same H H'->H D=none->H' D=some (.lst ys)->Q (.ref D) H') :
  d4 J cap te Q H:=by
 intro D hD
 refine ⟨fun i m zs H2=>m=xs.length-i/\i<=xs.length/\zs=ys.take i/\H2 D=some (.lst zs)/\Same H H2,⟨xs.length,rfl,B6 _,by simp,ac,Same.new hD _⟩,?_⟩
 rintro i m zs H2 ⟨rfl,hi,hz,hDz,hS⟩
 refine ⟨hDz,?_⟩
 by_cases h:i<xs.length
 ·refine .inr ⟨go i H2 hS h,?_⟩
  intro x H3 hy
  obtain ⟨rfl,hx⟩:=yld i H2 x H3 hS h hy
  obtain ⟨yv,hyi⟩:∃yv,ys[i]?=some yv:=⟨ys[i]' 'b',A4 'b'⟩
  have hzl:zs.length=i:=by rw [hz,B9]; omega
  refine el i x yv H3 _ hS hx hyi fun H4 hS4=>⟨hS4 _ _ hDz,by omega,xs.length-(i+1),by omega,rfl,h,?_,ac,fun b u q=>?_⟩
  ·rw [hz,Cf,hyi]
   rfl
  ·rw [ah (ak q hD)]
   exact hS4 _ _ (hS _ _ q)
 ·have e:i=xs.length:=by omega
  subst e
  refine .inl ⟨stop H2 hS,fin D H2 hS hD ?_⟩
  rw [hDz,hz,C9 'b']
theorem cQ {K:Ba}{a:Addr}{xs:List V}{H:Hp}{cap:St}{te:TE}{Q:VK}(ys:List V) (hS:SqL K H a xs) (hn:xs.length<=sizeLine) (hl:ys.length=xs.length)
  (el:∀(i:Nat) x y H' (P:VK),Same H H'->xs[i]?=some x->ys[i]?=some y->(∀H'',Same H' H''->P y H'')->te (some x :: cap) H' P) (fin:∀D H',Same H H'->H D=none->H' D=some (.lst ys)->Q (.ref D) H') :
  d4 (Itl K a) cap te Q H:=by
 refine iz (J:=Itl K a) (xs:=xs) (ys:=ys) hn hl ?_ ?_ ?_ el fin
 ·intro i H' s hi
  exact ⟨xs,xs[i],s.seq hS,A4 hi⟩
 ·rintro i H' x H'' s hi ⟨rfl,h⟩
  exact ⟨rfl,h xs (s.seq hS)⟩
 ·intro H' s
  exact ⟨xs,s.seq hS,Bb _⟩
theorem uR {lo:Int}{n:Nat}{H:Hp}{cap:St}{te:TE}{Q:VK}(f:Nat->V) (hn:n<=sizeLine)
  (el:∀(i:Nat) H' (P:VK),i<n->Same H H'->(∀H'',Same H' H''->P (f i) H'')->te (some (.int (lo+i)) :: cap) H' P) (fin:∀D H',Same H H'->H D=none->H' D=some (.lst ((Bh n).map f))->Q (.ref D) H') :
  d4 (Itr lo n) cap te Q H:=by
 have hlen:((Bh n).map fun (i:Nat)=>V.int (lo+i)).length=n:=by rw [A2,BL]
 refine iz (xs:=(Bh n).map fun (i:Nat)=>V.int (lo+i)) (ys:=(Bh n).map f) (by rw [hlen]; exact hn) (by rw [A2,A2]) ?_ ?_ ?_ ?_ fin
 ·intro i H' _ h
  rw [hlen] at h
  exact h
 ·rintro i H' y H'' _ h ⟨rfl,rfl⟩
  refine ⟨rfl,?_⟩
  rw [hlen] at h
  rw [A5,CS h]
  rfl
 ·intro H' _
  rw [hlen]
  exact Bb _
 ·intro i y z H' P hS h1 h2 hP
  rw [A5] at h1 h2
  cases hc:(Bh n)[i]? with
  | none=>rw [hc] at h1; cases h1
  | some c =>
   obtain ⟨h3,h4⟩:=A8.mp hc
   rw [hc] at h1 h2
   rw [DC] at h4
   subst h4
   cases h1
   cases h2
   rw [BL] at h3
   exact el i H' P h3 hS hP
end G
namespace K01
open PySem
end K01
namespace K01
open PySem PySem.NumText
end K01
namespace G
open PySem L2
theorem fO {α:Type}{xs:List α}{i:Int}(h0:0<=i) (h:i<(xs.length:Int)):∃v,atI xs i=some v/\v∈xs:=by
 have hj:i.toNat<xs.length:=by omega
 have e:i=((i.toNat:Nat):Int):=by omega
 have q:=af (A4 hj)
 rw [<- e] at q
 exact ⟨xs[i.toNat],q,BB hj⟩
section
variable {K:Ba}
theorem kZ {T:String}:EB K (.type T) (iK (.ty T))=some true:=by
 unfold EB
 exact if_pos (beq_self_eq_true (EL T))
theorem wk {T C:String}(h1:¬ (EL T == iK (.ty C))=true) (h2:PySem.W.kitMeta C=true) (h3:(fastBuiltinMro T).map (·.contains (.type C))=some false):EB K (.type T) (iK (.ty C))=some false:=by
 unfold EB
 rw [if_neg h1]
 show (if PySem.W.kitMeta C=true then PySem.W.subIn K (.type T) (.type C) else none)=some false
 rw [if_pos h2]
 exact h3
theorem ut:EB K (.type "int") (iK (.ty "bool"))=some false:=wk 'd' 'd' 'd'
end
end G
namespace KS
open PySem L2 G
def Clip.vs (c:Clip):List V:=[.str c.reel,.int c.a,.int c.b,.int c.f]
theorem Clip.numsV (c:Clip):c.nums.map V.int=eI c.a c.cnt c.way:=by
 unfold Clip.nums eI
 rw [BV]
 rfl
def Clip.d (c:Clip):PyData:=.tuple [.str c.reel,.int c.a,.int c.b,.int c.f]
structure Sm (c:Clip):Prop where
 a0:0<=c.a
 a1:c.a<=1000000
 b0:0<=c.b
 b1:c.b<=1000000
structure COk (m n:Nat) (c:Clip):Prop where
 rl:c.reel.length<=100
 rf:zt c.reel
 a0:0<=c.a
 a1:c.a<=n
 b0:0<=c.b
 b1:c.b<=n
 f0:0<=c.f
 f1:c.f<=c.cnt
 d:c.cnt<=m
theorem COk.sm {m n:Nat}{c:Clip}(h:COk m n c) (hn:n<=1000000):Sm c:=⟨h.a0,by have:=h.a1; omega,h.b0,by have:=h.b1; omega⟩
theorem COk.mono {m n m' n':Nat}{c:Clip}(h:COk m n c) (hm:m<=m') (hn:n<=n'):COk m' n' c:=⟨h.rl,h.rf,h.a0,by have:=h.a1; omega,h.b0,by have:=h.b1; omega,h.f0,h.f1,by have:=h.d; omega⟩
theorem Sm.cnt {c:Clip}(h:Sm c):c.cnt<=1000001:=by
 obtain ⟨h1,h2,h3,h4⟩:=h
 unfold Clip.cnt
 omega
theorem Clip.way_cnt (c:Clip):(c.way=1/\c.cnt=(c.b+c.way-c.a).toNat)\/(c.way=-1/\c.cnt=(c.a-(c.b+c.way)).toNat):=by
 unfold Clip.way Clip.cnt
 by_cases h:c.b<c.a
 ·right
  rw [if_pos h]
  exact ⟨rfl,by omega⟩
 ·left
  rw [if_neg h]
  exact ⟨rfl,by omega⟩
def CL (m n:Nat) (H:Hp) (p:Addr) (ps:'l'):Prop:=H p=some (.lst 'p')/\∀x∈ps,H x.1=some (.tup x.2.vs)/\COk m n x.2
theorem CL.same {m n:Nat}{H H':Hp}{p:Addr}{ps:'l'}(h:CL m n H p ps) (s:Same H H'):CL m n H' p ps:=⟨s _ _ h.1,fun x hx=>⟨s _ _ (h.2 x hx).1,(h.2 x hx).2⟩⟩
theorem CL.mono {m n m' n':Nat}{H:Hp}{p:Addr}{ps:'l'}(h:CL m n H p ps) (hm:m<=m') (hn:n<=n'):CL m' n' H p ps:=⟨h.1,fun x hx=>⟨(h.2 x hx).1,(h.2 x hx).2.mono hm hn⟩⟩
theorem CL.nil {m n:Nat}{H:Hp}{p:Addr}(h:H p=some (.lst [])):CL m n H p []:=⟨h,fun x hx=>nomatch hx⟩
theorem CL.push {m n:Nat}{H:Hp}{p pt:Addr}{ps:'l'}{c:Clip}(h:CL m n H p ps) (ht:H pt=some (.tup c.vs)) (hc:COk m n c):CL m n (upd H p (.lst ('p'++[.ref pt]))) p (ps++[(pt,c)]):=by
 have ne:∀a xs,H a=some (.tup xs)->a≠p:=fun a xs e=>aK e h.1 'c'
 refine ⟨by rw [ac,Bf]; rfl,fun x hx=>?_⟩
 rcases B7.mp hx with z | z
 ·obtain ⟨h1,h2⟩:=h.2 x z
  exact ⟨by rw [ah (ne _ _ h1)]; exact h1,h2⟩
 ·rw [Bu.mp z]
  exact ⟨by rw [ah (ne _ _ ht)]; exact ht,hc⟩
theorem eG {K:Ba}{H:Hp}:∀ns:List Int,DenAll K H (ns.map V.int) (ns.map Et)
 | []=>.nil
 | n :: ns=>.cons (.int n) (eG ns)
theorem wK {K:Ba}{H:Hp}{p:Addr}{c:Clip}(h:H p=some (.tup c.vs)):Den K H (.ref p) c.d:=.tup (SqT.of h) (.cons (.str _) (.cons (.int _) (.cons (.int _) (.cons (.int _) .nil))))
theorem uQ {α:Type}(f:α->V) (ns:List α) (k:Nat):fg (ns.map f) (some (k:Int)) none=(ns.drop k).map f:=by
 unfold fg
 rw [HT.sIx_nat,HT.sIx_none,A2,<- List.map_drop,<- List.map_take]
 congr 1
 by_cases h:k<=ns.length
 ·rw [Nat.min_eq_left h,C9 (by rw [Fd]; omega)]
 ·rw [Nat.min_eq_right 'b',Dp,GB,Dq 'b']
theorem SOk.sm {c:Clip}(h:SOk c):Sm c:=⟨h.a0,h.a1,h.b0,h.b1⟩
theorem COk.sok {m n:Nat}{c:Clip}(h:COk m n c) (hm:m<=1000000) (hn:n<=1000000):SOk c:=⟨h.rl,h.rf,h.a0,by have:=h.a1; omega,h.b0,by have:=h.b1; omega,h.f0,by have:=h.f1; have:=h.d; omega⟩
theorem COk.mok {m n:Nat}{c:Clip}(h:COk m n c) (hm:m<=1000000) (hn:n<=1000000):∀x∈c.ms,MOk x:=by
 have s:=h.sok hm hn
 intro x hx
 rw [cy] at hx
 rcases Bp.mp hx with rfl | hx
 ·exact ⟨s.rl,s.rf,s.a0,s.a1,s.f0,s.f1⟩
 ·obtain ⟨y,hy,rfl⟩:=Bz.mp hx
  obtain ⟨h1,h2⟩:=tS (List.mem_of_mem_drop hy) ⟨s.a0,s.a1⟩ ⟨s.b0,s.b1⟩
  exact ⟨s.rl,s.rf,h1,h2,Ci 0,(by decide:(0:Int)<=1000000)⟩
def Bt (p:Addr) (H H':Hp):Prop:=∀b o,b≠p->H b=some o->H' b=some o
theorem Bt.refl (p:Addr) (H:Hp):Bt p H H:=fun _ _ _ h=>h
theorem Bt.trans {p:Addr}{H H' H'':Hp}(a:Bt p H H') (b:Bt p H' H''):Bt p H H'':=fun c o hc h=>b c o hc (a c o hc h)
theorem Bt.of {p:Addr}{H H':Hp}(s:Same H H'):Bt p H H':=fun b o _ h=>s b o h
theorem Bt.upd {p:Addr}{H:Hp}{o:HO}:Bt p H (upd H p o):=fun b u hb h=>by rw [ah hb]; exact h
theorem Bt.same {p:Addr}{H H1 H':Hp}(s:Same H H1) (b:Bt p H1 H') (hp:H p=none):Same H H':=fun c o h=>b c o (ak h hp) (s c o h)
def SL (H:Hp) (p:Addr) (rs:'l'):Prop:=H p=some (.lst (rs.reverse.map fun x=>V.ref x.1))/\∀x∈rs,H x.1=some (.tup x.2.vs)
theorem SL.nil {H:Hp}{p:Addr}(h:H p=some (.lst [])):SL H p []:=⟨h,fun x hx=>nomatch hx⟩
theorem SL.same {H H':Hp}{p:Addr}{rs:'l'}(h:SL H p rs) (s:Same H H'):SL H' p rs:=⟨s _ _ h.1,fun x hx=>s _ _ (h.2 x hx)⟩
theorem SL.ne {H:Hp}{p a:Addr}{rs:'l'}{xs:List V}(h:SL H p rs) (e:H a=some (.tup xs)):a≠p:=aK e h.1 'c'
theorem SL.push {H:Hp}{p pt:Addr}{rs:'l'}{c:Clip}(h:SL H p rs) (ht:H pt=some (.tup c.vs)):SL (upd H p (.lst ((rs.reverse.map fun x=>V.ref x.1)++[.ref pt]))) p ((pt,c) :: rs):=by
 refine ⟨by rw [ac,Do,Bf]; rfl,fun x hx=>?_⟩
 rcases Bp.mp hx with rfl | z
 ·show upd H p _ pt=_
  rw [ah (h.ne ht)]
  exact ht
 ·rw [ah (h.ne (h.2 x z))]
  exact h.2 x z
theorem SL.put {H:Hp}{p pt:Addr}{x0:Addr×Clip}{rs:'l'}{c:Clip}(h:SL H p (x0 :: rs)) (ht:H pt=some (.tup c.vs)):SL (upd H p (.lst ((rs.reverse.map fun x=>V.ref x.1)++[.ref pt]))) p ((pt,c) :: rs):=by
 refine ⟨by rw [ac,Do,Bf]; rfl,fun x hx=>?_⟩
 rcases Bp.mp hx with rfl | z
 ·show upd H p _ pt=_
  rw [ah (h.ne ht)]
  exact ht
 ·have h2:=h.2 x (Br _ z)
  rw [ah (h.ne h2)]
  exact h2
theorem SL.last {H:Hp}{p:Addr}{x:Addr×Clip}{rs:'l'}:atI ((x :: rs).reverse.map fun x=>V.ref x.1) (-1)=some (V.ref x.1):=by
 rw [Do,Bf]
 exact iB _ _
theorem iteN {c:Bool}{A B:Prop}(h:c=false) (b:B):if c=true then A else B:=by rw [h]; exact dW b
theorem iteY {c:Bool}{A B:Prop}(h:c=true) (a:A):if c=true then A else B:=by rw [h]; exact iG a
end KS
namespace L2
open PySem PySem.Spec PyProof.Rows
def It2 (lo k:Int) (n:Nat):It:=⟨fun i _=>i<n,fun i H x H'=>H'=H/\x=.int (lo+(i:Int)*k),fun i _=>n<=i⟩
theorem pJ {P:Program}{w:BG}{K:Ba}{tg:Expr}(it:Addr) (lo k:Int) (n:Nat):m5 P w K tg (It2 lo k n) [it] it (fun i h=>IsRangeIter h it (lo+(i:Nat)*k) ((n:Int)-(i:Nat)) k) where
 mem:=by simp
 obj:=fun i h st b hb=>by
  have e:b=it:=by simpa using hb
  subst e
  exact ⟨_,st,fun v z=>by
   have z':Data.fields _=Data.cell v:=z
   cases z'⟩
 keep:=fun i h h' st k=>k it 'e' _ st
 item:=by
  intro X hP hw hK hc i pins s σ H E I hf st hg
  subst hP hw hK
  obtain ⟨f0,f1,f2,f3,f4,f5⟩:=hf it 'e'
  have W:=Walks.range (prog:=X.prog) (w:=X.w) (I.ok.hd hc) it lo k n
  refine W.item i s _ _ hg st fun v h' tk hv st' kk=>?_
  obtain ⟨t,rfl⟩:=hv
  have I1:Inv X pins σ H { s with heap:=h',toks:=tk }:=I.turned (fun b o hb e=>kk b o (by simpa using hb) e) f0 f1 f3 f4 f5
  exact ⟨_,rfl,oK (s:={ s with heap:=h',toks:=tk }) (n:="range_iterator") st' rfl rfl 'f' ⟨.int (lo+(i:Int)*k),H,I1,⟨t,rfl⟩,⟨rfl,rfl⟩,st',fun b hb=>(hf b hb).1⟩⟩
 done:=by
  intro X hP hw hK hc i pins s σ H E I hf st hg
  subst hP hw hK
  obtain ⟨f0,f1,f2,f3,f4,f5⟩:=hf it 'e'
  exact wpAny_pyNext_range_end (I.ok.hd hc) st (by have:n<=i:=hg; omega) fun h' eb=>⟨rfl,I.turned (t':=s.toks) (fun b o hb e=>eb b o hb e) f0 f1 f3 f4 f5⟩
 self:=fun _ _ _ _ _ st h=>wpAny_pyIter_rangeiter st h
theorem cG (a b:Int):CY a b 2=(((b-a+1) / 2).toNat:Int):=by
 unfold CY
 simp only [show (2:Int) > 0 by decide,if_true]
 split <;> omega
theorem iR {a b:Int}(ha:-(2 ^ 61)<=a) (ha':a<2 ^ 61) (hb:-(2 ^ 61)<=b) (hb':b<2 ^ 61):Ey a b 2=true:=by
 unfold Ey
 rw [cG]
 simp only [Builtin.Range.rangeFitsLong,ED,Bool.or_eq_true,decide_eq_true_eq,beq_iff_eq,show (2:Int) > 0 by decide,if_true]
 omega
section
variable {X:Cx}{tg:Expr}
theorem pZ {pins:'m'}{σ:St}{H:Hp}{s:A9}{R:It->Hp->Prop}{E:Value->A9->Prop}{lo hi k:Int}{n:Nat}{t u v:Tok}{tk:Nat}(I:Inv X pins σ H s) (hsm:Ey lo hi k=true) (hn:CY lo hi k=(n:Int))
  (q:R (It2 lo k n) H):Bl (Bv X.prog X.w) X.A (pyIter (.ref 'n')) (PIE X pins σ tg R) E { s with heap:=s.heap.push { cls:=.type "range",data:=.fields #[.int lo t,.int hi u,.int k v] },toks:=tk }:=by
 refine wpAny_pyIter_range (GF ..) hsm ?_
 have I1:Inv X pins σ H { s with heap:=s.heap.push { cls:=.type "range",data:=.fields #[.int lo t,.int hi u,.int k v] },toks:=tk }:=I.kept fun b o e=>A6 _ e
 refine ⟨(s.heap.push { cls:=.type "range",data:=.fields #[.int lo t,.int hi u,.int k v] }).objs.size,[(s.heap.push { cls:=.type "range",data:=.fields #[.int lo t,.int hi u,.int k v] }).objs.size],_,_,H,rfl,
  I1.kept (t':=tk) fun b o e=>A6 _ e,pJ _ lo k n,?_,fun b hb=>?_,q⟩
 ·have e1:lo+((0:Nat):Int)*k=lo:=by simp
  have e2:((n:Nat):Int)-((0:Nat):Int)=CY lo hi k:=by rw [hn]; omega
  show IsRangeIter _ _ (lo+((0:Nat):Int)*k) (((n:Nat):Int)-((0:Nat):Int)) k
  rw [e1,e2]
  exact Bj _ rfl
 ·have e:b=(s.heap.push { cls:=.type "range",data:=.fields #[.int lo t,.int hi u,.int k v] }).objs.size:=by simpa using hb
  subst e
  exact I1.fpOk (Bb _) (I1.hok.fresh (Bb _))
def xw (ta:TA):TI:=fun σ H R=>ta σ H fun vs H1=>∃i j:Int,vs=[.int i,.int j,.int 2]/\(-(2 ^ 61)<=i/\i<2 ^ 61/\-(2 ^ 61)<=j/\j<2 ^ 61)/\R (It2 i 2 ((j-i+1) / 2).toNat) H1
theorem qb {a b c:Expr}{ta:TA}{p pos:Pos}(hg:Gl X "range") (hm:X.mg "range"=none) (ha:PA X [a,b,c] ta) (h1:au a=true) (h2:au b=true) (h3:au c=true) :
  PI X tg (.Call (.Name "range" p) [a,b,c] [] pos) (xw ta):=by
 intro pins s σ H R I h
 refine GG (bp I hg hm F3 (BU (thn (ha pos pins s σ H _ I h) fun us s1 ⟨vs,H1,I1,r1,q1⟩=>?_) (aq h1) (bc (by simp [h2,h3]))))
 obtain ⟨i,j,e,⟨q1,q2,q3,q4⟩,q⟩:=q1
 subst e
 cases r1 with
 | cons r rr =>
  cases rr with
  | cons r' rr =>
   cases rr with
   | cons r'' rr =>
    cases rr
    obtain ⟨t,rfl⟩:=r
    obtain ⟨t',rfl⟩:=r'
    obtain ⟨t'',rfl⟩:=r''
    exact call_range_3 'b' (pZ I1 (iR q1 q2 q3 q4) (cG i j) q) (Or.inl (EO 'b'))
theorem y8 {tg a b c:Expr}{t u v:TE}{p pos:Pos}(hm:X.mg "range"=none) (ha:QE X a t) (hb:QE X b u) (hc:QE X c v) (hg:X.env.kindOf "range"=some .globalImplicit:=by kernel_rfl) (hs:au a=true:=by rfl) (hs2:au b=true:=by rfl) (hs3:au c=true:=by rfl) :
  QI X tg (.Call (.Name "range" p) [a,b,c] [] pos) (xw (bB t (bB u (bB v fV)))) :=
 ⟨qb hg hm (pa' ha.h (pa' hb.h (pa' hc.h bO hs3) hs2) hs) hs hs2 hs3⟩
end
theorem uy {lo k:Int}{n:Nat}{g:TG}{tb:TS}{D:Ends}{σ:St}{H:Hp}(Pv:Nat->St->Hp->Prop) (h0:Pv 0 σ H)
  (hs:∀i σ H,i<n->Pv i σ H->g (.int (lo+(i:Int)*k)) σ H fun σ2 H2=>tb { D with nx:=Pv (i+1),ct:=Pv (i+1),bk:=D.nx } σ2 H2) (hd:∀ σ H,Pv n σ H->D.nx σ H) :
  ∃W:Nat->Nat->St->Hp->Prop,(∃m,W 0 m σ H)/\∀i m σ H,W i m σ H ->
   ((It2 lo k n).stop i H/\D.nx σ H)\/((It2 lo k n).go i H/\∃N:St->Hp->Prop,(∀ σ' H',N σ' H'->∃m',m'<m/\W (i+1) m' σ' H')/\∀x H',(It2 lo k n).yld i H x H'->g x σ H' fun σ2 H2=>tb { D with nx:=N,ct:=N,bk:=D.nx } σ2 H2):=by
 refine ⟨fun i m σ H=>m=n-i/\i<=n/\Pv i σ H,⟨n,by simp,B6 _,h0⟩,?_⟩
 rintro i m σ H ⟨rfl,hi,p⟩
 by_cases hlt:i<n
 ·refine .inr ⟨hlt,Pv (i+1),fun σ' H' p'=>⟨n-(i+1),by omega,rfl,hlt,p'⟩,fun x H' y=>?_⟩
  obtain ⟨e,y⟩:=y
  subst e y
  exact hs i σ _ hlt p
 ·have e:i=n:=by omega
  subst e
  exact .inl ⟨Bb _,hd σ H p⟩
section
variable {X:Cx}{pos:Pos}{elt iter:Expr}{sc:Scope}{xs ys:List Str}{js:List Nat}{cl:List (Str×Addr)}
end
theorem Au {X:Cx}{i:Nat}{x:Str}{pos:Pos}(hN:X.N.Nodup:=by decide +kernel) (hi:X.N[i]?=some x:=by rfl) (hx:X.env.scope.names.lookup x=some .local:=by rfl):QG X (.Name x pos) (cu i):=⟨kK hN hi hx⟩
section
variable {X:Cx}
theorem uU:bz X (.builtin "sum") (fun xs H Q=>∃(a:Addr) (ns:List Int),xs=[.ref a]/\SqL X.K H a (ns.map V.int)/\X.calm=true/\Q (.int ns.sum) H):=by
 intro pins s σ H xs us Q I r h
 obtain ⟨a,ns,rfl,hS,hc,q⟩:=h
 obtain ⟨u,rfl,ru⟩:=bR r
 cases ru
 obtain ⟨its,rv,pl,hz⟩:=I.list hS
 have hlen:its.length=ns.length:=by rw [<- rv.length,A2]
 refine PySem.call_sum_walkAnyS (EZ pl.isList ?_)
 have ne:a≠'n':=by
  obtain ⟨o,e,_⟩:=pl.isList
  exact Bw (Bi e)
 have hh:X.A.in1.handled=none:=I.ok.hd hc
 refine ⟨'n',_,_,_,_,_,_,fun i=>ns.getD i 0,rfl,(Walks.list hh 'n' a ne its.toArray).toS,⟨⟨_,Bj _ rfl,rfl,rfl⟩,?_⟩,?_,?_,?_⟩
 ·obtain ⟨o,e,r⟩:=pl.isList
  exact ⟨o,A6 _ e,r⟩
 ·intro b hb
  have hb:b='n'\/b=a:=by simpa using hb
  show b<(s.heap.push _).objs.size
  rw [C3]
  obtain ⟨o,e,r⟩:=pl.isList
  have:=Bi e
  rcases hb with rfl | rfl
  ·exact DV _
  ·exact Ct this
 ·intro i v hv
  have hv':its[i]?=some v:=by simpa using hv
  have hi:i<its.length:=(A8.mp hv').1
  have hb:ns[i]?=some ns[i]:=A4 'b'
  obtain ⟨u,hu,ru⟩:=rv.get (i:=i) (x:=V.int ns[i]) (by rw [A5,hb]; rfl)
  rw [hv'] at hu
  cases hu
  obtain ⟨t,rfl⟩:=ru
  exact ⟨t,by show FC ns[i] t=FC (ns.getD i 0) t; rw [A7,hb]; rfl⟩
 ·intro s' t' hm
  rw [preSum_getD,Be,hlen,B4]
  have kp:∀b o,s.heap.get? b=some o->s'.heap.get? b=some o:=fun b o e=>hm.heap b o (by
   rw [Bu]
   exact Bw (Bi e)) (A6 _ e)
  rw [hm.eq_with]
  exact ⟨.int ns.sum,H,I.kept kp,⟨t',rfl⟩,q⟩
end
theorem x_ {X:Cx}{i:Nat}{y0:Str}{py spos:Pos}{x:Str}{px pos:Pos}{elt iter:Expr}{sc:Scope}{wi:TI}{te:TE}(hN:X.N.Nodup) (ys:List Str) (js:List Nat) (cl:List (Str×Addr)) (hclos:Es sc X.env=pure cl) (hcap:Caps X sc cl ys js) (hin:ClIn X.env cl)
  (hi:QI X.nox (.Name x px) iter wi) (he:∀s2 H2 C ex,QE (aR X sc (x :: ys) cl s2 H2 C ex) elt te) (sd:CSd X sc cl:=by exact ⟨by rfl,by rfl,by rfl,by rfl,by rfl⟩)
  (hx:(Gf sc X.env).names.lookup x=some .local:=by rfl)
  (hnd:(x :: ys).Nodup:=by decide +kernel) (hs:∀v,CV iter X.env v=pure v:=by intro _; rfl) (hi0:X.N[i]?=some y0:=by kernel_rfl) (hy0:X.env.scope.names.lookup y0=some .local:=by kernel_rfl)
  (hsw:Dt (.ListComp elt [⟨.Name x px,iter,[],0⟩] sc pos) (some (.Name y0 py)) spos.line X.env=pure true:=by kernel_rfl) :
  QS X (.Assign [.Name y0 py] (.ListComp elt [⟨.Name x px,iter,[],0⟩] sc pos) spos) (gP (w8 wi js te) (cu i)) :=
 ⟨mi (xs:=[x]) (fun _ _ _ _ h=>CompedF.up (tc:=tTr) h) Lp.no Tst.no hclos sd hcap hin hi.h (fun _ _ _ _=>eA hnd rfl (.inl hx) (.inr hx)) (fun a b c d=>(he a b c d).h) hs hN hi0 hy0 hsw⟩
end L2
namespace KS
open PySem L2 G
def ST (H:Hp) (p:Addr) (ps:'l'):Prop:=H p=some (.lst 'p')/\∀x∈ps,H x.1=some (.tup x.2.vs)
theorem ST.same {H H':Hp}{p:Addr}{ps:'l'}(h:ST H p ps) (s:Same H H'):ST H' p ps:=⟨s _ _ h.1,fun x hx=>s _ _ (h.2 x hx)⟩
theorem CL.st {m n:Nat}{H:Hp}{p:Addr}{ps:'l'}(h:CL m n H p ps):ST H p ps:=⟨h.1,fun x hx=>(h.2 x hx).1⟩
theorem SL.st {H:Hp}{p:Addr}{rs:'l'}(h:SL H p rs):ST H p rs.reverse:=⟨h.1,fun x hx=>h.2 x (List.mem_reverse.mp hx)⟩
theorem ST.get {H:Hp}{p:Addr}{ps:'l'}(h:ST H p ps) {k:Nat}(hk:k<ps.length):∃a,'p'[k]?=some (.ref a)/\H a=some (.tup (clA 's' k).vs)/\'s'[k]?=some (clA 's' k):=by
 have e:ps[k]?=some ps[k]:=A4 hk
 have e2:'s'[k]?=some ps[k].2:=by rw [A5,e]; rfl
 refine ⟨ps[k].1,by rw [A5,e]; rfl,?_,?_⟩
 ·rw [bA e2]
  exact h.2 _ (BB hk)
 ·rw [bA e2]
  exact e2
abbrev ug:Str:=Df "leader"
abbrev jC:Str:=Df "strip"
def Th.vs (t:Th):List V:=[.str (if t.lead then ug else jC),.int t.n]
def TL (H:Hp) (p:Addr) (ps:List (Addr×Th)):Prop:=H p=some (.lst 'p')/\∀x∈ps,H x.1=some (.tup x.2.vs)
theorem TL.same {H H':Hp}{p:Addr}{ps:List (Addr×Th)}(h:TL H p ps) (s:Same H H'):TL H' p ps:=⟨s _ _ h.1,fun x hx=>s _ _ (h.2 x hx)⟩
theorem TL.nil {H:Hp}{p:Addr}(h:H p=some (.lst [])):TL H p []:=⟨h,fun x hx=>nomatch hx⟩
theorem TL.push {H:Hp}{p pt:Addr}{ps:List (Addr×Th)}{c:Th}(h:TL H p ps) (ht:H pt=some (.tup c.vs)):TL (upd H p (.lst ('p'++[.ref pt]))) p (ps++[(pt,c)]):=by
 have ne:∀a xs,H a=some (.tup xs)->a≠p:=fun a xs e=>aK e h.1 'c'
 refine ⟨by rw [ac,Bf]; rfl,fun x hx=>?_⟩
 rcases B7.mp hx with z | z
 ·rw [ah (ne _ _ (h.2 x z))]
  exact h.2 x z
 ·rw [Bu.mp z]
  show upd H p _ pt=_
  rw [ah (ne _ _ ht)]
  exact ht
theorem xJ {K:Ba}{H:Hp}:∀xs:'l',(∀x∈xs,H x.1=some (.tup x.2.vs))->DenAll K H (xs.map fun x=>V.ref x.1) ((xs.map (·.2)).map Clip.d)
 | [],_=>.nil
 | x :: xs,h=>.cons (wK (h x (Bq ..))) (xJ xs fun y hy=>h y (Br _ hy))
theorem ST.den {K:Ba}{H:Hp}{p:Addr}{xs:'l'}(h:ST H p xs):Den K H (.ref p) (.list ((xs.map (·.2)).map Clip.d)):=.lst (SqL.of h.1) (xJ xs h.2)
theorem xt:∀cs:List Clip,(∀c∈cs,B5 c.reel=true)->Cz (cs.map Clip.d)=true
 | [],_=>rfl
 | c :: r,h=>by
  have hf:B5 c.reel=true:=h c (Bq ..)
  rw [BD]
  simp [Cz,C4,Clip.d,hf,xt r fun y hy=>h y (Br _ hy)]
theorem Ao {cs:List Clip}(h:∀c∈cs,B5 c.reel=true):(EK (cs.map Clip.d)).canLay0=true:=by simp [C4,xt cs h]
theorem il {α:Type}(f:α->PyData) (l:List α):PyData.eqv (.list (l.map f)) (.list [])=l.isEmpty:=by
 cases l <;> simp [PyData.eqv,PyData.eqvAll]
theorem oE:∀ns:List Int,Cz (ns.map Et)=true
 | []=>rfl
 | b :: r=>by simp [Cz,C4,oE r]
theorem oW:∀ns:List Int,Cw (ns.map Et)=0
 | []=>by simp [Cw]
 | b :: r=>by simp [Cw,DR,oW r]
theorem layIs (ns:List Int):(EK (ns.map Et)).canLay0=true:=by simp [C4,oE ns]
theorem depIs (ns:List Int):(EK (ns.map Et)).depth<=60:=by simp [DR,oW ns]
end KS
namespace KS
open PySem
structure Cd (cs:List Clip):Prop where
 all:∀c∈cs,0<=c.f/\c.f<=c.cnt
 fst:∀c,cs[0]?=some c->c.f=0
 nxt:∀(k:Nat) (c d:Clip),cs[k]?=some c->cs[k+1]?=some d->d.f<=c.cnt
theorem Cd.nil:Cd []:=⟨(fun c h=>nomatch h),(fun c h=>by cases h),(fun k c d h=>by cases h)⟩
theorem Cd.snoc {cs:List Clip}{d:Clip}(h:Cd cs) (f0:0<=d.f) (f1:d.f<=d.cnt) (hf:cs=[]->d.f=0) (hn:∀L c,cs=L++[c]->d.f<=c.cnt):Cd (cs++[d]):=by
 refine ⟨fun c hc=>?_,fun c hc=>?_,fun k c e hc he=>?_⟩
 ·rcases B7.mp hc with z | z
  ·exact h.all c z
  ·rw [Bu.mp z]
   exact ⟨f0,f1⟩
 ·cases cs with
  | nil=>cases hc; exact hf rfl
  | cons x r=>exact h.fst c hc
 ·by_cases z:k+1<cs.length
  ·rw [Bk 'b'] at hc
   rw [Bk z] at he
   exact h.nxt k c e hc he
  ·have hl:=(A8.mp he).1
   rw [Bd,BZ] at hl
   rw [Bm 'b',show k+1-cs.length=0 by omega] at he
   cases he
   rw [Bk 'b'] at hc
   obtain ⟨h1,h2⟩:=A8.mp hc
   have eq:cs=cs.take k++[cs[k]'h1]:=by
    have:=CT k cs
    rw [Ec h1,Dq 'b'] at this
    exact this.symm
   rw [<- h2]
   exact hn _ _ eq
theorem Cd.left {cs:List Clip}{d:Clip}(h:Cd (cs++[d])):Cd cs:=by
 refine ⟨fun c hc=>h.all c (Dh _ hc),fun c hc=>h.fst c ?_,fun k c e hc he=>h.nxt k c e ?_ ?_⟩
 ·rw [Bk (A8.mp hc).1]; exact hc
 ·rw [Bk (A8.mp hc).1]; exact hc
 ·rw [Bk (A8.mp he).1]; exact he
theorem Cd.last {cs:List Clip}{c d:Clip}(h:Cd (cs++[c]++[d])):d.f<=c.cnt:=by
 refine h.nxt cs.length c d ?_ ?_
 ·rw [Cj,Bm (Bb _),Dp]
  rfl
 ·rw [Cj,Bm 'b',show cs.length+1-cs.length=1 by omega]
  rfl
theorem kg (c:Clip):1<=c.cnt:=by unfold Clip.cnt; omega
theorem eQ:∀(S:List Clip),(moments S).length=(S.map Clip.cnt).sum
 | []=>rfl
 | s :: r=>by rw [bX,Bd,cq,eQ r,BD,List.sum_cons]
structure Rs where
 at_:Int
 ns:List Int
 ld:Bool
def fW (S:List Clip) (st:Rs) (t:Th):Option Rs :=
 if t.lead=true then (if st.ld=true then none else some ⟨st.at_+t.n,st.ns,true⟩)
 else if 0<=t.n/\t.n<S.length/\st.at_=bgA S t.n.toNat then some ⟨st.at_+(clA S t.n.toNat).cnt,st.ns++[t.n],false⟩ else none
def dN (S:List Clip):List Th->Rs->Option Rs
 | [],st=>some st
 | t :: r,st=>(fW S st t).bind (dN S r)
theorem fA (S:List Clip):∀(a b:List Th) (st:Rs),dN S (a++b) st=(dN S a st).bind (dN S b)
 | [],b,st=>rfl
 | t :: a,b,st=>by
  show (fW S st t).bind (dN S (a++b))=((fW S st t).bind (dN S a)).bind (dN S b)
  cases fW S st t with
  | none=>rfl
  | some st'=>exact fA S a b st'
theorem nZ {S:List Clip}{at_:Int}{ns:List Int}{b:Int}(h:at_<=b):∃d,dN S (ldP (b-at_)) ⟨at_,ns,false⟩=some ⟨b,ns,d⟩:=by
 unfold ldP
 split
 ·refine ⟨true,?_⟩
  show some (⟨at_+(b-at_),ns,true⟩:Rs)=_
  rw [show at_+(b-at_)=b by omega]
 ·refine ⟨false,?_⟩
  show some (⟨at_,ns,false⟩:Rs)=_
  rw [show at_=b by omega]
theorem lX {S:List Clip}{k:Nat}{ns:List Int}{d:Bool}(h:k<S.length):fW S ⟨bgA S k,ns,d⟩ ⟨false,(k:Int)⟩=some ⟨aH S (k+1),ns++[(k:Int)],false⟩:=by
 unfold fW
 rw [if_neg Bx,if_pos ⟨by show (0:Int)<=k; omega,by show (k:Int)<S.length; omega,rfl⟩]
 rfl
def dB (fi i:Nat):List Int:=(Bh i).map fun (j:Nat)=>(fi:Int)+(j:Int)*2
theorem oB {m:Int}{t:Th}(h:t∈ldP m):t.lead=true/\1<=t.n:=by
 unfold ldP at h
 split at h
 ·rw [Bu.mp h]
  exact ⟨rfl,by assumption⟩
 ·cases h
theorem iZ {S:List Clip}{fi:Nat}{t:Th}:∀i,t∈bq S fi i->(if t.lead=true then 1 else 0)<=t.n
 | 0,h=>nomatch h
 | i+1,h=>by
  rcases B7.mp h with z | z
  ·rcases B7.mp z with y | y
   ·exact iZ i y
   ·obtain ⟨h1,h2⟩:=oB y
    rw [if_pos h1]
    exact h2
  ·rw [Bu.mp z,if_neg Bx]
   show (0:Int)<=((fi+2*i:Nat):Int)
   omega
theorem qE {S:List Clip}{fi:Nat}{t:Th}(h:t∈bi S fi):(if t.lead=true then 1 else 0)<=t.n:=by
 rcases B7.mp h with z | z
 ·exact iZ _ z
 ·obtain ⟨h1,h2⟩:=oB z
  rw [if_pos h1]
  exact h2
def f6 (cs:List Clip) (ld:Int):List Int:=((Bh (cs.length-2)).filter fun i=>decide (eK cs (i+1)<ld)).map fun (i:Nat)=>(i:Int)+1
theorem pT {cs:List Clip}{ld:Int}(h:f6 cs ld=[]) (k:Nat):¬ bM cs ld k:=by
 rintro ⟨h1,h2,h3⟩
 have:=List.map_eq_nil_iff.mp h
 have hm:k-1∈(Bh (cs.length-2)).filter fun i=>decide (eK cs (i+1)<ld):=by
  refine C6.mpr ⟨BW.mpr 'b',?_⟩
  rw [show k-1+1=k by omega]
  exact decide_eq_true h3
 rw [this] at hm
 cases hm
theorem md {cs:List Clip}{ld x:Int}{r:List Int}(h:f6 cs ld=x :: r):∃k:Nat,x=k/\FirstS cs ld k:=by
 unfold f6 at h
 obtain ⟨a,as,e1,e2,e3⟩:=List.map_eq_cons_iff.mp h
 obtain ⟨l1,l2,e4,e5,e6,e7⟩:=List.filter_eq_cons_iff.mp e1
 have hget:(Bh (cs.length-2))[l1.length]?=some a:=by rw [e4,Bm (Bb _),Dp]; rfl
 obtain ⟨hl,ha⟩:=A8.mp hget
 rw [DC] at ha
 rw [BL] at hl
 refine ⟨a+1,by rw [<- e2]; omega,⟨by omega,by omega,of_decide_eq_true e6⟩,fun j hj sh=>?_⟩
 have hj1:=sh.1
 have hj2:=sh.2.1
 have hm:j-1∈l1:=by
  have hg:(Bh (cs.length-2))[j-1]?=some (j-1):=CS 'b'
  rw [e4,Bk 'b'] at hg
  exact Bg hg
 have:=e5 _ hm
 rw [show j-1+1=j by omega] at this
 exact this (decide_eq_true sh.2.2)
end KS
namespace KS
open PySem L2 G
abbrev Mv:=Option (Str×Int)
def bV (cs:List Clip) (t:Th):List Mv:=if t.lead=true then BF t.n.toNat none else (clA cs t.n.toNat).nums.map fun x=>some ((clA cs t.n.toNat).reel,x)
def aC (cs:List Clip) (ts:List Th):List Mv:=ts.flatMap (bV cs)
theorem b_ (cs:List Clip) (a b:List Th):aC cs (a++b)=aC cs a++aC cs b:=by unfold aC; rw [CQ]
theorem cV (cs:List Clip) (t:Th):aC cs [t]=bV cs t:=by unfold aC; rw [Ck]; exact BH _
theorem iT (cs:List Clip) (t:Th):(bV cs t).length=if t.lead=true then t.n.toNat else (clA cs t.n.toNat).cnt:=by
 unfold bV
 split
 ·rw [CG]
 ·rw [A2,Clip.nums_len]
theorem gW {cs:List Clip}{ts:List Th}{i:Nat}{t:Th}(h:ts[i]?=some t):aC cs (ts.take (i+1))=aC cs (ts.take i)++bV cs t:=by
 rw [Cf,h,b_]
 congr 1
 exact cV cs t
theorem sk (cs:List Clip) (ts:List Th) (i:Nat):(aC cs (ts.take i)).length<=(aC cs ts).length:=by
 conv=>rhs; rw [<- CT i ts]
 rw [b_,Bd]
 omega
theorem nY {S:List Clip}:∀(ts:List Th) (st e:Rs),(∀t∈ts,0<=t.n)->dN S ts st=some e->e.at_=st.at_+((aC S ts).length:Int)
 | [],st,e,_,h=>by
  cases h
  show st.at_=st.at_+((([]:List Mv).length:Nat):Int)
  simp
 | t :: r,st,e,hn,h=>by
  have h:(fW S st t).bind (dN S r)=some e:=h
  cases z:fW S st t with
  | none=>rw [z] at h; cases h
  | some m =>
   rw [z] at h
   have ih:=nY r m e (fun x hx=>hn x (Br _ hx)) h
   have t0:=hn t (Bq ..)
   have hm:m.at_=st.at_+((bV S t).length:Int):=by
    rw [iT]
    unfold fW at z
    split at z
    ·rename_i hl
     rw [if_pos hl]
     split at z
     ·cases z
     ·cases z
      show st.at_+t.n=_
      omega
    ·rename_i hl
     rw [if_neg hl]
     split at z
     ·cases z
      rfl
     ·cases z
   have e1:aC S (t :: r)=bV S t++aC S r:=by unfold aC; rw [Ck]
   rw [e1,Bd,ih,hm]
   omega
theorem sC {S:List Clip}:∀(ts:List Th) (st e:Rs),dN S ts st=some e->∀t∈ts,t.lead=true\/(0<=t.n/\t.n<S.length)
 | [],st,e,h=>fun t ht=>nomatch ht
 | x :: r,st,e,h=>fun t ht=>by
  have h:(fW S st x).bind (dN S r)=some e:=h
  cases z:fW S st x with
  | none=>rw [z] at h; cases h
  | some m =>
   rw [z] at h
   rcases Bp.mp ht with rfl | ht
   ·unfold fW at z
    split at z
    ·exact .inl (by assumption)
    ·split at z
     ·rename_i hc
      exact .inr ⟨hc.1,hc.2.1⟩
     ·cases z
   ·exact sC r m e h t ht
theorem oR {S:List Clip}(h:∀s∈S,0<=s.f):∀k,k<=S.length->aH S k<=(((S.take k).map Clip.cnt).sum:Nat)
 | 0,_=>by simp [aH]
 | k+1,hk=>by
  have ih:=oR h k 'b'
  have hg:S[k]?=some S[k]:=A4 'b'
  have hc:=bA hg
  have f0:=h _ (BB (show k<S.length by omega))
  rw [Cf,hg,Bf,List.sum_append]
  show aH S k-(clA S k).f+(clA S k).cnt<=_
  rw [hc]
  show _<=((((S.take k).map Clip.cnt).sum+(S[k].cnt+0):Nat):Int)
  omega
def MV (H:Hp) (v:V):Mv->Prop
 | none=>v=.non
 | some m=>∃r,v=.ref r/\H r=some (.tup [.str m.1,.int m.2])
theorem MV.same {H H':Hp}{v:V}{m:Mv}(h:MV H v m) (s:Same H H'):MV H' v m:=by
 cases m with
 | none=>exact h
 | some m =>
  obtain ⟨r,e,h⟩:=h
  exact ⟨r,e,s _ _ h⟩
inductive MVs (H:Hp):List V->List Mv->Prop
 | nil:MVs H [] []
 | cons {v:V}{m:Mv}{vs:List V}{ms:List Mv}:MV H v m->MVs H vs ms->MVs H (v :: vs) (m :: ms)
theorem MVs.same {H H':Hp}(s:Same H H'):∀{vs:List V}{ms:List Mv},MVs H vs ms->MVs H' vs ms
 | _,_,.nil=>.nil
 | _,_,.cons a b=>.cons (a.same s) (b.same s)
theorem MVs.bt {H H':Hp}{p:Addr}{xs:List V}(s:Bt p H H') (hp:H p=some (.lst xs)):∀{vs:List V}{ms:List Mv},MVs H vs ms->MVs H' vs ms
 | _,_,.nil=>.nil
 | _,_,.cons (m:=m) a b=>.cons (by
   cases m with
   | none=>exact a
   | some m =>
    obtain ⟨r,e,h⟩:=a
    exact ⟨r,e,s _ _ (aK h hp 'c') h⟩) (b.bt s hp)
theorem MVs.app {H:Hp}:∀{vs vs':List V}{ms ms':List Mv},MVs H vs ms->MVs H vs' ms'->MVs H (vs++vs') (ms++ms')
 | _,_,_,_,.nil,b=>b
 | _,_,_,_,.cons a r,b=>.cons a (r.app b)
theorem MVs.len {H:Hp}:∀{vs:List V}{ms:List Mv},MVs H vs ms->vs.length=ms.length
 | _,_,.nil=>rfl
 | _,_,.cons _ b=>by rw [BK,BK,b.len]
theorem MVs.get {H:Hp}:∀{vs:List V}{ms:List Mv}{i:Nat}{v:V},MVs H vs ms->vs[i]?=some v->∃m,ms[i]?=some m/\MV H v m
 | _,_,0,_,.cons a _,h=>by cases h; exact ⟨_,rfl,a⟩
 | _,_,i+1,_,.cons _ b,h=>by
  obtain ⟨m,h1,h2⟩:=b.get (i:=i) (by simpa using h)
  exact ⟨m,by simpa using h1,h2⟩
theorem MVs.nones {H:Hp}:∀n:Nat,MVs H (BF n .non) (BF n none)
 | 0=>.nil
 | n+1=>.cons rfl (MVs.nones n)
theorem MVs.refs {H:Hp}{f:Nat->Str×Int}:∀(rs:List Addr) (k:Nat),(∀(i:Nat) r,rs[i]?=some r->H r=some (.tup [.str (f (k+i)).1,.int (f (k+i)).2]))->MVs H (rs.map V.ref) ((DU k rs.length).map fun i=>some (f i))
 | [],k,_=>.nil
 | r :: rs,k,h=>.cons ⟨r,rfl,h 0 r rfl⟩ (MVs.refs rs (k+1) fun i r' hr=>by
   have:=h (i+1) r' (by simpa using hr)
   rw [show k+1+i=k+(i+1) by omega]
   exact this)
def ML (H:Hp) (p:Addr) (ms:List Mv):Prop:=∃vs,H p=some (.lst vs)/\MVs H vs ms
theorem ML.same {H H':Hp}{p:Addr}{ms:List Mv}(h:ML H p ms) (s:Same H H'):ML H' p ms:=by
 obtain ⟨vs,h1,h2⟩:=h
 exact ⟨vs,s _ _ h1,h2.same s⟩
def AY (m:Mv):Prop:=∀x,m=some x->B5 x.1=true
theorem kC {cs:List Clip}{ts:List Th}(h:∀c∈cs,B5 c.reel=true):∀m∈aC cs ts,AY m:=by
 intro m hm x hx
 obtain ⟨t,_,hm⟩:=Fg.mp hm
 unfold bV at hm
 split at hm
 ·rw [(List.mem_replicate.mp hm).2] at hx
  cases hx
 ·obtain ⟨n,_,rfl⟩:=Bz.mp hm
  cases hx
  show B5 (clA cs t.n.toNat).reel=true
  by_cases hk:t.n.toNat<cs.length
  ·have hg:=A4 hk
   rw [bA hg]
   exact h _ (BB hk)
  ·have:clA cs t.n.toNat=noC:=by
    unfold clA
    rw [A7,Cm 'b']
    rfl
   rw [this]
   decide +kernel
end KS
namespace KS
open PySem
theorem jl:∀(n:Nat) (cs:List Clip),cs.length=n->Cd cs->∀(p:Nat) (m:Mo),(moments cs)[p]?=some m->0<=m.f/\(0<m.f->m.f<=p/\(p:Int)+m.f<=(moments cs).length)
 | 0,cs,hl,h=>fun p m hm=>by
  cases cs with
  | nil=>cases hm
  | cons x r=>cases hl
 | n+1,cs,hl,h=>fun p m hm=>by
  obtain ⟨L,c,rfl⟩:∃L c,cs=L++[c]:=by
   have hne:cs≠[]:=by intro z; rw [z] at hl; cases hl
   exact ⟨cs.dropLast,cs.getLast hne,(Dg hne).symm⟩
  have hL:L.length=n:=by rw [Bd,BZ] at hl; omega
  have ih:=jl n L hL h.left
  obtain ⟨c0,c1⟩:=h.all c 'e'
  rw [aX,bn] at hm ⊢
  rw [Bd,cq]
  by_cases hp:p<(moments L).length
  ·rw [Bk hp] at hm
   obtain ⟨h0,h1⟩:=ih p m hm
   refine ⟨h0,fun hf=>?_⟩
   obtain ⟨h2,h3⟩:=h1 hf
   exact ⟨h2,by omega⟩
  ·rw [Bm 'b'] at hm
   have hlt:p-(moments L).length<c.cnt:=by
    have:=(A8.mp hm).1
    rw [cq] at this
    exact this
   have hg:=tY (dS (c:=c) hlt)
   rw [hm] at hg
   cases hg
   by_cases hz:p-(moments L).length=0
   ·rw [if_pos hz]
    show 0<=c.f*1/\(0<c.f*1->c.f*1<=(p:Int)/\(p:Int)+c.f*1<=(((moments L).length+c.cnt:Nat):Int))
    rw [Int.mul_one]
    refine ⟨c0,fun hf=>⟨?_,by omega⟩⟩
    have hne:L≠[]:=by
     intro y
     subst y
     have:=h.fst c rfl
     omega
    have hL2:L=L.dropLast++[L.getLast hne]:=(Dg hne).symm
    have hla:c.f<=(L.getLast hne).cnt:=by
     rw [hL2] at h
     exact h.last
    have ge:(L.getLast hne).cnt<=(moments L).length:=by
     conv=>rhs; rw [hL2]
     rw [aX,bn,Bd,cq]
     omega
    omega
   ·rw [if_neg hz]
    show 0<=c.f*0/\(0<c.f*0->_)
    rw [Int.mul_zero]
    exact ⟨Ci 0,fun hf=>absurd hf 'f'⟩
structure Sw (S:List Clip):Prop where
 pos:∀s∈S,0<=s.f
 fst:∀s,S[0]?=some s->s.f=0
 snd:∀(s t:Clip),S[0]?=some s->S[1]?=some t->t.f<=s.cnt
 lst:∀L (s:Clip),S=L++[s]->s.f<=s.cnt
theorem yS (s:Clip):s.ms[0]?=some ⟨s.reel,s.a,s.f⟩:=by rw [cy]; rfl
theorem dh (L:List Clip) (s:Clip) (R:List Clip):(moments (L++s :: R))[(moments L).length]?=some ⟨s.reel,s.a,s.f⟩:=by
 rw [aX,Bm (Bb _),Dp,bX,Bk (by rw [cq]; have:=kg s; omega)]
 exact yS s
theorem zI {cs S:List Clip}(h:Cd cs) (e:moments S=moments cs):Sw S:=by
 have room:=jl cs.length cs rfl h
 rw [<- e] at room
 refine ⟨fun s hs=>?_,fun s hs=>?_,fun s t hs ht=>?_,fun L s hs=>?_⟩
 ·obtain ⟨L,R,rfl⟩:=List.append_of_mem hs
  exact (room _ _ (dh L s R)).1
 ·cases S with
  | nil=>cases hs
  | cons x R =>
   cases hs
   have:=dh [] s R
   obtain ⟨h0,h1⟩:=room 0 _ this
   by_cases hf:0<s.f
   ·have:=(h1 hf).1
    have z:s.f<=((0:Nat):Int):=this
    omega
   ·have z:0<=s.f:=h0
    omega
 ·match S,hs,ht with
  | x :: y :: R,hs,ht =>
   cases hs
   cases ht
   have hm:=dh [s] t R
   rw [bn,cq] at hm
   obtain ⟨h0,h1⟩:=room _ _ hm
   by_cases hf:0<t.f
   ·exact (h1 hf).1
   ·omega
 ·subst hs
  have hm:=dh L s []
  obtain ⟨h0,h1⟩:=room _ _ hm
  by_cases hf:0<s.f
  ·have:=(h1 hf).2
   rw [aX,bn,Bd,cq] at this
   have z:(((moments L).length:Nat):Int)+s.f<=(((moments L).length+s.cnt:Nat):Int):=this
   omega
  ·omega
theorem uW {S:List Clip}{ld:Int}(sn:Sw S) (hl:0<=ld) (ns:∀k,¬ bM S ld k) (fi i:Nat) (hf:fi<=1) (h:fi+2*i<S.length):cg S fi i<=bgA S (fi+2*i):=by
 have get:∀k,k<S.length->S[k]?=some (clA S k):=fun k hk=>by
  have:=A4 hk
  rw [this,bA this]
 cases i with
 | zero =>
  show (0:Int)<=_
  have f0:=sn.fst _ (get 0 'b')
  by_cases z:fi=0
  ·subst z
   show (0:Int)<=0-(clA S 0).f
   omega
  ·have:fi=1:=by omega
   subst this
   have:=sn.snd _ _ (get 0 'b') (get 1 'b')
   show (0:Int)<=0-(clA S 0).f+(clA S 0).cnt-(clA S 1).f
   omega
 | succ i =>
  have hk:¬ eK S (fi+2*i+1)<ld:=fun y=>ns (fi+2*i+1) ⟨by omega,by omega,y⟩
  unfold eK at hk
  show aH S (fi+2*i+1)<=aH S (fi+2*(i+1))-_
  rw [show fi+2*(i+1)=fi+2*i+1+1 by omega]
  show _<=aH S (fi+2*i+1)-(clA S (fi+2*i+1)).f+(clA S (fi+2*i+1)).cnt-_
  omega
theorem iX {S:List Clip}{ld:Int}(sn:Sw S) (hl:0<=ld) (ns:∀k,¬ bM S ld k) (fi:Nat) (hf:fi<=1):∀i,i<=aL S fi->dN S (bq S fi i) ⟨0,[],false⟩=some ⟨cg S fi i,dB fi i,false⟩
 | 0,_=>rfl
 | i+1,h=>by
  have hk:fi+2*i<S.length:=by unfold aL at h; omega
  have ih:=iX sn hl ns fi hf i 'b'
  obtain ⟨d,hd⟩:=nZ (S:=S) (ns:=dB fi i) (uW sn hl ns fi i hf hk)
  show dN S (bq S fi i++ldP _++[_]) _=_
  rw [fA,fA,ih]
  show Option.bind (dN S (ldP _) _) _=_
  rw [hd]
  show (fW S _ _).bind (dN S [])=_
  rw [lX hk]
  show some _=some _
  unfold dB
  rw [Dx,Bf]
  show some (⟨_,_++[((fi+2*i:Nat):Int)],false⟩:Rs)=some ⟨_,_++[(fi:Int)+(i:Int)*2],false⟩
  rw [show ((fi+2*i:Nat):Int)=(fi:Int)+(i:Int)*2 by omega]
  rfl
theorem oQ {S:List Clip}(sn:Sw S) (fi:Nat) (hf:fi<=1):cg S fi (aL S fi)<=aH S S.length:=by
 have get:∀k,k<S.length->S[k]?=some (clA S k):=fun k hk=>by
  have:=A4 hk
  rw [this,bA this]
 have up:∀k,k+1=S.length->aH S k<=aH S (k+1):=fun k hk=>by
  have eq:S=S.take k++[S[k]' 'b']:=by
   have:=CT k S
   rw [Ec 'b',Dq 'b'] at this
   exact this.symm
  have:=sn.lst _ _ eq
  have hc:clA S k=S[k]' 'b':=bA (A4 'b')
  show _<=aH S k-(clA S k).f+(clA S k).cnt
  rw [hc]
  omega
 cases e:aL S fi with
 | zero =>
  show (0:Int)<=_
  unfold aL at e
  have:S.length=0\/S.length=1:=by omega
  rcases this with z | z
  ·rw [z]
   exact Ci 0
  ·rw [z]
   exact up 0 'b'
 | succ i =>
  unfold aL at e
  show aH S (fi+2*i+1)<=_
  have:S.length=fi+2*i+1\/S.length=fi+2*i+1+1:=by omega
  rcases this with z | z
  ·rw [z]
   exact Ci _
  ·rw [z]
   exact up _ 'b'
theorem pX {S:List Clip}{ld:Int}(sn:Sw S) (hl:0<=ld) (ns:∀k,¬ bM S ld k) (fi:Nat) (hf:fi<=1):∃d,dN S (bi S fi) ⟨0,[],false⟩=some ⟨aH S S.length,dB fi (aL S fi),d⟩:=by
 obtain ⟨d,hd⟩:=nZ (S:=S) (ns:=dB fi (aL S fi)) (oQ sn fi hf)
 refine ⟨d,?_⟩
 unfold bi
 rw [fA,iX sn hl ns fi hf _ (Bb _)]
 exact hd
theorem dY {S:List Clip}{ld:Int}(sn:Sw S) (hl:0<=ld) (ns:∀k,¬ bM S ld k) (fi:Nat) (hf:fi<=1) :
  ((aC S (bi S fi)).length:Int)=aH S S.length/\∀t∈bi S fi,0<=t.n/\(t.lead=true\/t.n<S.length):=by
 obtain ⟨d,hd⟩:=pX sn hl ns fi hf
 have h0:∀t∈bi S fi,0<=t.n:=fun t ht=>by
  have:=qE ht
  split at this <;> omega
 have h1:=nY _ _ _ h0 hd
 have h2:=sC _ _ _ hd
 refine ⟨?_,fun t ht=>⟨h0 t ht,?_⟩⟩
 ·have h1:aH S S.length=0+_:=h1
  omega
 ·rcases h2 t ht with z | z
  ·exact .inl z
  ·exact .inr z.2
structure Frm where
 reel:Str
 n:Int
 p:Int
 w:Int
def putF (S:List (List Frm)) (c:Clip) (B k:Nat) (n:Int):List (List Frm) :=
 if (k:Int)<c.f then S.set (B+k) (match S.getD (B+k) [] with
  | []=>[]
  | g :: _=>[⟨g.reel,g.n,c.f-k,c.f+1⟩,⟨c.reel,n,k+1,c.f+1⟩])
 else S++[[⟨c.reel,n,1,1⟩]]
def shK (S:List (List Frm)) (c:Clip) (B:Nat):Nat->List (List Frm)
 | 0=>S
 | k+1=>putF (shK S c B k) c B k (c.a+(k:Int)*c.way)
def kE (S:List (List Frm)) (c:Clip):List (List Frm):=shK S c (S.length-c.f.toNat) c.cnt
def shown (cs:List Clip):List (List Frm):=cs.foldl kE []
theorem we (S:List (List Frm)) (c:Clip) (B k:Nat) (n:Int):(putF S c B k n).length=if (k:Int)<c.f then S.length else S.length+1:=by
 unfold putF
 split
 ·rw [Fy]
 ·rw [Bd]; rfl
theorem eC (S:List (List Frm)) (c:Clip) (B:Nat) (h:0<=c.f):∀k,(shK S c B k).length=S.length+(k-c.f.toNat)
 | 0=>by simp [shK]
 | k+1=>by
  show (putF _ c B k _).length=_
  rw [we,eC S c B h k]
  split <;> omega
theorem jc (S:List (List Frm)) (c:Clip) (h:0<=c.f):(kE S c).length=S.length+(c.cnt-c.f.toNat):=eC S c _ h _
structure FOk (f:Frm):Prop where
 rf:B5 f.reel=true
def q0 (S:List (List Frm)):Prop:=∀m∈S,m≠[]/\(∀f∈m,FOk f)/\m.length<=2
theorem yR {S:List (List Frm)}{c:Clip}{B k:Nat}{n:Int}(h:q0 S) (hc:B5 c.reel=true) (hb:(k:Int)<c.f->B+k<S.length):q0 (putF S c B k n):=by
 unfold putF
 split
 ·rename_i hk
  intro m hm
  rcases List.mem_or_eq_of_mem_set hm with hm | rfl
  ·exact h m hm
  ·have hg:S[B+k]?=some S[B+k]:=A4 (hb hk)
   have hd:S.getD (B+k) []=S[B+k]:=by rw [A7,hg]; rfl
   obtain ⟨h1,h2,_⟩:=h _ (BB (hb hk))
   rw [hd]
   cases hx:S[B+k] with
   | nil=>exact absurd hx h1
   | cons g r =>
    refine ⟨by simp,fun f hf=>?_,Bb 2⟩
    simp only [Bp,Cg,or_false] at hf
    rcases hf with rfl | rfl
    ·exact ⟨(h2 g (by rw [hx]; exact Bq ..)).rf⟩
    ·exact ⟨hc⟩
 ·intro m hm
  rcases B7.mp hm with hm | hm
  ·exact h m hm
  ·rw [Bu.mp hm]
   exact ⟨by simp,fun f hf=>by rw [Bu.mp hf]; exact ⟨hc⟩,Dd 1⟩
theorem mC {S:List (List Frm)}{c:Clip}{B:Nat}(h:q0 S) (hc:B5 c.reel=true) (f0:0<=c.f) (hb:B+c.f.toNat<=S.length):∀k,q0 (shK S c B k)
 | 0=>h
 | k+1=>yR (mC h hc f0 hb k) hc fun hk=>by rw [eC S c B f0 k]; omega
structure Sd (cs:List Clip):Prop where
 f0:∀c∈cs,0<=c.f
 f1:∀c∈cs,c.f<=c.cnt
 f2:∀(i:Nat) c,cs[i]?=some c->c.f<=((shown (cs.take i)).length:Int)
 rf:∀c∈cs,B5 c.reel=true
theorem fZ (cs:List Clip) (c:Clip):shown (cs++[c])=kE (shown cs) c:=by unfold shown; rw [E2]; rfl
theorem eV {cs:List Clip}{i:Nat}{c:Clip}(h:cs[i]?=some c):shown (cs.take (i+1))=kE (shown (cs.take i)) c:=by
 rw [Cf,h]
 exact fZ _ _
theorem Sd.nil:Sd []:=⟨(fun c h=>nomatch h),(fun c h=>nomatch h),(fun i c h=>by cases h),(fun c h=>nomatch h)⟩
theorem Sd.push {cs:List Clip}{c:Clip}(h:Sd cs) (f0:0<=c.f) (f1:c.f<=c.cnt) (f2:c.f<=((shown cs).length:Int)) (rf:B5 c.reel=true):Sd (cs++[c]):=by
 refine ⟨fun x hx=>?_,fun x hx=>?_,fun i x hx=>?_,fun x hx=>?_⟩
 ·rcases B7.mp hx with z | z
  ·exact h.f0 x z
  ·rw [Bu.mp z]; exact f0
 ·rcases B7.mp hx with z | z
  ·exact h.f1 x z
  ·rw [Bu.mp z]; exact f1
 ·by_cases hi:i<cs.length
  ·rw [Bk hi] at hx
   rw [List.take_append_of_le_length 'b']
   exact h.f2 i x hx
  ·have hl:=(A8.mp hx).1
   rw [Bd,BZ] at hl
   have e:i=cs.length:=by omega
   rw [Bm 'b',e,Dp] at hx
   cases hx
   rw [e,List.take_left']
   ·exact f2
   ·rfl
 ·rcases B7.mp hx with z | z
  ·exact h.rf x z
  ·rw [Bu.mp z]; exact rf
theorem wf {cs:List Clip}{c:Clip}(f0:0<=c.f) (f1:c.f<=c.cnt):((shown (cs++[c])).length:Int)=((shown cs).length:Int)+((c.cnt:Int)-c.f):=by
 rw [fZ,jc _ _ f0]
 omega
theorem hX {cs:List Clip}(h:Sd cs):∀i,i<=cs.length->q0 (shown (cs.take i))
 | 0,_=>fun m hm=>by simp [shown] at hm
 | i+1,hi=>by
  have hx:cs[i]?=some cs[i]:=A4 'b'
  have hm:=BB (l:=cs) (n:=i) 'b'
  rw [eV hx]
  have f0:=h.f0 _ hm
  have f2:=h.f2 i _ hx
  exact mC (hX h i 'b') (h.rf _ hm) f0 'b' _
theorem jd {m:Nat}{cs:List Clip}(h:Sd cs) (hm:∀c∈cs,c.cnt<=m):∀i,i<=cs.length->(shown (cs.take i)).length<=m*i
 | 0,_=>by simp [shown]
 | i+1,hi=>by
  have hx:cs[i]?=some cs[i]:=A4 'b'
  have hm':=BB (l:=cs) (n:=i) 'b'
  have ih:=jd h hm i 'b'
  have:=hm _ hm'
  rw [eV hx,jc _ _ (h.f0 _ hm'),Nat.mul_succ]
  omega
abbrev Fr:=Str×Int
def dA:Int->List Mo->List (Int×Fr)
 | _,[]=>[]
 | e,m :: r=>(e-m.f,m.reel,m.n) :: dA (e-m.f+1) r
def fT:Int->List Mo->Int
 | e,[]=>e
 | e,m :: r=>fT (e-m.f+1) r
theorem iN:∀(a b:List Mo) (e:Int),dA e (a++b)=dA e a++dA (fT e a) b
 | [],b,e=>rfl
 | m :: a,b,e=>by
  show _ :: dA _ (a++b)=_ :: (dA _ a++_)
  rw [iN a b]
  rfl
theorem gO:∀(a b:List Mo) (e:Int),fT e (a++b)=fT (fT e a) b
 | [],b,e=>rfl
 | m :: a,b,e=>gO a b _
theorem gM (r:Str) (g:Nat->Int):∀(n s:Nat) (e:Int),dA e ((DU s n).map fun (k:Nat)=>(⟨r,g k,0⟩:Mo))=(DU s n).map (fun (k:Nat)=>(e+((k:Int)-(s:Int)),r,g k))/\fT e ((DU s n).map fun k=>(⟨r,g k,0⟩:Mo))=e+n
 | 0,s,e=>⟨rfl,by show e=e+((0:Nat):Int); omega⟩
 | n+1,s,e=>by
  obtain ⟨h1,h2⟩:=gM r g n (s+1) (e-0+1)
  rw [Ff,BD,BD]
  refine ⟨?_,?_⟩
  ·show (e-0,r,g s) :: dA (e-0+1) _=_
   rw [h1]
   congr 1
   ·rw [show e-0=e+((s:Int)-(s:Int)) by omega]
   ·apply CH
    intro k _
    rw [show e-0+1+((k:Int)-((s+1:Nat):Int))=e+((k:Int)-(s:Int)) by omega]
  ·show fT (e-0+1) _=_
   rw [h2]
   omega
theorem tW (c:Clip):c.ms=⟨c.reel,c.a,c.f⟩ :: (DU 1 (c.cnt-1)).map fun (k:Nat)=>(⟨c.reel,c.a+(k:Int)*c.way,0⟩:Mo):=by
 rw [cy]
 congr 1
 unfold Clip.nums
 have e:c.cnt=c.cnt-1+1:=by have:=kg c; omega
 rw [e,Ei,Ff,BD,List.drop_one,List.tail_cons,BV]
 show _=Gi _ (DU 1 (c.cnt-1+1-1))
 rw [Nat.add_sub_cancel]
 rfl
theorem gN (c:Clip) (e:Int):dA e c.ms=(Bh c.cnt).map (fun (k:Nat)=>(e-c.f+(k:Int),c.reel,c.a+(k:Int)*c.way))/\fT e c.ms=e-c.f+c.cnt:=by
 rw [tW]
 obtain ⟨h1,h2⟩:=gM c.reel (fun k=>c.a+(k:Int)*c.way) (c.cnt-1) 1 (e-c.f+1)
 have ec:c.cnt=c.cnt-1+1:=by have:=kg c; omega
 refine ⟨?_,?_⟩
 ·show (e-c.f,c.reel,c.a) :: dA (e-c.f+1) _=_
  rw [h1,ec,Ei,Ff,BD]
  show _=_ :: Gi _ (DU 1 (c.cnt-1))
  congr 1
  ·show (e-c.f,c.reel,c.a)=(e-c.f+((0:Nat):Int),c.reel,c.a+((0:Nat):Int)*c.way)
   simp
  ·rw [Nat.add_sub_cancel]
   apply CH
   intro k _
   rw [show e-c.f+1+((k:Int)-((1:Nat):Int))=e-c.f+(k:Int) by omega]
 ·show fT (e-c.f+1) _=_
  rw [h2]
  omega
def Cv (M:List Mo) (t:Int):List Fr:=((dA 0 M).filter fun x=>decide (x.1=t)).map (·.2)
theorem jk {α:Type}(b t:Int) (g:Nat->α):∀n:Nat,(((Bh n).map fun (k:Nat)=>(b+(k:Int),g k)).filter fun x=>decide (x.1=t)).map (·.2)=if b<=t/\t<b+n then [g (t-b).toNat] else []
 | 0=>by rw [if_neg 'b']; rfl
 | n+1=>by
  rw [Dx,Bf,CN,Bf,jk b t g n]
  show _++Gi _ (List.filter _ [(b+(n:Int),g n)])=_
  by_cases h:b+(n:Int)=t
  ·rw [if_neg 'b',if_pos 'b',CO,if_pos (by exact decide_eq_true h)]
   show []++[g n]=_
   rw [show (t-b).toNat=n by omega]
   rfl
  ·have hn:¬ (decide ((b+(n:Int),g n).1=t))=true:=fun z=>h (of_decide_eq_true z)
   have e:List.filter (fun x=>decide (x.1=t)) [(b+(n:Int),g n)]=[]:=by rw [CO,if_neg hn]; rfl
   rw [e]
   by_cases h2:b<=t/\t<b+n
   ·rw [if_pos h2,if_pos 'b']
    rfl
   ·rw [if_neg h2,if_neg 'b']
    rfl
def blk (e:Int) (c:Clip) (t:Int):List Fr:=if e-c.f<=t/\t<e-c.f+c.cnt then [(c.reel,c.a+(t-(e-c.f))*c.way)] else []
theorem wO (e:Int) (c:Clip) (t:Int):((dA e c.ms).filter fun x=>decide (x.1=t)).map (·.2)=blk e c t:=by
 rw [(gN c e).1]
 have:=jk (e-c.f) t (fun (k:Nat)=>(c.reel,c.a+(k:Int)*c.way)) c.cnt
 rw [this]
 unfold blk
 split
 ·rename_i h
  rw [show (((t-(e-c.f)).toNat:Nat):Int)=t-(e-c.f) by omega]
 ·rfl
theorem u8 (M:List Mo) (c:Clip) (t:Int):Cv (M++c.ms) t=Cv M t++blk (fT 0 M) c t:=by
 unfold Cv
 rw [iN,CN,Bf,wO]
def frm (f:Frm):Fr:=(f.reel,f.n)
theorem nW {S:List (List Frm)}{c:Clip}{B:Nat}(f0:0<=c.f) (hB:B+c.f.toNat=S.length) (one:∀t,B<=t->t<S.length->(S.getD t []).length=1) :
  ∀k,k<=c.cnt->∀t:Nat,((shK S c B k).getD t []).map frm=(S.getD t []).map frm++(if B<=t/\t<B+k then [(c.reel,c.a+((t:Int)-(B:Int))*c.way)] else [])
 | 0,_,t=>by
  rw [if_neg 'b',BH]
  rfl
 | k+1,hk,t=>by
  have ih:=nW f0 hB one k 'b'
  have hl:=eC S c B f0 k
  show ((putF (shK S c B k) c B k _).getD t []).map frm=_
  unfold putF
  by_cases hf:(k:Int)<c.f
  ·rw [if_pos hf]
   by_cases ht:t=B+k
   ·subst ht
    have ihk:=ih (B+k)
    rw [if_neg 'b',BH] at ihk
    have h1:=one (B+k) 'b' 'b'
    rw [if_pos 'b']
    cases hg:(shK S c B k).getD (B+k) [] with
    | nil =>
     rw [hg] at ihk
     have:=congrArg Ce ihk
     rw [A2,A2,h1] at this
     cases this
    | cons g r =>
     rw [hg] at ihk
     have hr:r=[]:=by
      have:=congrArg Ce ihk
      rw [A2,A2,h1,BK] at this
      cases r with
      | nil=>rfl
      | cons y r=>simp at this
     subst hr
     rw [<- ihk]
     show (List.getD ((shK S c B k).set (B+k) _) (B+k) []).map frm=_
     rw [A7,Dm (by rw [hl]; omega)]
     show [(g.reel,g.n),(c.reel,c.a+(k:Int)*c.way)]=[(g.reel,g.n)]++[(c.reel,c.a+(((B+k:Nat):Int)-(B:Int))*c.way)]
     rw [show ((B+k:Nat):Int)-(B:Int)=(k:Int) by omega]
     rfl
   ·rw [A7,DJ (fun z=>ht z.symm),<- A7,ih t]
    by_cases h2:B<=t/\t<B+k
    ·rw [if_pos h2,if_pos 'b']
    ·rw [if_neg h2,if_neg 'b']
  ·rw [if_neg hf]
   by_cases ht:t=B+k
   ·subst ht
    have eL:(shK S c B k).length=B+k:=by rw [hl]; omega
    have e0:S.getD (B+k) []=[]:=by rw [A7,Cm 'b']; rfl
    rw [if_pos 'b',e0,A7,Bm 'b',eL,Dp]
    show [(c.reel,c.a+(k:Int)*c.way)]=[]++[(c.reel,c.a+(((B+k:Nat):Int)-(B:Int))*c.way)]
    rw [show ((B+k:Nat):Int)-(B:Int)=(k:Int) by omega]
    rfl
   ·have e1:(shK S c B k++[[(⟨c.reel,c.a+(k:Int)*c.way,1,1⟩:Frm)]]).getD t []=(shK S c B k).getD t []:=by
     rw [A7,A7]
     by_cases h2:t<(shK S c B k).length
     ·rw [Bk h2]
     ·rw [Bm 'b',Cm (by rw [BZ]; omega),Cm 'b']
    rw [e1,ih t]
    by_cases h2:B<=t/\t<B+k
    ·rw [if_pos h2,if_pos 'b']
    ·rw [if_neg h2,if_neg 'b']
structure Cd2 (cs:List Clip):Prop where
 cd:Cd cs
 nxt:∀(k:Nat) (c d:Clip),cs[k]?=some c->cs[k+1]?=some d->d.f<=c.cnt-c.f
theorem Cd2.nil:Cd2 []:=⟨Cd.nil,fun k c d h=>by cases h⟩
theorem Cd2.snoc {cs:List Clip}{d:Clip}(h:Cd2 cs) (f0:0<=d.f) (f1:d.f<=d.cnt) (hf:cs=[]->d.f=0) (hn:∀L c,cs=L++[c]->d.f<=c.cnt-c.f):Cd2 (cs++[d]):=by
 refine ⟨h.cd.snoc f0 f1 hf fun L c e=>?_,fun k c e hc he=>?_⟩
 ·have h1:=hn L c e
  have h2:=(h.cd.all c (by rw [e]; simp)).1
  omega
 ·by_cases z:k+1<cs.length
  ·rw [Bk 'b'] at hc
   rw [Bk z] at he
   exact h.nxt k c e hc he
  ·have hl:=(A8.mp he).1
   rw [Bd,BZ] at hl
   rw [Bm 'b',show k+1-cs.length=0 by omega] at he
   cases he
   rw [Bk 'b'] at hc
   obtain ⟨h1,h2⟩:=A8.mp hc
   have eq:cs=cs.take k++[cs[k]'h1]:=by
    have:=CT k cs
    rw [Ec h1,Dq 'b'] at this
    exact this.symm
   rw [<- h2]
   exact hn _ _ eq
theorem Cd2.left {cs:List Clip}{d:Clip}(h:Cd2 (cs++[d])):Cd2 cs:=by
 refine ⟨h.cd.left,fun k c e hc he=>h.nxt k c e ?_ ?_⟩
 ·rw [Bk (A8.mp hc).1]; exact hc
 ·rw [Bk (A8.mp he).1]; exact he
theorem Cd2.last {cs:List Clip}{c d:Clip}(h:Cd2 (cs++[c]++[d])):d.f<=c.cnt-c.f:=by
 refine h.nxt cs.length c d ?_ ?_
 ·rw [Cj,Bm (Bb _),Dp]
  rfl
 ·rw [Cj,Bm 'b',show cs.length+1-cs.length=1 by omega]
  rfl
structure u7 (cs:List Clip):Prop where
 sd:Sd cs
 len:((shown cs).length:Int)=fT 0 (moments cs)
 cv:∀t:Nat,((shown cs).getD t []).map frm=Cv (moments cs) t
 one:∀L c,cs=L++[c]->∀t:Nat,((shown cs).length:Int)-(c.cnt-c.f)<=t->t<(shown cs).length->((shown cs).getD t []).length=1
 big:∀L c,cs=L++[c]->c.cnt-c.f<=((shown cs).length:Int)
theorem oP:∀(n:Nat) (cs:List Clip),cs.length=n->Cd2 cs->(∀c∈cs,B5 c.reel=true)->u7 cs
 | 0,cs,hl,h,hr=>by
  cases cs with
  | nil =>
   refine ⟨Sd.nil,rfl,fun t=>?_,fun L c e=>?_,fun L c e=>?_⟩
   ·show Gi frm (List.getD [] t [])=[]
    rw [List.getD_nil]
    rfl
   ·cases L <;> cases e
   ·cases L <;> cases e
  | cons x r=>cases hl
 | n+1,cs,hl,h,hr=>by
  obtain ⟨L,c,rfl⟩:∃L c,cs=L++[c]:=by
   have hne:cs≠[]:=by intro z; rw [z] at hl; cases hl
   exact ⟨cs.dropLast,cs.getLast hne,(Dg hne).symm⟩
  have hL:L.length=n:=by rw [Bd,BZ] at hl; omega
  have ih:=oP n L hL h.left fun c hc=>hr c (Dh _ hc)
  obtain ⟨c0,c1⟩:=h.cd.all c 'e'
  have room:c.f<=((shown L).length:Int)/\∀t:Nat,(shown L).length-c.f.toNat<=t->t<(shown L).length->((shown L).getD t []).length=1:=by
   by_cases hne:L=[]
   ·subst hne
    have:=h.cd.fst c rfl
    refine ⟨by omega,fun t h1 h2=>?_⟩
    have:(shown ([]:List Clip)).length=0:=rfl
    omega
   ·have hL2:L=L.dropLast++[L.getLast hne]:=(Dg hne).symm
    have hla:c.f<=(L.getLast hne).cnt-(L.getLast hne).f:=by
     rw [hL2] at h
     exact h.last
    have hb:=ih.big _ _ hL2
    exact ⟨by omega,fun t h1 h2=>ih.one _ _ hL2 t 'b' h2⟩
  obtain ⟨r1,r2⟩:=room
  have esh:shown (L++[c])=shK (shown L) c ((shown L).length-c.f.toNat) c.cnt:=fZ L c
  have elen:((shown (L++[c])).length:Int)=((shown L).length:Int)+((c.cnt:Int)-c.f):=wf c0 c1
  have hm:=nW (S:=shown L) (c:=c) (B:=(shown L).length-c.f.toNat) c0 'b' r2 c.cnt (Bb _)
  have em:moments (L++[c])=moments L++c.ms:=by rw [aX,bn]
  refine ⟨ih.sd.push c0 c1 r1 (hr c 'e'),?_,fun t=>?_,fun L' d e t h1 h2=>?_,fun L' d e=>?_⟩
  ·rw [elen,em,gO,(gN c _).2,ih.len]
   omega
  ·rw [esh,hm t,ih.cv t,em,u8]
   congr 1
   unfold blk
   rw [<- ih.len]
   by_cases hc:(shown L).length-c.f.toNat<=t/\t<(shown L).length-c.f.toNat+c.cnt
   ·rw [if_pos hc,if_pos 'b']
    rw [show ((t:Int)-(((shown L).length-c.f.toNat:Nat):Int))=(t:Int)-(((shown L).length:Int)-c.f) by omega]
   ·rw [if_neg hc,if_neg 'b']
  ·have:=(List.append_inj' e rfl).2
   cases this
   have hmt:=hm t
   rw [<- esh] at hmt
   have h3:=congrArg Ce hmt
   rw [A2,Bd,A2] at h3
   have e0:(shown L).getD t []=[]:=by rw [A7,Cm 'b']; rfl
   rw [e0,if_pos 'b'] at h3
   exact h3
  ·have:=(List.append_inj' e rfl).2
   cases this
   rw [elen]
   omega
def ba (S:List Clip) (t:Int) (k:Nat):Bool:=decide (bgA S k<=t/\t<aH S (k+1))
def xk (S:List Clip) (t:Int) (k:Nat):Fr:=((clA S k).reel,(clA S k).a+(t-bgA S k)*(clA S k).way)
theorem ee (S:List Clip):∀k,k<=S.length->fT 0 (moments (S.take k))=aH S k
 | 0,_=>rfl
 | k+1,hk=>by
  have hg:S[k]?=some S[k]:=A4 'b'
  rw [Cf,hg]
  show fT 0 (moments (S.take k++[S[k]]))=_
  rw [aX,bn,gO,(gN _ _).2,ee S k 'b']
  show _=aH S k-(clA S k).f+(clA S k).cnt
  rw [bA hg]
theorem pE (S:List Clip) (t:Int):∀k,k<=S.length->Cv (moments (S.take k)) t=((Bh k).filter (ba S t)).map (xk S t)
 | 0,_=>rfl
 | k+1,hk=>by
  have hg:S[k]?=some S[k]:=A4 'b'
  rw [Cf,hg]
  show Cv (moments (S.take k++[S[k]])) t=_
  rw [aX,bn,u8,pE S t k 'b',ee S k 'b',Dx,CN,Bf]
  congr 1
  have hb:bgA S k=aH S k-S[k].f:=by unfold bgA; rw [bA hg]
  have he:aH S (k+1)=aH S k-S[k].f+S[k].cnt:=by
   show aH S k-(clA S k).f+(clA S k).cnt=_
   rw [bA hg]
  unfold blk
  by_cases hc:aH S k-S[k].f<=t/\t<aH S k-S[k].f+S[k].cnt
  ·have hcv:ba S t k=true:=decide_eq_true (by rw [hb,he]; exact hc)
   rw [if_pos hc,CO,if_pos hcv]
   show _=[xk S t k]
   unfold xk
   rw [bA hg,hb]
  ·have hcv:¬ ba S t k=true:=fun z=>hc (by have:=of_decide_eq_true z; rw [hb,he] at this; exact this)
   rw [if_neg hc,CO,if_neg hcv]
   rfl
theorem q8 (S:List Clip) (t:Int):Cv (moments S) t=((Bh S.length).filter (ba S t)).map (xk S t):=by
 have:=pE S t S.length (Bb _)
 rw [B4] at this
 exact this
structure Ly (S:List Clip):Prop where
 up:∀k,k+1<S.length->bgA S k<=bgA S (k+1)
 two:∀k,k+2<S.length->aH S (k+1)<=bgA S (k+2)
theorem t_ {S:List Clip}(sn:Sw S) (ns:∀k,¬ bM S 0 k):Ly S:=by
 have get:∀k,k<S.length->S[k]?=some (clA S k):=fun k hk=>by
  have:=A4 hk
  rw [this,bA this]
 have gap:∀k,1<=k->k+1<S.length->0<=eK S k:=fun k h1 h2=>by
  by_cases z:eK S k<0
  ·exact absurd ⟨h1,h2,z⟩ (ns k)
  ·omega
 refine ⟨fun k hk=>?_,fun k hk=>?_⟩
 ·show _<=aH S k-(clA S k).f+(clA S k).cnt-(clA S (k+1)).f
  show aH S k-(clA S k).f<=_
  cases k with
  | zero =>
   have:=sn.snd _ _ (get 0 'b') (get 1 'b')
   show aH S 0-(clA S 0).f<=aH S 0-(clA S 0).f+(clA S 0).cnt-(clA S 1).f
   omega
  | succ k =>
   have h1:=gap (k+1) 'b' hk
   have h2:=sn.pos _ (Bg (get (k+1) 'b'))
   unfold eK at h1
   omega
 ·have h1:=gap (k+1) 'b' hk
  unfold eK at h1
  show _<=aH S (k+1)-(clA S (k+1)).f+(clA S (k+1)).cnt-(clA S (k+1+1)).f
  omega
theorem Ly.mono {S:List Clip}(h:Ly S) {i:Nat}:∀(d:Nat),i+d<S.length->bgA S i<=bgA S (i+d)
 | 0,_=>Ci _
 | d+1,hd=>Int.le_trans (h.mono d 'b') (h.up (i+d) 'b')
theorem Ly.apart {S:List Clip}(h:Ly S) {t:Int}{i j:Nat}(hij:i<j) (hj:j<S.length) (ci:ba S t i=true) (cj:ba S t j=true):j=i+1:=by
 have a:=of_decide_eq_true ci
 have b:=of_decide_eq_true cj
 by_cases z:j=i+1
 ·exact z
 ·have h1:=h.two i 'b'
  have h2:=h.mono (i:=i+2) (j-(i+2)) 'b'
  rw [show i+2+(j-(i+2))=j by omega] at h2
  omega
theorem Ly.few {S:List Clip}(h:Ly S) (t:Int):(Bh S.length).filter (ba S t)=[]\/(∃k,(Bh S.length).filter (ba S t)=[k])\/∃k,(Bh S.length).filter (ba S t)=[k,k+1]:=by
 have mem:∀k∈(Bh S.length).filter (ba S t),k<S.length/\ba S t k=true:=fun k hk=>by
  obtain ⟨h1,h2⟩:=C6.mp hk
  exact ⟨BW.mp h1,h2⟩
 have pw:((Bh S.length).filter (ba S t)).Pairwise (·<·):=Ep.filter _ ES
 generalize (Bh S.length).filter (ba S t)=K at *
 match K,mem,pw with
 | [],_,_=>exact .inl rfl
 | [k],_,_=>exact .inr (.inl ⟨k,rfl⟩)
 | [j,k],mem,pw =>
  have hjk:j<k:=(CF.mp pw).1 k 'e'
  have:=h.apart hjk (mem k 'e').1 (mem j 'e').2 (mem k 'e').2
  exact .inr (.inr ⟨j,by rw [this]⟩)
 | i :: j :: k :: r,mem,pw =>
  obtain ⟨p1,p2⟩:=CF.mp pw
  obtain ⟨p3,p4⟩:=CF.mp p2
  have e1:=h.apart (p1 j 'e') (mem j 'e').1 (mem i 'e').2 (mem j 'e').2
  have e2:=h.apart (p1 k 'e') (mem k 'e').1 (mem i 'e').2 (mem k 'e').2
  have:=p3 k 'e'
  omega
theorem gX {S:List Clip}(sn:Sw S) (ns:∀k,¬ bM S 0 k) (fi:Nat) (hf:fi<=1):∀i,i<=aL S fi->((aC S (bq S fi i)).length:Int)=cg S fi i /\
  ∀t:Nat,t<(aC S (bq S fi i)).length->(∀j,j<i->ba S t (fi+2*j)=true->(aC S (bq S fi i))[t]?=some (some (xk S t (fi+2*j))))/\((∀j,j<i->ba S t (fi+2*j)=false)->(aC S (bq S fi i))[t]?=some none)
 | 0,_=>⟨rfl,fun t ht=>absurd ht (Nat.not_lt_zero _)⟩
 | i+1,h=>by
  have hk:fi+2*i<S.length:=by unfold aL at h; omega
  obtain ⟨ih1,ih2⟩:=gX sn ns fi hf i 'b'
  have hge:=uW sn (Ci 0) ns fi i hf hk
  obtain ⟨d,hd⟩:∃d:Nat,bgA S (fi+2*i)-cg S fi i=(d:Int):=⟨(bgA S (fi+2*i)-cg S fi i).toNat,by omega⟩
  have eld:aC S (ldP (bgA S (fi+2*i)-cg S fi i))=BF d none:=by
   rw [hd]
   unfold ldP
   split
   ·rw [cV]
    unfold bV
    rw [if_pos rfl]
    show BF ((d:Int)).toNat none=_
    rw [Cy]
   ·have:d=0:=by omega
    subst this
    rfl
  have est:aC S [(⟨false,((fi+2*i:Nat):Int)⟩:Th)]=(clA S (fi+2*i)).nums.map fun x=>some ((clA S (fi+2*i)).reel,x):=by
   rw [cV]
   unfold bV
   rw [if_neg Bx,Cy]
  have esh:aC S (bq S fi (i+1))=aC S (bq S fi i)++BF d none++((clA S (fi+2*i)).nums.map fun x=>some ((clA S (fi+2*i)).reel,x)):=by
   show aC S (bq S fi i++ldP _++[_])=_
   rw [b_,b_,eld,est]
  have eend:cg S fi (i+1)=bgA S (fi+2*i)+(clA S (fi+2*i)).cnt:=rfl
  have eend2:aH S (fi+2*i+1)=bgA S (fi+2*i)+(clA S (fi+2*i)).cnt:=rfl
  have old:∀j,j<i->aH S (fi+2*j+1)<=cg S fi i:=fun j hj=>by
   have ly:=t_ sn ns
   have h1:∀dd,j+1+dd=i->aH S (fi+2*j+1)<=cg S fi i:=fun dd hdd=>by
    have e:cg S fi i=aH S (fi+2*(j+dd)+1):=by
     rw [<- hdd,show j+1+dd=(j+dd)+1 by omega]
     rfl
    rw [e]
    cases dd with
    | zero=>exact Ci _
    | succ dd =>
     have h2:=ly.two (fi+2*j) 'b'
     have h3:=ly.mono (i:=fi+2*j+2) (2*dd) 'b'
     rw [show fi+2*(j+(dd+1))+1=fi+2*j+2+2*dd+1 by omega]
     have h4:aH S (fi+2*j+2+2*dd+1)=bgA S (fi+2*j+2+2*dd)+(clA S (fi+2*j+2+2*dd)).cnt:=rfl
     omega
   exact h1 (i-(j+1)) 'b'
  refine ⟨?_,fun t ht=>?_⟩
  ·rw [esh,Bd,Bd,CG,A2,Clip.nums_len,eend]
   omega
  ·rw [esh,Bd,Bd,CG,A2,Clip.nums_len] at ht
   rw [esh]
   by_cases t1:t<(aC S (bq S fi i)).length
   ·rw [Cj,Bk t1]
    obtain ⟨g1,g2⟩:=ih2 t t1
    have nk:ba S t (fi+2*i)=false:=decide_eq_false 'b'
    refine ⟨fun j hj hc=>?_,fun hn=>g2 fun j hj=>hn j 'b'⟩
    by_cases z:j=i
    ·subst z
     rw [nk] at hc
     cases hc
    ·exact g1 j 'b' hc
   ·have no:∀j,j<i->ba S t (fi+2*j)=false:=fun j hj=>decide_eq_false (by have:=old j hj; omega)
    by_cases t2:t<(aC S (bq S fi i)).length+d
    ·have nk:ba S t (fi+2*i)=false:=decide_eq_false 'b'
     have e:(aC S (bq S fi i)++BF d none++((clA S (fi+2*i)).nums.map fun x=>some ((clA S (fi+2*i)).reel,x)))[t]?=some none:=by
      rw [Bk (by rw [Bd,CG]; exact t2),Bm 'b',FD,if_pos 'b']
     refine ⟨fun j hj hc=>?_,fun _=>e⟩
     by_cases z:j=i
     ·subst z
      rw [nk] at hc
      cases hc
     ·rw [no j 'b'] at hc
      cases hc
    ·have e:(aC S (bq S fi i)++BF d none++((clA S (fi+2*i)).nums.map fun x=>some ((clA S (fi+2*i)).reel,x)))[t]?=some (some (xk S t (fi+2*i))):=by
      rw [Bm (by rw [Bd,CG]; omega),Bd,CG,A5,dS 'b']
      show some (some _)=some (some _)
      unfold xk
      rw [show ((t-((aC S (bq S fi i)).length+d):Nat):Int)=(t:Int)-bgA S (fi+2*i) by omega]
     have ck:ba S t (fi+2*i)=true:=decide_eq_true 'b'
     refine ⟨fun j hj hc=>?_,fun hn=>?_⟩
     ·by_cases z:j=i
      ·subst z
       exact e
      ·rw [no j 'b'] at hc
       cases hc
     ·have:=hn i 'b'
      rw [ck] at this
      cases this
theorem kD {S:List Clip}(sn:Sw S) (ns:∀k,¬ bM S 0 k) (fi:Nat) (hf:fi<=1) (t:Nat) (ht:(t:Int)<aH S S.length) :
  (∀k,k<S.length->k % 2=fi->ba S t k=true->(aC S (bi S fi))[t]?=some (some (xk S t k)))/\((∀k,k<S.length->k % 2=fi->ba S t k=false)->(aC S (bi S fi))[t]?=some none):=by
 obtain ⟨h1,h2⟩:=gX sn ns fi hf (aL S fi) (Bb _)
 have hge:=oQ sn fi hf
 obtain ⟨d,hd⟩:∃d:Nat,aH S S.length-cg S fi (aL S fi)=(d:Int):=⟨(aH S S.length-cg S fi (aL S fi)).toNat,by omega⟩
 have eld:aC S (ldP (aH S S.length-cg S fi (aL S fi)))=BF d none:=by
  rw [hd]
  unfold ldP
  split
  ·rw [cV]
   unfold bV
   rw [if_pos rfl]
   show BF ((d:Int)).toNat none=_
   rw [Cy]
  ·have:d=0:=by omega
   subst this
   rfl
 have esh:aC S (bi S fi)=aC S (bq S fi (aL S fi))++BF d none:=by
  unfold bi
  rw [b_,eld]
 have ix:∀k,k<S.length->k % 2=fi->∃j,j<aL S fi/\k=fi+2*j:=fun k hk hp=>⟨k / 2,by unfold aL; omega,by omega⟩
 rw [esh]
 by_cases t1:t<(aC S (bq S fi (aL S fi))).length
 ·rw [Bk t1]
  obtain ⟨g1,g2⟩:=h2 t t1
  refine ⟨fun k hk hp hc=>?_,fun hn=>g2 fun j hj=>hn (fi+2*j) (by unfold aL at hj; omega) 'b'⟩
  obtain ⟨j,hj,rfl⟩:=ix k hk hp
  exact g1 j hj hc
 ·have e:(aC S (bq S fi (aL S fi))++BF d none)[t]?=some none:=by
   rw [Bm 'b',FD,if_pos 'b']
  refine ⟨fun k hk hp hc=>?_,fun _=>e⟩
  exfalso
  obtain ⟨j,hj,rfl⟩:=ix k hk hp
  have hc:=of_decide_eq_true hc
  have ly:=t_ sn ns
  have h3:aH S (fi+2*j+1)<=cg S fi (aL S fi):=by
   have h4:∀dd,j+1+dd=aL S fi->aH S (fi+2*j+1)<=cg S fi (aL S fi):=fun dd hdd=>by
    have e:cg S fi (aL S fi)=aH S (fi+2*(j+dd)+1):=by
     rw [<- hdd,show j+1+dd=(j+dd)+1 by omega]
     rfl
    rw [e]
    cases dd with
    | zero=>exact Ci _
    | succ dd =>
     have hm:fi+2*(j+(dd+1))<S.length:=by unfold aL at hdd; omega
     have h5:=ly.two (fi+2*j) 'b'
     have h6:=ly.mono (i:=fi+2*j+2) (2*dd) 'b'
     rw [show fi+2*(j+(dd+1))+1=fi+2*j+2+2*dd+1 by omega]
     have h7:aH S (fi+2*j+2+2*dd+1)=bgA S (fi+2*j+2+2*dd)+(clA S (fi+2*j+2+2*dd)).cnt:=rfl
     omega
   exact h4 (aL S fi-(j+1)) 'b'
  omega
def there (u v:Mv):List Fr:=[u,v].filterMap id
theorem qp {S:List Clip}(sn:Sw S) (ns:∀k,¬ bM S 0 k) (t:Nat) (ht:(t:Int)<aH S S.length) :
  ∃u v,(aC S (bi S 0))[t]?=some u/\(aC S (bi S 1))[t]?=some v/\(Cv (moments S) t=there u v\/Cv (moments S) t=(there u v).reverse):=by
 obtain ⟨a1,a2⟩:=kD sn ns 0 'f' t ht
 obtain ⟨b1,b2⟩:=kD sn ns 1 'f' t ht
 rw [q8]
 have mem:∀k,k∈(Bh S.length).filter (ba S t)↔k<S.length/\ba S t k=true:=fun k=>by
  rw [C6,BW]
 have not:∀k,k<S.length->k ∉ (Bh S.length).filter (ba S t)->ba S t k=false:=fun k hk hn=>by
  cases hc:ba S t k with
  | false=>rfl
  | true=>exact absurd ((mem k).mpr ⟨hk,hc⟩) hn
 rcases (t_ sn ns).few t with e | ⟨k,e⟩ | ⟨k,e⟩
 ·rw [e] at mem not ⊢
  refine ⟨none,none,a2 fun k hk _=>not k hk 'e',b2 fun k hk _=>not k hk 'e',.inl rfl⟩
 ·rw [e] at mem not ⊢
  obtain ⟨hk,hc⟩:=(mem k).mp 'e'
  by_cases par:k % 2=0
  ·exact ⟨some _,none,a1 k hk par hc,b2 fun j hj hp=>not j hj (by simp; omega),.inl rfl⟩
  ·exact ⟨none,some _,a2 fun j hj hp=>not j hj (by simp; omega),b1 k hk 'b' hc,.inl rfl⟩
 ·rw [e] at mem not ⊢
  obtain ⟨hk,hc⟩:=(mem k).mp 'e'
  obtain ⟨hk',hc'⟩:=(mem (k+1)).mp 'e'
  by_cases par:k % 2=0
  ·exact ⟨some _,some _,a1 k hk par hc,b1 (k+1) hk' 'b' hc',.inl rfl⟩
  ·exact ⟨some _,some _,a1 (k+1) hk' 'b' hc',b1 k hk 'b' hc,.inr rfl⟩
end KS
namespace L2
open PySem PySem.Spec PyProof.Rows
def Itz (K:Ba) (a b:Addr):It :=
  ⟨fun i H=>∃xs ys x y,SqL K H a xs/\SqL K H b ys/\xs[i]?=some x/\ys[i]?=some y,
   fun i H x H'=>∃p v w,x=.ref p/\H p=none/\H'=upd H p (.tup [v,w])/\(∀xs,SqL K H a xs->xs[i]?=some v)/\(∀ys,SqL K H b ys->ys[i]?=some w),
   fun i H=>∃xs ys,SqL K H a xs/\SqL K H b ys/\(xs.length<=i\/ys.length<=i)⟩
theorem rj {P:Program}{w:BG}{K:Ba}{elts:List Expr}{x1} {pos:Pos}(a b z TI TO i1 i2:Addr) (D:ZipApart z TI TO i1 i2 a b) :
  m5 P w K (.Tuple elts x1 pos) (Itz K a b) [z,TI,TO,i1,i2] z (fun i h=>IsZip h z TI TO .none/\IsPair h TI (.ref i1) (.ref i2)/\(∃u v,IsPair h TO u v)/\h.IsListIter i1 a i/\h.IsListIter i2 b i) where
 mem:=by simp
 obj:=fun i h st c hc=>by
  obtain ⟨hz,hTI,⟨u,v,hTO⟩,⟨o1,e1,c1,d1⟩,⟨o2,e2,c2,d2⟩⟩:=st
  have hc':c=z\/c=TI\/c=TO\/c=i1\/c=i2:=by simpa using hc
  rcases hc' with rfl | rfl | rfl | rfl | rfl
  ·exact ⟨_,hz,fun v z=>by
    have z':Data.fields _=Data.cell v:=z
    cases z'⟩
  ·exact ⟨_,hTI,fun v z=>by
    have z':Data.seq _ _=Data.cell v:=z
    cases z'⟩
  ·exact ⟨_,hTO,fun v z=>by
    have z':Data.seq _ _=Data.cell v:=z
    cases z'⟩
  ·exact ⟨o1,e1,fun v z=>by rw [d1] at z; cases z⟩
  ·exact ⟨o2,e2,fun v z=>by rw [d2] at z; cases z⟩
 keep:=fun i h h' st k=>by
  obtain ⟨hz,hTI,⟨u,v,hTO⟩,h1,h2⟩:=st
  exact ⟨k z 'e' _ hz,k TI 'e' _ hTI,⟨u,v,k TO 'e' _ hTO⟩,h1.at fun o q=>k i1 'e' o q,h2.at fun o q=>k i2 'e' o q⟩
 item:=by
  intro X hP hw hK hc i pins s σ H E I hf st hg
  subst hP hw hK
  obtain ⟨xs,ys,x,y,hq1,hq2,hx,hy⟩:=hg
  obtain ⟨hz,hTI,⟨u0,v0,hTO⟩,h1,h2⟩:=st
  obtain ⟨its1,rv1,p1,hz1⟩:=I.list hq1
  obtain ⟨its2,rv2,p2,hz2⟩:=I.list hq2
  obtain ⟨u,hu,ru⟩:=rv1.get hx
  obtain ⟨v,hv,rv⟩:=rv2.get hy
  refine wpAny_pyNext_zip_item D hz hTI hTO h1 h2 p1.isList p2.isList (x:=u) (y:=v) (by simpa using hu) (by simpa using hv) fun g1 a1 a2 a3 a4 a5 a6 hk=>?_
  refine ⟨_,rfl,wpAny_letOwnedTupleGo_zip (s:={ s with heap:=g1 }) a1 fun g2 hz2' hs2=>?_⟩
  have hs2':Ca z g1 g2:=hs2
  have nH:H 'n'=none:=I.hok.fresh (Bb _)
  have lt:∀c∈[z,TI,TO,i1,i2],c<'n':=fun c hc=>by
   have hc':c=z\/c=TI\/c=TO\/c=i1\/c=i2:=by simpa using hc
   rcases hc' with rfl | rfl | rfl | rfl | rfl
   ·exact Bi hz
   ·exact Bi hTI
   ·exact Bi hTO
   ·obtain ⟨o,e,_⟩:=id h1; exact Bi e
   ·obtain ⟨o,e,_⟩:=id h2; exact Bi e
  have ht2:g2.get? 'n'=some { cls:=.type "tuple",data:=.seq #[u,v] }:=(hs2'.2 _ (Gu (lt z 'e'))).trans a5
  have pg:(s.heap.push { cls:=.type "tuple",data:=.seq #[u,v] }).get? 'n'=some { cls:=.type "tuple",data:=.seq #[u,v] }:=Bj _ rfl
  have J1:=I.laid (a:='n') (o:=.tup [x,y]) (h':=s.heap.push { cls:=.type "tuple",data:=.seq #[u,v] }) (t':=s.toks) (fun b v z=>A6 _ z) (Bb _)
   ⟨'i',[u,v],.cons ru (.cons rv .nil),⟨_,pg,rfl,_,rfl⟩⟩
  have fp':∀c∈[z,TI,TO,i1,i2],bU X pins (upd H 'n' (.tup [x,y])) c:=fun c hc=>by
   obtain ⟨f0,f1,f2,f3,f4,f5⟩:=hf c hc
   refine ⟨?_,f1,f2,f3,f4,f5⟩
   rw [ah (Bw (lt c hc))]
   exact f0
  have J2:=J1.turnedL (h':=g2) (t':=s.toks) (ch:=[z,TI,TO,i1,i2]) (fun c o hc zz=>by
   have n1:c≠z:=fun y=>hc (by simp [y])
   have n2:c≠TO:=fun y=>hc (by simp [y])
   have n3:c≠i1:=fun y=>hc (by simp [y])
   have n4:c≠i2:=fun y=>hc (by simp [y])
   by_cases hp:c='n'
   ·subst hp
    have z':'n'='n'->(s.heap.push { cls:=.type "tuple",data:=.seq #[u,v] }).get? 'n'=some o:=fun _=>zz
    rw [pg] at z'
    have:=z' rfl
    cases this
    exact ht2
   ·have z2:s.heap.get? c=some o:=dX zz hp
    exact (hs2'.2 c n1).trans (hk c o n1 n2 n3 n4 z2)) fp'
  refine ⟨.ref 'n',_,J2,rfl,⟨_,x,y,rfl,nH,rfl,fun l hl=>by rw [I.list_inj hl hq1]; exact hx,fun l hl=>by rw [I.list_inj hl hq2]; exact hy⟩,⟨hz2',?_,⟨u,v,?_⟩,?_,?_⟩,fun c hc=>(fp' c hc).1⟩
  ·exact (hs2'.2 _ D.TIz).trans (hk _ _ D.TIz D.TITO D.TIi1 D.TIi2 hTI)
  ·exact (hs2'.2 _ D.TOz).trans a2
  ·exact a3.at fun o q=>(hs2'.2 _ D.i1z).trans q
  ·exact a4.at fun o q=>(hs2'.2 _ D.i2z).trans q
 done:=by
  intro X hP hw hK hc i pins s σ H E I hf st hg
  subst hP hw hK
  obtain ⟨xs,ys,hq1,hq2,hx⟩:=hg
  obtain ⟨hz,hTI,⟨u0,v0,hTO⟩,h1,h2⟩:=st
  obtain ⟨its1,rv1,p1,hz1⟩:=I.list hq1
  obtain ⟨its2,rv2,p2,hz2⟩:=I.list hq2
  have hl1:=rv1.length
  have hl2:=rv2.length
  refine wpAny_pyNext_zip_end (I.ok.hd hc) D hz hTI hTO h1 h2 p1.isList p2.isList ?_ fun h' eb=>⟨rfl,I.turnedL (t':=s.toks) (ch:=[z,TI,TO,i1,i2]) (fun c o hc zz=>eb c o (fun y=>hc (by simp [y])) (fun y=>hc (by simp [y])) (fun y=>hc (by simp [y])) (fun y=>hc (by simp [y])) zz) hf⟩
  rcases hx with q | q
  ·left; simp; omega
  ·right; simp; omega
 self:=fun _ _ _ _ _ st h=>by
  obtain ⟨hz,_⟩:=st
  exact wpAny_pyIter_zip hz h
def As (K:Ba) (ta:TA):TI:=fun σ H R=>ta σ H fun vs H1=>∃a b,vs=[.ref a,.ref b]/\(∃xs,SqL K H1 a xs)/\(∃ys,SqL K H1 b ys)/\R (Itz K a b) H1
section
variable {X:Cx}
theorem yp {elts:List Expr}{x1} {tpos p pos:Pos}{a b:Expr}{ta:TA}(hg:Gl X "zip") (hm:X.mg "zip"=none) (hbt:C8 "zip"=some (.type "zip")) (ha:PA X [a,b] ta) (h1:au a=true) (h2:au b=true) :
  PI X (.Tuple elts x1 tpos) (.Call (.Name "zip" p) [a,b] [] pos) (As X.K ta):=by
 intro pins s σ H R I h
 refine GG (bp I hg hm hbt (BU (thn (ha pos pins s σ H _ I h) fun us s1 ⟨vs,H1,I1,r1,q1⟩=>?_) (aq h1) (bc (by simp [h2]))))
 obtain ⟨a,b,rfl,⟨xs,hq1⟩,⟨ys,hq2⟩,q⟩:=q1
 cases r1 with
 | cons r rr =>
  cases rr with
  | cons r' rr =>
   cases rr
   cases r
   cases r'
   obtain ⟨its1,rv1,p1,hz1⟩:=I1.list hq1
   obtain ⟨its2,rv2,p2,hz2⟩:=I1.list hq2
   refine call_zip_2 p1.isList p2.isList fun h' he hTI hTO hi1 hi2 hsz hk=>?_
   refine wpAny_pyIter_zip he ?_
   have I2:Inv X pins σ H1 { s1 with heap:=h' }:=I1.kept (t':=s1.toks) hk
   have la:a<s1.heap.objs.size:=by obtain ⟨o,e,_⟩:=p1.isList; exact Bi e
   have lb:b<s1.heap.objs.size:=by obtain ⟨o,e,_⟩:=p2.isList; exact Bi e
   have up:∀(m k:Nat),m<s1.heap.objs.size->m≠s1.heap.objs.size+k:=fun m k h=>Bw (BO h (Fh _ k))
   have nk:∀j k:Nat,j≠k->s1.heap.objs.size+j≠s1.heap.objs.size+k:=fun j k h z=>h (Nat.add_left_cancel z)
   have n0:∀k:Nat,0≠k->s1.heap.objs.size≠s1.heap.objs.size+k:=fun k h z=>nk 0 k h z
   have D:ZipApart (s1.heap.objs.size+4) (s1.heap.objs.size+2) (s1.heap.objs.size+3) s1.heap.objs.size (s1.heap.objs.size+1) a b :=
    ⟨nk 2 4 'f',nk 3 4 'f',n0 4 'f',nk 1 4 'f',nk 2 3 'f',(n0 2 'f').symm,nk 2 1 'f',(n0 3 'f').symm,nk 3 1 'f',n0 1 'f',up a 4 la,up a 3 la,Bw la,up a 1 la,up b 4 lb,up b 3 lb,Bw lb,up b 1 lb⟩
   refine ⟨s1.heap.objs.size+4,[s1.heap.objs.size+4,s1.heap.objs.size+2,s1.heap.objs.size+3,s1.heap.objs.size,s1.heap.objs.size+1],_,_,H1,rfl,I2,rj a b _ _ _ _ _ D,⟨he,hTI,⟨_,_,hTO⟩,hi1,hi2⟩,fun c hc=>?_,q⟩
   have hc':s1.heap.objs.size<=c:=by
    have hc'':c=s1.heap.objs.size+4\/c=s1.heap.objs.size+2\/c=s1.heap.objs.size+3\/c=s1.heap.objs.size\/c=s1.heap.objs.size+1:=by simpa using hc
    rcases hc'' with rfl | rfl | rfl | rfl | rfl
    ·exact Fh _ 4
    ·exact Fh _ 2
    ·exact Fh _ 3
    ·exact Bb _
    ·exact Fh _ 1
   exact I1.fpOk hc' (I1.hok.fresh hc')
theorem Ar {elts:List Expr}{x1} {tpos p pos:Pos}{a b:Expr}{t u:TE}(hm:X.mg "zip"=none) (ha:QE X a t) (hb:QE X b u) (hg:X.env.kindOf "zip"=some .globalImplicit:=by kernel_rfl) (h1:au a=true:=by rfl) (h2:au b=true:=by rfl) :
  QI X (.Tuple elts x1 tpos) (.Call (.Name "zip" p) [a,b] [] pos) (As X.K (bB t (bB u fV))):=⟨yp hg hm 'd' (pa' ha.h (pa' hb.h bO h2) h1) h1 h2⟩
theorem wx {K:Ba}{a b:Addr}{xs ys:List V}{g:TG}{tb:TS}{D:Ends}{σ:St}{H:Hp}(Pv:Nat->St->Hp->Prop) (he:xs.length=ys.length) (h0:Pv 0 σ H) (hl:∀i σ H,i<=xs.length->Pv i σ H->SqL K H a xs/\SqL K H b ys)
  (hs:∀i x y σ H p,xs[i]?=some x->ys[i]?=some y->Pv i σ H->H p=none->g (.ref p) σ (upd H p (.tup [x,y])) fun σ2 H2=>tb { D with nx:=Pv (i+1),ct:=Pv (i+1),bk:=D.nx } σ2 H2) (hd:∀ σ H,Pv xs.length σ H->D.nx σ H) :
  ∃W:Nat->Nat->St->Hp->Prop,(∃m,W 0 m σ H)/\∀i m σ H,W i m σ H ->
   ((Itz K a b).stop i H/\D.nx σ H)\/((Itz K a b).go i H/\∃N:St->Hp->Prop,(∀ σ' H',N σ' H'->∃m',m'<m/\W (i+1) m' σ' H')/\∀x H',(Itz K a b).yld i H x H'->g x σ H' fun σ2 H2=>tb { D with nx:=N,ct:=N,bk:=D.nx } σ2 H2):=by
 refine ⟨fun i m σ H=>m=xs.length-i/\i<=xs.length/\Pv i σ H,⟨xs.length,by simp,B6 _,h0⟩,?_⟩
 rintro i m σ H ⟨rfl,hi,p⟩
 obtain ⟨q1,q2⟩:=hl i σ H hi p
 by_cases hlt:i<xs.length
 ·refine .inr ⟨⟨xs,ys,xs[i],ys[i]' 'b',q1,q2,by simp [hlt],A4 'b'⟩,Pv (i+1),fun σ' H' p'=>⟨xs.length-(i+1),by omega,rfl,hlt,p'⟩,fun x H' y=>?_⟩
  obtain ⟨pp,v,w,rfl,hn,rfl,y1,y2⟩:=y
  exact hs i v w σ H pp (y1 xs q1) (y2 ys q2) p hn
 ·have e:i=xs.length:=by omega
  subst e
  exact .inl ⟨⟨xs,ys,q1,q2,.inl (Bb _)⟩,hd σ H p⟩
end
theorem uS {K:Ba}{a:Addr}{xs:List V}{H:Hp}{cap:St}{te:TE}{Q:VK}(g:Nat->List V) (hS:SqL K H a xs) (hn:xs.length<=sizeLine)
  (el:∀(i:Nat) x H' (P:VK),Same H H'->xs[i]?=some x->(∀r H'',Same H' H''->H'' r=some (.tup (g i))->P (.ref r) H'')->te (some x :: cap) H' P)
  (fin:∀D H' (rs:List Addr),Same H H'->H D=none->H' D=some (.lst (rs.map V.ref))->rs.length=xs.length->(∀(i:Nat) r,rs[i]?=some r->H' r=some (.tup (g i)))->Q (.ref D) H'):d4 (Itl K a) cap te Q H:=by
 intro D hD
 refine ⟨fun i m zs H2=>∃rs:List Addr,m=xs.length-i/\i<=xs.length/\zs=rs.map V.ref/\rs.length=i/\H2 D=some (.lst zs)/\Same H H2/\∀(j:Nat) r,rs[j]?=some r->H2 r=some (.tup (g j)),⟨xs.length,[],rfl,B6 _,rfl,rfl,ac,Same.new hD _,fun j r h=>by cases h⟩,?_⟩
 rintro i m zs H2 ⟨rs,rfl,hi,rfl,hrl,hDz,hS2,hrs⟩
 refine ⟨hDz,?_⟩
 by_cases h:i<xs.length
 ·refine .inr ⟨⟨xs,xs[i],hS2.seq hS,A4 h⟩,?_⟩
  rintro x H3 ⟨rfl,hy⟩
  have hx:=hy xs (hS2.seq hS)
  refine el i x H3 _ hS2 hx fun r H4 hS4 hr=>⟨hS4 _ _ hDz,by rw [A2]; omega,xs.length-(i+1),by omega,rs++[r],rfl,h,by rw [Bf]; rfl,by rw [Bd,hrl]; rfl,ac,fun b u q=>?_,fun j r' hj=>?_⟩
  ·rw [ah (ak q hD)]
   exact hS4 _ _ (hS2 _ _ q)
  ·have nD:∀r'' xs',H4 r''=some (.tup xs')->r''≠D:=fun r'' xs' e=>aK e (hS4 _ _ hDz) 'c'
   by_cases hji:j<rs.length
   ·rw [Bk hji] at hj
    have e:=hS4 _ _ (hrs j r' hj)
    rw [ah (nD _ _ e)]
    exact e
   ·have hl:=(A8.mp hj).1
    rw [Bd,BZ] at hl
    have:j=i:=by omega
    subst this
    rw [Bm 'b',show j-rs.length=0 by omega] at hj
    cases hj
    rw [ah (nD _ _ hr)]
    exact hr
 ·have e:i=xs.length:=by omega
  subst e
  exact .inl ⟨⟨xs,hS2.seq hS,Bb _⟩,fin D H2 rs hS2 hD hDz hrl hrs⟩
section
variable {X:Cx}
end
end L2
namespace IT
open PySem
section
variable {T:Str->Prop}{G:Str->List It->Prop}
end
section
variable {T:Str->Prop}{G:Str->List It->Prop}
end
end IT
namespace DT
open PySem L2 G
mutual
inductive Td (H:Hp):V->PyData->Prop
 | int (i:Int):Td H (.int i) (.int i)
 | str (x:Str):Td H (.str x) (.str x)
 | tup {a:Addr}{vs:List V}{ds:List PyData}:H a=some (.tup vs)->Tds H vs ds->Td H (.ref a) (.tuple ds)
inductive Tds (H:Hp):List V->List PyData->Prop
 | nil:Tds H [] []
 | cons {v:V}{vs:List V}{d:PyData}{ds:List PyData}:Td H v d->Tds H vs ds->Tds H (v :: vs) (d :: ds)
end
def TK (H H':Hp):Prop:=∀a xs,H a=some (.tup xs)->H' a=some (.tup xs)
theorem TK.of {H H':Hp}(s:Same H H'):TK H H':=fun _ _ h=>s _ _ h
theorem TK.lst {H:Hp}{p:Addr}{xs:List V}{o:HO}(h:H p=some (.lst xs)):TK H (upd H p o):=fun a ys e=>by rw [ah (aK e h 'c')]; exact e
mutual
theorem Td.tk {H H':Hp}(t:TK H H'):∀{v:V}{d:PyData},Td H v d->Td H' v d
 | _,_,.int i=>.int i
 | _,_,.str x=>.str x
 | _,_,.tup h r=>.tup (t _ _ h) (r.tk t)
theorem Tds.tk {H H':Hp}(t:TK H H'):∀{vs:List V}{ds:List PyData},Tds H vs ds->Tds H' vs ds
 | _,_,.nil=>.nil
 | _,_,.cons h r=>.cons (h.tk t) (r.tk t)
end
theorem Tds.len {H:Hp}:∀{vs:List V}{ds:List PyData},Tds H vs ds->vs.length=ds.length
 | _,_,.nil=>rfl
 | _,_,.cons _ r=>by rw [BK,BK,r.len]
theorem Tds.app {H:Hp}:∀{vs us:List V}{ds es:List PyData},Tds H vs ds->Tds H us es->Tds H (vs++us) (ds++es)
 | _,_,_,_,.nil,h=>h
 | _,_,_,_,.cons a r,h=>.cons a (r.app h)
theorem Tds.get {H:Hp}:∀{vs:List V}{ds:List PyData}{i:Nat}{v:V},Tds H vs ds->vs[i]?=some v->∃d,ds[i]?=some d/\Td H v d
 | _,_,0,_,.cons h _,e=>by cases e; exact ⟨_,rfl,h⟩
 | _,_,i+1,_,.cons _ r,e=>r.get (i:=i) e
theorem Tds.at {H:Hp}:∀{vs:List V}{ds:List PyData}{i:Nat}{d:PyData},Tds H vs ds->ds[i]?=some d->∃v,vs[i]?=some v/\Td H v d
 | _,_,0,_,.cons h _,e=>by cases e; exact ⟨_,rfl,h⟩
 | _,_,i+1,_,.cons _ r,e=>r.at (i:=i) e
theorem Td.tinv {H:Hp}{v:V}{ds:List PyData}(h:Td H v (.tuple ds)):∃a vs,v=.ref a/\H a=some (.tup vs)/\Tds H vs ds:=by
 cases h with
 | tup h r=>exact ⟨_,_,rfl,h,r⟩
theorem Td.sinv {H:Hp}{v:V}{x:Str}(h:Td H v (.str x)):v=.str x:=by cases h; rfl
theorem Td.iinv {H:Hp}{v:V}{x:Int}(h:Td H v (.int x)):v=.int x:=by cases h; rfl
open IT
theorem iteN {c:Bool}{A B:Prop}(h:c=false) (b:B):if c=true then A else B:=by rw [h]; exact dW b
theorem iteY {c:Bool}{A B:Prop}(h:c=true) (a:A):if c=true then A else B:=by rw [h]; exact iG a
end DT
namespace L2
open PySem PySem.Spec PyProof.Rows
def rK (wi:TI) (js:List Nat) (tc:TT) (te:TE):TE:=fun σ H Q=>wi σ H fun J H1=>CompedF J (cR σ js) tc te Q H1
theorem nX {X:Cx}{i:Nat}{y0:Str}{py spos:Pos}{x:Str}{px pos:Pos}{elt iter cnd:Expr}{sc:Scope}{wi:TI}{te:TE}{tc:TT}(hN:X.N.Nodup) (ys:List Str) (js:List Nat) (cl:List (Str×Addr)) (hclos:Es sc X.env=pure cl) (hcap:Caps X sc cl ys js) (hin:ClIn X.env cl)
  (hi:QI X.nox (.Name x px) iter wi) (hcd:∀s2 H2 C ex,QT (aR X sc (x :: ys) cl s2 H2 C ex) cnd tc) (he:∀s2 H2 C ex,QE (aR X sc (x :: ys) cl s2 H2 C ex) elt te) (sd:CSd X sc cl:=by exact ⟨by rfl,by rfl,by rfl,by rfl,by rfl⟩)
  (hx:(Gf sc X.env).names.lookup x=some .local:=by rfl)
  (hnd:(x :: ys).Nodup:=by decide +kernel) (hs:∀v,CV iter X.env v=pure v:=by intro _; rfl) (hi0:X.N[i]?=some y0:=by kernel_rfl) (hy0:X.env.scope.names.lookup y0=some .local:=by kernel_rfl)
  (hsw:Dt (.ListComp elt [⟨.Name x px,iter,[cnd],0⟩] sc pos) (some (.Name y0 py)) spos.line X.env=pure true:=by kernel_rfl) :
  QS X (.Assign [.Name y0 py] (.ListComp elt [⟨.Name x px,iter,[cnd],0⟩] sc pos) spos) (gP (rK wi js tc te) (cu i)) :=
 ⟨mi (xs:=[x]) (fun _ _ _ _ h=>CompedF.up h) Lp.one (Tst.one fun a b c d=>(hcd a b c d).h) hclos sd hcap hin hi.h (fun _ _ _ _=>eA hnd rfl (.inl hx) (.inr hx)) (fun a b c d=>(he a b c d).h) hs hN hi0 hy0 hsw⟩
theorem fL {X:Cx}{i:Nat}{x:Str}{pos:Pos}(hN:X.N.Nodup) (hfn:X.fn x=true:=by rfl) (hi:X.N[i]?=some x:=by kernel_rfl) (hx:X.env.scope.names.lookup x=some .cell:=by kernel_rfl):QG X (.Name x pos) (cu i):=⟨eA hN hi (.inr hx) (.inl hfn)⟩
theorem iA {J:It}{xs:List V}{H:Hp}{cap:St}{tc:TT}{te:TE}{Q:VK}(p:Nat->V->Bool) (f:Nat->V->V) (hn:xs.length<=sizeLine)
  (go:∀i H',Same H H'->i<xs.length->J.go i H') (yld:∀i H' x H'',Same H H'->i<xs.length->J.yld i H' x H''->H''=H'/\xs[i]?=some x) (stop:∀H',Same H H'->J.stop xs.length H')
  (tst:∀(i:Nat) x H' (P:Bool->Hp->Prop),Same H H'->xs[i]?=some x->(∀H'',Same H' H''->P (p i x) H'')->tc (some x :: cap) H' P)
  (el:∀(i:Nat) x H' (P:VK),Same H H'->xs[i]?=some x->p i x=true->(∀H'',Same H' H''->P (f i x) H'')->te (some x :: cap) H' P)
  (fin:∀D H' ys,Same H H'->H D=none->H' D=some (.lst ys)->ys=(xs.zipIdx.filter fun z=>p z.2 z.1).map (fun z=>f z.2 z.1)->Q (.ref D) H') :
  CompedF J cap tc te Q H:=by
 intro D hD
 refine ⟨fun i m zs H2=>m=xs.length-i/\i<=xs.length/\zs=((xs.zipIdx.take i).filter fun z=>p z.2 z.1).map (fun z=>f z.2 z.1)/\H2 D=some (.lst zs)/\Same H H2,⟨xs.length,rfl,B6 _,by simp,ac,Same.new hD _⟩,?_⟩
 rintro i m zs H2 ⟨rfl,hi,hz,hDz,hS⟩
 refine ⟨hDz,?_⟩
 by_cases h:i<xs.length
 ·refine .inr ⟨go i H2 hS h,?_⟩
  intro x H3 hy
  obtain ⟨rfl,hx⟩:=yld i H2 x H3 hS h hy
  have hzi:xs.zipIdx[i]?=some (x,i):=by rw [Gj,hx]; simp
  have hst:((xs.zipIdx.take (i+1)).filter fun z=>p z.2 z.1).map (fun z=>f z.2 z.1)=zs++(if p i x=true then [f i x] else []):=by
   rw [Cf,hzi,CN,Bf,<- hz]
   congr 1
   by_cases hp:p i x=true
   ·rw [if_pos hp]
    simp [hp]
   ·rw [if_neg hp]
    simp [hp]
  have hzl:zs.length<=i:=by
   rw [hz,A2]
   refine BR (DB _ _) ?_
   rw [B9]
   omega
  refine tst i x H3 _ hS hx fun H4 hS4=>?_
  by_cases hp:p i x=true
  ·rw [if_pos hp] at hst ⊢
   refine el i x H4 _ (hS.trans hS4) hx hp fun H5 hS5=>⟨hS5 _ _ (hS4 _ _ hDz),by omega,xs.length-(i+1),by omega,rfl,h,hst.symm,ac,fun b u q=>?_⟩
   rw [ah (ak q hD)]
   exact hS5 _ _ (hS4 _ _ (hS _ _ q))
  ·rw [if_neg hp] at hst ⊢
   rw [BH] at hst
   exact ⟨xs.length-(i+1),by omega,rfl,h,hst.symm,hS4 _ _ hDz,hS.trans hS4⟩
 ·have e:i=xs.length:=by omega
  subst e
  refine .inl ⟨stop H2 hS,fin D H2 zs hS hD hDz ?_⟩
  rw [hz,C9 'e']
theorem gk {lo:Int}{n:Nat}{H:Hp}{cap:St}{tc:TT}{te:TE}{Q:VK}(p:Nat->Bool) (f:Nat->V) (hn:n<=sizeLine)
  (tst:∀(i:Nat) H' (P:Bool->Hp->Prop),i<n->Same H H'->(∀H'',Same H' H''->P (p i) H'')->tc (some (.int (lo+i)) :: cap) H' P)
  (el:∀(i:Nat) H' (P:VK),i<n->Same H H'->p i=true->(∀H'',Same H' H''->P (f i) H'')->te (some (.int (lo+i)) :: cap) H' P) (fin:∀D H',Same H H'->H D=none->H' D=some (.lst (((Bh n).filter p).map f))->Q (.ref D) H') :
  CompedF (Itr lo n) cap tc te Q H:=by
 have hlen:((Bh n).map fun (i:Nat)=>V.int (lo+i)).length=n:=by rw [A2,BL]
 have hget:∀(i:Nat) x,((Bh n).map fun (i:Nat)=>V.int (lo+i))[i]?=some x->i<n/\x=.int (lo+i):=fun i x h1=>by
  rw [A5] at h1
  cases hc:(Bh n)[i]? with
  | none=>rw [hc] at h1; cases h1
  | some c =>
   obtain ⟨h3,h4⟩:=A8.mp hc
   rw [hc] at h1
   rw [DC] at h4
   subst h4
   cases h1
   rw [BL] at h3
   exact ⟨h3,rfl⟩
 refine iA (xs:=(Bh n).map fun (i:Nat)=>V.int (lo+i)) (fun i _=>p i) (fun i _=>f i) (by rw [hlen]; exact hn) ?_ ?_ ?_ ?_ ?_ ?_
 ·intro i H' _ h
  rw [hlen] at h
  exact h
 ·rintro i H' y H'' _ h ⟨rfl,rfl⟩
  refine ⟨rfl,?_⟩
  rw [hlen] at h
  rw [A5,CS h]
  rfl
 ·intro H' _
  rw [hlen]
  exact Bb _
 ·intro i x H' P hS h1 hP
  obtain ⟨h3,rfl⟩:=hget i x h1
  exact tst i H' P h3 hS hP
 ·intro i x H' P hS h1 hp hP
  obtain ⟨h3,rfl⟩:=hget i x h1
  exact el i H' P h3 hS hp hP
 ·intro D H' ys hS hD hD' hy
  refine fin D H' hS hD ?_
  rw [hD',hy]
  congr 2
  have e:((Bh n).map fun (i:Nat)=>V.int (lo+i)).zipIdx=(Bh n).map fun (i:Nat)=>(V.int (lo+i),i):=by
   apply List.ext_getElem?
   intro i
   rw [Gj,A5,A5]
   by_cases h:i<n
   ·rw [CS h]
    simp
   ·rw [Cm (by rw [BL]; omega)]
    rfl
  rw [e,List.filter_map,BV]
  rfl
section
variable {X:Cx}
def rD (ta:TA):TE:=fun σ H Q=>ta σ H fun vs H1=>∃i j:Int,vs=[.int i,.int j,.int 2]/\(-(2 ^ 61)<=i/\i<2 ^ 61/\-(2 ^ 61)<=j/\j<2 ^ 61)/\((j-i+1) / 2).toNat<=2 ^ 24/\∀l,H1 l=none->Q (.ref l) (upd H1 l (.lst (eI i ((j-i+1) / 2).toNat 2)))
theorem sT {a b c:Expr}{ta:TA}{p p' pos pos':Pos}(hc:X.calm=true) (hgl:X.env.kindOf "list"=some .globalImplicit) (hml:X.mg "list"=none) (hg:X.env.kindOf "range"=some .globalImplicit) (hm:X.mg "range"=none) (ha:PA X [a,b,c] ta)
  (h1:au a=true) (h2:au b=true) (h3:au c=true):PE X (.Call (.Name "list" p) [.Call (.Name "range" p') [a,b,c] [] pos'] [] pos) (rD ta):=by
 intro pins s σ H Q I h
 refine GG (bp (u:=.type "list") I hgl hml 'd' (BU ?_ rfl rfl))
 show Bl _ _ (GE ((false,eval (.Call (.Name "range" p') [a,b,c] [] pos') X.env) :: DM pos (B2 [] X.env))) _ _ s
 refine CD (GG (bp I hg hm F3 (BU (thn (ha pos' pins s σ H _ I h) fun us s1 ⟨vs,H1,I1,r1,q1⟩=>?_) (aq h1) (bc (by simp [h2,h3])))))
 obtain ⟨i,j,e,⟨q1,q2,q3,q4⟩,hn,q⟩:=q1
 subst e
 cases r1 with
 | cons r rr =>
  cases rr with
  | cons r' rr =>
   cases rr with
   | cons r'' rr =>
    cases rr
    obtain ⟨t,rfl⟩:=r
    obtain ⟨t',rfl⟩:=r'
    obtain ⟨t'',rfl⟩:=r''
    refine call_range_3 'b' ?_ (Or.inl (EO 'b'))
    refine Dc ?_
    have I2:Inv X pins σ H1 { s1 with heap:=s1.heap.push { cls:=.type "range",data:=.fields #[.int i t,.int j t',.int 2 t''] },toks:=s1.toks }:=I1.kept fun b o e=>A6 _ e
    exact h_ hc I2 (GF ..) (iR q1 q2 q3 q4) (cG i j) hn q
theorem wD {a b c:Expr}{t1 t2 t3:TE}{p p' pos pos':Pos}(hc:X.calm=true) (hml:X.mg "list"=none) (hm:X.mg "range"=none) (h1:QE X a t1) (h2:QE X b t2) (h3:QE X c t3) (hgl:X.env.kindOf "list"=some .globalImplicit:=by kernel_rfl) (hg:X.env.kindOf "range"=some .globalImplicit:=by kernel_rfl)
  (s1:au a=true:=by rfl) (s2:au b=true:=by rfl) (s3:au c=true:=by rfl):QE X (.Call (.Name "list" p) [.Call (.Name "range" p') [a,b,c] [] pos'] [] pos) (rD (bB t1 (bB t2 (bB t3 fV)))):=⟨sT hc hgl hml hg hm (pa' h1.h (pa' h2.h (pa' h3.h bO s3) s2) s1) s1 s2 s3⟩
end
end L2
namespace PySem
namespace F
end F
section
variable {prog:Program}{w:BG}{A:BC}{E:Value->A9->Prop}{s:A9}
open PyProof.Rows in
open PyProof.Rows in
end
end PySem
namespace PySem
section
variable {prog:Program}{w:BG}{A:BC}{E:Value->A9->Prop}{s:A9}
open PyProof.Rows in
end
end PySem
namespace L2
open PySem PySem.Spec PyProof.Rows
section
variable {X:Cx}
theorem zh {o i:Expr}{td ty:TE}{pos:Pos}(hu:X.A.units+1<cLine) (ho:QE X o td) (hi:QE X i ty) (hs:zr i:=by exact fun _ _=>rfl):QE X (.Subscript o i pos) (w6 td ty):=⟨vH hu ho.h hi.h hs⟩
theorem lz {o e:Expr}{to te:TE}{apos cpos:Pos}(ho:QE X o to) (ha:QE X e te) (hs:au e=true:=by rfl) (hbase:Dl o "extend" X.env (eval o X.env)=eval o X.env:=by rfl) (hline:(apos.endLine == cpos.line)=true:=by rfl) :
  QE X (.Call (.Attribute o "extend" apos) [e] [] cpos) (tBM X.K "list" n8 to (bB te fV)):=⟨xl PySem.F.plainAttrs_list PySem.F.slot_list_extend PySem.F.type_list_extend qm ho.h (pa' ha.h bO hs) hbase (by rw [aq hs]; rfl) hline (aq hs)⟩
end
theorem uT {prog:Program}{w:BG}{A:BC}{E:Value->A9->Prop}{s:A9}{t b:Addr}{vs ws:List Value}{Q:Value->A9->Prop}(ht:IsTup s.heap t vs.toArray) (hb:IsTup s.heap b ws.toArray) (h0:vs=[]->Q (.ref b) s)
  (h1:vs≠[]->ws=[]->Q (.ref t) s) (h2:vs≠[]->ws≠[]->Q (.ref 'n') { s with heap:=s.heap.push { cls:=.type "tuple",data:=.seq (vs++ws).toArray } })
  (hsz:vs.length+ws.length<=sizeLine):Bl (Bv prog w) A (EW .Add (.ref t) (.ref b)) Q E s:=by
 by_cases hv:vs=[]
 ·obtain ⟨⟨cls,dd,data,sl⟩,ho,hc,n,hd⟩:=id ht
  obtain ⟨⟨cls2,dd2,data2,sl2⟩,ho2,hc2,n2,hd2⟩:=id hb
  simp only at hc hd hc2 hd2
  subst hc hd hc2 hd2
  exact concat_meets ⟨_,ho,rfl⟩ ⟨_,ho2,rfl⟩ noFill_tuple_add seq_tuple_add FO FE (Fs _ _)
   (tuple_addW0 t b vs.toArray ws.toArray n n2 dd dd2 sl sl2 (by simp [hv])) ⟨ho,ho2,h0 hv⟩
 ·exact HT.cat_tup ht hb hv (h1 hv) (h2 hv) hsz
def z5:R2:=fun x y H Q=>∃a b xs ys,x=.ref a/\y=.ref b/\H a=some (.tup xs)/\H b=some (.tup ys)/\xs.length+ys.length<=sizeLine/\∀p H',Same H H'->H' p=some (.tup (xs++ys))->Q (.ref p) H'
section
variable {X:Cx}
theorem oq:OpR X (EW .Add) z5:=by
 intro pins s σ H x y v u Q I rx ry h
 obtain ⟨a,b,xs,ys,rfl,rfl,ha,hb,hz,q⟩:=h
 cases rx
 cases ry
 obtain ⟨its,r1,p1,_⟩:=I.tuple (SqT.of (K:=X.K) ha)
 obtain ⟨its2,r2,p2,_⟩:=I.tuple (SqT.of (K:=X.K) hb)
 refine uT p1 p2 (fun z=>⟨.ref b,H,I,rfl,q b H (Same.refl _) ?_⟩) (fun _ z=>⟨.ref a,H,I,rfl,q a H (Same.refl _) ?_⟩) (fun _ z=>?_) (by rw [<- r1.length,<- r2.length]; exact hz)
 ·rw [r1.nil_iff.mp z]
  exact hb
 ·rw [r2.nil_iff.mp z,BH]
  exact ha
 ·have fr:H 'n'=none:=I.hok.fresh (Bb _)
  refine ⟨.ref 'n',_,I.laid (t':=s.toks) (o:=.tup (xs++ys)) (fun b ob q=>A6 _ q) (Bb _) ?_,rfl,q _ _ (Same.new fr _) ac⟩
  exact ⟨by rw [Bd]; exact hz,_,r1.append r2,IsTup.new _ _⟩
theorem eJ {prog:Program}{w:BG}{A:BC}{E:Value->A9->Prop}{s:A9}{t sl:Addr}{items:Array Value}{vl vu:Value}{lo hi:Option Int}{Q:Value->A9->Prop}(ht:IsTup s.heap t items) (hs:s.heap.IsSliceOf sl vl vu .none) (pl:GJ vl lo) (pu:GJ vu hi)
  (hw:HT.sIx items.size 0 lo=0/\HT.sIx items.size items.size hi=items.size) (h:Q (.ref t) s):Bl (Bv prog w) A (Gv (.ref t) (.ref sl)) Q E s:=by
 obtain ⟨os,hos,hcs,hds⟩:=id hs
 have hTs:s.TypeIs (.ref sl) "slice":=⟨os,hos,hcs⟩
 unfold Gv
 try with_reducible refine B0 ?_
 first | refine A3 (Bc ?_) | skip
 refine A3 (wpAny_sequenceKey ht.typeIs 'f' ?_)
 refine A3 (Di (name:=Df "__getitem__") ht.typeIs C1
  (Cq C1 ht.typeIs entry_tuple_getitem ?_ (args_tuple_getitem _ _)))
 show Bl _ _ (Builtin.Tuple.tupleItemsOf (.ref t) >>= _) _ _ s
 refine A3 (tupleItemsOf_ ht ?_)
 refine A3 (Gw hTs ?_)
 rw [if_pos 'f']
 refine A3 (HT.sliceApplied_gen hs pl pu ?_)
 have hyes:(((HT.sIx items.size 0 lo:Nat):Int) == 0&&(1:Int) == 1&&(HT.sIx items.size items.size hi-HT.sIx items.size 0 lo) == items.size)=true:=by
  rw [hw.1,hw.2]
  simp
 show Bl _ _ (if (((HT.sIx items.size 0 lo:Nat):Int) == 0&&(1:Int) == 1&&(HT.sIx items.size items.size hi-HT.sIx items.size 0 lo) == items.size)=true then _ else _) _ _ s
 rw [if_pos hyes]
 refine A3 (m:=Builtin.Tuple.tupleIsExact _) ?_
 show Bl _ _ (typeOf (.ref t) >>= _) _ _ s
 refine A3 (Gw ht.typeIs (Bc ?_))
 rw [if_pos 'f']
 refine A3 (wpAny_rule ?_)
 exact Bc ⟨_,rfl,Bc h⟩
def AL:V->Option Int->Option Int->Hp->VK->Prop:=fun x lo hi H Q=>∃a xs,x=.ref a/\H a=some (.tup xs)/\∀p H',Same H H'->H' p=some (.tup (fg xs lo hi))->Q (.ref p) H'
theorem fy:SlR X AL:=by
 intro pins s σ H x v vl vu lo hi sl Q I rx hs pl pu h
 obtain ⟨a,xs,rfl,hx,q⟩:=h
 cases rx
 obtain ⟨its,r,ht,hz⟩:=I.tuple (SqT.of (K:=X.K) hx)
 have hlen:its.toArray.size=xs.length:=by rw [Be]; exact r.length.symm
 refine ⟨"tuple",_,C1.lookup,ht.typeIs,?_⟩
 by_cases hw:HT.sIx xs.length 0 lo=0/\HT.sIx xs.length xs.length hi=xs.length
 ·refine eJ ht hs pl pu (by rw [hlen]; exact hw) ⟨.ref a,H,I,rfl,q a H (Same.refl _) ?_⟩
  unfold fg
  rw [hw.1,hw.2,List.drop_zero,Nat.sub_zero,B4]
  exact hx
 ·refine HT.getItem_tuple_cut ht hs pl pu (by rw [hlen]; exact hw) ?_ (by rw [hlen]; exact hz)
  rw [hlen]
  have fr:H 'n'=none:=I.hok.fresh (Bb _)
  refine ⟨.ref 'n',_,I.laid (t':=s.toks) (o:=.tup (fg xs lo hi)) (fun b ob q=>A6 _ q) (Bb _) ?_,rfl,q _ _ (Same.new fr _) ac⟩
  exact ⟨BR (gD xs lo hi) hz,_,(r.drop (HT.sIx xs.length 0 lo)).take (HT.sIx xs.length xs.length hi-HT.sIx xs.length 0 lo),IsTup.new _ _⟩
end
section
variable {X:Cx}
end
end L2
namespace L2
open PySem PySem.Spec PyProof.Rows PySem.Builtin PySem.Builtin.Str
section
variable {X:Cx}
theorem zx {a:Expr}{ta:TE}(ha:QE X a ta) (he:∀whole,isTrue a X.env whole=(do let v <- whole; standAt a.pos; Gd [v] (truthy v)):=by intro _; rfl):QT X a (fun σ H Q=>ta σ H fun x H'=>∃k,zo X.K x H' k/\Q k H'):=⟨sH ha.h he⟩
end
end L2
namespace K55
open PySem L2 G KS
def top (i:Nat):Stmt:=PySem.Challenge.pw_leadersplice_k55_whole_film_from_prints.main.body.getD i (.Pass ⟨0,0,0,0⟩)
abbrev bE:Stmt:=wt (top 2) 0
abbrev dG:Stmt:=top 4
abbrev gZ:Stmt:=top 6
abbrev c5:Stmt:=top 7
abbrev jH:Stmt:=top 8
abbrev dE:Stmt:=top 9
abbrev jL:Stmt:=top 10
abbrev g6:Stmt:=top 11
abbrev dD:Stmt:=top 13
abbrev cW:Stmt:=top 14
abbrev eX:Stmt:=top 15
abbrev dF:Stmt:=top 16
abbrev jK:Stmt:=top 18
abbrev eW:Stmt:=top 19
abbrev jG:Stmt:=top 20
abbrev cZ:Stmt:=top 21
abbrev c6:Stmt:=top 22
abbrev f_:Stmt:=top 23
abbrev jJ:Stmt:=top 24
abbrev f9:Stmt:=top 25
abbrev g0:Stmt:=top 26
abbrev mh:Stmt:=top 27
abbrev jI:Stmt:=top 29
abbrev cE:Stmt:=top 30
abbrev dH:Stmt:=top 31
abbrev me:Stmt:=top 32
abbrev cY:Stmt:=top 33
abbrev cX:Stmt:=top 34
abbrev dM:Stmt:=top 36
abbrev cf:Stmt:=top 37
abbrev c8:Stmt:=top 38
abbrev de:Stmt:=top 39
abbrev cF:Stmt:=top 40
abbrev bN:Stmt:=top 41
abbrev dL:Stmt:=top 42
abbrev dc:Stmt:=top 43
abbrev bS:Stmt:=top 44
abbrev c_:Stmt:=top 45
abbrev dJ:Stmt:=top 46
abbrev dI:Stmt:=top 47
abbrev sy:Stmt:=top 48
section
variable {P:Program}{w:BG}{K:Ba}{mg:Str->Option Value}{base:Heap}
def cK (ns:List Int) (k:Nat):Int:=ns.getD k 0
def rZ (K:Ba):Sp:=fun vs H Q _=>∃(a:Addr) (ns:List Int) (k:Nat),vs=[.ref a,.int (k:Int)]/\SqL K H a (ns.map V.int)/\∀H',Same H H'->Q (.int (cK ns k)) H'
theorem o_ (ns:List Int) (k:Nat):fg (ns.map V.int) (some (k:Int)) (some ((k:Int)+1))=((ns.drop k).take 1).map V.int:=by
 unfold fg
 have e:((k:Int)+1)=((k+1:Nat):Int):=by omega
 rw [e,HT.sIx_nat,HT.sIx_nat,A2]
 by_cases h:k<ns.length
 ·rw [Nat.min_eq_left 'b',Nat.min_eq_left 'b',show k+1-k=1 by omega,<- List.map_drop,<- List.map_take]
 ·rw [Nat.min_eq_right 'b',Nat.min_eq_right 'b',Dp,GB,Dq 'b']
  rfl
theorem qB (ns:List Int) (k:Nat):((((ns.drop k).take 1).map V.int)++[V.int 0])[0]?=some (V.int (cK ns k)):=by
 by_cases h:k<ns.length
 ·have e:cK ns k=ns[k]:=by
   unfold cK
   rw [A7,A4 h]
   rfl
  rw [e,Ec h]
  rfl
 ·have e:cK ns k=0:=by
   unfold cK
   rw [A7,Cm 'b']
   rfl
  rw [e,Dq 'b']
  rfl
theorem x8:ax ["_law_script", "_law_k"] ["_law_script", "_law_k"] (aj dM):='a'
theorem vY {f:Addr}{fd:BX}(F:Fun K "_law_cell" "_law_cell" dM f fd):aS P w K mg base CX0 1 f fd ["_law_script", "_law_k"] (rZ K):=by
 refine F.ok x8 (fun vs H Q E h=>?_) (fun cdv A outer s H vs Q E hr h=>?_)
 ·obtain ⟨a,ns,k,rfl,_⟩:=h
  rfl
 obtain ⟨a,ns,k,rfl,hS,q⟩:=h
 refine eT (ai (aF (ar aw (aB yH (lx jF (e_v 0) (bP (e_v 1)) (bP (aB aG (e_v 1) ae))) (bh (aa ae ag))) ae))) ?_
 refine ⟨_,rfl,_,rfl,_,rfl,_,rfl,_,_,rfl,rfl,_,rfl,a,_,rfl,hS,fun p hp=>⟨'h',fun r hr'=>?_⟩⟩
 have hpr:p≠r:=by intro z; subst z; rw [ac] at hr'; cases hr'
 refine ⟨p,r,_,_,rfl,rfl,(by rw [ah hpr]; exact ac),ac,?_,fun t ht=>?_⟩
 ·rw [o_,A2,B9]
  show min 1 _+1<=sizeLine
  have zl:sizeLine=16777216:=Bo
  omega
 ·refine ⟨t,_,0,_,rfl,rfl,SqL.of ac,af (j:=0) (by rw [o_]; exact qB ns k),?_⟩
  exact q _ (((Same.new hp _).trans (Same.new hr' _)).trans (Same.new ht _))
def xb:Sp:=fun vs H Q _=>∃(c:Int) (n:Nat),vs=[.int c,.int (n:Int)]/\n<=1000/\∀(l:Addr) (ns:List Int) (H':Hp),Same H H'->ns.length=n->H l=none->H' l=some (.lst (ns.map V.int))->Q (.ref l) H'
theorem scNum:ax ["_law_cell_here", "_law_many", "_law_found", "_law_number", "_law_digits", "_law_k"] ["_law_cell_here", "_law_many"] (aj cf):='a'
theorem yK {f:Addr}{fd:BX}(F:Fun K "_law_numbers" "_law_numbers" cf f fd) (n_abs:mg "abs"=none) (n_range:mg "range"=none) (n_int:mg "int"=none):aS P w K mg base CX0 1 f fd ["_law_cell_here", "_law_many"] xb:=by
 refine F.ok scNum (fun vs H Q E h=>?_) (fun cdv A outer s H vs Q E hr h=>?_)
 ·obtain ⟨c,n,rfl,_⟩:=h
  rfl
 obtain ⟨c,n,rfl,hn,q⟩:=h
 refine wT (ad (aA (i:=2) scNum.nd (bh ag))
  (ad (aA (i:=3) scNum.nd (aB bC (aB g_ (aB aG (aB bC (e_v 0) ae) ae) ae) ae))
  (ad (aA (i:=4) scNum.nd ae)
  (ad (fz (bK (t_w (gI (aJ gz (e_v 0) ae) (fm (aJ xm (e_v 0) (aB yG ae ae)))))
   (ai (aA (i:=4) scNum.nd (e_b bL n_abs 'd' (aa (e_v 0) ag))))
   aV))
  (ad (bf BQ rfl (dn n_range (e_v 1)) (aE (i:=5) scNum.nd)
   (ad (aA (i:=3) scNum.nd (aB bC (aB aG (aB aG (aB g_ (e_v 3) (aB aG (aB bC (e_v 3) ae) ae)) (aB g_ ae (e_v 5))) ae) ae))
   (ad (aW (aU (e_v 2) (ar aw (bh (aa (e_v 3) (aa (aB bC (e_v 4) ae) ag))) (e_t qU n_int PyProof.Rows.boot_int (aa (ir kN (e_v 4) ae) ag)))))
   (ai (aA (i:=4) scNum.nd (aB jR (e_v 4) ae))))))
  (ai (aF (e_v 2)))))))) ?_
 intros
 have zl:sizeLine=16777216:=Bo
 refine ⟨'g',fun p hp=>?_⟩
 refine ⟨_,rfl,_,_,rfl,rfl,(by show (0:Int)<1999999973; decide),_,_,rfl,rfl,_,_,rfl,rfl,.inr ⟨by decide,by decide⟩,_,_,rfl,rfl,(by show (0:Int)<1999999973; decide),?_⟩
 refine ⟨fun σ' H'=>∃a d:Int,σ'=[some (.int c),some (.int (n:Int)),some (.ref p),some (.int a),some (.int d),none]/\0<=a/\a<1999999973/\H'=upd H p (.lst []),?_,?_⟩
 ·have b1:0<=(c % 1999999973+31)*765432101 % 1999999973:=by omega
  have b2:(c % 1999999973+31)*765432101 % 1999999973<1999999973:=by omega
  refine ⟨_,rfl,_,_,rfl,rfl,_,rfl,?_⟩
  refine cH (fun _=>?_) (fun _=>?_)
  ·exact iG ⟨_,rfl,_,rfl,_,_,rfl,b1,b2,rfl⟩
  ·refine ⟨_,rfl,_,_,rfl,rfl,⟨by decide,by decide,by decide⟩,_,_,rfl,rfl,_,rfl,?_⟩
   refine cH (fun _=>?_) (fun _=>?_)
   ·exact ⟨_,rfl,_,rfl,_,_,rfl,b1,b2,rfl⟩
   ·exact ⟨_,_,rfl,b1,b2,rfl⟩
 rintro σ H1 ⟨a,d,rfl,h1,h2,rfl⟩
 refine ⟨_,rfl,(n:Int),rfl,by omega,by omega,bQ (lo:=0) (n:=n) (fun i σ H'=>∃(a d:Int) (ns:List Int) (o:Option V),σ=[some (.int c),some (.int (n:Int)),some (.ref p),some (.int a),some (.int d),o]/\0<=a/\a<1999999973/\ns.length=i/\H' p=some (.lst (ns.map V.int))/\Same H H')
  ⟨a,d,[],none,rfl,h1,h2,rfl,ac,Same.new hp _⟩ ?_ ?_⟩
 ·rintro i σ H' hi ⟨a,d,ns,o,rfl,h1,h2,hl,hpp,hS⟩
  refine ⟨_,rfl,_,rfl,_,_,rfl,rfl,(by show (0:Int)<65521; decide),_,_,rfl,rfl,_,_,rfl,rfl,.inl ⟨by omega,by omega⟩,_,rfl,_,_,rfl,rfl,.inl ⟨by decide,by decide⟩,_,_,rfl,rfl,_,_,rfl,rfl,_,_,rfl,rfl,(by show (0:Int)<1999999973; decide),?_⟩
  have z1:0<=(a*(a % 65521+40487)+7*(0+(i:Int))+5) % 1999999973:=Fz _ 'f'
  have z2:(a*(a % 65521+40487)+7*(0+(i:Int))+5) % 1999999973<1999999973:=FA _ 'f'
  obtain ⟨v,hv,hm⟩:=fO (xs:=[V.int ((a*(a % 65521+40487)+7*(0+(i:Int))+5) % 1999999973),.int (d % 1000000)]) (i:=if decide (0<d)=true then 1 else 0) (by split <;> decide) (by split <;> (show _<(2:Int); decide))
  obtain ⟨u,rfl⟩:∃u,v=.int u:=by
   simp only [Bp,Cg,or_false] at hm
   rcases hm with rfl | rfl
   ·exact ⟨_,rfl⟩
   ·exact ⟨_,rfl⟩
  refine ⟨_,rfl,.inl ⟨rfl,_,SqL.of hpp⟩,_,rfl,_,rfl,_,_,rfl,rfl,(by show (0:Int)<1000000; decide),'i',fun p2 hp2=>⟨_,rfl,_,_,rfl,rfl,.inr ⟨_,rfl,p2,_,_,.int u,rfl,rfl,SqL.of ac,hv,p,_,_,rfl,rfl,Same.new hp2 _ _ _ hpp,(by rw [A2]; omega),?_⟩⟩⟩
  refine ⟨_,rfl,_,_,rfl,rfl,⟨by decide,by decide⟩,(a*(a % 65521+40487)+7*(0+(i:Int))+5) % 1999999973,_,ns++[u],_,rfl,z1,z2,(by rw [Bd,hl]; rfl),?_,?_⟩
  ·rw [ac,Bf]
   rfl
  ·intro b o hb
   rw [ah (ak hb hp)]
   exact Same.new hp2 _ _ _ (hS _ _ hb)
 ·rintro σ H' ⟨a,d,ns,o,rfl,h1,h2,hl,hpp,hS⟩
  exact ⟨_,rfl,q p ns H' hS hl hp hpp⟩
def rN:Sp:=fun vs H Q _=>∃(p:Addr) (c:Clip),vs=[.ref p]/\H p=some (.tup c.vs)/\Q (.int c.way) H
theorem zP:ax ["clip"] ["clip"] (aj gZ):='a'
theorem yI {f:Addr}{fd:BX}(F:Fun K "way_of" "way_of" gZ f fd):aS P w K mg base CX0 1 f fd ["clip"] rN:=by
 refine F.ok zP (fun vs H Q E h=>?_) (fun cdv A outer s H vs Q E hr h=>?_)
 ·obtain ⟨p,c,rfl,_⟩:=h
  rfl
 obtain ⟨p,c,rfl,hp,q⟩:=h
 refine eT (ai (aF (AU (aJ gz (ar az (e_v 0) ae) (ar az (e_v 0) ae)) (ip bZ ae) ae))) ?_
 refine ⟨_,rfl,p,_,_,.int c.b,rfl,rfl,SqT.of hp,af (j:=2) rfl,_,rfl,p,_,_,.int c.a,rfl,rfl,SqT.of hp,af (j:=1) rfl,_,_,rfl,rfl,_,rfl,?_⟩
 have q:Q (.int (if c.b<c.a then -1 else 1)) H:=q
 refine cH (fun z=>?_) (fun z=>?_)
 ·rw [if_pos (of_decide_eq_true z)] at q
  exact ⟨_,rfl,q⟩
 ·rw [if_neg fun y=>z (decide_eq_true y)] at q
  exact q
def lY:Sp:=fun vs H Q _=>∃(p:Addr) (c:Clip),vs=[.ref p]/\H p=some (.tup c.vs)/\Sm c/\∀l,H l=none->Q (.ref l) (upd H l (.lst (c.nums.map V.int)))
theorem scNos:ax ["clip", "way"] ["clip"] (aj c5):='a'
theorem yL {f:Addr}{fd:BX}(F:Fun K "numbers_of" "numbers_of" c5 f fd) (dWay:'k' "way_of" 1 ["clip"] rN) (n_list:mg "list"=none) (n_range:mg "range"=none):aS P w K mg base CX0 2 f fd ["clip"] lY:=by
 refine F.ok scNos (fun vs H Q E h=>?_) (fun cdv A outer s H vs Q E hr h=>?_)
 ·obtain ⟨p,c,rfl,_⟩:=h
  rfl
 obtain ⟨p,c,rfl,hp,sm,q⟩:=h
 refine wU (ad (aA (i:=1) scNos.nd (ay dWay hr aD (aa (e_v 0) ag)))
  (ai (aF (wE rfl n_list n_range (ar az (e_v 0) ae) (aB aG (ar az (e_v 0) ae) (e_v 1)) (e_v 1))))) ?_
 intros
 refine ⟨_,rfl,p,c,rfl,hp,?_⟩
 obtain ⟨a0,a1,b0,b1⟩:=sm
 have cw:=c.way_cnt
 have cn:c.cnt<=1000001:=Sm.cnt ⟨a0,a1,b0,b1⟩
 refine ⟨_,rfl,p,_,_,.int c.a,rfl,rfl,SqT.of hp,af (j:=1) rfl,_,rfl,p,_,_,.int c.b,rfl,rfl,SqT.of hp,af (j:=2) rfl,_,rfl,_,_,rfl,rfl,_,rfl,_,_,_,rfl,⟨by omega,by omega⟩,⟨by omega,by omega⟩,c.cnt,cw,by omega,fun l hl=>?_⟩
 rw [<- c.numsV]
 exact q l hl
theorem vk {H H1:Hp}{a dx:Addr}{o x o':HO}(s1:Same H H1) (ha:H1 a=none) (hdx:upd H1 a o dx=none) (hne:dx≠a):Same H (del (upd (upd (upd H1 a o) dx x) a o') a)/\del (upd (upd (upd H1 a o) dx x) a o') a dx=some x:=by
 refine ⟨Same.del ?_ (s1.free ha),by rw [dw hne,ah hne]; exact ac⟩
 intro b o hb
 have hb1:=s1 _ _ hb
 rw [ah (ak hb1 ha),ah,ah (ak hb1 ha)]
 ·exact hb1
 ·intro z
  subst z
  rw [ah hne,hb1] at hdx
  cases hdx
theorem bv {xs:List V}{z:Int}{k:Nat}{v:V}(e:z=(k:Int)) (h:xs[k]?=some v):atI xs z=some v:=by
 subst e
 exact af h
def kB:Sp:=fun vs H Q _=>∃(p:Addr) (c:Clip),vs=[.ref p]/\H p=some (.tup c.vs)/\Q (.int (c.cnt:Int)) H
theorem zV:ax ["clip"] ["clip"] (aj dG):='a'
theorem yP {f:Addr}{fd:BX}(F:Fun K "frames_in" "frames_in" dG f fd) (n_abs:mg "abs"=none):aS P w K mg base CX0 1 f fd ["clip"] kB:=by
 refine F.ok zV (fun vs H Q E h=>?_) (fun cdv A outer s H vs Q E hr h=>?_)
 ·obtain ⟨p,c,rfl,_⟩:=h
  rfl
 obtain ⟨p,c,rfl,hp,q⟩:=h
 refine eT (ai (aF (aB aG (e_b bL n_abs 'd' (aa (aB aQ (ar az (e_v 0) ae) (ar az (e_v 0) ae)) ag)) ae))) ?_
 refine ⟨_,rfl,p,_,_,.int c.b,rfl,rfl,SqT.of hp,af (j:=2) rfl,_,rfl,p,_,_,.int c.a,rfl,rfl,SqT.of hp,af (j:=1) rfl,_,_,rfl,rfl,_,rfl,_,_,rfl,rfl,?_⟩
 have e:(if c.b-c.a<0 then -(c.b-c.a) else c.b-c.a)+1=(c.cnt:Int):=by
  unfold Clip.cnt
  split <;> omega
 show Q (.int ((if c.b-c.a<0 then -(c.b-c.a) else c.b-c.a)+1)) H
 rw [e]
 exact q
def rV (C:Addr) (f:Str):Sp:=fun vs H Q _=>∃a y,vs=[.ref a,y]/\H a=some (gc a C none)/\∀dx,H dx=none->dx≠a->Q .non (upd (upd H dx (xdO dx [(f,y)])) a (gc a C (some dx)))
theorem xZ:ax ["self", "number"] ["self", "number"] (aj bE):='a'
theorem vT {f C:Addr}{fd:BX}(F:Fun K "__init__" "TooShort.__init__" bE f fd) (XC:u4 K C) (XN:XNo K C "number"):aS P w K mg base CX0 1 f fd ["self", "number"] (rV C "number"):=by
 refine F.ok xZ (fun vs H Q E h=>?_) (fun cdv A outer s0 H vs Q E hr h=>?_)
 ·obtain ⟨a,y,rfl,_⟩:=h
  rfl
 obtain ⟨a,y,rfl,hH,q⟩:=h
 refine eT (ai (x9 (e_v 0) (e_v 1))) ?_
 exact ⟨_,rfl,_,rfl,a,C,rfl,XC,XN,.inl ⟨hH,fun dx n1 n2=>q dx n1 n2⟩⟩
end
section
variable {P:Program}{w:BG}{K:Ba}{mg:Str->Option Value}{base:Heap}
def rS (C:Addr):Sp:=fun vs H Q E=>∃(p:Addr) (ps:'l') (ld:Int),vs=[.ref p,.int ld]/\ST H p ps/\ps.length<=100000/\((∀k,¬ bM 's' ld k)->∀H',Same H H'->Q .non H') /\
 (∀(k:Nat) (z:Int) H' dx,z=k->FirstS 's' ld k->Same H H'->H' dx=some (xdO dx [("number",.int z)])->E (.ref C) (some dx) H')
theorem scNear:ax ["strips", "leader", "number"] ["strips", "leader"] (aj cE):='a'
theorem vR {f C fI:Addr}{fd gd:BX}(F:Fun K "refuse_near" "refuse_near" cE f fd) (dFin:'k' "frames_in" 1 ["clip"] kB)
  (m_TooShort:mg "TooShort"=some (.ref C)) (R_TooShort:ki K C fI) (G_TooShort:aS P w K mg base CX0 1 fI gd ["self", "number"] (rV C "number")) (b_TooShort:Binds K gd ["self", "number"] [])
  (n_range:mg "range"=none) (n_len:mg "len"=none):aS P w K mg base (CX1 P w) 3 f fd ["strips", "leader"] (rS C):=by
 refine F.okX scNear (fun vs H Q E h=>?_) (fun cdv A outer s0 H vs Q E hr h=>?_)
 ·obtain ⟨p,ps,ld,rfl,_⟩:=h
  rfl
 obtain ⟨p,ps,ld,rfl,st,hl,q,e⟩:=h
 refine eT (ai (bf PassesOwn.leaving rfl (uu n_range ae (aB aQ (e_b ao n_len B3 (aa (e_v 0) ag)) ae)) (aE (i:=2) scNear.nd)
   (ai (bK (aJ gz (aB aQ (aB aQ (ay dFin hr aD (aa (ar aw (e_v 0) (e_v 2)) ag)) (ar az (ar aw (e_v 0) (e_v 2)) ae)) (ar az (ar aw (e_v 0) (aB aG (e_v 2) ae)) ae)) (e_v 1))
    (ai (sx m_TooShort R_TooShort G_TooShort hr b_TooShort (aa (e_v 2) ag)))
    aV)))) ?_
 have zl:sizeLine=16777216:=Bo
 have hm:'p'.length=ps.length:=A2 ..
 have hm2:'s'.length=ps.length:=A2 ..
 refine ⟨_,rfl,p,_,rfl,.inl (SqL.of st.1),_,_,rfl,rfl,1,_,rfl,⟨by decide,by decide,by rw [hm]; omega,by rw [hm]; omega⟩,?_⟩
 rw [hm]
 refine bQ (lo:=1) (n:=((ps.length:Int)-1-1).toNat) (fun i σ H'=>∃o:Option V,σ=[some (.ref p),some (.int ld),o]/\(∀j,j<1+i->¬ bM 's' ld j)/\Same H H') ⟨none,rfl,fun j hj s=>by have:=s.1; omega,Same.refl _⟩ ?_ ?_
 ·rintro i σ H' hi ⟨o,rfl,hn,hS⟩
  have st':=st.same hS
  obtain ⟨a1,g1,h1,_⟩:=st'.get (k:=1+i) 'b'
  obtain ⟨a2,g2,h2,_⟩:=st'.get (k:=1+i+1) 'b'
  refine ⟨_,rfl,_,rfl,p,_,_,_,rfl,rfl,SqL.of st'.1,bv (k:=1+i) 'b' g1,a1,_,rfl,h1,?_⟩
  refine ⟨_,rfl,_,rfl,p,_,_,_,rfl,rfl,SqL.of st'.1,bv (k:=1+i) 'b' g1,a1,_,_,.int _,rfl,rfl,SqT.of h1,af (j:=3) rfl,_,_,rfl,rfl,?_⟩
  refine ⟨_,rfl,_,rfl,_,_,rfl,rfl,p,_,_,_,rfl,rfl,SqL.of st'.1,bv (k:=1+i+1) 'b' g2,a2,_,_,.int _,rfl,rfl,SqT.of h2,af (j:=3) rfl,_,_,rfl,rfl,_,rfl,_,_,rfl,rfl,_,rfl,?_⟩
  refine cH (fun z=>?_) (fun z=>?_)
  ·have z:=of_decide_eq_true z
   refine ⟨_,rfl,'h',fun a ha=>⟨a,_,rfl,ac,fun dx n1 n2=>⟨rfl,some dx,ac,?_⟩⟩⟩
   obtain ⟨r1,r2⟩:=vk (x:=xdO dx [("number",V.int (1+(i:Int)))]) (o':=gc a C (some dx)) hS ha n1 n2
   exact e (1+i) _ _ dx 'b' ⟨⟨by omega,by rw [hm2]; omega,z⟩,hn⟩ r1 r2
  ·refine ⟨_,rfl,fun j hj=>?_,hS⟩
   by_cases y:j<1+i
   ·exact hn j y
   ·have:j=1+i:=by omega
    subst this
    exact fun s=>z (decide_eq_true s.2.2)
 ·rintro σ H' ⟨o,rfl,hn,hS⟩
  refine q (fun k s=>?_) H' hS
  have:=s.2.1
  rw [hm2] at this
  exact hn k 'b' s
def zN:Sp:=fun vs H Q _=>∃(p:Addr) (ps:'l'),vs=[.ref p]/\ST H p ps/\ps.length<=100000/\∀l H',Same H H'->H l=none->H' l=some (.lst (((Bh ps.length).map (bgA 's')).map V.int))->Q (.ref l) H'
theorem pk (cs:List Clip) (i:Nat):((Bh (i+1)).map (bgA cs)).map V.int=((Bh i).map (bgA cs)).map V.int++[V.int (bgA cs i)]:=by
 rw [Dx,Bf,Bf]
 rfl
theorem scBg:ax ["strips", "begins", "end", "strip"] ["strips"] (aj dH):='a'
theorem Am {f:Addr}{fd:BX}(F:Fun K "begins_of" "begins_of" dH f fd) (dFin:'k' "frames_in" 1 ["clip"] kB):aS P w K mg base CX0 2 f fd ["strips"] zN:=by
 refine F.ok scBg (fun vs H Q E h=>?_) (fun cdv A outer s H vs Q E hr h=>?_)
 ·obtain ⟨p,ps,rfl,_⟩:=h
  rfl
 obtain ⟨p,ps,rfl,st,hl,q⟩:=h
 refine iM (ad (aA (i:=1) scBg.nd (bh ag))
  (ad (aA (i:=2) scBg.nd ae)
  (ad (bf BQ rfl (aZ (e_v 0)) (aE (i:=3) scBg.nd)
   (ad (aW (aU (e_v 1) (aB aQ (e_v 2) (ar az (e_v 3) ae))))
   (ai (aA (i:=2) scBg.nd (aB aG (ar aw (e_v 1) (ip bZ ae)) (ay dFin hr aD (aa (e_v 3) ag)))))))
  (ai (aF (e_v 1)))))) ?_
 intros
 have zl:sizeLine=16777216:=Bo
 have hm:'p'.length=ps.length:=A2 ..
 refine ⟨'g',fun pb hb=>?_⟩
 have s1:=Same.new hb (.lst [])
 refine ⟨_,rfl,p,rfl,⟨_,SqL.of (s1 _ _ st.1)⟩,a_ (K:=K) (a:=p) (xs:=ps.map fun x=>V.ref x.1) (fun i σ H'=>∃o:Option V,σ=[some (.ref p),some (.ref pb),some (.int (aH 's' i)),o]/\Same H H'/\H' pb=some (.lst (((Bh i).map (bgA 's')).map V.int)))
  ⟨none,rfl,s1,ac⟩ (fun i σ H' _ ⟨_,_,s,_⟩=>SqL.of (s _ _ st.1)) ?_ ?_⟩
 ·rintro i x σ H' hx ⟨o,rfl,hS,hpb⟩
  have hi:i<ps.length:=by
   have:=(A8.mp hx).1
   omega
  have st':=st.same hS
  obtain ⟨a,g,h,_⟩:=st'.get hi
  rw [g] at hx
  cases hx
  have np:a≠pb:=aK h hpb 'c'
  refine ⟨_,rfl,.inl ⟨rfl,_,SqL.of hpb⟩,_,rfl,_,rfl,a,_,_,.int _,rfl,rfl,SqT.of h,af (j:=3) rfl,_,_,rfl,rfl,pb,_,_,rfl,rfl,hpb,by rw [A2,A2,BL]; omega,?_⟩
  refine ⟨_,rfl,_,rfl,pb,_,_,.int (bgA 's' i),rfl,rfl,SqL.of ac,iB _ _,?_⟩
  refine ⟨_,rfl,a,_,rfl,by rw [ah np]; exact h,_,_,rfl,rfl,_,rfl,fun b u hu=>?_,?_⟩
  ·rw [ah (ak hu hb)]
   exact hS _ _ hu
  ·rw [ac,pk]
   rfl
 ·rintro σ H' ⟨o,rfl,hS,hpb⟩
  rw [hm] at hpb
  exact ⟨_,rfl,q pb H' hS hb hpb⟩
def xf:Sp:=fun vs H Q _=>∃(pc:Addr) (ps:'l'),vs=[.ref pc]/\ST H pc ps/\ps.length<=100000/\∀(H':Hp),Same H H'->Q (.int (aH 's' ps.length)) H'
theorem zR:ax ["clips"] ["clips"] (aj g6):='a'
theorem yN {f:Addr}{fd:BX}(F:Fun K "length" "length" g6 f fd) (dFin:'k' "frames_in" 1 ["clip"] kB) (n_sum:mg "sum"=none):aS P w K mg base CX0 2 f fd ["clips"] xf:=by
 refine F.ok zR (fun vs H Q E h=>?_) (fun cdv A outer s H vs Q E hr h=>?_)
 ·obtain ⟨pc,ps,rfl,_⟩:=h
  rfl
 obtain ⟨pc,ps,rfl,st,hpl,q⟩:=h
 refine eT (ai (aF (e_b uU n_sum 'd' (aa (du [] [] [] rfl trivial trivial (aZ (e_v 0)) (fun _ _ _ _=>(aB aQ (ay dFin hr aD (aa (e_n 0) ag)) (ar (bu (K:=K) rfl) (e_n 0) ae)))) ag)))) ?_
 have zl:sizeLine=16777216:=Bo
 refine ⟨_,rfl,pc,rfl,⟨_,SqL.of st.1⟩,?_⟩
 refine cQ (('s'.map fun c=>((c.cnt:Int)-c.f)).map V.int) (SqL.of st.1) (by rw [A2]; omega) (by rw [A2,A2,A2,A2]) ?_ ?_
 ·intro i x y H' R hS hx hy hR
  rw [A5] at hx
  rw [A5,A5,A5] at hy
  cases hz:ps[i]? with
  | none=>rw [hz] at hx; cases hx
  | some z =>
   rw [hz] at hx hy
   cases hx
   cases hy
   have hc:=hS _ _ (st.2 z (Bg hz))
   exact ⟨_,rfl,z.1,z.2,rfl,hc,_,rfl,z.1,_,_,.int z.2.f,rfl,rfl,SqT.of hc,af (j:=3) rfl,_,_,rfl,rfl,hR H' (Same.refl _)⟩
 intro D H1 s1 hD0 hD
 refine ⟨D,_,rfl,SqL.of hD,rfl,?_⟩
 rw [ue,A2]
 exact q H1 s1
def rP:Sp:=fun vs H Q _=>∃(p:Addr) (ps:List (Addr×Th)) (m:Int),vs=[.ref p,.int m]/\TL H p ps/\ps.length<=1000000/\∀ps' H',Bt p H H'->TL H' p ps'->ps'.map (·.2)=ps.map (·.2)++ldP m->Q .non H'
theorem xY:ax ["roll", "many"] ["roll", "many"] (aj cY):='a'
theorem vP {f:Addr}{fd:BX}(F:Fun K "put_leader" "put_leader" cY f fd):aS P w K mg base CX0 1 f fd ["roll", "many"] rP:=by
 refine F.ok xY (fun vs H Q E h=>?_) (fun cdv A outer s H vs Q E hr h=>?_)
 ·obtain ⟨p,ps,m,rfl,_⟩:=h
  rfl
 obtain ⟨p,ps,m,rfl,tl,hl,q⟩:=h
 refine eT (ai (bK (aJ kN (e_v 1) ae)
   (ai (aW (aU (e_v 0) (bJ (aa jo (aa (e_v 1) ag))))))
   aV)) ?_
 have zl:sizeLine=16777216:=Bo
 refine ⟨_,rfl,_,_,rfl,rfl,_,rfl,?_⟩
 refine cH (fun z=>?_) (fun z=>?_)
 ·have z:=of_decide_eq_true z
  refine ⟨_,rfl,.inl ⟨rfl,_,SqL.of tl.1⟩,_,rfl,'i',fun pt hpt=>?_⟩
  have s1:=Same.new hpt (.tup (Th.vs ⟨true,m⟩))
  have t1:=tl.same s1
  refine ⟨p,_,_,rfl,rfl,t1.1,by rw [A2]; omega,?_⟩
  refine q (ps++[(pt,⟨true,m⟩)]) _ ((Bt.of s1).trans Bt.upd) (t1.push ac) ?_
  unfold ldP
  rw [if_pos z,Bf]
  rfl
 ·have z:¬ (0<m):=fun y=>z (decide_eq_true y)
  refine q ps H (Bt.refl _ _) tl ?_
  unfold ldP
  rw [if_neg z,BH]
def rT:Sp:=fun vs H Q _=>∃(p pb:Addr) (ps:'l') (fi:Nat),vs=[.ref p,.ref pb,.int (fi:Int)]/\ST H p ps/\ps.length<=100000/\fi<=1/\H pb=some (.lst (((Bh ps.length).map (bgA 's')).map V.int)) /\
 ∀l ts H',Same H H'->H l=none->TL H' l ts->ts.map (·.2)=bi 's' fi->Q (.ref l) H'
theorem scLaid:ax ["strips", "begins", "first", "roll", "end", "number"] ["strips", "begins", "first"] (aj me):='a'
theorem vS {f:Addr}{fd:BX}(F:Fun K "laid" "laid" me f fd) (dFin:'k' "frames_in" 1 ["clip"] kB) (dLen:'k' "length" 2 ["clips"] xf) (dPut:'k' "put_leader" 1 ["roll", "many"] rP) (n_range:mg "range"=none) (n_len:mg "len"=none) :
  aS P w K mg base CX0 3 f fd ["strips", "begins", "first"] rT:=by
 refine F.ok scLaid (fun vs H Q E h=>?_) (fun cdv A outer s H vs Q E hr h=>?_)
 ·obtain ⟨p,pb,ps,fi,rfl,_⟩:=h
  rfl
 obtain ⟨p,pb,ps,fi,rfl,st,hl,hfi,hpb,q⟩:=h
 refine zw (ad (aA (i:=3) scLaid.nd (bh ag))
  (ad (aA (i:=4) scLaid.nd ae)
  (ad (bf BQ rfl (y8 n_range (e_v 2) (e_b ao n_len B3 (aa (e_v 0) ag)) ae) (aE (i:=5) scLaid.nd)
   (ad (aW (ay dPut hr aD (aa (e_v 3) (aa (aB aQ (ar aw (e_v 1) (e_v 5)) (e_v 4)) ag))))
   (ad (aW (aU (e_v 3) (bJ (aa jo (aa (e_v 5) ag)))))
   (ai (aA (i:=4) scLaid.nd (aB aG (ar aw (e_v 1) (e_v 5)) (ay dFin hr aD (aa (ar aw (e_v 0) (e_v 5)) ag))))))))
  (ad (aW (ay dPut hr aD (aa (e_v 3) (aa (aB aQ (ay dLen hr aD (aa (e_v 0) ag)) (e_v 4)) ag))))
  (ai (aF (e_v 3))))))) ?_
 intros
 have zl:sizeLine=16777216:=Bo
 have hm:'p'.length=ps.length:=A2 ..
 have hm2:'s'.length=ps.length:=A2 ..
 refine ⟨'g',fun pr hr0=>?_⟩
 have s1:=Same.new hr0 (.lst [])
 refine ⟨_,rfl,_,rfl,p,_,rfl,.inl (SqL.of (s1 _ _ st.1)),_,_,rfl,⟨by omega,by omega,by rw [hm]; omega,by rw [hm]; omega⟩,?_⟩
 rw [hm]
 have en:(((ps.length:Int)-(fi:Int)+1) / 2).toNat=aL 's' fi:=by
  unfold aL
  rw [hm2]
  omega
 rw [en]
 refine uy (fun i σ H'=>∃(o:Option V) (ts:List (Addr×Th)),σ=[some (.ref p),some (.ref pb),some (.int (fi:Int)),some (.ref pr),some (.int (cg 's' fi i)),o]/\Same H H'/\TL H' pr ts/\ts.map (·.2)=bq 's' fi i)
  ⟨none,[],rfl,s1,TL.nil ac,rfl⟩ ?_ ?_
 ·rintro i σ H' hi ⟨o,ts,rfl,hS,tl,ht⟩
  have hk:fi+2*i<ps.length:=by
   unfold aL at hi
   rw [hm2] at hi
   omega
  have st':=st.same hS
  obtain ⟨a,g,h,_⟩:=st'.get hk
  have gb:(((Bh ps.length).map (bgA 's')).map V.int)[fi+2*i]?=some (.int (bgA 's' (fi+2*i))):=by
   rw [A5,A5,CS hk]
   rfl
  have lt:ts.length<=2*i:=by
   have:=congrArg Ce ht
   rw [A2] at this
   rw [this]
   exact eh _ _ _
  have hpb':=hS _ _ hpb
  refine ⟨_,rfl,_,rfl,_,rfl,pb,_,_,_,rfl,rfl,SqL.of hpb',bv (k:=fi+2*i) 'b' gb,_,rfl,_,_,rfl,rfl,pr,ts,_,rfl,tl,by omega,fun ts1 H1 b1 tl1 ht1=>?_⟩
  have S1:=Bt.same hS b1 hr0
  have st1:=st.same S1
  have hpb1:=S1 _ _ hpb
  have lt1:ts1.length<=2*i+1:=by
   have:=congrArg Ce ht1
   rw [A2,Bd,A2] at this
   have:=jW (bgA 's' (fi+2*i)-cg 's' fi i)
   omega
  refine ⟨_,rfl,.inl ⟨rfl,_,SqL.of tl1.1⟩,_,rfl,'i',fun pt hpt=>?_⟩
  have s2:=Same.new hpt (.tup [.str jC,.int ((fi:Int)+(i:Int)*2)])
  have tl2:=tl1.same s2
  refine ⟨pr,_,_,rfl,rfl,tl2.1,by rw [A2]; omega,?_⟩
  have ez:(fi:Int)+(i:Int)*2=((fi+2*i:Nat):Int):=by omega
  have S3:=Bt.same (S1.trans s2) (Bt.upd (o:=.lst ((ts1.map fun x=>V.ref x.1)++[.ref pt]))) hr0
  have tl3:=tl2.push (pt:=pt) (c:=⟨false,((fi+2*i:Nat):Int)⟩) (by rw [<- ez]; exact ac)
  have st3:=st.same S3
  obtain ⟨a3,g3,h3,_⟩:=st3.get hk
  refine ⟨_,rfl,_,rfl,pb,_,_,_,rfl,rfl,SqL.of (S3 _ _ hpb),bv (k:=fi+2*i) 'b' gb,_,rfl,_,rfl,p,_,_,_,rfl,rfl,SqL.of st3.1,bv (k:=fi+2*i) 'b' g3,a3,_,rfl,h3,_,_,rfl,rfl,_,ts1++[(pt,(⟨false,((fi+2*i:Nat):Int)⟩:Th))],rfl,S3,tl3,?_⟩
  rw [Bf,ht1,ht]
  rfl
 ·rintro σ H' ⟨o,ts,rfl,hS,tl,ht⟩
  have lt:ts.length<=2*aL 's' fi:=by
   have:=congrArg Ce ht
   rw [A2] at this
   rw [this]
   exact eh _ _ _
  have lm:aL 's' fi<=ps.length+1:=by
   unfold aL
   rw [hm2]
   omega
  refine ⟨_,rfl,_,rfl,p,ps,rfl,st.same hS,hl,fun H1 s1=>⟨_,rfl,_,_,rfl,rfl,pr,ts,_,rfl,tl.same s1,by omega,fun ts2 H2 b2 tl2 ht2=>⟨_,rfl,?_⟩⟩⟩
  refine q pr ts2 H2 (Bt.same (hS.trans s1) b2 hr0) hr0 tl2 ?_
  rw [ht2,ht]
  unfold bi
  rw [hm2]
def nG (C:Addr):Sp:=fun vs H Q E=>∃(p:Addr) (ps:'l') (ld:Int),vs=[.ref p,.int ld]/\ST H p ps/\ps.length<=100000 /\
 ((∀k,¬ bM 's' ld k)->∀t l0 l1 ts0 ts1 H',Same H H'->H l0=none->H l1=none->l0≠l1->H' t=some (.tup [.ref l0,.ref l1])->TL H' l0 ts0->TL H' l1 ts1->ts0.map (·.2)=bi 's' 0->ts1.map (·.2)=bi 's' 1->Q (.ref t) H') /\
 (∀(k:Nat) (z:Int) H' dx,z=k->FirstS 's' ld k->Same H H'->H' dx=some (xdO dx [("number",.int z)])->E (.ref C) (some dx) H')
theorem scRolls:ax ["strips", "leader", "begins"] ["strips", "leader"] (aj jI):='a'
theorem tL {f C:Addr}{fd:BX}(F:Fun K "rolls" "rolls" jI f fd) (dNear:Def P w K mg base (CX1 P w) "refuse_near" 3 ["strips", "leader"] (rS C)) (dBg:'k' "begins_of" 2 ["strips"] zN) (dLaid:'k' "laid" 3 ["strips", "begins", "first"] rT) :
  aS P w K mg base (CX1 P w) 4 f fd ["strips", "leader"] (nG C):=by
 refine F.okX scRolls (fun vs H Q E h=>?_) (fun cdv A outer s0 H vs Q E hr h=>?_)
 ·obtain ⟨p,ps,ld,rfl,_⟩:=h
  rfl
 obtain ⟨p,ps,ld,rfl,st,hl,q,e⟩:=h
 refine cL (ad (aW (ay dNear hr Ab (aa (e_v 0) (aa (e_v 1) ag))))
  (ad (aA (i:=2) scRolls.nd (ay dBg hr aD (aa (e_v 0) ag)))
  (ai (aF (bJ (aa (ay dLaid hr aD (aa (e_v 0) (aa (e_v 2) (aa ae ag)))) (aa (ay dLaid hr aD (aa (e_v 0) (aa (e_v 2) (aa ae ag)))) ag))))))) ?_
 intros
 refine ⟨_,rfl,_,rfl,p,ps,ld,rfl,st,hl,fun hn H1 s1=>?_,e⟩
 have st1:=st.same s1
 refine ⟨_,rfl,p,ps,rfl,st1,hl,fun pb H2 s2 hpb0 hpb=>?_⟩
 have st2:=st1.same s2
 refine ⟨_,rfl,_,rfl,p,pb,ps,0,rfl,st2,hl,by decide,hpb,fun l0 ts0 H3 s3 hl0 tl0 ht0=>?_⟩
 refine ⟨_,rfl,_,rfl,p,pb,ps,1,rfl,st2.same s3,hl,by decide,s3 _ _ hpb,fun l1 ts1 H4 s4 hl1 tl1 ht1=>?_⟩
 refine ⟨'i',fun t ht=>?_⟩
 have s5:=Same.new ht (.tup [.ref l0,.ref l1])
 have S2:=s1.trans s2
 refine q hn t l0 l1 ts0 ts1 _ (((S2.trans s3).trans s4).trans s5) (S2.free hl0) ((S2.trans s3).free hl1) (fun z=>?_) ac ((tl0.same s4).same s5) (tl1.same s5) ht0 ht1
 rw [<- z,tl0.1] at hl1
 cases hl1
end
section
variable {P:Program}{w:BG}{K:Ba}{mg:Str->Option Value}{base:Heap}
def xg:Sp:=fun vs H Q _=>∃(p:Addr) (c:Clip) (r:Str) (n:Int),vs=[.ref p,.str r,.int n]/\H p=some (.tup c.vs)/\Q (.bl (decide (can c ⟨r,n,0⟩))) H
theorem zW:ax ["strip", "reel", "number"] ["strip", "reel", "number"] (aj eX):='a'
theorem yQ {f:Addr}{fd:BX}(F:Fun K "can_have" "can_have" eX f fd) (dWay:'k' "way_of" 1 ["clip"] rN) (n_abs:mg "abs"=none):aS P w K mg base CX0 2 f fd ["strip", "reel", "number"] xg:=by
 refine F.ok zW (fun vs H Q E h=>?_) (fun cdv A outer s H vs Q E hr h=>?_)
 ·obtain ⟨p,c,r,n,rfl,_⟩:=h
  rfl
 obtain ⟨p,c,r,n,rfl,hp,q⟩:=h
 refine cL (ad (bK (aJ eP (ar az (e_v 0) ae) (e_v 1))
   (ai (aF gh))
   aV)
  (ad (bK (aJ cx (ar az (e_v 0) ae) (ar az (e_v 0) ae))
   (ai (aF (ir cx (e_b bL n_abs 'd' (aa (aB aQ (e_v 2) (ar az (e_v 0) ae)) ag)) ae)))
   aV)
  (ai (aF (ir cx (e_v 2) (aB aG (ar az (e_v 0) ae) (ay dWay hr aD (aa (e_v 0) ag)))))))) ?_
 intros
 refine ⟨_,rfl,p,_,_,.str c.reel,rfl,rfl,SqT.of hp,af (j:=0) rfl,_,rfl,rfl,_,rfl,?_⟩
 by_cases e:c.reel=r
 ·refine iteN (by rw [decide_eq_true (by rw [e])]; rfl) ?_
  refine ⟨_,rfl,p,_,_,.int c.a,rfl,rfl,SqT.of hp,af (j:=1) rfl,_,rfl,p,_,_,.int c.b,rfl,rfl,SqT.of hp,af (j:=2) rfl,rfl,_,rfl,?_⟩
  by_cases ab:c.a=c.b
  ·refine iteY (decide_eq_true (by rw [ab])) ?_
   refine ⟨_,rfl,_,rfl,p,_,_,.int c.b,rfl,rfl,SqT.of hp,af (j:=2) rfl,_,_,rfl,rfl,_,rfl,rfl,?_⟩
   have z:decide (can c ⟨r,n,0⟩)=decide (V.int (if n-c.b<0 then -(n-c.b) else n-c.b)=V.int 1):=by
    rw [decide_eq_decide]
    unfold can j3
    rw [if_pos ab]
    simp only [V.int.injEq]
    constructor
    ·rintro ⟨_,h⟩
     split <;> omega
    ·intro h
     refine ⟨e,?_⟩
     split at h <;> omega
   rw [<- z]
   exact q
  ·refine iteN (decide_eq_false (by intro z; exact ab (V.int.inj z))) ?_
   refine ⟨_,rfl,_,rfl,p,_,_,.int c.b,rfl,rfl,SqT.of hp,af (j:=2) rfl,_,rfl,p,c,rfl,hp,_,_,rfl,rfl,rfl,?_⟩
   have z:decide (can c ⟨r,n,0⟩)=decide (V.int n=V.int (c.b+c.way)):=by
    rw [decide_eq_decide]
    unfold can j3
    rw [if_neg ab]
    simp only [V.int.injEq]
    exact ⟨fun h=>h.2,fun h=>⟨e,h⟩⟩
   rw [<- z]
   exact q
 ·refine iteY (by rw [decide_eq_false (by intro z; exact e (V.str.inj z))]; rfl) ?_
  have z:decide (can c ⟨r,n,0⟩)=false:=decide_eq_false fun h=>e h.1
  rw [z] at q
  exact q
def rO:Sp:=fun vs H Q _=>∃(pl:Addr) (rs:'l') (r:Str) (n:Int),vs=[.ref pl,.str r,.int n]/\SL H pl rs/\rs.length<=1000000 /\
 ∀(rs':'l') (H':Hp),Bt pl H H'->SL H' pl rs'->rs'.map (·.2)=bb (rs.map (·.2)) ⟨r,n,0⟩->Q .non H'
theorem xX:ax ["strips", "reel", "number"] ["strips", "reel", "number"] (aj cW):='a'
theorem vO {f:Addr}{fd:BX}(F:Fun K "take_frame" "take_frame" cW f fd) (dCan:'k' "can_have" 2 ["strip", "reel", "number"] xg):aS P w K mg base CX0 3 f fd ["strips", "reel", "number"] rO:=by
 refine F.ok xX (fun vs H Q E h=>?_) (fun cdv A outer s H vs Q E hr h=>?_)
 ·obtain ⟨pl,rs,r,n,rfl,_⟩:=h
  rfl
 obtain ⟨pl,rs,r,n,rfl,sl,hlen,q⟩:=h
 refine eT (ai (bK (t_w (gJ (zx (e_v 0)) (eS (iO (ay dCan hr aD (aa (ar aw (e_v 0) (ip bZ ae)) (aa (e_v 1) (aa (e_v 2) ag))))))))
   (ai (iW (aB oq (lx fy (ar aw (e_v 0) (ip bZ ae)) mt (bP ae)) (bJ (aa (e_v 2) (aa (ar az (ar aw (e_v 0) (ip bZ ae)) ae) ag)))) (oM (e_v 0) (ip bZ ae))))
   (ai (aW (aU (e_v 0) (bJ (aa (e_v 1) (aa (e_v 2) (aa (e_v 2) (aa ae ag)))))))))) ?_
 have zl:sizeLine=16777216:=Bo
 have push:∀{H1:Hp},SL H1 pl rs->Same H H1->bb (rs.map (·.2)) ⟨r,n,0⟩=⟨r,n,n,0⟩ :: rs.map (·.2)->∀pt,H1 pt=none->Q .non (upd (upd H1 pt (.tup (Clip.vs ⟨r,n,n,0⟩))) pl (.lst ((rs.reverse.map fun x=>V.ref x.1)++[.ref pt]))):=by
  intro H1 sl1 s1 e pt hpt
  have st:=Same.new hpt (.tup (Clip.vs ⟨r,n,n,0⟩))
  exact q _ _ ((Bt.of (s1.trans st)).trans Bt.upd) ((sl1.same st).push (c:=⟨r,n,n,0⟩) ac) e.symm
 cases rs with
 | nil =>
  refine ⟨_,rfl,false,?_,dW ?_⟩
  ·exact .inl ⟨_,SqL.of sl.1,rfl⟩
  refine ⟨_,rfl,.inl ⟨rfl,_,SqL.of sl.1⟩,_,rfl,_,rfl,_,rfl,'j',fun pt hpt=>?_⟩
  exact ⟨pl,_,_,rfl,rfl,Same.new hpt _ _ _ sl.1,'f',push sl (Same.refl _) rfl pt hpt⟩
 | cons x rs =>
  refine ⟨_,rfl,true,?_,iG ?_⟩
  ·refine .inl ⟨_,SqL.of sl.1,?_⟩
   rw [Do,Bf]
   simp
  have hx:=sl.2 x (Bq ..)
  refine ⟨_,rfl,_,rfl,pl,_,_,.ref x.1,rfl,rfl,SqL.of sl.1,SL.last (H:=H) (p:=pl),_,rfl,_,rfl,x.1,x.2,r,n,rfl,hx,_,rfl,?_⟩
  by_cases e:can x.2 ⟨r,n,0⟩
  ·refine iteY (decide_eq_true e) ?_
   refine ⟨_,rfl,_,rfl,pl,_,_,.ref x.1,rfl,rfl,SqL.of sl.1,SL.last (H:=H) (p:=pl),_,rfl,x.1,_,rfl,hx,fun p1 H1 s1 hp1=>?_⟩
   refine ⟨_,rfl,_,rfl,_,rfl,pl,_,_,.ref x.1,rfl,rfl,SqL.of (s1 _ _ sl.1),SL.last (H:=H) (p:=pl),x.1,_,_,.int x.2.f,rfl,rfl,SqT.of (s1 _ _ hx),af (j:=3) rfl,'i',fun p2 hp2=>?_⟩
   have s2:=Same.new hp2 (.tup [.int n,.int x.2.f])
   refine ⟨p1,p2,_,_,rfl,rfl,s2 _ _ hp1,ac,(by show 2+2<=sizeLine; decide),fun p3 H3 s3 hp3=>?_⟩
   have S3:=(s1.trans s2).trans s3
   have sl3:=sl.same S3
   have hl:(((x :: rs).reverse.map fun x=>V.ref x.1)).length=rs.length+1:=by rw [A2,Du]; rfl
   refine ⟨_,rfl,_,rfl,pl,_,_,rs.length,rfl,rfl,sl3.1,?_,?_⟩
   ·have:=uo (n:=(((x :: rs).reverse.map fun x=>V.ref x.1)).length) (by rw [hl]; exact Nat.succ_pos _)
    rw [hl] at this ⊢
    exact this
   ·have e2:(((x :: rs).reverse.map fun x=>V.ref x.1)).set rs.length (V.ref p3)=(rs.reverse.map fun x=>V.ref x.1)++[.ref p3]:=by
     rw [Do,Bf]
     have:rs.length=(rs.reverse.map fun x=>V.ref x.1).length:=by rw [A2,Du]
     rw [this,List.set_append_right _ _ (Bb _),Dp]
     rfl
    rw [e2]
    refine q ((p3,⟨x.2.reel,x.2.a,n,x.2.f⟩) :: rs) _ ((Bt.of S3).trans Bt.upd) (sl3.put (c:=⟨x.2.reel,x.2.a,n,x.2.f⟩) hp3) ?_
    rw [BD,BD,bo,if_pos ⟨Ci 0,e⟩]
  ·refine iteN (decide_eq_false e) ?_
   refine ⟨_,rfl,.inl ⟨rfl,_,SqL.of sl.1⟩,_,rfl,_,rfl,_,rfl,'j',fun pt hpt=>?_⟩
   refine ⟨pl,_,_,rfl,rfl,Same.new hpt _ _ _ sl.1,?_,push sl (Same.refl _) ?_ pt hpt⟩
   ·rw [A2,Du]
    omega
   ·rw [BD,bo,if_neg fun z=>e z.2]
def ku:Sp:=fun vs H Q _=>∃(pc:Addr) (ps:'l') (n:Nat),vs=[.ref pc]/\CL 1000 n H pc ps/\n<=1000000/\ps.length<=100 /\
 ∀(l:Addr) (rs:'l') (H':Hp),Same H H'->H l=none->SL H' l rs->rs.map (·.2)=bW (moments 's')->Q (.ref l) H'
theorem scStrips:ax ["clips", "strips", "clip", "numbers", "number"] ["clips"] (aj dD):='a'
theorem qi {f:Addr}{fd:BX}(F:Fun K "strips_of" "strips_of" dD f fd) (dNos:'k' "numbers_of" 2 ["clip"] lY) (dTake:'k' "take_frame" 3 ["strips", "reel", "number"] rO):aS P w K mg base CX0 4 f fd ["clips"] ku:=by
 refine F.ok scStrips (fun vs H Q E h=>?_) (fun cdv A outer s H vs Q E hr h=>?_)
 ·obtain ⟨pc,ps,n,rfl,_⟩:=h
  rfl
 obtain ⟨pc,ps,N,rfl,cl,hN,hpl,q⟩:=h
 refine cL (ad (aA (i:=1) scStrips.nd (bh ag))
  (ad (bf BQ rfl (aZ (e_v 0)) (aE (i:=2) scStrips.nd)
   (ad (aA (i:=3) scStrips.nd (ay dNos hr aD (aa (e_v 2) ag)))
   (ad (fz (bK (aJ kN (ar az (e_v 2) ae) ae)
    (ad (aW (aU (e_v 1) (bJ (aa (ar az (e_v 2) ae) (aa (ar az (e_v 2) ae) (aa (ar az (e_v 2) ae) (aa (ar az (e_v 2) ae) ag)))))))
    (ai (aA (i:=3) scStrips.nd (lx jF (e_v 3) (bP ae) mt))))
    aV))
   (ai (bf BQ rfl (aZ (e_v 3)) (aE (i:=4) scStrips.nd)
    (ai (aW (ay dTake hr aD (aa (e_v 1) (aa (ar az (e_v 2) ae) (aa (e_v 4) ag)))))))))))
  (ai (aF (e_v 1))))) ?_
 intros
 have zl:sizeLine=16777216:=Bo
 refine ⟨'g',fun pl hp=>?_⟩
 have s0:=Same.new hp (.lst [])
 have bound:∀i,(bW (moments ((ps.take i).map (·.2)))).length<=100000:=by
  intro i
  have h1:=dU (moments ((ps.take i).map (·.2))) []
  have h2:=cz (m:=1000) ((ps.take i).map (·.2)) fun c hc=>by
   obtain ⟨x,hx,rfl⟩:=Bz.mp hc
   exact (cl.2 x (List.mem_of_mem_take hx)).2.d
  rw [A2,B9] at h2
  have h3:1000*min i ps.length<=1000*100:=Nat.mul_le_mul_left _ 'b'
  show (Gz bb [] _).length<=_
  rw [CI] at h1
  omega
 refine ⟨_,rfl,pc,rfl,⟨_,SqL.of (s0 _ _ cl.1)⟩,a_ (xs:=ps.map fun x=>V.ref x.1) (fun i σ H'=>∃(rs:'l') (o2 o3 o4:Option V),σ=[some (.ref pc),some (.ref pl),o2,o3,o4]/\SL H' pl rs/\rs.map (·.2)=bW (moments ((ps.take i).map (·.2)))/\Same H H')
  ⟨[],none,none,none,rfl,SL.nil ac,rfl,s0⟩ ?_ ?_ ?_⟩
 ·rintro i σ H' hi ⟨rs,o2,o3,o4,rfl,sl,er,hS⟩
  exact SqL.of (hS _ _ cl.1)
 ·rintro i x σ H' hx ⟨rs,o2,o3,o4,rfl,sl,er,hS⟩
  rw [A5] at hx
  cases hz:ps[i]? with
  | none=>rw [hz] at hx; cases hx
  | some z =>
   rw [hz] at hx
   cases hx
   obtain ⟨hc,ok⟩:=cl.2 z (Bg hz)
   have hc:=hS _ _ hc
   have ek:bW (moments ((ps.take (i+1)).map (·.2)))=z.2.ms.foldl bb (rs.map (·.2)):=by
    rw [Cf,hz,Bf]
    show bW (moments (_++[z.2]))=_
    unfold bW at er ⊢
    rw [aX,bn,E2,er]
   have hrl:rs.length<=100000:=by
    have:=bound i
    rw [<- er,A2] at this
    exact this
   have hd:=ok.d
   refine ⟨_,rfl,z.1,z.2,rfl,hc,ok.sm hN,fun l1 hl1=>?_⟩
   have s1:=Same.new hl1 (.lst (z.2.nums.map V.int))
   have sl1:=sl.same s1
   refine ⟨fun σ' H1=>∃(rs1:'l') (ln:Addr) (xs:List Int) (o4:Option V),σ'=[some (.ref pc),some (.ref pl),some (.ref z.1),some (.ref ln),o4]/\SL H1 pl rs1/\H1 ln=some (.lst (xs.map V.int))/\ln≠pl/\rs1.length+xs.length<=102000/\z.2.ms.foldl bb (rs.map (·.2))=(xs.map fun n=>(⟨z.2.reel,n,0⟩:Mo)).foldl bb (rs1.map (·.2))/\Bt pl H' H1,?_,?_⟩
   ·refine ⟨_,rfl,z.1,_,_,.int z.2.f,rfl,rfl,SqT.of (s1 _ _ hc),af (j:=3) rfl,_,_,rfl,rfl,_,rfl,?_⟩
    have nel:l1≠pl:=fun e=>by rw [e,sl.1] at hl1; cases hl1
    refine cH (fun y=>?_) (fun y=>?_)
    ·have y:=of_decide_eq_true y
     refine ⟨_,rfl,.inl ⟨rfl,_,SqL.of sl1.1⟩,_,rfl,z.1,_,_,.str z.2.reel,rfl,rfl,SqT.of (s1 _ _ hc),af (j:=0) rfl,_,rfl,z.1,_,_,.int z.2.a,rfl,rfl,SqT.of (s1 _ _ hc),af (j:=1) rfl,_,rfl,z.1,_,_,.int z.2.a,rfl,rfl,SqT.of (s1 _ _ hc),af (j:=1) rfl,_,rfl,z.1,_,_,.int z.2.f,rfl,rfl,SqT.of (s1 _ _ hc),af (j:=3) rfl,'j',fun pt hpt=>?_⟩
     have s2:=Same.new hpt (.tup (Clip.vs ⟨z.2.reel,z.2.a,z.2.a,z.2.f⟩))
     refine ⟨pl,_,_,rfl,rfl,s2 _ _ sl1.1,by rw [A2,Du]; omega,?_⟩
     have hl2:upd (upd (upd H' l1 (.lst (z.2.nums.map V.int))) pt (.tup (Clip.vs ⟨z.2.reel,z.2.a,z.2.a,z.2.f⟩))) pl (.lst ((rs.reverse.map fun x=>V.ref x.1)++[.ref pt])) l1=some (.lst (z.2.nums.map V.int)):=by
      rw [ah nel]
      exact s2 _ _ ac
     refine ⟨_,rfl,_,rfl,l1,_,rfl,SqL.of hl2,fun l3 hl3=>?_⟩
     rw [show fg (z.2.nums.map V.int) (some 1) none=(z.2.nums.drop 1).map V.int from uQ V.int z.2.nums 1] at *
     have s3:=Same.new hl3 (.lst ((z.2.nums.drop 1).map V.int))
     have slp:=((sl1.same s2).push (c:=⟨z.2.reel,z.2.a,z.2.a,z.2.f⟩) ac)
     refine ⟨_,l3,z.2.nums.drop 1,_,rfl,slp.same s3,ac,?_,?_,?_,?_⟩
     ·intro e
      rw [e,ac] at hl3
      cases hl3
     ·rw [BK,Fd,Clip.nums_len]
      omega
     ·rw [cy,Gr,pQ y]
      rfl
     ·exact ((Bt.of (s1.trans s2)).trans Bt.upd).trans (Bt.of s3)
    ·have y:¬ 0<z.2.f:=fun k=>y (decide_eq_true k)
     have f0:=ok.f0
     exact ⟨rs,l1,z.2.nums,_,rfl,sl1,ac,nel,by rw [Clip.nums_len]; omega,by rw [v8 'b'],Bt.of s1⟩
   rintro σ H1 ⟨rs1,ln,xs,o4',rfl,sl1,hln,nel,hlen,ef,bt⟩
   have hc1:H1 z.1=some (.tup z.2.vs):=bt _ _ (sl.ne hc) hc
   refine ⟨_,rfl,ln,rfl,⟨_,SqL.of hln⟩,a_ (xs:=xs.map V.int) (fun j σ H2=>∃(rs2:'l') (o4:Option V),σ=[some (.ref pc),some (.ref pl),some (.ref z.1),some (.ref ln),o4]/\SL H2 pl rs2/\H2 ln=some (.lst (xs.map V.int))/\rs2.map (·.2)=((xs.take j).map fun n=>(⟨z.2.reel,n,0⟩:Mo)).foldl bb (rs1.map (·.2))/\Bt pl H1 H2)
    ⟨rs1,_,rfl,sl1,hln,rfl,Bt.refl _ _⟩ ?_ ?_ ?_⟩
   ·rintro j σ H2 hj ⟨rs2,o4,rfl,sl2,hl2,er2,bt2⟩
    exact SqL.of hl2
   ·rintro j y σ H2 hy ⟨rs2,o4,rfl,sl2,hl2,er2,bt2⟩
    rw [A5] at hy
    cases hu:xs[j]? with
    | none=>rw [hu] at hy; cases hy
    | some u =>
     rw [hu] at hy
     cases hy
     have hc2:=bt2 _ _ (sl1.ne hc1) hc1
     have hrl2:rs2.length<=1000000:=by
      have e:=congrArg Ce er2
      rw [A2] at e
      have h1:=dU ((xs.take j).map fun n=>(⟨z.2.reel,n,0⟩:Mo)) (rs1.map (·.2))
      rw [A2,A2,B9] at h1
      omega
     refine ⟨_,rfl,_,rfl,z.1,_,_,.str z.2.reel,rfl,rfl,SqT.of hc2,af (j:=0) rfl,_,rfl,pl,rs2,z.2.reel,u,rfl,sl2,hrl2,fun rs3 H3 b3 sl3 e3=>?_⟩
     refine ⟨rs3,_,rfl,sl3,b3 _ _ nel hl2,?_,bt2.trans b3⟩
     rw [e3,er2,Cf,hu,Bf,E2]
     rfl
   ·rintro σ H2 ⟨rs2,o4,rfl,sl2,hl2,er2,bt2⟩
    rw [A2,B4] at er2
    exact ⟨rs2,_,_,_,rfl,sl2,by rw [ek,ef,er2],Bt.same hS (bt.trans bt2) hp⟩
 ·rintro σ H' ⟨rs,o2,o3,o4,rfl,sl,er,hS⟩
  rw [A2,B4] at er
  exact ⟨_,rfl,q pl rs H' hS hp sl er⟩
end
section
variable {P:Program}{w:BG}{K:Ba}{mg:Str->Option Value}{base:Heap}
theorem AJ:ax ["strip"] ["strip"] (aj dF):='a'
theorem Al {f:Addr}{fd:BX}(F:Fun K "frames_of" "frames_of" dF f fd) (dNos:'k' "numbers_of" 2 ["clip"] lY):aS P w K mg base CX0 3 f fd ["strip"] lY:=by
 refine F.ok AJ (fun vs H Q E h=>?_) (fun cdv A outer s H vs Q E hr h=>?_)
 ·obtain ⟨p,c,rfl,_⟩:=h
  rfl
 obtain ⟨p,c,rfl,hp,sm,q⟩:=h
 refine eT (ai (aF (ay dNos hr aD (aa (e_v 0) ag)))) ?_
 exact ⟨_,rfl,p,c,rfl,hp,sm,q⟩
theorem wo (b:Bool):decide (V.str (if b=true then ug else jC)=V.str (Df "leader"))=b:=by cases b <;> decide +kernel
theorem kH {α:Type}(x:α):∀n:Nat,(BF n [x]).flatten=BF n x
 | 0=>rfl
 | n+1=>by rw [CP,Eh,kH x n,CP]; rfl
theorem v5 (c:Clip):(c.nums.map fun x=>(some (c.reel,x):Mv))=(DU 0 c.cnt).map fun (i:Nat)=>some (c.reel,c.a+(i:Int)*c.way):=by
 unfold Clip.nums
 rw [BV,Ei]
 rfl
structure RlOk (cs:List Clip) (ts:List Th):Prop where
 n0:∀t∈ts,0<=t.n
 n1:∀t∈ts,t.lead=true\/t.n<cs.length
 sm:∀c∈cs,Sm c
 ln:(aC cs ts).length<=1000000
 tl:ts.length<=1000000
theorem RlOk.at {cs:List Clip}{ts:List Th}(h:RlOk cs ts) {i:Nat}{t:Th}(ht:ts[i]?=some t) (hl:t.lead=false):∃k:Nat,t.n=(k:Int)/\k<cs.length/\t.n.toNat=k:=by
 have hm:=Bg ht
 have h0:=h.n0 t hm
 have h1:t.n<cs.length:=by
  rcases h.n1 t hm with z | z
  ·rw [hl] at z; cases z
  ·exact z
 exact ⟨t.n.toNat,by omega,by omega,rfl⟩
theorem RlOk.part {cs:List Clip}{ts:List Th}(h:RlOk cs ts) {i:Nat}{t:Th}(ht:ts[i]?=some t):(aC cs (ts.take i)).length+(bV cs t).length<=1000000:=by
 have h1:=sk cs ts (i+1)
 have h2:=h.ln
 rw [gW ht,Bd] at h1
 omega
def nE:Sp:=fun vs H Q _=>∃(p pr:Addr) (ps:'l') (ts:List (Addr×Th)),vs=[.ref p,.ref pr]/\ST H p ps/\TL H pr ts/\ps.length<=100000/\RlOk 's' (ts.map (·.2))/\∀l H',Same H H'->H l=none->ML H' l (aC 's' (ts.map (·.2)))->Q (.ref l) H'
theorem scShows:ax ["strips", "roll", "moments", "kind", "number"] ["strips", "roll"] (aj cX):='a'
theorem tJ {f:Addr}{fd:BX}(F:Fun K "roll_shows" "roll_shows" cX f fd) (dFr:'k' "frames_of" 3 ["strip"] lY):aS P w K mg base CX0 4 f fd ["strips", "roll"] nE:=by
 refine F.ok scShows (fun vs H Q E h=>?_) (fun cdv A outer s H vs Q E hr h=>?_)
 ·obtain ⟨p,pr,ps,ts,rfl,_⟩:=h
  rfl
 obtain ⟨p,pr,ps,ts,rfl,st,tl,hl,ok,q⟩:=h
 refine cL (ad (aA (i:=2) scShows.nd (bh ag))
  (ad (bf BQ rfl (aZ (e_v 1)) (fK rfl (aN (aE (i:=3) scShows.nd) (aN (fL (i:=4) scShows.nd) cJ)))
   (ai (bK (aJ cx (e_v 3) jo)
    (ai (aW (lz (e_v 2) (aB tG (bh (aa oU ag)) (e_c 4)))))
    (ai (aW (lz (e_v 2) (du ["number", "strips"] [4,0] [("strips",'n'+1),("number",'n'+2)] rfl ⟨rfl,rfl,rfl,rfl,⟨rfl,rfl,rfl,rfl,trivial⟩⟩ ⟨rfl,⟨rfl,trivial⟩⟩ (aZ (ay dFr hr aD (aa (ar aw (e_c 0) (e_c 4)) ag))) (fun _ _ _ _=>(bJ (aa (ar (bu (K:=K) rfl) (ar (bD (K:=K) rfl) (e_n 2) (e_n 1)) ae) (aa (e_n 0) ag)))))))))))
  (ai (aF (e_v 2))))) ?_
 intros
 have zl:sizeLine=16777216:=Bo
 have hm2:'s'.length=ps.length:=A2 ..
 refine ⟨'g',fun pm hm0=>?_⟩
 have s1:=Same.new hm0 (.lst [])
 refine ⟨_,rfl,pr,rfl,⟨_,SqL.of (s1 _ _ tl.1)⟩,a_ (K:=K) (a:=pr) (xs:=ts.map fun x=>V.ref x.1) (fun i σ H'=>∃(vs:List V) (o3 o4:Option V),σ=[some (.ref p),some (.ref pr),some (.ref pm),o3,o4]/\Same H H'/\H' pm=some (.lst vs)/\MVs H' vs (aC 's' ((ts.map (·.2)).take i)))
  ⟨[],none,none,rfl,s1,ac,.nil⟩ (fun i σ H' _ ⟨_,_,_,_,s,_⟩=>SqL.of (s _ _ tl.1)) ?_ ?_⟩
 ·rintro i x σ H' hx ⟨vs,o3,o4,rfl,hS,hpm,mv⟩
  rw [A5] at hx
  cases hz:ts[i]? with
  | none=>rw [hz] at hx; cases hx
  | some z =>
   rw [hz] at hx
   cases hx
   have hzt:(ts.map (·.2))[i]?=some z.2:=by rw [A5,hz]; rfl
   have h0:=hS _ _ (tl.2 z (Bg hz))
   have part:=ok.part hzt
   have lv:=mv.len
   refine ⟨z.1,_,rfl,SqT.of h0,rfl,_,_,rfl,_,_,rfl,rfl,?_⟩
   refine ⟨_,rfl,rfl,_,rfl,?_⟩
   rw [wo,gW hzt]
   rw [iT] at part
   cases hlead:z.2.lead with
   | true =>
    rw [hlead,if_pos rfl] at part
    have n0:=ok.n0 z.2 (Bg hzt)
    refine iG ⟨_,rfl,.inl ⟨rfl,_,SqL.of hpm⟩,'h',fun q1 hq1=>?_⟩
    have t1:=Same.new hq1 (.lst [V.non])
    refine ⟨_,rfl,q1,_,_,rfl,rfl,ac,by omega,by omega,by show 1*z.2.n.toNat<=sizeLine; omega,fun q2 hq2=>?_⟩
    rw [kH] at *
    have t2:=Same.new hq2 (.lst (BF z.2.n.toNat V.non))
    have T2:=t1.trans t2
    refine ⟨pm,q2,_,_,rfl,rfl,T2 _ _ hpm,ac,by rw [CG,lv]; omega,_,_,_,rfl,Bt.same (hS.trans T2) Bt.upd hm0,ac,?_⟩
    have e:bV 's' z.2=BF z.2.n.toNat none:=by unfold bV; rw [if_pos hlead]
    rw [e]
    exact MVs.bt (Bt.upd (p:=pm)) (T2 _ _ hpm) ((mv.same T2).app (MVs.nones _))
   | false =>
    rw [hlead,if_neg Bx] at part
    obtain ⟨k,hk,hkl,hk'⟩:=ok.at hzt hlead
    rw [hm2] at hkl
    rw [hk'] at part
    have st':=st.same hS
    obtain ⟨a1,g1,ha1,hg⟩:=st'.get hkl
    have sm:=ok.sm _ (Bg hg)
    obtain ⟨c,hc⟩:∃c,c=clA 's' k:=⟨_,rfl⟩
    rw [<- hc] at ha1 sm part
    refine dW ⟨_,rfl,.inl ⟨rfl,_,SqL.of hpm⟩,_,rfl,_,rfl,p,_,_,_,rfl,rfl,SqL.of st'.1,bv (k:=k) hk g1,a1,c,rfl,ha1,sm,fun l hl0=>?_⟩
    have t1:=Same.new hl0 (.lst (c.nums.map V.int))
    refine ⟨l,rfl,⟨_,SqL.of ac⟩,uS (fun i=>[.str c.reel,.int (c.a+(i:Int)*c.way)]) (SqL.of ac) (by rw [A2,Clip.nums_len]; omega) ?_ ?_⟩
    ·intro j y H2 R s2 hy hR
     rw [A5] at hy
     cases hu:c.nums[j]? with
     | none=>rw [hu] at hy; cases hy
     | some u =>
      rw [hu] at hy
      cases hy
      have hj:j<c.cnt:=by
       have:=(A8.mp hu).1
       rw [Clip.nums_len] at this
       exact this
      have eu:=dS (c:=c) (k:=j) hj
      rw [hu] at eu
      cases eu
      have T2:=t1.trans s2
      refine ⟨_,rfl,_,rfl,p,_,_,_,rfl,rfl,SqL.of (T2 _ _ st'.1),bv (k:=k) hk g1,a1,_,_,.str c.reel,rfl,rfl,SqT.of (T2 _ _ ha1),af (j:=0) rfl,_,rfl,'i',fun r hr0=>?_⟩
      exact hR r _ (Same.new hr0 _) ac
    ·intro D H2 rs s2 hD0 hD hrl hrs
     have T2:=t1.trans s2
     rw [A2,Clip.nums_len] at hrl
     refine ⟨pm,D,_,_,rfl,rfl,T2 _ _ hpm,hD,by rw [A2,lv]; omega,_,_,_,rfl,Bt.same (hS.trans T2) Bt.upd hm0,ac,?_⟩
     have e:bV 's' z.2=(DU 0 rs.length).map fun (i:Nat)=>some (c.reel,c.a+(i:Int)*c.way):=by
      unfold bV
      rw [if_neg (by rw [hlead]; exact Bx),hk',<- hc,v5,hrl]
     rw [e]
     exact MVs.bt (Bt.upd (p:=pm)) (T2 _ _ hpm) ((mv.same T2).app (MVs.refs (f:=fun i=>(c.reel,c.a+(i:Int)*c.way)) rs 0 fun i r hr=>by rw [Nat.zero_add]; exact hrs i r hr))
 ·rintro σ H' ⟨vs,o3,o4,rfl,hS,hpm,mv⟩
  rw [A2,<- A2 (f:=(·.2)),B4] at mv
  exact ⟨_,rfl,q pm H' hS hm0 ⟨vs,hpm,mv⟩⟩
end
end K55
namespace K55
open PySem L2 G KS
open DT hiding iteN iteY
def _root_.KS.Frm.d (f:Frm):PyData:=.tuple [.str f.reel,.int f.n,.int f.p,.int f.w]
def _root_.KS.Frm.vs (f:Frm):List V:=[.str f.reel,.int f.n,.int f.p,.int f.w]
def tZ (m:List Frm):PyData:=.tuple (m.map Frm.d)
def SH (H:Hp) (p:Addr) (S:List (List Frm)):Prop:=∃vs,H p=some (.lst vs)/\Tds H vs (S.map tZ)
theorem rq {H:Hp}{v:V}{f:Frm}(h:Td H v f.d):∃a,v=.ref a/\H a=some (.tup f.vs):=by
 obtain ⟨a,vs,rfl,h1,h2⟩:=h.tinv
 cases h2 with | cons a1 h2=>cases h2 with | cons a2 h2=>cases h2 with | cons a3 h2=>cases h2 with | cons a4 h2=>cases h2; rw [a1.sinv,a2.iinv,a3.iinv,a4.iinv] at h1; exact ⟨_,rfl,h1⟩
theorem mD {H:Hp}{a:Addr}{f:Frm}(h:H a=some (.tup f.vs)):Td H (.ref a) f.d:=.tup h (.cons (.str _) (.cons (.int _) (.cons (.int _) (.cons (.int _) .nil))))
theorem xS {H:Hp}{v:V}{g:Frm}{r:List Frm}(h:Td H v (tZ (g :: r))):∃a b rest,v=.ref a/\H a=some (.tup (.ref b :: rest))/\H b=some (.tup g.vs):=by
 obtain ⟨a,vs,rfl,h1,h2⟩:=h.tinv
 cases h2 with
 | cons a1 h2 =>
  obtain ⟨b,rfl,hb⟩:=rq a1
  exact ⟨a,b,_,rfl,h1,hb⟩
theorem ni {H:Hp}{v:V}{d:PyData}(h:Td H v d):∀{vs:List V}{ds:List PyData}(i:Nat),Tds H vs ds->Tds H (vs.set i v) (ds.set i d)
 | _,_,_,.nil=>.nil
 | _,_,0,.cons _ r=>.cons h r
 | _,_,i+1,.cons a r=>.cons a (ni h i r)
section
variable {P:Program}{w:BG}{K:Ba}{mg:Str->Option Value}{base:Heap}
def nM:Sp:=fun vs H Q _=>∃(gt:Addr) (g:Frm) (r:Str) (n pa wh:Int),vs=[.ref gt,.str r,.int n,.int pa,.int wh]/\H gt=some (.tup g.vs)/\∀p H',Same H H'->Td H' (.ref p) (tZ [⟨g.reel,g.n,wh-pa,wh⟩,⟨r,n,pa,wh⟩])->Q (.ref p) H'
theorem vj:ax ["going", "reel", "number", "part", "whole"] ["going", "reel", "number", "part", "whole"] (aj jL):='a'
theorem tQ {f:Addr}{fd:BX}(F:Fun K "faded" "faded" jL f fd):aS P w K mg base CX0 1 f fd ["going", "reel", "number", "part", "whole"] nM:=by
 refine F.ok vj (fun vs H Q E h=>?_) (fun cdv A outer s H vs Q E hr h=>?_)
 ·obtain ⟨gt,g,r,n,pa,wh,rfl,_⟩:=h
  rfl
 obtain ⟨gt,g,r,n,pa,wh,rfl,hg,q⟩:=h
 refine eT (ai (aF (bJ (aa (aB oq (lx fy (e_v 0) mt (bP ae)) (bJ (aa (aB aQ (e_v 4) (e_v 3)) (aa (e_v 4) ag)))) (aa (bJ (aa (e_v 1) (aa (e_v 2) (aa (e_v 3) (aa (e_v 4) ag))))) ag))))) ?_
 refine ⟨_,rfl,_,rfl,gt,_,rfl,hg,fun p1 H1 s1 hp1=>?_⟩
 have hp1:H1 p1=some (.tup [.str g.reel,.int g.n]):=hp1
 refine ⟨_,rfl,_,rfl,_,_,rfl,rfl,_,rfl,'i',fun p2 hp2=>?_⟩
 have s2:=Same.new hp2 (.tup [.int (wh-pa),.int wh])
 refine ⟨p1,p2,_,_,rfl,rfl,s2 _ _ hp1,ac,(by show 2+2<=sizeLine; decide),fun p3 H3 s3 hp3=>?_⟩
 refine ⟨_,rfl,_,rfl,_,rfl,_,rfl,'j',fun p4 hp4=>⟨'i',fun p5 hp5=>?_⟩⟩
 have s4:=Same.new hp4 (.tup (Frm.vs ⟨r,n,pa,wh⟩))
 have s5:=Same.new hp5 (.tup [.ref p3,.ref p4])
 refine q p5 _ ((((s1.trans s2).trans s3).trans s4).trans s5) (.tup ac (.cons (mD (f:=⟨g.reel,g.n,wh-pa,wh⟩) (s5 _ _ (s4 _ _ hp3))) (.cons (mD (f:=⟨r,n,pa,wh⟩) (s5 _ _ ac)) .nil)))
def zK:Sp:=fun vs H Q _=>∃(pl pc:Addr) (S:List (List Frm)) (c:Clip),vs=[.ref pl,.ref pc]/\SH H pl S/\H pc=some (.tup c.vs)/\Sm c/\B5 c.reel=true/\0<=c.f/\c.f<=(S.length:Int)/\q0 S/\S.length<=100000 /\
 ∀H',Bt pl H H'->SH H' pl (kE S c)->Q .non H'
theorem scSC:ax ["moments", "clip", "fade", "begin", "k", "number", "going"] ["moments", "clip"] (aj dE):='a'
theorem Ae {f:Addr}{fd:BX}(F:Fun K "show_clip" "show_clip" dE f fd) (dNos:'k' "numbers_of" 2 ["clip"] lY) (dFaded:'k' "faded" 1 ["going", "reel", "number", "part", "whole"] nM) (n_len:mg "len"=none) (n_enumerate:mg "enumerate"=none):aS P w K mg base CX0 3 f fd ["moments", "clip"] zK:=by
 refine F.ok scSC (fun vs H Q E h=>?_) (fun cdv A outer s H vs Q E hr h=>?_)
 ·obtain ⟨pl,pc,S,c,rfl,_⟩:=h
  rfl
 obtain ⟨pl,pc,S,c,rfl,⟨vs0,hv0,td0⟩,hc,sm,rf,f0,f1,mk,hSl,q⟩:=h
 refine cL (ad (aA (i:=2) scSC.nd (ar az (e_v 1) ae))
  (ad (aA (i:=3) scSC.nd (aB aQ (e_b ao n_len B3 (aa (e_v 0) ag)) (e_v 2)))
  (ai (bf BQ rfl (j2 n_enumerate (ay dNos hr aD (aa (e_v 1) ag))) (fK rfl (aN (aE (i:=4) scSC.nd) (aN (aE (i:=5) scSC.nd) cJ)))
   (ai (fz (bK (aJ gz (e_v 4) (e_v 2))
    (ad (aA (i:=6) scSC.nd (ar az (ar aw (e_v 0) (aB aG (e_v 3) (e_v 4))) ae))
    (ai (iW (ay dFaded hr aD (aa (e_v 6) (aa (ar az (e_v 1) ae) (aa (e_v 5) (aa (aB aG (e_v 4) ae) (aa (aB aG (e_v 2) ae) ag)))))) (oM (e_v 0) (aB aG (e_v 3) (e_v 4))))))
    (ai (aW (aU (e_v 0) (bJ (aa (bJ (aa (ar az (e_v 1) ae) (aa (e_v 5) (aa ae (aa ae ag))))) ag)))))))))))) ?_
 intros
 have zl:sizeLine=16777216:=Bo
 have l0:vs0.length=S.length:=by rw [td0.len,A2]
 refine ⟨_,rfl,pc,_,_,.int c.f,rfl,rfl,SqT.of hc,af (j:=3) rfl,?_⟩
 refine ⟨_,rfl,pl,_,rfl,.inl (SqL.of hv0),_,rfl,_,_,rfl,rfl,?_⟩
 refine ⟨_,rfl,pc,c,rfl,hc,sm,fun l1 hl1=>?_⟩
 have s1:=Same.new hl1 (.lst (c.nums.map V.int))
 have npl:pc≠pl:=aK hc hv0 'c'
 have nl1:l1≠pl:=fun e=>by rw [e,hv0] at hl1; cases hl1
 have hcn:=sm.cnt
 obtain ⟨B,hB⟩:∃B:Nat,B=S.length-c.f.toNat:=⟨_,rfl⟩
 have eB:(vs0.length:Int)-c.f=(B:Int):=by rw [l0,hB]; omega
 refine ⟨l1,rfl,⟨_,SqL.of ac⟩,ii (K:=K) (a:=l1) (xs:=c.nums.map V.int) (fun k σ H2=>∃(o4 o5 o6:Option V),σ=[some (.ref pl),some (.ref pc),some (.int c.f),some (.int ((vs0.length:Int)-c.f)),o4,o5,o6]/\SH H2 pl (shK S c B k)/\H2 l1=some (.lst (c.nums.map V.int))/\Bt pl H H2)
  ⟨none,none,none,rfl,⟨vs0,s1 _ _ hv0,td0.tk (TK.of s1)⟩,ac,Bt.of s1⟩ ?_ ?_ ?_⟩
 ·rintro k σ H2 hk ⟨o4,o5,o6,rfl,sh,hl2,bt⟩
  exact SqL.of hl2
 ·rintro k y σ H2 pt hy ⟨o4,o5,o6,rfl,⟨vs2,hv2,td2⟩,hl2,bt⟩ hpt
  rw [A5] at hy
  cases hu:c.nums[k]? with
  | none=>rw [hu] at hy; cases hy
  | some u =>
   rw [hu] at hy
   cases hy
   have hkc:k<c.cnt:=by
    have:=(A8.mp hu).1
    rwa [Clip.nums_len] at this
   have eu:u=c.a+(k:Int)*c.way:=by
    rw [dS hkc] at hu
    cases hu
    rfl
   have st:=Same.new hpt (.tup [.int (k:Int),.int u])
   have hc2:=st _ _ (bt _ _ npl hc)
   have td3:=td2.tk (TK.of st)
   have hl3:=st _ _ hl2
   have lk:vs2.length=S.length+(k-c.f.toNat):=by rw [td2.len,A2,eC S c B f0 k]
   refine ⟨pt,_,rfl,SqT.of ac,rfl,_,_,rfl,_,_,rfl,rfl,?_⟩
   refine ⟨fun σ' H4=>∃(o6:Option V),σ'=[some (.ref pl),some (.ref pc),some (.int c.f),some (.int ((vs0.length:Int)-c.f)),some (.int (k:Int)),some (.int u),o6]/\SH H4 pl (shK S c B (k+1))/\H4 l1=some (.lst (c.nums.map V.int))/\Bt pl H H4,?_,?_⟩
   ·refine ⟨_,rfl,_,rfl,_,_,rfl,rfl,_,rfl,?_⟩
    refine cH (fun z=>?_) (fun z=>?_)
    ·have z:=of_decide_eq_true z
     have hb:B+k<(shK S c B k).length:=by rw [eC S c B f0 k]; omega
     have mok:=mC mk rf f0 (B:=B) 'b' k
     have hg:(shK S c B k)[B+k]?=some (shK S c B k)[B+k]:=A4 hb
     have hne:=(mok _ (BB hb)).1
     have epf:shK S c B (k+1)=KS.putF (shK S c B k) c B k (c.a+(k:Int)*c.way):=rfl
     generalize (shK S c B k)[B+k]=m at hg hne
     cases m with
     | nil=>exact absurd rfl hne
     | cons g r =>
      obtain ⟨v,hv,tv⟩:=td3.at (i:=B+k) (d:=tZ (g :: r)) (by rw [A5,hg]; rfl)
      obtain ⟨ma,gt,rest,rfl,hma,hgt⟩:=xS tv
      have av:atI vs2 ((vs0.length:Int)-c.f+(k:Int))=some (.ref ma):=by
       rw [eB,show (B:Int)+(k:Int)=((B+k:Nat):Int) by omega]
       exact af hv
      refine ⟨_,rfl,_,rfl,_,rfl,_,_,rfl,rfl,pl,_,_,.ref ma,rfl,rfl,SqL.of (st _ _ hv2),av,ma,_,_,.ref gt,rfl,rfl,SqT.of hma,af (j:=0) rfl,?_⟩
      refine ⟨_,rfl,_,rfl,pc,_,_,.str c.reel,rfl,rfl,SqT.of hc2,af (j:=0) rfl,_,rfl,_,rfl,_,_,rfl,rfl,_,rfl,_,_,rfl,rfl,gt,g,c.reel,u,_,_,rfl,hgt,fun p H5 s5 tp=>?_⟩
      have hv5:=s5 _ _ (st _ _ hv2)
      have T5:TK (upd H2 pt (.tup [.int (k:Int),.int u])) H5:=TK.of s5
      refine ⟨_,rfl,_,rfl,_,rfl,_,_,rfl,rfl,pl,_,_,B+k,rfl,rfl,hv5,?_,_,rfl,⟨vs2.set (B+k) (.ref p),ac,?_⟩,?_,?_⟩
      ·rw [eB,show (B:Int)+(k:Int)=((B+k:Nat):Int) by omega]
       exact jZ 'b'
      ·rw [epf]
       unfold KS.putF
       rw [if_pos z,A7,hg,List.map_set]
       refine ni ?_ (B+k) ((td3.tk T5).tk (TK.lst hv5))
       have e1:(c.f+1-((k:Int)+1))=c.f-(k:Int):=by omega
       rw [e1,eu] at tp
       exact tp.tk (TK.lst hv5)
      ·rw [ah nl1]
       exact s5 _ _ hl3
      ·exact (bt.trans (Bt.of (st.trans s5))).trans Bt.upd
    ·have z:¬ (k:Int)<c.f:=fun y=>z (decide_eq_true y)
     refine ⟨_,rfl,.inl ⟨rfl,_,SqL.of (st _ _ hv2)⟩,_,rfl,pc,_,_,.str c.reel,rfl,rfl,SqT.of hc2,af (j:=0) rfl,_,rfl,'j',fun p5 hp5=>⟨'h',fun p6 hp6=>?_⟩⟩
     have s5:=Same.new hp5 (.tup (Frm.vs ⟨c.reel,u,1,1⟩))
     have s6:=Same.new hp6 (.tup [.ref p5])
     have hv6:=s6 _ _ (s5 _ _ (st _ _ hv2))
     refine ⟨pl,_,_,rfl,rfl,hv6,by omega,_,rfl,⟨vs2++[.ref p6],ac,?_⟩,?_,?_⟩
     ·show Tds _ _ ((KS.putF (shK S c B k) c B k (c.a+(k:Int)*c.way)).map tZ)
      unfold KS.putF
      rw [if_neg z,Bf,<- eu]
      refine ((td3.tk (TK.of (s5.trans s6))).tk (TK.lst hv6)).app (.cons ?_ .nil)
      exact Td.tk (TK.lst hv6) (.tup ac (.cons (mD (f:=⟨c.reel,u,1,1⟩) (s6 _ _ ac)) .nil))
     ·rw [ah nl1]
      exact s6 _ _ (s5 _ _ hl3)
     ·exact (bt.trans (Bt.of ((st.trans s5).trans s6))).trans Bt.upd
   ·rintro σ H4 ⟨o6',rfl,sh4,hl4,bt4⟩
    exact ⟨_,_,_,rfl,sh4,hl4,bt4⟩
 ·rintro σ H2 ⟨o4,o5,o6,rfl,sh,hl2,bt⟩
  rw [A2,Clip.nums_len] at sh
  rw [hB] at sh
  exact q H2 bt sh
def nF:Sp:=fun vs H Q _=>∃(pc:Addr) (ps:'l') (n:Nat),vs=[.ref pc]/\CL 100 n H pc ps/\n<=1000000/\ps.length<=100/\Sd 's' /\
 ∀(l:Addr) (H':Hp),Same H H'->H l=none->SH H' l (shown 's')->Q (.ref l) H'
theorem scShown:ax ["clips", "moments", "clip"] ["clips"] (aj jH):='a'
theorem tK {f:Addr}{fd:BX}(F:Fun K "shown" "shown" jH f fd) (dSC:'k' "show_clip" 3 ["moments", "clip"] zK):aS P w K mg base CX0 4 f fd ["clips"] nF:=by
 refine F.ok scShown (fun vs H Q E h=>?_) (fun cdv A outer s H vs Q E hr h=>?_)
 ·obtain ⟨pc,ps,n,rfl,_⟩:=h
  rfl
 obtain ⟨pc,ps,N,rfl,cl,hN,hpl,sd,q⟩:=h
 refine cL (ad (aA (i:=1) scShown.nd (bh ag))
  (ad (bf BQ rfl (aZ (e_v 0)) (aE (i:=2) scShown.nd)
   (ai (aW (ay dSC hr aD (aa (e_v 1) (aa (e_v 2) ag))))))
  (ai (aF (e_v 1))))) ?_
 intros
 have zl:sizeLine=16777216:=Bo
 have ml:'s'.length=ps.length:=A2 ..
 refine ⟨'g',fun pl hp=>?_⟩
 have s0:=Same.new hp (.lst [])
 have cnt:∀c∈ps.map (·.2),c.cnt<=100:=fun c hc=>by
  obtain ⟨x,hx,rfl⟩:=Bz.mp hc
  exact (cl.2 x hx).2.d
 refine ⟨_,rfl,pc,rfl,⟨_,SqL.of (s0 _ _ cl.1)⟩,a_ (xs:=ps.map fun x=>V.ref x.1) (fun i σ H'=>∃(o2:Option V),σ=[some (.ref pc),some (.ref pl),o2]/\SH H' pl (shown ('s'.take i))/\Same H H')
  ⟨none,rfl,⟨[],ac,.nil⟩,s0⟩ ?_ ?_ ?_⟩
 ·rintro i σ H' hi ⟨o2,rfl,sh,hS⟩
  exact SqL.of (hS _ _ cl.1)
 ·rintro i x σ H' hx ⟨o2,rfl,sh,hS⟩
  rw [A5] at hx
  cases hz:ps[i]? with
  | none=>rw [hz] at hx; cases hx
  | some z =>
   rw [hz] at hx
   cases hx
   have hi:i<ps.length:=(A8.mp hz).1
   obtain ⟨hc,ok⟩:=cl.2 z (Bg hz)
   have hcz:'s'[i]?=some z.2:=by rw [A5,hz]; rfl
   have hm:z.2∈ps.map (·.2):=Bg hcz
   have lb:=jd sd cnt i 'b'
   refine ⟨_,rfl,_,rfl,pl,z.1,_,z.2,rfl,sh,hS _ _ hc,ok.sm hN,sd.rf _ hm,sd.f0 _ hm,sd.f2 i _ hcz,hX sd i 'b',by omega,fun H2 bt sh2=>?_⟩
   refine ⟨_,rfl,?_,Bt.same hS bt hp⟩
   rw [eV hcz]
   exact sh2
 ·rintro σ H' ⟨o2,rfl,sh,hS⟩
  rw [A2,<- ml,B4] at sh
  exact ⟨_,rfl,q pl H' hS hp sh⟩
end
end K55
namespace KS
open PySem
structure Iv where
 reel:Str
 lo:Int
 hi:Int
def be (spoil:Int) (c:Clip):Iv:=⟨c.reel,if c.b<c.a then c.b else c.a,(if c.a<c.b then c.b else c.a)+spoil⟩
def ff:List Int->Int->Nat
 | [],_=>0
 | e :: r,x=>if e<x then 0 else ff r x+1
def dQ (es:List Int) (p:Nat) (e:Int):List Int:=if p=es.length then es++[e] else es.set p e
theorem lg:∀(es:List Int) (x:Int),ff es x<=es.length
 | [],_=>Bb _
 | e :: r,x=>by
  unfold ff
  have:=lg r x
  split <;> simp <;> omega
theorem uA:∀{es:List Int}{x:Int}{e:Int},es[ff es x]?=some e->e<x
 | [],_,_,h=>by cases h
 | a :: r,x,e,h=>by
  unfold ff at h
  split at h
  ·cases h
   assumption
  ·rw [Cu] at h
   exact uA h
theorem uB:∀{es:List Int}{x:Int}{q:Nat}{e:Int},q<ff es x->es[q]?=some e->x<=e
 | [],_,_,_,_,h=>by cases h
 | a :: r,x,q,e,hq,h=>by
  unfold ff at hq
  split at hq
  ·cases hq
  ·rename_i k
   cases q with
   | zero =>
    cases h
    omega
   | succ q =>
    rw [Cu] at h
    exact uB 'b' h
theorem sG (es:List Int) (p:Nat) (e:Int):(dQ es p e).length=if p=es.length then es.length+1 else es.length:=by
 unfold dQ
 split
 ·rw [Bd]; rfl
 ·rw [Fy]
theorem jM {es:List Int}{p:Nat}{e:Int}(h:p<=es.length):(dQ es p e)[p]?=some e:=by
 unfold dQ
 split
 ·rename_i k
  rw [k,Bm (Bb _),Dp]
  rfl
 ·exact Dm 'b'
theorem oh {es:List Int}{p q:Nat}{e:Int}(h:p<=es.length) (hq:q≠p):(dQ es p e)[q]?=es[q]?:=by
 unfold dQ
 split
 ·rename_i k
  by_cases h2:q<es.length
  ·rw [Bk h2]
  ·rw [Cm (by rw [Bd,BZ]; omega),Cm 'b']
 ·rw [DJ (Co hq)]
abbrev Ends:=Str->List Int
def Ends.put (f:Ends) (r:Str) (es:List Int):Ends:=fun x=>if x=r then es else f x
def cM:List Iv->Ends->List (Iv×Nat)
 | [],_=>[]
 | v :: r,f=>(v,ff (f v.reel) v.lo) :: cM r (f.put v.reel (dQ (f v.reel) (ff (f v.reel) v.lo) v.hi))
def cO:List Iv->Ends->Ends
 | [],f=>f
 | v :: r,f=>cO r (f.put v.reel (dQ (f v.reel) (ff (f v.reel) v.lo) v.hi))
structure Told (done:List (Iv×Nat)) (f:Ends):Prop where
 up:∀x∈done,∃e,(f x.1.reel)[x.2]?=some e/\x.1.hi<=e
 by':∀(r:Str) (p:Nat) e,(f r)[p]?=some e->∃x∈done,x.1.reel=r/\x.2=p/\x.1.hi=e
theorem Told.nil:Told [] (fun _=>[]):=⟨(fun x h=>by cases h),(fun r p e h=>by cases h)⟩
theorem Told.behind {done:List (Iv×Nat)}{f:Ends}{v:Iv}(T:Told done f):∀x∈done,x.1.reel=v.reel->x.2=ff (f v.reel) v.lo->x.1.hi<v.lo:=by
 intro x hx hr hp
 obtain ⟨e,h1,h2⟩:=T.up x hx
 rw [hr,hp] at h1
 have:=uA h1
 omega
theorem Told.ahead {done:List (Iv×Nat)}{f:Ends}{v:Iv}(T:Told done f) {q:Nat}(hq:q<ff (f v.reel) v.lo):∃x∈done,x.1.reel=v.reel/\x.2=q/\v.lo<=x.1.hi:=by
 have hl:=lg (f v.reel) v.lo
 have hx:(f v.reel)[q]?=some (f v.reel)[q]:=A4 'b'
 obtain ⟨x,h1,h2,h3,h4⟩:=T.by' v.reel q _ hx
 exact ⟨x,h1,h2,h3,by rw [h4]; exact uB hq hx⟩
theorem Told.put {done:List (Iv×Nat)}{f:Ends}{v:Iv}(T:Told done f) (hv:v.lo<=v.hi):Told (done++[(v,ff (f v.reel) v.lo)]) (f.put v.reel (dQ (f v.reel) (ff (f v.reel) v.lo) v.hi)):=by
 have hl:=lg (f v.reel) v.lo
 refine ⟨fun x hx=>?_,fun r p e h=>?_⟩
 ·rcases B7.mp hx with hx | hx
  ·obtain ⟨e,h1,h2⟩:=T.up x hx
   by_cases hr:x.1.reel=v.reel
   ·unfold Ends.put
    rw [if_pos hr]
    by_cases hp:x.2=ff (f v.reel) v.lo
    ·have:=T.behind x hx hr hp
     rw [hp]
     exact ⟨v.hi,jM hl,by omega⟩
    ·rw [hr] at h1
     exact ⟨e,by rw [oh hl hp]; exact h1,h2⟩
   ·unfold Ends.put
    rw [if_neg hr]
    exact ⟨e,h1,h2⟩
  ·rw [Bu.mp hx]
   unfold Ends.put
   show ∃e,(if v.reel=v.reel then _ else _)[_]?=some e/\v.hi<=e
   rw [if_pos rfl]
   exact ⟨v.hi,jM hl,Ci _⟩
 ·unfold Ends.put at h
  split at h
  ·rename_i hr
   by_cases hp:p=ff (f v.reel) v.lo
   ·rw [hp,jM hl] at h
    cases h
    exact ⟨_,BI _ (Bu.mpr rfl),hr.symm,hp.symm,rfl⟩
   ·rw [oh hl hp] at h
    obtain ⟨x,h1,h2,h3,h4⟩:=T.by' v.reel p e h
    exact ⟨x,Dh _ h1,h2.trans hr.symm,h3,h4⟩
  ·obtain ⟨x,h1,h2,h3,h4⟩:=T.by' r p e h
   exact ⟨x,Dh _ h1,h2,h3,h4⟩
structure Fit (out:List (Iv×Nat)):Prop where
 apart:out.Pairwise fun x y=>x.1.reel=y.1.reel->x.2=y.2->x.1.hi<y.1.lo
 full:∀(i:Nat) y,out[i]?=some y->∀q,q<y.2->∃j x,j<i/\out[j]?=some x/\x.1.reel=y.1.reel/\x.2=q/\y.1.lo<=x.1.hi
theorem oN:∀(vs:List Iv) (done:List (Iv×Nat)) (f:Ends),(∀v∈vs,v.lo<=v.hi)->Told done f->Fit done->Fit (done++cM vs f)
 | [],done,f,_,_,F=>by unfold cM; rw [BH]; exact F
 | v :: r,done,f,h,T,F=>by
  have hv:=h v (Bq ..)
  have T2:=T.put hv
  have F2:Fit (done++[(v,ff (f v.reel) v.lo)]):=by
   refine ⟨?_,fun i y hy q hq=>?_⟩
   ·rw [Gk]
    refine ⟨F.apart,CZ _ _,fun x hx y hy hr hp=>?_⟩
    rw [Bu.mp hy] at hr hp ⊢
    exact T.behind x hx hr hp
   ·by_cases hi:i<done.length
    ·rw [Bk hi] at hy
     obtain ⟨j,x,h1,h2,h3⟩:=F.full i y hy q hq
     exact ⟨j,x,h1,by rw [Bk 'b']; exact h2,h3⟩
    ·have hl:=(A8.mp hy).1
     rw [Bd,BZ] at hl
     rw [Bm 'b',show i-done.length=0 by omega] at hy
     cases hy
     obtain ⟨x,h1,h2,h3,h4⟩:=T.ahead hq
     obtain ⟨j,hj⟩:=Gm h1
     have hjl:=(A8.mp hj).1
     exact ⟨j,x,by omega,by rw [Bk hjl]; exact hj,h2,h3,h4⟩
  have:=oN r _ _ (fun x hx=>h x (Br _ hx)) T2 F2
  rw [Cj] at this
  exact this
theorem wz {vs:List Iv}(h:∀v∈vs,v.lo<=v.hi):Fit (cM vs fun _=>[]):=by
 have:=oN vs [] (fun _=>[]) h Told.nil ⟨Ep.nil,fun i y hy=>by cases hy⟩
 exact this
theorem g7:∀(vs:List Iv) (f:Ends),(cM vs f).map (·.1)=vs
 | [],_=>rfl
 | v :: r,f=>by unfold cM; rw [BD,g7 r]
theorem kG:∀(vs us:List Iv) (f:Ends),cM (vs++us) f=cM vs f++cM us (cO vs f)
 | [],us,f=>rfl
 | v :: r,us,f=>by
  show (v,_) :: cM (r++us) _=(v,_) :: (cM r _++cM us (cO r _))
  rw [kG r us]
structure PrOk (ivs:List Iv) (ps:List Nat):Prop where
 len:ps.length=ivs.length
 apart:∀(i j:Nat) u v p,ivs[i]?=some u->ivs[j]?=some v->ps[i]?=some p->ps[j]?=some p->i≠j->u.reel=v.reel->u.hi<v.lo\/v.hi<u.lo
 full:∀(j:Nat) v p,ivs[j]?=some v->ps[j]?=some p->∀q,q<p->∃(i:Nat) (u:Iv),ivs[i]?=some u/\ps[i]?=some q/\u.reel=v.reel/\u.lo<=v.lo/\v.lo<=u.hi
theorem df {α:Type}{R:α->α->Prop}{l:List α}(h:l.Pairwise R) {i j:Nat}{x y:α}(hij:i<j) (hx:l[i]?=some x) (hy:l[j]?=some y):R x y:=by
 obtain ⟨h1,h2⟩:=A8.mp hx
 obtain ⟨h3,h4⟩:=A8.mp hy
 have:=(DA.mp h) i j h1 h3 hij
 rw [h2,h4] at this
 exact this
theorem vz {ivs:List Iv}{ps js:List Nat}(hl:ps.length=ivs.length) (hv:∀v∈ivs,v.lo<=v.hi) (hp:js.Perm (Bh ivs.length)) (d:Iv) (hs:js.Pairwise fun a b=>(ivs.getD a d).lo<=(ivs.getD b d).lo)
  (hps:∀(i j:Nat) x,js[i]?=some j->(cM (js.map fun j=>ivs.getD j d) fun _=>[])[i]?=some x->ps[j]?=some x.2):PrOk ivs ps:=by
 have hmem:∀j∈js,j<ivs.length:=fun j hj=>BW.mp (hp.mem_iff.mp hj)
 have F:=wz (vs:=js.map fun j=>ivs.getD j d) fun v hv'=>by
  obtain ⟨j,hj,rfl⟩:=Bz.mp hv'
  have:=hmem j hj
  rw [A7,A4 this]
  exact hv _ (BB this)
 have fst:=g7 (js.map fun j=>ivs.getD j d) fun _=>[]
 have at':∀(j:Nat) v p,ivs[j]?=some v->ps[j]?=some p->∃i:Nat,js[i]?=some j/\(cM (js.map fun j=>ivs.getD j d) fun _=>[])[i]?=some (v,p):=by
  intro j v p h1 h2
  have hj:j<ivs.length:=(A8.mp h1).1
  obtain ⟨i,hi⟩:=Gm (hp.mem_iff.mpr (BW.mpr hj))
  refine ⟨i,hi,?_⟩
  have hx:((cM (js.map fun j=>ivs.getD j d) fun _=>[]).map (·.1))[i]?=some v:=by
   rw [fst,A5,hi]
   show some (ivs.getD j d)=some v
   rw [A7,h1]
   rfl
  rw [A5] at hx
  cases hz:(cM (js.map fun j=>ivs.getD j d) fun _=>[])[i]? with
  | none=>rw [hz] at hx; cases hx
  | some x =>
   rw [hz] at hx
   have e1:x.1=v:=BP hx
   have e2:=hps i j x hi hz
   rw [h2] at e2
   have e2:=BP e2
   rw [<- e1,e2]
 have nd:js.Nodup:=hp.nodup_iff.mpr Fi
 have back:∀(i:Nat) x,(cM (js.map fun j=>ivs.getD j d) fun _=>[])[i]?=some x->∃j:Nat,js[i]?=some j/\ivs[j]?=some x.1/\ps[j]?=some x.2:=by
  intro i x hx
  have hl2:=congrArg Ce fst
  rw [A2,A2] at hl2
  have hi:=(A8.mp hx).1
  have hj:js[i]?=some js[i]:=A4 'b'
  refine ⟨_,hj,?_,hps i _ x hj hx⟩
  have hjl:=hmem _ (BB (l:=js) (n:=i) 'b')
  have:=congrArg (fun l=>l[i]?) fst
  simp only [A5,hx,hj] at this
  have this:x.1=ivs.getD js[i] d:=BP this
  rw [this,A7,A4 hjl]
  rfl
 refine ⟨hl,fun i j u v p h1 h2 h3 h4 hne hr=>?_,fun j v p h1 h2 q hq=>?_⟩
 ·obtain ⟨a,ha,hoa⟩:=at' i u p h1 h3
  obtain ⟨b,hb,hob⟩:=at' j v p h2 h4
  rcases Nat.lt_trichotomy a b with k | k | k
  ·exact .inl (df F.apart k hoa hob hr rfl)
  ·rw [k,hb] at ha
   exact absurd (BP ha).symm hne
  ·exact .inr (df F.apart k hob hoa hr.symm rfl)
 ·obtain ⟨b,hb,hob⟩:=at' j v p h1 h2
  obtain ⟨a,x,hab,hx,hr,hq2,hlo⟩:=F.full b (v,p) hob q hq
  obtain ⟨i,hi,h3,h4⟩:=back a x hx
  refine ⟨i,x.1,h3,by rw [<- hq2]; exact h4,hr,?_,hlo⟩
  have:=df hs hab hi hb
  rw [A7,h3,A7,h1] at this
  exact this
theorem jU {α:Type} [DecidableEq α]:∀{l m:List α},l.Nodup->(∀x∈l,x∈m)->l.length<=m.length
 | [],_,_,_=>B6 _
 | a :: l,m,hn,h=>by
  obtain ⟨h1,h2⟩:=Ed.mp hn
  have ha:=h a (Bq ..)
  have:=jU (l:=l) (m:=m.erase a) h2 fun x hx=>by
   have hne:x≠a:=fun e=>h1 (e ▸ hx)
   exact (List.mem_erase_of_ne hne).mpr (h x (Br _ hx))
  rw [List.length_erase_of_mem ha] at this
  have hm:0<m.length:=List.length_pos_of_mem ha
  rw [BK]
  omega
def kl (r:Str) (x:Int) (v:Iv):Bool:=decide (v.reel=r)&&(decide (v.lo<=x)&&decide (x<=v.hi))
def wanting (ivs:List Iv) (r:Str) (x:Int):List Nat:=(Bh ivs.length).filter fun k=>match ivs[k]? with
 | some v=>kl r x v
 | none=>false
theorem mem_wanting {ivs:List Iv}{r:Str}{x:Int}{k:Nat}:k∈wanting ivs r x↔∃v,ivs[k]?=some v/\v.reel=r/\v.lo<=x/\x<=v.hi:=by
 unfold wanting
 rw [C6,BW]
 constructor
 ·rintro ⟨h1,h2⟩
  rw [A4 h1] at h2
  refine ⟨_,A4 h1,?_⟩
  unfold kl at h2
  simpa using h2
 ·rintro ⟨v,h1,h2⟩
  refine ⟨(A8.mp h1).1,?_⟩
  rw [h1]
  unfold kl
  simpa using h2
theorem iC (ivs:List Iv) (r:Str) (x:Int):(wanting ivs r x).Nodup:=Ep.filter _ Fi
theorem PrOk.many {ivs:List Iv}{ps:List Nat}(P:PrOk ivs ps) {j:Nat}{v:Iv}{p:Nat}(hv:ivs[j]?=some v) (hp:ps[j]?=some p) (hl:v.lo<=v.hi):p+1<=(wanting ivs v.reel v.lo).length:=by
 have h:∀q∈Bh (p+1),q∈(wanting ivs v.reel v.lo).map fun k=>ps.getD k 0:=by
  intro q hq
  have hq:=BW.mp hq
  by_cases k:q=p
  ·refine Bz.mpr ⟨j,mem_wanting.mpr ⟨v,hv,rfl,Ci _,hl⟩,?_⟩
   rw [A7,hp,k]
   rfl
  ·obtain ⟨i,u,h1,h2,h3,h4,h5⟩:=P.full j v p hv hp q 'b'
   refine Bz.mpr ⟨i,mem_wanting.mpr ⟨u,h1,h3,h4,h5⟩,?_⟩
   rw [A7,h2]
   rfl
 have:=jU Fi h
 rw [BL,A2] at this
 exact this
theorem PrOk.few {ivs:List Iv}{ps:List Nat}(P:PrOk ivs ps) {r:Str}{x:Int}{n:Nat}(hn:∀(k:Nat) v p,ivs[k]?=some v->ps[k]?=some p->v.reel=r->p<n):(wanting ivs r x).length<=n:=by
 have get:∀k∈wanting ivs r x,∃v p,ivs[k]?=some v/\ps[k]?=some p/\v.reel=r/\v.lo<=x/\x<=v.hi:=by
  intro k hk
  obtain ⟨v,h1,h2,h3,h4⟩:=mem_wanting.mp hk
  have hkl:=(A8.mp h1).1
  exact ⟨v,_,h1,A4 (by rw [P.len]; exact hkl),h2,h3,h4⟩
 have nd:((wanting ivs r x).map fun k=>ps.getD k 0).Nodup:=by
  unfold List.Nodup
  rw [Cc]
  refine Ep.imp_of_mem ?_ (iC ivs r x)
  intro a b ha hb hab e
  obtain ⟨u,p,h1,h2,h3,h4,h5⟩:=get a ha
  obtain ⟨v,q,g1,g2,g3,g4,g5⟩:=get b hb
  rw [A7,h2,A7,g2] at e
  have e:p=q:=e
  subst e
  rcases P.apart a b u v p h1 g1 h2 g2 hab (by rw [h3,g3]) with k | k <;> omega
 have:=jU nd (m:=Bh n) fun q hq=>by
  obtain ⟨k,hk,rfl⟩:=Bz.mp hq
  obtain ⟨v,p,h1,h2,h3,_⟩:=get k hk
  rw [A7,h2]
  exact BW.mpr (hn k v p h1 h2 h3)
 rw [A2,BL] at this
 exact this
structure Hd (c:Clip) (j:Nat) (s:Clip):Prop where
 re:s.reel=c.reel
 b:s.b=c.a+((j-1:Nat):Int)*c.way
 w:s.a=s.b\/s.way=c.way
theorem y_ {c s:Clip}{j:Nat}(h:Hd c j s) (h1:1<=j):can s ⟨c.reel,c.a+(j:Int)*c.way,0⟩:=by
 refine ⟨h.re,?_⟩
 have e:c.a+(j:Int)*c.way=s.b+c.way:=by
  rw [h.b]
  rcases d7 c with k | k <;> rw [k] <;> omega
 show j3 s (c.a+(j:Int)*c.way)
 rw [e]
 unfold j3
 rcases h.w with k | k
 ·rw [if_pos k]
  rcases d7 c with k | k <;> rw [k] <;> omega
 ·split
  ·rcases d7 c with k | k <;> rw [k] <;> omega
  ·rw [k]
theorem y9 {c s:Clip}{j:Nat}(h:Hd c j s) (h1:1<=j):Hd c (j+1) ⟨s.reel,s.a,c.a+(j:Int)*c.way,s.f⟩:=by
 have e:c.a+(j:Int)*c.way=s.b+c.way:=by
  rw [h.b]
  rcases d7 c with k | k <;> rw [k] <;> omega
 refine ⟨h.re,rfl,.inr ?_⟩
 have wd:s.way=if s.b<s.a then -1 else 1:=rfl
 show (if c.a+(j:Int)*c.way<s.a then (-1:Int) else 1)=c.way
 rw [e]
 rcases d7 c with k | k <;> rcases h.w with k2 | k2 <;> rw [k] at*<;> split <;> (try split at wd) <;> omega
theorem lI (c:Clip) (r:List Clip):∀j,1<=j->j<=c.cnt->((c.ms.take j).foldl bb r).length<=r.length\/(((c.ms.take j).foldl bb r).length=r.length+1/\∃s t,(c.ms.take j).foldl bb r=s :: t/\Hd c j s)
 | 0,h,_=>absurd h 'f'
 | 1,_,hc=>by
  have e:c.ms.take 1=[⟨c.reel,c.a,c.f⟩]:=by rw [cy]; rfl
  rw [e]
  show (bb r ⟨c.reel,c.a,c.f⟩).length<=_\/_
  have hd:Hd c 1 ⟨c.reel,c.a,c.a,c.f⟩:=⟨rfl,by simp,.inl rfl⟩
  cases r with
  | nil=>exact .inr ⟨rfl,_,_,rfl,hd⟩
  | cons s t =>
   show (bb (s :: t) _).length<=_\/((bb (s :: t) _).length=_/\∃s' t',bb (s :: t) _=s' :: t'/\_)
   rw [bo]
   split
   ·exact .inl (Bb _)
   ·exact .inr ⟨rfl,_,_,rfl,hd⟩
 | j+2,_,hc=>by
  have hu:=dS (c:=c) (k:=j+1) 'b'
  have e:c.ms.take (j+2)=c.ms.take (j+1)++[⟨c.reel,c.a+((j+1:Nat):Int)*c.way,0⟩]:=by
   rw [Cf (i:=j+1),tY hu]
   simp
  have ih:=lI c r (j+1) 'b' 'b'
  rw [e,E2]
  show (bb _ _).length<=_\/((bb _ _).length=_/\∃s t,bb _ _=s :: t/\_)
  generalize hA:(c.ms.take (j+1)).foldl bb r=acc at ih
  rcases ih with ih | ⟨h1,s,t,h2,h3⟩
  ·have hd:Hd c (j+2) ⟨c.reel,c.a+((j+1:Nat):Int)*c.way,c.a+((j+1:Nat):Int)*c.way,0⟩:=⟨rfl,rfl,.inl rfl⟩
   cases acc with
   | nil =>
    by_cases k:r.length=0
    ·exact .inr ⟨by rw [k]; rfl,_,_,rfl,hd⟩
    ·exact .inl (by show 1<=r.length; omega)
   | cons s t =>
    rw [bo]
    split
    ·exact .inl ih
    ·by_cases k:(s :: t).length=r.length
     ·exact .inr ⟨by rw [BK,k],_,_,rfl,hd⟩
     ·exact .inl (by rw [BK]; omega)
  ·rw [h2,bo,if_pos ⟨Ci 0,y_ h3 'b'⟩]
   rw [h2] at h1
   exact .inr ⟨h1,_,_,rfl,y9 h3 'b'⟩
theorem uf (c:Clip) (r:List Clip):(c.ms.foldl bb r).length<=r.length+1:=by
 have h:=lI c r c.cnt (by unfold Clip.cnt; omega) (Bb _)
 rw [<- cq,B4] at h
 omega
theorem ib:∀(cs:List Clip) (r:List Clip),((moments cs).foldl bb r).length<=r.length+cs.length
 | [],r=>Bb _
 | c :: cs,r=>by
  rw [bX,E2,BK]
  have h1:=ib cs (c.ms.foldl bb r)
  have h2:=uf c r
  omega
end KS
namespace L2
open PySem PySem.Spec PyProof.Rows
section
variable {prog:Program}{w:BG}{A:BC}{E:Value->A9->Prop}{s:A9}{a kS:Addr}{vs:List Value}{kz:List Int}{keys:Array Value}{e e1:Nat}{P:FJ->A9->Prop}{Ψ:A9->Prop}
def cT (Ψ:A9->Prop) (c:Addr):Prop:=∀(s:A9) (h':Heap),Ψ s->Ca c s.heap h'->Ψ { s with heap:=h' }
theorem nS {st:SortSt}(I:Ψ s) (ok:cT Ψ kS) (oa:cT Ψ a) (nk:s.heap.get? kS=some (BE "list" keys e)) (na:s.heap.get? a=some (BE "list" #[] e1)) (hka:kS≠a)
  (hk:DQ keys.toList kz) (hlen:kz.length=vs.length) (h64:vs.length<64) (hp:(FY st).Perm (keys.zip vs.toArray)) (hs:SortedTo (FY st) (FY st).size) (hfl:failedOf st=none)
  (h:∀s' out c,Ψ s'->s'.heap.get? a=some (BE "list" out c)->KskOut false kz vs out.toList->P (.done (.ret .none)) s') :
  Bl (Bv prog w) A (ksk_tail a false e1 (.ref kS) st) P E s:=by
 have hsz:keys.size=vs.length:=by
  have h1:=hk.length
  rw [B8] at h1
  omega
 have hsz2:(FY st).size=vs.length:=by rw [hp.size_eq,Array.size_zip,hsz,Be,Nat.min_self]
 have hout:(if false then ((FY st).map (·.2)).reverse else (FY st).map (·.2)).size=vs.length:=by
  simp only [BY,if_false,Array.size_map]; exact hsz2
 have s1:=Ca.update s.heap kS (BS fun _=>(#[]:Array Value))
 have na1:(s.heap.update kS (BS fun _=>(#[]:Array Value))).get? a=some (BE "list" #[] e1):=(s1.2 a hka.symm).trans na
 have s2:=Ca.update (s.heap.update kS (BS fun _=>(#[]:Array Value))) a (BS fun _=>if false then ((FY st).map (·.2)).reverse else (FY st).map (·.2))
 obtain ⟨c2,hc2⟩:∃c2,((s.heap.update kS (BS fun _=>(#[]:Array Value))).update a (BS fun _=>if false then ((FY st).map (·.2)).reverse else (FY st).map (·.2))).get? a=some (BE "list" (if false then ((FY st).map (·.2)).reverse else (FY st).map (·.2)) c2) :=
  ⟨_,Ee na1 fun _=>if false then ((FY st).map (·.2)).reverse else (FY st).map (·.2)⟩
 unfold ksk_tail
 try dsimp only
 refine A3 (Eu nk rfl ?_ (by rw [hsz,Bo]; omega) (B6 _))
 refine A3 (wpAny_letGo ?_)
 refine A3 (Gn na1 rfl ?_)
 refine A3 (Eu na1 rfl ?_ (B6 _) (BR (FQ hout) (by rw [Bo]; omega)))
 rw [hfl]
 simp only [bne_self_eq_false,BY,if_false]
 have I1:=ok s _ I s1
 have I2:=oa _ _ I1 s2
 exact Bc (h _ _ c2 I2 hc2 (ksk_out (b:=false) hk hp hs))
theorem xW (I:Ψ s) (ok:cT Ψ kS) (oa:cT Ψ a) (nk:s.heap.get? kS=some (BE "list" keys e)) (na:s.heap.get? a=some (BE "list" #[] e1)) (hka:kS≠a)
  (hk:DQ keys.toList kz) (hlen:kz.length=vs.length) (h64:vs.length<64)
  (h:∀s' out c,Ψ s'->s'.heap.get? a=some (BE "list" out c)->KskOut false kz vs out.toList->P (.done (.ret .none)) s') :
  Bl (Bv prog w) A (ksk_end a false vs.toArray e1 (.ref kS) keys) P E s:=by
 have hsz:keys.size=vs.length:=by
  have h1:=hk.length
  rw [B8] at h1
  omega
 have hzs:(keys.zip vs.toArray).size=vs.length:=by rw [Array.size_zip,hsz,Be,Nat.min_self]
 unfold ksk_end
 try dsimp only
 simp only [BY,if_false]
 by_cases h2:vs.toArray.size<2
 ·rw [if_pos h2,if_pos h2]
  refine A3 (Bc ?_)
  rw [StateT.run_pure]
  refine A3 (Bc ?_)
  try dsimp only
  refine nS (st:=GC general' (keys.zip vs.toArray) #[] 7 none) I ok oa nk na hka hk hlen h64 (Array.Perm.refl _) ?_ rfl h
  intro i j hij hj
  have hj2:j<(keys.zip vs.toArray).size:=hj
  rw [hzs] at hj2
  rw [Be] at h2
  have:i=j:=by omega
  subst this
  exact Ci _
 ·rw [if_neg h2,if_neg h2]
  rw [Be] at h2
  rw [ksk_kind hk (by rw [hsz]; omega)]
  refine A3 (Bc ?_)
  refine A3 (BJ (wpS_sortRuns (a₀:=keys.zip vs.toArray) (st:=GC oneType' (keys.zip vs.toArray) #[] 7 none)
   (Q:=fun _ st'=>(FY st').Perm (keys.zip vs.toArray)/\failedOf st'=none/\SortedTo (FY st') (keys.zip vs.toArray).size)
   (ksk_intKeys hk) ⟨Array.Perm.refl _,rfl,rfl,rfl⟩ (by rw [hzs]; omega) (by rw [hzs]; exact h64) fun st' a1 a2 a3=>⟨a1,a2,a3⟩) ?_ fun _ _ e=>e)
  rintro ⟨⟨⟩,st'⟩ s' ⟨rfl,hp,hf,hs⟩
  try dsimp only
  exact nS I ok oa nk na hka hk hlen h64 hp (by rw [hp.size_eq]; exact hs) hf h
end
end L2
namespace L2
open PySem PySem.Spec PyProof.Rows
open PySem.W (envX kla_obj kla_fn)
def eR (X:Cx) (A:BC) (qual:Str) (sc:Scope) (N':List Str) (cl:List (Str×Addr)) (s:A9) (H:Hp) (f:Addr) (cd:Value):Cx :=
 { X with A:=A.deeper (envX qual sc 'n' f cd cl),N:=N',s₀:=s,H₀:=H,env:=envX qual sc 'n' f cd cl,outer:=X.stack,stack:=envX qual sc 'n' f cd cl :: X.stack,ex:=[],fn:=fun _=>false,calm:=true,pn:=[],xe:=fun _ _=>False }
def LCaps (X:Cx) (sc:Scope) (cl:List (Str×Addr)):List Str->List Nat->Prop
 | [],[]=>True
 | y :: ys,j :: js=>X.N[j]?=some y/\X.env.kindOf y=some .cell/\cl.lookup y=X.env.cells.lookup y/\sc.names.lookup y=some .free/\LCaps X sc cl ys js
 | _,_=>False
theorem LCaps.get {X:Cx}{sc:Scope}{cl:List (Str×Addr)}:∀{ys:List Str}{js:List Nat}{i:Nat}{y:Str},LCaps X sc cl ys js->ys[i]?=some y ->
  ∃j,js[i]?=some j/\X.N[j]?=some y/\X.env.kindOf y=some .cell/\cl.lookup y=X.env.cells.lookup y/\sc.names.lookup y=some .free
 | [],[],i,y,_,e=>by simp at e
 | _ :: _,j :: _,0,y,h,e=>by
  simp at e
  subst e
  exact ⟨j,rfl,h.1,h.2.1,h.2.2.1,h.2.2.2.1⟩
 | _ :: _,_ :: _,i+1,y,h,e=>by
  have q:=LCaps.get (i:=i) (y:=y) h.2.2.2.2 (by simpa using e)
  simpa using q
 | [],_ :: _,_,_,h,_=>BM h
 | _ :: _,[],_,_,h,_=>BM h
theorem LCaps.len {X:Cx}{sc:Scope}{cl:List (Str×Addr)}:∀{ys:List Str}{js:List Nat},LCaps X sc cl ys js->ys.length=js.length
 | [],[],_=>rfl
 | _ :: _,_ :: _,h=>by simp [LCaps.len h.2.2.2.2]
 | [],_ :: _,h=>BM h
 | _ :: _,[],h=>BM h
section
variable {X:Cx}{A:BC}{qual x:Str}{sc:Scope}{ys:List Str}{js:List Nat}{cl:List (Str×Addr)}{f:Addr}{cd:Value}
theorem wp {pins:'m'}{σ:St}{H:Hp}{s:A9}{h₁:Heap}{m:Str->Option Value}{v:V}{u:Value}{tk:Nat}(I:Inv X pins σ H s) (hh:A.handled=none) (hf:A.frames=some X.stack)
  (hkind:sc.kind=.function) (hx:sc.names.lookup x=some .local) (hcap:LCaps X sc cl ys js) (hin:∀y c,cl.lookup y=some c->X.env.cells.lookup y=some c) (hhas:∀y,(sc.names.lookup y=some .cell\/sc.names.lookup y=some .free)->∃c,cl.lookup y=some c)
  (kp:∀b o,s.heap.get? b=some o->h₁.get? b=some o) (hn:h₁.Ns 'n' m) (hm:m x=some u) (r:RelV v u) :
  Inv (eR X A qual sc (x :: ys) cl s H f cd) [] (some v :: cR σ js) H { s with heap:=h₁,toks:=tk }:=by
 have noA:∀b:Addr,b ∉ (eR X A qual sc (x :: ys) cl s H f cd).ex:=fun b z=>absurd (show b∈([]:List Addr) from z) 'e'
 refine ⟨⟨I.ok.mod,hkind,rfl,rfl,Bb _,fun y z c h1 h2=>I.ok.inj y z c (hin y c h1) (hin z c h2),hhas,(fun _ _ z=>nomatch z),fun _=>hh,BC.frames_deeper hf,.inr ⟨rfl,rfl⟩,fun b z=>absurd z (noA b),I.bs,BR I.ok.bsz I.sz,fun b _ _=>noA b,fun b z=>absurd z (noA b),I.stack,I.stkFree⟩,
  rfl,I.bare,Un.kept kp,⟨m,hn,fun i y v' e1 e2 e3=>?_⟩,fun y c e=>?_,I.hok.fresh (Bb _),fun y c e=>I.freeC y c (hin y c e),fun p hp=>?_,I.hok.kept kp,?_⟩
 ·cases i with
  | zero =>
   have z:some v=some v':=by simpa using e2
   cases z
   have z:x=y:=by simpa [eR] using e1
   subst z
   exact ⟨u,r,.inl ⟨hx,hm⟩⟩
  | succ i =>
   have e1':ys[i]?=some y:=by simpa [eR] using e1
   have e2':(cR σ js)[i]?=some (some v'):=by simpa using e2
   obtain ⟨j,q1,q2,q3,q4,q5⟩:=hcap.get e1'
   unfold cR at e2'
   rw [A5,q1] at e2'
   have e2'':(σ[j]?).join=some v':=by simpa using e2'
   have e3':σ[j]?=some (some v'):=by
    cases z:σ[j]? with
    | none=>rw [z] at e2''; cases e2''
    | some o =>
     cases o with
     | none=>rw [z] at e2''; cases e2''
     | some w'=>rw [z] at e2''; cases e2''; rfl
   obtain ⟨m0,_,hl⟩:=I.loc
   obtain ⟨u',r',l⟩:=hl j y v' q2 e3' (.inr (.inl q3))
   refine ⟨u',r',.inr ⟨.inr q5,?_⟩⟩
   rcases l with ⟨l1,_⟩ | ⟨_,c,l2,l3⟩
   ·rw [q3] at l1; cases l1
   ·obtain ⟨o,ho,hd⟩:=l3
    exact ⟨c,q4.trans l2,o,kp c o ho,hd⟩
 ·obtain ⟨v',o,ho,hd⟩:=I.cell y c (hin y c e)
  exact ⟨v',o,kp c o ho,hd⟩
 ·exact absurd (show p∈([]:'m') from hp) 'e'
 ·show (some v :: cR σ js).length=(x :: ys).length
  unfold cR
  rw [BK,BK,A2,hcap.len]
theorem uk {name:Str}{params:Arguments}{body:Expr}{pm ctv:Value}{c':Addr}{te:TE}{pins:'m'}{σ:St}{H:Hp}{s:A9}{v:V}{u:Value}{Q:VK}{k:Nat}(I:Inv X pins σ H s) (hr:Room (k+1) A) (hf:A.frames=some X.stack)
  (ho:s.heap.get? f=some (kla_obj name qual params body sc cl pm c' ctv)) (hcd:s.heap.CodeRec (.ref c') qual)
  (hbind:GH (kla_fn name qual params body sc cl pm (.ref c') ctv) ⟨[u],[]⟩=pure [(x,u)])
  (hco:sc.isCoroutine=false) (hgen:sc.isGenerator=false) (hkind:sc.kind=.function) (hcell:∀y∈sc.names,y.2≠.cell)
  (hx:sc.names.lookup x=some .local) (hcap:LCaps X sc cl ys js) (hin:∀y c,cl.lookup y=some c->X.env.cells.lookup y=some c) (hhas:∀y,(sc.names.lookup y=some .cell\/sc.names.lookup y=some .free)->∃c,cl.lookup y=some c)
  (he:Room k (eR X A qual sc (x :: ys) cl s H f (.ref c')).A->PE (eR X A qual sc (x :: ys) cl s H f (.ref c')) body te) (r:RelV v u) (h:te (some v :: cR σ js) H Q) :
  Bl (Bv X.prog X.w) A (call (.ref f) [u]) (EP X pins σ Q) (fun _ _=>False) s:=by
 refine F4 ?_
 refine PySem.W.kla_callFunE hr.depth ho rfl hco hgen rfl hcd ?_
 rw [hbind]
 refine Bc (wpAny_newFunctionEnv hcell (fun y hy=>?_) (fun h₁ hns hsb=>?_) hkind)
 ·rcases Bp.mp hy with rfl | hy
  ·exact hx
  ·cases hy
 have kp:∀b o,s.heap.get? b=some o->h₁.get? b=some o:=fun b o e=>hsb.extBut b o (Bw (Bi e)) (A6 _ e)
 refine ⟨I.nolimit.keeps kp,?_⟩
 show Ev _ _ (.expr body (envX qual sc 'n' f (.ref c') cl)) _ _
 have J:=wp (qual:=qual) (f:=f) (cd:=.ref c') (tk:=s.toks+[(x,u)].length) I hr.hd hf hkind hx hcap hin hhas kp hns 'e' r
 refine PySem.W.kla_codeExpr (BJ (he (hr.deeper _) [] _ _ _ _ J h) (fun u' s' hs=>?_) fun _ _ z=>BM z)
 obtain ⟨v',H',J',r',q⟩:=hs
 exact I.after (u:=u') ⟨v',H',J'.os,J'.bare,J'.base,J'.hok,r',q⟩
end
section
variable {prog:Program}{w:BG}{A:BC}{E:Value->A9->Prop}{s:A9}
theorem lH {r:Addr}{a b c:Int}{t u v:Tok}{n:Nat}{Q:List Value->A9->Prop}(hh:A.handled=none) (hr:IsRange s.heap r a b c t u v) (hsmall:Ey a b c=true) (hn:CY a b c=n) (hlen:n<=2 ^ 24)
  (h:∀h' tk (acc:Array Value),(∀b o,s.heap.get? b=some o->h'.get? b=some o)->ItemsOf (fun i v=>∃t,v=.int (a+i*c) t) acc n->Q acc.toList { s with heap:=h',toks:=tk }) :
  Bl (Bv prog w) A (collect (.ref r)) Q E s:=by
 unfold collect
 refine A3 (wpAny_runValue (DN PySem.F.entry_proto_collect ?_))
 rw [BC.under_plainId PySem.F.plain_proto_collect _]
 show Bl _ A.in1 (newList [] >>= fun l=>again (.builtin "list.__iadd__" ⟨[l,.ref r],[]⟩)) _ _ s
 refine A3 (Cr ?_)
 refine Bc ⟨Fu EG _,DN PySem.F.entry_list_iadd ?_⟩
 rw [BC.under_plainId EG _]
 show Bl _ A.in1 (DS (.ref 'n') (.ref r) (.ref 'n')) _ _ _
 have hS:(s.heap.push { cls:=.type "list",data:=.seq ([]:List Value).toArray }).get? 'n'=some { cls:=.type "list",data:=.seq #[] 0 }:=Bj _ rfl
 refine wpAny_extend_range (R:=fun r s'=>match r with
   | .ok (.ret v)=>Bl (Bv prog w) A (match v with
    | .ref a=>(do
     let o <- load a
     match o.data with
     | .seq xs _=>pure xs.toList
     | _=>Go "internal:collect")
    | _=>Go "internal:collect") Q E s'
   | .ok _=>False
   | .error e=>E e s') (s:={ s with heap:=s.heap.push { cls:=.type "list",data:=.seq ([]:List Value).toArray } }) hh (A6 _ hr) hsmall hn hlen 'n' (.ref 'n') 0 hS fun h' tk acc' c' hk hS' hacc=>?_
 show Bl (Bv prog w) A (do
   let o <- load 'n'
   match o.data with
   | .seq xs _=>pure xs.toList
   | _=>Go "internal:collect") Q E { s with heap:=h',toks:=tk }
 refine A3 (wpAny_load hS' ?_)
 exact Bc (h h' tk acc' (fun b o e=>hk b o (Bw (Bi e)) (A6 _ e)) hacc)
end
def cod (c':Addr) (qual:Str):HO:=.ext fun h=>h.CodeRec (.ref c') qual
def u5 (T:Addr) (pos:Pos) (qual:Str) (H:Hp) (c':Addr):Prop:=∃ps,H T=some (.tbl ps)/\TriplesOk ps.toList/\codeAmong pos ps.toList=some (.ref c')/\H c'=some (cod c' qual)
def TabOk (T:Addr) (pos:Pos) (qual:Str) (H:Hp):Prop:=(∃ps,H T=some (.tbl ps)/\TriplesOk ps.toList/\codeAmong pos ps.toList=none)\/∃c',u5 T pos qual H c'
theorem TabOk.new {T:Addr}{pos:Pos}{qual:Str}{H:Hp}(h:H T=some (.tbl #[])):TabOk T pos qual H:=.inl ⟨#[],h,trivial,rfl⟩
theorem zm {P:Program}{w:BG}{H:Hp}{h:Heap}{c':Addr}{qual:Str}(x:h.CodeRec (.ref c') qual):ObjOk P w H h c' (cod c' qual):=by
 refine ⟨x,?_,fun h1 h2 y k=>?_⟩
 ·obtain ⟨c,oc,vs,tq,e,ho,_⟩:=x
  cases e
  exact ⟨oc,ho⟩
 ·obtain ⟨c,oc,vs,tq,e,ho,r⟩:=y
  cases e
  exact ⟨c',oc,vs,tq,rfl,k oc ho,r⟩
section
variable {X:Cx}{pins:'m'}{σ:St}{H:Hp}{s:A9}
theorem Inv.trackU {a:Addr}{o:HO}(I:Inv X pins σ H s) (f:bU X pins H a) (hx:X.s₀.heap.get? a=none) (new:ObjOk X.prog X.w (upd H a o) s.heap a o):Inv X pins σ (upd H a o) s:=by
 obtain ⟨f0,f1,f2,f3,f4,f5⟩:=f
 have ne0:∀b o,X.s₀.heap.get? b=some o->b≠a:=fun b o e z=>by rw [z,hx] at e; cases e
 have neH:∀b u,H b=some u->b≠a:=fun b u e z=>by rw [z,f0] at e; cases e
 refine ⟨I.ok,I.os,I.bare,⟨I.base.keep,I.base.slot,fun b o e n he=>?_,I.base.there,fun b xs e=>?_,fun b o u e=>?_,fun b ps e=>?_⟩,I.loc,I.cell,?_,fun x c e=>?_,fun p hp=>?_,fun b u e=>?_,I.len⟩
 ·rw [ah (ne0 b o e)]; exact I.base.free b o e n he
 ·have:=I.base.tups b xs e
  rw [ah (neH _ _ this)]; exact this
 ·have:=I.base.frzs b o u e
  rw [ah (neH _ _ this)]; exact this
 ·obtain ⟨more,q⟩:=I.base.tbls b ps e
  exact ⟨more,by rw [ah (neH _ _ q)]; exact q⟩
 ·rw [ah (Co f1)]; exact I.free
 ·rw [ah (f4 x c e)]; exact I.freeC x c e
 ·obtain ⟨q1,q2,q3⟩:=I.pin p hp
  exact ⟨q1,by rw [ah (f5 p hp)]; exact q2,q3⟩
 ·by_cases hb:b=a
  ·subst hb
   rw [ac] at e
   cases e
   exact new
  ·rw [ah hb] at e
   exact (I.hok b u e).stay (fun c v _ q=>q) (fun c q=>by rw [ah (neH _ _ q)]; exact q) fun c xs q=>by rw [ah (neH _ _ q)]; exact q
theorem Inv.grow {T c':Addr}{ps more:Array Value}{h':Heap}{t':Nat}{qual:Str}(I:Inv X pins σ H s) (hT:H T=some (.tbl ps)) (hx:Gh T s.heap h') (hc:'n'<=c') (hrec:h'.CodeRec (.ref c') qual) (hP:h'.get? T=some (Dr (ps++more))) :
  Inv X pins σ (upd (upd H T (.tbl (ps++more))) c' (cod c' qual)) { s with heap:=h',toks:=t' }:=by
 have nc:H c'=none:=I.hok.fresh hc
 have hTc:T≠c':=fun z=>by rw [z,nc] at hT; cases hT
 have neT:∀b,H b=none->b≠T:=fun b n z=>by rw [z,hT] at n; cases n
 have up:∀b,b≠T->b≠c'->upd (upd H T (.tbl (ps++more))) c' (cod c' qual) b=H b:=fun b h1 h2=>by rw [ah h2,ah h1]
 have neH:∀b u,H b=some u->b≠c':=fun b u e z=>by rw [z,nc] at e; cases e
 have nes:∀b o,s.heap.get? b=some o->b≠c':=fun b o e=>Bw (BO (Bi e) hc)
 refine I.un ⟨fun b o e n _ _=>hx b o (neT b n) e,fun b o e n _ _=>⟨o.slots,hx b o (neT b n) e⟩,fun b o e n _=>?_,fun b o e _=>?_,fun b xs e=>?_,fun b o u e=>?_,fun b qs e=>?_⟩ fun b u e=>?_
 ·rw [up b (neT b n) (nes b o e)]; exact n
 ·by_cases hb:b=T
  ·rw [hb]; exact ⟨_,hP⟩
  ·exact ⟨o,hx b o hb e⟩
 ·have:b≠T:=fun z=>by rw [z,hT] at e; cases e
  rw [up b this (neH _ _ e)]; exact e
 ·have:b≠T:=fun z=>by rw [z,hT] at e; cases e
  rw [up b this (neH _ _ e)]; exact e
 ·by_cases hb:b=T
  ·subst hb
   rw [hT] at e
   cases e
   exact ⟨more,by rw [ah hTc,ac]⟩
  ·exact ⟨#[],by rw [up b hb (neH _ _ e),e]; simp⟩
 ·by_cases hb:b=c'
  ·subst hb
   rw [ac] at e
   cases e
   exact zm hrec
  ·by_cases hb2:b=T
   ·subst hb2
    rw [ah hTc,ac] at e
    cases e
    exact hP
   ·rw [up b hb2 hb] at e
    refine (I.hok b u e).stay (fun c v hc' q=>hx c v ?_ q) (fun c q=>?_) fun c xs q=>?_
    ·rintro rfl
     rcases hc' with z | z
     ·exact hb2 z.symm
     ·rw [hT] at z; cases z
    ·have:c≠T:=fun z=>by rw [z,hT] at q; cases q
     rw [up c this (neH _ _ q)]; exact q
    ·have:c≠T:=fun z=>by rw [z,hT] at q; cases q
     rw [up c this (neH _ _ q)]; exact q
theorem Inv.add {a:Addr}{o:Obj}(I:Inv X pins σ H s) (f:bU X pins H a) (e:s.heap.get? a=some o) (hd:∀v,o.data≠.cell v):Inv X ((a,o) :: pins) σ H s :=
 I.pins_of fun p hp=>by
  rcases Bp.mp hp with rfl | hp
  ·exact ⟨e,f.1,f.2.1,f.2.2.1,hd⟩
  ·exact I.pin p (BI _ hp)
theorem Inv.sub {p:Addr×Obj}(I:Inv X (p :: pins) σ H s):Inv X pins σ H s:=I.pins_of fun q hq=>I.pin q (BI _ (Br _ hq))
theorem Inv.hd {p:Addr×Obj}(I:Inv X (p :: pins) σ H s):s.heap.get? p.1=some p.2/\H p.1=none:=let ⟨a,b,_⟩:=I.pin p (BI _ (Bq ..)); ⟨a,b⟩
theorem uj {c T:Addr}{params:Arguments}{body:Expr}{sc:Scope}{cl:List (Str×Addr)}{pos:Pos}{Q:Value->A9->Prop}{E:Value->A9->Prop}{A:BC}{M:Model}(I:Inv X pins σ H s) (hcode:X.env.code=.ref c) (C:EH X.base c T) (hB:X.base.BuiltinsAt X.mg T)
  (hcl:Es sc X.env=pure cl) (hdef:defaultsOf params X.env=([],[])) (hT:TabOk T pos (X.env.qual++"<lambda>") H)
  (h:∀f c' ctv H' s',Inv X ((f,kla_obj "<lambda>" (X.env.qual++"<lambda>") params body sc cl ((X.mg "__name__").getD .none) c' ctv) :: pins) σ H' s'->u5 T pos (X.env.qual++"<lambda>") H' c'->(∀b o,b≠T->H b=some o->H' b=some o)->Q (.ref f) s') :
  Bl M A (eval (.Lambda params body sc pos) X.env) Q E s:=by
 refine PySem.W.kla_eval hdef ?_
 have hg:=I.mod.glob.keeps I.bk
 have hBs:s.heap.BuiltinsAt X.mg T:=by
  obtain ⟨bm,o,b1,b2,b3,b4,b5,r⟩:=hB
  exact ⟨bm,o,b1,b2,b3,b4,I.bk _ _ b5,r⟩
 rcases hT with ⟨ps,hT,ht,hnf⟩ | ⟨c',ps,hT,ht,hf,hc'⟩
 ·have hP:s.heap.get? T=some (Dr ps):=I.hok T _ hT
  have hgP:BA≠T:=fun q=>by
   obtain ⟨o,es,ep,e,hd,_⟩:=hg
   rw [q,hP] at e; cases e; cases hd
  refine PySem.W.kla_makeFunction (mg:=X.mg) hcl I.ok.glob hg hcode (C.keeps I.bk) hP ht hnf hgP hBs fun c' ctv h' tk hx hge hlt hrec htb=>?_
  have I1:=I.grow (t':=tk) hT hx hge hrec htb
  have hle:'n'<=h'.objs.size:=EM (Nat.lt_of_le_of_lt hge hlt)
  have I2:Inv X pins σ _ { s with heap:=h'.push (kla_obj "<lambda>" (X.env.qual++"<lambda>") params body sc cl ((X.mg "__name__").getD .none) c' ctv),toks:=tk }:=I1.kept (t':=tk) fun b u e=>A6 _ e
  have nf:=I1.hok.fresh (Bb h'.objs.size)
  have hcT:T≠c':=fun z=>by rw [<- z] at hge; exact absurd (Bi hP) (Nat.not_lt.mpr hge)
  refine h h'.objs.size c' ctv _ _ (I2.add (I1.fpOk (Bb _) nf) (Bj _ rfl) fun v z=>by cases z) ⟨_,by rw [ah hcT,ac],?_,?_,ac⟩ fun b o hb e=>?_
  ·have e1:(ps++#[Dz pos.line,Dz pos.col,Bs c']).toList=ps.toList++[Dz pos.line,Dz pos.col,Bs c']:=by simp
   rw [e1]
   exact TriplesOk_snoc _ _ _ _ ht
  ·have e1:(ps++#[Dz pos.line,Dz pos.col,Bs c']).toList=ps.toList++[Dz pos.line,Dz pos.col,Bs c']:=by simp
   rw [e1]
   exact codeAmong_snoc _ ht hnf
  ·have:b≠c':=fun z=>by rw [z,I.hok.fresh hge] at e; cases e
   rw [ah this,ah hb]; exact e
 ·have hP:s.heap.get? T=some (Dr ps):=I.hok T _ hT
  refine PySem.W.kla_makeFunctionHit (mg:=X.mg) hcl I.ok.glob hg hcode (C.keeps I.bk) hP ht hf hBs fun ctv h' tk hk hsz=>?_
  have I1:Inv X pins σ H { s with heap:=h',toks:=tk }:=I.kept hk
  have I2:Inv X pins σ H { s with heap:=h'.push (kla_obj "<lambda>" (X.env.qual++"<lambda>") params body sc cl ((X.mg "__name__").getD .none) c' ctv),toks:=tk }:=I1.kept (t':=tk) fun b u e=>A6 _ e
  exact h h'.objs.size c' ctv _ _ (I2.add (I1.fpOk (Bb _) (I1.hok.fresh (Bb _))) (Bj _ rfl) fun v z=>by cases z) ⟨ps,hT,ht,hf,hc'⟩ fun b o _ e=>e
end
section
variable {prog:Program}{w:BG}{A:BC}{E:Value->A9->Prop}{s:A9}{a kS:Addr}{vs:List Value}{kz:List Int}{keys:Array Value}{e e1:Nat}{P:FJ->A9->Prop}{Ψ:A9->Prop}
theorem sf {f:Value}(I:Ψ s) (ok:cT Ψ kS) (oa:cT Ψ a) (nk:s.heap.get? kS=some (BE "list" #[] 0)) (na:s.heap.get? a=some (BE "list" #[] e1)) (hka:kS≠a) (hlen:kz.length=vs.length) (h64:vs.length<64)
  (turn:∀(i:Nat) (v:Value) (k:Int),vs[i]?=some v->kz[i]?=some k->∀(s:A9) kA e,Ψ s->s.heap.get? kS=some (BE "list" kA e)->s.heap.get? a=some (BE "list" #[] e1) ->
   Bl (Bv prog w) A (call f [v]) (fun u s'=>(∃t',u=.int k t')/\Ψ s'/\s'.heap.get? kS=some (BE "list" kA e)/\s'.heap.get? a=some (BE "list" #[] e1)) (fun _ _=>False) s)
  (h:∀s' out c,Ψ s'->s'.heap.get? a=some (BE "list" out c)->KskOut false kz vs out.toList->P (.done (.ret .none)) s') :
  Bl (Bv prog w) A (ksk_rest a f false vs.toArray e1 (.ref kS)) P E s:=by
 unfold ksk_rest
 refine A3 (wpAny_rule ?_)
 first
  | rw [List.forIn_toArray]
  | (rw [<- Array.forIn_toList]; simp only [List.toList_toArray])
  | rw [<- Array.forIn_toList]
 refine A3 (ksk_fold (fun i s'=>∃kA e,Ψ s'/\s'.heap.get? kS=some (BE "list" kA e)/\s'.heap.get? a=some (BE "list" #[] e1)/\DQ kA.toList (kz.take i)) vs 0 s ⟨#[],0,I,nk,na,by simpa using DQ.nil⟩ ?step ?done)
 case step =>
  rintro j x s' hx ⟨kA,e,I',nk',na',hk⟩
  simp only [Nat.zero_add] at hk ⊢
  have hj:j<vs.length:=(A8.mp hx).1
  obtain ⟨k,hkj⟩:∃k,kz[j]?=some k:=⟨_,A4 'b'⟩
  have hz:kA.size<=vs.length:=by
   have h1:=hk.length
   rw [B8,B9] at h1
   omega
  refine A3 (Ft (BJ (turn j x k hx hkj s' _ _ I' nk' na') (fun v s'' he=>?_) fun _ _ hF=>hF.elim))
  obtain ⟨⟨t2,rfl⟩,I2,nk2,na2⟩:=he
  try dsimp only
  have s1:=Ca.update s''.heap kS (BS (·.push (.int k t2)))
  obtain ⟨c2,hc2⟩:∃c2,(s''.heap.update kS (BS (·.push (.int k t2)))).get? kS=some (BE "list" (kA.push (.int k t2)) c2):=⟨_,Ee nk2 (·.push (.int k t2))⟩
  have ek:kz.take (j+1)=kz.take j++[k]:=by rw [Cf,hkj]; simp
  have ea:(kA.push (FC k t2)).toList=kA.toList++[FC k t2]:=by simp
  refine A3 (Eu nk2 rfl ?_ (by rw [Bo]; omega) (BR (FQ (Array.size_push ..)) (by rw [Bo]; omega)))
  exact Bc ⟨rfl,kA.push (.int k t2),c2,ok _ _ I2 s1,hc2,(s1.2 a hka.symm).trans na2,by rw [ea,ek]; exact ksk_snoc hk⟩
 case done =>
  rintro s' ⟨kA,e,I',nk',na',hk⟩
  have hk':DQ kA.toList kz:=by
   have e3:kz.take (0+vs.length)=kz:=C9 'b'
   rw [e3] at hk
   exact hk
  try dsimp only
  refine A3 (listItems_at nk' rfl ?_)
  exact xW I' ok oa nk' na' hka hk' hlen h64 h
end
theorem tF {vs out:List Value}{ns:List Int}{g:Int->Int}(hi:DQ vs ns) (ko:KskOut false (ns.map g) vs out):∃ns',DQ out ns'/\ns'.Perm ns/\ns'.Pairwise (fun x y=>g x<=g y):=by
 have hlen:=hi.length
 obtain ⟨ps,hp,ho,hs⟩:=ko
 have hrel:∀p,p∈(ns.map g).zip vs->p.1=g (numOf p.2)/\p.2∈vs:=by
  rw [<- hi.nums,BV,List.zip_map_left]
  intro p hp
  obtain ⟨⟨u,v⟩,hq,rfl⟩:=Bz.mp hp
  have h1:u=v/\u∈vs:=mem_zip_self hq
  refine ⟨?_,?_⟩
  ·show g (numOf u)=g (numOf v)
   rw [h1.1]
  ·show v∈vs
   rw [<- h1.1]
   exact h1.2
 have hI:DQ (ps.map Prod.snd) ((ps.map Prod.snd).map numOf):=intsAre_map _ fun v hv=>by
  obtain ⟨p,hp',rfl⟩:=Bz.mp hv
  exact hi.all _ (hrel p (hp.mem_iff.mp hp')).2
 have hP:((ps.map Prod.snd).map numOf).Perm ns:=by
  have h1:=(hp.map Prod.snd).map numOf
  rw [F6 (by rw [A2]; omega),hi.nums] at h1
  exact h1
 have hO:((ps.map Prod.snd).map numOf).Pairwise (fun x y=>g x<=g y):=by
  rw [Cc,Cc]
  refine hs.imp_of_mem fun {p q} hp' hq' hr=>?_
  have hr':p.1<=q.1:=hr
  rw [(hrel p (hp.mem_iff.mp hp')).1,(hrel q (hp.mem_iff.mp hq')).1] at hr'
  exact hr'
 rw [<- ho] at hI hP hO
 exact ⟨_,hI,hP,hO⟩
theorem k_:∀(n:Nat) (us:List Value) (o:Nat),us.length=n->(∀(j:Nat) v,us[j]?=some v->∃t,v=.int ((o+j:Nat):Int) t)->DQ us ((DU o n).map fun (m:Nat)=>(m:Int))
 | 0,[],_,_,_=>.nil
 | n+1,u :: us,o,hl,h=>by
  rw [Ff,BD]
  obtain ⟨t,rfl⟩:=h 0 u rfl
  refine .cons _ t (k_ n us (o+1) (by simpa using hl) fun j v e=>?_)
  obtain ⟨t,rfl⟩:=h (j+1) v (by simpa using e)
  exact ⟨t,by rw [show o+1+j=o+(j+1) by omega]⟩
def below (n:Nat):List Int:=(Bh n).map fun (m:Nat)=>(m:Int)
section
variable {X:Cx}{pins:'m'}{σ:St}{H:Hp}{s:A9}
theorem lZ {f R:Addr}{n:Nat}{fo:Obj}{t₁ t₂ t₃:Tok}{g:Int->Int}{Q E:Value->A9->Prop}(hh:X.A.handled=none)
  (I:Inv X ((f,fo) :: (R,{ cls:=.type "range",data:=.fields #[.int 0 t₁,.int n t₂,.int 1 t₃] }) :: pins) σ H s) (h64:n<64)
  (turn:∀(k:Nat) (t:Tok) (H':Hp) (s':A9) (pins':'m'),k<n->Same H H'->Inv X ((f,fo) :: pins') σ H' s' ->
   Bl (Bv X.prog X.w) X.A.in1.in1 (call (.ref f) [.int k t]) (EP X ((f,fo) :: pins') σ fun v H2=>v=.int (g k)/\Same H' H2) (fun _ _=>False) s')
  (h:∀(D:Addr) (H2:Hp) (s':A9) (ns:List Int),Inv X pins σ H2 s'->H D=none->Same H H2->H2 D=some (.lst (ns.map V.int))->ns.Perm (below n)->ns.Pairwise (fun x y=>g x<=g y)->Q (.ref D) s') :
  Bl (Bv X.prog X.w) X.A (call (.builtin "sorted") [.ref R] [(Df "key",.ref f)]) Q E s:=by
 refine call_function_entry_kw FK Fj Fk (ksk_s1 _ _) ?_
 unfold Builtin.«sorted»
 refine A3 (m:=F8 "sorted" 1 1 _) (Bc ?_)
 have hR:IsRange s.heap R 0 n 1 t₁ t₂ t₃:=I.sub.hd.1
 refine A3 (lH (A:=X.A.in1) (n:=n) hh hR (small_one 'b' 'b' 'b' 'b') (by rw [E8]; simp) 'b' fun h1 tk1 acc hk hacc=>?_)
 have hal:acc.toList.length=n:=by rw [B8]; exact hacc.1
 refine A3 (DI ?_ (by rw [hal,Bo]; omega))
 have hi:DQ acc.toList (below n):=by
  unfold below
  rw [Ei]
  refine k_ n acc.toList 0 hal fun j v e=>?_
  obtain ⟨t,rfl⟩:=hacc.2 j v (by simpa using e)
  exact ⟨t,by simp⟩
 have I1:=I.kept (t':=tk1) hk
 have I2:=I1.kept (t':=tk1) fun b o e=>A6 (BE "list" acc.toList.toArray 0) e
 have fa:=I1.fpOk (Bb _) (I1.hok.fresh (Bb _))
 have xa:X.s₀.heap.get? h1.objs.size=none:=Cp I1.sz
 have ha:(h1.push (BE "list" acc.toList.toArray 0)).get? h1.objs.size=some (BE "list" acc.toList.toArray 0):=Bj _ rfl
 refine A3 (B0 (wpAny_call_entry_kw EI ⟨_,ha,rfl⟩ Ef ?body (ksk_l1 _ _)))
 case body =>
  show Bl (Bv X.prog X.w) X.A.in1.in1 (Builtin.«list.sort» ⟨[.ref h1.objs.size],[(Df "key",.ref f)]⟩) _ _ { s with heap:=h1.push (BE "list" acc.toList.toArray 0),toks:=tk1 }
  rw [ksk_t1]
  have s1:=Ca.update (h1.push (BE "list" acc.toList.toArray 0)) h1.objs.size (BS fun _=>(#[]:Array Value))
  obtain ⟨e1,ho1⟩:∃e1,((h1.push (BE "list" acc.toList.toArray 0)).update h1.objs.size (BS fun _=>(#[]:Array Value))).get? h1.objs.size=some (BE "list" #[] e1):=⟨_,Ee ha fun _=>#[]⟩
  have I3:=I2.but s1 fa xa
  have I4:=I3.kept (t':=tk1) fun b o e=>A6 (BE "tuple" acc.toList.toArray 0) e
  have I5:=I4.kept (t':=tk1) fun b o e=>A6 (BE "list" #[] 0) e
  have fk:=I4.fpOk (Bb _) (I4.hok.fresh (Bb _))
  have xk:=Cp I4.sz
  unfold ksk_tree
  refine A3 (listItems_at ha rfl ?_)
  refine A3 (Eu ha rfl ?_ (by rw [Be,Bo,hal]; omega) (B6 _))
  refine A3 (Gn ho1 rfl ?_)
  refine A3 (wpAny_newTuple ?_ (by show acc.toList.length<=_; rw [Bo,hal]; omega))
  refine A3 (DI ?_ (B6 _))
  refine B0 ?_
  have na:(((h1.push (BE "list" acc.toList.toArray 0)).update h1.objs.size (BS fun _=>(#[]:Array Value))).push (BE "tuple" acc.toList.toArray 0)).get? h1.objs.size=some (BE "list" #[] e1):=A6 _ ho1
  generalize hkS:(((h1.push (BE "list" acc.toList.toArray 0)).update h1.objs.size (BS fun _=>(#[]:Array Value))).push (BE "tuple" acc.toList.toArray 0)).objs.size=kS at fk xk
  have hka:kS≠h1.objs.size:=fun z=>by
   have:=Bi na
   rw [hkS,z] at this
   exact CB _ this
  have nk:((((h1.push (BE "list" acc.toList.toArray 0)).update h1.objs.size (BS fun _=>(#[]:Array Value))).push (BE "tuple" acc.toList.toArray 0)).push (BE "list" #[] 0)).get? kS=some (BE "list" #[] 0):=by
   rw [<- hkS]; exact Bj _ rfl
  refine sf (kz:=(below n).map g) (Ψ:=fun s'=>∃H',Inv X ((f,fo) :: (R,{ cls:=.type "range",data:=.fields #[.int 0 t₁,.int n t₂,.int 1 t₃] }) :: pins) σ H' s'/\Same H H'/\H' kS=none/\H' h1.objs.size=none)
   ⟨H,I5,fun _ _ e=>e,fk.1,fa.1⟩ ?ok ?oa nk (A6 _ na) hka (by rw [A2,hi.length]) (by rw [hal]; exact h64) ?turn ?fin
  case ok =>
   rintro s' h' ⟨H',J,sm,z1,z2⟩ sb
   exact ⟨H',J.but sb ⟨z1,fk.2⟩ xk,sm,z1,z2⟩
  case oa =>
   rintro s' h' ⟨H',J,sm,z1,z2⟩ sb
   exact ⟨H',J.but sb ⟨z2,fa.2⟩ xa,sm,z1,z2⟩
  case turn =>
   rintro i v k hv hk s' kA e ⟨H',J,sm,z1,z2⟩ g1 g2
   have hin:i<n:=by rw [<- hal]; exact (A8.mp hv).1
   obtain ⟨t,rfl⟩:=hacc.2 i v (by simpa using hv)
   have hk':g i=k:=by
    unfold below at hk
    rw [A5,A5,CS hin] at hk
    exact BP hk
   subst hk'
   have e0:(0:Int)+(i:Int)*1=i:=by omega
   rw [e0]
   have J2:Inv X ((f,fo) :: (kS,BE "list" kA e) :: (h1.objs.size,BE "list" #[] e1) :: (R,{ cls:=.type "range",data:=.fields #[.int 0 t₁,.int n t₂,.int 1 t₃] }) :: pins) σ H' s':=by
    refine J.pins_of fun p hp=>?_
    rcases Bp.mp hp with rfl | hp
    ·exact J.pin _ (BI _ (Bq ..))
    rcases Bp.mp hp with rfl | hp
    ·exact ⟨g1,z1,fk.2.1,fk.2.2.1,fun _ z=>by cases z⟩
    rcases Bp.mp hp with rfl | hp
    ·exact ⟨g2,z2,fa.2.1,fa.2.2.1,fun _ z=>by cases z⟩
    ·exact J.pin p (BI _ (Br _ hp))
   refine BJ (turn i t H' s' _ hin sm J2) ?_ fun _ _ z=>z
   rintro u' s'' ⟨v',H2,K,rv,ev,sm2⟩
   subst ev
   have p1:=K.pin (kS,BE "list" kA e) (BI _ 'e')
   have p2:=K.pin (h1.objs.size,BE "list" #[] e1) (BI _ 'e')
   refine ⟨rv,⟨H2,K.pins_of fun p hp=>K.pin p (BI _ ?_),fun b o e=>sm2 b o (sm b o e),p1.2.1,p2.2.1⟩,p1.1,p2.1⟩
   rcases Bp.mp hp with rfl | hp
   ·exact Bq ..
   ·exact Br _ (Br _ (Br _ hp))
  case fin =>
   rintro s' out c ⟨H',J,sm,z1,z2⟩ ho ko
   obtain ⟨ns,hI,hP,hO⟩:=tF hi ko
   refine ⟨_,rfl,Bc ⟨_,rfl,?_⟩⟩
   have hln:ns.length=n:=by rw [hP.length_eq]; unfold below; simp
   have J2:=J.trackU (o:=.lst (ns.map V.int)) ⟨z2,fa.2⟩ xa ⟨by rw [A2,hln,Bo]; omega,out.toList,c,d_ hI,by simpa using ho⟩
   refine h h1.objs.size _ s' ns J2.sub.sub fa.1 (fun b o e=>?_) ac hP hO
   rw [ah (fun z=>by have:=sm b o e; rw [z,z2] at this; cases this)]
   exact sm b o e
end
def kr (T:Addr) (pos:Pos) (qual:Str) (js:List Nat) (ta:TA) (te:TE):TE:=fun σ H Q=>ta σ H fun vs H1=>∃n:Nat,vs=[.int n]/\n<64/\TabOk T pos qual H1/\∃g:Int->Int,
 (∀(k:Nat) (H':Hp),k<n->(∀b o,b≠T->H1 b=some o->H' b=some o)->te (some (.int k) :: cR σ js) H' fun v H2=>v=.int (g k)/\Same H' H2) /\
 ∀(D:Addr) (H2:Hp) (ns:List Int),H1 D=none->(∀b o,b≠T->H1 b=some o->H2 b=some o)->(∃c',u5 T pos qual H2 c')->H2 D=some (.lst (ns.map V.int))->ns.Perm (below n)->ns.Pairwise (fun x y=>g x<=g y)->Q (.ref D) H2
section
variable {X:Cx}
theorem mq {c T:Addr}{k:Nat}{x:Str}{ys:List Str}{js:List Nat}{cl:List (Str×Addr)}{params:Arguments}{body:Expr}{sc:Scope}{a:Expr}{ta:TA}{te:TE}{p p' pos pos' lpos kpos:Pos}
  (hr:Room (k+3) X.A) (hgl:X.env.kindOf "sorted"=some .globalImplicit) (hml:X.mg "sorted"=none) (hg:X.env.kindOf "range"=some .globalImplicit) (hm:X.mg "range"=none) (ha:PA X [a] ta) (h1:au a=true)
  (hcode:X.env.code=.ref c) (C:EH X.base c T) (hB:X.base.BuiltinsAt X.mg T) (hcl:Es sc X.env=pure cl) (hdef:defaultsOf params X.env=([],[]))
  (hbind:∀(pm ctv u:Value) (c':Addr),GH (kla_fn "<lambda>" (X.env.qual++"<lambda>") params body sc cl pm (.ref c') ctv) ⟨[u],[]⟩=pure [(x,u)])
  (hco:sc.isCoroutine=false) (hgen:sc.isGenerator=false) (hkind:sc.kind=.function) (hcell:∀y∈sc.names,y.2≠.cell)
  (hx:sc.names.lookup x=some .local) (hcap:LCaps X sc cl ys js) (hin:∀y c,cl.lookup y=some c->X.env.cells.lookup y=some c) (hhas:∀y,(sc.names.lookup y=some .cell\/sc.names.lookup y=some .free)->∃c,cl.lookup y=some c)
  (he:∀(A:BC) (s:A9) (H:Hp) (f c':Addr),Room k (eR X A (X.env.qual++"<lambda>") sc (x :: ys) cl s H f (.ref c')).A->PE (eR X A (X.env.qual++"<lambda>") sc (x :: ys) cl s H f (.ref c')) body te) :
  PE X (.Call (.Name "sorted" p) [.Call (.Name "range" p') [a] [] pos'] [⟨some "key",.Lambda params body sc lpos,kpos⟩] pos) (kr T lpos (X.env.qual++"<lambda>") js ta te):=by
 intro pins s σ H Q I h
 refine EQ (bp (u:=.builtin "sorted") I hgl hml 'd' ?_)
 refine callWith_kw (id:="sorted") ?_
 show Bl _ _ (GE ((false,eval (.Call (.Name "range" p') [a] [] pos') X.env) :: DM pos (B2 [] X.env))) _ _ s
 refine CD (GG (bp I hg hm F3 (BU (thn (ha pos' pins s σ H _ I h) fun us s1 ⟨vs,H1,I1,r1,q1⟩=>?_) (aq h1) (bc 'e'))))
 obtain ⟨n,e,h64,hT,g,hk,hq⟩:=q1
 subst e
 cases r1 with
 | cons r rr =>
  cases rr
  obtain ⟨t,rfl⟩:=r
  refine call_range_1 ?_
  refine Dc ?_
  have I2:Inv X pins σ H1 { s1 with heap:=s1.heap.push { cls:=.type "range",data:=.fields #[.int 0 s1.toks,.int n t,.int 1 (s1.toks+1)] },toks:=s1.toks+1+1 }:=I1.kept fun b o e=>A6 _ e
  have I3:=I2.add (I1.fpOk (Bb _) (I1.hok.fresh (Bb _))) (Bj _ rfl) fun v z=>by cases z
  show Bl _ _ (evalAll [(do let v <- eval (.Lambda params body sc lpos) X.env; standAt pos; pure v)]) _ _ _
  refine wpAny_evalAll_cons (A3 (uj I3 hcode C hB hcl hdef hT fun f c' ctv H' s' I4 tab sm=>A3 (Dk (Bc (wpAny_evalAll_nil ?_)))))
  have nT:∀{H2:Hp},Same H' H2->∀b o,b≠T->H1 b=some o->H2 b=some o:=fun sm2 b o hb e=>sm2 b o (sm b o hb e)
  refine lZ (f:=f) (g:=g) hr.hd I4 h64 (fun k' t' H2 s2 pins' hk' sm2 J=>?_) fun D H2 s2 ns J hD sm2 hl hp ho=>?_
  ·obtain ⟨ps,_,_,_,hc'⟩:=tab
   have hrec:s2.heap.CodeRec (.ref c') (X.env.qual++"<lambda>"):=(J.hok c' _ (sm2 _ _ hc')).1
   exact uk (v:=.int k') (k:=k) J (A:=X.A.in1.in1) hr.in1.in1 J.ok.frames J.hd.1 hrec (hbind _ _ _ _) hco hgen hkind hcell hx hcap hin hhas (fun hr'=>he _ _ _ _ _ hr') ⟨t',rfl⟩ (hk k' H2 hk' (nT sm2))
  ·obtain ⟨ps,q1,q2,q3,q4⟩:=tab
   exact ⟨.ref D,H2,J,rfl,hq D H2 ns (by
    cases z:H1 D with
    | none=>rfl
    | some o =>
     by_cases hb:D=T
     ·subst hb; rw [q1] at hD; cases hD
     ·rw [sm D o hb z] at hD; cases hD) (nT sm2) ⟨c',ps,sm2 _ _ q1,q2,q3,sm2 _ _ q4⟩ hl hp ho⟩
end
section
variable {X:Cx}{A:BC}{E:Value->A9->Prop}{pins:'m'}{σ:St}{H:Hp}{s:A9}{a:Addr}{kvs:List (Key×V)}{k:Key}{u:Value}
theorem zj {z:V}{r:Value}{Q:Value->A9->Prop}(I:Inv X pins σ H s) (e:H a=some (.dK kvs)) (hz:kvs.length<sizeLine) (ry:RelV (kV k) u) (rz:RelV z r)
  (h1:∀v w' s',br kvs k=some v->Inv X pins σ H s'->RelV v w'->Q w' s') (h2:br kvs k=none->∀s',Inv X pins σ (upd H a (.dK (cN kvs k z))) s'->Q r s') :
  Bl (Bv X.prog X.w) A (call (.builtin "dict.setdefault") [.ref a,u,r]) Q E s:=by
 obtain ⟨z',hd,vs,rel,dd⟩:=uJ I.hok e
 have val:=rel.val k
 refine call_meetsIn PySem.F.slot_dict_setdefault dd.typeIs PySem.F.entry_dict_setdefault (PySem.F.args_dict_setdefault_3 _ _ _) (kt_meets_setdefault (aT X.prog X.w) a (k8 ry) hd r) ⟨vs,dd,by rw [<- rel.length]; exact z',fun w' hw=>?_,fun hn h' dd' hs=>?_⟩
 ·rw [hw] at val
  cases q:br kvs k with
  | none=>rw [q] at val; exact BM val
  | some v=>rw [q] at val; exact h1 v w' _ q (I.tok _) val
 ·have hn':br kvs k=none:=by
   rw [hn] at val
   cases q:br kvs k with
   | none=>rfl
   | some v=>rw [q] at val; exact BM val
  refine h2 hn' _ ?_
  have he:∃q,h'.get? a=some q:=let ⟨q,_,_,hq,_⟩:=dd'; ⟨q,hq⟩
  refine ke I (by rw [e]; exact DW) hs he (uK ?_ hd (rel.put k rz) dd')
  have:=cA kvs k z
  omega
end
def rG (td ty tx:TE):TE:=fun σ H Q=>td σ H fun x H1=>∃a,x=.ref a/\IsD H1 a/\ty σ H1 fun y H2=>tx σ H2 fun z H3=>∃kvs k,H3 a=some (.dK kvs)/\kvs.length<sizeLine/\y=kV k /\
 (∀v,br kvs k=some v->Q v H3)/\(br kvs k=none->Q z (upd H3 a (.dK (cN kvs k z))))
section
variable {X:Cx}{o e f:Expr}{apos cpos:Pos}{td ty tx:TE}
theorem sY (ho:PE X o td) (he:PE X e ty) (hf:PE X f tx) (m:M2 X o "setdefault" apos e f cpos):PE X (.Call (.Attribute o "setdefault" apos) [e,f] [] cpos) (rG td ty tx):=by
 intro pins s σ H Q I h
 refine wpAny_Call_method m.base m.few m.line FH PySem.F.slot_dict_setdefault PySem.F.type_dict_setdefault (thn (ho pins s σ H _ I h) fun u s1 ⟨x,H1,I1,rx,a,ex,d,q1⟩=>?_)
 subst ex
 obtain rfl:u=Bs a:=rx
 obtain ⟨t1,t2,_⟩:=mN I1 d
 refine ⟨t1,t2,?_⟩
 rw [m.trees]
 refine ER rfl (E7 (CD (thn (he pins s1 σ H1 _ I1 q1) fun iv s2 ⟨y,H2,I2,ry,q2⟩ =>
  CD (thn (hf pins s2 σ H2 _ I2 q2) fun fv s3 ⟨z,H3,I3,rz,kvs,k,ea,hz,ey,g1,g2⟩=>Dc ?_))))
 subst ey
 exact zj I3 ea hz ry rz (fun v w' s4 hv I4 rw'=>⟨_,H3,I4,rw',g1 v hv⟩) fun hn s4 I4=>⟨_,_,I4,rz,g2 hn⟩
theorem wG (ho:QE X o td) (he:QE X e ty) (hf:QE X f tx) (h1:au e=true:=by rfl) (h2:au f=true:=by rfl) (hbase:Dl o "setdefault" X.env (eval o X.env)=eval o X.env:=by rfl) (hline:(apos.endLine == cpos.line)=true:=by rfl) :
  QE X (.Call (.Attribute o "setdefault" apos) [e,f] [] cpos) (rG td ty tx) :=
 ⟨sY ho.h he.h hf.h ⟨hbase,by rw [aq h1,aq h2]; rfl,hline,by rw [aq h1,aq h2]; rfl⟩⟩
theorem wH (hu:X.A.units+1<cLine) (ho:QE X o td) (he:QE X e ty) (hf:QE X f tx) (h1:au e=true:=by rfl) (h2:au f=true:=by rfl) (hbase:Dl o "get" X.env (eval o X.env)=eval o X.env:=by rfl) (hline:(apos.endLine == cpos.line)=true:=by rfl) :
  QE X (.Call (.Attribute o "get" apos) [e,f] [] cpos) (rJ td ty tx) :=
 ⟨s_ hu ho.h he.h hf.h ⟨hbase,by rw [aq h1,aq h2]; rfl,hline,by rw [aq h1,aq h2]; rfl⟩⟩
end
theorem e_f {X:Cx}(i:Nat) {x:Str}{pos:Pos}(hN:X.N[i]?=some x:=by kernel_rfl) (hv:X.env.scope.names.lookup x=some .free:=by kernel_rfl) (hd:'r'=false:=by kernel_rfl) (hcd:(x == ("__classdict__":Str))=false:=by kernel_rfl):QE X (.Name x pos) (lW i) :=
 ⟨jQ hN (.inr (.inr hv)) hd hcd⟩
theorem jp {X:Cx}{c T:Addr}{k:Nat}{x:Str}{params:Arguments}{body:Expr}{sc:Scope}{a:Expr}{t1 te:TE}{p p' pos pos' lpos kpos:Pos}(ys:List Str) (js:List Nat) (cl:List (Str×Addr))
  (hr:Room (k+3) X.A) (hml:X.mg "sorted"=none) (hm:X.mg "range"=none) (hcode:X.env.code=.ref c) (C:EH X.base c T) (hB:X.base.BuiltinsAt X.mg T) (ha:QE X a t1)
  (hcl:Es sc X.env=pure cl) (hcap:LCaps X sc cl ys js) (hin:ClIn X.env cl)
  (he:∀(A:BC) (s:A9) (H:Hp) (f c':Addr),Room k (eR X A (X.env.qual++"<lambda>") sc (x :: ys) cl s H f (.ref c')).A->QE (eR X A (X.env.qual++"<lambda>") sc (x :: ys) cl s H f (.ref c')) body te)
  (hx:sc.names.lookup x=some .local:=by rfl) (hgl:X.env.kindOf "sorted"=some .globalImplicit:=by kernel_rfl) (hg:X.env.kindOf "range"=some .globalImplicit:=by kernel_rfl) (h1:au a=true:=by rfl)
  (hdef:defaultsOf params X.env=([],[]):=by rfl) (hbind:∀(pm ctv u:Value) (c':Addr),GH (kla_fn "<lambda>" (X.env.qual++"<lambda>") params body sc cl pm (.ref c') ctv) ⟨[u],[]⟩=pure [(x,u)]:=by intros; rfl)
  (hco:sc.isCoroutine=false:=by rfl) (hgen:sc.isGenerator=false:=by rfl) (hkind:sc.kind=.function:=by rfl) (hcell:(sc.names.all fun p=>p.2 != E5.cell)=true:=by rfl)
  (hhas:(sc.names.all fun p=>p.2 == E5.local||p.2 == E5.globalImplicit||(cl.lookup p.1).isSome)=true:=by rfl) :
  QE X (.Call (.Name "sorted" p) [.Call (.Name "range" p') [a] [] pos'] [⟨some "key",.Lambda params body sc lpos,kpos⟩] pos) (kr T lpos (X.env.qual++"<lambda>") js (bB t1 fV) te):=by
 refine ⟨mq hr hgl hml hg hm (pa' ha.h bO h1) h1 hcode C hB hcl hdef hbind hco hgen hkind (fun y hy z=>?_) hx hcap (fun y c e=>hin.mem (Cn e)) (fun y h=>?_) fun A s H f c' hr'=>(he A s H f c' hr').h⟩
 ·have:=EE.mp hcell y hy
  rw [z] at this
  exact absurd this 'f'
 ·have hm:∃k,(y,k)∈sc.names/\(k=.cell\/k=.free):=by
   rcases h with h | h
   ·exact ⟨_,Cn h,.inl rfl⟩
   ·exact ⟨_,Cn h,.inr rfl⟩
  obtain ⟨k,hk,hz⟩:=hm
  have:=EE.mp hhas _ hk
  rcases hz with rfl | rfl
  ·exact De.mp (by simpa using this)
  ·exact De.mp (by simpa using this)
def wR (K:Ba) (x:Str) (st:Stmt) (c T:Addr):Prop:=F9 K c T=true/\∃f fd,BN K BA x=some (some (.ref f))/\Fun K x x st f fd/\fd.code=.ref c
section
variable {P:Program}{w:BG}{K:Ba}{mg:Str->Option Value}{base:Heap}
theorem Fun.okT {x qual:Str}{st:Stmt}{f c:Addr}{fd:BX}{N ps:List Str}{k:Nat}{sp:Sp}(F:Fun K x qual st f fd) (hc:fd.code=.ref c) (S:ax N ps (aj st)) (len:∀vs H Q E,sp vs H Q E->vs.length=ps.length)
  (hbody:∀(A:BC) (outer:List Env) (s:A9) (H:Hp) (vs:List V) (Q:VK) (E:XK),Room k (A.deeper (Ea qual (aj st) 'n' f (.ref c)))->sp vs H Q E ->
   ∃t,PSs (bT CX0 P w K mg base N qual (aj st) f (.ref c) A outer s H E).nox (bF st) t/\t { nx:=fun _ H'=>Q .non H',rt:=Q } (eM N vs) H):aS P w K mg base CX0 (k+1) f fd ps sp:=by
 obtain ⟨oc,od,kV,doc,pm,an,cdv,ct,osl,rfl,lk,hcd⟩:=F.ex
 have e:cdv=.ref c:=hc
 subst e
 refine uz lk hcd S len fun A outer s H vs Q E hr hsp=>?_
 obtain ⟨t,h,q⟩:=hbody A outer s H vs Q E hr hsp
 exact ⟨t,h.nox,q⟩
theorem Def.ofT {h:Heap}{CX:CXT}{x:Str}{c T:Addr}{k:Nat}{ps:List Str}{sp:Sp}{st:Stmt}(X:K.In h) (G:h.Ns BA mg) (FI:wR K x st c T)
  (ok:∀f fd,Fun K x x st f fd->fd.code=.ref c->aS P w K mg base CX k f fd ps sp)
  (hb:∀(kV doc pm:Value) (an:Option Addr) (cdv ct:Value) (us:List Value),us.length=ps.length->GH (DG x x (bY st) (bF st) (aj st) .none kV doc pm an cdv ct) ⟨us,[]⟩=pure (ps.zip us)) :
  Def P w K mg base CX x k ps sp:=by
 obtain ⟨_,f,fd,a,F,hc⟩:=FI
 exact ⟨f,fd,ok f fd F hc,F.binds hb,F.kp,PySem.W.mg_of X G a⟩
end
end L2
namespace K55
open PySem L2 G KS
section
variable {P:Program}{w:BG}{K:Ba}{mg:Str->Option Value}{base:Heap}
def bd (c:Clip):Int:=if c.b<c.a then c.b else c.a
def dC (c:Clip):Int:=if c.a<c.b then c.b else c.a
def fx:Sp:=fun vs H Q _=>∃(p:Addr) (c:Clip),vs=[.ref p]/\H p=some (.tup c.vs)/\Q (.int (bd c)) H
theorem vi:ax ["strip"] ["strip"] (aj jK):='a'
theorem tN {f:Addr}{fd:BX}(F:Fun K "least" "least" jK f fd) (n_min:mg "min"=none):aS P w K mg base CX0 1 f fd ["strip"] fx:=by
 refine F.ok vi (fun vs H Q E h=>?_) (fun cdv A outer s H vs Q E hr h=>?_)
 ·obtain ⟨p,c,rfl,_⟩:=h
  rfl
 obtain ⟨p,c,rfl,hp,q⟩:=h
 refine eT (ai (aF (e_b (jt rfl) n_min 'd' (aa (ar az (e_v 0) ae) (aa (ar az (e_v 0) ae) ag))))) ?_
 refine ⟨_,rfl,p,_,_,.int c.a,rfl,rfl,SqT.of hp,af (j:=1) rfl,_,rfl,p,_,_,.int c.b,rfl,rfl,SqT.of hp,af (j:=2) rfl,_,_,rfl,?_⟩
 exact q
def vg:Sp:=fun vs H Q _=>∃(p:Addr) (c:Clip),vs=[.ref p]/\H p=some (.tup c.vs)/\Q (.int (dC c)) H
theorem AI:ax ["strip"] ["strip"] (aj eW):='a'
theorem Ak {f:Addr}{fd:BX}(F:Fun K "greatest" "greatest" eW f fd) (n_max:mg "max"=none):aS P w K mg base CX0 1 f fd ["strip"] vg:=by
 refine F.ok AI (fun vs H Q E h=>?_) (fun cdv A outer s H vs Q E hr h=>?_)
 ·obtain ⟨p,c,rfl,_⟩:=h
  rfl
 obtain ⟨p,c,rfl,hp,q⟩:=h
 refine eT (ai (aF (e_b (gm rfl) n_max 'd' (aa (ar az (e_v 0) ae) (aa (ar az (e_v 0) ae) ag))))) ?_
 refine ⟨_,rfl,p,_,_,.int c.a,rfl,rfl,SqT.of hp,af (j:=1) rfl,_,rfl,p,_,_,.int c.b,rfl,rfl,SqT.of hp,af (j:=2) rfl,_,_,rfl,?_⟩
 exact q
def rX:Sp:=fun vs H Q _=>∃(l:Addr) (es:List Int) (x:Int),vs=[.ref l,.int x]/\H l=some (.lst (es.map V.int))/\es.length<=1000/\∀H',Same H H'->Q (.int ((ff es x:Nat):Int)) H'
theorem scFree:ax ["ends", "frame", "place", "end"] ["ends", "frame"] (aj c6):='a'
theorem vV {f:Addr}{fd:BX}(F:Fun K "first_free" "first_free" c6 f fd) (n_enumerate:mg "enumerate"=none) (n_len:mg "len"=none):aS P w K mg base CX0 1 f fd ["ends", "frame"] rX:=by
 refine F.ok scFree (fun vs H Q E h=>?_) (fun cdv A outer s H vs Q E hr h=>?_)
 ·obtain ⟨l,es,x,rfl,_⟩:=h
  rfl
 obtain ⟨l,es,x,rfl,hl,hn,q⟩:=h
 refine wU (ad (bf BQ rfl (j2 n_enumerate (e_v 0)) (fK rfl (aN (aE (i:=2) scFree.nd) (aN (aE (i:=3) scFree.nd) cJ)))
   (ai (bK (aJ gz (e_v 3) (e_v 1))
    (ai (aF (e_v 2)))
    aV)))
  (ai (aF (e_b ao n_len B3 (aa (e_v 0) ag))))) ?_
 intros
 refine ⟨_,rfl,l,rfl,⟨_,SqL.of hl⟩,ii (K:=K) (a:=l) (xs:=es.map V.int) (fun i σ H'=>∃(o2 o3:Option V),σ=[some (.ref l),some (.int x),o2,o3]/\Same H H'/\i<=ff es x) ⟨none,none,rfl,fun _ _ h=>h,B6 _⟩ ?_ ?_ ?_⟩
 ·rintro i σ H' _ ⟨o2,o3,rfl,hS,_⟩
  exact SqL.of (hS _ _ hl)
 ·rintro i v σ H' p hx ⟨o2,o3,rfl,hS,hi⟩ hp
  rw [A5] at hx
  cases hu:es[i]? with
  | none=>rw [hu] at hx; cases hx
  | some e =>
   rw [hu] at hx
   cases hx
   have s1:Same H (upd H' p (.tup [.int (i:Int),.int e])):=hS.trans (Same.new hp _)
   refine ⟨p,_,rfl,SqT.of ac,rfl,_,_,rfl,_,_,rfl,rfl,?_⟩
   refine ⟨_,rfl,_,rfl,_,_,rfl,rfl,_,rfl,?_⟩
   refine cH (fun z=>?_) (fun z=>?_)
   ·have z:=of_decide_eq_true z
    have e1:ff es x=i:=by
     rcases Ej i (ff es x) with h | h
     ·have:=uB h hu
      omega
     ·omega
    have q1:=q _ s1
    rw [e1] at q1
    exact ⟨_,rfl,q1⟩
   ·have z:¬ e<x:=fun y=>z (decide_eq_true y)
    refine ⟨_,_,rfl,s1,?_⟩
    rcases Ej i (ff es x) with h | h
    ·exact h
    ·have e1:ff es x=i:=by omega
     rw [<- e1] at hu
     exact absurd (uA hu) z
 ·rintro σ H' ⟨o2,o3,rfl,hS,hi⟩
  rw [A2] at hi
  have e1:ff es x=es.length:=Nat.le_antisymm (lg es x) hi
  refine ⟨_,rfl,l,_,rfl,.inl (SqL.of (hS _ _ hl)),?_⟩
  rw [A2,<- e1]
  exact q _ hS
def w_:Sp:=fun vs H Q _=>∃(l:Addr) (es:List Int) (p:Nat) (e:Int),vs=[.ref l,.int (p:Int),.int e]/\H l=some (.lst (es.map V.int))/\p<=es.length/\es.length<1000/\Q .non (upd H l (.lst ((dQ es p e).map V.int)))
theorem zQ:ax ["ends", "place", "end"] ["ends", "place", "end"] (aj f_):='a'
theorem yJ {f:Addr}{fd:BX}(F:Fun K "put_end" "put_end" f_ f fd) (n_len:mg "len"=none):aS P w K mg base CX0 1 f fd ["ends", "place", "end"] w_:=by
 refine F.ok zQ (fun vs H Q E h=>?_) (fun cdv A outer s H vs Q E hr h=>?_)
 ·obtain ⟨l,es,p,e,rfl,_⟩:=h
  rfl
 obtain ⟨l,es,p,e,rfl,hl,hp,hn,q⟩:=h
 refine eT (ai (bK (aJ cx (e_v 1) (e_b ao n_len B3 (aa (e_v 0) ag)))
   (ai (aW (aU (e_v 0) (e_v 2))))
   (ai (iW (e_v 2) (oM (e_v 0) (e_v 1)))))) ?_
 refine ⟨_,rfl,_,rfl,l,_,rfl,.inl (SqL.of hl),rfl,_,rfl,?_⟩
 rw [A2]
 have zl:sizeLine=16777216:=Bo
 by_cases e1:p=es.length
 ·refine iteY (decide_eq_true (by rw [e1])) ?_
  refine ⟨_,rfl,.inl ⟨rfl,_,SqL.of hl⟩,_,rfl,l,_,_,rfl,rfl,hl,by rw [A2]; omega,?_⟩
  have e2:dQ es p e=es++[e]:=by unfold dQ; rw [if_pos e1]
  rw [e2,Bf] at q
  exact q
 ·refine iteN (decide_eq_false (by intro z; have:=V.int.inj z; omega)) ?_
  refine ⟨_,rfl,_,rfl,_,rfl,l,_,_,p,rfl,rfl,hl,by rw [A2]; exact jZ 'b',?_⟩
  have e2:dQ es p e=es.set p e:=by unfold dQ; rw [if_neg e1]
  rw [e2,List.map_set] at q
  exact q
end
end K55
namespace L2
open PySem PySem.Spec PyProof.Rows
theorem none_of {H H':Hp}{b:Addr}(s:Same H H') (h:H' b=none):H b=none:=by
 cases e:H b with
 | none=>rfl
 | some o=>rw [s b o e] at h; cases h
theorem TabOk.same {T:Addr}{pos:Pos}{qual:Str}{H H':Hp}(h:TabOk T pos qual H) (s:Same H H'):TabOk T pos qual H':=by
 rcases h with ⟨ps,a,b,c⟩ | ⟨c',ps,a,b,c,d⟩
 ·exact .inl ⟨ps,s _ _ a,b,c⟩
 ·exact .inr ⟨c',ps,s _ _ a,b,c,s _ _ d⟩
theorem TabOk.at {T:Addr}{pos:Pos}{qual:Str}{H:Hp}(h:TabOk T pos qual H):∃ps,H T=some (.tbl ps):=by
 rcases h with ⟨ps,a,_⟩ | ⟨c',ps,a,_⟩
 ·exact ⟨ps,a⟩
 ·exact ⟨ps,a⟩
theorem TabOk.write {T a:Addr}{pos:Pos}{qual:Str}{H:Hp}{o u:HO}(h:TabOk T pos qual H) (e:H a=some u) (h1:∀ps,u≠.tbl ps) (h2:∀c q,u≠cod c q):TabOk T pos qual (upd H a o):=by
 rcases h with ⟨ps,x,b,c⟩ | ⟨c',ps,x,b,c,d⟩
 ·have n1:T≠a:=fun z=>by rw [z,e] at x; cases x; exact h1 _ rfl
  exact .inl ⟨ps,by rw [ah n1]; exact x,b,c⟩
 ·have n1:T≠a:=fun z=>by rw [z,e] at x; cases x; exact h1 _ rfl
  have n2:c'≠a:=fun z=>by
   rw [z,e] at d
   exact h2 _ _ (BP d)
  exact .inr ⟨c',ps,by rw [ah n1]; exact x,b,c,by rw [ah n2]; exact d⟩
theorem n6:∀k:Nat,(BF k [V.int 0]).flatten=(BF k 0).map fun (p:Nat)=>V.int ((p:Nat):Int)
 | 0=>rfl
 | k+1=>by
  rw [CP,Eh,n6 k,CP,BD]
  rfl
theorem kL {ns:List Int}{n:Nat}(h:ns.Perm (below n)):∃js:List Nat,ns=js.map (fun j=>((j:Nat):Int))/\js.Perm (Bh n):=by
 refine ⟨ns.map Int.toNat,?_,?_⟩
 ·rw [BV]
  have:∀x∈ns,((fun j:Nat=>(j:Int)) ∘ Int.toNat) x=x:=fun x hx=>by
   have:=h.mem_iff.mp hx
   unfold below at this
   obtain ⟨m,_,rfl⟩:=Bz.mp this
   rfl
  conv=>lhs; rw [<- List.map_id ns]
  exact CH fun x hx=>(this x hx).symm
 ·have:=h.map Int.toNat
  unfold below at this
  rw [BV] at this
  have e:(Bh n).map (Int.toNat ∘ fun (m:Nat)=>(m:Int))=Bh n:=by
   conv=>rhs; rw [<- List.map_id (Bh n)]
   exact CH fun x _=>rfl
  rw [e] at this
  exact this
end L2
namespace KS
open PySem
theorem io:∀(us:List Iv) (v:Iv) (f:Ends),cO (us++[v]) f=(cO us f).put v.reel (dQ (cO us f v.reel) (ff (cO us f v.reel) v.lo) v.hi)
 | [],v,f=>rfl
 | u :: us,v,f=>by
  show cO (us++[v]) _=_
  rw [io us v]
  rfl
theorem pM {α:Type}{l:List α}{i:Nat}{x:α}(h:l[i]?=some x):l.take (i+1)=l.take i++[x]:=by
 rw [Cf,h]; rfl
theorem vn (f:Ends) (v:Iv) (n:Nat) (h:∀r,(f r).length<=n) (r:Str):(f.put v.reel (dQ (f v.reel) (ff (f v.reel) v.lo) v.hi) r).length<=n+1:=by
 unfold Ends.put
 split
 ·have h1:=h v.reel
  rw [sG]
  split <;> omega
 ·have:=h r
  omega
theorem ls:∀(us:List Iv) (f:Ends) (n:Nat),(∀r,(f r).length<=n)->∀r,(cO us f r).length<=n+us.length
 | [],f,n,h,r=>h r
 | v :: us,f,n,h,r=>by
  have:=ls us _ (n+1) (vn f v n h) r
  rw [BK]
  show (cO us _ r).length<=_
  omega
theorem ye {vs:List Iv}{i:Nat}{v:Iv}(f:Ends) (h:vs[i]?=some v):(cM vs f)[i]?=some (v,ff (cO (vs.take i) f v.reel) v.lo):=by
 obtain ⟨hi,he⟩:=A8.mp h
 have e:vs=vs.take i++v :: vs.drop (i+1):=by
  rw [<- he,List.getElem_cons_drop hi,CT]
 have hl:(cM (vs.take i) f).length=i:=by
  have:=congrArg Ce (g7 (vs.take i) f)
  rw [A2,B9] at this
  omega
 conv=>lhs; rw [e,kG]
 rw [Bm 'b',hl,Dp]
 rfl
end KS
namespace K55
open PySem L2 G KS
section
variable {P:Program}{w:BG}{K:Ba}{mg:Str->Option Value}{base:Heap}
def fc:Pos:=⟨69,49,69,75⟩
def fb:Str:="prints_for"++".<locals>."++"<lambda>"
def d0:Clip:=⟨"",0,0,0⟩
def i0:Iv:=⟨"",0,0⟩
def zp (H₀ H:Hp) (pp D:Addr) (kvs:List (Key×V)) (f:KS.Ends):Prop :=
 (∀r:Str,br kvs (.inr r)=none->f r=[])/\(∀(r:Str) v,br kvs (.inr r)=some v->∃l,v=.ref l/\H l=some (.lst ((f r).map V.int))/\H₀ l=none/\l≠pp/\l≠D) /\
 ∀(r r':Str) l,br kvs (.inr r)=some (.ref l)->br kvs (.inr r')=some (.ref l)->r=r'
def SLs (H:Hp) (p:Addr) (ps:'l'):Prop:=H p=some (.lst 'p')/\∀x∈ps,H x.1=some (.tup x.2.vs)
def rQ (T:Addr):Sp:=fun vs H Q _=>∃(pl:Addr) (ps:'l') (spoil:Int),vs=[.ref pl,.int spoil]/\SLs H pl ps/\ps.length<64/\0<=spoil/\TabOk T fc fb H /\
 ∀(l:Addr) (prs:List Nat) (H':Hp),H l=none->Bt T H H'->TabOk T fc fb H'->H' l=some (.lst (prs.map fun p=>V.int ((p:Nat):Int)))->PrOk (ps.map fun x=>be spoil x.2) prs->Q (.ref l) H'
theorem scPr:ax ["strips", "spoil", "prints", "taken", "number", "strip", "ends"] ["strips", "spoil"] (aj cZ):='a'
theorem Ah {f c T:Addr}{fd:BX}(F:Fun K "prints_for" "prints_for" cZ f fd) (hc:fd.code=.ref c) (C:EH base c T) (hB:base.BuiltinsAt mg T) (dLeast:'k' "least" 1 ["strip"] fx) (dGr:'k' "greatest" 1 ["strip"] vg)
  (dFree:'k' "first_free" 1 ["ends", "frame"] rX) (dPut:'k' "put_end" 1 ["ends", "place", "end"] w_) (n_len:mg "len"=none) (n_sorted:mg "sorted"=none) (n_range:mg "range"=none):aS P w K mg base CX0 5 f fd ["strips", "spoil"] (rQ T):=by
 refine F.okT (k:=4) hc scPr (fun vs H Q E h=>?_) (fun A outer s H vs Q E hr h=>?_)
 ·obtain ⟨pl,ps,spoil,rfl,_⟩:=h
  rfl
 obtain ⟨pl,ps,spoil,rfl,sl,hn,h0,tab,q⟩:=h
 have hr:Room (1+3) _:=hr
 refine iM (ad (aA (i:=2) scPr.nd (aB tG (bh (aa ae ag)) (e_b ao n_len B3 (aa (e_c 0) ag))))
  (ad (aA (i:=3) scPr.nd mU)
  (ad (bf BQ rfl (aZ (jp (x:="k") ["strips"] [0] [("strips",'n'+1)] hr n_sorted n_range rfl C hB (e_b ao n_len B3 (aa (e_c 0) ag)) rfl ⟨rfl,rfl,rfl,rfl,trivial⟩ ⟨rfl,trivial⟩ (fun _ _ _ _ _ hr=>(ay dLeast hr aD (aa (ar (bD (K:=K) rfl) (e_f 1) (e_v 0)) ag))))) (aE (i:=4) scPr.nd)
   (ad (aA (i:=5) scPr.nd (ar aw (e_c 0) (e_v 4)))
   (ad (fz (aA (i:=6) scPr.nd (wG (e_v 3) (ar az (e_v 5) ae) (bh ag))))
   (ad (iW (ay dFree hr aD (aa (e_v 6) (aa (ay dLeast hr aD (aa (e_v 5) ag)) ag))) (oM (e_v 2) (e_v 4)))
   (ai (aW (ay dPut hr aD (aa (e_v 6) (aa (ar aw (e_v 2) (e_v 4)) (aa (aB aG (ay dGr hr aD (aa (e_v 5) ag)) (e_v 1)) ag))))))))))
  (ai (aF (e_v 2)))))) ?_
 intros
 have zl:sizeLine=16777216:=Bo
 refine ⟨'h',fun pz hpz=>?_⟩
 have s1:=Same.new hpz (.lst [V.int 0])
 refine ⟨_,rfl,pl,_,rfl,.inl (SqL.of (s1 _ _ sl.1)),pz,_,_,rfl,rfl,ac,by omega,by rw [A2]; omega,by rw [A2]; show 1*_<=sizeLine; omega,fun pp hpp=>?_⟩
 have s2:=s1.trans (Same.new hpp (.lst (BF ('p'.length:Int).toNat [V.int 0]).flatten))
 refine fun pt hpt=>?_
 have s3:=s2.trans (Same.new hpt (.dK []))
 obtain ⟨tps,hT⟩:=tab.at
 have nT:∀{b:Addr},H b=none->b≠T:=fun hb z=>by rw [z,hT] at hb; cases hb
 have hpp0:H pp=none:=none_of s1 hpp
 have hpt0:H pt=none:=none_of s2 hpt
 have f1:upd (upd (upd H pz (.lst [V.int 0])) pp (.lst (BF ('p'.length:Int).toNat [V.int 0]).flatten)) pt (.dK []) pp=some (.lst ((BF ps.length 0).map fun (p:Nat)=>V.int ((p:Nat):Int))):=by
  have e1:('p'.length:Int).toNat=ps.length:=by rw [A2]; rfl
  rw [ah (ak ac hpt),ac,e1,n6]
 have nzt:∀ps',some (HO.tbl ps')≠H pl:=fun ps' z=>by rw [sl.1] at z; cases z
 refine ⟨_,rfl,pl,_,rfl,.inl (SqL.of (s3 _ _ sl.1)),ps.length,by rw [A2],hn,tab.same s3,fun k=>bd ('s'.getD k.toNat d0),fun k H' hk hb=>?_,fun D H2 ns hD hb tab2 hl hp ho=>?_⟩
 ·have hT':pl≠T:=aK sl.1 hT 'c'
  have hz:=A4 hk
  have hm:=BB hk
  have hzT:ps[k].1≠T:=aK (sl.2 _ hm) hT 'c'
  refine ⟨_,rfl,_,rfl,pl,_,_,.ref ps[k].1,rfl,rfl,SqL.of (hb _ _ hT' (s3 _ _ sl.1)),af (j:=k) (by rw [A5,hz]; rfl),ps[k].1,ps[k].2,rfl,hb _ _ hzT (s3 _ _ (sl.2 _ hm)),?_,fun _ _ h=>h⟩
  have:'s'.getD k d0=ps[k].2:=by rw [A7,A5,hz]; rfl
  show V.int _=V.int (bd ('s'.getD ((k:Int).toNat) d0))
  rw [show ((k:Int).toNat)=k from rfl,this]
 obtain ⟨js,rfl,hjs⟩:=kL hp
 have hpT:pl≠T:=aK sl.1 hT 'c'
 have hD0:H D=none:=none_of s3 hD
 have nppD:pp≠D:=ak f1 hD
 have nptD:pt≠D:=ak ac hD
 have nppt:pp≠pt:=fun z=>by rw [z,ac] at f1; cases f1
 have tk0:zp H H2 pp D [] (fun _=>[]):=⟨fun _ _=>rfl,fun r v z=>(by cases z),fun r r' l z=>(by cases z)⟩
 refine ⟨D,rfl,⟨_,SqL.of hl⟩,a_ (K:=K) (a:=D) (xs:=(js.map fun (j:Nat)=>((j:Nat):Int)).map V.int) (fun i σ H'=>∃(prs:List Nat) (kvs:List (Key×V)) (o4 o5 o6:Option V),σ=[some (.ref pl),some (.int spoil),some (.ref pp),some (.ref pt),o4,o5,o6] /\
   H' pp=some (.lst (prs.map fun p=>V.int ((p:Nat):Int)))/\prs.length=ps.length/\H' pt=some (.dK kvs)/\kvs.length<=i/\zp H H' pp D kvs (cO ((js.map fun j=>(ps.map fun (x:Addr×Clip)=>be spoil x.2).getD j i0).take i) fun _=>[]) /\
   (∀(i' j:Nat) x,i'<i->js[i']?=some j->(cM (js.map fun j=>(ps.map fun (x:Addr×Clip)=>be spoil x.2).getD j i0) fun _=>[])[i']?=some x->prs[j]?=some x.2)/\Bt T H H'/\TabOk T fc fb H'/\H' D=some (.lst ((js.map fun (j:Nat)=>((j:Nat):Int)).map V.int)))
  ⟨_,[],none,none,none,rfl,hb _ _ (nT hpp0) f1,CG,hb _ _ (nT hpt0) ac,Bb _,tk0,fun i' _ _ z=>by omega,fun b o h1 h2=>hb b o h1 (s3 b o h2),.inr tab2,hl⟩ ?_ ?_ ?_⟩
 ·rintro i σ H' _ ⟨prs,kvs,o4,o5,o6,rfl,_,_,_,_,_,_,_,_,hD'⟩
  exact SqL.of hD'
 ·rintro i x σ H' hx ⟨prs,kvs,o4,o5,o6,rfl,hpp',hpl',hpt',hkl,⟨t1,t2,t3⟩,hdone,bt,tab',hD'⟩
  rw [A5,A5] at hx
  cases hj:js[i]? with
  | none=>rw [hj] at hx; cases hx
  | some j =>
   rw [hj] at hx
   cases hx
   have hjn:j<ps.length:=BW.mp (hjs.mem_iff.mp (Bg hj))
   have hil:i<ps.length:=by
    have:=(A8.mp hj).1
    have:=hjs.length_eq
    rw [BL] at this
    omega
   have hz:=A4 hjn
   have hm:=BB hjn
   generalize ps[j]=z at hz hm
   have hzT:z.1≠T:=aK (sl.2 _ hm) hT (by intro y; cases y)
   have hzt:=bt _ _ hzT (sl.2 _ hm)
   have hiv:(ps.map fun (x:Addr×Clip)=>be spoil x.2).getD j i0=be spoil z.2:=by rw [A7,A5,hz]; rfl
   have hvi:(js.map fun j=>(ps.map fun (x:Addr×Clip)=>be spoil x.2).getD j i0)[i]?=some (be spoil z.2):=by rw [A5,hj]; exact congrArg some hiv
   have hrun:=ye (fun _=>[]) hvi
   have hend:=io ((js.map fun j=>(ps.map fun (x:Addr×Clip)=>be spoil x.2).getD j i0).take i) (be spoil z.2) (fun _=>[])
   rw [<- pM hvi] at hend
   have hlen:=ls ((js.map fun j=>(ps.map fun (x:Addr×Clip)=>be spoil x.2).getD j i0).take i) (fun _=>[]) 0 (fun _=>Bb _) z.2.reel
   rw [B9] at hlen
   generalize cO ((js.map fun j=>(ps.map fun (x:Addr×Clip)=>be spoil x.2).getD j i0).take i) (fun _=>[])=fE at t1 t2 t3 hrun hend hlen
   refine ⟨_,rfl,_,rfl,pl,_,_,.ref z.1,rfl,rfl,SqL.of (bt _ _ hpT sl.1),af (j:=j) (by rw [A5,hz]; rfl),?_⟩
   refine ⟨fun σ1 H1=>∃(l:Addr) (kvs':List (Key×V)),σ1=[some (.ref pl),some (.int spoil),some (.ref pp),some (.ref pt),some (.int ((j:Nat):Int)),some (.ref z.1),some (.ref l)]/\H1 pp=some (.lst (prs.map fun p=>V.int ((p:Nat):Int)))/\H1 pt=some (.dK kvs')/\kvs'.length<=i+1 /\
    zp H H1 pp D kvs' fE/\br kvs' (.inr z.2.reel)=some (.ref l)/\Bt T H H1/\TabOk T fc fb H1/\H1 D=some (.lst ((js.map fun (j:Nat)=>((j:Nat):Int)).map V.int)),?_,?_⟩
   ·refine ⟨_,rfl,pt,rfl,.inl ⟨kvs,Rd.of hpt'⟩,_,rfl,z.1,_,_,.str z.2.reel,rfl,rfl,SqT.of hzt,af (j:=0) rfl,'g',fun pe hpe=>?_⟩
    have se:=Same.new hpe (.lst [])
    refine ⟨kvs,.inr z.2.reel,se _ _ hpt',by omega,rfl,fun v hv=>?_,fun hv=>?_⟩
    ·obtain ⟨l,rfl,hl1,hl0,hl2,hl3⟩:=t2 _ _ hv
     refine ⟨l,kvs,rfl,se _ _ hpp',se _ _ hpt',by omega,⟨t1,fun r v h=>?_,t3⟩,hv,fun b o h1 h2=>se _ _ (bt b o h1 h2),tab'.same se,se _ _ hD'⟩
     obtain ⟨l',e,h1,h2⟩:=t2 r v h
     exact ⟨l',e,se _ _ h1,h2⟩
    ·have npe:pt≠pe:=ak hpt' hpe
     have hpe0:H pe=none:=by
      cases e:H pe with
      | none=>rfl
      | some o =>
       by_cases hb:pe=T
       ·obtain ⟨qs,hq⟩:=tab'.at
        rw [hb,hq] at hpe; cases hpe
       ·rw [bt _ _ hb e] at hpe; cases hpe
     have np:pp≠pe:=ak hpp' hpe
     have nD:D≠pe:=ak hD' hpe
     refine ⟨pe,cN kvs (.inr z.2.reel) (.ref pe),rfl,?_,ac,?_,⟨fun r h=>?_,fun r v h=>?_,fun r r' l h h'=>?_⟩,?_,fun b o h1 h2=>?_,?_,?_⟩
     ·rw [ah nppt,ah np]; exact hpp'
     ·have:=cA kvs (.inr z.2.reel) (.ref pe)
      omega
     ·rw [ft] at h
      split at h
      ·cases h
      ·exact t1 r h
     ·rw [ft] at h
      split at h
      ·rename_i e
       cases h
       have e:r=z.2.reel:=C0.inj e
       rw [e,t1 _ hv]
       exact ⟨pe,rfl,by rw [ah (Co npe)]; exact ac,hpe0,Co np,Co nD⟩
      ·obtain ⟨l',e,h1,h2⟩:=t2 r v h
       refine ⟨l',e,?_,h2⟩
       rw [ah (aK h1 hpt' (by intro y; cases y))]
       exact se _ _ h1
     ·rw [ft] at h h'
      split at h
      ·rename_i e
       split at h'
       ·rename_i e'
        exact C0.inj (e.trans e'.symm)
       ·obtain ⟨l',e2,h1,_⟩:=t2 r' _ h'
        cases h
        cases e2
        rw [hpe] at h1; cases h1
      ·split at h'
       ·obtain ⟨l',e2,h1,_⟩:=t2 r _ h
        cases h'
        cases e2
        rw [hpe] at h1; cases h1
       ·exact t3 r r' l h h'
     ·rw [ft,if_pos rfl]
     ·rw [ah (ak h2 hpt0)]
      exact se _ _ (bt b o h1 h2)
     ·exact (tab'.same se).write (se _ _ hpt') (fun _ y=>by cases y) fun _ _ y=>by cases y
     ·rw [ah (Co nptD)]
      exact se _ _ hD'
   ·rintro σ1 H1 ⟨l,kvs',rfl,hpp1,hpt1,hkl1,⟨u1,u2,u3⟩,hv1,bt1,tab1,hD1⟩
    obtain ⟨l',e,hl1,hl0,hl2,hl3⟩:=u2 _ _ hv1
    cases e
    have hz1:=bt1 _ _ hzT (sl.2 _ hm)
    have nlpp:=hl2
    refine ⟨_,rfl,_,rfl,z.1,z.2,rfl,hz1,l,fE z.2.reel,_,rfl,hl1,by omega,fun H3 s3'=>?_⟩
    have hpp3:=s3' _ _ hpp1
    refine ⟨_,rfl,_,rfl,pp,_,_,j,rfl,rfl,hpp3,by rw [A2,hpl']; exact jZ hjn,?_⟩
    have hl3':=s3' _ _ hl1
    have hz3:=s3' _ _ hz1
    have nzp:z.1≠pp:=aK hz3 hpp3 (by intro y; cases y)
    have npr:((prs.map fun p=>V.int ((p:Nat):Int)).set j (.int ((ff (fE z.2.reel) (bd z.2):Nat):Int)))=(prs.set j (ff (fE z.2.reel) (bd z.2))).map fun p=>V.int ((p:Nat):Int):=by rw [List.map_set]
    rw [npr]
    have hpl2:(prs.set j (ff (fE z.2.reel) (bd z.2))).length=ps.length:=by rw [Fy]; exact hpl'
    have hat:(prs.set j (ff (fE z.2.reel) (bd z.2)))[j]?=some (ff (fE z.2.reel) (bd z.2)):=by rw [Dm (by rw [hpl']; exact hjn)]
    refine ⟨_,rfl,_,rfl,_,rfl,pp,_,_,.int ((ff (fE z.2.reel) (bd z.2):Nat):Int),rfl,rfl,SqL.of ac,af (j:=j) (by rw [A5,hat]; rfl),_,rfl,z.1,z.2,rfl,by rw [ah nzp]; exact hz3,_,rfl,_,_,rfl,rfl,
     l,fE z.2.reel,ff (fE z.2.reel) (bd z.2),_,rfl,by rw [ah nlpp]; exact hl3',lg _ _,by omega,?_⟩
    have up:∀b,b≠l->b≠pp->upd (upd H3 pp (.lst ((prs.set j (ff (fE z.2.reel) (bd z.2))).map fun p=>V.int ((p:Nat):Int)))) l (.lst ((dQ (fE z.2.reel) (ff (fE z.2.reel) (bd z.2)) (dC z.2+spoil)).map V.int)) b=H3 b:=fun b h1 h2=>by rw [ah h1,ah h2]
    refine ⟨prs.set j (ff (fE z.2.reel) (bd z.2)),kvs',_,_,_,rfl,by rw [ah (Co nlpp)]; exact ac,hpl2,?_,hkl1,⟨fun r h=>?_,fun r v h=>?_,u3⟩,?_,fun b o h1 h2=>?_,?_,?_⟩
    ·rw [up _ (aK hpt1 hl1 (by intro y; cases y)) (aK hpt1 hpp1 (by intro y; cases y))]
     exact s3' _ _ hpt1
    ·rw [hend]
     show (if r=z.2.reel then _ else fE r)=_
     rw [if_neg (fun e=>by rw [e,hv1] at h; cases h)]
     exact u1 r h
    ·obtain ⟨l',e,h1,h2,h3,h4⟩:=u2 r v h
     refine ⟨l',e,?_,h2,h3,h4⟩
     rw [hend]
     show _=some (HO.lst ((if r=z.2.reel then _ else fE r).map V.int))
     by_cases er:r=z.2.reel
     ·rw [if_pos er]
      rw [er,hv1] at h
      have e:=(BP h).trans e
      cases e
      exact ac
     ·rw [if_neg er,up l' (fun y=>er (u3 r z.2.reel l (by rw [h,e,y]) hv1)) h3]
      exact s3' _ _ h1
    ·intro i' j' x' hi' hj' hx'
     rcases Ej i' i with hlt | hge
     ·have h5:=hdone i' j' x' hlt hj' hx'
      have nj:j≠j':=fun e=>by
       have nd:js.Nodup:=hjs.nodup_iff.mpr Fi
       exact df nd hlt hj' hj e.symm
      rw [DJ nj]
      exact h5
     ·have e:i'=i:=by omega
      subst e
      rw [hj] at hj'
      cases hj'
      rw [hrun] at hx'
      cases hx'
      exact hat
    ·rw [up b (ak h2 hl0) (ak h2 hpp0)]
     exact s3' _ _ (bt1 b o h1 h2)
    ·have w1:=(tab1.same s3').write (o:=.lst ((prs.set j (ff (fE z.2.reel) (bd z.2))).map fun p=>V.int ((p:Nat):Int))) hpp3 (fun _ y=>by cases y) fun _ _ y=>by cases y
     exact w1.write (by rw [ah nlpp]; exact hl3') (fun _ y=>by cases y) fun _ _ y=>by cases y
    ·rw [up D (Co hl3) (Co nppD)]
     exact s3' _ _ hD1
 ·rintro σ H' ⟨prs,kvs,o4,o5,o6,rfl,hpp',hpl',hpt',hkl,tk,hdone,bt,tab',hD'⟩
  refine ⟨_,rfl,q pp prs H' hpp0 bt tab' hpp' ?_⟩
  refine vz (js:=js) (by rw [hpl',A2]) (fun v hv=>?_) (by rw [A2]; exact hjs) i0 ?_ (fun i j x h1 h2=>hdone i j x ?_ h1 h2)
  ·obtain ⟨x,_,rfl⟩:=Bz.mp hv
   unfold be
   show (if x.2.b<x.2.a then x.2.b else x.2.a)<=(if x.2.a<x.2.b then x.2.b else x.2.a)+spoil
   split <;> split <;> omega
  ·rw [Cc] at ho
   refine ho.imp_of_mem fun {a b} ha hb h=>?_
   have ka:=BW.mp (hjs.mem_iff.mp ha)
   have kb:=BW.mp (hjs.mem_iff.mp hb)
   have h':bd ('s'.getD a d0)<=bd ('s'.getD b d0):=h
   have eq:∀k,k<ps.length->((ps.map fun (x:Addr×Clip)=>be spoil x.2).getD k i0).lo=bd ('s'.getD k d0):=fun k hk=>by
    rw [A7,A7,A5,A5,A4 hk]
    rfl
   rw [eq a ka,eq b kb]
   exact h'
  ·rw [A2,A2]
   exact (A8.mp h1).1
end
end K55
namespace L2
open PySem PySem.Spec PyProof.Rows
section
variable {X:Cx}{pins:'m'}{σ:St}{H:Hp}{s:A9}
theorem eU {A:BC}{E:Value->A9->Prop}{a:Addr}{vs:List Value}{n:Nat}{P:FJ->A9->Prop}(I:Inv X pins σ H s) (fa:bU X pins H a) (xa:X.s₀.heap.get? a=none) (ha:s.heap.get? a=some (BE "list" vs.toArray n)) (h2:vs.length<2)
  (h:∀h' c,Inv X pins σ H { s with heap:=h' }->h'.get? a=some (BE "list" vs.toArray c)->P (.done (.ret .none)) { s with heap:=h' }) :
  Bl (Bv X.prog X.w) A (Builtin.«list.sort» ⟨[.ref a],[]⟩) P E s:=by
 rw [list_sort_plain]
 have s1:=Ca.update s.heap a (BS fun _=>(#[]:Array Value))
 obtain ⟨e1,ho1⟩:∃e1,(s.heap.update a (BS fun _=>(#[]:Array Value))).get? a=some (BE "list" #[] e1):=⟨_,Ee ha fun _=>#[]⟩
 have I3:=I.but s1 fa xa
 have I4:=I3.kept (t':=s.toks) fun b o e=>A6 (BE "tuple" vs.toArray 0) e
 have I5:=I4.kept (t':=s.toks) fun b o e=>A6 (BE "list" #[] 0) e
 have na:(((s.heap.update a (BS fun _=>(#[]:Array Value))).push (BE "tuple" vs.toArray 0)).push (BE "list" #[] 0)).get? a=some (BE "list" #[] e1):=A6 _ (A6 _ ho1)
 refine A3 (listItems_at ha rfl ?_)
 refine A3 (Eu ha rfl ?_ (by rw [Be,Bo]; omega) (B6 _))
 refine A3 (Gn ho1 rfl ?_)
 refine A3 (wpAny_newTuple ?_ (by show vs.length<=_; rw [Bo]; omega))
 refine A3 (DI ?_ (B6 _))
 refine B0 ?_
 have hn2:vs.toArray.size<2:=by rw [Be]; exact h2
 dsimp only
 rw [if_pos hn2,if_pos hn2]
 refine A3 (Bc ?_)
 rw [StateT.run_pure]
 refine A3 (Bc ?_)
 dsimp only
 have hout:(FY (GC general' (vs.toArray.zip vs.toArray) #[] 7 none)).map (·.2)=vs.toArray:=by
  show (vs.toArray.zip vs.toArray).map (·.2)=vs.toArray
  apply Ga.mp
  rw [Array.toList_map,Array.toList_zip]
  exact F6 (Bb _)
 rw [hout]
 have s6:=Ca.update (((s.heap.update a (BS fun _=>(#[]:Array Value))).push (BE "tuple" vs.toArray 0)).push (BE "list" #[] 0)) a (BS fun _=>vs.toArray)
 obtain ⟨c2,hc2⟩:∃c2,((((s.heap.update a (BS fun _=>(#[]:Array Value))).push (BE "tuple" vs.toArray 0)).push (BE "list" #[] 0)).update a (BS fun _=>vs.toArray)).get? a=some (BE "list" vs.toArray c2):=⟨_,Ee na fun _=>vs.toArray⟩
 refine A3 (Gn na rfl ?_)
 refine A3 (Eu na rfl ?_ (B6 _) (by rw [Be,Bo]; omega))
 simp only [bne_self_eq_false,BY,if_false]
 have I6:=I5.but s6 fa xa
 exact Bc (h _ c2 I6 hc2)
end
section
variable {X:Cx}
end
end L2
namespace KS
open PySem PySem.W PyProof.Rows
def AllK {α:Type}(N:Nat) (P:α->Prop):KasT α->Prop
 | .ret a=>P a
 | .ask i j k=>i<N/\j<N/\∀b,AllK N P (k b)
theorem AllK.bind {α β:Type}{N:Nat}{P:α->Prop}{R:β->Prop}{f:α->KasT β}:∀{t:KasT α},AllK N P t->(∀a,P a->AllK N R (f a))->AllK N R (t.bind f)
 | .ret a,h,hf=>hf a h
 | .ask i j k,h,hf=>⟨h.1,h.2.1,fun b=>AllK.bind (h.2.2 b) hf⟩
def Pm (N:Nat) (p:Array Nat):Prop:=p.Perm (Bh N).toArray
theorem Pm.lt {N:Nat}{p:Array Nat}(h:Pm N p) (hN:0<N) (x:Nat):p.getD x 0<N:=by
 rw [Dj]
 cases e:p[x]? with
 | none=>exact hN
 | some v =>
  have hv:v∈p:=Array.mem_of_getElem? e
  have:v∈(Bh N).toArray:=h.mem_iff.mp hv
  simpa using this
theorem Pm.rev {N:Nat}{p:Array Nat}(h:Pm N p) (i j:Nat):Pm N (Gx p i j):=(mirror_perm p i j _).trans h
theorem Pm.bub {N:Nat}{p:Array Nat}(h:Pm N p) (k d:Nat):Pm N (bubble p k d):=(bubble_perm p k d).trans h
theorem kh {N:Nat}(hN:0<N) {p:Array Nat}(h:Pm N p):∀(f n:Nat),AllK N (fun _=>True) (kas_asc p f n)
 | 0,_=>trivial
 | f+1,n=>⟨h.lt hN _,h.lt hN _,fun b=>by
  dsimp only
  split
  ·trivial
  ·exact kh hN h f (n+1)⟩
theorem fR {N:Nat}(hN:0<N):∀(f:Nat) {p:Array Nat}(n q:Nat),Pm N p->AllK N (fun r=>Pm N r.1) (kas_desc f p n q)
 | 0,_,_,_,h=>h
 | f+1,p,n,q,h=>⟨h.lt hN _,h.lt hN _,fun b=>by
  dsimp only
  split
  ·split
   ·exact fR hN f _ _ (h.rev _ _)
   ·exact fR hN f _ _ h
  ·refine ⟨h.lt hN _,h.lt hN _,fun d=>?_⟩
   dsimp only
   split
   ·exact h
   ·exact fR hN f _ _ h⟩
theorem jy {N:Nat}(hN:0<N) {p:Array Nat}(h:Pm N p) (n nrem:Nat):AllK N (fun r=>Pm N r.2) (kas_tail3 n nrem p) :=
 AllK.bind (kh hN (h.rev 0 n) _ _) fun _ _=>h.rev 0 n
theorem fQ {N:Nat}(hN:0<N) {p:Array Nat}(h:Pm N p) (n nrem:Nat):AllK N (fun r=>Pm N r.2) (kas_descPart n nrem p) :=
 AllK.bind (fR hN _ _ _ h) fun r hr=>by
  split
  ·exact jy hN (hr.rev _ _) _ _
  ·exact jy hN hr _ _
theorem qY {N:Nat}(hN:0<N) {p:Array Nat}(h:Pm N p) (nrem:Nat):AllK N (fun r=>Pm N r.2) (kas_count nrem p) :=
 AllK.bind (kh hN h _ _) fun n _=>by
  split
  ·exact h
  ·split
   ·refine ⟨h.lt hN _,h.lt hN _,fun c=>?_⟩
    dsimp only
    split
    ·exact h
    ·exact fQ hN (h.rev _ _) _ _
   ·exact fQ hN h _ _
theorem gn {N:Nat}(hN:0<N) {p:Array Nat}(h:Pm N p) (k:Nat):∀(f l r:Nat),AllK N (fun _=>True) (kas_place p k f l r)
 | 0,_,_=>trivial
 | f+1,l,r=>by
  show AllK N _ (if l ≥ r then _ else _)
  split
  ·trivial
  ·refine ⟨h.lt hN _,h.lt hN _,fun c=>?_⟩
   dsimp only
   split
   ·exact gn hN h k f _ _
   ·exact gn hN h k f _ _
theorem pA {N:Nat}(hN:0<N):∀(f:Nat) {p:Array Nat}(k:Nat),Pm N p->AllK N (Pm N) (kas_bin f p k)
 | 0,_,_,h=>h
 | f+1,p,k,h=>AllK.bind (gn hN h k _ _ _) fun l _=>pA hN f (k+1) (h.bub _ _)
theorem uZ {N:Nat}(hN:0<N):AllK N (Pm N) (kas_sort N) :=
 AllK.bind (qY hN (Array.Perm.refl _) _) fun r hr=>by
  split
  ·exact pA hN _ _ hr
  ·exact hr
section
variable (r:Nat->Int)
def ky (p:Array Nat) (x:Nat):Int:=r (p.getD x 0)
def lr (i j:Nat):Bool:=decide (r i<r j)
def AllE {α:Type}(P:α->Prop):KasT α->Prop
 | .ret a=>P a
 | .ask i j k=>AllE P (k (lr r i j))
variable {r}
theorem AllE.bind {α β:Type}{P:α->Prop}{R:β->Prop}{f:α->KasT β}:∀{t:KasT α},AllE r P t->(∀a,P a->AllE r R (f a))->AllE r R (t.bind f)
 | .ret a,h,hf=>hf a h
 | .ask i j k,h,hf=>AllE.bind (t:=k (lr r i j)) h hf
theorem mL {p:Array Nat}{i j:Nat}(hj:j<=p.size) (x:Nat):ky r (Gx p i j) x=if i<=x/\x<j then ky r p (i+j-1-x) else ky r p x:=by
 unfold ky Gx
 rw [Dj,getElem?_mirror_all (i:=i) hj x]
 split <;> rw [Dj]
theorem um {p:Array Nat}{s d:Nat}(hs:s<p.size) (hd:d<=s) (x:Nat):ky r (bubble p s d) x=if x=s-d then ky r p s else if s-d<x/\x<=s then ky r p (x-1) else ky r p x:=by
 unfold ky
 rw [Dj,getElem?_bubble hs d hd x]
 have g:∀y,(p[y]?).getD 0=p.getD y 0:=fun y=>(Dj ..).symm
 by_cases h1:x=s-d
 ·rw [if_pos h1,if_pos h1,g]
 ·rw [if_neg h1,if_neg h1]
  by_cases h2:s-d<x/\x<=s
  ·rw [if_pos h2,if_pos h2,g]
  ·rw [if_neg h2,if_neg h2,g]
variable (r)
def Up (p:Array Nat) (m:Nat):Prop:=∀x y,x<=y->y<m->ky r p x<=ky r p y
def Dn (p:Array Nat) (m:Nat):Prop:=∀x y,x<=y->y<m->ky r p y<=ky r p x
variable {r}
theorem Up.ext {p:Array Nat}{n:Nat}(h:Up r p n) (h1:1<=n) (hk:ky r p (n-1)<=ky r p n):Up r p (n+1):=fun x y hxy hy=>by
 by_cases e:y=n
 ·subst e
  by_cases e2:x=y
  ·subst e2; exact Ci _
  ·exact Int.le_trans (h x (y-1) 'b' 'b') hk
 ·exact h x y hxy 'b'
theorem Dn.ext {p:Array Nat}{n:Nat}(h:Dn r p n) (h1:1<=n) (hk:ky r p n<=ky r p (n-1)):Dn r p (n+1):=fun x y hxy hy=>by
 by_cases e:y=n
 ·subst e
  by_cases e2:x=y
  ·subst e2; exact Ci _
  ·exact Int.le_trans hk (h x (y-1) 'b' 'b')
 ·exact h x y hxy 'b'
theorem hZ (p:Array Nat) (x y:Nat):lr r (p.getD x 0) (p.getD y 0)=decide (ky r p x<ky r p y):=rfl
theorem uG {p:Array Nat}:∀(f n:Nat),1<=n->Up r p n->AllE r (fun m=>n<=m/\m<=n+f/\Up r p m/\(m=n+f\/ky r p m<ky r p (m-1))) (kas_asc p f n)
 | 0,n,_,h=>⟨Bb _,Bb _,h,.inl rfl⟩
 | f+1,n,h1,h=>by
  show AllE r _ (if lr r (p.getD n 0) (p.getD (n-1) 0)=true then _ else _)
  rw [hZ]
  by_cases c:ky r p n<ky r p (n-1)
  ·rw [if_pos (decide_eq_true c)]
   exact ⟨Bb _,by omega,h,.inr c⟩
  ·rw [if_neg (by rw [decide_eq_false c]; decide)]
   have ih:=uG f (n+1) 'b' (h.ext h1 'b')
   have mono:∀{t:KasT Nat}{P Q:Nat->Prop},(∀a,P a->Q a)->AllE r P t->AllE r Q t:=fun {t P Q} hpq ht=>by
    induction t with
    | ret a=>exact hpq a ht
    | ask i j k ih=>exact ih _ ht
   exact mono (fun m ⟨a,b,c,d⟩=>⟨by omega,by omega,c,d.imp (fun e=>by omega) id⟩) ih
theorem AllE.mono {α:Type}{P Q:α->Prop}(hpq:∀a,P a->Q a):∀{t:KasT α},AllE r P t->AllE r Q t
 | .ret a,h=>hpq a h
 | .ask i j k,h=>AllE.mono (t:=k (lr r i j)) hpq h
theorem jX {p:Array Nat}{i j:Nat}(hj:j<=p.size) (he:∀x,i<=x->x<j->ky r p x=ky r p (j-1)) (x:Nat):ky r (Gx p i j) x=ky r p x:=by
 rw [mL hj]
 split
 ·rename_i h
  rw [he _ 'b' 'b',he x h.1 h.2]
 ·rfl
theorem j9 (N:Nat):∀(f:Nat) {p:Array Nat}(n q:Nat),p.size=N->1<=n->n+f<=N->q+1<=n->Dn r p n->(∀x,n-(q+1)<=x->x<n->ky r p x=ky r p (n-1)) ->
  AllE r (fun t=>t.1.size=N/\n<=t.2.1/\t.2.1<=n+f/\t.2.2+1<=t.2.1/\Dn r t.1 t.2.1/\∀x,t.2.1-(t.2.2+1)<=x->x<t.2.1->ky r t.1 x=ky r t.1 (t.2.1-1)) (kas_desc f p n q)
 | 0,p,n,q,hs,h1,hf,hq,hd,he=>⟨hs,Bb _,Bb _,hq,hd,he⟩
 | f+1,p,n,q,hs,h1,hf,hq,hd,he=>by
  show AllE r _ (if lr r (p.getD n 0) (p.getD (n-1) 0)=true then _ else _)
  rw [hZ]
  by_cases c:ky r p n<ky r p (n-1)
  ·rw [if_pos (decide_eq_true c)]
   by_cases hq0:q > 0
   ·rw [if_pos hq0]
    have same:=jX (r:=r) (p:=p) (i:=n-(q+1)) (j:=n) 'b' he
    refine AllE.mono ?_ (j9 N f (p:=Gx p (n-(q+1)) n) (n+1) 0 (by unfold Gx; rw [mirror_size]; exact hs) 'b' 'b' 'b' (fun x y hxy hy=>?_) fun x h2 h3=>?_)
    ·exact fun t ⟨a,b,c,d⟩=>⟨a,by omega,by omega,d⟩
    ·rw [same,same]
     exact hd.ext h1 'b' x y hxy hy
    ·have:x=n+1-1:=by omega
     rw [this]
   ·rw [if_neg hq0]
    refine AllE.mono ?_ (j9 N f (n+1) 0 hs 'b' 'b' 'b' (hd.ext h1 'b') fun x h2 h3=>?_)
    ·exact fun t ⟨a,b,c,d⟩=>⟨a,by omega,by omega,d⟩
    ·have:x=n+1-1:=by omega
     rw [this]
  ·rw [if_neg (by rw [decide_eq_false c]; decide)]
   show AllE r _ (if lr r (p.getD (n-1) 0) (p.getD n 0)=true then _ else _)
   rw [hZ]
   by_cases c2:ky r p (n-1)<ky r p n
   ·rw [if_pos (decide_eq_true c2)]
    exact ⟨hs,Bb _,(by show n<=n+(f+1); omega),hq,hd,he⟩
   ·rw [if_neg (by rw [decide_eq_false c2]; decide)]
    have e0:ky r p n=ky r p (n-1):=by omega
    refine AllE.mono ?_ (j9 N f (n+1) (q+1) hs 'b' 'b' 'b' (hd.ext h1 'b') fun x h2 h3=>?_)
    ·exact fun t ⟨a,b,c,d⟩=>⟨a,by omega,by omega,d⟩
    ·show ky r p x=ky r p n
     by_cases ex:x=n
     ·rw [ex]
     ·rw [he x 'b' 'b',e0]
theorem oS (N:Nat) {p:Array Nat}(n nrem:Nat) (hs:p.size=N) (h1:1<=n) (hn:n<=nrem) (hr:nrem<=N) (hd:Dn r p n):AllE r (fun t=>t.2.size=N/\1<=t.1/\t.1<=nrem/\Up r t.2 t.1) (kas_tail3 n nrem p):=by
 have hu:Up r (Gx p 0 n) n:=fun x y hxy hy=>by
  rw [mL 'b',mL 'b',if_pos 'b',if_pos 'b']
  exact hd _ _ 'b' 'b'
 exact AllE.bind (uG _ _ h1 hu) fun m ⟨a,b,c,_⟩=>⟨by unfold Gx; rw [mirror_size]; exact hs,by omega,by omega,c⟩
theorem iq (N:Nat) {p:Array Nat}(n nrem:Nat) (hs:p.size=N) (h1:1<=n) (hn:n+1<=nrem) (hr:nrem<=N) (hd:Dn r p (n+1)):AllE r (fun t=>t.2.size=N/\1<=t.1/\t.1<=nrem/\Up r t.2 t.1) (kas_descPart n nrem p):=by
 have e0:∀x,n+1-(0+1)<=x->x<n+1->ky r p x=ky r p (n+1-1):=fun x h2 h3=>by
  have:x=n+1-1:=by omega
  rw [this]
 refine AllE.bind (j9 N (nrem-(n+1)) (n+1) 0 hs 'b' 'b' 'b' hd e0) fun t ⟨a,b,c,d,e,g⟩=>?_
 split
 ·have same:=jX (r:=r) (p:=t.1) (i:=t.2.1-(t.2.2+1)) (j:=t.2.1) 'b' g
  refine oS N _ _ (by unfold Gx; rw [mirror_size]; exact a) 'b' 'b' hr fun x y hxy hy=>?_
  rw [same,same]
  exact e x y hxy hy
 ·exact oS N _ _ a 'b' 'b' hr e
theorem wI (N:Nat) {p:Array Nat}(hs:p.size=N) (h1:1<=N):AllE r (fun t=>t.2.size=N/\1<=t.1/\t.1<=N/\Up r t.2 t.1) (kas_count N p):=by
 have hu:Up r p 1:=fun x y hxy hy=>by
  have:x=y:=by omega
  rw [this]; exact Ci _
 refine AllE.bind (uG (N-1) 1 'b' hu) fun n ⟨a,b,c,d⟩=>?_
 by_cases en:n=N
 ·rw [if_pos (by simp [en])]
  exact ⟨hs,a,by omega,c⟩
 ·rw [if_neg (by simpa using en)]
  have d1:ky r p n<ky r p (n-1):=by
   rcases d with d | d
   ·omega
   ·exact d
  by_cases h2:n > 1
  ·rw [if_pos h2]
   show AllE r _ (if lr r (p.getD 0 0) (p.getD (n-1) 0)=true then _ else _)
   rw [hZ]
   by_cases c2:ky r p 0<ky r p (n-1)
   ·rw [if_pos (decide_eq_true c2)]
    exact ⟨hs,a,by omega,c⟩
   ·rw [if_neg (by rw [decide_eq_false c2]; decide)]
    have eqs:∀x,x<n->ky r p x=ky r p (n-1):=fun x hx=>by
     have:=c 0 x 'b' hx
     have:=c x (n-1) 'b' 'b'
     omega
    have same:=jX (r:=r) (p:=p) (i:=0) (j:=n) 'b' fun x _ hx=>eqs x hx
    refine iq N n N (by unfold Gx; rw [mirror_size]; exact hs) 'b' 'b' (Bb _) fun x y hxy hy=>?_
    rw [same,same]
    have hdn:Dn r p n:=fun x y hxy hy=>by rw [eqs x 'b',eqs y hy]; exact Ci _
    exact hdn.ext 'b' 'b' x y hxy hy
  ·rw [if_neg h2]
   have e1:n=1:=by omega
   subst e1
   refine iq N 1 N hs 'b' 'b' (Bb _) fun x y hxy hy=>?_
   have hdn:Dn r p 1:=fun x y hxy hy=>by
    have:x=y:=by omega
    rw [this]; exact Ci _
   exact hdn.ext 'b' 'b' x y hxy hy
theorem j8 {p:Array Nat}(k:Nat) (hu:Up r p k):∀(f l t:Nat),l<=t->t<=k->t-l<=f->(∀x,x<l->ky r p x<=ky r p k)->(∀x,t<=x->x<k->ky r p k<ky r p x) ->
  AllE r (fun m=>m<=k/\(∀x,x<m->ky r p x<=ky r p k)/\∀x,m<=x->x<k->ky r p k<ky r p x) (kas_place p k f l t)
 | 0,l,t,h1,h2,h3,ha,hb=>⟨by omega,ha,fun x hx=>hb x 'b'⟩
 | f+1,l,t,h1,h2,h3,ha,hb=>by
  show AllE r _ (if l ≥ t then _ else _)
  by_cases hlt:l ≥ t
  ·rw [if_pos hlt]
   exact ⟨by omega,ha,fun x hx=>hb x 'b'⟩
  ·rw [if_neg hlt]
   show AllE r _ (if lr r (p.getD k 0) (p.getD ((l+t) / 2) 0)=true then _ else _)
   rw [hZ]
   by_cases c:ky r p k<ky r p ((l+t) / 2)
   ·rw [if_pos (decide_eq_true c)]
    exact j8 k hu f l ((l+t) / 2) 'b' 'b' 'b' ha fun x hx hk=>Int.lt_of_lt_of_le c (hu _ _ hx hk)
   ·rw [if_neg (by rw [decide_eq_false c]; decide)]
    exact j8 k hu f ((l+t) / 2+1) t 'b' 'b' 'b' (fun x hx=>Int.le_trans (hu x ((l+t) / 2) 'b' 'b') 'b') hb
theorem xD (N:Nat):∀(f:Nat) {p:Array Nat}(k:Nat),p.size=N->k+f=N->Up r p k->AllE r (fun t=>Up r t N) (kas_bin f p k)
 | 0,p,k,hs,hk,hu=>by
  have:k=N:=by omega
  rw [<- this]; exact hu
 | f+1,p,k,hs,hk,hu=>by
  refine AllE.bind (j8 k hu k 0 k 'b' 'b' 'b' (fun x hx=>by omega) fun x h1 h2=>by omega) fun l ⟨a,b,c⟩=>?_
  refine xD N f (k+1) (by rw [bubble_size]; exact hs) 'b' fun x y hxy hy=>?_
  have hks:k<p.size:=by omega
  rw [um hks 'b',um hks 'b',show k-(k-l)=l by omega]
  by_cases hx:x=l
  ·rw [if_pos hx]
   by_cases hy2:y=l
   ·rw [if_pos hy2]; exact Ci _
   ·rw [if_neg hy2,if_pos 'b']
    exact Int.le_of_lt (c (y-1) 'b' 'b')
  ·rw [if_neg hx]
   by_cases hx2:l<x/\x<=k
   ·rw [if_pos hx2,if_neg 'b',if_pos 'b']
    exact hu _ _ 'b' 'b'
   ·rw [if_neg hx2]
    by_cases hy2:y=l
    ·rw [if_pos hy2]
     exact b x 'b'
    ·rw [if_neg hy2]
     by_cases hy3:l<y/\y<=k
     ·rw [if_pos hy3]
      exact hu _ _ 'b' 'b'
     ·rw [if_neg hy3]
      exact hu _ _ hxy 'b'
theorem zg (N:Nat) (h1:1<=N):AllE r (fun t=>Up r t N) (kas_sort N):=by
 refine AllE.bind (wI N 'e' h1) fun t ⟨a,b,c,d⟩=>?_
 split
 ·have e:max t.1 1=t.1:=by omega
  rw [e]
  exact xD N _ _ a 'b' d
 ·have:t.1=N:=by omega
  rw [this] at d
  exact d
theorem k7 {α:Type}{P R:α->Prop}{N:Nat}{cmp:Nat->Nat->(Bool->A9->Prop)->A9->Prop}{I:A9->Prop}(hc:∀i j C s,i<N->j<N->I s->(∀s',I s'->C (lr r i j) s')->cmp i j C s) :
  ∀(t:KasT α) (Q:α->A9->Prop) (s:A9),AllK N P t->AllE r R t->I s->(∀a s',P a->R a->I s'->Q a s')->t.kasWp cmp Q s
 | .ret a,Q,s,h,h',hI,hq=>hq a s h h' hI
 | .ask i j k,Q,s,h,h',hI,hq=>hc i j _ s h.1 h.2.1 hI fun s' hI'=>k7 hc (k (lr r i j)) Q s' (h.2.2 _) h' hI' hq
def eY {β:Type}(lt:β->β->Bool) (xs:List β) (d:β) (i:Nat):Int:=(((xs.filter fun y=>lt y (xs.getD i d)).length:Nat):Int)
theorem gG {β:Type}{lt:β->β->Bool}(irr:∀x,lt x x=false) (tr:∀x y z,lt x y=true->lt y z=true->lt x z=true) (tot:∀x y z,lt x z=true->lt x y=true\/lt y z=true) {xs:List β}{d:β}{i j:Nat}(hi:i<xs.length) (hj:j<xs.length) :
  lr (eY lt xs d) i j=lt (xs.getD i d) (xs.getD j d):=by
 have gi:xs.getD i d=xs[i]:=by rw [A7,A4 hi]; rfl
 have key:∀a b:β,lt b a=false->∀l:List β,(l.filter fun y=>lt y b).length ≥ (l.filter fun y=>lt y a).length:=by
  intro a b hab l
  induction l with
  | nil=>exact Bb _
  | cons y l ih =>
   rw [CO,CO]
   by_cases h:lt y a=true
   ·have h2:lt y b=true:=by
     rcases tot y b a h with h | h
     ·exact h
     ·rw [hab] at h; cases h
    rw [if_pos h,if_pos h2,BK,BK]
    omega
   ·rw [if_neg h]
    split
    ·rw [BK]; omega
    ·exact ih
 have strict:∀a b:β,lt a b=true->∀l:List β,a∈l->(l.filter fun y=>lt y a).length<(l.filter fun y=>lt y b).length:=by
  intro a b hab l
  have hba:lt b a=false:=by
   cases h:lt b a with
   | false=>rfl
   | true =>
    have:=tr a b a hab h
    rw [irr] at this
    cases this
  induction l with
  | nil=>intro h; cases h
  | cons y l ih =>
   intro hm
   rw [CO,CO]
   rcases Bp.mp hm with rfl | hm
   ·rw [if_neg (by rw [irr]; decide),if_pos hab,BK]
    have:=key a b hba l
    omega
   ·have ih:=ih hm
    by_cases h:lt y a=true
    ·rw [if_pos h,if_pos (tr y a b h hab),BK,BK]
     omega
    ·rw [if_neg h]
     split
     ·rw [BK]; omega
     ·exact ih
 unfold lr eY
 cases h:lt (xs.getD i d) (xs.getD j d) with
 | true =>
  have:=strict _ _ h xs (by rw [gi]; exact BB hi)
  exact decide_eq_true 'b'
 | false =>
  have:=key (xs.getD j d) (xs.getD i d) h xs
  exact decide_eq_false 'b'
end
end KS
namespace L2
open PySem PySem.Spec PyProof.Rows PySem.W KS
section
variable {X:Cx}{pins:'m'}{σ:St}{H:Hp}{s:A9}
theorem fX {A:BC}{E:Value->A9->Prop}{a:Addr}{vs:List Value}{n:Nat}{P:FJ->A9->Prop}{κ:SortKind}{r:Nat->Int}(I:Inv X pins σ H s) (fa:bU X pins H a) (xa:X.s₀.heap.get? a=none) (ha:s.heap.get? a=some (BE "list" vs.toArray n)) (h2:2<=vs.length) (h64:vs.length<64)
  (kind:∀(s':A9) (Q:SortKind->A9->Prop),Inv X pins σ H s'->Q κ s'->Bl (Bv X.prog X.w) A (keyKind' vs.toArray) Q E s')
  (cmp:∀(i j:Nat) (s':A9) (pins':'m'),i<vs.length->j<vs.length->Inv X pins' σ H s'->Bl (Bv X.prog X.w) A (keyLt' κ (vs.getD i .none) (vs.getD j .none)) (fun b s''=>b=lr r i j/\Inv X pins' σ H s'') (fun _ _=>False) s')
  (h:∀(s':A9) (p:Array Nat) (c:Nat),Inv X pins σ H s'->s'.heap.get? a=some (BE "list" (p.toList.map fun i=>vs.getD i .none).toArray c)->Pm vs.length p->Up r p vs.length->P (.done (.ret .none)) s') :
  Bl (Bv X.prog X.w) A (Builtin.«list.sort» ⟨[.ref a],[]⟩) P E s:=by
 rw [list_sort_plain]
 have s1:=Ca.update s.heap a (BS fun _=>(#[]:Array Value))
 obtain ⟨e1,ho1⟩:∃e1,(s.heap.update a (BS fun _=>(#[]:Array Value))).get? a=some (BE "list" #[] e1):=⟨_,Ee ha fun _=>#[]⟩
 have I3:=I.but s1 fa xa
 have I4:=I3.kept (t':=s.toks) fun b o e=>A6 (BE "tuple" vs.toArray 0) e
 have I5:=I4.kept (t':=s.toks) fun b o e=>A6 (BE "list" #[] 0) e
 have na:(((s.heap.update a (BS fun _=>(#[]:Array Value))).push (BE "tuple" vs.toArray 0)).push (BE "list" #[] 0)).get? a=some (BE "list" #[] e1):=A6 _ (A6 _ ho1)
 refine A3 (listItems_at ha rfl ?_)
 refine A3 (Eu ha rfl ?_ (by rw [Be,Bo]; omega) (B6 _))
 refine A3 (Gn ho1 rfl ?_)
 refine A3 (wpAny_newTuple ?_ (by show vs.length<=_; rw [Bo]; omega))
 refine A3 (DI ?_ (B6 _))
 refine B0 ?_
 have hn2:¬ vs.toArray.size<2:=by rw [Be]; omega
 dsimp only
 rw [if_neg hn2,if_neg hn2]
 refine A3 (kind _ _ I5 ?_)
 have est:GC κ (vs.toArray.zip vs.toArray) #[] 7 none=kas_st κ (pairsOf vs) (Ds (Bh vs.length)):=by
  have e:=kas_range (pairsOf vs)
  rw [pairsOf_size] at e
  show GC κ (pairsOf vs) #[] 7 none=GC κ ((Ds (Bh vs.length)).map (kas_item (pairsOf vs))) #[] 7 none
  rw [e]
 have I6:=I5.add fa na fun v z=>by cases z
 have ask:=k7 (r:=r) (P:=Pm vs.length) (R:=fun t=>Up r t vs.length) (N:=vs.length) (cmp:=kas_ask X.prog X.w A κ vs) (I:=fun s'=>Inv X ((a,BE "list" #[] e1) :: pins) σ H s')
  (fun i j C s' hi hj hI hC=>BJ (cmp i j s' _ hi hj hI) (fun b s'' ⟨eb,hI'⟩=>by rw [eb]; exact hC s'' hI') fun _ _ z=>z)
  (kas_sort vs.length) (fun p s'=>Pm vs.length p/\Up r p vs.length/\Inv X ((a,BE "list" #[] e1) :: pins) σ H s') _ (uZ 'b') (zg vs.length 'b') I6 fun p s' h1 h3 hI=>⟨h1,h3,hI⟩
 rw [kas_ask_eq] at ask
 have run:=kas_runs (E:=E) (Q:=fun _ st' s'=>∃p:Array Nat,p.size=vs.length/\FY st'=p.map (kas_item (pairsOf vs))/\failedOf st'=none/\Pm vs.length p/\Up r p vs.length/\Inv X ((a,BE "list" #[] e1) :: pins) σ H s')
  h2 h64 (fun p' st' s' a1 a2 a3 a4=>⟨p',a1,a2,a3,a4⟩) ask
 rw [<- est] at run
 refine A3 (BJ run ?_ fun _ _ e=>e)
 rintro ⟨⟨⟩,st'⟩ s' ⟨p,hp,har,hf,hpm,hup,J⟩
 dsimp only
 have ga:=J.hd.1
 have hout:(FY st').map (·.2)=Ds (p.toList.map fun i=>vs.getD i CA):=by
  apply Ga.mp
  rw [har,Array.map_map,Array.toList_map]
  exact CH fun i _=>by show (kas_item (pairsOf vs) i).2=_; rw [kas_item_eq]
 have hsz:(Ds (p.toList.map fun i=>vs.getD i CA)).size=vs.length:=by rw [Be,A2,B8,hp]
 rw [hout]
 have s6:=Ca.update s'.heap a (BS fun _=>Ds (p.toList.map fun i=>vs.getD i CA))
 obtain ⟨c2,hc2⟩:∃c2,(s'.heap.update a (BS fun _=>Ds (p.toList.map fun i=>vs.getD i CA))).get? a=some (BE "list" (Ds (p.toList.map fun i=>vs.getD i CA)) c2):=⟨_,Ee ga fun _=>Ds (p.toList.map fun i=>vs.getD i CA)⟩
 refine A3 (Gn ga rfl ?_)
 refine A3 (Eu ga rfl ?_ (B6 _) (BR (FQ hsz) (by rw [Bo]; omega)))
 rw [hf]
 simp only [bne_self_eq_false,BY,if_false]
 exact Bc (h _ p c2 (J.sub.but s6 fa xa) hc2 hpm hup)
end
section
variable {prog:Program}{w:BG}{A:BC}{E:Value->A9->Prop}{s:A9}
theorem ot {b:Bool}{x y:Int}{t u:Tok}{Q:Bool->A9->Prop}(h:Q (decide (x<y)) s):Bl (Bv prog w) A (oneLt' b (.int x t) (.int y u)) Q E s:=by
 cases b with
 | true=>exact oneLt_int h
 | false=>exact kat_one _ _ (PySem.P.lt_int (show PySem.W.BoolBack Q (.bool (decide (x<y))) s from h))
theorem kW {b:Bool}{Q:Bool->A9->Prop}:∀{ns ms:List Int}{us ws:List Value}(i:Nat),DQ us ns->DQ ws ms->ns.length=ms.length->Q (HT.lexLt ns ms) s->KatLex prog w A b false Q (us.zip ws) i s
 | [],[],[],[],_,_,_,_,h=>kat_nil h
 | n :: ns,m :: ms,_,_,i,.cons _ t hu,.cons _ t' hw,hl,h=>by
  refine kat_cons (wpAny_eqBool_int ?_)
  refine kat_go (fun e=>?_) (fun e=>?_)
  ·have e:n=m:=by simpa using e
   subst e
   rw [HT.lexLt_cons,if_pos rfl] at h
   exact kat_yes (kW (i+1) hu hw (by simpa using hl) h)
  ·have e2:n≠m:=by simpa using e
   rw [HT.lexLt_cons,if_neg e2] at h
   exact kat_no (ot h)
end
theorem oA:∀x:List Int,HT.lexLt x x=false
 | []=>rfl
 | a :: x=>by rw [HT.lexLt_cons,if_pos rfl]; exact oA x
theorem uc:∀x y z:List Int,HT.lexLt x y=true->HT.lexLt y z=true->HT.lexLt x z=true
 | [],[],_,h,_=>by cases h
 | [],_ :: _,[],_,h=>by cases h
 | [],_ :: _,_ :: _,_,_=>rfl
 | _ :: _,[],_,h,_=>by cases h
 | _ :: _,_ :: _,[],_,h=>by cases h
 | a :: x,b :: y,c :: z,h1,h2=>by
  rw [HT.lexLt_cons] at h1 h2 ⊢
  by_cases e1:a=b
  ·rw [if_pos e1] at h1
   by_cases e2:b=c
   ·rw [if_pos e2] at h2
    rw [if_pos (e1.trans e2)]
    exact uc x y z h1 h2
   ·rw [if_neg e2] at h2
    rw [e1,if_neg e2]
    exact h2
  ·rw [if_neg e1] at h1
   have h1:=of_decide_eq_true h1
   by_cases e2:b=c
   ·rw [<- e2,if_neg e1]
    exact decide_eq_true h1
   ·rw [if_neg e2] at h2
    have h2:=of_decide_eq_true h2
    rw [if_neg 'b']
    exact decide_eq_true 'b'
theorem oz:∀x y z:List Int,HT.lexLt x z=true->HT.lexLt x y=true\/HT.lexLt y z=true
 | [],[],_,h=>.inr h
 | [],_ :: _,[],h=>by cases h
 | [],_ :: _,_ :: _,_=>.inl rfl
 | _ :: _,_,[],h=>by cases h
 | _ :: _,[],_ :: _,_=>.inr rfl
 | a :: x,b :: y,c :: z,h=>by
  rw [HT.lexLt_cons] at h
  rw [HT.lexLt_cons,HT.lexLt_cons]
  by_cases e1:a=b
  ·subst e1
   rw [if_pos rfl]
   by_cases e2:a=c
   ·rw [if_pos e2] at h ⊢
    exact oz x y z h
   ·rw [if_neg e2] at h ⊢
    exact .inr h
  ·rw [if_neg e1]
   by_cases h1:a<b
   ·exact .inl (decide_eq_true h1)
   ·right
    by_cases e2:a=c
    ·rw [if_neg 'b']
     exact decide_eq_true 'b'
    ·rw [if_neg e2] at h
     have h:=of_decide_eq_true h
     rw [if_neg 'b']
     exact decide_eq_true 'b'
theorem iI:∀{ts:List (Addr×List Int)}{us:List Value},Vals (ts.map fun x=>V.ref x.1) us->us=ts.map fun x=>Bs x.1
 | [],[],_=>rfl
 | t :: ts,u :: us,h=>by
  cases h with
  | cons r t' =>
   have r:u=Bs t.1:=r
   rw [r,iI t']
   rfl
section
variable {X:Cx}{pins:'m'}{σ:St}{H:Hp}{s:A9}
theorem lU (I:Inv X pins σ H s) {x:Addr×List Int}(h:H x.1=some (.tup (x.2.map V.int))):∃o us n,s.heap.get? x.1=some o/\o.cls=.type "tuple"/\o.data=.seq (Ds us) n/\DQ us x.2:=by
 obtain ⟨_,its,rv,o,h1,h2,n,h3⟩:=(show ObjOk X.prog X.w H s.heap x.1 (.tup (x.2.map V.int)) from I.hok _ _ h)
 have conv:∀{ns:List Int}{us:List Value},Vals (ns.map V.int) us->DQ us ns:=by
  intro ns
  induction ns with
  | nil=>intro us h; cases h; exact .nil
  | cons n ns ih =>
   intro us h
   cases h with
   | cons r t =>
    obtain ⟨k,rfl⟩:=r
    exact .cons n k (ih t)
 exact ⟨o,its,n,h1,h2,h3,conv rv⟩
theorem oF (I:Inv X pins σ H s) (m:Nat):∀(ts:List (Addr×List Int)),(∀x∈ts,H x.1=some (.tup (x.2.map V.int))/\x.2.length=m+1)->∃fs:List Value,fs.length=ts.length/\KatTups s.heap (ts.map fun x=>Bs x.1) fs/\∀v∈fs,∃k t,v=.int k t
 | [],_=>⟨[],rfl,.nil,fun v hv=>nomatch hv⟩
 | x :: ts,h=>by
  obtain ⟨fs,hl,hk,hv⟩:=oF I m ts fun y hy=>h y (Br _ hy)
  obtain ⟨h1,h2⟩:=h x (Bq ..)
  obtain ⟨o,us,n,e1,e2,e3,e4⟩:=lU I h1
  cases hx:x.2 with
  | nil=>rw [hx] at h2; cases h2
  | cons a r =>
   rw [hx] at e4
   cases e4 with
   | cons _ t e4 =>
    refine ⟨.int a t :: fs,by simp [hl],.cons e1 e2 e3 'e' hk,fun v hv'=>?_⟩
    rcases Bp.mp hv' with rfl | hv'
    ·exact ⟨a,t,rfl⟩
    ·exact hv v hv'
theorem mX {K:Ba}(hK:X.K=K):bz X (.builtin "sorted") (fun xs H Q=>∃(a:Addr) (ts:List (Addr×List Int)) (m:Nat),xs=[.ref a]/\SqL K H a (ts.map fun x=>V.ref x.1)/\(∀x∈ts,H x.1=some (.tup (x.2.map V.int))/\x.2.length=m+1)/\ts.length<64 /\
  ∀(l:Addr) (us:List (Addr×List Int)),H l=none->us.Perm ts->us.Pairwise (fun x y=>HT.lexLt y.2 x.2=false)->Q (.ref l) (upd H l (.lst 'q'))):=by
 subst hK
 intro pins s σ H xs us Q I r h
 obtain ⟨a,ts,m,rfl,hS,ht,hn,q⟩:=h
 obtain ⟨u,rfl,ru⟩:=bR r
 cases ru
 obtain ⟨its,rv,pl,hz⟩:=I.list hS
 have ei:=iI rv
 subst ei
 refine Da FK Fj Fk (FS _) ?_
 unfold Builtin.«sorted»
 refine A3 (m:=F8 "sorted" 1 1 _) (Bc ?_)
 refine A3 (collect_list pl.isList ?_ (by rw [A2,Bo]; omega))
 refine A3 (DI ?_ (by rw [A2,Bo]; omega))
 have keep:∀b o,s.heap.get? b=some o->((s.heap.push (BE "list" #[] 0)).update 'n' (BS (·++(ts.map fun x=>Bs x.1).toArray))).get? b=some o:=fun b o e=>by
  have lt:b<'n':=Bi e
  rw [Ew _ _ _ _ (Bw lt),E1 _ _ _ (Bw lt)]
  exact e
 have I1:=I.kept (t':=s.toks) keep
 have I2:=I1.kept (t':=s.toks) fun b o e=>A6 (BE "list" (ts.map fun x=>Bs x.1).toArray 0) e
 have fa:=I1.fpOk (Bb _) (I1.hok.fresh (Bb _))
 have xa:=Cp I1.sz
 have ha:(((s.heap.push (BE "list" #[] 0)).update 'n' (BS (·++(ts.map fun x=>Bs x.1).toArray))).push (BE "list" (ts.map fun x=>Bs x.1).toArray 0)).get? ((s.heap.push (BE "list" #[] 0)).update 'n' (BS (·++(ts.map fun x=>Bs x.1).toArray))).objs.size=some (BE "list" (ts.map fun x=>Bs x.1).toArray 0):=Bj _ rfl
 generalize ((s.heap.push (BE "list" #[] 0)).update 'n' (BS (·++(ts.map fun x=>Bs x.1).toArray))).objs.size=D at fa xa ha ⊢
 have refsV:∀us:List (Addr×List Int),Vals 'q' (us.map fun x=>Bs x.1):=by
  intro us
  induction us with
  | nil=>exact .nil
  | cons x us ih=>exact .cons rfl ih
 have fin:∀(s':A9) (us:List (Addr×List Int)) (c:Nat),Inv X pins σ H s'->s'.heap.get? D=some (BE "list" (us.map fun x=>Bs x.1).toArray c)->us.Perm ts->us.Pairwise (fun x y=>HT.lexLt y.2 x.2=false)->EP X pins σ Q (.ref D) s':=fun s' us c J hD hp hw=>by
  refine ⟨.ref D,_,J.trackU (o:=.lst 'q') fa xa ⟨by rw [A2,hp.length_eq,Bo]; omega,_,c,refsV us,hD⟩,rfl,q D us fa.1 hp hw⟩
 refine A3 (B0 (Cq EI ⟨_,ha,rfl⟩ Ef ?body (E9 _)))
 case body =>
  by_cases h2:ts.length<2
  ·refine eU I2 fa xa ha (by rw [A2]; exact h2) fun h' c J hc=>⟨.none,rfl,?_⟩
   refine Bc ⟨_,rfl,fin _ ts c J hc (Dv.refl _) ?_⟩
   match ts,h2 with
   | [],_=>exact .nil
   | [x],_=>exact CZ ..
  ·have hgd:∀i,i<ts.length->(ts.map fun x=>Bs x.1).getD i .none=.ref (ts.getD i (0,[])).1:=fun i hi=>by
    rw [A7,A5,A4 hi,A7,A4 hi]
    rfl
   have hgm:∀i,i<ts.length->ts.getD i (0,[])∈ts:=fun i hi=>by
    rw [A7,A4 hi]
    exact BB hi
   have hg2:∀i,i<ts.length->(ts.map (·.2)).getD i []=(ts.getD i (0,[])).2:=fun i hi=>by
    rw [A7,A5,A4 hi,A7,A4 hi]
    rfl
   have hrk:∀i j,i<ts.length->j<ts.length->lr (eY HT.lexLt (ts.map (·.2)) []) i j=HT.lexLt (ts.getD i (0,[])).2 (ts.getD j (0,[])).2:=fun i j hi hj=>by
    rw [gG oA uc oz (by rw [A2]; exact hi) (by rw [A2]; exact hj),hg2 i hi,hg2 j hj]
   refine fX (κ:=tuples' true) (r:=eY HT.lexLt (ts.map (·.2)) []) I2 fa xa ha (by rw [A2]; omega) (by rw [A2]; exact hn) (fun s' Q' J hQ=>?_) (fun i j s' pins' hi hj J=>?_) fun s' p c J hc hpm hup=>⟨.none,rfl,?_⟩
   ·obtain ⟨fs,hl,hk,hv⟩:=oF J m ts ht
    refine kat_kind hk 'b' (T:=.type "int") (fun v hv'=>?_) 'f' hQ
    obtain ⟨k,t,rfl⟩:=hv v hv'
    exact .now
   ·rw [A2] at hi hj
    rw [hgd i hi,hgd j hj]
    obtain ⟨h1,l1⟩:=ht _ (hgm i hi)
    obtain ⟨h3,l3⟩:=ht _ (hgm j hj)
    obtain ⟨o,us,n,e1,e2,e3,e4⟩:=lU J h1
    obtain ⟨o',us',n',e1',e2',e3',e4'⟩:=lU J h3
    have hsz:decide ((Ds us).size<(Ds us').size)=false:=decide_eq_false (by
     have:=e4.length
     have:=e4'.length
     rw [Be,Be]
     omega)
    refine kat_lt e1 e3 e1' e3' ?_
    rw [hsz]
    exact kW 0 e4 e4' 'b' ⟨(hrk i j hi hj).symm,J⟩
   ·rw [A2] at hpm hup
    have hpl:p.toList.Perm (Bh ts.length):=by
     have:=hpm.toList
     simpa using this
    have hlt:∀i∈p.toList,i<ts.length:=fun i hi=>BW.mp (hpl.mem_iff.mp hi)
    have e1:(p.toList.map fun i=>(ts.map fun x=>Bs x.1).getD i .none)=(p.toList.map fun i=>ts.getD i (0,[])).map fun x=>Bs x.1:=by
     rw [BV]
     exact CH fun i hi=>hgd i (hlt i hi)
    rw [e1] at hc
    refine Bc ⟨_,rfl,fin _ _ c J hc ?_ ?_⟩
    ·refine (hpl.map _).trans (Dv.of_eq ?_)
     refine DD 'e' fun i h1 h3=>?_
     rw [Fl,DC,A7,A4 h3]
     rfl
    ·rw [Cc,DA]
     intro i j hi hj hij
     have hi':i<p.size:=by simpa using hi
     have hj':j<p.size:=by simpa using hj
     have hup':=hup i j (EM hij) (by have:=hpl.length_eq; simp at this; omega)
     unfold ky at hup'
     have gi:p.getD i 0=p.toList[i]:=by simp [Fa,hi']
     have gj:p.getD j 0=p.toList[j]:=by simp [Fa,hj']
     rw [gi,gj] at hup'
     have:=hrk p.toList[j] p.toList[i] (hlt _ (BB hj)) (hlt _ (BB hi))
     rw [<- this]
     unfold lr
     exact decide_eq_false 'b'
end
end L2
namespace L2
open PySem
theorem wj (t:By) (es:Array (Int×Value)) (h:Int) (x:Value):(layNew t es h x).2.1.led=t.led:=by
 unfold layNew
 split
 ·unfold By.orStandIn
  dsimp only
  split
  ·rfl
  ·rfl
 ·rfl
theorem pY (t:By) (es:Array (Int×Value)) (k:Nat):(Gp t es k).2.1.led=t.led/\(t.plain=false->(Gp t es k).2.1.plain=false):=by
 unfold Gp
 split
 ·rename_i t' order he
  have h2:t'.led=t.led/\t'.plain=t.plain:=by
   unfold By.relaid By.laid at he
   cases hl:By.layClean (By.sizeAbove k-1) (es.map (·.1)) with
   | none=>rw [hl] at he; cases he
   | some o=>rw [hl] at he; cases he; exact ⟨rfl,rfl⟩
  dsimp only
  split
  ·exact ⟨h2.1,fun z=>h2.2.trans z⟩
  ·exact ⟨rfl,fun _=>rfl⟩
 ·exact ⟨rfl,fun _=>rfl⟩
section
variable {prog:Program}{w:BG}{A:BC}{E:Value->A9->Prop}{s:A9}
end
theorem lq:entryFor table "set.__iter__"=some Builtin.«frozenset.__iter__»:=entryFor_alias (id':="frozenset.__iter__") (by kernel_rfl) rfl 'd' (by kernel_rfl)
theorem slot_snext:Slot "set_iterator" "__next__" "set_iterator.__next__" :=
 .of (owner:="set_iterator") (n:="__next__") (by rw [typeLookup_type,builtinLookup_eq_fast]; kernel_rfl) 'd' 'd' 'd' (by first | exact .inl 'd' | exact .inr 'd') (by rw [FT]; kernel_rfl)
theorem cB:entryFor table "set_iterator.__next__"=some Builtin.«set_iterator.__next__»:=entryFor_of_tree (by kernel_rfl)
theorem dz (a:Value):argsOk "set_iterator.__next__" ⟨[a],[]⟩:=by unfold argsOk; kernel_rfl
theorem fe {α:Type}:∀(l:List α) (i:Nat) (h:i<l.length),(l[i] :: l.eraseIdx i).Perm l
 | [],i,h=>by simp at h
 | a :: l,0,h=>Dv.refl _
 | a :: l,i+1,h=>by
  have h2:i<l.length:=by simpa using h
  rw [List.getElem_cons_succ,List.eraseIdx_cons_succ]
  exact (Dv.swap ..).trans ((fe l i h2).cons a)
theorem oj {α:Type}(next:Nat->Nat):∀(fuel k:Nat) (left:List α) (out:Array α),left.length=fuel->(EX.go next fuel k left out).toList.Perm (out.toList++left)
 | 0,k,left,out,h=>by
  unfold EX.go
  rw [List.length_eq_zero_iff.mp h,BH]
 | fuel+1,k,left,out,h=>by
  unfold EX.go
  have hl:next k % left.length<left.length:=Nat.mod_lt _ 'b'
  rw [A4 hl]
  dsimp only
  refine (oj next fuel (k+1) (left.eraseIdx (next k % left.length)) (out.push left[next k % left.length]) (by rw [List.length_eraseIdx,if_pos hl]; omega)).trans ?_
  rw [Array.toList_push,Cj]
  exact (fe _ _ hl).append_left _
theorem g8 {α:Type}(next:Nat->Nat) (xs:Array α):(EX next xs).toList.Perm xs.toList:=by
 unfold EX
 exact oj next xs.size 0 xs.toList #[] 'e'
section
variable {prog:Program}{w:BG}{A:BC}{E:Value->A9->Prop}{s:A9}
theorem pF {src:Source}{n:Nat}{Q:Nat->A9->Prop}(hn:n≠0) (h:∀i d,i<n->Q i { s with drawn:=d }):Bl (Bv prog w) A (choose src n) Q E s:=by
 intro Γ p hΓ
 show n≠0/\_
 exact ⟨hn,h _ _ (Nat.mod_lt _ 'b')⟩
theorem lB:∀(n:Nat) (xs:List Nat) (s:A9) {Q:List Nat->A9->Prop},xs.length=n->(∀r d,r.Perm xs->Q r { s with drawn:=d })->Bl (Bv prog w) A (drawOrder n xs) Q E s
 | 0,xs,s,Q,hl,h=>by
  unfold drawOrder
  exact Bc (h [] s.drawn (by rw [List.length_eq_zero_iff.mp hl]))
 | n+1,[],s,Q,hl,h=>by cases hl
 | n+1,x :: xs,s,Q,hl,h=>by
  unfold drawOrder
  refine A3 (pF 'e' fun i d hi=>?_)
  rw [A4 hi]
  dsimp only
  refine A3 (lB n ((x :: xs).eraseIdx i) { s with drawn:=d } (by rw [List.length_eraseIdx,if_pos hi]; simpa using hl) fun r d2 h1=>Bc ?_)
  exact h _ d2 ((h1.cons _).trans (fe _ _ hi))
end
section
variable {prog:Program}{w:BG}{A:BC}{E:Value->A9->Prop}{s:A9}
abbrev byT (w:BG):Bool:=w.params.followText "set-order"
theorem q_ {a:Addr}{o:Obj}{es:Array (Int×Value)}{ep:Nat}{t:By}{Q:Bool->A9->Prop}(ho:s.heap.get? a=some o) (hd:o.data=.set es ep t) (hf:t.fits es.size=true) (h:Q (!byT w&&(!t.plain&&decide (es.size > 1))) s):Bl (Bv prog w) A (setDrawn a) Q E s:=by
 unfold setDrawn
 refine A3 (Ek ho hd hf ?_)
 dsimp only
 unfold setsByText
 refine A3 (A3 (Gb (Bc ?_)))
 exact Bc h
theorem uq {a:Addr}{o:Obj}{es:Array (Int×Value)}{ep:Nat}{t:By}{Q:Value->A9->Prop}(ho:s.heap.get? a=some o) (hex:o.ExactSet) (hd:o.data=.set es ep t) (hf:t.fits es.size=true) (hz:es.size<=1000)
  (h1:(!byT w&&(!t.plain&&decide (es.size > 1)))=true->∀(pl:List Nat) (d:Drawn),pl.Perm (Bh es.size)->Q (.ref ('n'+1)) { s with heap:=(s.heap.push { cls:=.type "tuple",data:=.seq (pl.map fun (i:Nat)=>Dz i).toArray }).push { cls:=.type "set_iterator",data:=.fields #[.ref 'n',.int 0 0,.ref a,.int es.size 0,.int ep 0] },drawn:=d })
  (h2:(!byT w&&(!t.plain&&decide (es.size > 1)))=false->Q (.ref 'n') { s with heap:=s.heap.push { cls:=.type "set_iterator",data:=.fields #[.int 0 0,.int 0 0,.ref a,.int es.size 0,.int ep 0] } }) :
  Bl (Bv prog w) A (pyIter (.ref a)) Q E s:=by
 have hT:s.TypeIs (.ref a) "set":=⟨o,ho,hex.1⟩
 refine wpAny_pyIter_slot hT F.slot_set_iter (Cq F.slot_set_iter hT lq ?_ (F.args_set_iter_1 _))
 unfold Builtin.«frozenset.__iter__» Builtin.Frozenset.slot0 slotArgs
 simp only [Fm,EY,BY,↓reduceIte,bind_assoc,CI,bne_self_eq_false]
 unfold Builtin.Frozenset.addrOf Builtin.Frozenset.sizeOf
 refine A3 (Bc ?_)
 try dsimp only
 refine A3 (Bc ?_)
 refine A3 (A3 (Ez ho hd hf (Bc ?_)))
 refine A3 (q_ ho hd hf ?_)
 cases hb:(!byT w&&(!t.plain&&decide (es.size > 1))) with
 | true =>
  rw [if_pos rfl]
  refine A3 (lB es.size (Bh es.size) s (BL ..) fun pl d hm=>?_)
  have hl:pl.length=es.size:=by rw [hm.length_eq,BL]
  unfold newTuple
  refine A3 (Cr ?_ (by show (pl.map fun (i:Nat)=>Dz i).toArray.size<=_; rw [Be,A2,hl,Bo]; omega))
  have ho2:(s.heap.push { cls:=.type "tuple",data:=.seq (pl.map fun (i:Nat)=>Dz i).toArray }).get? a=some o:=A6 _ ho
  refine A3 (wpAny_setEpoch_of ho2 hd hf ?_)
  have hsz:(s.heap.push { cls:=.type "tuple",data:=.seq (pl.map fun (i:Nat)=>Dz i).toArray }).objs.size='n'+1:=C3 ..
  refine A3 (Cr (Bc ⟨_,rfl, "set_iterator",_,⟨_,Bj _ rfl,rfl⟩,slot_snext.lookup,?_⟩))
  have:=h1 hb pl d hm
  rw [<- hsz] at this
  exact this
 | false =>
  rw [if_neg Bx]
  refine A3 (Bc ?_)
  refine A3 (wpAny_setEpoch_of ho hd hf ?_)
  exact A3 (Cr (Bc ⟨_,rfl, "set_iterator",_,⟨_,Bj _ rfl,rfl⟩,slot_snext.lookup,h2 hb⟩))
def ItS (h:Heap) (I a:Addr) (first:Value) (i n ep:Nat):Prop:=h.get? I=some { cls:=.type "set_iterator",dict:=none,data:=.fields #[first,.int i 0,.ref a,.int n 0,.int ep 0],slots:=#[] }
structure SetO (h:Heap) (a:Addr) (es:Array (Int×Value)) (ep:Nat) (t:By):Prop where
 at':∃o,h.get? a=some o/\o.data=.set es ep t
 fits:t.fits es.size=true
theorem SetO.keep {h h':Heap}{a:Addr}{es:Array (Int×Value)}{ep:Nat}{t:By}(x:SetO h a es ep t) (k:∀o,h.get? a=some o->h'.get? a=some o):SetO h' a es ep t:=by
 obtain ⟨⟨o,h1,h2⟩,h3⟩:=x
 exact ⟨⟨o,k o h1,h2⟩,h3⟩
end
section
variable {prog:Program}{w:BG}{A:BC}{E:Value->A9->Prop}{s:A9}
theorem ItS.typeIs {I a:Addr}{first:Value}{i n ep:Nat}(h:ItS s.heap I a first i n ep):s.TypeIs (.ref I) "set_iterator":=⟨_,h,rfl⟩
theorem i_ {I a:Addr}{slot nx i ep:Nat}{es:Array (Int×Value)}{t:By}{x:Value}{Q:Option Value->A9->Prop}(hi:ItS s.heap I a (.int slot 0) i es.size ep) (hS:SetO s.heap a es ep t)
  (hn:∀(A:BC) (E:Value->A9->Prop) (Q':Option (Value×Nat)->A9->Prop),Q' (some (x,nx)) s->Bl (Bv prog w) A (setNext a slot i ep) Q' E s)
  (h:∀h',ItS h' I a (.int nx 0) (i+1) es.size ep->Ca I s.heap h'->Q (some x) { s with heap:=h' }):Bl (Bv prog w) A (FN (.ref I)) Q E s:=by
 obtain ⟨⟨o,ho,hd⟩,hf⟩:=hS
 unfold FN
 refine A3 (Ft (Di (name:=Df "__next__") hi.typeIs slot_snext (Cq slot_snext hi.typeIs cB ?_ (dz _))))
 unfold Builtin.«set_iterator.__next__» slotArgs
 simp only [Fm,EY,BY,↓reduceIte,bind_assoc,CI,bne_self_eq_false]
 refine A3 (Bc ?_)
 try dsimp only
 refine A3 (GD hi rfl ?_)
 dsimp only
 refine A3 (Ez ho hd hf ?_)
 simp only [bne_self_eq_false,BY,if_false]
 simp only [Cy]
 refine A3 (hn _ _ _ ?_)
 dsimp only
 refine A3 (DY hi rfl 'e' ?_)
 have g1:=Cl (Er (·.setIfInBounds 0 (Dz (nx:Int)))) hi rfl
 refine A3 (DY g1 rfl 'e' (Bc ⟨x,rfl,Bc (h _ ?_ ((Ca.update ..).trans (Ca.update ..)))⟩))
 exact Cl _ g1 rfl
theorem kt {I:Addr}{o:Obj}{vs:Array Value}{k:Nat}{Q:Option Value->A9->Prop}(hh:A.handled=none) (hi:s.heap.get? I=some o) (hd:o.data=.fields vs) (hk:k<vs.size) (h:∀h',Gh I s.heap h'->Q none { s with heap:=h' }) :
  Bl (Bv prog w) A.in1 (do setField (.ref I) k .none; let e <- newExc (.type "StopIteration") []; raiseNew e:Sem FJ) (fun fin s'=>∃v,fin=.done (.ret v)/\Bl (Bv prog w) A (pure (some v)) Q E s')
   (fun e s'=>Bl (Bv prog w) A (do let b <- isInstance e (.type "StopIteration"); if b=true then pure none else throw e) Q E s') s:=by
 refine A3 (DY hi hd hk ?_)
 refine A3 ?_
 simp only [newExc,newTuple]
 refine A3 (Cr ?_ (by size_fits))
 refine A3 (m:=firstArgMember _ _) (wpAny_of_eq (a:=CA) (by first | rfl | (simp only [firstArgMember]; rfl)) ?_)
 refine Cr ?_ (by size_fits)
 simp only [raiseNew]
 refine A3 (wpAny_handled ?_)
 rw [show A.in1.handled=none from hh]
 refine A3 (Bc (wpAny_throw ?_))
 refine A3 (wpAny_isInstance (T:="StopIteration") (b:=true) ⟨_,Bj _ rfl,rfl⟩ isSubtype_stop ?_)
 exact Bc (h _ (((Ca.update ..).extBut.push _).push _))
theorem kQ {I a:Addr}{slot i ep:Nat}{es:Array (Int×Value)}{t:By}{Q:Option Value->A9->Prop}(hh:A.handled=none) (hi:ItS s.heap I a (.int slot 0) i es.size ep) (hS:SetO s.heap a es ep t)
  (hn:∀(A:BC) (E:Value->A9->Prop) (Q':Option (Value×Nat)->A9->Prop),Q' none s->Bl (Bv prog w) A (setNext a slot i ep) Q' E s)
  (h:∀h',Gh I s.heap h'->Q none { s with heap:=h' }):Bl (Bv prog w) A (FN (.ref I)) Q E s:=by
 obtain ⟨⟨o,ho,hd⟩,hf⟩:=hS
 unfold FN
 refine A3 (Ft (Di (name:=Df "__next__") hi.typeIs slot_snext (Cq slot_snext hi.typeIs cB ?_ (dz _))))
 unfold Builtin.«set_iterator.__next__» slotArgs
 simp only [Fm,EY,BY,↓reduceIte,bind_assoc,CI,bne_self_eq_false]
 refine A3 (Bc ?_)
 try dsimp only
 refine A3 (GD hi rfl ?_)
 dsimp only
 refine A3 (Ez ho hd hf ?_)
 simp only [bne_self_eq_false,BY,if_false]
 simp only [Cy]
 refine A3 (hn _ _ _ ?_)
 dsimp only
 exact kt hh hi rfl 'e' h
theorem my {I a p:Addr}{i ep pl:Nat}{po:Obj}{ps:Array Value}{pn:Nat}{es:Array (Int×Value)}{t:By}{x:Int×Value}{Q:Option Value->A9->Prop}(hi:ItS s.heap I a (.ref p) i es.size ep) (hS:SetO s.heap a es ep t)
  (hp:s.heap.get? p=some po) (hpd:po.data=.seq ps pn) (hpi:ps[i]?=some (.int pl 0)) (hx:es[pl]?=some x)
  (h:∀h',ItS h' I a (.ref p) (i+1) es.size ep->Ca I s.heap h'->Q (some x.2) { s with heap:=h' }):Bl (Bv prog w) A (FN (.ref I)) Q E s:=by
 obtain ⟨⟨o,ho,hd⟩,hf⟩:=hS
 unfold FN
 refine A3 (Ft (Di (name:=Df "__next__") hi.typeIs slot_snext (Cq slot_snext hi.typeIs cB ?_ (dz _))))
 unfold Builtin.«set_iterator.__next__» slotArgs
 simp only [Fm,EY,BY,↓reduceIte,bind_assoc,CI,bne_self_eq_false]
 refine A3 (Bc ?_)
 try dsimp only
 refine A3 (GD hi rfl ?_)
 dsimp only
 refine A3 (Ez ho hd hf ?_)
 simp only [bne_self_eq_false,BY,if_false]
 refine A3 (wpAny_seqItems hp hpd ?_)
 simp only [Cy,hpi]
 unfold setNextDrawn
 refine A3 (A3 (Ek ho hd hf ?_))
 simp only [bne_self_eq_false,BY,if_false,hx]
 refine Bc ?_
 refine A3 (DY hi rfl 'e' (Bc ⟨x.2,rfl,Bc (h _ ?_ (Ca.update ..))⟩))
 exact Cl _ hi rfl
theorem hW {I a p:Addr}{i ep:Nat}{po:Obj}{ps:Array Value}{pn:Nat}{es:Array (Int×Value)}{t:By}{Q:Option Value->A9->Prop}(hh:A.handled=none) (hi:ItS s.heap I a (.ref p) i es.size ep) (hS:SetO s.heap a es ep t)
  (hp:s.heap.get? p=some po) (hpd:po.data=.seq ps pn) (hpi:ps[i]?=none)
  (h:∀h',Gh I s.heap h'->Q none { s with heap:=h' }):Bl (Bv prog w) A (FN (.ref I)) Q E s:=by
 obtain ⟨⟨o,ho,hd⟩,hf⟩:=hS
 unfold FN
 refine A3 (Ft (Di (name:=Df "__next__") hi.typeIs slot_snext (Cq slot_snext hi.typeIs cB ?_ (dz _))))
 unfold Builtin.«set_iterator.__next__» slotArgs
 simp only [Fm,EY,BY,↓reduceIte,bind_assoc,CI,bne_self_eq_false]
 refine A3 (Bc ?_)
 try dsimp only
 refine A3 (GD hi rfl ?_)
 dsimp only
 refine A3 (Ez ho hd hf ?_)
 simp only [bne_self_eq_false,BY,if_false]
 refine A3 (wpAny_seqItems hp hpd ?_)
 simp only [Cy,hpi]
 refine A3 (DY hi rfl 'e' ?_)
 have g1:=Cl (Er (·.setIfInBounds 0 (Dz 0))) hi rfl
 exact kt (s:={ s with heap:=s.heap.update I (Er (·.setIfInBounds 0 (Dz 0))) }) hh g1 rfl 'e' fun h' k=>h h' fun b o hb e=>k b o hb ((Ch _ _ (Co hb)).trans e)
end
theorem gR:Slot "set_iterator" "__iter__" "set_iterator.__iter__" :=
 .of (owner:="set_iterator") (n:="__iter__") (by rw [typeLookup_type,builtinLookup_eq_fast]; kernel_rfl) 'd' 'd' 'd' (by first | exact .inl 'd' | exact .inr 'd') (by rw [FT]; kernel_rfl)
theorem lj:entryFor table "set_iterator.__iter__"=some Builtin.«dict_keyiterator.__iter__» :=
 entryFor_alias (id':="dict_keyiterator.__iter__") (by kernel_rfl) (by first | rfl | decide +kernel | (unfold String.splitOn; simp +decide [String.splitOnAux])) 'd' (by kernel_rfl)
theorem m3 (a:Value):argsOk "set_iterator.__iter__" ⟨[a],[]⟩:=by unfold argsOk; kernel_rfl
section
variable {prog:Program}{w:BG}{A:BC}{E:Value->A9->Prop}{s:A9}
theorem gY {I a:Addr}{first:Value}{i n ep:Nat}{Q:Value->A9->Prop}(hi:ItS s.heap I a first i n ep) (h:Q (.ref I) s):Bl (Bv prog w) A (pyIter (.ref I)) Q E s:=by
 refine wpAny_pyIter_slot hi.typeIs gR (Cq gR hi.typeIs lj ?_ (m3 _))
 show Bl _ _ (ret (.ref I)) _ _ s
 exact Bc ⟨_,rfl, "set_iterator",_,hi.typeIs,slot_snext.lookup,h⟩
theorem lN {Q:Bool->A9->Prop}(h:Q (byT w) s):Bl (Bv prog w) A setsByText Q E s:=by
 unfold setsByText
 exact A3 (Gb (Bc h))
theorem nQ {a:Addr}{slot i ep:Nat}{es:Array (Int×Value)}{t:By}(hb:byT w=true) (hS:SetO s.heap a es ep t) (A:BC) (E:Value->A9->Prop) (Q:Option (Value×Nat)->A9->Prop)
  (h:Q ((EX (w.params.setOrder a ep) es)[i]?.map fun e=>(e.2,slot)) s):Bl (Bv prog w) A (setNext a slot i ep) Q E s:=by
 obtain ⟨⟨o,ho,hd⟩,hf⟩:=hS
 unfold setNext
 refine A3 (Ek ho hd hf ?_)
 dsimp only
 refine A3 (lN ?_)
 rw [hb,if_pos rfl]
 simp only [bne_self_eq_false,BY,if_false]
 unfold setWalk
 refine A3 (A3 (Ek ho hd hf ?_))
 dsimp only
 refine A3 (lN ?_)
 rw [hb,if_pos rfl]
 exact A3 (Gb (Bc (Bc h)))
end
theorem ItS.keep {h h':Heap}{I a:Addr}{first:Value}{i n ep:Nat}(x:ItS h I a first i n ep) (k:∀o,h.get? I=some o->h'.get? I=some o):ItS h' I a first i n ep:=k _ x
def yF (w:BG) (a:Addr) (ep:Nat) (es:Array (Int×Value)):List Value:=(EX (w.params.setOrder a ep) es).toList.map (·.2)
def vM (es:Array (Int×Value)) (pl:List Nat):List Value:=pl.map fun i=>(es.toList.map (·.2)).getD i .none
theorem qh (w:BG) (a:Addr) (ep:Nat) (es:Array (Int×Value)):(yF w a ep es).Perm (es.toList.map (·.2)):=(g8 _ es).map _
theorem i6 {es:Array (Int×Value)}{pl:List Nat}(h:pl.Perm (Bh es.size)):(vM es pl).Perm (es.toList.map (·.2)):=by
 refine (h.map _).trans (Dv.of_eq ?_)
 refine DD 'e' fun i h1 h3=>?_
 rw [Fl,DC,A7,A4 h3]
 rfl
theorem pI {prog:Program}{w:BG}{A:BC}(hh:A.handled=none) (hb:byT w=true) (I a:Addr) (hne:a≠I) (es:Array (Int×Value)) (ep:Nat) (t:By) :
  Walks prog w A I [I,a] [I] es.size (fun i v=>(yF w a ep es)[i]?=some v) (fun i h=>ItS h I a (.int 0 0) i es.size ep/\SetO h a es ep t) where
 sub:=fun b hb=>by simp at hb; simp [hb]
 frame:=fun _ _ _ st hk=>⟨st.1.keep fun o e=>hk I 'e' o e,st.2.keep fun o e=>hk a 'e' o e⟩
 item:=fun i s Q E hi st hQ=>by
  have p1:(EX (w.params.setOrder a ep) es).size=es.size:=by have:=(g8 (w.params.setOrder a ep) es).length_eq; simpa using this
  have hi':i<(EX (w.params.setOrder a ep) es).size:=by rw [p1]; exact hi
  refine i_ (slot:=0) (nx:=0) (x:=(EX (w.params.setOrder a ep) es)[i].2) st.1 st.2 (fun A E Q' h=>nQ hb st.2 A E Q' (by rw [CK hi']; exact h)) fun h' it' sb=>?_
  exact hQ _ h' s.toks (by unfold yF; rw [A5,FZ,CK hi']; rfl) ⟨it',st.2.keep fun o e=>sb.extBut a o hne e⟩ fun b o hb e=>sb.extBut b o (fun h=>hb (by simp [h])) e
 done:=fun s Q E st hQ=>by
  have p1:(EX (w.params.setOrder a ep) es).size=es.size:=by have:=(g8 (w.params.setOrder a ep) es).length_eq; simpa using this
  exact kQ (slot:=0) hh st.1 st.2 (fun A E Q' h=>nQ hb st.2 A E Q' (by rw [Array.getElem?_eq_none 'b']; exact h)) fun h' eb=>hQ h' s.toks fun b o hb e=>eb b o (fun h=>hb (by simp [h])) e
 self:=fun _ _ _ _ st hQ=>gY st.1 hQ
theorem lP {prog:Program}{w:BG}{A:BC}(hh:A.handled=none) (I a p:Addr) (hne:a≠I) (hnp:p≠I) (es:Array (Int×Value)) (ep:Nat) (t:By) (pl:List Nat) (hpl:pl.Perm (Bh es.size)) :
  Walks prog w A I [I,a,p] [I] es.size (fun i v=>(vM es pl)[i]?=some v) (fun i h=>ItS h I a (.ref p) i es.size ep/\SetO h a es ep t/\∃po pn,h.get? p=some po/\po.data=.seq (pl.map fun (i:Nat)=>Dz i).toArray pn) where
 sub:=fun b hb=>by simp at hb; simp [hb]
 frame:=fun _ _ _ st hk=>⟨st.1.keep fun o e=>hk I 'e' o e,st.2.1.keep fun o e=>hk a 'e' o e,by
  obtain ⟨po,pn,h1,h2⟩:=st.2.2
  exact ⟨po,pn,hk p 'e' _ h1,h2⟩⟩
 item:=fun i s Q E hi st hQ=>by
  obtain ⟨st1,st2,po,pn,h1,h2⟩:=st
  have hl:pl.length=es.size:=by rw [hpl.length_eq,BL]
  have hi':i<pl.length:=by omega
  have hx:=BW.mp (hpl.mem_iff.mp (BB hi'))
  refine my (pl:=pl[i]) (x:=es[pl[i]]) st1 st2 h1 h2 (by simp [hi',Dz]) (by simp [hx]) fun h' it' sb=>?_
  refine hQ _ h' s.toks ?_ ⟨it',st2.keep fun o e=>sb.extBut a o hne e,po,pn,sb.extBut p _ hnp h1,h2⟩ fun b o hb e=>sb.extBut b o (fun h=>hb (by simp [h])) e
  unfold vM
  rw [A5,A4 hi']
  simp [A7,hx]
 done:=fun s Q E st hQ=>by
  obtain ⟨st1,st2,po,pn,h1,h2⟩:=st
  have hl:pl.length=es.size:=by rw [hpl.length_eq,BL]
  exact hW hh st1 st2 h1 h2 (by simp [hl]) fun h' eb=>hQ h' s.toks fun b o hb e=>eb b o (fun h=>hb (by simp [h])) e
 self:=fun _ _ _ _ st hQ=>gY st.1 hQ
theorem rL:isSubtype (.type "set") (.type "set")=pure true:=by rw [FT]; kernel_rfl
section
variable {prog:Program}{w:BG}{A:BC}{E:Value->A9->Prop}{s:A9}
end
theorem im:entryFor table "set.update.loop"=some Builtin.«set.update.loop»:=entryFor_of_tree (by kernel_rfl)
theorem eZ:plainId "set.update.loop"=true:=by decide +kernel
section
variable {prog:Program}{w:BG}{A:BC}{R:GI->A9->Prop}{I:Addr}{fp wr:List Addr}{G:Array FM->Array FM->Prop}{n:Nat}{P:Nat->Value->Prop}{St:Nat->A9->Prop}
end
theorem lV (a:Value):checkTypeCall "set" ⟨[a],[]⟩=pure ():=by kernel_rfl
theorem mz (a:Value):Fe "set.__new__" ⟨[.type "set",a],[]⟩=pure ():=by kernel_rfl
theorem rM:isSubtype (.type "list") (.type "set")=pure false:=by rw [FT]; kernel_rfl
theorem pP:isSubtype (.type "list") (.type "frozenset")=pure false:=by rw [FT]; kernel_rfl
abbrev cD (w:BG):Obj:={ cls:=.type "set",dict:=none,data:=.set #[] 0 (.fresh 0 0 (!byT w)) }
section
variable {prog:Program}{w:BG}{A:BC}{E:Value->A9->Prop}{s:A9}
theorem tV (a:Value) {Q₁:Value->A9->Prop}(h:Q₁ (.ref 'n') { s with heap:=s.heap.push (cD w) }):Ev (Bv prog w) A (.call (.builtin "set.__new__") ⟨[.type "set",a],[]⟩) (wants Q₁ E) s:=by
 refine codeAny_of_tree ?_
 show Bl _ A.in1 (do Fe "set.__new__" ⟨[.type "set",a],[]⟩; again (.builtin "set.__new__" ⟨[.type "set",a],[]⟩)) _ _ s
 refine A3 (wpAny_of_eq (mz a) (Bc ⟨Fu F.plain_set_new _,DN F.entry_set_new ?_⟩))
 rw [BC.under_plainId F.plain_set_new _]
 unfold Builtin.«set.__new__» Builtin.Frozenset.newClass
 have hsub:=sub_set_self
 obtain ⟨hp,g,d,tk,os⟩:=s
 dsimp only
 wp_walk
 refine Gb (Bc ?_)
 dsimp only
 simp only [newObj]
 refine A3 (wpAny_alloc (Bc ?_))
 exact Bc h
theorem qz {M:Model}{self a:Value}{Q:Unit->A9->Prop}(hT:s.TypeIs self "set") (hQ:Q () s):Bl M A (Fe "set.__init__" ⟨[self,a],[]⟩) Q E s:=by
 simp only [Fe,kind_set_init,split_set_init,sig_set_init]
 refine A3 (wpAny_isInstance hT sub_set_self ?_)
 simp only [EY,BY,if_false]
 unfold Bind.checkArgs
 dsimp only
 refine A3 (m:=Bind.printed "set" true _ _) (PyProof.Rows.printed_name 'f' ?_)
 refine A3 (m:=Bind.printed "*" false _ _) (PyProof.Rows.printed_star (self:=self) rfl hT fun short=>?_)
 have hk1:(D7.posOnly == D7.posOnly)=true:=by decide
 have hk2:(D7.posOnly == D7.posOrKw)=false:=by decide
 have hk3:(D7.posOnly == D7.varPos)=false:=by decide
 have hrn:(FU.self == FU.none)=false:=by decide
 have hn:(if (FU.self == FU.none)=true then [self,a].length else [self,a].length-1)=1:=by simp [hrn]
 rw [hn]
 simp only [FP]
 have hc:Bind.check ⟨.positional, "set", "*",.self,[⟨"iterable",.posOnly,false⟩]⟩ "set" short 1 []=pure ():=by simp [Bind.check,Bind.checkCount,Bind.isPositional,hk1,hk2,hk3]
 rw [hc]
 exact Bc hQ
end
end L2
namespace L2
open PySem PySem.Spec PyProof.Rows PySem.W KS
def ltS (a b:Str):Bool:=decide (a.cps.toList<b.cps.toList)
theorem jS (a:Str):ltS a a=false:=decide_eq_false (List.lt_irrefl _)
theorem ua (a b c:Str) (h1:ltS a b=true) (h2:ltS b c=true):ltS a c=true:=decide_eq_true (List.lt_trans (of_decide_eq_true h1) (of_decide_eq_true h2))
theorem ow:∀x y z:List Nat,x<z->x<y\/y<z
 | [],[],z,h=>.inr h
 | [],_ :: _,z,_=>.inl (List.nil_lt_cons ..)
 | _ :: _,_,[],h=>absurd h (List.not_lt_nil _)
 | _ :: _,[],_ :: _,_=>.inr (List.nil_lt_cons ..)
 | a :: x,b :: y,c :: z,h=>by
  rw [F0] at h
  rw [F0,F0]
  rcases Nat.lt_trichotomy a b with hab | hab | hab
  ·exact .inl (.inl hab)
  ·subst hab
   rcases h with h | ⟨h1,h2⟩
   ·exact .inr (.inl h)
   ·subst h1
    rcases ow x y z h2 with h | h
    ·exact .inl (.inr ⟨rfl,h⟩)
    ·exact .inr (.inr ⟨rfl,h⟩)
  ·rcases h with h | ⟨h1,h2⟩
   ·exact .inr (.inl 'b')
   ·exact .inr (.inl 'b')
theorem oy (a b c:Str) (h:ltS a c=true):ltS a b=true\/ltS b c=true:=by
 rcases ow _ _ _ (of_decide_eq_true h) with h | h
 ·exact .inl (decide_eq_true h)
 ·exact .inr (decide_eq_true h)
theorem Inv.same {X:Cx}{pins:'m'}{σ:St}{H:Hp}{s s':A9}(I:Inv X pins σ H s) (kp:∀b o,s.heap.get? b=some o->s'.heap.get? b=some o) (eg:s'.gens=s.gens) (eo:s'.os=s.os):Inv X pins σ H s':=by
 have J:=I.kept (t':=s'.toks) kp
 exact ⟨J.ok,eo.trans J.os,by rw [eg]; exact J.bare,J.base,J.loc,J.cell,J.free,J.freeC,J.pin,J.hok,J.len⟩
def rC (K:Ba) (te:TE):TE:=fun σ H Q=>te σ H fun x H1=>∃(a:Addr) (ss:List Str),x=.ref a/\SqL K H1 a (ss.map V.str)/\ss.length<64/\∀(D:Addr) (us:List Str),H1 D=none->us.length<=ss.length->us.Nodup->(∀x,x∈us↔x∈ss)->us.Pairwise (fun x y=>ltS y x=false)->Q (.ref D) (upd H1 D (.lst (us.map V.str)))
section
variable {X:Cx}
end
end L2
namespace L2
open PySem PySem.Spec PyProof.Rows
theorem funT_of {K:Ba}{x:Str}{st:Stmt}{f c T:Addr}{oc:Value}{od an:Option Addr}{osl:Array (Option Value)}{kV doc pm cdv ct:Value}(a:BN K BA x=some (some (.ref f)))
  (l:K.lookup f=some ⟨oc,od,.func (DG x x (bY st) (bF st) (aj st) .none kV doc pm an cdv ct),osl⟩) (cI:E6 K cdv x=true) (k:DX K (.ref f)=true) (e:cdv=.ref c) (h:F9 K c T=true):wR K x st c T :=
 ⟨h,f,_,a,mQ l cI k,e⟩
theorem gg:∀{ns:List Int}{us:List Value},Vals (ns.map V.int) us->DQ us ns
 | [],[],_=>.nil
 | n :: ns,u :: us,h=>by
  cases h with
  | cons r t =>
   obtain ⟨k,rfl⟩:=r
   exact .cons n k (gg t)
theorem mY {X:Cx}{K:Ba}(hK:X.K=K):bz X (.builtin "sorted") (fun xs H Q=>∃(a:Addr) (ns:List Int),xs=[.ref a]/\SqL K H a (ns.map V.int)/\ns.length<64 /\
  ∀(l:Addr) (ms:List Int),H l=none->ms.Perm ns->ms.Pairwise (·<=·)->Q (.ref l) (upd H l (.lst (ms.map V.int)))):=by
 subst hK
 intro pins s σ H xs us Q I r h
 obtain ⟨a,ns,rfl,hS,hn,q⟩:=h
 obtain ⟨u,rfl,ru⟩:=bR r
 cases ru
 obtain ⟨its,rv,pl,hz⟩:=I.list hS
 have hlen:its.length=ns.length:=by rw [<- rv.length,A2]
 refine sorted_ints (vs:=its) pl.isList (gg rv) 'b' fun out ms h1 h2 h3=>?_
 have hsz:((s.heap.push (BE "list" #[] 0)).update 'n' (BS (·++its.toArray))).objs.size='n'+1:=by rw [Heap.size_update,size_push']
 have hoL:(((s.heap.push (BE "list" #[] 0)).update 'n' (BS (·++its.toArray))).push (BE "list" its.toArray 0)).get? ('n'+1)=some (BE "list" its.toArray 0):=by
  rw [<- hsz]; exact Bj _ rfl
 obtain ⟨c,hc⟩:=sortedHeap_at (vs:=its) (out:=out) hoL
 have keep:∀b o,s.heap.get? b=some o->(sortedAll s.heap its out).get? b=some o:=fun b o e=>by
  have lt:b<'n':=Bi e
  have lt2:b<(((s.heap.push (BE "list" #[] 0)).update 'n' (BS (·++its.toArray))).push (BE "list" its.toArray 0)).objs.size:=by
   rw [size_push',hsz]; exact Ct (Ct lt)
  refine (sortedHeap_old (Bw (Ct lt)) lt2).trans ?_
  rw [E1 _ _ _ (by rw [hsz]; exact Bw (Ct lt)),Ew _ _ _ _ (Bw lt),E1 _ _ _ (Bw lt)]
  exact e
 have hml:ms.length=ns.length:=h2.length_eq
 have hfr:H ('n'+1)=none:=I.hok.fresh (Dd _)
 refine ⟨.ref ('n'+1),_,I.laid (t':=s.toks) keep (Dd _) (show ObjOk X.prog X.w _ _ _ (.lst (ms.map V.int)) from ⟨by rw [A2,hml,Bo]; omega,out.toList,c,d_ h1,by rw [Array.toArray_toList]; exact hc⟩),rfl,q _ ms hfr h2 h3⟩
end L2
namespace L2
open PySem PySem.Spec PyProof.Rows PySem.W KS
structure SK (κ:Type) where
 mv:κ->V
 val:κ->Tok->Value
 lt:κ->κ->Bool
 d0:κ
 irr:∀a,lt a a=false
 tr:∀a b c,lt a b=true->lt b c=true->lt a c=true
 tot:∀a b c,lt a c=true->lt a b=true\/lt b c=true
 rel:∀k u,RelV (mv k) u->∃t,u=val k t
 ler:∀k t,RelV (mv k) (val k t)
 kind:∀{ks:List κ}{v₁ v₂:Value}{vs:List Value},Vals (ks.map mv) (v₁ :: v₂ :: vs)->keyKind' (v₁ :: v₂ :: vs).toArray=pure oneType'
 one:∀{prog:Program}{w:BG}{A:BC}{E:Value->A9->Prop}{s:A9}{a b:κ}{t u:Tok}{Q:Bool->A9->Prop},Q (lt a b) s->Bl (Bv prog w) A (oneLt' true (val a t) (val b u)) Q E s
theorem iP:∀{ks:List Str}{vs:List Value},Vals (ks.map V.str) vs->StrsAre vs ks
 | [],[],_=>.nil
 | k :: ks,v :: vs,h=>by
  cases h with
  | cons r t =>
   obtain ⟨x,rfl⟩:=r
   exact .cons k x (iP t)
def skS:SK Str:=⟨V.str,fun k t=>.str k t,ltS, "",jS,ua,oy,fun _ _ h=>h,fun _ t=>⟨t,rfl⟩,fun h=>keyKind_strs (iP h),fun h=>oneLt_str h⟩
def ltI (a b:Int):Bool:=decide (a<b)
theorem wb (a:Int):ltI a a=false:=decide_eq_false 'b'
theorem yV (a b c:Int) (h1:ltI a b=true) (h2:ltI b c=true):ltI a c=true:=decide_eq_true (Int.lt_trans (of_decide_eq_true h1) (of_decide_eq_true h2))
theorem wa (a b c:Int) (h:ltI a c=true):ltI a b=true\/ltI b c=true:=by
 have h:=of_decide_eq_true h
 by_cases z:a<b
 ·exact .inl (decide_eq_true z)
 ·exact .inr (decide_eq_true 'b')
def skI:SK Int:=⟨V.int,fun k t=>.int k t,ltI,0,wb,yV,wa,fun _ _ h=>h,fun _ t=>⟨t,rfl⟩,fun h=>keyKind_ints (gg h),fun h=>oneLt_int h⟩
section
variable {X:Cx}{pins:'m'}{σ:St}{H:Hp}{s:A9}
theorem fY {κ:Type}(S:SK κ) {A:BC}{E:Value->A9->Prop}{a:Addr}{ks:List κ}{vs:List Value}{n:Nat}{P:FJ->A9->Prop}(I:Inv X pins σ H s) (fa:bU X pins H a) (xa:X.s₀.heap.get? a=none) (ha:s.heap.get? a=some (BE "list" vs.toArray n))
  (hkv:Vals (ks.map S.mv) vs) (h64:ks.length<64)
  (h:∀(s':A9) (us:List κ) (ws:List Value) (c:Nat),Inv X pins σ H s'->Vals (us.map S.mv) ws->s'.heap.get? a=some (BE "list" ws.toArray c)->us.Perm ks->us.Pairwise (fun x y=>S.lt y x=false)->P (.done (.ret .none)) s') :
  Bl (Bv X.prog X.w) A (Builtin.«list.sort» ⟨[.ref a],[]⟩) P E s:=by
 have hkl:ks.length=vs.length:=by rw [<- hkv.length,A2]
 by_cases h2:vs.length<2
 ·refine eU I fa xa ha h2 fun h' c J hc=>h _ ks vs c J hkv hc (Dv.refl _) ?_
  match ks,(by omega:ks.length<2) with
  | [],_=>exact .nil
  | [x],_=>exact CZ ..
 ·have hat:∀i,i<vs.length->∃t,vs.getD i .none=S.val (ks.getD i S.d0) t:=fun i hi=>by
   obtain ⟨u,hu,ru⟩:=hkv.get (i:=i) (x:=S.mv (ks[i]' 'b')) (by rw [A5,A4 'b']; rfl)
   obtain ⟨t,rfl⟩:=S.rel _ _ ru
   exact ⟨t,by rw [A7,hu,A7,A4 'b']; rfl⟩
  refine fX (κ:=oneType') (r:=eY S.lt ks S.d0) I fa xa ha 'b' 'b' (fun s' Q' J hQ=>?_) (fun i j s' pins' hi hj J=>?_) fun s' p c J hc hpm hup=>?_
  ·obtain ⟨v₁,v₂,rest,rfl⟩:∃v₁ v₂ rest,vs=v₁ :: v₂ :: rest:=by
    match vs,h2 with
    | [],h2=>exact absurd (show 0<2 by decide) h2
    | [_],h2=>exact absurd (show 1<2 by decide) h2
    | v₁ :: v₂ :: rest,_=>exact ⟨v₁,v₂,rest,rfl⟩
   rw [S.kind hkv]
   exact Bc hQ
  ·obtain ⟨t,e1⟩:=hat i hi
   obtain ⟨t',e2⟩:=hat j hj
   rw [e1,e2,keyLt'_oneType]
   refine S.one ⟨?_,J⟩
   rw [gG S.irr S.tr S.tot 'b' 'b']
  ·have hpl:p.toList.Perm (Bh vs.length):=by
    have:=hpm.toList
    simpa using this
   have hlt:∀i∈p.toList,i<vs.length:=fun i hi=>BW.mp (hpl.mem_iff.mp hi)
   refine h _ (p.toList.map fun i=>ks.getD i S.d0) _ c J ?_ hc ?_ ?_
   ·generalize p.toList=js at hlt
    clear hpl
    induction js with
    | nil=>exact .nil
    | cons i js ih =>
     obtain ⟨t,e1⟩:=hat i (hlt i (Bq ..))
     exact .cons (by show RelV (S.mv (ks.getD i S.d0)) (vs.getD i .none); rw [e1]; exact S.ler _ t) (ih fun k hk=>hlt k (Br _ hk))
   ·refine (hpl.map _).trans (Dv.of_eq ?_)
    refine DD (by simp; omega) fun i h1 h3=>?_
    rw [Fl,DC,A7,A4 h3]
    rfl
   ·rw [Cc,DA]
    intro i j hi hj hij
    have hi':i<p.size:=by simpa using hi
    have hj':j<p.size:=by simpa using hj
    have hup':=hup i j (EM hij) (by have:=hpl.length_eq; simp at this; omega)
    unfold ky at hup'
    have gi:p.getD i 0=p.toList[i]:=by simp [Fa,hi']
    have gj:p.getD j 0=p.toList[j]:=by simp [Fa,hj']
    rw [gi,gj] at hup'
    have hi2:=hlt _ (BB hi)
    have hj2:=hlt _ (BB hj)
    rw [<- gG S.irr S.tr S.tot (xs:=ks) (d:=S.d0) (i:=p.toList[j]) (j:=p.toList[i]) 'b' 'b']
    unfold lr
    exact decide_eq_false 'b'
end
theorem qq {a b:Str}(h1:ltS a b=false) (h2:ltS b a=false):a=b:=by
 have h1:=of_decide_eq_false h1
 have h2:=of_decide_eq_false h2
 have e:a.cps.toList=b.cps.toList:=List.le_antisymm (List.not_lt.mp h2) (List.not_lt.mp h1)
 cases a
 cases b
 congr
 exact Ga.mp e
def ltP (a b:Str×Int):Bool:=ltS a.1 b.1||(decide (a.1=b.1)&&decide (a.2<b.2))
theorem v_ (a:Str×Int):ltP a a=false:=by
 unfold ltP
 rw [jS,decide_eq_false (show ¬ a.2<a.2 by omega),GA]
 rfl
theorem fG {a b:Str×Int}(h:a.1=b.1):ltP a b=decide (a.2<b.2):=by
 unfold ltP
 rw [h,jS,decide_eq_true rfl]
 rfl
theorem gf {a b:Str×Int}(h:¬ a.1=b.1):ltP a b=ltS a.1 b.1:=by
 unfold ltP
 rw [decide_eq_false h]
 simp
theorem jT {a b:Str×Int}:ltP a b=true↔ltS a.1 b.1=true\/(a.1=b.1/\a.2<b.2):=by
 unfold ltP
 simp
theorem yU (a b c:Str×Int) (h1:ltP a b=true) (h2:ltP b c=true):ltP a c=true:=by
 rw [jT] at *
 rcases h1 with h1 | ⟨e1,h1⟩ <;> rcases h2 with h2 | ⟨e2,h2⟩
 ·exact .inl (ua _ _ _ h1 h2)
 ·exact .inl (e2 ▸ h1)
 ·exact .inl (e1 ▸ h2)
 ·exact .inr ⟨e1.trans e2,by omega⟩
theorem v9 (a b c:Str×Int) (h:ltP a c=true):ltP a b=true\/ltP b c=true:=by
 rw [jT] at *
 rw [jT]
 by_cases e:a.1=b.1
 ·rcases h with h | ⟨e',h⟩
  ·exact .inr (.inl (e ▸ h))
  ·by_cases z:a.2<b.2
   ·exact .inl (.inr ⟨e,z⟩)
   ·exact .inr (.inr ⟨e.symm.trans e',by omega⟩)
 ·rcases h with h | ⟨e',h⟩
  ·rcases oy _ b.1 _ h with z | z
   ·exact .inl (.inl z)
   ·exact .inr (.inl z)
  ·by_cases z:ltS a.1 b.1=true
   ·exact .inl (.inl z)
   ·by_cases z':ltS b.1 c.1=true
    ·exact .inr (.inl z')
    ·exact absurd (qq (by simpa using z) (by rw [<- e'] at z'; simpa using z')) e
section
variable {X:Cx}{pins:'m'}{σ:St}{H:Hp}{s:A9}
theorem gL:∀(us:List (Addr×Str×Int)) {H:Hp}(I:Inv X pins σ H s),(∀x∈us,bU X pins H x.1/\X.s₀.heap.get? x.1=none/\∃t t',s.heap.get? x.1=some { cls:=.type "tuple",data:=.seq #[.str x.2.1 t,.int x.2.2 t'] })->us.Pairwise (fun x y=>x.1≠y.1) ->
  ∃H2,Inv X pins σ H2 s/\Same H H2/\(∀x∈us,H2 x.1=some (.tup [.str x.2.1,.int x.2.2]))/\∀b,H b=none->(∀x∈us,b≠x.1)->H2 b=none
 | [],H,I,_,_=>⟨H,I,Same.refl _,(fun x hx=>nomatch hx),fun b h _=>h⟩
 | x :: us,H,I,h,hp=>by
  obtain ⟨f,hx,t,t',ho⟩:=h x (Bq ..)
  have I1:=I.trackU (o:=.tup [.str x.2.1,.int x.2.2]) f hx ⟨by show 2<=sizeLine; decide,[.str x.2.1 t,.int x.2.2 t'],.cons ⟨t,rfl⟩ (.cons ⟨t',rfl⟩ .nil),_,ho,rfl,_,rfl⟩
  obtain ⟨h1,h2⟩:=CF.mp hp
  obtain ⟨H2,I2,s2,m2,n2⟩:=gL us I1 (fun y hy=>by
   obtain ⟨g,gx,gt⟩:=h y (Br _ hy)
   exact ⟨⟨by rw [ah (Co (h1 y hy))]; exact g.1,g.2⟩,gx,gt⟩) h2
  refine ⟨H2,I2,(Same.new f.1 _).trans s2,fun y hy=>?_,fun b hb hn=>n2 b (by rw [ah (hn x (Bq ..))]; exact hb) fun y hy=>hn y (Br _ hy)⟩
  rcases Bp.mp hy with rfl | hy
  ·exact s2 _ _ ac
  ·exact m2 y hy
theorem g9 (I:Inv X pins σ H s) {x:Addr×Str×Int}(h:H x.1=some (.tup [.str x.2.1,.int x.2.2])):∃o n t t',s.heap.get? x.1=some o/\o.cls=.type "tuple"/\o.data=.seq #[.str x.2.1 t,.int x.2.2 t'] n:=by
 obtain ⟨_,its,rv,o,h1,h2,n,h3⟩:=(show ObjOk X.prog X.w H s.heap x.1 (.tup [.str x.2.1,.int x.2.2]) from I.hok _ _ h)
 cases rv with
 | cons r1 rv =>
  cases rv with
  | cons r2 rv =>
   cases rv
   obtain ⟨t,rfl⟩:=r1
   obtain ⟨t',rfl⟩:=r2
   exact ⟨o,n,t,t',h1,h2,h3⟩
theorem je (I:Inv X pins σ H s):∀(ts:List (Addr×Str×Int)),(∀x∈ts,H x.1=some (.tup [.str x.2.1,.int x.2.2]))->∃fs:List Value,fs.length=ts.length/\KatTups s.heap (ts.map fun x=>Bs x.1) fs/\∀v∈fs,∃k t,v=.str k t
 | [],_=>⟨[],rfl,.nil,fun v hv=>nomatch hv⟩
 | x :: ts,h=>by
  obtain ⟨fs,hl,hk,hv⟩:=je I ts fun y hy=>h y (Br _ hy)
  obtain ⟨o,n,t,t',e1,e2,e3⟩:=g9 I (h x (Bq ..))
  refine ⟨.str x.2.1 t :: fs,by simp [hl],.cons e1 e2 e3 'e' hk,fun v hv'=>?_⟩
  rcases Bp.mp hv' with rfl | hv'
  ·exact ⟨_,t,rfl⟩
  ·exact hv v hv'
theorem gu {A:BC}{E:Value->A9->Prop}{a:Addr}{ts:List (Addr×Str×Int)}{n:Nat}{P:FJ->A9->Prop}(I:Inv X pins σ H s) (fa:bU X pins H a) (xa:X.s₀.heap.get? a=none) (ha:s.heap.get? a=some (BE "list" (ts.map fun x=>Bs x.1).toArray n))
  (ht:∀x∈ts,H x.1=some (.tup [.str x.2.1,.int x.2.2])) (h64:ts.length<64)
  (h:∀(s':A9) (us:List (Addr×Str×Int)) (c:Nat),Inv X pins σ H s'->s'.heap.get? a=some (BE "list" (us.map fun x=>Bs x.1).toArray c)->us.Perm ts->us.Pairwise (fun x y=>ltP y.2 x.2=false)->P (.done (.ret .none)) s') :
  Bl (Bv X.prog X.w) A (Builtin.«list.sort» ⟨[.ref a],[]⟩) P E s:=by
 by_cases h2:ts.length<2
 ·refine eU I fa xa ha (by rw [A2]; exact h2) fun h' c J hc=>h _ ts c J hc (Dv.refl _) ?_
  match ts,h2 with
  | [],_=>exact .nil
  | [x],_=>exact CZ ..
 ·have hgd:∀i,i<ts.length->(ts.map fun x=>Bs x.1).getD i .none=.ref (ts.getD i (0, "",0)).1:=fun i hi=>by
   rw [A7,A5,A4 hi,A7,A4 hi]
   rfl
  have hgm:∀i,i<ts.length->ts.getD i (0, "",0)∈ts:=fun i hi=>by
   rw [A7,A4 hi]
   exact BB hi
  have hg2:∀i,i<ts.length->(ts.map fun x=>x.2).getD i (("":Str),(0:Int))=(ts.getD i (0, "",0)).2:=fun i hi=>by
   rw [A7,A5,A4 hi,A7,A4 hi]
   rfl
  have hrk:∀i j,i<ts.length->j<ts.length->lr (eY ltP (ts.map fun x=>x.2) (("":Str),(0:Int))) i j=ltP (ts.getD i (0, "",0)).2 (ts.getD j (0, "",0)).2:=fun i j hi hj=>by
   rw [gG v_ yU v9 (by rw [A2]; exact hi) (by rw [A2]; exact hj),hg2 i hi,hg2 j hj]
  refine fX (κ:=tuples' true) (r:=eY ltP (ts.map fun x=>x.2) (("":Str),(0:Int))) I fa xa ha (by rw [A2]; omega) (by rw [A2]; exact h64) (fun s' Q' J hQ=>?_) (fun i j s' pins' hi hj J=>?_) fun s' p c J hc hpm hup=>?_
  ·obtain ⟨fs,hl,hk,hv⟩:=je J ts ht
   refine kat_kind hk 'b' (T:=.type "str") (fun v hv'=>?_) 'f' hQ
   obtain ⟨k,t,rfl⟩:=hv v hv'
   exact .now
  ·rw [A2] at hi hj
   rw [hgd i hi,hgd j hj]
   obtain ⟨o,n1,t,u,e1,e2,e3⟩:=g9 J (ht _ (hgm i hi))
   obtain ⟨o',n1',t',u',e1',e2',e3'⟩:=g9 J (ht _ (hgm j hj))
   refine kat_lt e1 e3 e1' e3' ?_
   refine kat_cons (eqBool_str ?_)
   refine kat_go (fun e=>?_) (fun e=>?_)
   ·have e:(ts.getD i (0, "",0)).2.1=(ts.getD j (0, "",0)).2.1:=eq_of_beq e
    refine kat_yes (kat_cons (wpAny_eqBool_int ?_))
    refine kat_go (fun e'=>?_) (fun e'=>?_)
    ·refine kat_yes (kat_nil ⟨?_,J⟩)
     have e':(ts.getD i (0, "",0)).2.2=(ts.getD j (0, "",0)).2.2:=eq_of_beq e'
     rw [hrk i j hi hj,fG e,e']
     exact (decide_eq_false (Int.lt_irrefl _)).symm
    ·refine kat_no (ot ?_)
     refine ⟨?_,J⟩
     rw [hrk i j hi hj,fG e]
   ·have e:¬ (ts.getD i (0, "",0)).2.1=(ts.getD j (0, "",0)).2.1:=fun z=>by rw [z] at e; simp at e
    refine kat_no (oneLt_str ⟨?_,J⟩)
    rw [hrk i j hi hj,gf e]
    rfl
  ·rw [A2] at hpm hup
   have hpl:p.toList.Perm (Bh ts.length):=by
    have:=hpm.toList
    simpa using this
   have hlt:∀i∈p.toList,i<ts.length:=fun i hi=>BW.mp (hpl.mem_iff.mp hi)
   have e1:(p.toList.map fun i=>(ts.map fun x=>Bs x.1).getD i .none)=(p.toList.map fun i=>ts.getD i (0, "",0)).map fun x=>Bs x.1:=by
    rw [BV]
    exact CH fun i hi=>hgd i (hlt i hi)
   rw [e1] at hc
   refine h _ _ c J hc ?_ ?_
   ·refine (hpl.map _).trans (Dv.of_eq ?_)
    refine DD 'e' fun i h1 h3=>?_
    rw [Fl,DC,A7,A4 h3]
    rfl
   ·rw [Cc,DA]
    intro i j hi hj hij
    have hi':i<p.size:=by simpa using hi
    have hj':j<p.size:=by simpa using hj
    have hup':=hup i j (EM hij) (by have:=hpl.length_eq; simp at this; omega)
    unfold ky at hup'
    have gi:p.getD i 0=p.toList[i]:=by simp [Fa,hi']
    have gj:p.getD j 0=p.toList[j]:=by simp [Fa,hj']
    rw [gi,gj] at hup'
    have:=hrk p.toList[j] p.toList[i] (hlt _ (BB hj)) (hlt _ (BB hi))
    rw [<- this]
    unfold lr
    exact decide_eq_false 'b'
theorem l_ {A:BC}{E:Value->A9->Prop}{a:Addr}{ts:List (Addr×Str×Int)}{n:Nat}{P:FJ->A9->Prop}(I:Inv X pins σ H s) (fa:bU X pins H a) (xa:X.s₀.heap.get? a=none) (ha:s.heap.get? a=some (BE "list" (ts.map fun x=>Bs x.1).toArray n))
  (ht:∀x∈ts,H x.1=some (.tup [.str x.2.1,.int x.2.2])) (hnd:(ts.map fun x=>x.2.1).Nodup) (h64:ts.length<64)
  (h:∀(s':A9) (us:List (Addr×Str×Int)) (c:Nat),Inv X pins σ H s'->s'.heap.get? a=some (BE "list" (us.map fun x=>Bs x.1).toArray c)->us.Perm ts->us.Pairwise (fun x y=>ltS y.2.1 x.2.1=false)->P (.done (.ret .none)) s') :
  Bl (Bv X.prog X.w) A (Builtin.«list.sort» ⟨[.ref a],[]⟩) P E s:=gu I fa xa ha ht h64 fun s' us c J hc hp hw=>h s' us c J hc hp (hw.imp fun z=>by
 unfold ltP at z
 exact (Bool.or_eq_false_iff.mp z).1)
theorem l9 {A:BC}{E:Value->A9->Prop}{a:Addr}{ks:List Str}{vs:List Value}{n:Nat}{P:FJ->A9->Prop}(I:Inv X pins σ H s) (fa:bU X pins H a) (xa:X.s₀.heap.get? a=none) (ha:s.heap.get? a=some (BE "list" vs.toArray n))
  (hkv:Vals (ks.map V.str) vs) (h64:ks.length<64)
  (h:∀(s':A9) (us:List Str) (ws:List Value) (c:Nat),Inv X pins σ H s'->Vals (us.map V.str) ws->s'.heap.get? a=some (BE "list" ws.toArray c)->us.Perm ks->us.Pairwise (fun x y=>ltS y x=false)->P (.done (.ret .none)) s') :
  Bl (Bv X.prog X.w) A (Builtin.«list.sort» ⟨[.ref a],[]⟩) P E s:=fY skS I fa xa ha hkv h64 h
end
def eKI (ks:List (Str×Int)):List (Key×V):=ks.map fun x=>(C0 x.1,V.int x.2)
def gp (to:TE):TE:=fun σ H Q=>to σ H fun x H1=>∃(d:Addr) (ks:List (Str×Int)),x=.ref d/\Rd H1 d (.dK (eKI ks))/\(ks.map (·.1)).Nodup/\ks.length<64/\∀(D:Addr) (us:List (Addr×Str×Int)) (H2:Hp),Same H1 H2->H1 D=none->H2 D=some (.lst 'q') ->
 (∀x∈us,H2 x.1=some (.tup [.str x.2.1,.int x.2.2]))->(us.map (·.2)).Perm ks->us.Pairwise (fun x y=>ltS y.2.1 x.2.1=false)->Q (.ref D) H2
section
variable {X:Cx}
theorem Ap {P:Program}{w:BG}:∀{ks:List (Str×Int)}{vs:List (Key×Value)}{j:Nat}{k:Key}{x key:Value},KV (eKI ks) vs->vs[j]?=some (k,x)->(aT P w).is k key=true->∃y t t',ks[j]?=some y/\key=.str y.1 t/\x=.int y.2 t':=by
 intro ks vs j k x key h hj hk
 induction ks generalizing vs j with
 | nil=>cases h; cases hj
 | cons y ks ih =>
  cases h with
  | cons h0 r0 =>
   cases j with
   | zero =>
    rw [List.getElem?_cons_zero] at hj
    obtain ⟨e1,e2⟩:=h0
    have e3:=BP hj
    subst e3
    have e1:(C0 y.1:Key)=k:=e1
    subst e1
    obtain ⟨t',e2⟩:=e2
    rcases aY (show gB (C0 y.1) key=true from hk) with ⟨i,t,e,_⟩ | ⟨z,t,e,rfl⟩
    ·cases e
    ·cases e
     exact ⟨y,t,t',rfl,rfl,e2⟩
   | succ j =>
    rw [Cu] at hj
    obtain ⟨y',t,t',h1,h2,h3⟩:=ih r0 hj
    exact ⟨y',t,t',by rw [Cu]; exact h1,h2,h3⟩
theorem iF {o:Expr}{to:TE}{p pos apos cpos:Pos}(hc:X.calm=true) (hgl:X.env.kindOf "sorted"=some .globalImplicit) (hml:X.mg "sorted"=none) (ho:PE X o to)
  (hbase:Dl o "items" X.env (eval o X.env)=eval o X.env) (hline:(apos.endLine == cpos.line)=true):PE X (.Call (.Name "sorted" p) [.Call (.Attribute o "items" apos) [] [] cpos] [] pos) (gp to):=by
 intro pins s σ H Q I h
 refine GG (bp (u:=.builtin "sorted") I hgl hml 'd' (EC ?_ rfl rfl))
 show Bl _ _ (GE ((false,eval (.Call (.Attribute o "items" apos) [] [] cpos) X.env) :: DM pos (B2 [] X.env))) _ _ s
 refine CD (wpAny_Call_method0_late hbase hline (thn (ho pins s σ H _ I h) fun v s1 ⟨x,H1,I1,r1,d,ks,ex,hd,hnd,h64,q1⟩=>?_))
 subst ex
 obtain rfl:v=Bs d:=r1
 obtain ⟨t1,t2,lo⟩:=mN I1 (.inl ⟨_,hd⟩)
 refine ⟨"dict", "dict.items",FH,PySem.F.slot_dict_items,PySem.F.type_dict_items,t1,t2,ER rfl (PySem.evalArgs_none ?_)⟩
 obtain ⟨z,hd0,vs,rel,dd⟩:=iu I1.hok hd
 refine call_meetsIn PySem.F.slot_dict_items dd.typeIs PySem.F.entry_dict_items (PySem.F.args_dict_items_1 _) (meets_dict_items (aT X.prog X.w) d lo) ⟨⟨vs,dd⟩,?_⟩
 refine Dc ?_
 have I2:Inv X pins σ H1 { s1 with heap:=s1.heap.push { cls:=.type "dict_items",data:=.fields #[.ref d] } }:=I1.kept (t':=s1.toks) fun b o e=>A6 _ e
 refine Da FK Fj Fk (FS _) ?_
 unfold Builtin.«sorted»
 refine A3 (m:=F8 "sorted" 1 1 _) (Bc ?_)
 obtain ⟨z2,hd2,vs2,rel2,dd2⟩:=iu I2.hok hd
 obtain ⟨ep,dat⟩:=dd2.dictAt
 have hvl:vs2.length=ks.length:=by rw [<- rel2.length]; unfold eKI; rw [A2]
 refine A3 (PySem.W.kdx_collect (A:=X.A.in1) (knd:=aT X.prog X.w) (kvs:=vs2) (ep:=ep) (I.ok.hd hc) ⟨_,Bj _ rfl,rfl,rfl⟩ dat (by rw [hvl,Bo]; omega) fun h' tk as hk hl hG=>?_)
 rw [hvl] at hl
 have I3:Inv X pins σ H1 { s1 with heap:=h',toks:=tk }:=I2.kept hk
 have eas:(as.zip ks).map (·.1)=as:=List.map_fst_zip 'b'
 have eks:(as.zip ks).map (·.2)=ks:=F6 'b'
 have hin:∀x∈as.zip ks,bU X pins H1 x.1/\X.s₀.heap.get? x.1=none/\∃t t',h'.get? x.1=some { cls:=.type "tuple",data:=.seq #[.str x.2.1 t,.int x.2.2 t'] }:=fun x hx=>by
  obtain ⟨j,hj⟩:=D8.mp hx
  have ej:as[j]?=some x.1:=by rw [<- eas,A5,hj]; rfl
  have ek:ks[j]?=some x.2:=by rw [<- eks,A5,hj]; rfl
  obtain ⟨key,k',x',hkv,hkey,hobj⟩:=hG.pairs j x.1 ej
  obtain ⟨y,t,t',e1,rfl,rfl⟩:=Ap rel2 hkv hkey
  rw [ek] at e1
  cases e1
  have hts:s1.heap.objs.size<=x.1:=by
   have:=hG.above x.1 (Bg ej)
   have e:(s1.heap.push { cls:=.type "dict_items",data:=.fields #[.ref d] }).objs.size=s1.heap.objs.size+1:=by rw [C3]
   rw [e] at this
   exact EM (Nat.lt_of_le_of_lt (Dd _) this)
  exact ⟨I1.fpOk hts (I1.hok.fresh hts),Cp (BR I1.sz hts),t,t',hobj⟩
 have hpw:(as.zip ks).Pairwise (fun x y=>x.1≠y.1):=by
  have h1:((as.zip ks).map (·.1)).Pairwise (·≠·):=by rw [eas]; exact hG.rise.imp fun h=>Bw h
  exact Cc.mp h1
 obtain ⟨H2,I4,sm,ht,hno⟩:=gL (as.zip ks) I3 hin hpw
 refine A3 (DI ?_ (by rw [A2,hl,Bo]; omega))
 have er:as.map Bs=(as.zip ks).map fun x=>Bs x.1:=by
  have:=congrArg (Gi Bs) eas
  rw [BV] at this
  exact this.symm
 rw [er]
 have I5:=I4.kept (t':=tk) fun b o e=>A6 (BE "list" ((as.zip ks).map fun x=>Bs x.1).toArray 0) e
 have fa:=I4.fpOk (Bb _) (I4.hok.fresh (Bb _))
 have xa:X.s₀.heap.get? h'.objs.size=none:=Cp I4.sz
 have ha:(h'.push (BE "list" ((as.zip ks).map fun x=>Bs x.1).toArray 0)).get? h'.objs.size=some (BE "list" ((as.zip ks).map fun x=>Bs x.1).toArray 0):=Bj _ rfl
 have hD1:H1 h'.objs.size=none:=I3.hok.fresh (Bb _)
 have hzl:(as.zip ks).length=ks.length:=by rw [<- A2 (f:=(·.2)),eks]
 refine A3 (B0 (Cq EI ⟨_,ha,rfl⟩ Ef (l_ I5 fa xa ha ht (by
  have:=congrArg (Gi (·.1)) eks
  rw [BV] at this
  rw [<- this] at hnd
  exact hnd) (by rw [hzl]; exact h64) fun s' us c J hc hp hw=>⟨.none,rfl,?_⟩) (E9 _)))
 have hvs:Vals 'q' (us.map fun x=>Bs x.1):=by
  clear hc hp hw
  induction us with
  | nil=>exact .nil
  | cons x us ih=>exact .cons rfl ih
 have J2:=J.trackU (o:=.lst 'q') fa xa ⟨by rw [A2,hp.length_eq,hzl,Bo]; omega,_,c,hvs,hc⟩
 refine Bc ⟨_,rfl,.ref h'.objs.size,_,J2,rfl,q1 _ us _ (sm.trans (Same.new fa.1 _)) hD1 ac (fun x hx=>?_) ?_ hw⟩
 ·have:=ht x (hp.mem_iff.mp hx)
  rw [ah (ak this fa.1)]
  exact this
 ·have:=hp.map (·.2)
  rw [eks] at this
  exact this
theorem j7 {o:Expr}{to:TE}{p pos apos cpos:Pos}(hml:X.mg "sorted"=none) (ho:QE X o to) (hc:X.calm=true:=by rfl) (hgl:X.env.kindOf "sorted"=some .globalImplicit:=by kernel_rfl)
  (hbase:Dl o "items" X.env (eval o X.env)=eval o X.env:=by rfl) (hline:(apos.endLine == cpos.line)=true:=by rfl):QE X (.Call (.Name "sorted" p) [.Call (.Attribute o "items" apos) [] [] cpos] [] pos) (gp to):=⟨iF hc hgl hml ho.h hbase hline⟩
def eKV (ks:List (Str×V)):List (Key×V):=ks.map fun x=>(C0 x.1,x.2)
theorem yX {P:Program}{w:BG}:∀{ks:List (Str×V)}{vs:List (Key×Value)}{j:Nat}{k:Key}{x key:Value},KV (eKV ks) vs->vs[j]?=some (k,x)->(aT P w).is k key=true->∃y t,ks[j]?=some y/\key=.str y.1 t:=by
 intro ks vs j k x key h hj hk
 induction ks generalizing vs j with
 | nil=>cases h; cases hj
 | cons y ks ih =>
  cases h with
  | cons h0 r0 =>
   cases j with
   | zero =>
    rw [List.getElem?_cons_zero] at hj
    obtain ⟨e1,e2⟩:=h0
    have e3:=BP hj
    subst e3
    have e1:(C0 y.1:Key)=k:=e1
    subst e1
    rcases aY (show gB (C0 y.1) key=true from hk) with ⟨i,t,e,_⟩ | ⟨z,t,e,rfl⟩
    ·cases e
    ·cases e
     exact ⟨y,t,rfl,rfl⟩
   | succ j =>
    rw [Cu] at hj
    obtain ⟨y',t,h1,h2⟩:=ih r0 hj
    exact ⟨y',t,by rw [Cu]; exact h1,h2⟩
theorem ng:∀{ks:List (Str×V)}{us:List Value},us.length=ks.length->(∀(j:Nat) v,us[j]?=some v->∃y t,ks[j]?=some y/\v=.str y.1 t)->Vals ((ks.map (·.1)).map V.str) us
 | [],[],_,_=>.nil
 | k :: ks,u :: us,hl,h=>by
  obtain ⟨y,t,e,rfl⟩:=h 0 u rfl
  cases e
  exact .cons ⟨t,rfl⟩ (ng (by simpa using hl) fun j v hj=>by
   obtain ⟨y,t,e1,e2⟩:=h (j+1) v (by rw [Cu]; exact hj)
   exact ⟨y,t,by rw [Cu] at e1; exact e1,e2⟩)
 | [],_ :: _,hl,_=>by cases hl
 | _ :: _,[],hl,_=>by cases hl
theorem mZ (hc:X.calm=true):bz X (.builtin "sorted") (fun xs H Q=>∃(d:Addr) (ks:List (Str×V)),xs=[.ref d]/\H d=some (.dK (eKV ks))/\ks.length<64 /\
  ∀(D:Addr) (us:List Str),H D=none->us.Perm (ks.map (·.1))->us.Pairwise (fun x y=>ltS y x=false)->Q (.ref D) (upd H D (.lst (us.map V.str)))):=by
 intro pins s σ H xs us Q I r h
 obtain ⟨d,ks,rfl,hd,h64,q⟩:=h
 obtain ⟨u,rfl,ru⟩:=bR r
 cases ru
 refine Da FK Fj Fk (FS _) ?_
 unfold Builtin.«sorted»
 refine A3 (m:=F8 "sorted" 1 1 _) (Bc ?_)
 obtain ⟨z2,hd2,vs2,rel2,dd2⟩:=uJ I.hok hd
 obtain ⟨ep,dat⟩:=dd2.dictAt
 have hvl:vs2.length=ks.length:=by rw [<- rel2.length]; unfold eKV; rw [A2]
 refine A3 (PySem.W.kdu_collect (A:=X.A.in1) (PySem.W.kdl_dict (knd:=aT X.prog X.w) (kvs:=vs2) (ep:=ep) hd2) (I.ok.hd hc) dat (by rw [hvl,Bo]; omega) fun h' tk acc hk hacc=>?_)
 have hal:acc.toList.length=ks.length:=by rw [B8,<- hvl]; exact hacc.1
 have hvs:Vals ((ks.map (·.1)).map V.str) acc.toList:=ng hal fun j v hj=>by
  obtain ⟨k,x,e1,e2⟩:=hacc.2 j v (by rw [<- FZ]; exact hj)
  exact yX rel2 e1 e2
 refine A3 (DI ?_ (by rw [hal,Bo]; omega))
 have I1:Inv X pins σ H { s with heap:=h',toks:=tk }:=I.kept hk
 have I2:=I1.kept (t':=tk) fun b o e=>A6 (BE "list" acc.toList.toArray 0) e
 have fa:=I1.fpOk (Bb _) (I1.hok.fresh (Bb _))
 have xa:X.s₀.heap.get? h'.objs.size=none:=Cp I1.sz
 have ha:(h'.push (BE "list" acc.toList.toArray 0)).get? h'.objs.size=some (BE "list" acc.toList.toArray 0):=Bj _ rfl
 refine A3 (B0 (Cq EI ⟨_,ha,rfl⟩ Ef (l9 I2 fa xa ha hvs (by rw [A2]; exact h64) fun s' us ws c J hv hc hp hw=>⟨.none,rfl,?_⟩) (E9 _)))
 have J2:=J.trackU (o:=.lst (us.map V.str)) fa xa ⟨by rw [A2,hp.length_eq,A2,Bo]; omega,_,c,hv,hc⟩
 exact Bc ⟨_,rfl,.ref h'.objs.size,_,J2,rfl,q _ us fa.1 hp hw⟩
end
end L2
namespace KS
open PySem
theorem jP {α β:Type}{f:α->β}{us vs:List β}(h:us.Perm vs):∀bs:List α,vs=bs.map f->∃cs:List α,us=cs.map f/\cs.Perm bs:=by
 induction h with
 | nil =>
  intro bs e
  cases bs with
  | nil=>exact ⟨[],rfl,Dv.refl _⟩
  | cons b r=>cases e
 | cons x _ ih =>
  intro bs e
  cases bs with
  | nil=>cases e
  | cons b r =>
   rw [BD] at e
   injection e with e1 e2
   obtain ⟨cs,h1,h2⟩:=ih r e2
   exact ⟨b :: cs,by rw [BD,e1,h1],h2.cons b⟩
 | swap x y l =>
  intro bs e
  match bs,e with
  | a :: b :: r,e =>
   rw [BD,BD] at e
   injection e with e1 e2
   injection e2 with e2 e3
   exact ⟨b :: a :: r,by rw [BD,BD,e1,e2,e3],Dv.swap ..⟩
 | trans _ _ ih1 ih2 =>
  intro bs e
  obtain ⟨cm,h1,h2⟩:=ih2 bs e
  obtain ⟨cs,h3,h4⟩:=ih1 cm h1
  exact ⟨cs,h3,h4.trans h2⟩
theorem sR {α β:Type}{f:α->β}{us:List β}{bs:List α}(h:us.Perm (bs.map f)):∃cs:List α,us=cs.map f/\cs.Perm bs:=jP h bs rfl
end KS
namespace KS
open PySem L2
def dq {α:Type}(ks:List (Str×α)) (r:Str):Option α:=(ks.find? fun x=>decide (x.1=r)).map (·.2)
def dP {α:Type}(ks:List (Str×α)) (r:Str) (v:α):List (Str×α):=if ks.any (fun x=>decide (x.1=r)) then ks.map (fun x=>if x.1=r then (x.1,v) else x) else ks++[(r,v)]
theorem oH (a b:Str):decide ((C0 a:Key)=C0 b)=decide (a=b):=by
 by_cases h:a=b
 ·rw [decide_eq_true h,decide_eq_true (by rw [h])]
 ·rw [decide_eq_false h,decide_eq_false (fun z=>h (C0.inj z))]
theorem jz {α:Type}(f:α->V) (r:Str):∀ks:List (Str×α),br (ks.map fun x=>((C0 x.1:Key),f x.2)) (.inr r)=(dq ks r).map f
 | []=>rfl
 | x :: ks=>by
  have ih:=jz f r ks
  unfold br dq at ih ⊢
  rw [BD,Dw,Dw,oH]
  by_cases h:x.1=r
  ·rw [decide_eq_true h]
   rfl
  ·rw [decide_eq_false h]
   exact ih
theorem n_ {α:Type}(f:α->V) (ks:List (Str×α)) (r:Str) (v:α):cN (ks.map fun x=>((C0 x.1:Key),f x.2)) (.inr r) (f v)=(dP ks r v).map fun x=>(C0 x.1,f x.2):=by
 unfold cN dP
 have e:(ks.map fun x=>((C0 x.1:Key),f x.2)).any (fun kv=>decide (kv.1=C0 r))=ks.any (fun x=>decide (x.1=r)):=by
  rw [List.any_map]
  congr 1
  funext x
  exact oH _ _
 rw [e]
 split
 ·rw [BV,BV]
  refine CH fun x _=>?_
  show (if (C0 x.1:Key)=C0 r then _ else _)=_
  by_cases h:x.1=r
  ·rw [if_pos (by rw [h])]
   show _=(fun x=>((C0 x.1:Key),f x.2)) (if x.1=r then (x.1,v) else x)
   rw [if_pos h]
  ·rw [if_neg (fun z=>h (C0.inj z))]
   show _=(fun x=>((C0 x.1:Key),f x.2)) (if x.1=r then (x.1,v) else x)
   rw [if_neg h]
 ·rw [Bf]
  rfl
theorem ww {α:Type}{ks:List (Str×α)}{r:Str}{v:α}(h:dq ks r=some v):(r,v)∈ks:=by
 unfold dq at h
 cases e:ks.find? fun x=>decide (x.1=r) with
 | none=>rw [e] at h; cases h
 | some x =>
  rw [e] at h
  have h1:=List.find?_some e
  have h2:=List.mem_of_find?_eq_some e
  have h1:x.1=r:=of_decide_eq_true h1
  have h3:x.2=v:=BP h
  rw [<- h1,<- h3]
  exact h2
theorem j5 {α:Type}{ks:List (Str×α)}{r:Str}{v:α}(hn:(ks.map (·.1)).Nodup) (h:(r,v)∈ks):dq ks r=some v:=by
 induction ks with
 | nil=>cases h
 | cons x ks ih =>
  rw [BD,Ed] at hn
  unfold dq
  rw [Dw]
  rcases Bp.mp h with e | h
  ·rw [<- e,decide_eq_true rfl]
   rfl
  ·have:¬ x.1=r:=fun z=>hn.1 (by rw [z]; exact List.mem_map_of_mem (f:=(·.1)) h)
   rw [decide_eq_false this]
   exact ih hn.2 h
theorem sF {α:Type}(ks:List (Str×α)) (r:Str) (v:α):(dP ks r v).map (·.1)=if ks.any (fun x=>decide (x.1=r)) then ks.map (·.1) else ks.map (·.1)++[r]:=by
 unfold dP
 split
 ·rw [BV]
  refine CH fun x _=>?_
  show (if x.1=r then (x.1,v) else x).1=x.1
  split <;> rfl
 ·rw [Bf]
  rfl
theorem i5 {α:Type}{ks:List (Str×α)}{r:Str}{v:α}(h:(ks.map (·.1)).Nodup):((dP ks r v).map (·.1)).Nodup:=by
 rw [sF]
 split
 ·exact h
 ·rename_i hn
  rw [List.nodup_append]
  refine ⟨h,CZ ..,fun a ha b hb=>?_⟩
  rw [Bu.mp hb]
  intro z
  obtain ⟨x,hx,hz⟩:=Bz.mp ha
  exact hn (List.any_eq_true.mpr ⟨x,hx,decide_eq_true (hz.trans z)⟩)
theorem kJ {α:Type}(ks:List (Str×α)) (r:Str) (v:α):(dP ks r v).length<=ks.length+1:=by
 unfold dP
 split
 ·rw [A2]
  omega
 ·rw [Bd,BZ]
  omega
theorem og {α:Type}{ks:List (Str×α)}{r:Str}{v:α}{x:Str×α}(h:x∈dP ks r v):x=(r,v)\/(x∈ks/\x.1≠r):=by
 unfold dP at h
 split at h
 ·obtain ⟨y,hy,rfl⟩:=Bz.mp h
  by_cases e:y.1=r
  ·rw [if_pos e,e]
   exact .inl rfl
  ·rw [if_neg e]
   exact .inr ⟨hy,e⟩
 ·rename_i hn
  rcases B7.mp h with h | h
  ·exact .inr ⟨h,fun z=>hn (List.any_eq_true.mpr ⟨x,h,decide_eq_true z⟩)⟩
  ·exact .inl (Bu.mp h)
theorem fB {α:Type}{ks:List (Str×α)}{r:Str}{v:α}:(r,v)∈dP ks r v:=by
 unfold dP
 split
 ·rename_i h
  obtain ⟨x,hx,e⟩:=List.any_eq_true.mp h
  have e:=of_decide_eq_true e
  exact Bz.mpr ⟨x,hx,by rw [if_pos e,e]⟩
 ·exact BI _ (Bu.mpr rfl)
theorem i4 {α:Type}{ks:List (Str×α)}{r:Str}{v:α}{x:Str×α}(h:x∈ks) (hr:x.1≠r):x∈dP ks r v:=by
 unfold dP
 split
 ·exact Bz.mpr ⟨x,h,by rw [if_neg hr]⟩
 ·exact Dh _ h
theorem kU {a b:Str}(h1:ltS a b=false) (h2:ltS b a=false):a=b:=by
 have h1:=of_decide_eq_false h1
 have h2:=of_decide_eq_false h2
 have e:a.cps.toList=b.cps.toList:=List.le_antisymm (List.not_lt.mp h2) (List.not_lt.mp h1)
 cases a
 cases b
 congr
 exact Ga.mp e
theorem n5:∀{us ws:List Str},us.Nodup->ws.Nodup->(∀x,x∈us↔x∈ws)->us.Pairwise (fun x y=>ltS y x=false)->ws.Pairwise (fun x y=>ltS y x=false)->us=ws
 | [],[],_,_,_,_,_=>rfl
 | [],w :: ws,_,_,hm,_,_=>absurd ((hm w).mpr (Bq ..)) (Cg)
 | u :: us,[],_,_,hm,_,_=>absurd ((hm u).mp (Bq ..)) (Cg)
 | u :: us,w :: ws,n1,n2,hm,p1,p2=>by
  rw [Ed] at n1 n2
  rw [CF] at p1 p2
  have e:u=w:=by
   rcases Bp.mp ((hm u).mp (Bq ..)) with e | h1
   ·exact e
   ·rcases Bp.mp ((hm w).mpr (Bq ..)) with e | h2
    ·exact e.symm
    ·exact kU (p2.1 u h1) (p1.1 w h2)
  subst e
  congr 1
  refine n5 n1.2 n2.2 (fun x=>?_) p1.2 p2.2
  constructor
  ·intro hx
   rcases Bp.mp ((hm x).mp (Br _ hx)) with e | h
   ·subst e
    exact absurd hx n1.1
   ·exact h
  ·intro hx
   rcases Bp.mp ((hm x).mpr (Br _ hx)) with e | h
   ·subst e
    exact absurd hx n2.1
   ·exact h
structure NeedIs (ivs:List Iv) (r:Str) (m:Int):Prop where
 ex:∃(k:Nat) (v:Iv),ivs[k]?=some v/\v.reel=r/\m=((wanting ivs r v.lo).length:Int)
 most:∀(k:Nat) (v:Iv),ivs[k]?=some v->v.reel=r->((wanting ivs r v.lo).length:Int)<=m
theorem NeedIs.uniq {ivs:List Iv}{r:Str}{m n:Int}(h1:NeedIs ivs r m) (h2:NeedIs ivs r n):m=n:=by
 obtain ⟨k,v,a1,a2,a3⟩:=h1.ex
 obtain ⟨k',v',b1,b2,b3⟩:=h2.ex
 have c1:=h2.most k v a1 a2
 have c2:=h1.most k' v' b1 b2
 omega
structure Reels (ivs:List Iv) (rs:List Str):Prop where
 nd:rs.Nodup
 mem:∀r,r∈rs↔∃(k:Nat) (v:Iv),ivs[k]?=some v/\v.reel=r
 up:rs.Pairwise (fun x y=>ltS y x=false)
theorem Reels.uniq {ivs:List Iv}{rs ws:List Str}(h1:Reels ivs rs) (h2:Reels ivs ws):rs=ws:=n5 h1.nd h2.nd (fun x=>(h1.mem x).trans (h2.mem x).symm) h1.up h2.up
structure Needs (ivs:List Iv) (ns:List (Str×Int)):Prop where
 rs:Reels ivs (ns.map (·.1))
 is:∀x∈ns,NeedIs ivs x.1 x.2
theorem tE {ns ms:List (Str×Int)}(h1:ns.map (·.1)=ms.map (·.1)) (h2:∀(i:Nat) x y,ns[i]?=some x->ms[i]?=some y->x.2=y.2):ns=ms:=by
 have hl:ns.length=ms.length:=by have:=congrArg Ce h1; rw [A2,A2] at this; exact this
 refine DD hl fun i hi hi'=>?_
 have e1:(ns.map (·.1))[i]?=(ms.map (·.1))[i]?:=by rw [h1]
 rw [A5,A5,A4 hi,A4 hi'] at e1
 exact Prod.ext (BP e1) (h2 i _ _ (A4 hi) (A4 hi'))
theorem wQ {α β:Type}{ns:List (Str×α)}{ms:List (Str×β)}(h1:ns.map (·.1)=ms.map (·.1)) {i:Nat}{x:Str×α}{y:Str×β}(hx:ns[i]?=some x) (hy:ms[i]?=some y):x.1=y.1:=by
 have e1:(ns.map (·.1))[i]?=(ms.map (·.1))[i]?:=by rw [h1]
 rw [A5,A5,hx,hy] at e1
 exact BP e1
theorem Needs.uniq {ivs:List Iv}{ns ms:List (Str×Int)}(h1:Needs ivs ns) (h2:Needs ivs ms):ns=ms:=by
 have e:=h1.rs.uniq h2.rs
 refine tE e fun i x y hx hy=>?_
 have a:=h1.is x (Bg hx)
 have b:=h2.is y (Bg hy)
 rw [wQ e hx hy] at a
 exact a.uniq b
structure Top (ivs:List Iv) (prs:List Nat) (r:Str) (p:Nat):Prop where
 ex:∃(k:Nat) (v:Iv),ivs[k]?=some v/\v.reel=r/\prs[k]?=some p
 most:∀(k:Nat) (v:Iv) (q:Nat),ivs[k]?=some v->v.reel=r->prs[k]?=some q->q<=p
theorem Top.want {ivs:List Iv}{prs:List Nat}{r:Str}{p:Nat}(P:PrOk ivs prs) (hl:∀v∈ivs,v.lo<=v.hi) (T:Top ivs prs r p) {k:Nat}{v:Iv}(hv:ivs[k]?=some v) (hr:v.reel=r) (hp:prs[k]?=some p):(wanting ivs r v.lo).length=p+1:=by
 have h1:=P.many hv hp (hl v (Bg hv))
 have h2:=P.few (r:=r) (x:=v.lo) (n:=p+1) fun k' v' q a b c=>by have:=T.most k' v' q a c b; omega
 rw [hr] at h1
 omega
theorem Top.need {ivs:List Iv}{prs:List Nat}{r:Str}{p:Nat}(P:PrOk ivs prs) (hl:∀v∈ivs,v.lo<=v.hi) (T:Top ivs prs r p):NeedIs ivs r ((p:Int)+1):=by
 obtain ⟨k,v,h1,h2,h3⟩:=T.ex
 refine ⟨⟨k,v,h1,h2,?_⟩,fun k' v' a b=>?_⟩
 ·rw [T.want P hl h1 h2 h3]
  omega
 ·have:=P.few (r:=r) (x:=v'.lo) (n:=p+1) fun k' v' q a b c=>by have:=T.most k' v' q a c b; omega
  omega
theorem lL:∀prs:List Nat,∃B,∀q∈prs,q<B
 | []=>⟨0,fun q hq=>nomatch hq⟩
 | a :: l=>by
  obtain ⟨B,hB⟩:=lL l
  refine ⟨B+a+1,fun q hq=>?_⟩
  rcases Bp.mp hq with rfl | hq
  ·omega
  ·have:=hB q hq
   omega
theorem rp {ivs:List Iv}{prs:List Nat}{r:Str}{B:Nat}(hB:∀q∈prs,q<B):∀(f n:Nat),(∃(k:Nat) (u:Iv) (q:Nat),ivs[k]?=some u/\u.reel=r/\prs[k]?=some q/\n<=q)->B<=n+f->∃p,Top ivs prs r p
 | 0,n,⟨k,u,q,h1,h2,h3,h4⟩,hf=>by
  have:=hB q (Bg h3)
  omega
 | f+1,n,⟨k,u,q,h1,h2,h3,h4⟩,hf=>by
  by_cases h:∃(k:Nat) (u:Iv) (q':Nat),ivs[k]?=some u/\u.reel=r/\prs[k]?=some q'/\q+1<=q'
  ·exact rp hB f (q+1) h 'b'
  ·refine ⟨q,⟨k,u,h1,h2,h3⟩,fun k' v' q' a b c=>?_⟩
   rcases Ej q q' with z | z
   ·exact absurd ⟨k',v',q',a,b,c,z⟩ h
   ·exact z
theorem xR {ivs:List Iv}{prs:List Nat}(P:PrOk ivs prs) {k:Nat}{v:Iv}(h:ivs[k]?=some v):∃p,Top ivs prs v.reel p:=by
 obtain ⟨q,hq⟩:∃q,prs[k]?=some q:=⟨_,A4 (by rw [P.len]; exact (A8.mp h).1)⟩
 obtain ⟨B,hB⟩:=lL prs
 exact rp hB B 0 ⟨k,v,q,h,rfl,hq,B6 _⟩ 'b'
theorem jN {ivs:List Iv}{prs:List Nat}{r:Str}{m:Int}{us:List Int}(P:PrOk ivs prs) (hl:∀v∈ivs,v.lo<=v.hi) (N:NeedIs ivs r m) (hn:us.Nodup) (hm:∀v:Int,v∈us↔∃(k:Nat) (u:Iv) (q:Nat),ivs[k]?=some u/\u.reel=r/\prs[k]?=some q/\v=(q:Int)):(us.length:Int)=m:=by
 obtain ⟨p,T⟩:∃p,Top ivs prs r p:=by
  obtain ⟨k,v,h1,h2,h3⟩:=N.ex
  rw [<- h2]
  exact xR P h1
 have e:=(T.need P hl).uniq N
 have perm:us.Perm ((Bh (p+1)).map fun (n:Nat)=>(n:Int)):=by
  refine (List.perm_ext_iff_of_nodup hn ?_).mpr fun v=>?_
  ·exact Ep.map _ (fun a b h z=>h 'b') Fi
  ·rw [hm,Bz]
   constructor
   ·rintro ⟨k,u,q,a,b,c,rfl⟩
    have:=T.most k u q a b c
    exact ⟨q,BW.mpr 'b',rfl⟩
   ·rintro ⟨q,hq,rfl⟩
    have hq:=BW.mp hq
    obtain ⟨k,v,h1,h2,h3⟩:=T.ex
    by_cases e:q=p
    ·subst e
     exact ⟨k,v,q,h1,h2,h3,rfl⟩
    ·obtain ⟨i,u,a,b,c,_⟩:=P.full k v p h1 h3 q 'b'
     exact ⟨i,u,q,a,c.trans h2,b,rfl⟩
 rw [perm.length_eq,A2,BL]
 omega
end KS
namespace K55
open PySem L2 G KS
section
variable {P:Program}{w:BG}{K:Ba}{mg:Str->Option Value}{base:Heap}
theorem SLs.same {H H':Hp}{p:Addr}{ps:'l'}(h:SLs H p ps) (s:Same H H'):SLs H' p ps:=⟨s _ _ h.1,fun x hx=>s _ _ (h.2 x hx)⟩
def aM (sp:Int) (ps:'l'):List Iv:=ps.map fun x=>be sp x.2
theorem dk (sp:Int) (ps:'l'):(aM sp ps).length=ps.length:=A2 ..
theorem dl {sp:Int}{ps:'l'}{k:Nat}{z:Addr×Clip}(h:ps[k]?=some z):(aM sp ps)[k]?=some (be sp z.2):=by unfold aM; rw [A5,h]; rfl
theorem fJ {sp:Int}{ps:'l'}{k:Nat}{v:Iv}(h:(aM sp ps)[k]?=some v):∃z,ps[k]?=some z/\v=be sp z.2:=by
 unfold aM at h
 rw [A5] at h
 cases e:ps[k]? with
 | none=>rw [e] at h; cases h
 | some z=>rw [e] at h; cases h; exact ⟨z,rfl,rfl⟩
theorem Aq (sp:Int) (c:Clip) (h:0<=sp):(be sp c).lo<=(be sp c).hi:=by
 show (if c.b<c.a then c.b else c.a)<=(if c.a<c.b then c.b else c.a)+sp
 split <;> split <;> omega
theorem j1 {sp:Int}(h:0<=sp) (ps:'l'):∀v∈aM sp ps,v.lo<=v.hi:=fun v hv=>by
 obtain ⟨z,_,rfl⟩:=Bz.mp hv
 exact Aq sp z.2 h
def nV (b:List Nat):List V:=b.map fun (j:Nat)=>V.int ((j:Nat):Int)
def zJ:Sp:=fun vs H Q _=>∃(p:Addr) (c:Clip) (sp x:Int),vs=[.ref p,.int sp,.int x]/\H p=some (.tup c.vs)/\Q (.bl (decide ((be sp c).lo<=x)&&decide (x<=(be sp c).hi))) H
theorem AH:ax ["strip", "spoil", "frame"] ["strip", "spoil", "frame"] (aj jG):='a'
theorem Ad {f:Addr}{fd:BX}(F:Fun K "wants" "wants" jG f fd) (dLeast:'k' "least" 1 ["strip"] fx) (dGr:'k' "greatest" 1 ["strip"] vg):aS P w K mg base CX0 2 f fd ["strip", "spoil", "frame"] zJ:=by
 refine F.ok AH (fun vs H Q E h=>?_) (fun cdv A outer s H vs Q E hr h=>?_)
 ·obtain ⟨p,c,sp,x,rfl,_⟩:=h
  rfl
 obtain ⟨p,c,sp,x,rfl,hp,q⟩:=h
 refine eT (ai (aF (wJ kM kM (ay dLeast hr aD (aa (e_v 0) ag)) (e_v 2) (aB aG (ay dGr hr aD (aa (e_v 0) ag)) (e_v 1))))) ?_
 refine ⟨_,rfl,p,c,rfl,hp,_,rfl,_,_,rfl,rfl,_,rfl,?_⟩
 refine cH (fun z=>?_) (fun z=>?_)
 ·rw [show decide ((be sp c).lo<=x)=true from z,Bool.true_and] at q
  exact ⟨_,rfl,p,c,rfl,hp,_,rfl,_,_,rfl,rfl,_,_,rfl,rfl,q⟩
 ·rw [show decide ((be sp c).lo<=x)=false from FV.mpr z,E4] at q
  exact q
structure NdInv (ivs:List Iv) (prs:List Nat) (i:Nat) (ks:List (Str×Int)):Prop where
 nd:(ks.map (·.1)).Nodup
 from_:∀x∈ks,∃(k:Nat) (v:Iv) (p:Nat),k<i/\ivs[k]?=some v/\v.reel=x.1/\prs[k]?=some p/\x.2=(p:Int)+1
 has:∀(k:Nat) (v:Iv) (p:Nat),k<i->ivs[k]?=some v->prs[k]?=some p->∃m,(v.reel,m)∈ks/\(p:Int)+1<=m
 len:ks.length<=i
theorem NdInv.nil (ivs:List Iv) (prs:List Nat):NdInv ivs prs 0 []:=⟨List.nodup_nil,(fun x hx=>nomatch hx),(fun k v p hk=>by omega),Bb _⟩
theorem NdInv.step {ivs:List Iv}{prs:List Nat}{i:Nat}{ks:List (Str×Int)}(h:NdInv ivs prs i ks) {v:Iv}{p:Nat}(hv:ivs[i]?=some v) (hp:prs[i]?=some p) {m:Int}(hm:m=(dq ks v.reel).getD 0\/m=(p:Int)+1) (h1:(dq ks v.reel).getD 0<=m) (h2:(p:Int)+1<=m):NdInv ivs prs (i+1) (dP ks v.reel m):=by
 refine ⟨i5 h.nd,fun x hx=>?_,fun k u q hk hu hq=>?_,BR (kJ _ _ _) (by have:=h.len; omega)⟩
 ·rcases og hx with rfl | ⟨hx,hr⟩
  ·by_cases e:m=(p:Int)+1
   ·exact ⟨i,v,p,by omega,hv,rfl,hp,e⟩
   ·have hm:m=(dq ks v.reel).getD 0:=by
     rcases hm with hm | hm
     ·exact hm
     ·exact absurd hm e
    cases hg:dq ks v.reel with
    | none =>
     rw [hg] at hm
     have hm:m=0:=hm
     omega
    | some m0 =>
     rw [hg] at hm
     have hm:m=m0:=hm
     obtain ⟨k,u,q,a1,a2,a3,a4,a5⟩:=h.from_ _ (ww hg)
     exact ⟨k,u,q,by omega,a2,a3,a4,by rw [hm]; exact a5⟩
  ·obtain ⟨k,u,q,a1,a2,a3,a4,a5⟩:=h.from_ x hx
   exact ⟨k,u,q,by omega,a2,a3,a4,a5⟩
 ·rcases Ej k i with hk' | hk'
  ·obtain ⟨n,a1,a2⟩:=h.has k u q hk' hu hq
   by_cases e:u.reel=v.reel
   ·rw [e] at a1 ⊢
    rw [j5 h.nd a1] at h1
    have h1:n<=m:=h1
    exact ⟨m,fB,by omega⟩
   ·exact ⟨n,i4 a1 e,a2⟩
  ·have e:k=i:=by omega
   subst e
   rw [hv] at hu
   rw [hp] at hq
   cases hu
   cases hq
   exact ⟨m,fB,h2⟩
theorem NdInv.done {ivs:List Iv}{prs:List Nat}{ks us:List (Str×Int)}(h:NdInv ivs prs ivs.length ks) (pr:PrOk ivs prs) (hl:∀v∈ivs,v.lo<=v.hi) (hp:us.Perm ks) (hw:us.Pairwise (fun x y=>ltS y.1 x.1=false)):Needs ivs us:=by
 refine ⟨⟨(hp.map _).nodup_iff.mpr h.nd,fun r=>?_,Cc.mpr hw⟩,fun x hx=>?_⟩
 ·rw [(hp.map _).mem_iff,Bz]
  constructor
  ·rintro ⟨x,hx,rfl⟩
   obtain ⟨k,v,p,_,a2,a3,_,_⟩:=h.from_ x hx
   exact ⟨k,v,a2,a3⟩
  ·rintro ⟨k,v,a1,rfl⟩
   have hk:=(A8.mp a1).1
   obtain ⟨m,b1,_⟩:=h.has k v _ hk a1 (A4 (by rw [pr.len]; exact hk))
   exact ⟨_,b1,rfl⟩
 ·have hx:=hp.mem_iff.mp hx
  obtain ⟨k,v,p,a1,a2,a3,a4,a5⟩:=h.from_ x hx
  have T:Top ivs prs x.1 p:=⟨⟨k,v,a2,a3,a4⟩,fun k' v' q b1 b2 b3=>by
   obtain ⟨m,c1,c2⟩:=h.has k' v' q (A8.mp b1).1 b1 b3
   rw [b2] at c1
   have e:=(j5 h.nd c1).symm.trans (j5 h.nd (show (x.1,x.2)∈ks from hx))
   have e:=BP e
   omega⟩
  rw [a5]
  exact T.need pr hl
def nI (T:Addr):Sp:=fun vs H Q _=>∃(pl:Addr) (ps:'l') (spoil:Int),vs=[.ref pl,.int spoil]/\SLs H pl ps/\ps.length<64/\0<=spoil/\TabOk T fc fb H /\
 ∀(D:Addr) (us:List (Addr×Str×Int)) (H':Hp),H D=none->Bt T H H'->TabOk T fc fb H'->H' D=some (.lst 'q')->(∀x∈us,H' x.1=some (.tup [.str x.2.1,.int x.2.2]))->Needs (aM spoil ps) (us.map (·.2))->us.length<64->Q (.ref D) H'
theorem scNeeds:ax ["strips", "spoil", "many", "strip", "place"] ["strips", "spoil"] (aj jJ):='a'
theorem tM {f T:Addr}{fd:BX}(F:Fun K "needs" "needs" jJ f fd) (dPr:'k' "prints_for" 5 ["strips", "spoil"] (rQ T)) (n_zip:mg "zip"=none) (n_max:mg "max"=none) (n_sorted:mg "sorted"=none):aS P w K mg base CX0 6 f fd ["strips", "spoil"] (nI T):=by
 refine F.ok scNeeds (fun vs H Q E h=>?_) (fun cdv A outer s H vs Q E hr h=>?_)
 ·obtain ⟨pl,ps,spoil,rfl,_⟩:=h
  rfl
 obtain ⟨pl,ps,spoil,rfl,sl,hn,h0,tab,q⟩:=h
 refine cL (ad (aA (i:=2) scNeeds.nd mU)
  (ad (bf BQ rfl (Ar n_zip (e_v 0) (ay dPr hr aD (aa (e_v 0) (aa (e_v 1) ag)))) (fK rfl (aN (aE (i:=3) scNeeds.nd) (aN (aE (i:=4) scNeeds.nd) cJ)))
   (ai (sA (oI hr) (e_v 2) (ar az (e_v 3) ae) (e_b (gm rfl) n_max 'd' (aa (wH (oI hr) (e_v 2) (ar az (e_v 3) ae) ae) (aa (aB aG (e_v 4) ae) ag))))))
  (ai (aF (j7 n_sorted (e_v 2)))))) ?_
 intros
 have zl:sizeLine=16777216:=Bo
 refine fun pm hpm=>?_
 have s1:=Same.new hpm (.dK [])
 obtain ⟨tps,hT⟩:=tab.at
 have nT:pm≠T:=fun z=>by rw [z,hT] at hpm; cases hpm
 have hpT:pl≠T:=aK sl.1 hT 'c'
 have hzT:∀x∈ps,x.1≠T:=fun x hx=>aK (sl.2 x hx) hT 'c'
 refine ⟨_,rfl,_,rfl,_,rfl,pl,ps,spoil,rfl,⟨s1 _ _ sl.1,fun x hx=>s1 _ _ (sl.2 x hx)⟩,hn,h0,tab.same s1,fun lp prs H1 hlp bt tab1 hl1 pr=>?_⟩
 have pr:PrOk (aM spoil ps) prs:=pr
 have hpl1:=bt _ _ hpT (s1 _ _ sl.1)
 have hpm1:=bt _ _ nT ac
 have nlp:lp≠pm:=fun z=>by rw [z,ac] at hlp; cases hlp
 have hlen:prs.length=ps.length:=by have:=pr.len; rwa [dk] at this
 refine ⟨pl,lp,rfl,⟨_,SqL.of hpl1⟩,⟨_,SqL.of hl1⟩,wx (K:=K) (a:=pl) (b:=lp) (xs:=ps.map fun x=>V.ref x.1) (ys:=prs.map fun p=>V.int ((p:Nat):Int)) (fun i σ H'=>∃(ks:List (Str×Int)) (o3 o4:Option V),σ=[some (.ref pl),some (.int spoil),some (.ref pm),o3,o4]/\H' pm=some (.dK (eKI ks))/\Bt pm H1 H'/\TabOk T fc fb H'/\NdInv (aM spoil ps) prs i ks)
  (by rw [A2,A2,hlen]) ⟨[],none,none,rfl,hpm1,Bt.refl _ _,tab1,NdInv.nil _ _⟩ ?_ ?_ ?_⟩
 ·rintro i σ H' _ ⟨ks,o3,o4,rfl,hm',bt',_,_⟩
  exact ⟨SqL.of (bt' _ _ (aK hpl1 hpm1 'c') hpl1),SqL.of (bt' _ _ nlp hl1)⟩
 ·rintro i x y σ H' pt hx hy ⟨ks,o3,o4,rfl,hm',bt',tab',nd⟩ hpt
  rw [A5] at hx hy
  cases hz:ps[i]? with
  | none=>rw [hz] at hx; cases hx
  | some z =>
   cases hp:prs[i]? with
   | none=>rw [hp] at hy; cases hy
   | some p =>
    rw [hz] at hx
    rw [hp] at hy
    cases hx
    cases hy
    have hil:=(A8.mp hz).1
    have hkl:=nd.len
    have hzm:=Bg hz
    have st:=Same.new hpt (.tup [.ref z.1,.int ((p:Nat):Int)])
    have hz1:=bt _ _ (hzT z hzm) (s1 _ _ (sl.2 z hzm))
    have hz2:=st _ _ (bt' _ _ (aK hz1 hpm1 (by intro y; cases y)) hz1)
    have hm2:=st _ _ hm'
    refine ⟨pt,_,rfl,SqT.of ac,rfl,_,_,rfl,_,_,rfl,rfl,?_⟩
    refine ⟨_,rfl,pm,rfl,.inl ⟨eKI ks,Rd.of hm2⟩,_,rfl,z.1,_,_,.str z.2.reel,rfl,rfl,SqT.of hz2,af (j:=0) rfl,br (eKI ks) (.inr z.2.reel),.inl ⟨eKI ks,.inr z.2.reel,Rd.of hm2,rfl,rfl⟩,?_⟩
    rw [show br (eKI ks) (.inr z.2.reel)=(dq ks z.2.reel).map V.int from jz V.int _ ks]
    have eo:(((dq ks z.2.reel).map V.int).getD (V.int 0))=V.int ((dq ks z.2.reel).getD 0):=by cases dq ks z.2.reel <;> rfl
    rw [eo]
    have hkz:(eKI ks).length<sizeLine:=by unfold eKI; rw [A2]; omega
    refine ⟨_,rfl,_,_,rfl,rfl,_,_,rfl,?_⟩
    refine ⟨_,rfl,_,rfl,z.1,_,_,.str z.2.reel,rfl,rfl,SqT.of hz2,af (j:=0) rfl,pm,_,rfl,.inl ⟨eKI ks,.inr z.2.reel,hm2,rfl,hkz,rfl⟩,?_⟩
    have fin:∀(v:Int),(v=(dq ks z.2.reel).getD 0\/v=(p:Int)+1)->(dq ks z.2.reel).getD 0<=v->(p:Int)+1<=v->∃(ks':List (Str×Int)) (o3 o4:Option V),[some (V.ref pl),some (V.int spoil),some (V.ref pm),some (V.ref z.1),some (V.int ((p:Nat):Int))]=[some (V.ref pl),some (V.int spoil),some (V.ref pm),o3,o4] /\
      upd (upd H' pt (.tup [.ref z.1,.int ((p:Nat):Int)])) pm (.dK (cN (eKI ks) (.inr z.2.reel) (V.int v))) pm=some (.dK (eKI ks'))/\Bt pm H1 (upd (upd H' pt (.tup [.ref z.1,.int ((p:Nat):Int)])) pm (.dK (cN (eKI ks) (.inr z.2.reel) (V.int v))))/\TabOk T fc fb (upd (upd H' pt (.tup [.ref z.1,.int ((p:Nat):Int)])) pm (.dK (cN (eKI ks) (.inr z.2.reel) (V.int v)))) /\
      NdInv (aM spoil ps) prs (i+1) ks':=fun v e1 e2 e3 =>
     ⟨dP ks z.2.reel v,_,_,rfl,by rw [ac]; exact congrArg (fun l=>some (HO.dK l)) (n_ V.int ks _ _),(bt'.trans (Bt.of st)).trans Bt.upd,(tab'.same st).write hm2 (fun _ y=>by cases y) (fun _ _ y=>by cases y),nd.step (v:=be spoil z.2) (dl hz) hp e1 e2 e3⟩
    have fin2:=fin (if (dq ks z.2.reel).getD 0<(p:Int)+1 then (p:Int)+1 else (dq ks z.2.reel).getD 0) (by split <;> simp) (by split <;> omega) (by split <;> omega)
    exact fin2
 ·rintro σ H' ⟨ks,o3,o4,rfl,hm',bt',tab',nd⟩
  rw [A2,<- dk spoil ps] at nd
  have hkl:=nd.len
  rw [dk] at hkl
  refine ⟨_,rfl,pm,ks,rfl,Rd.of hm',nd.nd,by omega,fun D us H2 sm hD hl2 ht hp hw=>?_⟩
  have hul:us.length<64:=by have:=hp.length_eq; rw [A2] at this; omega
  refine q D us H2 ?_ (fun b o h1 h2=>sm _ _ (bt' _ _ (ak h2 hpm) (bt _ _ h1 (s1 _ _ h2)))) (tab'.same sm) hl2 ht (nd.done pr (j1 h0 ps) hp (Cc.mpr hw)) hul
  cases hH:H D with
  | none=>rfl
  | some o =>
   by_cases e:D=T
   ·obtain ⟨tt,ht'⟩:=tab'.at
    rw [e,ht'] at hD
    cases hD
   ·rw [bt' _ _ (ak hH hpm) (bt _ _ e (s1 _ _ hH))] at hD
    cases hD
end
end K55
namespace L2
open PySem PySem.Spec PyProof.Rows
def vd (wi:TI) (n:Nat) (js:List Nat) (g:TG) (tc:TT) (te:TE):TE:=fun σ H Q=>wi σ H fun J H1=>cU J n (cR σ js) g tc te Q H1
theorem sB {X:Cx}{i:Nat}{y0:Str}{py spos:Pos}{pos:Pos}{elt iter cnd tgt:Expr}{sc:Scope}{wi:TI}{g:TG}{te:TE}{tc:TT}(hN:X.N.Nodup) (xs ys:List Str) (js:List Nat) (cl:List (Str×Addr)) (hclos:Es sc X.env=pure cl) (hcap:Caps X sc cl ys js) (hin:ClIn X.env cl)
  (hi:QI X.nox tgt iter wi) (hg:∀s2 H2 C ex,QG (aR X sc (xs++ys) cl s2 H2 C ex) tgt g) (hcd:∀s2 H2 C ex,QT (aR X sc (xs++ys) cl s2 H2 C ex) cnd tc) (he:∀s2 H2 C ex,QE (aR X sc (xs++ys) cl s2 H2 C ex) elt te) (sd:CSd X sc cl:=by exact ⟨by rfl,by rfl,by rfl,by rfl,by rfl⟩)
  (hs:∀v,CV iter X.env v=pure v:=by intro _; rfl) (hi0:X.N[i]?=some y0:=by kernel_rfl) (hy0:X.env.scope.names.lookup y0=some .local:=by kernel_rfl)
  (hsw:Dt (.ListComp elt [⟨tgt,iter,[cnd],0⟩] sc pos) (some (.Name y0 py)) spos.line X.env=pure true:=by kernel_rfl) :
  QS X (.Assign [.Name y0 py] (.ListComp elt [⟨tgt,iter,[cnd],0⟩] sc pos) spos) (gP (vd wi xs.length js g tc te) (cu i)) :=
 ⟨mi (xs:=xs) (g:=g) (tc:=tc) (te:=te) (js:=js) (fun _ _ _ _ h=>h) Lp.one (Tst.one fun a b c d=>(hcd a b c d).h) hclos sd hcap hin hi.h (fun a b c d=>(hg a b c d).h) (fun a b c d=>(he a b c d).h) hs hN hi0 hy0 hsw⟩
theorem lF {K:Ba}{a:Addr}{n:Nat}{xs:List V}{H:Hp}{cap:St}{g:TG}{tc:TT}{te:TE}{Q:VK}(p:Nat->V->Bool) (f:Nat->V->V) (hS:SqL K H a xs) (hn:xs.length<=sizeLine)
  (el:∀(i:Nat) x H' (pt:Addr) (xo:St) (P:VK) (N:Hp->Prop),xo.length=n->Same H H'->H' pt=some (.tup [.int ((i:Nat):Int),x])->xs[i]?=some x->(∀H'',Same H' H''->p i x=true->P (f i x) H'')->(∀H'',Same H' H''->p i x=false->N H'') ->
   g (.ref pt) (xo++cap) H' fun σ6 H6=>(∃xo':St,xo'.length=n/\σ6=xo'++cap)/\tc σ6 H6 fun b H4=>if b=true then te σ6 H4 P else N H4)
  (fin:∀D H',Same H H'->H D=none->H' D=some (.lst ((xs.zipIdx.filter fun z=>p z.2 z.1).map (fun z=>f z.2 z.1)))->Q (.ref D) H') :
  cU (Ite K a) n cap g tc te Q H:=by
 intro D hD
 refine ⟨fun i m zs H2=>m=xs.length-i/\i<=xs.length/\zs=((xs.zipIdx.take i).filter fun z=>p z.2 z.1).map (fun z=>f z.2 z.1)/\H2 D=some (.lst zs)/\Same H H2,⟨xs.length,rfl,B6 _,by simp,ac,Same.new hD _⟩,?_⟩
 rintro i m zs H2 ⟨rfl,hi,hz,hDz,hSm⟩
 refine ⟨hDz,?_⟩
 by_cases h:i<xs.length
 ·refine .inr ⟨⟨xs,xs[i],hSm.seq hS,A4 h⟩,?_⟩
  intro xv H3 xo hxo hy
  obtain ⟨pt,x,rfl,hnp,rfl,hy⟩:=hy
  have hx:=hy xs (hSm.seq hS)
  have st:=Same.new hnp (.tup [.int ((i:Nat):Int),x])
  have hzi:xs.zipIdx[i]?=some (x,i):=by rw [Gj,hx]; simp
  have hst:((xs.zipIdx.take (i+1)).filter fun z=>p z.2 z.1).map (fun z=>f z.2 z.1)=zs++(if p i x=true then [f i x] else []):=by
   rw [Cf,hzi,CN,Bf,<- hz]
   congr 1
   by_cases hp:p i x=true
   ·rw [if_pos hp]
    simp [hp]
   ·rw [if_neg hp]
    simp [hp]
  have hzl:zs.length<=i:=by
   rw [hz,A2]
   refine BR (DB _ _) ?_
   rw [B9]
   omega
  refine el i x _ pt xo _ _ hxo (hSm.trans st) ac hx (fun H4 hS4 hp=>?_) fun H4 hS4 hp=>?_
  ·rw [if_pos hp] at hst
   refine ⟨hS4 _ _ (st _ _ hDz),by omega,xs.length-(i+1),by omega,rfl,h,hst.symm,ac,fun b u q=>?_⟩
   rw [ah (ak q hD)]
   exact hS4 _ _ (st _ _ (hSm _ _ q))
  ·rw [if_neg (by rw [hp]; exact Bx),BH] at hst
   exact ⟨xs.length-(i+1),by omega,rfl,h,hst.symm,hS4 _ _ (st _ _ hDz),(hSm.trans st).trans hS4⟩
 ·have e:i=xs.length:=by omega
  subst e
  refine .inl ⟨⟨xs,hSm.seq hS,Bb _⟩,fin D H2 hSm hD ?_⟩
  rw [hDz,hz,C9 'e']
theorem mK {P:Program}{w:BG}{K:Ba}{mg mb:Str->Option Value}{CX:CXT}{k:Nat}{fa a c T c2 T2:Addr}{fd:BX}{x:Str}{sp:Sp}{s₁:A9}{vs:List Value}{ns:List Int}
  (KX:K.In s₁.heap) (hns:s₁.heap.Ns BA mg) (hb:s₁.heap.Ns builtinsNs mb) (hbb:∀x:Str,x≠"__name__"->mb x=C8 x) (hlim:s₁.heap.NoLimit) (hg:s₁.gens=#[])
  (ha:s₁.heap.get? a=some { cls:=.type "list",data:=.seq vs.toArray }) (hi:DQ vs ns) (hl:ns.length<=sizeLine) (hr:Room k callerA) (hTT:T≠T2)
  (hP:s₁.heap.get? T=some (Dr #[])) (hKP:K.lookup T=none) (hC:EH s₁.heap c T) (hB:s₁.heap.BuiltinsAt mg T)
  (hP2:s₁.heap.get? T2=some (Dr #[])) (hKP2:K.lookup T2=none) (hC2:EH s₁.heap c2 T2) (hB2:s₁.heap.BuiltinsAt mg T2)
  (F:∀base:Heap,K.In base->base.Ns BA mg->base.BuiltinsAt mg T->base.BuiltinsAt mg T2->aS P w K mg base CX k fa fd [x] sp) (hbind:∀(s:A9) (u:Value),BindsTo s fd ⟨[u],[]⟩ [(x,u)])
  (hsp:∀H:Hp,SqL K H a (ns.map V.int)->H T=some (.tbl #[])->H T2=some (.tbl #[])->sp [.ref a] H (fun v _=>v=.bl true) fun _ _ _=>False)
  (hCX:∀H e s',CX [] H s₁ (fun _ _ _=>False) e s'->False) :
  Ev (Bv P w) callerA (.call (.ref fa) ⟨[.ref a],[]⟩) (fun r s'=>r=.ok (.ret (.bool true))/\OldK s₁.heap s'.heap/\s'.os=s₁.os/\Fv s'.gens) s₁:=by
 have rv:=d_ hi
 have lenV:=hi.length
 have haT:a≠T:=fun q=>by rw [q,hP] at ha; cases ha
 have haT2:a≠T2:=fun q=>by rw [q,hP2] at ha; cases ha
 have core:∀H:Hp,SqL K H a (ns.map V.int)->HOk P w H s₁.heap->H T=some (.tbl #[])->H T2=some (.tbl #[])->(∀b,H b≠none->b=a\/b=T\/b=T2)->(∀u,H a=some u->∃ob xs,u=.frz ob (.lst xs))->(H a≠none->K.lookup a=none) ->
   Ev (Bv P w) callerA (.call (.ref fa) ⟨[.ref a],[]⟩) (fun r s'=>r=.ok (.ret (.bool true))/\OldK s₁.heap s'.heap/\s'.os=s₁.os/\Fv s'.gens) s₁:=by
  intro H hS hok hT hT2 hA hF hK
  have base_of:∀{b:Addr}{o:Obj},s₁.heap.get? b=some o->H b=none->(iH s₁.heap H).get? b=some o:=fun e n=>uv e n
  have noA:∀{b:Addr}{o:Obj},s₁.heap.get? b=some o->(∀vs n,o.data≠.seq vs n)->(∀vs,o.data≠.fields vs)->H b=none:=fun {b o} e d1 d2=>by
   cases q:H b with
   | none=>rfl
   | some u =>
    rcases hA b (by rw [q]; simp) with e' | e' | e'
    ·subst e'
     rw [ha] at e; cases e
     exact absurd rfl (d1 _ _)
    ·subst e'
     rw [hP] at e; cases e
     exact absurd rfl (d2 _)
    ·subst e'
     rw [hP2] at e; cases e
     exact absurd rfl (d2 _)
  have nsK:∀{b:Addr}{m:Str->Option Value},s₁.heap.Ns b m->(iH s₁.heap H).Ns b m:=fun {b m} ⟨o,es,ep,e,d,r⟩=>⟨o,es,ep,base_of e (noA e (fun _ _ z=>by rw [d] at z; cases z) fun _ z=>by rw [d] at z; cases z),d,r⟩
  have hKb:K.In (iH s₁.heap H):=fun b o e=>base_of (KX b o e) (by
   cases q:H b with
   | none=>rfl
   | some u =>
    rcases hA b (by rw [q]; simp) with e' | e' | e'
    ·subst e'
     rw [hK (by rw [q]; simp)] at e; cases e
    ·subst e'
     rw [hKP] at e; cases e
    ·subst e'
     rw [hKP2] at e; cases e)
  have hBb:∀{U:Addr},s₁.heap.BuiltinsAt mg U->(iH s₁.heap H).BuiltinsAt mg U:=fun {U} hB=>by
   obtain ⟨bm,o,b1,b2,b3,b4,b5,b6,b7,b8⟩:=hB
   exact ⟨bm,o,b1,b2,b3,b4,base_of b5 (noA b5 (fun _ _ z=>by rw [b8] at z; cases z) fun _ z=>by rw [b8] at z; cases z),b6,b7,b8⟩
  have hM:Mod K mg (iH s₁.heap H):=⟨hKb,nsK hns,⟨mb,nsK hb,hbb⟩,let ⟨mc,h1,h2⟩:=hlim; ⟨mc,nsK h1,h2⟩⟩
  have e0:Env0 P w K mg (iH s₁.heap H) callerA [] s₁ H:=⟨rfl,hM,fun b o e=>vZ e,FQ (qA _ _),trivial,fun b hb=>absurd (show b∈([]:List Addr) from hb) 'e',hok,.of_eq hg⟩
  refine Fc ((F _ hKb (nsK hns) (hBb hB) (hBb hB2)).run callerA [] s₁ H ⟨[.ref a],[]⟩ [.ref a] [.ref a] _ _ hr e0 (hbind s₁ (.ref a)) (.cons rfl .nil) (hsp H hS hT hT2)) fun r s' h=>?_
  cases r with
  | error e=>exact (hCX H e s' h).elim
  | ok fl =>
   cases fl with
   | next=>exact BM h
   | brk=>exact BM h
   | cont=>exact BM h
   | ret u =>
    obtain ⟨v,H',os,bare,un,hok',r',q⟩:=h
    have q':v=.bl true:=q
    subst q'
    obtain rfl:u=Value.bool true:=r'
    obtain ⟨more,hT'⟩:=un.tbls T #[] hT
    obtain ⟨more2,hT2'⟩:=un.tbls T2 #[] hT2
    have gT:s'.heap.get? T=some (Dr (#[]++more)):=hok' T _ hT'
    have gT2:s'.heap.get? T2=some (Dr (#[]++more2)):=hok' T2 _ hT2'
    have all:∀b o,s₁.heap.get? b=some o->b≠T->b≠T2->s'.heap.get? b=some o:=fun b o e hb hb2=>by
     cases q:H b with
     | none=>exact un.keep b o e q (by intro z; exact absurd (show b∈([]:List Addr) from z) 'e') 'e'
     | some u =>
      rcases hA b (by rw [q]; simp) with e' | e' | e'
      ·subst e'
       obtain ⟨ob,xs,rfl⟩:=hF u q
       have z2:=un.frzs b ob _ q
       obtain ⟨e1,_⟩:=hok b _ q
       obtain ⟨e2,_⟩:=hok' b _ z2
       rw [e] at e1; cases e1
       exact e2
      ·exact absurd e' hb
      ·exact absurd e' hb2
    refine ⟨rfl,⟨fun b o e=>?_,fun b o e=>?_⟩,os,bare⟩
    ·by_cases hb:b=T
     ·subst hb
      rw [hP] at e
      cases e
      obtain ⟨o,vs',file,tf,flags,tg,inF,text,tt,c1,c2,c3,c4,_⟩:=hC
      exact .inr (.inl ⟨⟨c,o,vs',c1,c2,c3,c4⟩,rfl,#[],more,rfl,gT⟩)
     ·by_cases hb2:b=T2
      ·subst hb2
       rw [hP2] at e
       cases e
       obtain ⟨o,vs',file,tf,flags,tg,inF,text,tt,c1,d2,c3,c4,_⟩:=hC2
       exact .inr (.inl ⟨⟨c2,o,vs',c1,d2,c3,c4⟩,rfl,#[],more2,rfl,gT2⟩)
      ·exact .inl (all b o e hb hb2)
    ·by_cases hb:b=T
     ·subst hb; exact ⟨_,gT⟩
     ·by_cases hb2:b=T2
      ·subst hb2; exact ⟨_,gT2⟩
      ·exact ⟨o,all b o e hb hb2⟩
 have zT:∀f:Option HO,(if T2=T then some (HO.tbl #[]) else if T2=T2 then some (HO.tbl #[]) else f)=some (HO.tbl #[]):=fun f=>(if_neg (Co hTT)).trans (if_pos rfl)
 cases hk:K.lookup a with
 | some o =>
  have e:=KX a o hk
  rw [ha] at e
  cases e
  refine core (fun b=>if b=T then some (.tbl #[]) else if b=T2 then some (.tbl #[]) else none) (.inr ⟨_,vs.toArray,_,hk,rfl,rfl,rfl,by rw [Be,lenV]; exact hl,by simpa using rv⟩) (fun b u z=>?_) (if_pos rfl) (zT _) (fun b z=>?_) (fun u z=>?_) fun z=>?_
  ·by_cases hb:b=T
   ·have z':=(if_pos hb).symm.trans z
    cases z'
    subst hb
    exact hP
   ·have z':=(if_neg hb).symm.trans z
    by_cases hb2:b=T2
    ·have z2:=(if_pos hb2).symm.trans z'
     cases z2
     subst hb2
     exact hP2
    ·have z2:=(if_neg hb2).symm.trans z'
     cases z2
  ·by_cases hb:b=T
   ·exact .inr (.inl hb)
   ·by_cases hb2:b=T2
    ·exact .inr (.inr hb2)
    ·exact absurd ((if_neg hb).trans (if_neg hb2)) z
  ·have z':=((if_neg haT).trans (if_neg haT2)).symm.trans z
   cases z'
  ·exact absurd ((if_neg haT).trans (if_neg haT2)) z
 | none =>
  refine core (fun b=>if b=T then some (.tbl #[]) else if b=T2 then some (.tbl #[]) else if b=a then some (.frz { cls:=.type "list",data:=.seq vs.toArray } (.lst (ns.map V.int))) else none)
   (.inl (.inr ⟨{ cls:=.type "list",data:=.seq vs.toArray },(if_neg haT).trans ((if_neg haT2).trans (if_pos rfl))⟩)) (fun b u z=>?_) (if_pos rfl) (zT _) (fun b z=>?_) (fun u z=>?_) fun _=>hk
  ·by_cases hb:b=T
   ·have z':=(if_pos hb).symm.trans z
    cases z'
    subst hb
    exact hP
   ·have z':=(if_neg hb).symm.trans z
    by_cases hb2:b=T2
    ·have z2:=(if_pos hb2).symm.trans z'
     cases z2
     subst hb2
     exact hP2
    ·have z2:=(if_neg hb2).symm.trans z'
     by_cases hb3:b=a
     ·have z3:=(if_pos hb3).symm.trans z2
      cases z3
      subst hb3
      exact ⟨ha,by rw [A2]; exact hl,vs,_,rv,ha⟩
     ·have z3:=(if_neg hb3).symm.trans z2
      cases z3
  ·by_cases hb:b=T
   ·exact .inr (.inl hb)
   ·by_cases hb2:b=T2
    ·exact .inr (.inr hb2)
    ·by_cases hb3:b=a
     ·exact .inl hb3
     ·exact absurd ((if_neg hb).trans ((if_neg hb2).trans (if_neg hb3))) z
  ·have z':=((if_neg haT).trans ((if_neg haT2).trans (if_pos rfl))).symm.trans z
   cases z'
   exact ⟨_,_,rfl⟩
theorem walk_ofT2 {l:PySem.W.OpenLaw}{n k:Nat}{c T c2 T2:Addr}{q:Program}{loose:List Str}{XP:(Str->Option Value)->Heap->Prop}{YP:BG->Heap->Prop}{d:DefRec}{K:Params->Ba}{CX:CXT}{sp:Ba->Sp}{x:Str}
  (hn:l.most=some n) (hn2:n<=sizeLine) (hdf:d.params.defaults=[]) (hr:Room k callerA) (hTT:T≠T2)
  (hY:∀(w:BG) (h:Heap),YP w h->(K w.params).In h/\h.get? T=some (Dr #[])/\h.get? T2=some (Dr #[])) (hKP:∀w:BG,(K w.params).lookup T=none) (hC:∀w:BG,F9 (K w.params) c T=true) (hKP2:∀w:BG,(K w.params).lookup T2=none) (hC2:∀w:BG,F9 (K w.params) c2 T2=true)
  (F:∀(w:BG) (mg:Str->Option Value) (fa:Addr) (h:Heap),(K w.params).In h->h.Ns BA mg->mg d.name=some (.ref fa) ->
   ∃fd:BX,(∀(s:A9) (u:Value),BindsTo s fd ⟨[u],[]⟩ [(x,u)]) /\
    ∀base:Heap,(K w.params).In base->base.Ns BA mg->base.BuiltinsAt mg T->base.BuiltinsAt mg T2->aS l.prog w (K w.params) mg base CX k fa fd [x] (sp (K w.params)))
  (hsp:∀(K:Ba) (H:Hp) (a:Addr) (ns:List Int),ns.length<=n->SqL K H a (ns.map V.int)->H T=some (.tbl #[])->H T2=some (.tbl #[])->sp K [.ref a] H (fun v _=>v=.bl true) fun _ _ _=>False)
  (hCX:∀(H:Hp) (s:A9) (e:Value) (s':A9),CX [] H s (fun _ _ _=>False) e s'->False) :
  PySem.W.WalkO q loose XP YP l.row.toRowW d [] (fun f vs=>PySem.call f vs):=by
 refine Att.attach_call hn hdf fun w s₀ s₁ mg mb fa o pm cd doc a vs ns G Y ho hd hcd hmg hobj hints hlen hg=>?_
 obtain ⟨KX,hP,hP2⟩:=hY w _ Y
 obtain ⟨fd,hb,hF⟩:=F w mg fa _ KX G.T.g hmg
 have hB:∀{U:Addr},s₁.heap.get? U=some (Dr #[])->s₁.heap.BuiltinsAt mg U:=fun {U} hU=>by
  obtain ⟨bm,ob,b1,b2,b3,b4,b5,b6⟩:=G.T.bmain
  refine ⟨bm,ob,b1,b2,fun z=>?_,fun z=>?_,b3,b4,b5,b6⟩
  ·obtain ⟨o',es,ep,e,hd',_⟩:=G.T.g
   rw [z,e] at b3; cases b3; rw [hd'] at b6; cases b6
  ·rw [z,hU] at b3; cases b3; cases b4
 exact mK KX G.T.g G.T.b G.T.builtins G.T.nolimit hg hobj hints (BR hlen hn2) hr hTT hP (hKP w) (Fq KX (hC w)) (hB hP) hP2 (hKP2 w) (Fq KX (hC2 w)) (hB hP2) hF hb (fun H hS hT hT2=>hsp (K w.params) H a ns hlen hS hT hT2) fun H e s'=>hCX H s₁ e s'
end L2
namespace K55
open PySem L2 G KS
section
variable {P:Program}{w:BG}{K:Ba}{mg:Str->Option Value}{base:Heap}
def wB (ivs:List Iv) (r:Str) (x:Int) (k:Nat):Bool:=match ivs[k]? with
 | some v=>kl r x v
 | none=>false
theorem gH (ivs:List Iv) (r:Str) (x:Int):wanting ivs r x=(Bh ivs.length).filter (wB ivs r x):=rfl
theorem m_ {α:Type}(xs:List α) (p:Nat->Bool) (f:Nat->V):(xs.zipIdx.filter fun z=>p z.2).map (fun z=>f z.2)=((Bh xs.length).filter p).map f:=by
 have e:xs.zipIdx.map (·.2)=Bh xs.length:=by
  refine DD 'e' fun i h1 h2=>?_
  simp
 rw [<- e,List.filter_map,BV]
 rfl
theorem wS {sp:Int}{ps:'l'}{k:Nat}{z:Addr×Clip}(r:Str) (x:Int) (h:ps[k]?=some z):wB (aM sp ps) r x k=(decide (z.2.reel=r)&&(decide ((be sp z.2).lo<=x)&&decide (x<=(be sp z.2).hi))):=by
 unfold wB
 rw [dl h]
 rfl
def zL:Sp:=fun vs H Q _=>∃(pl p:Addr) (ps:'l') (sp:Int) (c:Clip),vs=[.ref pl,.int sp,.ref p]/\SLs H pl ps/\ps.length<64/\H p=some (.tup c.vs) /\
 ∀(t wl:Addr) (H':Hp),Same H H'->H wl=none->H' wl=some (.lst (nV (wanting (aM sp ps) c.reel (bd c))))->H' t=some (.tup [.str c.reel,.int (bd c),.ref wl])->Q (.ref t) H'
theorem scRn:ax ["strips", "spoil", "strip", "frame", "wanting"] ["strips", "spoil", "strip"] (aj g0):='a'
theorem Ag {f:Addr}{fd:BX}(F:Fun K "reason" "reason" g0 f fd) (dLeast:'k' "least" 1 ["strip"] fx) (dWn:'k' "wants" 2 ["strip", "spoil", "frame"] zJ) (n_enumerate:mg "enumerate"=none):aS P w K mg base CX0 3 f fd ["strips", "spoil", "strip"] zL:=by
 refine F.ok scRn (fun vs H Q E h=>?_) (fun cdv A outer s H vs Q E hr h=>?_)
 ·obtain ⟨pl,p,ps,sp,c,rfl,_⟩:=h
  rfl
 obtain ⟨pl,p,ps,sp,c,rfl,sl,hn,hp,q⟩:=h
 refine cL (ad (f8 (i:=3) scRn.nd (ay dLeast hr aD (aa (e_c 2) ag)))
  (ad (sB (i:=4) scRn.nd ["k", "other"] ["frame", "spoil", "strip"] [3,1,2] [("strip",'n'+2),("spoil",'n'+1),("frame",'n'+3)] rfl ⟨rfl,rfl,rfl,rfl,⟨rfl,rfl,rfl,rfl,⟨rfl,rfl,rfl,rfl,trivial⟩⟩⟩ ⟨rfl,⟨rfl,⟨rfl,trivial⟩⟩⟩ (j2 n_enumerate (e_v 0)) (fun _ _ _ _=>(zb (K:=K) (n:=2) rfl rfl (aN (Au (i:=0) (by decide +kernel:List.Nodup ((["k", "other"]:List Str)++(["frame", "spoil", "strip"]:List Str)))) (aN (Au (i:=1) (by decide +kernel:List.Nodup ((["k", "other"]:List Str)++(["frame", "spoil", "strip"]:List Str)))) cJ)))) (fun _ _ _ _=>(t_w (gJ (aJ cx (ar (bu (K:=K) rfl) (e_n 1) ae) (ar (bu (K:=K) rfl) (e_n 4) ae)) (eS (iO (ay dWn hr aD (aa (e_n 1) (aa (e_n 3) (aa (e_n 2) ag))))))))) (fun _ _ _ _=>(e_n 0)))
  (ai (aF (bJ (aa (ar az (e_c 2) ae) (aa (e_c 3) (aa (e_v 4) ag)))))))) ?_
 intros
 have zl:sizeLine=16777216:=Bo
 refine ⟨_,rfl,p,c,rfl,hp,?_⟩
 refine ⟨_,rfl,pl,rfl,⟨_,SqL.of sl.1⟩,?_⟩
 refine lF (fun k _=>wB (aM sp ps) c.reel (bd c) k) (fun k _=>V.int ((k:Nat):Int)) (SqL.of sl.1) (by rw [A2]; omega) ?_ ?_
 ·intro i x H' pt xo P1 N hxo hS hpt hx hP hN
  rw [A5] at hx
  cases hz:ps[i]? with
  | none=>rw [hz] at hx; cases hx
  | some z =>
   rw [hz] at hx
   cases hx
   obtain ⟨a,b,rfl⟩:∃a b,xo=[a,b]:=by
    match xo,hxo with
    | [a,b],_=>exact ⟨a,b,rfl⟩
   have hzt:=hS _ _ (sl.2 z (Bg hz))
   have hpt2:=hS _ _ hp
   have ew:=wS (sp:=sp) c.reel (bd c) hz
   refine ⟨pt,_,rfl,SqT.of hpt,rfl,_,_,rfl,_,_,rfl,rfl,⟨[some (.int ((i:Nat):Int)),some (.ref z.1)],rfl,rfl⟩,?_⟩
   refine ⟨_,rfl,z.1,_,_,.str z.2.reel,rfl,rfl,SqT.of hzt,af (j:=0) rfl,_,rfl,p,_,_,.str c.reel,rfl,rfl,SqT.of hpt2,af (j:=0) rfl,rfl,_,rfl,?_⟩
   refine cH (fun z1=>?_) (fun z1=>?_)
   ·have z1:z.2.reel=c.reel:=V.str.inj (of_decide_eq_true z1)
    rw [decide_eq_true z1,Bool.true_and] at ew
    refine ⟨_,rfl,_,rfl,_,rfl,z.1,z.2,sp,bd c,rfl,hzt,_,rfl,?_⟩
    rw [<- ew]
    refine cH (fun z2=>?_) (fun z2=>?_)
    ·exact ⟨_,rfl,hP _ (Same.refl _) z2⟩
    ·exact hN _ (Same.refl _) (FV.mpr z2)
   ·have z1:¬ z.2.reel=c.reel:=fun y=>z1 (decide_eq_true (by rw [y]))
    rw [decide_eq_false z1,E4] at ew
    exact dW (hN _ (Same.refl _) ew)
 ·intro D H1 s1 hD0 hD
  rw [m_ 'p' (wB (aM sp ps) c.reel (bd c)) (fun k=>V.int ((k:Nat):Int)),A2] at hD
  refine ⟨_,rfl,p,_,_,.str c.reel,rfl,rfl,SqT.of (s1 _ _ hp),af (j:=0) rfl,_,rfl,_,rfl,(by show 3<=sizeLine; decide),fun t ht=>?_⟩
  have s2:=Same.new ht (.tup [.str c.reel,.int (bd c),.ref D])
  refine q t D _ (s1.trans s2) hD0 (s2 _ _ ?_) ac
  rw [hD]
  show _=some (HO.lst (nV (wanting (aM sp ps) c.reel (bd c))))
  rw [gH,dk]
  rfl
end
section
variable {P:Program}{w:BG}{K:Ba}{mg:Str->Option Value}{base:Heap}
def ie:Pos:=⟨93,49,93,68⟩
def ic:Str:="reasons"++".<locals>."++"<lambda>"
theorem fU {T U:Addr}{pos:Pos}{qual:Str}{H H':Hp}(h:TabOk U pos qual H) (b:Bt T H H') (t:∃ts,H T=some (.tbl ts)) (n:U≠T):TabOk U pos qual H':=by
 obtain ⟨ts,ht⟩:=t
 rcases h with ⟨ps,x,y,z⟩ | ⟨c',ps,x,y,z,d⟩
 ·exact .inl ⟨ps,b _ _ n x,y,z⟩
 ·exact .inr ⟨c',ps,b _ _ n x,y,z,b _ _ (aK d ht (by intro e; unfold cod at e; cases e)) d⟩
theorem SLs.bt {T:Addr}{H H':Hp}{p:Addr}{ps:'l'}(h:SLs H p ps) (b:Bt T H H') (t:∃ts,H T=some (.tbl ts)):SLs H' p ps:=by
 obtain ⟨ts,ht⟩:=t
 exact ⟨b _ _ (aK h.1 ht 'c') h.1,fun x hx=>b _ _ (aK (h.2 x hx) ht 'c') (h.2 x hx)⟩
structure HiInv (ps:'l') (prs js:List Nat) (i:Nat) (ks:List (Str×V)):Prop where
 nd:(ks.map (·.1)).Nodup
 from_:∀x∈ks,∃(j:Nat) (z:Addr×Clip) (p:Nat),ps[j]?=some z/\z.2.reel=x.1/\x.2=V.ref z.1/\prs[j]?=some p/\∀(i' j':Nat) (z':Addr×Clip) (p':Nat),i'<i->js[i']?=some j'->ps[j']?=some z'->z'.2.reel=x.1->prs[j']?=some p'->p'<=p
 has:∀(i' j':Nat) (z':Addr×Clip),i'<i->js[i']?=some j'->ps[j']?=some z'->∃v,(z'.2.reel,v)∈ks
 len:ks.length<=i
theorem HiInv.nil (ps:'l') (prs js:List Nat):HiInv ps prs js 0 []:=⟨List.nodup_nil,(fun x hx=>nomatch hx),(fun k v p hk=>by omega),Bb _⟩
theorem eD {prs:List Nat}{j p:Nat}(h:prs[j]?=some p):prs.getD j 0=p:=by rw [A7,h]; rfl
theorem HiInv.step {ps:'l'}{prs js:List Nat}{i:Nat}{ks:List (Str×V)}(h:HiInv ps prs js i ks) (hs:js.Pairwise fun a b=>prs.getD a 0<=prs.getD b 0) {j p:Nat}{z:Addr×Clip}(hj:js[i]?=some j) (hz:ps[j]?=some z) (hp:prs[j]?=some p):HiInv ps prs js (i+1) (dP ks z.2.reel (.ref z.1)):=by
 refine ⟨i5 h.nd,fun x hx=>?_,fun i' j' z' hi hj' hz'=>?_,BR (kJ _ _ _) (by have:=h.len; omega)⟩
 ·rcases og hx with rfl | ⟨hx,hr⟩
  ·refine ⟨j,z,p,hz,rfl,rfl,hp,fun i' j' z' p' hi hj' hz' _ hp'=>?_⟩
   rcases Ej i' i with hlt | hge
   ·have:=df hs hlt hj' hj
    rw [eD hp',eD hp] at this
    exact this
   ·have e:i'=i:=by omega
    subst e
    rw [hj] at hj'
    cases hj'
    rw [hp] at hp'
    cases hp'
    exact Bb _
  ·obtain ⟨j0,z0,p0,a1,a2,a3,a4,a5⟩:=h.from_ x hx
   refine ⟨j0,z0,p0,a1,a2,a3,a4,fun i' j' z' p' hi hj' hz' hr' hp'=>?_⟩
   rcases Ej i' i with hlt | hge
   ·exact a5 i' j' z' p' hlt hj' hz' hr' hp'
   ·have e:i'=i:=by omega
    subst e
    rw [hj] at hj'
    cases hj'
    rw [hz] at hz'
    cases hz'
    exact absurd hr'.symm hr
 ·rcases Ej i' i with hlt | hge
  ·obtain ⟨v,hv⟩:=h.has i' j' z' hlt hj' hz'
   by_cases e:z'.2.reel=z.2.reel
   ·rw [e]
    exact ⟨_,fB⟩
   ·exact ⟨v,i4 hv e⟩
  ·have e:i'=i:=by omega
   subst e
   rw [hj] at hj'
   cases hj'
   rw [hz] at hz'
   cases hz'
   exact ⟨_,fB⟩
theorem HiInv.reels {ps:'l'}{prs js:List Nat}{ks:List (Str×V)}{us:List Str}{sp:Int}(h:HiInv ps prs js js.length ks) (hp:js.Perm (Bh ps.length)) (hu:us.Perm (ks.map (·.1))) (hw:us.Pairwise (fun x y=>ltS y x=false)):Reels (aM sp ps) us:=by
 refine ⟨hu.nodup_iff.mpr h.nd,fun r=>?_,hw⟩
 rw [hu.mem_iff,Bz]
 constructor
 ·rintro ⟨x,hx,rfl⟩
  obtain ⟨j,z,p,a1,a2,_⟩:=h.from_ x hx
  exact ⟨j,_,dl a1,a2⟩
 ·rintro ⟨k,v,hk,rfl⟩
  obtain ⟨z,hz,rfl⟩:=fJ hk
  have hkm:k∈js:=hp.mem_iff.mpr (BW.mpr (A8.mp hz).1)
  obtain ⟨i,hi⟩:=D8.mp hkm
  obtain ⟨v,hv⟩:=h.has i k z (A8.mp hi).1 hi hz
  exact ⟨_,hv,rfl⟩
theorem HiInv.top {ps:'l'}{prs js:List Nat}{ks:List (Str×V)}{sp:Int}(h:HiInv ps prs js js.length ks) (hp:js.Perm (Bh ps.length)) (pr:PrOk (aM sp ps) prs) (h0:0<=sp) {x:Str×V}(hx:x∈ks) :
  ∃z:Addr×Clip,z∈ps/\z.2.reel=x.1/\x.2=V.ref z.1/\NeedIs (aM sp ps) x.1 ((wanting (aM sp ps) x.1 (bd z.2)).length:Int):=by
 obtain ⟨j,z,p,a1,a2,a3,a4,a5⟩:=h.from_ x hx
 have T:Top (aM sp ps) prs x.1 p:=⟨⟨j,_,dl a1,a2,a4⟩,fun k v q b1 b2 b3=>by
  obtain ⟨z',hz',rfl⟩:=fJ b1
  have hkm:k∈js:=hp.mem_iff.mpr (BW.mpr (A8.mp hz').1)
  obtain ⟨i,hi⟩:=D8.mp hkm
  exact a5 i k z' q (A8.mp hi).1 hi hz' b2 b3⟩
 refine ⟨z,Bg a1,a2,a3,?_⟩
 have e:(wanting (aM sp ps) x.1 (bd z.2)).length=p+1:=T.want pr (j1 h0 ps) (dl a1) a2 a4
 rw [e]
 exact T.need pr (j1 h0 ps)
def u6 (H H':Hp) (D:Addr) (W:Str->Int->List V) (x:Addr×Addr×Str×Int):Prop:=H' x.1=some (.tup [.str x.2.2.1,.int x.2.2.2,.ref x.2.1])/\H x.2.1=none/\x.2.1≠D/\H' x.2.1=some (.lst (W x.2.2.1 x.2.2.2))
theorem qM {K:Ba}{a:Addr}{xs:List V}{H:Hp}{cap:St}{te:TE}{Q:VK}(W:Str->Int->List V) (f:Nat->Str×Int) (hS:SqL K H a xs) (hn:xs.length<=sizeLine)
  (el:∀(i:Nat) x H' (P:VK),Same H H'->xs[i]?=some x->(∀t wl H'',Same H' H''->H' wl=none->H'' wl=some (.lst (W (f i).1 (f i).2))->H'' t=some (.tup [.str (f i).1,.int (f i).2,.ref wl])->P (.ref t) H'')->te (some x :: cap) H' P)
  (fin:∀D (rows:List (Addr×Addr×Str×Int)) H',Same H H'->H D=none->H' D=some (.lst (rows.map fun x=>V.ref x.1))->rows.length=xs.length->(∀x∈rows,u6 H H' D W x)->(∀j x,rows[j]?=some x->x.2.2=f j)->Q (.ref D) H') :
  d4 (Itl K a) cap te Q H:=by
 intro D hD
 refine ⟨fun i m zs H2=>m=xs.length-i/\i<=xs.length/\H2 D=some (.lst zs)/\Same H H2/\∃rows:List (Addr×Addr×Str×Int),zs=rows.map (fun x=>V.ref x.1)/\rows.length=i/\(∀x∈rows,u6 H H2 D W x)/\∀j x,rows[j]?=some x->x.2.2=f j,⟨xs.length,rfl,B6 _,ac,Same.new hD _,[],rfl,rfl,(fun x hx=>nomatch hx),fun j p h=>by cases h⟩,?_⟩
 rintro i m zs H2 ⟨rfl,hi,hDz,hSm,rows,rfl,hel,hro,hrf⟩
 refine ⟨hDz,?_⟩
 by_cases h:i<xs.length
 ·refine .inr ⟨⟨xs,xs[i],hSm.seq hS,A4 h⟩,?_⟩
  rintro x H3 ⟨rfl,hy⟩
  have hx:=hy xs (hSm.seq hS)
  refine el i x H3 _ hSm hx fun t wl H4 hS4 hw0 hw ht=>?_
  have hD4:=hS4 _ _ hDz
  have nw:wl≠D:=fun z=>by rw [z,hDz] at hw0; cases hw0
  have nt:∀{b ys},H4 b=some (.tup ys)->b≠D:=fun e=>aK e hD4 'c'
  refine ⟨hD4,by rw [A2]; omega,xs.length-(i+1),by omega,rfl,h,ac,fun b u q=>?_,rows++[(t,wl,(f i).1,(f i).2)],by rw [Bf]; rfl,by rw [Bd,hel]; rfl,fun y hy=>?_,fun j y hj=>?_⟩
  ·rw [ah (ak q hD)]
   exact hS4 _ _ (hSm _ _ q)
  ·rcases B7.mp hy with hy | hy
   ·obtain ⟨r1,r2,r3,r4⟩:=hro y hy
    have r1:=hS4 _ _ r1
    exact ⟨by rw [ah (nt r1)]; exact r1,r2,r3,by rw [ah r3]; exact hS4 _ _ r4⟩
   ·rw [Bu.mp hy]
    exact ⟨by rw [ah (nt ht)]; exact ht,none_of hSm hw0,nw,by rw [ah nw]; exact hw⟩
  ·by_cases hj':j<rows.length
   ·rw [Bk hj'] at hj
    exact hrf j y hj
   ·have hl:=(A8.mp hj).1
    rw [Bd,BZ] at hl
    rw [Bm 'b',show j-rows.length=0 by omega] at hj
    cases hj
    rw [show j=i by omega]
 ·have e:i=xs.length:=by omega
  exact .inl ⟨⟨xs,hSm.seq hS,by omega⟩,fin D rows H2 hSm hD hDz 'b' hro hrf⟩
def Bt2 (T U:Addr) (H H':Hp):Prop:=∀b o,b≠T->b≠U->H b=some o->H' b=some o
def xV (T U:Addr):Sp:=fun vs H Q _=>∃(pl:Addr) (ps:'l') (spoil:Int),vs=[.ref pl,.int spoil]/\SLs H pl ps/\ps.length<64/\0<=spoil/\TabOk T fc fb H/\TabOk U ie ic H /\
 ∀(D:Addr) (rows:List (Addr×Addr×Str×Int)) (H':Hp),H D=none->Bt2 T U H H'->TabOk T fc fb H'->TabOk U ie ic H'->H' D=some (.lst (rows.map fun x=>V.ref x.1))->(∀x∈rows,u6 H H' D (fun r x=>nV (wanting (aM spoil ps) r x)) x) ->
  Reels (aM spoil ps) (rows.map fun x=>x.2.2.1)->(∀x∈rows,NeedIs (aM spoil ps) x.2.2.1 ((wanting (aM spoil ps) x.2.2.1 x.2.2.2).length:Int))->rows.length<64->Q (.ref D) H'
theorem scRs:ax ["strips", "spoil", "prints", "highest", "number"] ["strips", "spoil"] (aj f9):='a'
theorem Af {f c T U:Addr}{fd:BX}(hTU:T≠U) (F:Fun K "reasons" "reasons" f9 f fd) (hc:fd.code=.ref c) (C:EH base c U) (hB:base.BuiltinsAt mg U) (dPr:'k' "prints_for" 5 ["strips", "spoil"] (rQ T)) (dRn:'k' "reason" 3 ["strips", "spoil", "strip"] zL)
  (n_len:mg "len"=none) (n_sorted:mg "sorted"=none) (n_range:mg "range"=none):aS P w K mg base CX0 6 f fd ["strips", "spoil"] (xV T U):=by
 refine F.okT (k:=5) hc scRs (fun vs H Q E h=>?_) (fun A outer s H vs Q E hr h=>?_)
 ·obtain ⟨pl,ps,spoil,rfl,_⟩:=h
  rfl
 obtain ⟨pl,ps,spoil,rfl,sl,hn,h0,tab,tabU,q⟩:=h
 have hr:Room (2+3) _:=hr
 refine iM (ad (f8 (i:=2) scRs.nd (ay dPr hr aD (aa (e_c 0) (aa (e_c 1) ag))))
  (ad (f8 (i:=3) scRs.nd mU)
  (ad (bf BQ rfl (aZ (jp (x:="k") ["prints"] [2] [("prints",'n'+4)] hr n_sorted n_range rfl C hB (e_b ao n_len B3 (aa (e_c 0) ag)) rfl ⟨rfl,rfl,rfl,rfl,trivial⟩ ⟨rfl,trivial⟩ (fun _ _ _ _ _ hr=>(ar (bD (K:=K) rfl) (e_f 1) (e_v 0))))) (aE (i:=4) scRs.nd)
   (ai (sA (oI hr) (e_c 3) (ar az (ar aw (e_c 0) (e_v 4)) ae) (ar aw (e_c 0) (e_v 4)))))
  (ai (aF (du ["highest", "spoil", "strips"] [3,1,0] [("strips",'n'+1),("spoil",'n'+2),("highest",'n'+3)] rfl ⟨rfl,rfl,rfl,rfl,⟨rfl,rfl,rfl,rfl,⟨rfl,rfl,rfl,rfl,trivial⟩⟩⟩ ⟨rfl,⟨rfl,⟨rfl,trivial⟩⟩⟩ (aZ (e_b (mZ rfl) n_sorted 'd' (aa (e_c 3) ag))) (fun _ _ _ _=>(ay dRn hr aD (aa (e_n 3) (aa (e_n 2) (aa (zh (oI hr) (e_n 1) (e_n 0)) ag))))))))))) ?_
 intros
 have zl:sizeLine=16777216:=Bo
 refine ⟨_,rfl,_,rfl,pl,ps,spoil,rfl,sl,hn,h0,tab,fun lp prs H1 hlp bt tab1 hl1 pr=>?_⟩
 have pr:PrOk (aM spoil ps) prs:=pr
 have hlen:prs.length=ps.length:=by have:=pr.len; rwa [dk] at this
 refine fun ph hph=>?_
 have s1:=Same.new hph (.dK [])
 have sl1:SLs H1 pl ps:=sl.bt bt tab.at
 have tabU1:TabOk U ie ic H1:=fU tabU bt tab.at (Co hTU)
 obtain ⟨tu,hU1⟩:=tabU1.at
 obtain ⟨tt,hT1⟩:=tab1.at
 have nU:∀{b:Addr}{o:HO},H1 b=some o->(∀ts,o≠.tbl ts)->b≠U:=fun e h=>aK e hU1 (h _)
 have lpU:=nU hl1 (by intro _ z; cases z)
 have plU:=nU sl1.1 (by intro _ z; cases z)
 have zU:∀x∈ps,x.1≠U:=fun x hx=>nU (sl1.2 x hx) (by intro _ z; cases z)
 have phU:ph≠U:=fun z=>by rw [z,hU1] at hph; cases hph
 refine ⟨_,rfl,pl,_,rfl,.inl (SqL.of (s1 _ _ sl1.1)),ps.length,by rw [A2],hn,tabU1.same s1,fun k=>((prs.getD k.toNat 0:Nat):Int),fun k H' hk hb=>?_,fun D H2 ns hD hb tabU2 hl hp ho=>?_⟩
 ·have hz:=A4 (show k<prs.length by omega)
  refine ⟨_,rfl,_,rfl,lp,_,_,.int ((prs[k]' 'b':Nat):Int),rfl,rfl,SqL.of (hb _ _ lpU (s1 _ _ hl1)),af (j:=k) (by rw [A5,hz]; rfl),?_,fun _ _ h=>h⟩
  show V.int _=V.int ((prs.getD ((k:Int).toNat) 0:Nat):Int)
  rw [show ((k:Int).toNat)=k from rfl,eD hz]
 obtain ⟨js,rfl,hjs⟩:=kL hp
 have ho2:js.Pairwise fun a b=>prs.getD a 0<=prs.getD b 0:=(Cc.mp ho).imp fun {a b} h=>by
  have h:((prs.getD a 0:Nat):Int)<=((prs.getD b 0:Nat):Int):=h
  omega
 have hjl:js.length=ps.length:=by rw [hjs.length_eq,BL]
 have phD:ph≠D:=ak ac hD
 have pl2:=hb _ _ plU (s1 _ _ sl1.1)
 have plph:pl≠ph:=ak sl1.1 hph
 refine ⟨D,rfl,⟨_,SqL.of hl⟩,a_ (K:=K) (a:=D) (xs:=(js.map fun (j:Nat)=>((j:Nat):Int)).map V.int) (fun i σ H'=>∃(ks:List (Str×V)) (o4:Option V),σ=[some (.ref pl),some (.int spoil),some (.ref lp),some (.ref ph),o4]/\H' ph=some (.dK (eKV ks))/\Bt ph H2 H'/\HiInv ps prs js i ks)
  ⟨[],none,rfl,hb _ _ phU ac,Bt.refl _ _,HiInv.nil _ _ _⟩ ?_ ?_ ?_⟩
 ·rintro i σ H' _ ⟨ks,o4,rfl,_,bt',_⟩
  exact SqL.of (bt' _ _ (Co phD) hl)
 ·rintro i x σ H' hx ⟨ks,o4,rfl,hph',bt',hi⟩
  rw [A5,A5] at hx
  cases hj:js[i]? with
  | none=>rw [hj] at hx; cases hx
  | some j =>
   rw [hj] at hx
   cases hx
   have hjn:j<ps.length:=BW.mp (hjs.mem_iff.mp (Bg hj))
   have hil:=(A8.mp hj).1
   have hz:=A4 hjn
   have hzm:=BB hjn
   generalize ps[j]=z at hz hzm
   obtain ⟨p,hp'⟩:∃p,prs[j]?=some p:=⟨_,A4 'b'⟩
   have hpl':=bt' _ _ plph pl2
   have hz2:=bt' _ _ (ak (sl1.2 z hzm) hph) (hb _ _ (zU z hzm) (s1 _ _ (sl1.2 z hzm)))
   have hkl:=hi.len
   have hat:atI 'p' ((j:Nat):Int)=some (.ref z.1):=af (j:=j) (by rw [A5,hz]; rfl)
   refine ⟨_,rfl,_,rfl,pl,_,_,.ref z.1,rfl,rfl,SqL.of hpl',hat,_,rfl,_,rfl,_,rfl,pl,_,_,.ref z.1,rfl,rfl,SqL.of hpl',hat,z.1,_,_,.str z.2.reel,rfl,rfl,SqT.of hz2,af (j:=0) rfl,ph,_,rfl,.inl ⟨eKV ks,.inr z.2.reel,hph',rfl,by unfold eKV; rw [A2]; omega,rfl⟩,?_⟩
   exact ⟨dP ks z.2.reel (.ref z.1),_,rfl,by rw [ac]; exact congrArg (fun l=>some (HO.dK l)) (n_ (fun x=>x) ks _ _),bt'.trans Bt.upd,hi.step ho2 hj hz hp'⟩
 ·rintro σ H' ⟨ks,o4,rfl,hph',bt',hi⟩
  rw [A2,A2] at hi
  have hkl:=hi.len
  refine ⟨_,rfl,ph,ks,rfl,hph',by omega,fun D2 us hD2 hu hw=>⟨D2,rfl,⟨_,SqL.of ac⟩,?_⟩⟩
  have s2:=Same.new hD2 (.lst (us.map V.str))
  have keep:∀b o,b≠T->b≠U->H b=some o->upd H' D2 (.lst (us.map V.str)) b=some o:=fun b o e1 e2 e=>s2 _ _ (bt' _ _ (ak (bt _ _ e1 e) hph) (hb _ _ e2 (s1 _ _ (bt _ _ e1 e))))
  have tabUc:TabOk U ie ic (upd H' D2 (.lst (us.map V.str))):=by
   refine TabOk.same ?_ s2
   obtain ⟨c',ps',x1,x2,x3,x4⟩:=tabU2
   have n1:U≠ph:=Co phU
   have n2:c'≠ph:=fun z=>by rw [z,hb _ _ phU ac] at x4; unfold cod at x4; cases x4
   exact .inr ⟨c',ps',bt' _ _ n1 x1,x2,x3,bt' _ _ n2 x4⟩
  have tabc:TabOk T fc fb (upd H' D2 (.lst (us.map V.str))):=by
   have t2:TabOk T fc fb H2:=fU (T:=U) (tab1.same s1) (fun b o e h=>hb b o e h) ⟨_,s1 _ _ hU1⟩ hTU
   refine TabOk.same ?_ s2
   rcases t2 with ⟨ps',x1,x2,x3⟩ | ⟨c',ps',x1,x2,x3,x4⟩
   ·have n1:T≠ph:=fun z=>by rw [z,hb _ _ phU ac] at x1; cases x1
    exact .inl ⟨ps',bt' _ _ n1 x1,x2,x3⟩
   ·have n1:T≠ph:=fun z=>by rw [z,hb _ _ phU ac] at x1; cases x1
    have n2:c'≠ph:=fun z=>by rw [z,hb _ _ phU ac] at x4; unfold cod at x4; cases x4
    exact .inr ⟨c',ps',bt' _ _ n1 x1,x2,x3,bt' _ _ n2 x4⟩
  have back:∀b,upd H' D2 (.lst (us.map V.str)) b=none->H b=none:=fun b hb0=>by
   cases hH:H b with
   | none=>rfl
   | some o =>
    by_cases e1:b=T
    ·obtain ⟨t,ht⟩:=tabc.at
     rw [e1,ht] at hb0
     cases hb0
    ·by_cases e2:b=U
     ·obtain ⟨t,ht⟩:=tabUc.at
      rw [e2,ht] at hb0
      cases hb0
     ·rw [keep b o e1 e2 hH] at hb0
      cases hb0
  obtain ⟨tH,hTH⟩:=tab.at
  obtain ⟨uH,hUH⟩:=tabU.at
  have slc:SLs (upd H' D2 (.lst (us.map V.str))) pl ps:=⟨keep _ _ (aK sl.1 hTH 'c') (aK sl.1 hUH 'c') sl.1,fun x hx=>keep _ _ (aK (sl.2 x hx) hTH 'c') (aK (sl.2 x hx) hUH 'c') (sl.2 x hx)⟩
  have hphc:upd H' D2 (.lst (us.map V.str)) ph=some (.dK (eKV ks)):=s2 _ _ hph'
  have ex:∀r:Str,∃z:Addr×Clip,r∈us->z∈ps/\z.2.reel=r/\dq ks r=some (V.ref z.1)/\NeedIs (aM spoil ps) r ((wanting (aM spoil ps) r (bd z.2)).length:Int):=fun r=>by
   by_cases hr':r∈us
   ·obtain ⟨x,hx,rfl⟩:=Bz.mp (hu.mem_iff.mp hr')
    obtain ⟨z,b1,b2,b3,b4⟩:=hi.top hjs pr h0 hx
    refine ⟨z,fun _=>⟨b1,b2,?_,b4⟩⟩
    rw [<- b3]
    exact j5 hi.nd hx
   ·exact ⟨(0,⟨"",0,0,0⟩),fun z=>absurd z hr'⟩
  obtain ⟨cl,hcl⟩:=Classical.axiomOfChoice ex
  have hul:us.length=ks.length:=by rw [hu.length_eq,A2]
  refine qM (K:=K) (fun r x=>nV (wanting (aM spoil ps) r x)) (fun i=>(us.getD i "",bd (cl (us.getD i "")).2)) (SqL.of ac) (by rw [A2]; omega) ?_ ?_
  ·intro i x H3 P1 hS hx hP
   rw [A5] at hx
   cases hr':us[i]? with
   | none=>rw [hr'] at hx; cases hx
   | some r =>
    rw [hr'] at hx
    cases hx
    have er:us.getD i ""=r:=by rw [A7,hr']; rfl
    rw [er] at hP
    obtain ⟨b1,b2,b3,b4⟩:=hcl r (Bg hr')
    generalize cl r=z at b1 b2 b3 b4 hP
    have hdg:DGet H3 ph (.str r) (some (.ref z.1)):=by
     have:=DGet.k (k:=.inr r) (hS _ _ hphc)
     rw [show br (eKV ks) (.inr r)=some (.ref z.1) from (jz (fun x=>x) r ks).trans (by rw [b3]; rfl)] at this
     exact this
    subst b2
    exact ⟨_,rfl,_,rfl,_,rfl,_,rfl,ph,.ref z.1,rfl,hdg,pl,z.1,ps,spoil,z.2,rfl,slc.same hS,hn,hS _ _ (slc.2 z b1),fun t wl H4 s4 w0 w1 w2=>hP t wl H4 s4 w0 w1 w2⟩
  ·intro D3 rows H3 hS hD3 hl3 hrl hro hrf
   rw [A2] at hrl
   have er:(rows.map fun x=>x.2.2.1)=us:=by
    refine DD (by rw [A2]; exact hrl) fun i h1 h2=>?_
    rw [A2] at h1
    rw [Fl,hrf i _ (A4 h1)]
    show us.getD i ""=us[i]
    rw [A7,A4 h2]
    rfl
   refine q D3 rows H3 (back _ hD3) (fun b o e1 e2 e=>hS _ _ (keep b o e1 e2 e)) (tabc.same hS) (tabUc.same hS) hl3 (fun x hx=>?_) ?_ (fun x hx=>?_) 'b'
   ·obtain ⟨r1,r2,r3,r4⟩:=hro x hx
    exact ⟨r1,back _ r2,r3,r4⟩
   ·rw [er]
    exact hi.reels hjs hu hw
   ·obtain ⟨i,hi'⟩:=D8.mp hx
    rw [hrf i x hi']
    have hil:=(A8.mp hi').1
    refine (hcl _ ?_).2.2.2
    show us.getD i ""∈us
    rw [A7,A4 'b']
    exact BB _
end
end K55
namespace L2
open PySem PySem.Spec PyProof.Rows
theorem j_ {X:Cx}{x:Str}{px pos:Pos}{elt iter cnd:Expr}{sc:Scope}{wi:TI}{te:TE}{tc:TT}(ys:List Str) (js:List Nat) (cl:List (Str×Addr)) (hclos:Es sc X.env=pure cl) (hcap:Caps X sc cl ys js) (hin:ClIn X.env cl)
  (hi:QI X.nox (.Name x px) iter wi) (hcd:∀s2 H2 C ex,QT (aR X sc (x :: ys) cl s2 H2 C ex) cnd tc) (he:∀s2 H2 C ex,QE (aR X sc (x :: ys) cl s2 H2 C ex) elt te) (sd:CSd X sc cl:=by exact ⟨by rfl,by rfl,by rfl,by rfl,by rfl⟩)
  (hx:(Gf sc X.env).names.lookup x=some .local:=by rfl)
  (hnd:(x :: ys).Nodup:=by decide +kernel) (hs:∀v,CV iter X.env v=pure v:=by intro _; rfl):QE X (.ListComp elt [⟨.Name x px,iter,[cnd],0⟩] sc pos) (rK wi js tc te) :=
 ⟨uF (xs:=[x]) (fun _ _ _ _ h=>CompedF.up h) Lp.one (Tst.one fun a b c d=>(hcd a b c d).h) hclos sd hcap hin hi.h (fun _ _ _ _=>eA hnd rfl (.inl hx) (.inr hx)) (fun a b c d=>(he a b c d).h) hs⟩
theorem qT {X:Cx}{K:Ba}(hK:X.K=K) (hc:X.calm=true):bz X (.builtin "max") (fun xs H Q=>∃(a:Addr) (ns:List Int),xs=[.ref a]/\SqL K H a (ns.map V.int)/\0<ns.length/\∀m∈ns,(∀v∈ns,v<=m)->Q (.int m) H):=by
 subst hK
 intro pins s σ H xs us Q I r h
 obtain ⟨a,ns,rfl,hS,hn,q⟩:=h
 obtain ⟨u,rfl,ru⟩:=bR r
 cases ru
 obtain ⟨its,rv,pl,hz⟩:=I.list hS
 have hlen:its.length=ns.length:=by rw [<- rv.length,A2]
 have hall:AllInts its.toArray:=by
  intro v hv
  obtain ⟨i,hi⟩:=D8.mp (show v∈its by simpa using hv)
  have hi':i<ns.length:=by have:=(A8.mp hi).1; omega
  obtain ⟨u,hu,ru⟩:=rv.get (i:=i) (x:=V.int ns[i]) (by rw [A5,A4 hi']; rfl)
  rw [hi] at hu
  cases hu
  obtain ⟨t,rfl⟩:=ru
  exact ⟨_,_,rfl⟩
 obtain ⟨ys,e⟩:=hall.items
 have hys:ys.size=ns.length:=by
  have:=congrArg Array.size e
  simp [intItems] at this
  omega
 have at':∀(i:Nat) (hi:i<ns.length),numAt ys i=ns[i]:=fun i hi=>by
  obtain ⟨u,hu,ru⟩:=rv.get (i:=i) (x:=V.int ns[i]) (by rw [A5,A4 hi]; rfl)
  have hu2:(intItems ys)[i]?=some u:=by rw [<- e]; simpa using hu
  obtain ⟨t,rfl⟩:=intItems_at hu2
  obtain ⟨t',e'⟩:=ru
  injection e'
 refine max_intList (I.ok.hd hc) (by rw [<- e]; exact pl.isList) 'b' fun v h' tk hv kp=>?_
 obtain ⟨h1,h2⟩:=argBest_gt (numAt ys) (ys.size-1)
 obtain ⟨t,rfl⟩:=intItems_at hv
 generalize argBest (fun i j=>decide (numAt ys i > numAt ys j)) (ys.size-1)=j at h1 h2
 have hj:j<ns.length:=by omega
 refine ⟨.int (numAt ys j),H,I.kept kp,⟨t,rfl⟩,?_⟩
 rw [at' j hj]
 refine q _ (BB hj) fun v hv=>?_
 obtain ⟨i,hi,rfl⟩:=List.mem_iff_getElem.mp hv
 have h3:=h2 i 'b'
 rw [at' j hj,at' i hi] at h3
 exact h3
theorem fq {ns:List Int}{its:List Value}(rv:Vals (ns.map V.int) its):∀(i:Nat) (v:Value),its.toArray[i]?=some v->∃t,v=.int (ns.getD i 0) t:=by
 intro i v hv
 have hlen:its.length=ns.length:=by rw [<- rv.length,A2]
 have hv:its[i]?=some v:=by simpa using hv
 have hi:i<ns.length:=by have:=(A8.mp hv).1; omega
 obtain ⟨u,hu,t,rfl⟩:=rv.get (i:=i) (x:=V.int ns[i]) (by rw [A5,A4 hi]; rfl)
 rw [hv] at hu
 cases hu
 exact ⟨t,by rw [A7,A4 hi]; rfl⟩
theorem lM {ns:List Int}{j:Nat}(h:j<ns.length):ns.getD j 0∈ns:=by
 rw [A7,A4 h]
 exact BB h
theorem pq {ns:List Int}{v:Int}(h:v∈ns):∃i,i<ns.length/\ns.getD i 0=v:=by
 obtain ⟨i,hi,rfl⟩:=List.mem_iff_getElem.mp h
 exact ⟨i,hi,by rw [A7,A4 hi]; rfl⟩
theorem qR {X:Cx}{K:Ba}(hK:X.K=K) (hc:X.calm=true):bz X (.builtin "min") (fun xs H Q=>∃(a:Addr) (ns:List Int),xs=[.ref a]/\SqT K H a (ns.map V.int)/\0<ns.length/\∀m∈ns,(∀v∈ns,m<=v)->Q (.int m) H):=by
 subst hK
 intro pins s σ H xs us Q I r h
 obtain ⟨a,ns,rfl,hS,hn,q⟩:=h
 obtain ⟨u,rfl,ru⟩:=bR r
 cases ru
 obtain ⟨its,rv,tp,hz⟩:=I.tuple hS
 have hlen:its.length=ns.length:=by rw [<- rv.length,A2]
 have tp:s.heap.IsTuple a its.toArray:=tp
 have hlt:a<'n':=by obtain ⟨_,e,_⟩:=tp; exact Bi e
 refine call_min_walk (wpAny_pyIter_tuple tp ?_)
 refine ⟨'n',['n',a],['n'],_,_,_,_,rfl,Walks.tuple (A:=X.A.in1) (I.ok.hd hc) _ a (Bw hlt) its.toArray,⟨⟨_,Bj _ rfl,rfl,rfl⟩,tp.push _⟩,fun b hb=>?_,by rw [Be]; omega,CmpOf.ints_lt (fun i=>ns.getD i 0) (fq rv),fun v h' tk hP hk=>?_⟩
 ·show b<(s.heap.push _).objs.size
  rw [C3]
  rcases Bp.mp hb with rfl | hb
  ·exact DV _
  ·rw [Bu.mp hb]
   exact Ct hlt
 ·obtain ⟨h1,h2⟩:=argBest_lt (fun i=>ns.getD i 0) (its.toArray.size-1)
  obtain ⟨t,rfl⟩:=fq rv _ _ hP
  rw [Be] at h1 h2
  simp only [Be]
  generalize argBest (fun i j=>decide (ns.getD i 0<ns.getD j 0)) (its.length-1)=j at h1 h2
  refine ⟨.int (ns.getD j 0),H,I.kept fun b o e=>hk b o (fun hm=>?_) (A6 _ e),⟨t,rfl⟩,q _ (lM 'b') fun v hv=>?_⟩
  ·rw [Bu.mp hm] at e
   exact CB _ (Bi e)
  ·obtain ⟨i,hi,rfl⟩:=pq hv
   exact h2 i 'b'
theorem qS {X:Cx}{K:Ba}(hK:X.K=K) (hc:X.calm=true):bz X (.builtin "max") (fun xs H Q=>∃(a:Addr) (ns:List Int),xs=[.ref a]/\SqT K H a (ns.map V.int)/\0<ns.length/\∀m∈ns,(∀v∈ns,v<=m)->Q (.int m) H):=by
 subst hK
 intro pins s σ H xs us Q I r h
 obtain ⟨a,ns,rfl,hS,hn,q⟩:=h
 obtain ⟨u,rfl,ru⟩:=bR r
 cases ru
 obtain ⟨its,rv,tp,hz⟩:=I.tuple hS
 have hlen:its.length=ns.length:=by rw [<- rv.length,A2]
 have tp:s.heap.IsTuple a its.toArray:=tp
 have hlt:a<'n':=by obtain ⟨_,e,_⟩:=tp; exact Bi e
 refine call_max_walk (wpAny_pyIter_tuple tp ?_)
 refine ⟨'n',['n',a],['n'],_,_,_,_,rfl,Walks.tuple (A:=X.A.in1) (I.ok.hd hc) _ a (Bw hlt) its.toArray,⟨⟨_,Bj _ rfl,rfl,rfl⟩,tp.push _⟩,fun b hb=>?_,by rw [Be]; omega,CmpOf.ints_gt (fun i=>ns.getD i 0) (fq rv),fun v h' tk hP hk=>?_⟩
 ·show b<(s.heap.push _).objs.size
  rw [C3]
  rcases Bp.mp hb with rfl | hb
  ·exact DV _
  ·rw [Bu.mp hb]
   exact Ct hlt
 ·obtain ⟨h1,h2⟩:=argBest_gt (fun i=>ns.getD i 0) (its.toArray.size-1)
  obtain ⟨t,rfl⟩:=fq rv _ _ hP
  rw [Be] at h1 h2
  simp only [Be]
  generalize argBest (fun i j=>decide (ns.getD i 0 > ns.getD j 0)) (its.length-1)=j at h1 h2
  refine ⟨.int (ns.getD j 0),H,I.kept fun b o e=>hk b o (fun hm=>?_) (A6 _ e),⟨t,rfl⟩,q _ (lM 'b') fun v hv=>?_⟩
  ·rw [Bu.mp hm] at e
   exact CB _ (Bi e)
  ·obtain ⟨i,hi,rfl⟩:=pq hv
   exact h2 i 'b'
section
variable {prog:Program}{w:BG}{A:BC}{R:GI->A9->Prop}{I:Addr}{fp wr:List Addr}{G:Array FM->Array FM->Prop}{n:Nat}{P:Nat->Value->Prop}{St:Nat->A9->Prop}
end
section
variable {X:Cx}
end
end L2
namespace K55
open PySem L2 G KS
abbrev Tri:=Int×Int×Int
def row (c:Tri):List Int:=[c.1,c.2.1,c.2.2]
def dZ (cs:List Clip) (prs:List Nat) (r:Str) (num:Int) (k:Nat):Option Tri:=match cs[k]?,prs[k]? with
 | some c,some p=>if c.reel=r/\((p:Nat):Int)=num then some (bd c,dC c,(k:Int)) else none
 | _,_=>none
def fh (cs:List Clip) (prs:List Nat) (r:Str) (num:Int) (n:Nat):List Tri:=(Bh n).filterMap (dZ cs prs r num)
theorem cP (cs:List Clip) (prs:List Nat) (r:Str) (num:Int) (n:Nat):fh cs prs r num (n+1)=fh cs prs r num n++(dZ cs prs r num n).toList:=by
 unfold fh
 rw [Dx,List.filterMap_append]
 cases h:dZ cs prs r num n with
 | none=>simp [DO,h]
 | some x=>simp [DO,h]
theorem iy (cs:List Clip) (prs:List Nat) (r:Str) (num:Int) (n:Nat):(fh cs prs r num n).length<=n:=by
 unfold fh
 have:=List.length_filterMap_le (dZ cs prs r num) (Bh n)
 rw [BL] at this
 exact this
theorem o0 {cs:List Clip}{prs:List Nat}{r:Str}{num:Int}{k:Nat}{c:Clip}{p:Nat}(h1:cs[k]?=some c) (h2:prs[k]?=some p) (h3:c.reel=r) (h4:((p:Nat):Int)=num):dZ cs prs r num k=some (bd c,dC c,(k:Int)):=by
 unfold dZ
 rw [h1,h2]
 exact if_pos ⟨h3,h4⟩
theorem mV {cs:List Clip}{prs:List Nat}{r:Str}{num:Int}{k:Nat}{c:Clip}{p:Nat}(h1:cs[k]?=some c) (h2:prs[k]?=some p) (h3:¬ (c.reel=r/\((p:Nat):Int)=num)):dZ cs prs r num k=none:=by
 unfold dZ
 rw [h1,h2]
 exact if_neg h3
theorem kf {cs:List Clip}{prs:List Nat}{r:Str}{num:Int}{n:Nat}{x:Tri}(h:x∈fh cs prs r num n):∃(k:Nat) (c:Clip) (p:Nat),cs[k]?=some c/\prs[k]?=some p/\c.reel=r/\((p:Nat):Int)=num/\x=(bd c,dC c,(k:Int)):=by
 unfold fh at h
 obtain ⟨k,_,hk⟩:=EN.mp h
 unfold dZ at hk
 split at hk
 ·rename_i c p h1 h2
  split at hk
  ·rename_i h3
   cases hk
   exact ⟨k,c,p,h1,h2,h3.1,h3.2,rfl⟩
  ·cases hk
 ·cases hk
theorem jq (cs:List Clip) (prs:List Nat) (r:Str) (num:Int):∀n,((fh cs prs r num n).map fun x=>x.2.2).Pairwise (·≠·)/\∀x∈fh cs prs r num n,x.2.2<n
 | 0=>⟨.nil,fun x hx=>nomatch hx⟩
 | n+1=>by
  obtain ⟨h1,h2⟩:=jq cs prs r num n
  rw [cP]
  cases h:dZ cs prs r num n with
  | none =>
   refine ⟨by simpa using h1,fun x hx=>?_⟩
   have:=h2 x (by simpa using hx)
   omega
  | some y =>
   have hy:y.2.2=(n:Int):=by
    unfold dZ at h
    split at h
    ·split at h
     ·cases h; rfl
     ·cases h
    ·cases h
   refine ⟨?_,fun x hx=>?_⟩
   ·rw [Bf,Gk]
    refine ⟨h1,CZ _ _,fun a ha b hb=>?_⟩
    obtain ⟨x,hx,rfl⟩:=Bz.mp ha
    have hb:b=y.2.2:=by simpa using hb
    have:=h2 x hx
    rw [hb,hy]
    omega
   ·rcases B7.mp hx with hx | hx
    ·have:=h2 x hx
     omega
    ·have:x=y:=by simpa using hx
     rw [this,hy]
     omega
theorem xn (c:Clip):bd c<=dC c:=by
 unfold bd dC
 split <;> split <;> omega
theorem wL {cs:List Clip}{prs:List Nat}{r:Str}{num sp:Int}{n:Nat}{us:List Tri}(P:PrOk (cs.map (be sp)) prs) (h0:0<=sp) (hp:us.Perm (fh cs prs r num n)) (hs:us.Pairwise fun x y=>HT.lexLt (row y) (row x)=false)
  {k:Nat}{x y:Tri}(hx:us[k]?=some x) (hy:us[k+1]?=some y):sp<y.1-x.2.1:=by
 obtain ⟨i,c,p,a1,a2,a3,a4,a5⟩:=kf (hp.mem_iff.mp (Bg hx))
 obtain ⟨j,d,q,b1,b2,b3,b4,b5⟩:=kf (hp.mem_iff.mp (Bg hy))
 have nd:(us.map fun x=>x.2.2).Pairwise (·≠·):=((hp.map fun x=>x.2.2).pairwise_iff (fun h=>Co h)).mpr (jq cs prs r num n).1
 have hne:x.2.2≠y.2.2:=df nd (DV k) (by rw [A5,hx]; rfl) (by rw [A5,hy]; rfl)
 have hij:i≠j:=fun z=>hne (by rw [a5,b5,z])
 have hpq:p=q:=by omega
 subst hpq
 have ap:=P.apart i j (be sp c) (be sp d) p (by rw [A5,a1]; rfl) (by rw [A5,b1]; rfl) a2 b2 hij (a3.trans b3.symm)
 have hl:HT.lexLt (row y) (row x)=false:=df hs (DV k) hx hy
 have hle:x.1<=y.1:=by
  unfold row at hl
  rw [HT.lexLt_cons] at hl
  split at hl
  ·rename_i z
   omega
  ·have:=of_decide_eq_false hl
   omega
 have e1:x.1=bd c/\x.2.1=dC c:=by rw [a5]; exact ⟨rfl,rfl⟩
 have e2:y.1=bd d/\y.2.1=dC d:=by rw [b5]; exact ⟨rfl,rfl⟩
 have l1:=xn c
 have l2:=xn d
 have ap:dC c+sp<bd d\/dC d+sp<bd c:=ap
 omega
section
variable {P:Program}{w:BG}{K:Ba}{mg:Str->Option Value}{base:Heap}
theorem An {b:List Nat}{i j:Nat}(h:b[i]?=some j):(nV b)[i]?=some (V.int ((j:Nat):Int)):=by
 unfold nV
 rw [A5,h]
 rfl
def RT (H:Hp) (p:Addr) (us:List (Addr×Tri)):Prop:=H p=some (.lst 'q')/\∀x∈us,H x.1=some (.tup ((row x.2).map V.int))
theorem RT.same {H H':Hp}{p:Addr}{us:List (Addr×Tri)}(h:RT H p us) (s:Same H H'):RT H' p us:=⟨s _ _ h.1,fun x hx=>s _ _ (h.2 x hx)⟩
theorem RT.push {H:Hp}{p pt:Addr}{us:List (Addr×Tri)}{c:Tri}(h:RT H p us) (ht:H pt=some (.tup ((row c).map V.int))):RT (upd H p (.lst ('q'++[.ref pt]))) p (us++[(pt,c)]):=by
 refine ⟨by rw [ac,Bf]; rfl,fun x hx=>?_⟩
 rcases B7.mp hx with hx | hx
 ·rw [ah (aK (h.2 x hx) h.1 'c')]
  exact h.2 x hx
 ·rw [Bu.mp hx]
  rw [ah (aK ht h.1 'c')]
  exact ht
structure xL (cs:List Clip) (prs:List Nat) (r:Str) (num:Int) (us:List Tri):Prop where
 perm:us.Perm (fh cs prs r num cs.length)
 up:us.Pairwise fun x y=>HT.lexLt (row y) (row x)=false
def rY:Sp:=fun vs H Q _=>∃(pl pp:Addr) (r:Str) (num:Int) (ps:'l') (prs:List Nat),vs=[.ref pl,.ref pp,.str r,.int num]/\SLs H pl ps/\H pp=some (.lst (nV prs))/\prs.length=ps.length/\ps.length<64 /\
 ∀(l:Addr) (us:List (Addr×Tri)) (H':Hp),Same H H'->H l=none->RT H' l us->xL 's' prs r num (us.map (·.2))->Q (.ref l) H'
theorem pR {H:Hp}{Q:VK}{pf:Addr}{us:List (Addr×Tri)}{cs:List Clip}{prs:List Nat}{r:Str}{num:Int}(K:Ba) (h:RT H pf us) (hl:us.length<64) (he:us.map (·.2)=fh cs prs r num cs.length)
  (q:∀(l:Addr) (vs:List (Addr×Tri)) (H':Hp),Same H H'->H l=none->RT H' l vs->xL cs prs r num (vs.map (·.2))->Q (.ref l) H') :
  ∃(a:Addr) (ts:List (Addr×List Int)) (m:Nat),[V.ref pf]=[.ref a]/\SqL K H a (ts.map fun x=>V.ref x.1)/\(∀x∈ts,H x.1=some (.tup (x.2.map V.int))/\x.2.length=m+1)/\ts.length<64 /\
  ∀(l:Addr) (us:List (Addr×List Int)),H l=none->us.Perm ts->us.Pairwise (fun x y=>HT.lexLt y.2 x.2=false)->Q (.ref l) (upd H l (.lst 'q')):=by
 refine ⟨pf,us.map fun x=>(x.1,row x.2),2,rfl,SqL.of (by rw [h.1,BV]; rfl),fun x hx=>?_,by rw [A2]; exact hl,fun l vs hl0 hp hw=>?_⟩
 ·obtain ⟨y,hy,rfl⟩:=Bz.mp hx
  exact ⟨h.2 y hy,rfl⟩
 ·obtain ⟨ws,rfl,hws⟩:=sR hp
  have s1:=Same.new hl0 (.lst ((ws.map fun x=>(x.1,row x.2)).map fun x=>V.ref x.1))
  refine q l ws _ s1 hl0 ⟨by rw [ac,BV]; rfl,fun x hx=>s1 _ _ (h.2 x (hws.mem_iff.mp hx))⟩ ⟨?_,?_⟩
  ·rw [<- he]
   exact hws.map _
  ·rw [Cc] at hw ⊢
   exact hw
theorem scCuts:ax ["strips", "prints", "reel", "number", "told", "k", "strip"] ["strips", "prints", "reel", "number"] (aj mh):='a'
theorem vX {f:Addr}{fd:BX}(F:Fun K "cuts" "cuts" mh f fd) (dLeast:'k' "least" 1 ["strip"] fx) (dGr:'k' "greatest" 1 ["strip"] vg) (n_enumerate:mg "enumerate"=none) (n_sorted:mg "sorted"=none):aS P w K mg base CX0 2 f fd ["strips", "prints", "reel", "number"] rY:=by
 refine F.ok scCuts (fun vs H Q E h=>?_) (fun cdv A outer s H vs Q E hr h=>?_)
 ·obtain ⟨pl,pp,r,num,ps,prs,rfl,_⟩:=h
  rfl
 obtain ⟨pl,pp,r,num,ps,prs,rfl,sl,hpp,hpl,hn,q⟩:=h
 refine cL (ad (aA (i:=4) scCuts.nd (bh ag))
  (ad (bf BQ rfl (j2 n_enumerate (e_v 0)) (fK rfl (aN (aE (i:=5) scCuts.nd) (aN (aE (i:=6) scCuts.nd) cJ)))
   (ai (bK (t_w (gJ (aJ cx (ar az (e_v 6) ae) (e_v 2)) (eS (aJ cx (ar aw (e_v 1) (e_v 5)) (e_v 3)))))
    (ai (aW (aU (e_v 4) (bJ (aa (ay dLeast hr aD (aa (e_v 6) ag)) (aa (ay dGr hr aD (aa (e_v 6) ag)) (aa (e_v 5) ag)))))))
    aV)))
  (ai (aF (e_b (mX (K:=K) rfl) n_sorted 'd' (aa (e_v 4) ag)))))) ?_
 intros
 have zl:sizeLine=16777216:=Bo
 refine ⟨'g',fun pf hpf=>?_⟩
 have s0:=Same.new hpf (.lst [])
 refine ⟨_,rfl,pl,rfl,⟨_,SqL.of (s0 _ _ sl.1)⟩,ii (K:=K) (a:=pl) (xs:=ps.map fun x=>V.ref x.1) (fun i σ H'=>∃(us:List (Addr×Tri)) (o5 o6:Option V),σ=[some (.ref pl),some (.ref pp),some (.str r),some (.int num),some (.ref pf),o5,o6]/\Same H H'/\RT H' pf us/\us.map (·.2)=fh 's' prs r num i)
  ⟨[],none,none,rfl,s0,⟨ac,fun x hx=>nomatch hx⟩,rfl⟩ ?_ ?_ ?_⟩
 ·rintro i σ H' _ ⟨us,o5,o6,rfl,hS,_⟩
  exact SqL.of (hS _ _ sl.1)
 ·rintro i v σ H' p hx ⟨us,o5,o6,rfl,hS,rl,eu⟩ hp
  rw [A5] at hx
  cases hz:ps[i]? with
  | none=>rw [hz] at hx; cases hx
  | some z =>
   rw [hz] at hx
   cases hx
   have hil:=(A8.mp hz).1
   have hzm:=Bg hz
   obtain ⟨pn,hpn⟩:∃pn,prs[i]?=some pn:=⟨_,A4 'b'⟩
   have hcz:'s'[i]?=some z.2:=by rw [A5,hz]; rfl
   have s1:Same H (upd H' p (.tup [.int (i:Int),.ref z.1])):=hS.trans (Same.new hp _)
   have rl1:=rl.same (Same.new hp (.tup [.int (i:Int),.ref z.1]))
   have hzt:=s1 _ _ (sl.2 z hzm)
   have hul:us.length<=i:=by
    have h1:=congrArg Ce eu
    rw [A2] at h1
    have h2:=iy 's' prs r num i
    omega
   refine ⟨p,_,rfl,SqT.of ac,rfl,_,_,rfl,_,_,rfl,rfl,?_⟩
   refine ⟨_,rfl,z.1,_,_,.str z.2.reel,rfl,rfl,SqT.of hzt,af (j:=0) rfl,_,rfl,rfl,_,rfl,?_⟩
   refine cH (fun z1=>?_) (fun z1=>?_)
   ·have z1:z.2.reel=r:=V.str.inj (of_decide_eq_true z1)
    refine ⟨_,rfl,_,rfl,pp,_,_,.int ((pn:Nat):Int),rfl,rfl,SqL.of (s1 _ _ hpp),af (j:=i) (An hpn),_,rfl,rfl,_,rfl,?_⟩
    refine cH (fun z2=>?_) (fun z2=>?_)
    ·have z2:((pn:Nat):Int)=num:=V.int.inj (of_decide_eq_true z2)
     refine ⟨_,rfl,.inl ⟨rfl,_,SqL.of rl1.1⟩,_,rfl,z.1,z.2,rfl,hzt,_,rfl,z.1,z.2,rfl,hzt,_,rfl,(by show 3<=sizeLine; decide),fun pt hpt=>?_⟩
     have s2:=Same.new hpt (.tup [.int (bd z.2),.int (dC z.2),.int (i:Int)])
     refine ⟨pf,_,_,rfl,rfl,s2 _ _ rl1.1,by rw [A2]; omega,us++[(pt,(bd z.2,dC z.2,(i:Int)))],_,_,rfl,fun b o hb=>?_,(rl1.same s2).push ac,?_⟩
     ·rw [ah (ak hb hpf)]
      exact s2 _ _ (s1 _ _ hb)
     ·rw [Bf,eu,cP,o0 hcz hpn z1 z2]
      rfl
    ·refine ⟨us,_,_,rfl,s1,rl1,?_⟩
     rw [eu,cP,mV hcz hpn fun y=>z2 (decide_eq_true (by rw [y.2]))]
     simp
   ·refine dW ⟨us,_,_,rfl,s1,rl1,?_⟩
    rw [eu,cP,mV hcz hpn fun y=>z1 (decide_eq_true (by rw [y.1]))]
    simp
 ·rintro σ H' ⟨us,o5,o6,rfl,hS,rl,eu⟩
  rw [A2,show ps.length='s'.length from (A2 ..).symm] at eu
  have hul:us.length<64:=by
   have h1:=congrArg Ce eu
   rw [A2] at h1
   have h2:=iy 's' prs r num 's'.length
   rw [A2] at h2
   rw [A2] at h1
   omega
  exact ⟨_,rfl,pR K rl hul eu fun l vs H2 s2 hl0 rl2 ok=>q l vs H2 (hS.trans s2) (none_of hS hl0) rl2 ok⟩
end
def bj (cs:List Clip):List (Str×Int):=cs.flatMap fun c=>c.nums.map fun n=>(c.reel,n)
theorem wA (c:Clip):(c.nums.map fun n=>(c.reel,n))=c.ms.map fun m=>(m.reel,m.n):=by
 rw [cy,BD,BV]
 have e:c.nums=c.a :: c.nums.drop 1:=by rw [Clip.nums_eq]; rfl
 conv=>lhs; rw [e,BD]
 rfl
theorem fM:∀cs:List Clip,bj cs=(moments cs).map fun m=>(m.reel,m.n)
 | []=>rfl
 | c :: r=>by
  have ih:=fM r
  unfold bj moments at *
  rw [Ck,Ck,Bf,ih,wA]
theorem eF (cs:List Clip) (c:Clip):bj (cs++[c])=bj cs++c.nums.map fun n=>(c.reel,n):=by
 unfold bj
 rw [CQ,Ck,EF,BH]
theorem le (cs:List Clip):(bj cs).length=(moments cs).length:=by rw [fM,A2]
def bI:Int->List Mo->List (Int×Int)
 | _,[]=>[]
 | i,m :: r=>(if 0<m.f then [(i,m.f)] else [])++bI (i+1) r
theorem jn:∀(i:Int) (a b:List Mo),bI i (a++b)=bI i a++bI (i+(a.length:Int)) b
 | i,[],b=>by rw [List.nil_append,CI]; show bI i b=[]++bI (i+0) b; rw [Int.add_zero]; rfl
 | i,m :: r,b=>by
  rw [F5]
  show _++bI (i+1) (r++b)=(_++bI (i+1) r)++_
  rw [jn (i+1) r b,Cj,BK,show i+1+(r.length:Int)=i+((r.length+1:Nat):Int) by omega]
theorem ij (r:Str):∀(i:Int) (ns:List Int),bI i (ns.map fun n=>⟨r,n,0⟩)=[]
 | _,[]=>rfl
 | i,n :: t=>by
  show (if (0:Int)<0 then _ else [])++bI (i+1) (t.map fun n=>⟨r,n,0⟩)=[]
  rw [ij r (i+1) t]
  rfl
theorem mR (i:Int) (c:Clip):bI i c.ms=if 0<c.f then [(i,c.f)] else []:=by
 rw [cy]
 show (if 0<c.f then [(i,c.f)] else [])++bI (i+1) _=_
 rw [ij,BH]
theorem ik (cs:List Clip) (c:Clip):bI 0 (moments (cs++[c]))=bI 0 (moments cs)++if 0<c.f then [(((moments cs).length:Int),c.f)] else []:=by
 unfold moments
 rw [CQ,Ck,EF,BH,jn,mR,El]
theorem jm:∀(i:Int) (ms:List Mo),(bI i ms).length<=ms.length
 | _,[]=>Bb _
 | i,m :: r=>by
  have:=jm (i+1) r
  show ((if 0<m.f then [(i,m.f)] else [])++bI (i+1) r).length<=_
  rw [Bd,BK]
  split
  ·rw [BZ]; omega
  ·rw [CI]; omega
theorem bH {ps:'l'}{i:Nat}{z:Addr×Clip}(h:ps[i]?=some z):'s'.take (i+1)='s'.take i++[z.2]:=by
 rw [Fb,A5,h]
 rfl
def PL (H:Hp) (D:Addr) (us:List (Addr×Str×Int)):Prop:=H D=some (.lst 'q')/\∀x∈us,H x.1=some (.tup [.str x.2.1,.int x.2.2])
theorem PL.same {H H':Hp}{D:Addr}{us:List (Addr×Str×Int)}(h:PL H D us) (s:Same H H'):PL H' D us:=⟨s _ _ h.1,fun x hx=>s _ _ (h.2 x hx)⟩
theorem PL.push {H:Hp}{D t:Addr}{us:List (Addr×Str×Int)}{r:Str}{m:Int}(h:PL H D us) (ht:H t=some (.tup [.str r,.int m])):PL (upd H D (.lst ('q'++[.ref t]))) D (us++[(t,r,m)]):=by
 have ne:∀{b ys},H b=some (.tup ys)->b≠D:=fun e=>aK e h.1 'c'
 refine ⟨by rw [ac,Bf]; rfl,fun x hx=>?_⟩
 rcases B7.mp hx with hx | hx
 ·rw [ah (ne (h.2 x hx))]
  exact h.2 x hx
 ·rw [Bu.mp hx,ah (ne ht)]
  exact ht
def PI (H:Hp) (D:Addr) (us:List (Addr×Int×Int)):Prop:=H D=some (.lst 'q')/\∀x∈us,H x.1=some (.tup [.int x.2.1,.int x.2.2])
theorem PI.same {H H':Hp}{D:Addr}{us:List (Addr×Int×Int)}(h:PI H D us) (s:Same H H'):PI H' D us:=⟨s _ _ h.1,fun x hx=>s _ _ (h.2 x hx)⟩
theorem PI.push {H:Hp}{D t:Addr}{us:List (Addr×Int×Int)}{r m:Int}(h:PI H D us) (ht:H t=some (.tup [.int r,.int m])):PI (upd H D (.lst ('q'++[.ref t]))) D (us++[(t,r,m)]):=by
 have ne:∀{b ys},H b=some (.tup ys)->b≠D:=fun e=>aK e h.1 'c'
 refine ⟨by rw [ac,Bf]; rfl,fun x hx=>?_⟩
 rcases B7.mp hx with hx | hx
 ·rw [ah (ne (h.2 x hx))]
  exact h.2 x hx
 ·rw [Bu.mp hx,ah (ne ht)]
  exact ht
def iD (x:Int×Int):PyData:=.tuple [.int x.1,.int x.2]
theorem xI {K:Ba}{H:Hp}:∀xs:List (Addr×Int×Int),(∀x∈xs,H x.1=some (.tup [.int x.2.1,.int x.2.2]))->DenAll K H (xs.map fun x=>V.ref x.1) ((xs.map (·.2)).map iD)
 | [],_=>.nil
 | x :: xs,h=>.cons (.tup (SqT.of (h x (Bq ..))) (.cons (.int _) (.cons (.int _) .nil))) (xI xs fun y hy=>h y (Br _ hy))
theorem PI.den {K:Ba}{H:Hp}{p:Addr}{xs:List (Addr×Int×Int)}(h:PI H p xs):Den K H (.ref p) (.list ((xs.map (·.2)).map iD)):=.lst (SqL.of h.1) (xI xs h.2)
theorem layIs:∀cs:List (Int×Int),Cz (cs.map iD)=true
 | []=>rfl
 | c :: r=>by
  rw [BD]
  simp [Cz,C4,iD,layIs r]
theorem depIs:∀cs:List (Int×Int),Cw (cs.map iD)<=1
 | []=>by simp [Cw]
 | c :: r=>by
  have:=depIs r
  rw [BD]
  simp [Cw,DR,iD]
  omega
theorem ui (cs:List (Int×Int)):(EK (cs.map iD)).canLay0=true:=by simp [C4,layIs cs]
theorem AB (cs:List (Int×Int)):(EK (cs.map iD)).depth<=60:=by
 have:=depIs cs
 simp [DR]
 omega
section
variable {P:Program}{w:BG}{K:Ba}{mg:Str->Option Value}{base:Heap}
def nB:Sp:=fun vs H Q _=>∃i:Int,vs=[.int i]/\Q (.bl true) H
theorem zS:ax ["_law_found"] ["_law_found"] (aj c8):='a'
theorem yM {f:Addr}{fd:BX}(F:Fun K "_law_whole" "_law_whole" c8 f fd) (n_isinstance:mg "isinstance"=none) (n_int:mg "int"=none) (n_bool:mg "bool"=none):aS P w K mg base CX0 1 f fd ["_law_found"] nB:=by
 refine F.ok zS (fun vs H Q E h=>?_) (fun cdv A outer s H vs Q E hr h=>?_)
 ·obtain ⟨i,rfl,_⟩:=h
  rfl
 obtain ⟨i,rfl,q⟩:=h
 refine eT (ai (aF (uI (e_b d3 n_isinstance PyProof.Rows.boot_isinstance (aa (e_v 0) (aa (zi (v:=.ty "int") n_int PyProof.Rows.boot_int rfl) ag))) (uE (Ax (e_b d3 n_isinstance PyProof.Rows.boot_isinstance (aa (e_v 0) (aa (zi (v:=.ty "bool") n_bool 'd' rfl) ag)))))))) ?_
 refine ⟨_,rfl,_,_,_,true,rfl,TyOf.int i,.inr ⟨_,rfl⟩,kZ,true,rfl,iG ?_⟩
 exact ⟨_,rfl,_,_,_,false,rfl,TyOf.int i,.inr ⟨_,rfl⟩,ut,false,rfl,q⟩
def pD (x:Str×Int):PyData:=.tuple [.str x.1,.int x.2]
theorem xG {K:Ba}{H:Hp}:∀xs:List (Addr×Str×Int),(∀x∈xs,H x.1=some (.tup [.str x.2.1,.int x.2.2]))->DenAll K H (xs.map fun x=>V.ref x.1) ((xs.map (·.2)).map pD)
 | [],_=>.nil
 | x :: xs,h=>.cons (.tup (SqT.of (h x (Bq ..))) (.cons (.str _) (.cons (.int _) .nil))) (xG xs fun y hy=>h y (Br _ hy))
theorem PL.den {K:Ba}{H:Hp}{p:Addr}{xs:List (Addr×Str×Int)}(h:PL H p xs):Den K H (.ref p) (.list ((xs.map (·.2)).map pD)):=.lst (SqL.of h.1) (xG xs h.2)
theorem xp:∀cs:List (Str×Int),(∀c∈cs,B5 c.1=true)->Cz (cs.map pD)=true
 | [],_=>rfl
 | c :: r,h=>by
  have hf:=h c (Bq ..)
  rw [BD]
  simp [Cz,C4,pD,hf,xp r fun y hy=>h y (Br _ hy)]
theorem xE:∀cs:List (Str×Int),Cw (cs.map pD)<=1
 | []=>by simp [Cw]
 | c :: r=>by
  have:=xE r
  rw [BD]
  simp [Cw,DR,pD]
  omega
theorem fH {cs:List (Str×Int)}(h:∀c∈cs,B5 c.1=true):(EK (cs.map pD)).canLay0=true:=by simp [C4,xp cs h]
theorem uM (cs:List (Str×Int)):(EK (cs.map pD)).depth<=60:=by
 have:=xE cs
 simp [DR]
 omega
def nD (b:List Nat):PyData:=.list (b.map fun (j:Nat)=>Et ((j:Nat):Int))
theorem xH {K:Ba}{H:Hp}:∀b:List Nat,DenAll K H (nV b) (b.map fun (j:Nat)=>Et ((j:Nat):Int))
 | []=>.nil
 | j :: b=>.cons (.int _) (xH b)
theorem AC {K:Ba}{H:Hp}{p:Addr}{b:List Nat}(h:H p=some (.lst (nV b))):Den K H (.ref p) (nD b):=.lst (SqL.of h) (xH b)
theorem xq:∀b:List Nat,Cz (b.map fun (j:Nat)=>Et ((j:Nat):Int))=true
 | []=>rfl
 | j :: b=>by
  rw [BD]
  simp [Cz,C4,xq b]
theorem xF:∀b:List Nat,Cw (b.map fun (j:Nat)=>Et ((j:Nat):Int))=0
 | []=>by simp [Cw]
 | j :: b=>by
  rw [BD]
  simp [Cw,DR,xF b]
theorem yW (b:List Nat):(nD b).canLay0=true:=by unfold nD; simp [C4,xq b]
theorem AV (b:List Nat):(nD b).depth<=60:=by unfold nD; simp [DR,xF b]
theorem uY {α:Type}(xs:List α):(xs.map fun _=>true).all id=true:=by
 rw [List.all_map]
 simp
def kx:Sp:=fun vs H Q _=>∃(p:Addr) (c:Clip),vs=[.ref p]/\H p=some (.tup c.vs)/\c.cnt<=10000/\∀D H',Same H H'->H D=none->H' D=some (.lst (c.nums.map V.int))->Q (.ref D) H'
theorem scFrames:ax ["_law_clip", "_law_way"] ["_law_clip"] (aj cF):='a'
theorem qj {f:Addr}{fd:BX}(F:Fun K "_law_frames" "_law_frames" cF f fd) (n_range:mg "range"=none) (n_abs:mg "abs"=none):aS P w K mg base CX0 1 f fd ["_law_clip"] kx:=by
 refine F.ok scFrames (fun vs H Q E h=>?_) (fun cdv A outer s H vs Q E hr h=>?_)
 ·obtain ⟨p,c,rfl,_⟩:=h
  rfl
 obtain ⟨p,c,rfl,hp,hm,q⟩:=h
 refine cL (ad (f8 (i:=1) scFrames.nd ae)
  (ad (fz (bK (aJ gz (ar az (e_c 0) ae) (ar az (e_c 0) ae))
   (ai (f8 (i:=1) scFrames.nd (ip bZ ae)))
   aV))
  (ai (aF (du ["_law_clip", "_law_way"] [0,1] [("_law_way",'n'+2),("_law_clip",'n'+1)] rfl ⟨rfl,rfl,rfl,rfl,⟨rfl,rfl,rfl,rfl,trivial⟩⟩ ⟨rfl,⟨rfl,trivial⟩⟩ (dn n_range (aB aG (e_b bL n_abs 'd' (aa (aB aQ (ar az (e_c 0) ae) (ar az (e_c 0) ae)) ag)) ae)) (fun _ _ _ _=>(aB aG (ar (bu (K:=K) rfl) (e_n 1) ae) (aB g_ (e_n 2) (e_n 0))))))))) ?_
 intros
 have zl:sizeLine=16777216:=Bo
 have wy:=d7 c
 refine ⟨fun σ' H1=>σ'=[some (.ref p),some (.int c.way)]/\H1=H,?_,?_⟩
 ·refine ⟨_,rfl,p,_,_,.int c.b,rfl,rfl,SqT.of hp,af (j:=2) rfl,_,rfl,p,_,_,.int c.a,rfl,rfl,SqT.of hp,af (j:=1) rfl,_,_,rfl,rfl,_,rfl,cH (fun y=>?_) (fun y=>?_)⟩
  ·have y:c.b<c.a:=of_decide_eq_true y
   have e:c.way=-1:=if_pos y
   rw [e]
   exact ⟨_,rfl,rfl,rfl⟩
  ·have y:¬ c.b<c.a:=fun z=>y (decide_eq_true z)
   have e:c.way=1:=if_neg y
   rw [e]
   exact ⟨rfl,rfl⟩
 rintro σ H1 ⟨rfl,rfl⟩
 have e1:(if c.b-c.a<0 then -(c.b-c.a) else c.b-c.a)+1=(c.cnt:Int):=by
  unfold Clip.cnt
  split <;> omega
 refine ⟨_,rfl,p,_,_,.int c.b,rfl,rfl,SqT.of hp,af (j:=2) rfl,_,rfl,p,_,_,.int c.a,rfl,rfl,SqT.of hp,af (j:=1) rfl,_,_,rfl,rfl,_,rfl,_,_,rfl,rfl,(c.cnt:Int),(by rw [<- e1]),?_,?_,?_⟩
 ·omega
 ·omega
 have e:((c.cnt:Int)).toNat=c.cnt:=Cy _
 rw [e]
 refine uR (lo:=0) (n:=c.cnt) (fun i=>V.int (c.a+(i:Int)*c.way)) 'b' ?_ ?_
 ·intro i H' R hi sm hR
  have e2:c.a+c.way*(0+(i:Int))=c.a+(i:Int)*c.way:=by
   show c.a+c.way*(0+(i:Int))=c.a+(i:Int)*c.way
   rw [El,Int.mul_comm]
  refine ⟨_,rfl,p,_,_,.int c.a,rfl,rfl,SqT.of (sm _ _ hp),af (j:=1) rfl,_,rfl,_,rfl,_,_,rfl,rfl,.inl ?_,_,_,rfl,rfl,?_⟩
  ·rcases wy with z | z <;> rw [z] <;> exact ⟨by decide,by decide⟩
  ·show R (.int (c.a+c.way*(0+(i:Int)))) H'
   rw [e2]
   exact hR H' (Same.refl _)
 ·intro D H' sm hD hD'
  refine q D H' sm hD ?_
  rw [hD']
  unfold Clip.nums
  rw [BV]
  rfl
def jD:Sp:=fun vs H Q _=>∃(p:Addr) (ps:'l'),vs=[.ref p]/\ST H p ps/\(∀x∈ps,Sm x.2/\x.2.cnt<=10000)/\(moments 's').length<=100000/\∀(l:Addr) (us:List (Addr×Str×Int)) (H':Hp),Same H H'->H l=none->PL H' l us->us.map (·.2)=bj 's'->Q (.ref l) H'
theorem scOf:ax ["_law_strips", "_law_found", "_law_strip", "_law_number"] ["_law_strips"] (aj bN):='a'
theorem Ai {f:Addr}{fd:BX}(F:Fun K "_law_of_strips" "_law_of_strips" bN f fd) (dFr:'k' "frames_of" 3 ["strip"] lY):aS P w K mg base CX0 4 f fd ["_law_strips"] jD:=by
 refine F.ok scOf (fun vs H Q E h=>?_) (fun cdv A outer s H vs Q E hr h=>?_)
 ·obtain ⟨p,ps,rfl,_⟩:=h
  rfl
 obtain ⟨p,ps,rfl,st,hsm,hmo,q⟩:=h
 refine cL (ad (aA (i:=1) scOf.nd (bh ag))
  (ad (bf BQ rfl (aZ (e_v 0)) (aE (i:=2) scOf.nd)
   (ai (bf BQ rfl (aZ (ay dFr hr aD (aa (e_v 2) ag))) (aE (i:=3) scOf.nd)
    (ai (aW (aU (e_v 1) (bJ (aa (ar az (e_v 2) ae) (aa (e_v 3) ag)))))))))
  (ai (aF (e_v 1))))) ?_
 intros
 have zl:sizeLine=16777216:=Bo
 refine ⟨'g',fun pf hpf=>?_⟩
 have s0:=Same.new hpf (.lst [])
 refine ⟨_,rfl,p,rfl,⟨_,SqL.of (s0 _ _ st.1)⟩,a_ (K:=K) (a:=p) (xs:=ps.map fun x=>V.ref x.1) (fun i σ H'=>∃(us:List (Addr×Str×Int)) (o2 o3:Option V),σ=[some (.ref p),some (.ref pf),o2,o3]/\Same H H'/\PL H' pf us/\us.map (·.2)=bj ('s'.take i))
  ⟨[],none,none,rfl,s0,⟨ac,fun x hx=>nomatch hx⟩,rfl⟩ (fun i σ H' _ ⟨_,_,_,_,s,_⟩=>SqL.of (s _ _ st.1)) ?_ ?_⟩
 ·rintro i x σ H' hx ⟨us,o2,o3,rfl,hS,pl,eu⟩
  rw [A5] at hx
  cases hz:ps[i]? with
  | none=>rw [hz] at hx; cases hx
  | some z =>
   rw [hz] at hx
   cases hx
   have hzm:=Bg hz
   obtain ⟨sm,hc⟩:=hsm z hzm
   have ht:=hS _ _ (st.2 z hzm)
   have bound:(bj ('s'.take i)).length+z.2.nums.length<=100000:=by
    have h1:(bj ('s'.take (i+1))).length<=(bj 's').length:=by
     conv=>rhs; rw [<- CT (i+1) 's']
     unfold bj
     rw [CQ,Bd]
     omega
    rw [bH hz,eF,Bd,A2] at h1
    rw [le 's'] at h1
    omega
   refine ⟨_,rfl,z.1,z.2,rfl,ht,sm,fun l hl0=>?_⟩
   have S1:=Same.new hl0 (.lst (z.2.nums.map V.int))
   have hl':=ac (H:=H') (a:=l) (o:=.lst (z.2.nums.map V.int))
   have hS0:∀b,H' b=H' b:=fun _=>rfl
   have t1:=S1
   refine ⟨l,rfl,⟨_,SqL.of hl'⟩,a_ (K:=K) (a:=l) (xs:=z.2.nums.map V.int) (fun j σ H2=>∃(vs:List (Addr×Str×Int)) (o3:Option V),σ=[some (.ref p),some (.ref pf),some (.ref z.1),o3]/\Same H H2/\H2 l=some (.lst (z.2.nums.map V.int))/\PL H2 pf (us++vs)/\vs.map (·.2)=(z.2.nums.take j).map fun n=>(z.2.reel,n))
    ⟨[],_,rfl,hS.trans t1,hl',by rw [BH]; exact pl.same t1,rfl⟩ (fun j σ H' _ ⟨_,_,_,_,h,_⟩=>SqL.of h) ?_ ?_⟩
   ·rintro j y σ H2 hy ⟨vs,o3,rfl,hS2,hl2,pl2,ev⟩
    rw [A5] at hy
    cases hu:z.2.nums[j]? with
    | none=>rw [hu] at hy; cases hy
    | some u =>
     rw [hu] at hy
     cases hy
     have hjl:=(A8.mp hu).1
     have ht2:=hS2 _ _ (st.2 z hzm)
     have lus:=congrArg Ce eu
     have lvs:=congrArg Ce ev
     rw [A2] at lus lvs
     rw [A2,B9] at lvs
     refine ⟨_,rfl,.inl ⟨rfl,_,SqL.of pl2.1⟩,_,rfl,z.1,_,_,.str z.2.reel,rfl,rfl,SqT.of ht2,af (j:=0) rfl,_,rfl,'i',fun pt hpt=>?_⟩
     have t3:=Same.new hpt (.tup [.str z.2.reel,.int u])
     refine ⟨pf,_,_,rfl,rfl,t3 _ _ pl2.1,by rw [A2,Bd]; omega,vs++[(pt,z.2.reel,u)],_,rfl,Bt.same (hS2.trans t3) Bt.upd hpf,?_,?_,?_⟩
     ·rw [ah (fun e=>by rw [e,hS0 pf] at hl0; exact absurd hl0 (by rw [pl.1]; intro z; cases z))]
      exact t3 _ _ hl2
     ·rw [<- Cj]
      exact (pl2.same t3).push ac
     ·rw [Bf,ev,Fb,hu,Bf]
      rfl
   ·rintro σ H2 ⟨vs,o3,rfl,hS2,hl2,pl2,ev⟩
    rw [A2,B4] at ev
    exact ⟨us++vs,_,_,rfl,hS2,pl2,by rw [Bf,eu,ev,bH hz,eF]⟩
 ·rintro σ H' ⟨us,o2,o3,rfl,hS,pl,eu⟩
  rw [A2,<- A2 (f:=(·.2)),B4] at eu
  exact ⟨_,rfl,q pf us H' hS hpf pl eu⟩
theorem scFilm:ax ["_law_clips_here", "_law_found", "_law_clip", "_law_number"] ["_law_clips_here"] (aj dL):='a'
theorem vW {f:Addr}{fd:BX}(F:Fun K "_law_film" "_law_film" dL f fd) (dLF:'k' "_law_frames" 1 ["_law_clip"] kx):aS P w K mg base CX0 2 f fd ["_law_clips_here"] jD:=by
 refine F.ok scFilm (fun vs H Q E h=>?_) (fun cdv A outer s H vs Q E hr h=>?_)
 ·obtain ⟨p,ps,rfl,_⟩:=h
  rfl
 obtain ⟨p,ps,rfl,st,hsm,hmo,q⟩:=h
 refine cL (ad (aA (i:=1) scFilm.nd (bh ag))
  (ad (bf BQ rfl (aZ (e_v 0)) (aE (i:=2) scFilm.nd)
   (ai (bf BQ rfl (aZ (ay dLF hr aD (aa (e_v 2) ag))) (aE (i:=3) scFilm.nd)
    (ai (aW (aU (e_v 1) (bJ (aa (ar az (e_v 2) ae) (aa (e_v 3) ag)))))))))
  (ai (aF (e_v 1))))) ?_
 intros
 have zl:sizeLine=16777216:=Bo
 refine ⟨'g',fun pf hpf=>?_⟩
 have s0:=Same.new hpf (.lst [])
 refine ⟨_,rfl,p,rfl,⟨_,SqL.of (s0 _ _ st.1)⟩,a_ (K:=K) (a:=p) (xs:=ps.map fun x=>V.ref x.1) (fun i σ H'=>∃(us:List (Addr×Str×Int)) (o2 o3:Option V),σ=[some (.ref p),some (.ref pf),o2,o3]/\Same H H'/\PL H' pf us/\us.map (·.2)=bj ('s'.take i))
  ⟨[],none,none,rfl,s0,⟨ac,fun x hx=>nomatch hx⟩,rfl⟩ (fun i σ H' _ ⟨_,_,_,_,s,_⟩=>SqL.of (s _ _ st.1)) ?_ ?_⟩
 ·rintro i x σ H' hx ⟨us,o2,o3,rfl,hS,pl,eu⟩
  rw [A5] at hx
  cases hz:ps[i]? with
  | none=>rw [hz] at hx; cases hx
  | some z =>
   rw [hz] at hx
   cases hx
   have hzm:=Bg hz
   obtain ⟨sm,hc⟩:=hsm z hzm
   have ht:=hS _ _ (st.2 z hzm)
   have bound:(bj ('s'.take i)).length+z.2.nums.length<=100000:=by
    have h1:(bj ('s'.take (i+1))).length<=(bj 's').length:=by
     conv=>rhs; rw [<- CT (i+1) 's']
     unfold bj
     rw [CQ,Bd]
     omega
    rw [bH hz,eF,Bd,A2] at h1
    rw [le 's'] at h1
    omega
   refine ⟨_,rfl,z.1,z.2,rfl,ht,hc,fun l H1 S1 hl0 hl'=>?_⟩
   have hS0:∀b,H' b=H' b:=fun _=>rfl
   have t1:=S1
   refine ⟨l,rfl,⟨_,SqL.of hl'⟩,a_ (K:=K) (a:=l) (xs:=z.2.nums.map V.int) (fun j σ H2=>∃(vs:List (Addr×Str×Int)) (o3:Option V),σ=[some (.ref p),some (.ref pf),some (.ref z.1),o3]/\Same H H2/\H2 l=some (.lst (z.2.nums.map V.int))/\PL H2 pf (us++vs)/\vs.map (·.2)=(z.2.nums.take j).map fun n=>(z.2.reel,n))
    ⟨[],_,rfl,hS.trans t1,hl',by rw [BH]; exact pl.same t1,rfl⟩ (fun j σ H' _ ⟨_,_,_,_,h,_⟩=>SqL.of h) ?_ ?_⟩
   ·rintro j y σ H2 hy ⟨vs,o3,rfl,hS2,hl2,pl2,ev⟩
    rw [A5] at hy
    cases hu:z.2.nums[j]? with
    | none=>rw [hu] at hy; cases hy
    | some u =>
     rw [hu] at hy
     cases hy
     have hjl:=(A8.mp hu).1
     have ht2:=hS2 _ _ (st.2 z hzm)
     have lus:=congrArg Ce eu
     have lvs:=congrArg Ce ev
     rw [A2] at lus lvs
     rw [A2,B9] at lvs
     refine ⟨_,rfl,.inl ⟨rfl,_,SqL.of pl2.1⟩,_,rfl,z.1,_,_,.str z.2.reel,rfl,rfl,SqT.of ht2,af (j:=0) rfl,_,rfl,'i',fun pt hpt=>?_⟩
     have t3:=Same.new hpt (.tup [.str z.2.reel,.int u])
     refine ⟨pf,_,_,rfl,rfl,t3 _ _ pl2.1,by rw [A2,Bd]; omega,vs++[(pt,z.2.reel,u)],_,rfl,Bt.same (hS2.trans t3) Bt.upd hpf,?_,?_,?_⟩
     ·rw [ah (fun e=>by rw [e,hS0 pf] at hl0; exact absurd hl0 (by rw [pl.1]; intro z; cases z))]
      exact t3 _ _ hl2
     ·rw [<- Cj]
      exact (pl2.same t3).push ac
     ·rw [Bf,ev,Fb,hu,Bf]
      rfl
   ·rintro σ H2 ⟨vs,o3,rfl,hS2,hl2,pl2,ev⟩
    rw [A2,B4] at ev
    exact ⟨us++vs,_,_,rfl,hS2,pl2,by rw [Bf,eu,ev,bH hz,eF]⟩
 ·rintro σ H' ⟨us,o2,o3,rfl,hS,pl,eu⟩
  rw [A2,<- A2 (f:=(·.2)),B4] at eu
  exact ⟨_,rfl,q pf us H' hS hpf pl eu⟩
def nK:Sp:=fun vs H Q _=>∃(p:Addr) (ps:'l'),vs=[.ref p]/\ST H p ps/\(moments 's').length<=100000/\∀(l:Addr) (us:List (Addr×Int×Int)) (H':Hp),Same H H'->H l=none->PI H' l us->us.map (·.2)=bI 0 (moments 's')->Q (.ref l) H'
theorem scFades:ax ["_law_rows", "_law_found", "_law_at", "_law_row"] ["_law_rows"] (aj dc):='a'
theorem tP {f:Addr}{fd:BX}(F:Fun K "_law_fades" "_law_fades" dc f fd) (n_abs:mg "abs"=none):aS P w K mg base CX0 1 f fd ["_law_rows"] nK:=by
 refine F.ok scFades (fun vs H Q E h=>?_) (fun cdv A outer s H vs Q E hr h=>?_)
 ·obtain ⟨p,ps,rfl,_⟩:=h
  rfl
 obtain ⟨p,ps,rfl,st,hmo,q⟩:=h
 refine iM (ad (aA (i:=1) scFades.nd (bh ag))
  (ad (aA (i:=2) scFades.nd ae)
  (ad (bf BQ rfl (aZ (e_v 0)) (aE (i:=3) scFades.nd)
   (ad (bK (aJ kN (ar az (e_v 3) ae) ae)
    (ai (aW (aU (e_v 1) (bJ (aa (e_v 2) (aa (ar az (e_v 3) ae) ag))))))
    aV)
   (ai (aA (i:=2) scFades.nd (aB aG (aB aG (e_v 2) (e_b bL n_abs 'd' (aa (aB aQ (ar az (e_v 3) ae) (ar az (e_v 3) ae)) ag))) ae)))))
  (ai (aF (e_v 1)))))) ?_
 intros
 have zl:sizeLine=16777216:=Bo
 refine ⟨'g',fun pf hpf=>?_⟩
 have s0:=Same.new hpf (.lst [])
 refine ⟨_,rfl,p,rfl,⟨_,SqL.of (s0 _ _ st.1)⟩,a_ (K:=K) (a:=p) (xs:=ps.map fun x=>V.ref x.1) (fun i σ H'=>∃(us:List (Addr×Int×Int)) (o3:Option V),σ=[some (.ref p),some (.ref pf),some (.int ((moments ('s'.take i)).length:Int)),o3]/\Same H H'/\PI H' pf us/\us.map (·.2)=bI 0 (moments ('s'.take i)))
  ⟨[],none,rfl,s0,⟨ac,fun x hx=>nomatch hx⟩,rfl⟩ (fun i σ H' _ ⟨_,_,_,s,_⟩=>SqL.of (s _ _ st.1)) ?_ ?_⟩
 ·rintro i x σ H' hx ⟨us,o3,rfl,hS,pl,eu⟩
  rw [A5] at hx
  cases hz:ps[i]? with
  | none=>rw [hz] at hx; cases hx
  | some z =>
   rw [hz] at hx
   cases hx
   have hzm:=Bg hz
   have ht:=hS _ _ (st.2 z hzm)
   have en:((moments ('s'.take i)).length:Int)+(if z.2.b-z.2.a<0 then -(z.2.b-z.2.a) else z.2.b-z.2.a)+1=((moments ('s'.take (i+1))).length:Int):=by
    rw [bH hz]
    unfold moments
    rw [CQ,Ck,EF,BH,Bd,cq]
    unfold Clip.cnt
    split <;> omega
   have lus:us.length<=100000:=by
    have h1:=congrArg Ce eu
    rw [A2] at h1
    have h2:=jm 0 (moments ('s'.take i))
    have h3:(moments ('s'.take i)).length<=(moments 's').length:=by
     conv=>rhs; rw [<- CT i 's']
     unfold moments
     rw [CQ,Bd]
     omega
    omega
   have step:∀(us':List (Addr×Int×Int)) (H2:Hp),Same H H2->PI H2 pf us'->us'.map (·.2)=bI 0 (moments ('s'.take (i+1)))->H2 z.1=some (.tup z.2.vs)->∃(us:List (Addr×Int×Int)) (o3:Option V),[some (.ref p),some (.ref pf),some (V.int (((moments ('s'.take i)).length:Int)+(if z.2.b-z.2.a<0 then -(z.2.b-z.2.a) else z.2.b-z.2.a)+1)),some (.ref z.1)]=[some (.ref p),some (.ref pf),some (V.int ((moments ('s'.take (i+1))).length:Int)),o3]/\Same H H2/\PI H2 pf us/\us.map (·.2)=bI 0 (moments ('s'.take (i+1))):=fun us' H2 a b c _=>⟨us',_,by rw [en],a,b,c⟩
   refine ⟨_,rfl,z.1,_,_,.int z.2.f,rfl,rfl,SqT.of ht,af (j:=3) rfl,_,_,rfl,rfl,_,rfl,cH (fun y=>?_) (fun y=>?_)⟩
   ·have y:0<z.2.f:=of_decide_eq_true y
    refine ⟨_,rfl,.inl ⟨rfl,_,SqL.of pl.1⟩,_,rfl,_,rfl,z.1,_,_,.int z.2.f,rfl,rfl,SqT.of ht,af (j:=3) rfl,'i',fun pt hpt=>?_⟩
    have t3:=Same.new hpt (.tup [.int ((moments ('s'.take i)).length:Int),.int z.2.f])
    refine ⟨pf,_,_,rfl,rfl,t3 _ _ pl.1,by rw [A2]; omega,?_⟩
    have pl3:=(pl.same t3).push (t:=pt) ac
    have S3:Same H (upd (upd H' pt (.tup [.int ((moments ('s'.take i)).length:Int),.int z.2.f])) pf (.lst ('q'++[.ref pt]))):=Bt.same (hS.trans t3) Bt.upd hpf
    have ht3:=S3 _ _ (st.2 z hzm)
    refine ⟨_,rfl,_,rfl,z.1,_,_,.int z.2.b,rfl,rfl,SqT.of ht3,af (j:=2) rfl,_,rfl,z.1,_,_,.int z.2.a,rfl,rfl,SqT.of ht3,af (j:=1) rfl,_,_,rfl,rfl,_,rfl,_,_,rfl,rfl,_,_,rfl,rfl,?_⟩
    refine step _ _ S3 pl3 ?_ ht3
    rw [Bf,eu,bH hz,ik,if_pos y]
    rfl
   ·have y:¬ 0<z.2.f:=fun k=>y (decide_eq_true k)
    refine ⟨_,rfl,_,rfl,z.1,_,_,.int z.2.b,rfl,rfl,SqT.of ht,af (j:=2) rfl,_,rfl,z.1,_,_,.int z.2.a,rfl,rfl,SqT.of ht,af (j:=1) rfl,_,_,rfl,rfl,_,rfl,_,_,rfl,rfl,_,_,rfl,rfl,?_⟩
    refine step _ _ hS pl ?_ ht
    rw [eu,bH hz,ik,if_neg y,BH]
 ·rintro σ H' ⟨us,o3,rfl,hS,pl,eu⟩
  rw [A2,<- A2 (f:=(·.2)),B4] at eu
  exact ⟨_,rfl,q pf us H' hS hpf pl eu⟩
end
def gC (cs:List Clip):List Int:=(Bh (cs.length-2)).map fun j=>eK cs (j+1)
theorem jg (cs:List Clip):(gC cs).length=cs.length-2:=by unfold gC; rw [A2,BL]
theorem jh {cs:List Clip}{i:Nat}(h:i<cs.length-2):(gC cs)[i]?=some (eK cs (i+1)):=by
 unfold gC
 rw [A5,CS h]
 rfl
theorem AE (c:Clip):(if c.b-c.a<0 then -(c.b-c.a) else c.b-c.a)=(c.cnt:Int)-1:=by
 unfold Clip.cnt
 split <;> omega
section
variable {P:Program}{w:BG}{K:Ba}{mg:Str->Option Value}{base:Heap}
def rW:Sp:=fun vs H Q _=>∃(p:Addr) (ps:'l'),vs=[.ref p]/\ST H p ps/\ps.length<=100000/\∀l H',Same H H'->H l=none->H' l=some (.lst ((gC 's').map V.int))->Q (.ref l) H'
theorem scGaps:ax ["_law_strips", "_law_begins", "_law_at", "_law_strip", "_law_found", "_law_k", "_law_reel", "_law_first", "_law_last", "_law_fade"] ["_law_strips"] (aj dJ):='a'
theorem vU {f:Addr}{fd:BX}(F:Fun K "_law_gaps" "_law_gaps" dJ f fd) (n_abs:mg "abs"=none) (n_range:mg "range"=none) (n_len:mg "len"=none):aS P w K mg base CX0 1 f fd ["_law_strips"] rW:=by
 refine F.ok scGaps (fun vs H Q E h=>?_) (fun cdv A outer s H vs Q E hr h=>?_)
 ·obtain ⟨p,ps,rfl,_⟩:=h
  rfl
 obtain ⟨p,ps,rfl,st,hl,q⟩:=h
 refine wT (ad (aA (i:=1) scGaps.nd (bh ag))
  (ad (aA (i:=2) scGaps.nd ae)
  (ad (bf BQ rfl (aZ (e_v 0)) (aE (i:=3) scGaps.nd)
   (ad (aA (i:=2) scGaps.nd (aB aQ (e_v 2) (ar az (e_v 3) ae)))
   (ad (aW (aU (e_v 1) (e_v 2)))
   (ai (aA (i:=2) scGaps.nd (aB aG (aB aG (e_v 2) (e_b bL n_abs 'd' (aa (aB aQ (ar az (e_v 3) ae) (ar az (e_v 3) ae)) ag))) ae))))))
  (ad (aA (i:=4) scGaps.nd (bh ag))
  (ad (bf BQ rfl (uu n_range ae (aB aQ (e_b ao n_len B3 (aa (e_v 0) ag)) ae)) (aE (i:=5) scGaps.nd)
   (ad (iW (ar aw (e_v 0) (aB aQ (e_v 5) ae)) (fK rfl (aN (aE (i:=6) scGaps.nd) (aN (aE (i:=7) scGaps.nd) (aN (aE (i:=8) scGaps.nd) (aN (aE (i:=9) scGaps.nd) cJ))))))
   (ai (aW (aU (e_v 4) (aB aQ (aB aQ (aB aQ (ar aw (e_v 1) (aB aG (e_v 5) ae)) (ar aw (e_v 1) (aB aQ (e_v 5) ae))) (e_b bL n_abs 'd' (aa (aB aQ (e_v 8) (e_v 7)) ag))) ae))))))
  (ai (aF (e_v 4)))))))) ?_
 intros
 have zl:sizeLine=16777216:=Bo
 have hm:'p'.length=ps.length:=A2 ..
 have hm2:'s'.length=ps.length:=A2 ..
 refine ⟨'g',fun pb hb=>?_⟩
 have s1:=Same.new hb (.lst [])
 refine ⟨_,rfl,p,rfl,⟨_,SqL.of (s1 _ _ st.1)⟩,a_ (K:=K) (a:=p) (xs:=ps.map fun x=>V.ref x.1) (fun i σ H'=>∃o:Option V,σ=[some (.ref p),some (.ref pb),some (.int (aH 's' i)),o,none,none,none,none,none,none]/\Same H H'/\H' pb=some (.lst (((Bh i).map (bgA 's')).map V.int)))
  ⟨none,rfl,s1,ac⟩ (fun i σ H' _ ⟨_,_,s,_⟩=>SqL.of (s _ _ st.1)) ?_ ?_⟩
 ·rintro i x σ H' hx ⟨o,rfl,hS,hpb⟩
  have hi:i<ps.length:=by
   have:=(A8.mp hx).1
   omega
  have st':=st.same hS
  obtain ⟨a,g,h,_⟩:=st'.get hi
  rw [g] at hx
  cases hx
  have np:a≠pb:=aK h hpb 'c'
  refine ⟨_,rfl,_,rfl,a,_,_,.int _,rfl,rfl,SqT.of h,af (j:=3) rfl,_,_,rfl,rfl,?_⟩
  refine ⟨_,rfl,.inl ⟨rfl,_,SqL.of hpb⟩,_,rfl,pb,_,_,rfl,rfl,hpb,by rw [A2,A2,BL]; omega,?_⟩
  have h':upd H' pb (.lst (((Bh i).map (bgA 's')).map V.int++[V.int (bgA 's' i)])) a=some (.tup (clA 's' i).vs):=by rw [ah np]; exact h
  refine ⟨_,rfl,_,rfl,a,_,_,.int _,rfl,rfl,SqT.of h',af (j:=2) rfl,_,rfl,a,_,_,.int _,rfl,rfl,SqT.of h',af (j:=1) rfl,_,_,rfl,rfl,_,rfl,_,_,rfl,rfl,_,_,rfl,rfl,some (.ref a),?_,fun b u hu=>?_,?_⟩
  ·have e:aH 's' i-(clA 's' i).f+(if (clA 's' i).b-(clA 's' i).a<0 then -((clA 's' i).b-(clA 's' i).a) else (clA 's' i).b-(clA 's' i).a)+1=aH 's' (i+1):=by
    rw [AE]
    show _=aH 's' i-(clA 's' i).f+((clA 's' i).cnt:Int)
    omega
   show [some (V.ref p),some (.ref pb),some (.int (aH 's' i-(clA 's' i).f+(if (clA 's' i).b-(clA 's' i).a<0 then -((clA 's' i).b-(clA 's' i).a) else (clA 's' i).b-(clA 's' i).a)+1)),some (.ref a),none,none,none,none,none,none]=_
   rw [e]
  ·rw [ah (ak hu hb)]
   exact hS _ _ hu
  ·rw [ac,pk]
   rfl
 ·rintro σ H1 ⟨o,rfl,s1,hpb⟩
  rw [hm] at hpb ⊢
  refine ⟨'g',fun pg hg=>?_⟩
  have s2:=Same.new hg (.lst [])
  have S2:=s1.trans s2
  refine ⟨_,rfl,p,_,rfl,.inl (SqL.of (S2 _ _ st.1)),_,_,rfl,rfl,1,_,rfl,⟨by decide,by decide,by rw [hm]; omega,by rw [hm]; omega⟩,?_⟩
  rw [hm]
  refine bQ (lo:=1) (n:=((ps.length:Int)-1-1).toNat) (fun i σ H'=>∃o3 o5 o6 o7 o8 o9:Option V,σ=[some (.ref p),some (.ref pb),some (.int (aH 's' ps.length)),o3,some (.ref pg),o5,o6,o7,o8,o9]/\Same H1 H'/\H' pg=some (.lst (((gC 's').take i).map V.int))) ⟨_,none,none,none,none,none,rfl,s2,ac⟩ ?_ ?_
  ·rintro i σ H' hi ⟨o3,o5,o6,o7,o8,o9,rfl,hS,hpg⟩
   have st':=st.same (s1.trans hS)
   have hpb':=hS _ _ hpb
   have gb:∀k,k<ps.length->(((Bh ps.length).map (bgA 's')).map V.int)[k]?=some (.int (bgA 's' k)):=fun k hk=>by
    rw [A5,A5,CS hk]
    rfl
   obtain ⟨a1,g1,h1,_⟩:=st'.get (k:=i) 'b'
   refine ⟨_,rfl,_,rfl,_,_,rfl,rfl,p,_,_,_,rfl,rfl,SqL.of st'.1,bv (k:=i) 'b' g1,a1,_,rfl,SqT.of h1,rfl,_,_,rfl,_,_,rfl,_,_,rfl,_,_,rfl,rfl,?_⟩
   have gi:=jh (cs:=ps.map (·.2)) (i:=i) (by rw [hm2]; omega)
   refine ⟨_,rfl,.inl ⟨rfl,_,SqL.of hpg⟩,_,rfl,_,rfl,_,_,rfl,rfl,pb,_,_,_,rfl,rfl,SqL.of hpb',bv (k:=i+1+1) 'b' (gb (i+1+1) 'b'),_,rfl,_,rfl,_,_,rfl,rfl,pb,_,_,_,rfl,rfl,SqL.of hpb',bv (k:=i) 'b' (gb i 'b'),_,_,rfl,rfl,_,rfl,_,rfl,_,_,rfl,rfl,_,rfl,_,_,rfl,rfl,_,_,rfl,rfl,pg,_,_,rfl,rfl,hpg,by rw [A2,B9]; omega,_,_,_,_,_,_,rfl,Bt.same hS Bt.upd hg,?_⟩
   rw [ac,Cf,gi,Bf]
   have e:bgA 's' (i+1+1)-bgA 's' i-(if (clA 's' i).b-(clA 's' i).a<0 then -((clA 's' i).b-(clA 's' i).a) else (clA 's' i).b-(clA 's' i).a)-1=eK 's' (i+1):=by
    rw [AE]
    unfold eK
    show aH 's' (i+1)-_+_-_-(aH 's' i-(clA 's' i).f)-_-_=_
    have e2:aH 's' (i+1)=aH 's' i-(clA 's' i).f+((clA 's' i).cnt:Int):=rfl
    omega
   show some (HO.lst (_++[V.int (bgA 's' (i+1+1)-bgA 's' i-(if (clA 's' i).b-(clA 's' i).a<0 then -((clA 's' i).b-(clA 's' i).a) else (clA 's' i).b-(clA 's' i).a)-1)]))=_
   rw [e]
   rfl
  ·rintro σ H' ⟨o3,o5,o6,o7,o8,o9,rfl,hS,hpg⟩
   refine ⟨_,rfl,q pg H' (s1.trans hS) (s1.free hg) ?_⟩
   rw [hpg,C9 (by rw [jg,hm2]; omega)]
end
structure Lv (cs:List Clip) (fr:Int):Prop where
 cd:Cd2 cs
 fr0:0<=fr
 fr:∀L c,cs=L++[c]->fr<=c.cnt-c.f
theorem Lv.nil:Lv [] 0:=⟨Cd2.nil,Ci 0,fun L c e=>by simp at e⟩
theorem Lv.push {cs:List Clip}{fr:Int}{c:Clip}(h:Lv cs fr) (d0:0<=c.f) (h1:cs=[]->c.f=0) (h2:c.f<=fr\/c.f=0) (h3:c.f<=c.cnt):Lv (cs++[c]) (c.cnt-c.f):=by
 refine ⟨h.cd.snoc d0 h3 h1 fun L e he=>?_,by omega,fun L e he=>?_⟩
 ·have:=h.fr L e he
  have:=(h.cd.cd.all e (by rw [he]; simp)).2
  rcases h2 with z | z <;> omega
 ·have:=List.append_inj' he rfl
  cases this.2
  exact Ci _
theorem xK (c:Clip):(if c.b-c.a<0 then -(c.b-c.a) else c.b-c.a)+1=(c.cnt:Int):=by
 unfold Clip.cnt
 split <;> omega
theorem wN {m n:Nat}{H:Hp}{l:Addr}{ps:'l'}(h:CL m n H l ps) (hn:ps≠[]):∃a c,H l=some (.lst 'p')/\atI 'p' (-1)=some (.ref a)/\COk m n c/\H a=some (.tup c.vs):=by
 obtain ⟨A,z,rfl⟩:∃A c,ps=A++[c]:=⟨_,_,(Dg hn).symm⟩
 have hz:=h.2 z (BI _ (Bu.mpr rfl))
 refine ⟨z.1,z.2,h.1,?_,hz.2,hz.1⟩
 rw [Bf]
 exact iB _ _
theorem AD (ns:List Int):∃ms:List Int,fg (ns.map V.int) (some 2) (some 32)=ms.map V.int/\ms.length<=30:=by
 unfold fg
 refine ⟨_,by rw [<- List.map_drop,<- List.map_take],?_⟩
 rw [B9,Fd,show (some (2:Int))=some ((2:Nat):Int) from rfl,show (some (32:Int))=some ((32:Nat):Int) from rfl,HT.sIx_nat,HT.sIx_nat]
 omega
section
variable {P:Program}{w:BG}{K:Ba}{mg:Str->Option Value}{base:Heap}
def nN (K:Ba):Sp:=fun vs H Q _=>∃(a:Addr) (ns:List Int),vs=[.ref a,.int 30]/\SqL K H a (ns.map V.int) /\
 ∀(l:Addr) (ps:'l') (H':Hp),Same H H'->H l=none->CL 9 1000 H' l ps->Cd2 's'->ps.length<=30->Q (.ref l) H'
theorem scClips:ax ["_law_script", "_law_most", "_law_found", "_law_free", "_law_cell_here", "_law_xs", "_law_many", "_law_first", "_law_reel", "_law_way", "_law_last", "_law_fade"] ["_law_script", "_law_most"] (aj de):='a'
theorem tR {f:Addr}{fd:BX}(F:Fun K "_law_clips" "_law_clips" de f fd) (dNum:'k' "_law_numbers" 1 ["_law_cell_here", "_law_many"] xb) (n_max:mg "max"=none) (n_min:mg "min"=none) (n_abs:mg "abs"=none):aS P w K mg base CX0 2 f fd ["_law_script", "_law_most"] (nN K):=by
 refine F.ok scClips (fun vs H Q E h=>?_) (fun cdv A outer s H vs Q E hr h=>?_)
 ·obtain ⟨a,ns,rfl,_⟩:=h
  rfl
 obtain ⟨a,ns,rfl,hS,q⟩:=h
 refine iM (ad (aA (i:=2) scClips.nd (bh ag))
  (ad (aA (i:=3) scClips.nd ae)
  (ad (bf BQ rfl (aZ (lx jF (e_v 0) (bP ae) (bP (aB aG ae (e_v 1))))) (aE (i:=4) scClips.nd)
   (ad (aA (i:=5) scClips.nd (ay dNum hr aD (aa (e_v 4) (aa ae ag))))
   (ad (aA (i:=6) scClips.nd (aB aG ae (aB bC (ar aw (e_v 5) ae) (ar aw (bh (aa ae (aa ae (aa ae (aa ae ag))))) (aB bC (ar aw (e_v 5) ae) ae)))))
   (ad (aA (i:=7) scClips.nd (aB aG (aB bC (ar aw (e_v 5) ae) ae) (e_v 6)))
   (ad (aA (i:=8) scClips.nd (ar aw (bh (aa jo (aa jo ag))) (aB bC (aB jR (ar aw (e_v 5) ae) ae) ae)))
   (ad (aA (i:=9) scClips.nd (ar aw (bh (aa ae (aa (ip bZ ae) ag))) (aB bC (ar aw (e_v 5) ae) ae)))
   (ad (fz (bK (t_w (gJ (aJ (dg hr) (e_v 2) (bh ag)) (eS (aJ kN (aB bC (ar aw (e_v 5) ae) ae) ae))))
    (ad (aA (i:=8) scClips.nd (ar az (ar aw (e_v 2) (ip bZ ae)) ae))
    (ai (aA (i:=7) scClips.nd (e_b (gm rfl) n_max 'd' (aa ae (aa (aB aG (ar az (ar aw (e_v 2) (ip bZ ae)) ae) (ar aw (bh (aa ae (aa (ip bZ ae) (aa ae (aa ae ag))))) (aB bC (ar aw (e_v 5) ae) ae))) ag))))))
    aV))
   (ad (aA (i:=10) scClips.nd (aB aG (e_v 7) (aB g_ (aB aQ (e_v 6) ae) (e_v 9))))
   (ad (fz (bK (aJ gz (e_v 10) ae)
    (ai (aA (i:=10) scClips.nd (aB aQ (aB aG (e_v 7) (e_v 6)) ae)))
    aV))
   (ad (aA (i:=11) scClips.nd ae)
   (ad (fz (bK (t_w (gJ (aJ (dg hr) (e_v 2) (bh ag)) (eS (aJ cx (aB bC (ar aw (e_v 5) ae) ae) ae))))
    (ai (aA (i:=11) scClips.nd (aB bC (aB jR (ar aw (e_v 5) ae) ae) (aB aG (e_b (jt rfl) n_min 'd' (aa (e_v 3) (aa (aB aG (e_b bL n_abs 'd' (aa (aB aQ (e_v 10) (e_v 7)) ag)) ae) ag))) ae))))
    aV))
   (ad (aW (aU (e_v 2) (bJ (aa (e_v 8) (aa (e_v 7) (aa (e_v 10) (aa (e_v 11) ag)))))))
   (ai (aA (i:=3) scClips.nd (aB aQ (aB aG (e_b bL n_abs 'd' (aa (aB aQ (e_v 10) (e_v 7)) ag)) ae) (e_v 11))))))))))))))))
  (ai (aF (e_v 2)))))) ?_
 intros
 have zl:sizeLine=16777216:=Bo
 refine ⟨'g',fun pf hpf=>?_⟩
 have s0:=Same.new hpf (.lst [])
 obtain ⟨ms,em,lm⟩:=AD ns
 refine ⟨_,rfl,_,rfl,_,rfl,_,_,rfl,rfl,_,rfl,a,_,rfl,s0.seq hS,fun pm hpm=>?_⟩
 have em':fg (ns.map V.int) (some 2) (some (2+30))=ms.map V.int:=em
 rw [em']
 have s1:=Same.new hpm (.lst (ms.map V.int))
 have S1:=s0.trans s1
 refine ⟨pm,rfl,⟨_,SqL.of ac⟩,a_ (K:=K) (a:=pm) (xs:=ms.map V.int) (fun i σ H'=>∃(ps:'l') (fr:Int) (o4 o5 o6 o7 o8 o9 o10 o11:Option V),σ=[some (.ref a),some (.int 30),some (.ref pf),some (.int fr),o4,o5,o6,o7,o8,o9,o10,o11]/\CL 9 (31+9*i) H' pf ps/\Lv 's' fr/\ps.length=i/\Same H H'/\H' pm=some (.lst (ms.map V.int)))
  ⟨[],0,none,none,none,none,none,none,none,none,rfl,CL.nil (s1 _ _ ac),Lv.nil,rfl,S1,ac⟩ ?_ ?_ ?_⟩
 ·rintro i σ H' _ ⟨ps,fr,_,_,_,_,_,_,_,_,rfl,_,_,_,_,hm⟩
  exact SqL.of hm
 ·rintro i x σ H' hx ⟨ps,fr,o4,o5,o6,o7,o8,o9,o10,o11,rfl,cl,lv,hlen,sm,hm⟩
  have hi:i<ms.length:=by
   have:=(A8.mp hx).1
   rwa [A2] at this
  rw [A5] at hx
  cases hz:ms[i]? with
  | none=>rw [hz] at hx; cases hx
  | some z =>
   rw [hz] at hx
   cases hx
   refine ⟨_,rfl,z,7,rfl,by decide,fun px xs H1 s1 hxl hpx0 hpx=>?_⟩
   obtain ⟨x0,x1,x2,x3,x4,x5,x6,rfl⟩:∃x0 x1 x2 x3 x4 x5 x6,xs=[x0,x1,x2,x3,x4,x5,x6]:=by
    match xs,hxl with
    | [x0,x1,x2,x3,x4,x5,x6],_=>exact ⟨_,_,_,_,_,_,_,rfl⟩
   obtain ⟨dv,hdv,dm⟩:=fO (xs:=[V.int 1,.int 4,.int 9,.int 2]) (i:=x1 % 4) 'b' (by show _<(4:Int); omega)
   obtain ⟨d,rfl,d1,d9⟩:∃d:Int,dv=.int d/\1<=d/\d<=9:=by
    simp only [Bp,Cg,or_false] at dm
    rcases dm with rfl | rfl | rfl | rfl <;> exact ⟨_,rfl,by decide,by decide⟩
   refine ⟨_,rfl,px,_,_,.int x0,rfl,rfl,SqL.of hpx,af (j:=0) rfl,'j',fun p1 hp1=>?_⟩
   have t1:=Same.new hp1 (.lst [V.int 1,.int 4,.int 9,.int 2])
   refine ⟨_,rfl,px,_,_,.int x1,rfl,rfl,SqL.of (t1 _ _ hpx),af (j:=1) rfl,_,_,rfl,rfl,(by show (0:Int)<4; decide),p1,_,_,.int d,rfl,rfl,SqL.of ac,hdv,_,_,rfl,rfl,(by omega:(0:Int)<d),_,_,rfl,rfl,?_⟩
   have hpx1:=t1 _ _ hpx
   have S2:=s1.trans t1
   generalize upd H1 p1 (.lst [V.int 1,.int 4,.int 9,.int 2])=H2 at t1 hpx1 S2 ⊢
   have m1:1<=1+x0 % d:=by have:=Fz x0 (show d≠0 by omega); omega
   have m9:1+x0 % d<=9:=by have:=FA x0 (show 0<d by omega); omega
   obtain ⟨mm,hmm⟩:∃mm,1+x0 % d=mm:=⟨_,rfl⟩
   rw [hmm] at m1 m9
   refine ⟨_,rfl,px,_,_,.int x2,rfl,rfl,SqL.of hpx1,af (j:=2) rfl,_,_,rfl,rfl,(by show (0:Int)<24; decide),_,rfl,_,_,rfl,rfl,?_⟩
   refine ⟨'i',fun p2 hp2=>?_⟩
   have t2:=Same.new hp2 (.lst [V.str "a",.str "ab"])
   obtain ⟨rv,hrv,rm⟩:=fO (xs:=[V.str "a",.str "ab"]) (i:=x1 / 4 % 2) 'b' (by show _<(2:Int); omega)
   obtain ⟨r,rfl,rl,rf⟩:∃r:Str,rv=.str r/\r.length<=100/\zt r:=by
    simp only [Bp,Cg,or_false] at rm
    rcases rm with rfl | rfl <;> exact ⟨_,rfl,by decide +kernel,by decide +kernel⟩
   refine ⟨_,rfl,px,_,_,.int x1,rfl,rfl,SqL.of (t2 _ _ hpx1),af (j:=1) rfl,_,_,rfl,rfl,⟨by decide,by decide⟩,_,_,rfl,rfl,(by show (0:Int)<2; decide),p2,_,_,.str r,rfl,rfl,SqL.of ac,hrv,?_⟩
   have hpx2:=t2 _ _ hpx1
   have S3:=S2.trans t2
   generalize upd H2 p2 (.lst [V.str "a",.str "ab"])=H3 at t2 hpx2 S3 ⊢
   obtain ⟨wv,hwv,wm⟩:=fO (xs:=[V.int 1,.int (-1)]) (i:=x3 % 2) 'b' (by show _<(2:Int); omega)
   obtain ⟨wy,rfl,wy1⟩:∃wy:Int,wv=.int wy/\(wy=1\/wy=-1):=by
    simp only [Bp,Cg,or_false] at wm
    rcases wm with rfl | rfl
    ·exact ⟨_,rfl,.inl rfl⟩
    ·exact ⟨_,rfl,.inr rfl⟩
   refine ⟨_,rfl,'i',fun p3 hp3=>?_⟩
   have t3:=Same.new hp3 (.lst [V.int 1,.int (-1)])
   refine ⟨_,rfl,px,_,_,.int x3,rfl,rfl,SqL.of (t3 _ _ hpx2),af (j:=3) rfl,_,_,rfl,rfl,(by show (0:Int)<2; decide),p3,_,_,.int wy,rfl,rfl,SqL.of ac,hwv,?_⟩
   have hpx3:=t3 _ _ hpx2
   have S4:=S3.trans t3
   have ff:∀c∈ps.map (·.2),B5 c.reel=true:=fun c hc=>by
    obtain ⟨x,hx,rfl⟩:=Bz.mp hc
    exact (cl.2 x hx).2.rf
   generalize upd H3 p3 (.lst [V.int 1,.int (-1)])=H4 at t3 hpx3 S4 ⊢
   refine ⟨fun σ' H5=>∃(fi:Int) (re:Str),σ'=[some (.ref a),some (.int 30),some (.ref pf),some (.int fr),some (.int z),some (.ref px),some (.int mm),some (.int fi),some (.str re),some (.int wy),o10,o11]/\0<=fi/\fi<=32+9*(ps.length:Int)/\(re.length<=100/\zt re)/\Same H4 H5,?_,?_⟩
   ·refine ⟨_,rfl,'g',fun p4 hp4=>?_⟩
    have t4:=Same.new hp4 (.lst [])
    refine ⟨_,_,(cl.same (S4.trans t4)).st.den,.lst (SqL.of ac) .nil,Ao ff,rfl,BR (Nat.min_le_right _ _) 'f',_,rfl,?_⟩
    have base':0<=x2 % 24+mm/\x2 % 24+mm<=32+9*(ps.length:Int):=⟨by omega,by omega⟩
    cases hcs:ps with
    | nil =>
     refine iteN (by rw [il]; rfl) (dW ?_)
     rw [<- hcs]
     exact ⟨_,_,(by rw [<- hmm]; rfl),base'.1,base'.2,⟨rl,rf⟩,t4⟩
    | cons c0 cr =>
     refine iteY rfl ?_
     rw [<- hcs]
     refine ⟨_,rfl,px,_,_,.int x5,rfl,rfl,SqL.of (t4 _ _ hpx3),af (j:=5) rfl,_,_,rfl,rfl,(by show (0:Int)<3; decide),_,_,rfl,rfl,_,rfl,cH (fun _=>?_) (fun _=>?_)⟩
     ·obtain ⟨ca,c,hus,hat,hcm,hca⟩:=wN (cl.same (S4.trans t4)) (by rw [hcs]; exact List.cons_ne_nil _ _)
      have lb:=hcm
      obtain ⟨sv,hsv,sm'⟩:=fO (xs:=[V.int 1,.int (-1),.int 1,.int 0]) (i:=x6 % 4) 'b' (by show _<(4:Int); omega)
      obtain ⟨st,rfl,st1⟩:∃st:Int,sv=.int st/\st<=1:=by
       simp only [Bp,Cg,or_false] at sm'
       rcases sm' with rfl | rfl | rfl | rfl <;> exact ⟨_,rfl,by decide⟩
      refine ⟨_,rfl,_,rfl,pf,_,_,.ref ca,rfl,rfl,SqL.of hus,hat,ca,_,_,.str c.reel,rfl,rfl,SqT.of hca,af (j:=0) rfl,?_⟩
      refine ⟨_,rfl,_,rfl,pf,_,_,.ref ca,rfl,rfl,SqL.of hus,hat,ca,_,_,.int c.b,rfl,rfl,SqT.of hca,af (j:=2) rfl,_,rfl,'j',fun p5 hp5=>?_⟩
      have t5:=Same.new hp5 (.lst [V.int 1,.int (-1),.int 1,.int 0])
      refine ⟨_,rfl,px,_,_,.int x6,rfl,rfl,SqL.of (t5 _ _ (t4 _ _ hpx3)),af (j:=6) rfl,_,_,rfl,rfl,(by show (0:Int)<4; decide),p5,_,_,.int st,rfl,rfl,SqL.of ac,hsv,_,_,rfl,rfl,_,_,rfl,(if c.b+st > 0 then c.b+st else 0),c.reel,(by rw [<- hmm]; rfl),?_,?_,⟨lb.rl,lb.rf⟩,t4.trans t5⟩
      ·split <;> omega
      ·have:=lb.b1
       split <;> omega
     ·exact ⟨_,_,(by rw [<- hmm]; rfl),base'.1,base'.2,⟨rl,rf⟩,t4⟩
   rintro σ H5 ⟨fi,re,rfl,f0,f1,ref,s5⟩
   refine ⟨_,rfl,_,rfl,_,_,rfl,rfl,_,rfl,_,_,rfl,rfl,.inl ⟨by omega,by omega⟩,_,_,rfl,rfl,?_⟩
   refine ⟨fun σ' H6=>∃la:Int,σ'=[some (.ref a),some (.int 30),some (.ref pf),some (.int fr),some (.int z),some (.ref px),some (.int mm),some (.int fi),some (.str re),some (.int wy),some (.int la),o11]/\0<=la/\la<=fi+8/\((⟨re,fi,la,0⟩:Clip).cnt:Int)=mm/\Same H5 H6,?_,?_⟩
   ·refine ⟨_,rfl,_,_,rfl,rfl,_,rfl,cH (fun y=>?_) (fun y=>?_)⟩
    ·refine ⟨_,rfl,_,rfl,_,_,rfl,rfl,_,_,rfl,rfl,_,rfl,by omega,by omega,?_,Same.refl _⟩
     unfold Clip.cnt
     dsimp only
     omega
    ·have y:¬ fi+(mm-1)*wy<0:=fun k=>y (decide_eq_true k)
     refine ⟨_,rfl,by omega,?_,?_,Same.refl _⟩
     ·rcases wy1 with rfl | rfl <;> omega
     ·unfold Clip.cnt
      dsimp only
      rcases wy1 with rfl | rfl <;> omega
   rintro σ H6 ⟨la,rfl,l0,l1,hfr,s6⟩
   have S6:=S4.trans (s5.trans s6)
   have hpx6:=(s5.trans s6) _ _ hpx3
   refine ⟨fun σ' H7=>∃fd:Int,σ'=[some (.ref a),some (.int 30),some (.ref pf),some (.int fr),some (.int z),some (.ref px),some (.int mm),some (.int fi),some (.str re),some (.int wy),some (.int la),some (.int fd)]/\0<=fd/\(ps=[]->fd=0)/\(fd<=fr\/fd=0)/\fd<=((⟨re,fi,la,0⟩:Clip).cnt:Int)/\Same H6 H7,?_,?_⟩
   ·refine ⟨_,rfl,'g',fun p7 hp7=>?_⟩
    have t7:=Same.new hp7 (.lst [])
    refine ⟨_,_,(cl.same (S6.trans t7)).st.den,.lst (SqL.of ac) .nil,Ao ff,rfl,BR (Nat.min_le_right _ _) 'f',_,rfl,?_⟩
    cases hcs:ps with
    | nil =>
     refine iteN (by rw [il]; rfl) (dW ?_)
     exact ⟨0,rfl,Ci 0,fun _=>rfl,.inr rfl,by omega,t7⟩
    | cons c0 cr =>
     refine iteY rfl ?_
     refine ⟨_,rfl,px,_,_,.int x4,rfl,rfl,SqL.of (t7 _ _ hpx6),af (j:=4) rfl,_,_,rfl,rfl,(by show (0:Int)<5; decide),rfl,_,rfl,cH (fun _=>?_) (fun _=>?_)⟩
     ·have ea:(if la-fi<0 then -(la-fi) else la-fi)+1=mm:=by rw [<- hfr,<- xK ⟨re,fi,la,0⟩]
      have fr0:=lv.fr0
      refine ⟨_,rfl,px,_,_,.int x4,rfl,rfl,SqL.of (t7 _ _ hpx6),af (j:=4) rfl,_,_,rfl,rfl,⟨by decide,by decide⟩,_,rfl,_,rfl,_,rfl,_,_,rfl,rfl,_,rfl,_,_,rfl,rfl,_,_,rfl,_,_,rfl,rfl,_,_,rfl,rfl,?_,_,rfl,?_,(fun z=>absurd z (List.cons_ne_nil _ _)),.inl ?_,?_,t7⟩
      ·rw [ea]
       show (0:Int)<(if mm<fr then mm else fr)+1
       split <;> omega
      ·refine Fz _ ?_
       rw [ea]
       split <;> omega
      ·rw [ea]
       have hp:(0:Int)<(if mm<fr then mm else fr)+1:=by split <;> omega
       have:=FA (x4 / 5) hp
       split at this <;> split <;> omega
      ·rw [ea,hfr]
       have hp:(0:Int)<(if mm<fr then mm else fr)+1:=by split <;> omega
       have:=FA (x4 / 5) hp
       split at this <;> split <;> omega
     ·exact ⟨0,rfl,Ci 0,fun _=>rfl,.inr rfl,by omega,t7⟩
   rintro σ H7 ⟨fd,rfl,d0,e0,e1,e2,s7⟩
   have S7:=S6.trans s7
   have cl7:=cl.same S7
   refine ⟨_,rfl,.inl ⟨rfl,_,SqL.of cl7.1⟩,_,rfl,_,rfl,_,rfl,_,rfl,'j',fun pt hpt=>?_⟩
   have t8:=Same.new hpt (.tup [.str re,.int fi,.int la,.int fd])
   have cl8:=cl7.same t8
   refine ⟨pf,_,_,rfl,rfl,cl8.1,by rw [A2]; omega,?_⟩
   have ec:((⟨re,fi,la,fd⟩:Clip).cnt:Int)=mm:=hfr
   have hfr':(if la-fi<0 then -(la-fi) else la-fi)+1=((⟨re,fi,la,fd⟩:Clip).cnt:Int):=xK ⟨re,fi,la,fd⟩
   refine ⟨_,rfl,_,rfl,_,_,rfl,rfl,_,rfl,_,_,rfl,rfl,_,rfl,_,_,rfl,rfl,?_⟩
   have npm:pm≠pf:=fun z=>by rw [z,ac] at hpm; cases hpm
   have psh:ps.map (·.2)=[]->fd=0:=fun z=>e0 (List.map_eq_nil_iff.mp z)
   refine ⟨ps++[(pt,⟨re,fi,la,fd⟩)],_,_,_,_,_,_,_,_,_,rfl,(cl8.mono (Bb _) 'b').push (c:=⟨re,fi,la,fd⟩) ac ⟨ref.1,ref.2,f0,?_,l0,?_,d0,?_,?_⟩,?_,?_,fun b ob hb=>?_,?_⟩
   ·show fi<=_; omega
   ·show la<=_; omega
   ·show fd<=((⟨re,fi,la,fd⟩:Clip).cnt:Int)
    exact e2
   ·show (⟨re,fi,la,fd⟩:Clip).cnt<=9
    omega
   ·have hL:=lv.push (c:=⟨re,fi,la,fd⟩) d0 psh e1 e2
    rw [<- hfr'] at hL
    rw [Bf]
    exact hL
   ·rw [Bd,hlen]; rfl
   ·rw [ah (ak hb hpf)]
    exact t8 _ _ (S7 _ _ (sm _ _ hb))
   ·rw [ah npm]
    exact t8 _ _ (S7 _ _ hm)
 ·rintro σ H' ⟨ps,fr,o4,o5,o6,o7,o8,o9,o10,o11,rfl,cl,lv,hlen,sm,hm⟩
  rw [A2] at hlen cl
  exact ⟨_,rfl,q pf ps H' sm hpf (cl.mono (Bb _) 'b') lv.cd 'b'⟩
end
end K55
namespace K55
open PySem L2 KS
theorem oO (p q:Nat->Bool) (h:∀k,p k=true->q k=true->False):∀l:List Nat,(l.filter p++l.filter q).Perm (l.filter fun k=>p k||q k)
 | []=>.refl _
 | k :: l=>by
  have ih:=oO p q h l
  rw [CO,CO,CO]
  cases hp:p k with
  | true =>
   have hq:q k=false:=by
    cases z:q k with
    | true=>exact (h k hp z).elim
    | false=>rfl
   rw [hq]
   simp only [Bool.or_false,if_true,BY,if_false]
   exact (F5 ▸ ih.cons k)
  | false =>
   cases hq:q k with
   | true =>
    simp only [Bool.false_or,if_true,BY,if_false]
    exact List.perm_middle.trans (ih.cons k)
   | false =>
    simp only [Bool.or_false,BY,if_false]
    exact ih
def onR (cs:List Clip) (r:Str) (i:Nat):Bool:=match cs[i]? with
 | some z=>decide (z.reel=r)
 | none=>false
theorem dR {cs:List Clip}{i:Nat}{z:Clip}(r:Str) (h:cs[i]?=some z):onR cs r i=decide (z.reel=r):=by unfold onR; rw [h]
def onN (cs:List Clip) (prs:List Nat) (r:Str) (m:Nat) (k:Nat):Bool:=onR cs r k&&decide (prs.getD k 0=m)
def onB (cs:List Clip) (prs:List Nat) (r:Str) (m:Nat) (k:Nat):Bool:=onR cs r k&&decide (prs.getD k 0<m)
def inR (cs:List Clip) (rs:List Str) (k:Nat):Bool:=match cs[k]? with
 | some z=>decide (z.reel∈rs)
 | none=>false
theorem uP {cs:List Clip}{prs:List Nat}{r:Str}{m:Nat}(hl:prs.length=cs.length):∀n,n<=cs.length->(fh cs prs r (m:Int) n).map (fun x=>x.2.2)=((Bh n).filter (onN cs prs r m)).map fun k:Nat=>(k:Int)
 | 0,_=>rfl
 | n+1,h=>by
  have ih:=uP (r:=r) (m:=m) hl n 'b'
  have hc:cs[n]?=some cs[n]:=A4 h
  have hp:prs[n]?=some (prs[n]' 'b'):=A4 'b'
  have hg:prs.getD n 0=prs[n]' 'b':=by rw [A7,hp]; rfl
  rw [cP,Bf,ih,Dx,CN,Bf]
  congr 1
  by_cases z:cs[n].reel=r/\((prs[n]' 'b':Nat):Int)=(m:Int)
  ·rw [o0 hc hp z.1 z.2]
   have:onN cs prs r m n=true:=by
    unfold onN
    rw [dR r hc,hg,decide_eq_true z.1,decide_eq_true 'b']
    rfl
   simp [this]
  ·rw [mV hc hp z]
   have:onN cs prs r m n=false:=by
    unfold onN
    rw [dR r hc,hg]
    by_cases y:cs[n].reel=r
    ·rw [decide_eq_false (p:=prs[n]' 'b'=m) (fun w=>z ⟨y,by omega⟩),GA]
    ·rw [decide_eq_false y]
     rfl
   simp [this]
def eN (cs:List Clip) (prs:List Nat) (rs:List Str) (r:Str) (m:Nat) (k:Nat):Bool:=inR cs rs k||onB cs prs r m k
def sL (cs:List Clip) (p:Nat->Bool):List Int:=((Bh cs.length).filter p).map fun k:Nat=>(k:Int)
theorem kF {cs:List Clip}{p q:Nat->Bool}(h:∀k,k<cs.length->p k=q k):sL cs p=sL cs q:=by
 unfold sL
 rw [List.filter_congr fun k hk=>h k (BW.mp hk)]
theorem ya (cs:List Clip) (p:Nat->Bool):(sL cs p).length<=cs.length:=by
 unfold sL
 rw [A2]
 refine BR (DB ..) ?_
 rw [BL]
 exact Bb _
theorem pV {cs:List Clip}{prs:List Nat}{rs:List Str}{r:Str}{m:Nat}{seen:List Int}{us:List Tri}(hl:prs.length=cs.length) (hr:r ∉ rs) (h:seen.Perm (sL cs (eN cs prs rs r m))) (hp:us.Perm (fh cs prs r (m:Int) cs.length)) :
  (seen++us.map fun x=>x.2.2).Perm (sL cs (eN cs prs rs r (m+1))):=by
 have h1:(us.map fun x=>x.2.2).Perm (sL cs (onN cs prs r m)):=by
  have:=hp.map fun x=>x.2.2
  rw [uP hl cs.length (Bb _)] at this
  exact this
 refine (h.append h1).trans ?_
 unfold sL
 rw [<- Bf]
 refine ((oO _ _ (fun k a b=>?_) _).map _).trans (Dv.of_eq (congrArg _ (List.filter_congr fun k hk=>?_)))
 ·have hk:onR cs r k=true:=by unfold onN at b; exact (Eg.mp b).1
  have hm:=of_decide_eq_true (Eg.mp b).2
  unfold eN at a
  rcases (Bool.or_eq_true_iff.mp a) with a | a
  ·unfold inR at a
   unfold onR at hk
   cases e:cs[k]? with
   | none=>rw [e] at a; cases a
   | some z =>
    rw [e] at a hk
    exact hr (of_decide_eq_true hk ▸ of_decide_eq_true a)
  ·have:=of_decide_eq_true (Eg.mp a).2
   omega
 ·unfold eN onB onN
  generalize prs.getD k 0=x
  have e:decide (x<m+1)=(decide (x<m)||decide (x=m)):=by
   rw [<- Bool.decide_or]
   exact decide_eq_decide.mpr 'b'
  rw [e]
  cases inR cs rs k <;> cases onR cs r k <;> simp
theorem pU (cs:List Clip) (prs:List Nat) (rs:List Str) (r:Str):sL cs (eN cs prs rs r 0)=sL cs (inR cs rs):=kF fun k _=>by
 unfold eN onB
 simp
theorem sw {cs:List Clip}{prs:List Nat}{rs:List Str}{r:Str}{m:Nat}(hm:∀k,k<cs.length->onR cs r k=true->prs.getD k 0<m):sL cs (eN cs prs rs r m)=sL cs (inR cs (rs++[r])):=kF fun k hk=>by
 have hc:cs[k]?=some cs[k]:=A4 hk
 have h1:=hm k hk
 unfold eN onB inR
 rw [dR r hc] at h1 ⊢
 rw [hc]
 dsimp only
 by_cases y:cs[k].reel=r
 ·rw [decide_eq_true (h1 (decide_eq_true y))]
  simp [y]
 ·simp [y]
theorem su {cs:List Clip}{rs:List Str}(h:∀c∈cs,c.reel∈rs):sL cs (inR cs rs)=(Bh cs.length).map fun k:Nat=>(k:Int):=by
 unfold sL
 rw [List.filter_eq_self.mpr fun k hk=>?_]
 have hk:=BW.mp hk
 unfold inR
 rw [A4 hk]
 exact decide_eq_true (h _ (BB hk))
theorem mO:∀{a b:List Int},a.Perm b->a.Pairwise (·<=·)->b.Pairwise (·<=·)->a=b
 | [],b,h,_,_=>h.nil_eq
 | x :: a,b,h,ha,hb=>by
  cases b with
  | nil=>exact absurd h.length_eq 'e'
  | cons y b =>
   obtain ⟨a1,a2⟩:=CF.mp ha
   obtain ⟨b1,b2⟩:=CF.mp hb
   have hx:x=y:=by
    have h1:x∈y :: b:=h.mem_iff.mp Bq
    have h2:y∈x :: a:=h.mem_iff.mpr Bq
    have l1:y<=x:=by
     rcases Bp.mp h1 with z | z
     ·omega
     ·exact b1 x z
    have l2:x<=y:=by
     rcases Bp.mp h2 with z | z
     ·omega
     ·exact a1 y z
    omega
   subst hx
   rw [mO (Dv.cons_inv h) a2 b2]
theorem sE (n:Nat):((Bh n).map fun k:Nat=>(k:Int)).Pairwise (·<=·):=by
 rw [Cc]
 exact ES.imp fun h=>by omega
end K55
namespace L2
open PySem
def Rise (xs:Array Nat):Prop:=xs.toList.Pairwise (·<·)
structure TbOk (t:By):Prop where
 up:Rise t.place
 dm:t.dummies=#[]
theorem Rise.lt {xs:Array Nat}(h:Rise xs) {i j:Nat}(hij:i<j) (hj:j<xs.size):xs[i]<xs[j]:=by
 have:=DA.mp h i j (by simpa using (by omega:i<xs.size)) (by simpa using hj) hij
 simpa using this
theorem j4 {xs:Array Nat}{j:Nat}(h:Rise xs):∀(n lo hi:Nat),hi-lo<=n->lo<=hi->hi<=xs.size->(∀i (hi:i<xs.size),i<lo->xs[i]<j)->(∀i (hx:i<xs.size),hi<=i->j<=xs[i]) ->
  By.below.go xs j n lo hi<=xs.size/\(∀i (hx:i<xs.size),i<By.below.go xs j n lo hi->xs[i]<j)/\∀i (hx:i<xs.size),By.below.go xs j n lo hi<=i->j<=xs[i]
 | 0,lo,hi,hn,hl,hh,h1,h2=>by
  have e:lo=hi:=by omega
  subst e
  exact ⟨hh,h1,h2⟩
 | n+1,lo,hi,hn,hl,hh,h1,h2=>by
  unfold By.below.go
  by_cases c:lo<hi
  ·rw [if_pos c]
   have hm:(lo+hi) / 2<xs.size:=by omega
   have e:xs.getD ((lo+hi) / 2) j=xs[(lo+hi) / 2]:=by simp [Fa,hm]
   dsimp only
   rw [e]
   by_cases d:xs[(lo+hi) / 2]<j
   ·rw [if_pos d]
    refine j4 h n _ _ 'b' 'b' hh (fun i hi' hl'=>?_) h2
    by_cases q:i=(lo+hi) / 2
    ·subst q; exact d
    ·exact Nat.lt_trans (h.lt 'b' hm) d
   ·rw [if_neg d]
    refine j4 h n _ _ 'b' 'b' 'b' h1 fun i hi' hl'=>?_
    by_cases q:i=(lo+hi) / 2
    ·subst q; omega
    ·have:=h.lt (i:=(lo+hi) / 2) (j:=i) 'b' hi'
     omega
  ·rw [if_neg c]
   have e:lo=hi:=by omega
   subst e
   exact ⟨hh,h1,h2⟩
theorem dy {xs:Array Nat}(h:Rise xs) (j:Nat):By.below xs j<=xs.size/\(∀i (hx:i<xs.size),i<By.below xs j->xs[i]<j)/\∀i (hx:i<xs.size),By.below xs j<=i->j<=xs[i] :=
 j4 h xs.size 0 xs.size 'b' (B6 _) (Bb _) (fun i _ z=>by omega) fun i hx z=>by omega
theorem uX {xs:Array Nat}(h:Rise xs) {k:Nat}(hk:k<xs.size):By.below xs (xs[k]+1)=k+1:=by
 obtain ⟨h1,h2,h3⟩:=dy h (xs[k]+1)
 generalize By.below xs (xs[k]+1)=b at h1 h2 h3
 by_cases c:b<=k
 ·have:=h3 k hk c
  omega
 ·by_cases d:b=k+1
  ·exact d
  ·have:=h2 (k+1) 'b' 'b'
   have:=h.lt (i:=k) (j:=k+1) 'b' 'b'
   omega
theorem qX {xs:Array Nat}(h:Rise xs):By.below xs 0=0:=by
 obtain ⟨h1,h2,h3⟩:=dy h 0
 generalize By.below xs 0=b at h1 h2 h3
 by_cases c:b=0
 ·exact c
 ·have:=h2 0 'b' 'b'
  omega
theorem qI {t:By}(h:TbOk t) {j:Nat}(e:t.slot j=.empty):∀i (hx:i<t.place.size),t.place[i]≠j:=by
 intro i hx z
 unfold By.slot at e
 obtain ⟨h1,h2,h3⟩:=dy h.up j
 dsimp only at e
 have eb:By.below t.place j=i:=by
  generalize By.below t.place j=b at h1 h2 h3
  by_cases c:i<b
  ·have:=h2 i hx c
   omega
  ·by_cases d:b=i
   ·exact d
   ·have:=h3 b 'b' (Bb _)
    have:=h.up.lt (i:=b) (j:=i) 'b' hx
    omega
 rw [eb,CK hx,z,if_pos 'e'] at e
 cases e
theorem oJ (j:Nat):By.has #[] j=false:=by
 unfold By.has
 rfl
theorem qZ (t:By) (p:By.Probe):(t.advance p).dummy=p.dummy:=by
 unfold By.advance
 split <;> rfl
theorem gw {t:By}(hd:t.dummies=#[]) {f:Nat->Int}{h:Int}:∀(n:Nat) (p:By.Probe) {j:Nat}{d:Option Nat},p.dummy=none->By.probe.go t f h n p=some (.empty j d)->d=none/\t.slot j=.empty
 | 0,p,j,d,_,e=>by cases e
 | n+1,p,j,d,hp,e=>by
  unfold By.probe.go at e
  cases hs:t.slot p.j with
  | empty =>
   rw [hs] at e
   cases e
   exact ⟨hp,hs⟩
  | dummy =>
   unfold By.slot at hs
   dsimp only at hs
   rw [hd,oJ] at hs
   split at hs <;> simp at hs
  | live i =>
   rw [hs] at e
   dsimp only at e
   split at e
   ·cases e
   ·exact gw hd n _ ((qZ t p).trans hp) e
theorem ux {t:By}(h:TbOk t) {hs:Int}{j:Nat}{b:Bool}(e:t.freeSlot hs=some (j,b)):∀i (hx:i<t.place.size),t.place[i]≠j:=by
 unfold By.freeSlot at e
 split at e
 ·rename_i k d ep
  unfold By.probe at ep
  obtain ⟨rfl,h2⟩:=gw h.dm _ _ rfl ep
  cases e
  exact qI h h2
 ·cases e
theorem TbOk.put {t:By}(h:TbOk t) {j:Nat}(hn:∀i (hx:i<t.place.size),t.place[i]≠j):TbOk (t.put j).1:=by
 obtain ⟨h1,h2,h3⟩:=dy h.up j
 unfold By.put
 dsimp only
 refine ⟨?_,?_⟩
 ·show ((By.insertAt t.place (By.below t.place j) j).toList).Pairwise (·<·)
  rw [By.toList_insertAt]
  generalize By.below t.place j=b at h1 h2 h3
  have ht:∀x∈t.place.toList.take b,x<j:=fun x hx=>by
   obtain ⟨i,hi,rfl⟩:=List.mem_take_iff_getElem.mp hx
   have:=h2 i (by simp at hi; omega) 'b'
   simpa using this
  have hd:∀x∈t.place.toList.drop b,j<x:=fun x hx=>by
   obtain ⟨i,hi,rfl⟩:=List.mem_drop_iff_getElem.mp hx
   have hs:b+i<t.place.size:=by simpa [Nat.add_comm] using hi
   have a1:=h3 (b+i) hs 'b'
   have a2:=hn (b+i) hs
   have a3:j<t.place[b+i]:=by omega
   simpa using a3
  refine Gk.mpr ⟨h.up.sublist (List.take_sublist _ _),CF.mpr ⟨hd,h.up.sublist (List.drop_sublist _ _)⟩,fun x hx y hy=>?_⟩
  rcases Bp.mp hy with rfl | hy
  ·exact ht x hx
  ·exact Nat.lt_trans (ht x hx) (hd y hy)
 ·show (if By.has t.dummies j=true then _ else t.dummies)=#[]
  rw [h.dm,oJ]
  rfl
theorem mj (n:Nat):Rise (Array.range n):=by
 unfold Rise
 rw [Array.toList_range]
 exact ES
theorem TbOk.standIn (t:By) (n:Nat):TbOk (t.standIn n):=⟨mj n,rfl⟩
theorem TbOk.lay {t:By}(h:TbOk t) (es:Array (Int×Value)) (hs:Int) (x:Value):TbOk (layNew t es hs x).2.1:=by
 unfold layNew
 split
 ·rename_i slot b e
  dsimp only
  unfold By.orStandIn
  split
  ·exact h.put (ux h e)
  ·exact .standIn _ _
 ·exact .standIn _ _
theorem TbOk.relay {t:By}(es:Array (Int×Value)) (k:Nat):TbOk (Gp t es k).2.1:=by
 unfold Gp
 split
 ·rename_i t' order he
  dsimp only
  split
  ·unfold By.relaid By.laid at he
   cases hl:By.layClean (By.sizeAbove k-1) (es.map (·.1)) with
   | none=>rw [hl] at he; cases he
   | some o =>
    rw [hl] at he
    cases he
    refine ⟨?_,rfl⟩
    show Ep (·<·) (Ds _).toList
    rw [List.toList_toArray,Cc]
    refine Ep.filterMap _ (R:=fun a b=>a<b) (fun a a' hlt b hb b' hb'=>?_) ES
    cases ha:o.getD a none with
    | none=>rw [ha] at hb; cases hb
    | some u =>
     cases ha':o.getD a' none with
     | none=>rw [ha'] at hb'; cases hb'
     | some u' =>
      rw [ha] at hb
      rw [ha'] at hb'
      cases hb
      cases hb'
      exact hlt
  ·exact .standIn _ _
 ·exact .standIn _ _
theorem TbOk.fresh (a b:Nat) (l:Bool):TbOk (By.fresh a b l):=⟨.nil,rfl⟩
theorem TbOk.plain {t:By}(h:TbOk t) (b:Bool):TbOk { t with plain:=b }:=⟨h.up,h.dm⟩
end L2
namespace L2.GS
open PySem
structure Kd (prog:Program) (w:BG) (κ:Type) [DecidableEq κ] where
 kd:KeyKind prog w κ
 val:κ->Tok->Value
 key:Value->κ
 is_val:∀{k:κ}{v:Value},kd.is k v=true->∃t,v=val k t
 of_val:∀k t,kd.is k (val k t)=true
 sc:∀k t,(val k t).scannable=true
 key_val:∀k t,key (val k t)=k
section
variable {κ:Type} [DecidableEq κ] {prog:Program}{w:BG}(D:Kd prog w κ)
def Kd.IsV (v:Value):Prop:=∃k t,v=D.val k t
def Kd.keys (es:Array (Int×Value)):List κ:=es.toList.map fun e=>D.key e.2
def Holds (es:Array (Int×Value)) (ks:List κ):Prop:=(D.keys es).Nodup/\∀x,x∈D.keys es↔x∈ks
def SetS (h:Heap) (a:Addr) (led:Bool) (ks:List κ):Prop :=
 ∃o es ep t,h.get? a=some o/\o.ExactSet/\o.data=.set es ep t/\ElemsOf D.kd es.toList/\es.size<=ks.length/\t.fits es.size=true/\t.led=led/\TbOk t/\Holds D es ks
variable {D}
theorem Holds.perm {es es':Array (Int×Value)}{ks:List κ}(h:Holds D es ks) (p:es'.toList.Perm es.toList):Holds D es' ks:=by
 have q:(D.keys es').Perm (D.keys es):=p.map _
 exact ⟨q.nodup_iff.mpr h.1,fun x=>q.mem_iff.trans (h.2 x)⟩
variable {A:BC}{E:Value->A9->Prop}{s:A9}
theorem iV {a:Addr}{o:Obj}{es es':Array (Int×Value)}{ep:Nat}{ks:List κ}{t t':By}{led:Bool}{h:Heap}(ho:h.get? a=some o) (hex:o.ExactSet) (hd:o.data=.set es ep t) (hel:ElemsOf (D.kd) es'.toList) (hn:es'.size<=ks.length)
  (hf:t'.fits es'.size=true) (hl:t'.led=led) (hp:TbOk t') (hk:Holds D es' ks):(h.update a (Obj.putSet es' t')).get? a=some { o with data:=.set es' (ep+1) t' }/\SetS D (h.update a (Obj.putSet es' t')) a led ks:=by
 have hg:=Cl (Obj.putSet es' t') ho (by rw [putSet_of es' t' hd]; rfl)
 rw [putSet_of es' t' hd] at hg
 exact ⟨hg,_,es',ep+1,t',hg,hex,rfl,hel,hn,hf,hl,hp,hk⟩
theorem vh {a:Addr}{led:Bool}{ks:List κ}{x:κ}{tk:Tok}{Q:Bool->A9->Prop}(hS:SetS D s.heap a led ks) (hn:ks.length+1<scanBound)
  (h:∀b h',Ca a s.heap h'->SetS D h' a led (ks++[x])->Q b { s with heap:=h' }):Bl (Bv prog w) A (setAddHashed a (D.val x tk) ((D.kd).hash x)) Q E s:=by
 obtain ⟨o,es,ep,t,ho,hex,hd,hel,hb,hf,hl,hp,hk1,hk2⟩:=hS
 have hlen:(ks++[x]).length=ks.length+1:=Bd
 have hkey:(D.kd).is x (D.val x tk)=true:=D.of_val _ _
 have hsc:(D.val x tk).scannable=true:=D.sc x tk
 have hbs:es.size<scanBound:=by omega
 unfold setAddHashed setAddHashedIn
 refine B0 (A3 (Ek ho hd hf ?_))
 dsimp only
 rw [byScan_of hsc hbs hel,if_pos rfl]
 unfold setAddByScan
 refine A3 (A3 (wpAny_rule (A3 (wpAny_setScan_of hkey ho hd hf hel ?_))))
 cases hr:List.findIdx? (fun e=>(D.kd).is x e.2) es.toList with
 | some j =>
  dsimp only
  have hx:x∈D.keys es:=by
   obtain ⟨hj,hpj,_⟩:=List.findIdx?_eq_some_iff_getElem.mp hr
   obtain ⟨t',e'⟩:=D.is_val hpj
   exact Bz.mpr ⟨es.toList[j],BB hj,by rw [e']; exact D.key_val _ _⟩
  refine Bc (Bc (h false s.heap (Ca.refl a s.heap) ⟨o,es,ep,t,ho,hex,hd,hel,by omega,hf,hl,hp,hk1,fun y=>?_⟩))
  rw [hk2 y,B7,Bu]
  refine ⟨.inl,fun z=>z.elim id fun z=>?_⟩
  rw [z]
  exact (hk2 x).mp hx
 | none =>
  dsimp only
  have give:∀(b:Bool) {s₁:A9}{Q':Unit->A9->Prop},Q' () s₁->Bl (Bv prog w) A (match b with | true=>rule "set.scan.the-table-gave-way" | false=>pure ()) Q' E s₁:=fun b s₁ Q' hq=>by
   cases b
   ·exact Bc hq
   ·exact wpAny_rule hq
  have l1:=layNew_perm t es ((D.kd).hash x) (D.val x tk)
  have l2:=layNew_fits t es ((D.kd).hash x) (D.val x tk)
  have l3:=wj t es ((D.kd).hash x) (D.val x tk)
  have l4:=hp.lay es ((D.kd).hash x) (D.val x tk)
  generalize layNew t es ((D.kd).hash x) (D.val x tk)=L at l1 l2 l3 l4 ⊢
  obtain ⟨es1,t1,wasDummy,gave⟩:=L
  dsimp only at l1 l2 l3 l4 ⊢
  rw [Array.toList_push] at l1
  have hel1:ElemsOf (D.kd) es1.toList:=(hel.push hkey hsc).perm l1
  have hx:x ∉ D.keys es:=fun z=>by
   obtain ⟨e,he,hz⟩:=Bz.mp z
   obtain ⟨⟨k,hk,_⟩,_⟩:=hel e he
   obtain ⟨t',e'⟩:=D.is_val hk
   rw [e'] at hz
   have hz:k=x:=(D.key_val _ _).symm.trans hz
   have:=List.findIdx?_eq_none_iff.mp hr e he
   rw [<- hz,hk] at this
   cases this
  have hold1:Holds D es1 (ks++[x]):=by
   have q:(D.keys es1).Perm (D.keys es++[x]):=by
    have:=l1.map fun e=>D.key e.2
    rw [Bf,BD,FP,D.key_val] at this
    exact this
   refine ⟨q.nodup_iff.mpr (List.nodup_append.mpr ⟨hk1,by simp,fun a ha b hb=>?_⟩),fun y=>?_⟩
   ·rw [Bu.mp hb]
    exact fun z=>hx (z ▸ ha)
   ·rw [q.mem_iff,B7,B7,hk2 y]
  have hsz:es1.size=es.size+1:=by rw [<- B8,l1.length_eq,Bd,B8]; rfl
  refine A3 (give _ ?_)
  have tail:∀t2:By,t2.fits es1.size=true->t2.led=led->TbOk t2->Bl (Bv prog w) A (do
    storeSet a es1 t2
    if (!wasDummy&&t2.tooFull)=true then do
      (match (Gp t2 es1 (By.grown es1.size)).2.2 with | true=>rule "set.scan.the-table-gave-way" | false=>pure ())
      storeSet a (Gp t2 es1 (By.grown es1.size)).1 (Gp t2 es1 (By.grown es1.size)).2.1
      pure (some true)
     else pure (some true)) (fun r s'=>Bl (Bv prog w) A (match r with | some added=>pure added | none=>setAddHashedIn a (D.val x tk) ((D.kd).hash x) 99999) Q E s') E s:=by
   intro t2 f2 e2 p2
   obtain ⟨g1,g2⟩:=iV (D:=D) (ks:=ks++[x]) ho hex hd hel1 'b' f2 e2 p2 hold1
   have sb:=Ca.update s.heap a (Obj.putSet es1 t2)
   refine A3 (wpAny_storeSet_of ho hd ?_ (fits_of_scanBound 'b'))
   split
   ·have r1:=relayAll_perm t2 es1 (By.grown es1.size)
    have r2:=relayAll_fits t2 es1 (By.grown es1.size)
    have r3:=pY t2 es1 (By.grown es1.size)
    have r4:=TbOk.relay (t:=t2) es1 (By.grown es1.size)
    generalize Gp t2 es1 (By.grown es1.size)=Rl at r1 r2 r3 r4 ⊢
    obtain ⟨es2,t3,gave2⟩:=Rl
    dsimp only at r1 r2 r3 r4 ⊢
    have hz2:es2.size=es1.size:=by rw [<- B8,r1.length_eq,B8]
    refine A3 (give _ ?_)
    refine A3 (wpAny_storeSet_of g1 rfl ?_ (fits_of_scanBound 'b'))
    obtain ⟨_,g4⟩:=iV (D:=D) (ks:=ks++[x]) (h:=s.heap.update a (Obj.putSet es1 t2)) g1 hex rfl (hel1.perm r1) 'b' r2 (r3.1.trans e2) r4 (hold1.perm r1)
    exact Bc (Bc (h true _ (sb.trans (Ca.update _ a _)) g4))
   ·exact Bc (Bc (h true _ sb g2))
  split
  ·refine A3 ?_
   rw [hashByValue_scannable 8 hsc]
   refine Bc ?_
   cases plainKind (D.val x tk) with
   | true=>exact tail t1 l2 (l3.trans hl) l4
   | false=>exact tail { t1 with plain:=false } (By.fits_plain_off l2) (l3.trans hl) (l4.plain false)
  ·refine A3 (Bc ?_)
   rw [if_pos rfl]
   exact tail t1 l2 (l3.trans hl) l4
end
end L2.GS
namespace L2.GS
open PySem
section
variable {κ:Type} [DecidableEq κ] [Inhabited κ] {prog:Program}{w:BG}{D:Kd prog w κ}{A:BC}{E:Value->A9->Prop}{s:A9}
theorem zf {es:Array (Int×Value)}(hel:ElemsOf D.kd es.toList) {e:Int×Value}(h:e∈es.toList):D.IsV e.2:=by
 obtain ⟨⟨k,hk,_⟩,_⟩:=hel e h
 obtain ⟨t,ht⟩:=D.is_val hk
 exact ⟨k,t,ht⟩
theorem nR {a:Addr}{slot i ep:Nat}{es:Array (Int×Value)}{t:By}(hb:byT w=false) (hl:t.led=true) (hp:(!t.plain&&decide (es.size > 1))=false) (hS:SetO s.heap a es ep t) (A:BC) (E:Value->A9->Prop) (Q:Option (Value×Nat)->A9->Prop)
  (h:Q (match es[By.below t.place slot]?,t.place[By.below t.place slot]? with | some (_,x),some j=>some (x,j+1) | _,_=>none) s):Bl (Bv prog w) A (setNext a slot i ep) Q E s:=by
 obtain ⟨⟨o,ho,hd⟩,hf⟩:=hS
 unfold setNext
 refine A3 (Ek ho hd hf ?_)
 dsimp only
 refine A3 (lN ?_)
 rw [hb,if_neg Bx]
 show Bl _ _ (if (!t.plain&&decide (es.size > 1))=true then _ else _) _ _ _
 rw [hp,if_neg Bx]
 show Bl _ _ ((if (!t.led&&!es.isEmpty)=true then _ else pure PUnit.unit) >>= _) _ _ _
 rw [hl,EY,E4,if_neg Bx]
 exact A3 (Bc (Bc h))
def gv (t:By) (i:Nat):Nat:=if i=0 then 0 else t.place.getD (i-1) 0+1
theorem gS {t:By}(h:TbOk t) {i:Nat}(hi:i<=t.place.size):By.below t.place (gv t i)=i:=by
 unfold gv
 by_cases c:i=0
 ·rw [if_pos c,qX h.up,c]
 ·rw [if_neg c]
  have hk:i-1<t.place.size:=by omega
  have e:t.place.getD (i-1) 0=t.place[i-1]:=by simp [Fa,hk]
  rw [e,uX h.up hk]
  omega
theorem lO {A:BC}(hh:A.handled=none) (hb:byT w=false) (I a:Addr) (hne:a≠I) (es:Array (Int×Value)) (ep:Nat) (t:By) (hp:(!t.plain&&decide (es.size > 1))=false) (hled:t.led=true) (ht:TbOk t) :
  Walks prog w A I [I,a] [I] es.size (fun i v=>(es.toList.map (·.2))[i]?=some v) (fun i h=>ItS h I a (.int ((gv t i:Nat):Int) 0) i es.size ep/\SetO h a es ep t) where
 sub:=fun b hb=>by simp at hb; simp [hb]
 frame:=fun _ _ _ st hk=>⟨st.1.keep fun o e=>hk I 'e' o e,st.2.keep fun o e=>hk a 'e' o e⟩
 item:=fun i s Q E hi st hQ=>by
  have hps:t.place.size=es.size:=by
   have:=st.2.fits
   simp only [By.fits,ED,beq_iff_eq] at this
   exact this.1
  have hj:t.place[i]?=some (t.place[i]' 'b'):=CK 'b'
  have he:es[i]?=some es[i]:=CK hi
  have en:gv t (i+1)=t.place[i]' 'b'+1:=by
   unfold gv
   rw [if_neg 'b',show i+1-1=i by omega]
   simp [Fa,(by omega:i<t.place.size)]
  refine i_ (slot:=gv t i) (nx:=gv t (i+1)) (x:=es[i].2) st.1 st.2 (fun A E Q' h=>nR hb hled hp st.2 A E Q' (by rw [gS ht 'b',he,hj]; rw [en] at h; exact h)) fun h' it' sb=>?_
  exact hQ _ h' s.toks (by simp [hi]) ⟨it',st.2.keep fun o e=>sb.extBut a o hne e⟩ fun b o hb e=>sb.extBut b o (fun h=>hb (by simp [h])) e
 done:=fun s Q E st hQ=>by
  have hps:t.place.size=es.size:=by
   have:=st.2.fits
   simp only [By.fits,ED,beq_iff_eq] at this
   exact this.1
  exact kQ (slot:=gv t es.size) hh st.1 st.2 (fun A E Q' h=>nR hb hled hp st.2 A E Q' (by rw [gS ht 'b',Array.getElem?_eq_none (Bb _)]; exact h)) fun h' eb=>hQ h' s.toks fun b o hb e=>eb b o (fun h=>hb (by simp [h])) e
 self:=fun _ _ _ _ st hQ=>gY st.1 hQ
variable (D) in
def pB (ks:List κ) (ord:List Value):Prop:=(∀v∈ord,D.IsV v)/\(ord.map D.key).Nodup/\∀x,x∈ord.map D.key↔x∈ks
theorem nh {es:Array (Int×Value)}{ks:List κ}{ord:List Value}(hel:ElemsOf (D.kd) es.toList) (hk:Holds D es ks) (p:ord.Perm (es.toList.map (·.2))):pB D ks ord:=by
 have q:(ord.map D.key).Perm (D.keys es):=by
  have:=p.map D.key
  rw [BV] at this
  exact this
 refine ⟨fun v hv=>?_,q.nodup_iff.mpr hk.1,fun x=>q.mem_iff.trans (hk.2 x)⟩
 obtain ⟨e,he,rfl⟩:=Bz.mp (p.mem_iff.mp hv)
 exact zf hel he
variable (D) in
def WkS (A:BC) (a:Addr) (ks:List κ) (s:A9) (it:Value) (s2:A9):Prop :=
 ∃I fp wr m St ord,it=.ref I/\Walks prog w A I fp wr m (fun i v=>ord[i]?=some v) St/\St 0 s2.heap/\pB D ks ord/\m=ord.length/\m<=ks.length/\(∀b∈fp,b=a\/'n'<=b)/\(∀b∈wr,'n'<=b)/\(∀b o,s.heap.get? b=some o->s2.heap.get? b=some o)/\s2.gens=s.gens/\s2.os=s.os/\'n'<='o'
theorem qv {A':BC}{a:Addr}{ks:List κ}(hh:A'.handled=none) (hS:SetS D s.heap a (!byT w) ks) (hn:ks.length<=1000):Bl (Bv prog w) A (pyIter (.ref a)) (WkS D A' a ks s) E s:=by
 obtain ⟨o,es,ep,t,ho,hex,hd,hel,hb,hf,hl,hp,hk⟩:=hS
 have hlt:=Bi ho
 refine uq ho hex hd hf 'b' (fun hbt pl d hpl=>?_) (fun hbt=>?_)
 ·have hsz:(s.heap.push { cls:=.type "tuple",data:=.seq (pl.map fun (i:Nat)=>Dz i).toArray }).objs.size='n'+1:=C3 ..
  refine ⟨'n'+1,_,_,_,_,vM es pl,rfl,lP hh ('n'+1) a 'n' (Bw (Ct hlt)) (Bw (DV _)) es ep t pl hpl,⟨?_,⟨⟨o,A6 _ (A6 _ ho),hd⟩,hf⟩,_,0,A6 _ (Bj _ rfl),rfl⟩,nh hel hk (i6 hpl),(by rw [(i6 hpl).length_eq]; simp),hb,fun b hb=>?_,fun b hb=>?_,fun b o e=>A6 _ (A6 _ e),rfl,rfl,?_⟩
  ·show _=_
   rw [<- hsz]
   exact Bj _ rfl
  ·simp only [Bp,Cg,or_false] at hb
   rcases hb with rfl | rfl | rfl
   ·exact .inr (Dd _)
   ·exact .inl rfl
   ·exact .inr (Bb _)
  ·rw [Bu.mp hb]
   exact Dd _
  ·show _<=((s.heap.push _).push _).objs.size
   rw [C3,hsz]
   omega
 ·have fin:∀{St:Nat->Heap->Prop}{ord:List Value},ord.Perm (es.toList.map (·.2))->Walks prog w A' 'n' ['n',a] ['n'] es.size (fun i v=>ord[i]?=some v) St->St 0 (s.heap.push { cls:=.type "set_iterator",data:=.fields #[.int 0 0,.int 0 0,.ref a,.int es.size 0,.int ep 0] })->WkS D A' a ks s (.ref 'n') { s with heap:=s.heap.push { cls:=.type "set_iterator",data:=.fields #[.int 0 0,.int 0 0,.ref a,.int es.size 0,.int ep 0] } }:=fun {St ord} p W st=>by
   refine ⟨'n',_,_,_,_,ord,rfl,W,st,nh hel hk p,(by rw [p.length_eq]; simp),hb,fun b hb=>?_,fun b hb=>?_,fun b o e=>A6 _ e,rfl,rfl,?_⟩
   ·simp only [Bp,Cg,or_false] at hb
    rcases hb with rfl | rfl
    ·exact .inr (Bb _)
    ·exact .inl rfl
   ·rw [Bu.mp hb]
    exact Bb _
   ·show _<=(s.heap.push _).objs.size
    rw [C3]
    omega
  have so:SetO (s.heap.push { cls:=.type "set_iterator",data:=.fields #[.int 0 0,.int 0 0,.ref a,.int es.size 0,.int ep 0] }) a es ep t:=⟨⟨o,A6 _ ho,hd⟩,hf⟩
  cases hbT:byT w with
  | true=>exact fin (qh w a ep es) (pI hh hbT _ a (Bw hlt) es ep t) ⟨Bj _ rfl,so⟩
  | false =>
   rw [hbT] at hl hbt
   exact fin (Dv.refl _) (lO hh hbT _ a (Bw hlt) es ep t (by simpa using hbt) hl hp) ⟨Bj _ rfl,so⟩
theorem mS {a S:Addr}{c₀:Nat}{ks:List κ}{res:Value}{R:GI->A9->Prop}(hh:A.handled=none) (hset:SetS D s.heap a (!byT w) ks) (hn:ks.length<=1000) (hS:s.heap.get? S=some { cls:=.type "list",data:=.seq #[] c₀ })
  (hR:∀s' acc c',(∀b o,b≠S->s.heap.get? b=some o->s'.heap.get? b=some o)->s'.gens=s.gens->s'.os=s.os->s'.heap.get? S=some { cls:=.type "list",dict:=none,data:=.seq acc c',slots:=#[] }->acc.size<=ks.length->pB D ks acc.toList->R (.ok (.ret res)) s') :
  Bl (Bv prog w) A.in1 (DS (.ref S) (.ref a) res) (fun fin s'=>match fin with | .done f=>R (.ok f) s' | .again c'=>c'.quiet=true/\Ev (Bv prog w) A c' R s') (fun e s'=>R (.error e) s') s:=by
 have hT:s.TypeIs (.ref a) "set":=by
  obtain ⟨o,_,_,_,ho,hex,_⟩:=hset
  exact ⟨o,ho,hex.1⟩
 have hSa:S≠a:=by
  intro z
  obtain ⟨o,_,_,_,ho,hex,hd,_⟩:=hset
  rw [<- z,hS] at ho
  cases ho
  cases hd
 unfold DS
 refine A3 (Gw hT ?_)
 have h1:Builtin.List.listSameRef (.ref S) (.ref a)=false:=by simp [Builtin.List.listSameRef,hSa]
 have h2:(EL "set" == EL "list")=false:=by decide
 have h3:(EL "set" == EL "tuple")=false:=by decide
 simp only [h1,h2,h3,Bool.or_false,BY,if_false]
 refine A3 (BJ (qv (A':=A.in1) hh hset hn) (fun it s2 hw=>?_) fun _ _ z=>z)
 obtain ⟨I,fp,wr,m,St,ord,rfl,W,hst,told,hmo,hmn,hfp,hwr,kp,eg,eo,hsz⟩:=hw
 have hT2:s2.TypeIs (.ref a) "set":=by
  obtain ⟨o,ho,hc⟩:=hT
  exact ⟨o,kp a o ho,hc⟩
 refine A3 (B0 ?_)
 unfold Builtin.List.listLengthHint
 refine A3 (wpAny_specialOf hT2 F.slot_set_len.lookup ?_)
 have hsp:splitId "set.__len__"=some ("set", "__len__"):=by kernel_rfl
 simp only [hsp]
 refine A3 (wpAny_isInstance hT2 rL ?_)
 rw [if_neg 'f']
 refine wpAny_ite_split (fun _=>?_) (fun h=>absurd (by kernel_rfl) h)
 refine A3 (Gw hT2 (Bc ?_))
 have hS2:=kp S _ hS
 have hSf:S ∉ fp:=fun hm=>by
  rcases hfp S hm with z | z
  ·exact hSa z
  ·exact CB _ (BO (Bi hS) z)
 have key:∀(h:Heap) (c₁ tk:Nat),St 0 h->(∀b o,b≠S->s2.heap.get? b=some o->h.get? b=some o)->h.get? S=some { cls:=.type "list",data:=.seq #[] c₁ }->Ev (Bv prog w) A (.builtin "list.extend.loop" ⟨[.ref S,.ref I,res],[]⟩) R { s2 with heap:=h,toks:=tk }:=fun h c₁ tk st hk hS₁=>by
  refine codeAny_extend_loopS W.toS (by rw [Bo]; omega) S hSf res m 0 _ #[] c₁ rfl (B6 _) st hS₁ (ItemsOf.nil _) fun s' acc' c' hm hS' hacc=>?_
  refine hR s' acc' c' (fun b o hb e=>hm.heap b o (fun hmem=>?_) (hk b o hb (kp b o e))) (hm.gens.trans eg) (hm.os.trans eo) hS' (by rw [hacc.1]; exact hmn) ?_
  ·rcases Bp.mp hmem with z | z
   ·exact hb z
   ·exact CB _ (BO (Bi e) (hwr b z))
  ·have e:acc'.toList=ord:=List.ext_getElem? fun j=>by
    rcases Ej j acc'.size with h | h
    ·have h2:=hacc.2 j acc'[j] (CK h)
     rw [h2,FZ,CK h]
    ·rw [Cm (by rw [B8]; exact h),Cm (by rw [<- hmo,<- hacc.1]; exact h)]
   rw [e]
   exact told
 refine wpAny_ite_split (fun _=>?_) (fun _=>Bc ⟨Fu F.plain_extend_loop _,key s2.heap c₀ s2.toks hst (fun _ _ _ e=>e) hS2⟩)
 refine A3 (wpAny_rule ?_)
 refine A3 ?_
 show Bl _ _ (updateSeq S (·.push .none) >>= fun _=>updateSeq S (·.pop)) _ _ _
 refine A3 (wpAny_updateSeq hS2 rfl ?_)
 have hS₂:=Cl (BS (·.push CA)) hS2 rfl
 refine wpAny_updateSeq (hz:=by seq_fits) hS₂ rfl ?_
 have hS₃:=Cl (BS (·.pop)) hS₂ rfl
 have oth:∀b o,b≠S->s2.heap.get? b=some o->((s2.heap.update S (BS (·.push CA))).update S (BS (·.pop))).get? b=some o :=
  fun b o hb e=>(Ch _ _ (Co hb)).trans ((Ch _ _ (Co hb)).trans e)
 exact Bc ⟨Fu F.plain_extend_loop _,key _ _ s2.toks (W.frame 0 _ _ hst fun b hb o e=>oth b o (fun z=>hSf (z ▸ hb)) e) oth hS₃⟩
theorem lG {a:Addr}{ks:List κ}{Q:List Value->A9->Prop}(hh:A.handled=none) (hset:SetS D s.heap a (!byT w) ks) (hn:ks.length<=1000)
  (hQ:∀s' vs,(∀b o,s.heap.get? b=some o->s'.heap.get? b=some o)->s'.gens=s.gens->s'.os=s.os->vs.length<=ks.length->pB D ks vs->Q vs s'):Bl (Bv prog w) A (collect (.ref a)) Q E s:=by
 unfold collect
 refine A3 (wpAny_runValue (DN PySem.F.entry_proto_collect ?_))
 rw [BC.under_plainId PySem.F.plain_proto_collect _]
 show Bl _ A.in1 (newList [] >>= fun l=>again (.builtin "list.__iadd__" ⟨[l,.ref a],[]⟩)) _ _ s
 refine A3 (Cr ?_)
 refine Bc ⟨Fu EG _,DN PySem.F.entry_list_iadd ?_⟩
 rw [BC.under_plainId EG _]
 show Bl _ A.in1 (DS (.ref 'n') (.ref a) (.ref 'n')) _ _ _
 have hS:(s.heap.push { cls:=.type "list",data:=.seq ([]:List Value).toArray }).get? 'n'=some { cls:=.type "list",data:=.seq #[] 0 }:=Bj _ rfl
 have hset2:SetS D (s.heap.push { cls:=.type "list",data:=.seq ([]:List Value).toArray }) a (!byT w) ks:=by
  obtain ⟨o,es,ep,t,ho,r⟩:=hset
  exact ⟨o,es,ep,t,A6 _ ho,r⟩
 refine mS (R:=fun r s'=>match r with
   | .ok (.ret v)=>Bl (Bv prog w) A (match v with
    | .ref a=>(do
     let o <- load a
     match o.data with
     | .seq xs _=>pure xs.toList
     | _=>Go "internal:collect")
    | _=>Go "internal:collect") Q E s'
   | .ok _=>False
   | .error e=>E e s') (s:={ s with heap:=s.heap.push { cls:=.type "list",data:=.seq ([]:List Value).toArray } }) hh hset2 hn hS fun s' acc c' kp eg eo hS' hl ht=>?_
 show Bl (Bv prog w) A (do
   let o <- load 'n'
   match o.data with
   | .seq xs _=>pure xs.toList
   | _=>Go "internal:collect") Q E s'
 refine A3 (wpAny_load hS' ?_)
 exact Bc (hQ s' acc.toList (fun b o e=>kp b o (Bw (Bi e)) (A6 _ e)) eg eo (by rw [B8]; exact hl) ht)
end
end L2.GS
namespace L2.GS
open PySem
section
variable {κ:Type} [DecidableEq κ] [Inhabited κ] {prog:Program}{w:BG}{D:Kd prog w κ}{A:BC}{R:GI->A9->Prop}{I:Addr}{fp wr:List Addr}{G:Array FM->Array FM->Prop}{n:Nat}{P:Nat->Value->Prop}{St:Nat->A9->Prop}
theorem SetS.keep {h h':Heap}{a:Addr}{led:Bool}{ks:List κ}(x:SetS D h a led ks) (k:∀o,h.get? a=some o->h'.get? a=some o):SetS D h' a led ks:=by
 obtain ⟨o,es,ep,t,ho,r⟩:=x
 exact ⟨o,es,ep,t,k o ho,r⟩
theorem rh (W:WalksS prog w A.in1 I fp wr G n P St) (S:Addr) (hSf:S ∉ fp) (led:Bool) (ks:List κ) (hn:ks.length=n) (hP:∀i v,P i v->∃t,v=D.val (ks.getD i default) t) (hb:n+1<scanBound) :
  ∀(k i:Nat) (s:A9),n-i=k->i<=n->St i s->SetS D s.heap S led (ks.take i)->(∀s',Moved (S :: wr) G s s'->SetS D s'.heap S led ks->R (.ok (.ret .none)) s') ->
   Ev (Bv prog w) A (.builtin "set.update.loop" ⟨[.ref S,.ref I],[]⟩) R s:=by
 have hSw:S ∉ wr:=fun h=>hSf (W.sub _ h)
 have up:∀b∈wr,b∈S :: wr:=fun b hb=>Br _ hb
 intro k
 induction k with
 | zero =>
  intro i s hk hi hst hS hR
  have e:i=n:=by omega
  subst e
  rw [<- hn,B4] at hS
  refine DN im ?_
  rw [BC.under_plainId eZ _]
  show Bl _ A.in1 (FN (.ref I) >>= _) _ _ s
  refine A3 (W.done s _ _ hst fun s' hm=>?_)
  exact Bc (hR s' (hm.mono up) (hS.keep fun o e=>hm.heap S o hSw e))
 | succ k ih =>
  intro i s hk hi hst hS hR
  have hlt:i<n:=by omega
  refine DN im ?_
  rw [BC.under_plainId eZ _]
  show Bl _ A.in1 (FN (.ref I) >>= _) _ _ s
  refine A3 (W.item i s _ _ hlt hst fun v s' hv hst' hm=>?_)
  obtain ⟨t,rfl⟩:=hP i v hv
  obtain ⟨x,ex⟩:∃x,x=ks.getD i default:=⟨_,rfl⟩
  rw [<- ex]
  have hS':=hS.keep fun o e=>hm.heap S o hSw e
  show Bl _ A.in1 (Gd [D.val x t] (setAdd S (D.val x t)) >>= _) _ _ s'
  refine A3 (B0 ?_)
  unfold setAdd
  refine B0 ?_
  refine A3 (D.kd.pyHash (k:=x) (D.of_val _ _) ?_)
  refine vh (s:={ s' with toks:=s'.toks+1 }) hS' (by rw [B9]; omega) fun b h' sb hS2=>?_
  have etk:ks.take i++[x]=ks.take (i+1):=by
   have hi':i<ks.length:=by omega
   rw [ex,A7,A4 hi',Cf,A4 hi']
   rfl
  rw [etk] at hS2
  refine Bc ⟨Fu eZ _,ih (i+1) _ 'b' hlt (W.frame _ s' _ _ hst' (Dd _) fun b hb o e=>?_) hS2 fun s'' hm2 hS3=>?_⟩
  ·exact sb.extBut b o (fun z=>hSf (z ▸ hb)) e
  ·exact hR s'' (Moved.trans W.gtrans ((hm.mono up).then_heap (Dd _) fun b o hb e=>sb.extBut b o (fun z=>hb (z ▸ Bq)) e) hm2) hS3
end
section
variable {κ:Type} [DecidableEq κ] [Inhabited κ] {prog:Program}{w:BG}{D:Kd prog w κ}{A:BC}{E:Value->A9->Prop}{s:A9}
theorem qQ {l:Addr}{items:Array Value}{ks:List κ}{Q:Value->A9->Prop}(hh:A.handled=none) (hl:s.heap.IsList l items) (hlen:ks.length=items.size) (hi:∀(i:Nat) (v:Value),items[i]?=some v->∃t,v=D.val (ks.getD i default) t) (hb:items.size+1<scanBound)
  (h:∀(h':Heap) (tk:Nat),SetS D h' 'n' (!byT w) ks->(∀b o,b<'n'->s.heap.get? b=some o->h'.get? b=some o)->Q (.ref 'n') { s with heap:=h',toks:=tk }) :
  Bl (Bv prog w) A (call (.type "set") [.ref l]) Q E s:=by
 obtain ⟨c,tl,hmro⟩:=ET.mro
 have hmade:=ET.made
 have hsub:=ET.sub
 refine F4 (codeAny_of_tree ?_)
 show Bl _ _ (callAny (.type "set") _) _ _ _
 refine Bc ⟨Code.quiet_builtin _ 'd',DN F.entry_type_call ?_⟩
 rw [BC.under_plain (weight_type_call_type "set" [.ref l] []) rfl]
 have h1:=ET.notType
 have h2:=ET.canCreate
 have hct:=lV (.ref l)
 repeat (any_goals (first | assumption | wp_step))
 refine Fc (tV (.ref l) (E:=E) (Q₁:=fun obj s₁=>obj=.ref 'n'/\s₁={ s with heap:=s.heap.push (cD w) }) ⟨rfl,rfl⟩) fun r s₁ hr=>?_
 cases r with
 | error e=>exact hr
 | ok fl =>
  cases fl with
  | ret obj =>
   obtain ⟨rfl,rfl⟩:=hr
   have hS:(s.heap.push (cD w)).get? 'n'=some (cD w):=Bj _ rfl
   have hT:A9.TypeIs { s with heap:=s.heap.push (cD w) } (.ref 'n') "set":=⟨_,hS,rfl⟩
   have hli:=ET.init.lookup
   have hbi:=ET.init.bind (.ref 'n')
   repeat (any_goals (first | assumption | wp_step))
   refine Fc (Gg (R:=wants (fun r s₂=>r=.none/\∃h' tk,s₂={ s with heap:=h',toks:=tk }/\SetS D h' 'n' (!byT w) ks /\
     (∀b o,b<'n'->s.heap.get? b=some o->h'.get? b=some o)) E) ET.init.plain F.entry_set_init (qz hT ?_)) fun r₂ s₂ hr₂=>?_
   ·obtain ⟨ol,hol,hcl,nl,hdl⟩:=hl
    obtain ⟨ocls,odict,odata,oslots⟩:=ol
    simp only at hcl hdl
    subst hcl; subst hdl
    have hol':(s.heap.push (cD w)).get? l=some { cls:=.type "list",dict:=odict,data:=.seq items nl,slots:=oslots }:=A6 _ hol
    have hsls:=rM
    have hslf:=pP
    have hne:(EL "list" == EL "dict")=false:=by decide
    have hl1:(s.heap.push (cD w)).IsList l items:=⟨_,hol',rfl,nl,rfl⟩
    unfold Builtin.«set.__init__» noKeywords Builtin.Frozenset.updateFrom
    generalize hPI:pyIter=PI
    wp_walk
    subst hPI
    refine EZ hl1 ?_
    refine A3 (wpAny_runValue ?_)
    have hlS:l<'n':=Bi hol
    have hh3:A.in1.in1.in1.handled=none:=by simp [hh]
    have hsz:(s.heap.push (cD w)).objs.size='n'+1:=C3 ..
    have hneI:l≠(s.heap.push (cD w)).objs.size:=by rw [hsz]; exact Bw (Ct hlS)
    have hSf:'n' ∉ [(s.heap.push (cD w)).objs.size,l]:=by
     rw [hsz]
     simp only [Bp,Cg,or_false,not_or]
     exact ⟨Bw (DV _),Gu hlS⟩
    refine rh ((Walks.list hh3 _ l hneI items).toS) 'n' hSf (!byT w) ks hlen hi hb (items.size-0) 0 _ 'b' (B6 _) ⟨⟨_,Bj _ rfl,rfl,rfl⟩,(hl1.push _)⟩ ?hS0 ?hR
    case hS0=>exact ⟨_,_,_,_,A6 _ hS,⟨rfl,rfl,rfl⟩,rfl,(fun e he=>nomatch he),Bb _,(by cases (!byT w) <;> rfl),rfl,TbOk.fresh _ _ _,.nil,fun x=>Iff.rfl⟩
    case hR =>
     intro s' hm hS'
     obtain ⟨h',g',d',tk',os'⟩:=s'
     have eg:g'=s.gens:=hm.gens
     have ed:d'=s.drawn:=hm.drawn
     have eo:os'=s.os:=hm.os
     subst eg; subst ed; subst eo
     show Bl _ _ _ _ _ _
     refine Bc ?_
     show Bl _ _ (ret CA) _ _ _
     refine Bc ⟨rfl,h',tk',rfl,hS',fun b o hb e=>?_⟩
     refine hm.heap b o (fun hmm=>?_) (A6 _ (A6 _ e))
     simp only [Bp,Cg,or_false] at hmm
     rcases hmm with z | z
     ·exact CB _ (z ▸ hb)
     ·rw [hsz] at z
      exact CB _ (BO (z ▸ hb) (Dd _))
   ·cases r₂ with
    | error e=>exact hr₂
    | ok fl₂ =>
     cases fl₂ with
     | ret r =>
      obtain ⟨rfl,h',tk,rfl,hS',hk'⟩:=hr₂
      repeat (any_goals (first | assumption | wp_step))
      exact h _ _ hS' hk'
     | _=>exact hr₂.elim
  | _=>exact hr.elim
end
end L2.GS
namespace L2.GS
open PySem PySem.Spec PyProof.Rows PySem.W KS
def pN (K:Ba) (te:TE):TE:=fun σ H Q=>te σ H fun x H1=>∃(a:Addr) (ss:List Int),x=.ref a/\SqL K H1 a (ss.map V.int)/\ss.length<64/\∀(D:Addr) (us:List Int),H1 D=none->us.length<=ss.length->us.Nodup->(∀x,x∈us↔x∈ss)->us.Pairwise (fun x y=>ltI y x=false)->Q (.ref D) (upd H1 D (.lst (us.map V.int)))
def KdI (prog:Program) (w:BG):Kd prog w Int where
 kd:=intKind prog w
 val:=fun k t=>.int k t
 key:=fun v=>match v with | .int k _=>k | _=>0
 is_val:=fun {k v} h=>by
  cases v <;> simp [intKind,Value.isInt] at h
  subst h
  exact ⟨_,rfl⟩
 of_val:=fun k t=>intKind_is _ _ _ _
 sc:=fun k t=>rfl
 key_val:=fun k t=>rfl
def KdS (prog:Program) (w:BG):Kd prog w Str where
 kd:=strKind prog w
 val:=fun k t=>.str k t
 key:=fun v=>match v with | .str k _=>k | _=>""
 is_val:=fun {k v} h=>by
  cases v <;> simp [PySem.strKind,Value.isStrOf] at h
  subst h
  exact ⟨_,rfl⟩
 of_val:=fun k t=>strKind_is _ _ _ _
 sc:=fun k t=>rfl
 key_val:=fun k t=>rfl
theorem k4 {κ:Type} [DecidableEq κ] {prog:Program}{w:BG}(S:SK κ) (D:Kd prog w κ) (hD:∀k t,D.val k t=S.val k t):∀vs:List Value,(∀v∈vs,D.IsV v)->Vals ((vs.map D.key).map S.mv) vs
 | [],_=>.nil
 | v :: vs,h=>by
  obtain ⟨k,t,rfl⟩:=h v (Bq ..)
  refine .cons ?_ (k4 S D hD vs fun u hu=>h u (Br _ hu))
  rw [D.key_val,hD]
  exact S.ler k t
def pO {κ:Type}(S:SK κ) (K:Ba) (te:TE):TE:=fun σ H Q=>te σ H fun x H1=>∃(a:Addr) (ss:List κ),x=.ref a/\SqL K H1 a (ss.map S.mv)/\ss.length<64/\∀(D:Addr) (us:List κ),H1 D=none->us.length<=ss.length->us.Nodup->(∀x,x∈us↔x∈ss)->us.Pairwise (fun x y=>S.lt y x=false)->Q (.ref D) (upd H1 D (.lst (us.map S.mv)))
section
variable {X:Cx}
theorem gy {κ:Type} [DecidableEq κ] [Inhabited κ] (S:SK κ) (D0:∀prog w,Kd prog w κ) (hD:∀prog w k t,(D0 prog w).val k t=S.val k t) {K:Ba}{e:Expr}{te:TE}{p p' pos pos':Pos}(hK:X.K=K) (hc:X.calm=true) (hgl:X.env.kindOf "sorted"=some .globalImplicit) (hml:X.mg "sorted"=none) (hg:X.env.kindOf "set"=some .globalImplicit) (hm:X.mg "set"=none) (he:PE X e te) (h1:au e=true)
  (hs:B2 [e] X.env=[(false,eval e X.env)]):PE X (.Call (.Name "sorted" p) [.Call (.Name "set" p') [e] [] pos'] [] pos) (pO S K te):=by
 subst hK
 intro pins s σ H Q I h
 refine GG (bp (u:=.builtin "sorted") I hgl hml 'd' (EC ?_ rfl rfl))
 show Bl _ _ (GE ((false,eval (.Call (.Name "set" p') [e] [] pos') X.env) :: DM pos (B2 [] X.env))) _ _ s
 refine CD (GG (bp (u:=.type "set") I hg hm 'd' (BU (thn ((on he bO hs) pos' pins s σ H (fun vs H1=>match vs with
  | [x]=>∃(a:Addr) (ss:List κ),x=.ref a/\SqL X.K H1 a (ss.map S.mv)/\ss.length<64/\∀(D:Addr) (us:List κ),H1 D=none->us.length<=ss.length->us.Nodup->(∀x,x∈us↔x∈ss)->us.Pairwise (fun x y=>S.lt y x=false)->Q (.ref D) (upd H1 D (.lst (us.map S.mv)))
  | _=>False) I h) fun us s1 ⟨vs,H1,I1,r1,q1⟩=>?_) (aq h1) (bc 'e'))))
 match vs,q1 with
 | [x],⟨a,ss,ex,hS,hn,q⟩ =>
 subst ex
 obtain ⟨u,rfl,ru⟩:=bR r1
 cases ru
 obtain ⟨its,rv,pl,hz⟩:=I1.list hS
 have hlen:its.length=ss.length:=by rw [<- rv.length,A2]
 have htx:∀(i:Nat) (v:Value),its.toArray[i]?=some v->∃t,v=(D0 X.prog X.w).val (ss.getD i default) t:=fun i v hv=>by
  have hv:its[i]?=some v:=by simpa using hv
  have hi:i<ss.length:=by have:=(A8.mp hv).1; omega
  obtain ⟨u,hu,ru⟩:=rv.get (i:=i) (x:=S.mv ss[i]) (by rw [A5,A4 hi]; rfl)
  rw [hv] at hu
  cases hu
  obtain ⟨t,rfl⟩:=S.rel _ _ ru
  exact ⟨t,by rw [A7,A4 hi,hD]; rfl⟩
 have hh:=I1.ok.hd hc
 refine qQ (D:=D0 X.prog X.w) hh pl.isList (ks:=ss) (by rw [Be]; omega) htx (by rw [Be]; show _<4096; omega) fun h2 tk2 hset kp2=>?_
 refine Dc ?_
 have I2:Inv X pins σ H1 { s1 with heap:=h2,toks:=tk2 }:=I1.kept fun b o e=>kp2 b o (Bi e) e
 refine Da FK Fj Fk (FS _) ?_
 unfold Builtin.«sorted»
 refine A3 (m:=F8 "sorted" 1 1 _) (Bc ?_)
 refine A3 (lG (A:=X.A.in1) (s:={ s1 with heap:=h2,toks:=tk2 }) hh hset 'b' fun s3 vs kp3 eg eo hl told=>?_)
 have I3:Inv X pins σ H1 s3:=I2.same kp3 eg eo
 refine A3 (DI ?_ (by rw [Bo]; omega))
 have I4:=I3.kept (t':=s3.toks) fun b o e=>A6 (BE "list" vs.toArray 0) e
 have fa:=I3.fpOk (Bb _) (I3.hok.fresh (Bb _))
 have xa:=Cp I3.sz
 have ha:(s3.heap.push (BE "list" vs.toArray 0)).get? s3.heap.objs.size=some (BE "list" vs.toArray 0):=Bj _ rfl
 generalize s3.heap.objs.size=D at fa xa ha ⊢
 have hkv:=k4 S (D0 X.prog X.w) (hD _ _) vs told.1
 have hnd:=told.2.1
 have hmm:=told.2.2
 have hkl:(vs.map (D0 X.prog X.w).key).length=vs.length:=A2 ..
 generalize vs.map (D0 X.prog X.w).key=ks at hkv hnd hmm hkl
 have fin:∀(s':A9) (us:List κ) (ws:List Value) (c:Nat),Inv X pins σ H1 s'->Vals (us.map S.mv) ws->s'.heap.get? D=some (BE "list" ws.toArray c)->us.Perm ks->us.Pairwise (fun x y=>S.lt y x=false)->EP X pins σ Q (.ref D) s':=fun s' us ws c J hv hD hp hw=>by
  have hu:us.length<=ss.length:=by rw [hp.length_eq]; omega
  exact ⟨.ref D,_,J.trackU (o:=.lst (us.map S.mv)) fa xa ⟨by rw [A2,Bo]; omega,_,c,hv,hD⟩,rfl,q D us fa.1 hu (hp.nodup_iff.mpr hnd) (fun x=>hp.mem_iff.trans (hmm x)) hw⟩
 exact A3 (B0 (Cq EI ⟨_,ha,rfl⟩ Ef (fY S I4 fa xa ha hkv 'b' fun s' us ws c J hv hc hp hw=>⟨.none,rfl,Bc ⟨_,rfl,fin _ us ws c J hv hc hp hw⟩⟩) (E9 _)))
theorem e_sortSetT {K:Ba}{e:Expr}{te:TE}{p p' pos pos':Pos}(hml:X.mg "sorted"=none) (hm:X.mg "set"=none) (he:QE X e te) (hK:X.K=K:=by rfl) (hc:X.calm=true:=by rfl) (hgl:X.env.kindOf "sorted"=some .globalImplicit:=by kernel_rfl) (hg:X.env.kindOf "set"=some .globalImplicit:=by kernel_rfl) (h1:au e=true:=by rfl)
  (hs:B2 [e] X.env=[(false,eval e X.env)]:=by rfl):QE X (.Call (.Name "sorted" p) [.Call (.Name "set" p') [e] [] pos'] [] pos) (rC K te):=⟨gy skS KdS (fun _ _ _ _=>rfl) hK hc hgl hml hg hm he.h h1 hs⟩
theorem e_sortSetI {K:Ba}{e:Expr}{te:TE}{p p' pos pos':Pos}(hml:X.mg "sorted"=none) (hm:X.mg "set"=none) (he:QE X e te) (hK:X.K=K:=by rfl) (hc:X.calm=true:=by rfl) (hgl:X.env.kindOf "sorted"=some .globalImplicit:=by kernel_rfl) (hg:X.env.kindOf "set"=some .globalImplicit:=by kernel_rfl) (h1:au e=true:=by rfl)
  (hs:B2 [e] X.env=[(false,eval e X.env)]:=by rfl):QE X (.Call (.Name "sorted" p) [.Call (.Name "set" p') [e] [] pos'] [] pos) (pN K te):=⟨gy skI KdI (fun _ _ _ _=>rfl) hK hc hgl hml hg hm he.h h1 hs⟩
end
end L2.GS
namespace L2.GS
open PySem PySem.Spec PyProof.Rows PySem.W KS
section
variable {X:Cx}
theorem kn:∀{ts:List (Addr×Str×Int)}{us:List Value},Vals (ts.map fun x=>V.ref x.1) us->us=ts.map fun x=>Bs x.1
 | [],[],_=>rfl
 | t :: ts,u :: us,h=>by
  cases h with
  | cons r t' =>
   have r:u=Bs t.1:=r
   rw [r,kn t']
   rfl
theorem call_sortTI {K:Ba}(hK:X.K=K):bz X (.builtin "sorted") (fun xs H Q=>∃(a:Addr) (ns:List Int),xs=[.ref a]/\SqT K H a (ns.map V.int)/\ns.length<64 /\
  ∀(l:Addr) (ms:List Int),H l=none->ms.Perm ns->ms.Pairwise (fun x y=>ltI y x=false)->Q (.ref l) (upd H l (.lst (ms.map V.int)))):=by
 subst hK
 intro pins s σ H xs us Q I r h
 obtain ⟨a,ns,rfl,hS,hn,q⟩:=h
 obtain ⟨u,rfl,ru⟩:=bR r
 cases ru
 obtain ⟨its,rv,pl,hz⟩:=I.tuple hS
 have hlen:its.length=ns.length:=by rw [<- rv.length,A2]
 obtain ⟨o,ho,hc,n,hd⟩:=pl
 refine Da FK Fj Fk (FS _) ?_
 unfold Builtin.«sorted»
 refine A3 (m:=F8 "sorted" 1 1 _) (Bc ?_)
 refine A3 (wpAny_collect_seq a (.inr rfl) ho hc hd (fun h1 keep=>?_) (by rw [Be,Bo]; omega))
 rw [List.toList_toArray]
 refine A3 (DI ?_ (by rw [Bo]; omega))
 have I1:=I.kept (t':=s.toks) keep
 have I2:=I1.kept (t':=s.toks) fun b o e=>A6 (BE "list" its.toArray 0) e
 have fa:=I1.fpOk (Bb _) (I1.hok.fresh (Bb _))
 have xa:=Cp I1.sz
 have ha:(h1.push (BE "list" its.toArray 0)).get? h1.objs.size=some (BE "list" its.toArray 0):=Bj _ rfl
 generalize h1.objs.size=D at fa xa ha ⊢
 refine A3 (B0 (Cq EI ⟨_,ha,rfl⟩ Ef (fY skI I2 fa xa ha rv (by rw [<- hlen]; omega) fun s' us ws c J hv hc hp hw=>⟨.none,rfl,?_⟩) (E9 _)))
 have J2:=J.trackU (o:=.lst (us.map V.int)) fa xa ⟨by rw [A2,hp.length_eq,Bo]; omega,_,c,hv,hc⟩
 exact Bc ⟨_,rfl,.ref D,_,J2,rfl,q D us fa.1 hp hw⟩
theorem call_sortPL {K:Ba}(hK:X.K=K):bz X (.builtin "sorted") (fun xs H Q=>∃(a:Addr) (ts:List (Addr×Str×Int)),xs=[.ref a]/\SqL K H a (ts.map fun x=>V.ref x.1)/\(∀x∈ts,H x.1=some (.tup [.str x.2.1,.int x.2.2]))/\ts.length<64 /\
  ∀(l:Addr) (us:List (Addr×Str×Int)),H l=none->us.Perm ts->us.Pairwise (fun x y=>ltP y.2 x.2=false)->Q (.ref l) (upd H l (.lst 'q'))):=by
 subst hK
 intro pins s σ H xs us Q I r h
 obtain ⟨a,ts,rfl,hS,ht,hn,q⟩:=h
 obtain ⟨u,rfl,ru⟩:=bR r
 cases ru
 obtain ⟨its,rv,pl,hz⟩:=I.list hS
 have ei:=kn rv
 subst ei
 refine Da FK Fj Fk (FS _) ?_
 unfold Builtin.«sorted»
 refine A3 (m:=F8 "sorted" 1 1 _) (Bc ?_)
 refine A3 (collect_list pl.isList ?_ (by rw [A2,Bo]; omega))
 refine A3 (DI ?_ (by rw [A2,Bo]; omega))
 have keep:∀b o,s.heap.get? b=some o->((s.heap.push (BE "list" #[] 0)).update 'n' (BS (·++(ts.map fun x=>Bs x.1).toArray))).get? b=some o:=fun b o e=>by
  have lt:b<'n':=Bi e
  rw [Ew _ _ _ _ (Bw lt),E1 _ _ _ (Bw lt)]
  exact e
 have I1:=I.kept (t':=s.toks) keep
 have I2:=I1.kept (t':=s.toks) fun b o e=>A6 (BE "list" (ts.map fun x=>Bs x.1).toArray 0) e
 have fa:=I1.fpOk (Bb _) (I1.hok.fresh (Bb _))
 have xa:=Cp I1.sz
 have ha:(((s.heap.push (BE "list" #[] 0)).update 'n' (BS (·++(ts.map fun x=>Bs x.1).toArray))).push (BE "list" (ts.map fun x=>Bs x.1).toArray 0)).get? ((s.heap.push (BE "list" #[] 0)).update 'n' (BS (·++(ts.map fun x=>Bs x.1).toArray))).objs.size=some (BE "list" (ts.map fun x=>Bs x.1).toArray 0):=Bj _ rfl
 generalize ((s.heap.push (BE "list" #[] 0)).update 'n' (BS (·++(ts.map fun x=>Bs x.1).toArray))).objs.size=D at fa xa ha ⊢
 refine A3 (B0 (Cq EI ⟨_,ha,rfl⟩ Ef (gu I2 fa xa ha ht hn fun s' us c J hc hp hw=>⟨.none,rfl,?_⟩) (E9 _)))
 have hvs:Vals 'q' (us.map fun x=>Bs x.1):=by
  clear hc hp hw
  induction us with
  | nil=>exact .nil
  | cons x us ih=>exact .cons rfl ih
 have J2:=J.trackU (o:=.lst 'q') fa xa ⟨by rw [A2,hp.length_eq,Bo]; omega,_,c,hvs,hc⟩
 exact Bc ⟨_,rfl,.ref D,_,J2,rfl,q D us fa.1 hp hw⟩
end
end L2.GS
namespace L2
open PySem PySem.Spec PyProof.Rows
section
variable {X:Cx}
def rF (ta:TA):TE:=fun σ H Q=>ta σ H fun vs H1=>∃j:Int,vs=[.int j]/\kj j/\j.toNat<=2 ^ 24/\∀l,H1 l=none->Q (.ref l) (upd H1 l (.lst (eI 0 j.toNat 1)))
theorem sV {a:Expr}{ta:TA}{p p' pos pos':Pos}(hc:X.calm=true) (hgl:X.env.kindOf "list"=some .globalImplicit) (hml:X.mg "list"=none) (hg:X.env.kindOf "range"=some .globalImplicit) (hm:X.mg "range"=none) (ha:PA X [a] ta)
  (h1:au a=true):PE X (.Call (.Name "list" p) [.Call (.Name "range" p') [a] [] pos'] [] pos) (rF ta):=by
 intro pins s σ H Q I h
 refine GG (bp (u:=.type "list") I hgl hml 'd' (BU ?_ rfl rfl))
 show Bl _ _ (GE ((false,eval (.Call (.Name "range" p') [a] [] pos') X.env) :: DM pos (B2 [] X.env))) _ _ s
 refine CD (GG (bp I hg hm F3 (BU (thn (ha pos' pins s σ H _ I h) fun us s1 ⟨vs,H1,I1,r1,q1⟩=>?_) (aq h1) (bc 'e'))))
 obtain ⟨j,e,sj,hn,q⟩:=q1
 subst e
 cases r1 with
 | cons r rr =>
  cases rr
  obtain ⟨t,rfl⟩:=r
  refine call_range_1 ?_
  refine Dc ?_
  have I2:Inv X pins σ H1 { s1 with heap:=s1.heap.push { cls:=.type "range",data:=.fields #[.int 0 s1.toks,.int j t,.int 1 (s1.toks+1)] },toks:=s1.toks+1+1 }:=I1.kept fun b o e=>A6 _ e
  exact h_ hc I2 (GF ..) (small_one 'f' 'f' sj.1 sj.2) (by rw [E8 0 j,Int.sub_zero]) hn q
theorem wF {a:Expr}{t1:TE}{p p' pos pos':Pos}(hc:X.calm=true) (hml:X.mg "list"=none) (hm:X.mg "range"=none) (h1:QE X a t1) (hgl:X.env.kindOf "list"=some .globalImplicit:=by kernel_rfl) (hg:X.env.kindOf "range"=some .globalImplicit:=by kernel_rfl)
  (s1:au a=true:=by rfl):QE X (.Call (.Name "list" p) [.Call (.Name "range" p') [a] [] pos'] [] pos) (rF (bB t1 fV)):=⟨sV hc hgl hml hg hm (pa' h1.h bO s1) s1⟩
end
end L2
namespace DT
open PySem L2
end DT
namespace K55
open PySem L2 G KS
theorem u9 {a b m:Int}(h1:m∈[a,b]) (h2:∀v∈[a,b],m<=v):m=if b<a then b else a:=by
 have e1:=h2 a 'e'
 have e2:=h2 b 'e'
 simp only [Bp,Cg,or_false] at h1
 split <;> omega
theorem u_ {a b m:Int}(h1:m∈[a,b]) (h2:∀v∈[a,b],v<=m):m=if a<b then b else a:=by
 have e1:=h2 a 'e'
 have e2:=h2 b 'e'
 simp only [Bp,Cg,or_false] at h1
 split <;> omega
theorem mB {b:List Nat}{i j:Nat}(h:b[i]?=some j):(nV b)[i]?=some (V.int ((j:Nat):Int)):=by
 unfold nV
 rw [A5,h]
 rfl
theorem yo {sp:Int}{ps:'l'}{prs:List Nat}(h0:0<=sp) (P:PrOk (ps.map fun x=>be sp x.2) prs):∀p∈prs,p<ps.length:=by
 intro p hp
 obtain ⟨j,hj⟩:=Gm hp
 have hjl:=(A8.mp hj).1
 have hl:=P.len
 rw [A2] at hl
 have hz:=A4 (show j<ps.length by omega)
 have hv:(ps.map fun x=>be sp x.2)[j]?=some (be sp (ps[j]' 'b').2):=by rw [A5,hz]; rfl
 have hm:=P.many hv hj (by
  show (if (ps[j]' 'b').2.b<(ps[j]' 'b').2.a then _ else _)<=(if (ps[j]' 'b').2.a<(ps[j]' 'b').2.b then _ else _)+sp
  split <;> split <;> omega)
 have h2:(wanting (ps.map fun x=>be sp x.2) (be sp (ps[j]' 'b').2).reel (be sp (ps[j]' 'b').2).lo).length<=(ps.map fun x=>be sp x.2).length:=by
  have:=DB (fun k=>match (ps.map fun x=>be sp x.2)[k]? with | some v=>kl (be sp (ps[j]' 'b').2).reel (be sp (ps[j]' 'b').2).lo v | none=>false) (Bh (ps.map fun x=>be sp x.2).length)
  rw [BL] at this
  exact this
 rw [A2] at h2
 omega
section
variable {P:Program}{w:BG}{K:Ba}{mg:Str->Option Value}{base:Heap}
def rR:Sp:=fun vs H Q _=>∃(pl pp:Addr) (ps:'l') (prs:List Nat) (sp:Int),vs=[.ref pl,.ref pp,.int sp]/\SLs H pl ps/\H pp=some (.lst (nV prs))/\ps.length<64/\0<=sp/\PrOk (ps.map fun x=>be sp x.2) prs/\∀H',Same H H'->Q (.bl true) H'
theorem scOnce:ax ["_law_strips", "_law_prints", "_law_spoil", "_law_seen", "_law_reel", "_law_mine", "_law_number", "_law_end", "_law_first", "_law_last", "_law_k"] ["_law_strips", "_law_prints", "_law_spoil"] (aj bS):='a'
theorem vQ {f:Addr}{fd:BX}(F:Fun K "_law_cut_once" "_law_cut_once" bS f fd) (dCuts:'k' "cuts" 2 ["strips", "prints", "reel", "number"] rY) (n_list:mg "list"=none) (n_sorted:mg "sorted"=none) (n_set:mg "set"=none) (n_range:mg "range"=none) (n_len:mg "len"=none) (n_max:mg "max"=none) (n_min:mg "min"=none):aS P w K mg base CX0 3 f fd ["_law_strips", "_law_prints", "_law_spoil"] rR:=by
 refine F.ok scOnce (fun vs H Q E h=>?_) (fun cdv A outer s H vs Q E hr h=>?_)
 ·obtain ⟨pl,pp,ps,prs,sp,rfl,_⟩:=h
  rfl
 obtain ⟨pl,pp,ps,prs,sp,rfl,sl,hpp,h64,h0,pr,q⟩:=h
 refine cL (ad (aA (i:=3) scOnce.nd (bh ag))
  (ad (bf BQ rfl (aZ (GS.e_sortSetT (K:=K) n_sorted n_set (du [] [] [] rfl trivial trivial (aZ (e_c 0)) (fun _ _ _ _=>(ar (bu (K:=K) rfl) (e_n 0) ae))))) (fL (i:=4) scOnce.nd)
   (ad (nX (i:=5) scOnce.nd ["_law_prints", "_law_reel", "_law_strips"] [1,4,0] [("_law_strips",'n'+1),("_law_reel",'n'+3),("_law_prints",'n'+2)] rfl ⟨rfl,rfl,rfl,rfl,⟨rfl,rfl,rfl,rfl,⟨rfl,rfl,rfl,rfl,trivial⟩⟩⟩ ⟨rfl,⟨rfl,⟨rfl,trivial⟩⟩⟩ (dn n_range (e_b ao n_len B3 (aa (e_c 0) ag))) (fun _ _ _ _=>(aJ cx (ar (bu (K:=K) rfl) (ar (bD (K:=K) rfl) (e_n 3) (e_n 0)) ae) (e_n 2))) (fun _ _ _ _=>(ar (bD (K:=K) rfl) (e_n 1) (e_n 0))))
   (ai (bf BQ rfl (dn n_range (aB aG (e_b (qT (K:=K) rfl rfl) n_max 'd' (aa (e_v 5) ag)) ae)) (aE (i:=6) scOnce.nd)
    (ad (aA (i:=7) scOnce.nd oU)
    (ai (bf BQ rfl (aZ (ay dCuts hr aD (aa (e_c 0) (aa (e_t fN n_list 'd' (aa (e_c 1) ag)) (aa (e_c 4) (aa (e_v 6) ag)))))) (fK rfl (aN (aE (i:=8) scOnce.nd) (aN (aE (i:=9) scOnce.nd) (aN (aE (i:=10) scOnce.nd) cJ))))
     (ad (bK (t_w (gI (aJ eP (ar az (ar aw (e_c 0) (e_v 10)) ae) (e_c 4)) (gI (aJ eP (ar aw (e_c 1) (e_v 10)) (e_v 6)) (fm (aJ eP (e_v 8) (e_b (qR (K:=K) rfl rfl) n_min 'd' (aa (lx fy (ar aw (e_c 0) (e_v 10)) (bP ae) (bP ae)) ag)))))))
      (ai (aF gh))
      aV)
     (ad (bK (t_w (gI (aJ eP (e_v 9) (e_b (qS (K:=K) rfl rfl) n_max 'd' (aa (lx fy (ar aw (e_c 0) (e_v 10)) (bP ae) (bP ae)) ag))) (fm (t_w (gJ (rA (e_v 7)) (eS (aJ kM (aB aQ (e_v 8) (e_v 7)) (e_v 2))))))))
      (ai (aF gh))
      aV)
     (ad (aW (aU (e_v 3) (e_v 10)))
     (ai (aA (i:=7) scOnce.nd (e_v 9)))))))))))))
  (ai (aF (ir (tI hr) (e_b (mY (K:=K) rfl) n_sorted 'd' (aa (e_v 3) ag)) (wF rfl n_list n_range (e_b ao n_len B3 (aa (e_c 0) ag)))))))) ?_
 intros
 have zl:sizeLine=16777216:=Bo
 have hml:'s'.length=ps.length:=A2 ..
 have hprl:prs.length=ps.length:=by rw [pr.len,A2]
 have hpl:prs.length='s'.length:=by rw [hprl,hml]
 have plt:=yo h0 pr
 have pr2:PrOk ('s'.map (be sp)) prs:=by rw [BV]; exact pr
 have hvl:'p'.length=ps.length:=A2 ..
 refine ⟨'g',fun pf hpf=>?_⟩
 have s0:=Same.new hpf (.lst [])
 refine ⟨_,rfl,pl,rfl,⟨_,SqL.of (s0 _ _ sl.1)⟩,?_⟩
 refine cQ ((ps.map fun x=>x.2.reel).map V.str) (SqL.of (s0 _ _ sl.1)) (by rw [hvl]; omega) (by rw [A2,A2,A2]) ?_ ?_
 ·intro i x y H' R hS' hx hy hR
  rw [A5] at hx
  rw [A5,A5] at hy
  cases hz:ps[i]? with
  | none=>rw [hz] at hx; cases hx
  | some z =>
   rw [hz] at hx hy
   cases hx
   cases hy
   exact ⟨_,rfl,z.1,_,_,.str z.2.reel,rfl,rfl,SqT.of (hS' _ _ (s0 _ _ (sl.2 z (Bg hz)))),af (j:=0) rfl,hR _ (Same.refl _)⟩
 intro D1 H1 s1 hD10 hD1
 refine ⟨D1,ps.map fun x=>x.2.reel,rfl,SqL.of hD1,by rw [A2]; exact h64,fun pd rs hpd hrl hnd hmem _=>?_⟩
 have hpdf:pd≠pf:=Co (ak (s1 _ _ ac) hpd)
 have s2:=Same.new hpd (.lst (rs.map V.str))
 have v2:=ac (H:=H1) (a:=pd) (o:=.lst (rs.map V.str))
 have S2:=(s0.trans s1).trans s2
 have hpf2:upd H1 pd (.lst (rs.map V.str)) pf=some (.lst ([]:List V)):=s2 _ _ (s1 _ _ ac)
 generalize upd H1 pd (.lst (rs.map V.str))=H2 at s2 v2 S2 hpf2 ⊢
 refine ⟨pd,rfl,⟨_,SqL.of v2⟩,a_ (K:=K) (a:=pd) (xs:=rs.map V.str) (fun i σ H'=>∃(seen:List Int) (o4 o5 o6 o7 o8 o9 o10:Option V),σ=[some (.ref pl),some (.ref pp),some (.int sp),some (.ref pf),o4,o5,o6,o7,o8,o9,o10]/\Same H H'/\H' pd=some (.lst (rs.map V.str))/\H' pf=some (.lst (seen.map V.int))/\seen.Perm (sL 's' (inR 's' (rs.take i))))
  ⟨[],none,none,none,none,none,none,none,rfl,S2,v2,hpf2,?_⟩ (fun i σ H' _ ⟨_,_,_,_,_,_,_,_,_,_,h,_⟩=>SqL.of h) ?_ ?_⟩
 ·rw [GB]
  unfold sL
  rw [List.filter_eq_nil_iff.mpr fun k hk=>?_]
  ·exact .refl _
  ·unfold inR
   cases 's'[k]? <;> simp
 ·rintro i x σ H3 hx ⟨seen,o4,o5,o6,o7,o8,o9,o10,rfl,S3,hd3,hf3,hp3⟩
  rw [A5] at hx
  cases hri:rs[i]? with
  | none=>rw [hri] at hx; cases hx
  | some r =>
   rw [hri] at hx
   cases hx
   have hrm:=Bg hri
   have hnew:r ∉ rs.take i:=fun z=>by
    obtain ⟨hi,e⟩:=A8.mp hri
    obtain ⟨j,hj,ej⟩:=List.mem_take_iff_getElem.mp z
    have:=(List.getElem_inj hnd).mp (ej.trans e.symm)
    omega
   refine ⟨_,rfl,pl,_,rfl,.inl (SqL.of (S3 _ _ sl.1)),_,rfl,by rw [hvl]; omega,by rw [hvl]; omega,?_⟩
   rw [hvl,Cy]
   refine gk (onR 's' r) (fun k=>V.int ((prs.getD k 0:Nat):Int)) 'b' ?_ ?_ ?_
   ·intro k H' R hk hS' hR
    have hz:ps[k]?=some ps[k]:=A4 hk
    have S4:=S3.trans hS'
    refine ⟨_,rfl,_,rfl,pl,_,_,.ref ps[k].1,rfl,rfl,SqL.of (S4 _ _ sl.1),bv (k:=k) 'b' (by rw [A5,hz]; rfl),ps[k].1,_,_,.str ps[k].2.reel,rfl,rfl,SqT.of (S4 _ _ (sl.2 _ (BB hk))),af (j:=0) rfl,_,rfl,rfl,_,rfl,?_⟩
    have e:decide (V.str ps[k].2.reel=V.str r)=onR 's' r k:=by
     rw [dR r (by rw [A5,hz]; rfl)]
     exact decide_eq_decide.mpr ⟨fun z=>V.str.inj z,fun z=>by rw [z]⟩
    rw [e]
    exact hR _ (Same.refl _)
   ·intro k H' R hk hS' _ hR
    have hp:prs[k]?=some (prs[k]' 'b'):=A4 'b'
    have e:prs.getD k 0=prs[k]' 'b':=by rw [A7,hp]; rfl
    refine ⟨_,rfl,_,rfl,pp,_,_,.int ((prs.getD k 0:Nat):Int),rfl,rfl,SqL.of (hS' _ _ (S3 _ _ hpp)),bv (k:=k) 'b' (by rw [e]; exact mB hp),hR _ (Same.refl _)⟩
   intro D4 H4 s4 hD40 hD4
   have S4:=S3.trans s4
   have hd4:=s4 _ _ hd3
   have hf4:=s4 _ _ hf3
   obtain ⟨ns,hns⟩:∃ns:List Int,ns=((Bh ps.length).filter (onR 's' r)).map fun k=>((prs.getD k 0:Nat):Int):=⟨_,rfl⟩
   have hD4':H4 D4=some (.lst (ns.map V.int)):=by rw [hD4,hns,BV]; rfl
   have hne:0<ns.length:=by
    obtain ⟨z,hz,e⟩:=Bz.mp ((hmem r).mp hrm)
    obtain ⟨k,hk,ek⟩:=List.getElem_of_mem hz
    rw [hns,A2]
    refine List.length_pos_of_mem (a:=k) (C6.mpr ⟨BW.mpr hk,?_⟩)
    rw [dR r (z:=z.2) (by rw [A5,A4 hk,ek]; rfl)]
    exact decide_eq_true e
   refine ⟨_,rfl,D4,ns,rfl,SqL.of hD4',hne,fun mx hmx hall=>?_⟩
   obtain ⟨m,rfl,hm64⟩:∃m:Nat,mx=(m:Int)/\m<64:=by
    rw [hns] at hmx
    obtain ⟨k,hk,rfl⟩:=Bz.mp hmx
    have hk:=BW.mp (C6.mp hk).1
    have hp:prs[k]?=some (prs[k]' 'b'):=A4 'b'
    refine ⟨_,rfl,?_⟩
    rw [A7,hp]
    have:=plt _ (BB (by omega:k<prs.length))
    exact Nat.lt_trans this h64
   have hbig:∀k,k<'s'.length->onR 's' r k=true->prs.getD k 0<m+1:=fun k hk ho=>by
    have:=hall _ (by rw [hns]; exact Bz.mpr ⟨k,C6.mpr ⟨BW.mpr 'b',ho⟩,rfl⟩)
    omega
   refine ⟨_,_,rfl,rfl,((m+1:Nat):Int),(by rw [Int.natCast_add]; rfl),by omega,by omega,bQ (lo:=0) (n:=m+1) (fun j σ H'=>∃(seen:List Int) (o6 o7 o8 o9 o10:Option V),σ=[some (.ref pl),some (.ref pp),some (.int sp),some (.ref pf),some (.str r),some (.ref D4),o6,o7,o8,o9,o10]/\Same H H'/\H' pd=some (.lst (rs.map V.str))/\H' pf=some (.lst (seen.map V.int))/\seen.Perm (sL 's' (eN 's' prs (rs.take i) r j)))
    ⟨seen,_,_,_,_,_,rfl,S4,hd4,hf4,by rw [pU]; exact hp3⟩ ?_ ?_⟩
   ·rintro j σ H5 hj ⟨seen,o6,o7,o8,o9,o10,rfl,S5,hd5,hf5,hp5⟩
    rw [El]
    refine ⟨_,rfl,_,rfl,pp,_,rfl,.inl (SqL.of (S5 _ _ hpp)),fun p6 hp6=>?_⟩
    have s6:=Same.new hp6 (.lst (nV prs))
    have v6:=ac (H:=H5) (a:=p6) (o:=.lst (nV prs))
    have S6:=S5.trans s6
    have hd6:=s6 _ _ hd5
    have hf6:=s6 _ _ hf5
    generalize upd H5 p6 (.lst (nV prs))=H6 at s6 v6 S6 hd6 hf6 ⊢
    refine ⟨_,rfl,_,rfl,pl,p6,r,(j:Int),ps,prs,rfl,sl.same S6,v6,hprl,h64,fun l7 us H7 s7 hl70 rt ck=>?_⟩
    have S7:=S6.trans s7
    have hd7:=s7 _ _ hd6
    have hf7:=s7 _ _ hf6
    have nl:l7≠pf:=fun z=>by rw [z,hf6] at hl70; cases hl70
    have hul:us.length<64:=by
     have h1:=ck.perm.length_eq
     have h2:=iy 's' prs r (j:Int) 's'.length
     rw [A2] at h1
     rw [hml] at h1 h2
     omega
    have hsl:seen.length<=64:=by
     have h1:=hp5.length_eq
     have h2:=ya 's' (eN 's' prs (rs.take i) r j)
     omega
    refine ⟨l7,rfl,⟨_,SqL.of rt.1⟩,a_ (K:=K) (a:=l7) (xs:=us.map fun x=>V.ref x.1) (fun n σ H'=>∃(e7 o8 o9 o10:Option V),σ=[some (.ref pl),some (.ref pp),some (.int sp),some (.ref pf),some (.str r),some (.ref D4),some (.int (j:Int)),e7,o8,o9,o10]/\Same H H'/\H' pd=some (.lst (rs.map V.str))/\RT H' l7 us/\H' pf=some (.lst ((seen++(us.take n).map fun x=>x.2.2.2).map V.int))/\((n=0/\e7=some .non)\/∃n',n=n'+1/\∃x,us[n']?=some x/\e7=some (.int x.2.2.1)))
     ⟨_,_,_,_,rfl,S7,hd7,rt,by rw [GB,FP,BH]; exact hf7,.inl ⟨rfl,rfl⟩⟩ (fun n σ H' _ ⟨_,_,_,_,_,_,_,h,_⟩=>SqL.of h.1) ?_ ?_⟩
    ·rintro n y σ H8 hy ⟨e7,o8,o9,o10,rfl,S8,hd8,rt8,hf8,he⟩
     rw [A5] at hy
     cases hu:us[n]? with
     | none=>rw [hu] at hy; cases hy
     | some u =>
      rw [hu] at hy
      cases hy
      have hum:=Bg hu
      have hul':=(A8.mp hu).1
      obtain ⟨k,c,p,hc,hp,hrr,hpn,ex⟩:=kf (ck.perm.mem_iff.mp (Bz.mpr ⟨u,hum,rfl⟩))
      rw [A5] at hc
      cases hz:ps[k]? with
      | none=>rw [hz] at hc; cases hc
      | some z =>
       rw [hz] at hc
       cases hc
       have hzm:=Bg hz
       have hut:=rt8.2 u hum
       rw [ex] at hut
       have hut:H8 u.1=some (.tup [.int (bd z.2),.int (dC z.2),.int (k:Int)]):=hut
       have hzt:=S8 _ _ (sl.2 z hzm)
       have hat:atI 'p' (k:Int)=some (.ref z.1):=af (j:=k) (by rw [A5,hz]; rfl)
       refine ⟨u.1,_,rfl,SqT.of hut,rfl,_,_,rfl,_,_,rfl,_,_,rfl,rfl,?_⟩
       refine ⟨_,rfl,_,rfl,pl,_,_,.ref z.1,rfl,rfl,SqL.of (S8 _ _ sl.1),hat,z.1,_,_,.str z.2.reel,rfl,rfl,SqT.of hzt,af (j:=0) rfl,_,rfl,rfl,_,rfl,iteN (by rw [decide_eq_true (congrArg V.str hrr)]; rfl) ?_⟩
       refine ⟨_,rfl,_,rfl,pp,_,_,.int ((p:Nat):Int),rfl,rfl,SqL.of (S8 _ _ hpp),af (j:=k) (mB hp),_,rfl,rfl,_,rfl,iteN (by rw [decide_eq_true (congrArg V.int hpn)]; rfl) ?_⟩
       refine ⟨_,rfl,_,rfl,_,rfl,pl,_,_,.ref z.1,rfl,rfl,SqL.of (S8 _ _ sl.1),hat,_,rfl,_,rfl,z.1,_,rfl,hzt,fun p9 H9 s9 hp9=>?_⟩
       have hp9:H9 p9=some (.tup ([z.2.a,z.2.b].map V.int)):=hp9
       refine ⟨p9,[z.2.a,z.2.b],rfl,SqT.of hp9,(by show 0<2; decide),fun m m1 m2=>?_⟩
       obtain rfl:=u9 m1 m2
       refine ⟨rfl,_,rfl,iteN (by show (!decide (V.int (bd z.2)=V.int (bd z.2)))=false; rw [decide_eq_true rfl]; rfl) ?_⟩
       have S9:=S8.trans s9
       refine ⟨_,rfl,_,rfl,_,rfl,pl,_,_,.ref z.1,rfl,rfl,SqL.of (S9 _ _ sl.1),hat,_,rfl,_,rfl,z.1,_,rfl,s9 _ _ hzt,fun pa Ha sa hpa=>?_⟩
       have hpa:Ha pa=some (.tup ([z.2.a,z.2.b].map V.int)):=hpa
       refine ⟨pa,[z.2.a,z.2.b],rfl,SqT.of hpa,(by show 0<2; decide),fun m m1 m2=>?_⟩
       obtain rfl:=u_ m1 m2
       have Sa:=S9.trans sa
       have rta:=(rt8.same s9).same sa
       have hda:=sa _ _ (s9 _ _ hd8)
       have hfa:=sa _ _ (s9 _ _ hf8)
       refine ⟨rfl,_,rfl,iteN (by show (!decide (V.int (dC z.2)=V.int (dC z.2)))=false; rw [decide_eq_true rfl]; rfl) ?_⟩
       have step:∃(e7 o8 o9 o10:Option V),[some (.ref pl),some (.ref pp),some (.int sp),some (.ref pf),some (.str r),some (.ref D4),some (.int (j:Int)),some (.int (dC z.2)),some (.int (bd z.2)),some (.int (dC z.2)),some (V.int (k:Int))]=[some (.ref pl),some (.ref pp),some (.int sp),some (.ref pf),some (.str r),some (.ref D4),some (.int (j:Int)),e7,o8,o9,o10]/\Same H (upd Ha pf (.lst ((seen++(us.take n).map fun x=>x.2.2.2).map V.int++[V.int (k:Int)])))/\upd Ha pf (.lst ((seen++(us.take n).map fun x=>x.2.2.2).map V.int++[V.int (k:Int)])) pd=some (.lst (rs.map V.str))/\RT (upd Ha pf (.lst ((seen++(us.take n).map fun x=>x.2.2.2).map V.int++[V.int (k:Int)]))) l7 us/\upd Ha pf (.lst ((seen++(us.take n).map fun x=>x.2.2.2).map V.int++[V.int (k:Int)])) pf=some (.lst ((seen++(us.take (n+1)).map fun x=>x.2.2.2).map V.int))/\((n+1=0/\e7=some .non)\/∃n',n+1=n'+1/\∃x,us[n']?=some x/\e7=some (.int x.2.2.1)):=by
        refine ⟨_,_,_,_,rfl,Bt.same Sa Bt.upd hpf,?_,⟨?_,fun x hx=>?_⟩,?_,.inr ⟨n,rfl,u,hu,by rw [ex]⟩⟩
        ·rw [ah hpdf]
         exact hda
        ·rw [ah nl]
         exact rta.1
        ·rw [ah (aK (rta.2 x hx) hfa 'c')]
         exact rta.2 x hx
        ·rw [ac,Fb,hu]
         simp [ex]
       have fin:seen.length+n<200:=by omega
       have lsz:((seen++(us.take n).map fun x=>x.2.2.2).map V.int).length<sizeLine:=by
        rw [A2,Bd,A2,B9]
        omega
       rcases he with ⟨rfl,rfl⟩ | ⟨n',rfl,x,hx,rfl⟩
       ·refine ⟨_,rfl,_,rfl,dW ?_⟩
        exact ⟨_,rfl,.inl ⟨rfl,_,SqL.of hfa⟩,_,rfl,pf,_,_,rfl,rfl,hfa,lsz,_,rfl,step⟩
       ·have gap:=wL (n:='s'.length) (us:=us.map (·.2)) (k:=n') (x:=x.2) (y:=u.2) pr2 h0 ck.perm ck.up (by rw [A5,hx]; rfl) (by rw [A5,hu]; rfl)
        rw [ex] at gap
        have gap:sp<bd z.2-x.2.2.1:=gap
        refine ⟨_,rfl,_,rfl,iG ?_⟩
        refine ⟨_,rfl,_,rfl,_,_,rfl,rfl,_,rfl,_,_,rfl,rfl,_,rfl,iteN (decide_eq_false 'b') ?_⟩
        exact ⟨_,rfl,.inl ⟨rfl,_,SqL.of hfa⟩,_,rfl,pf,_,_,rfl,rfl,hfa,lsz,_,rfl,step⟩
    ·rintro σ H8 ⟨e7,o8,o9,o10,rfl,S8,hd8,rt8,hf8,he⟩
     rw [A2,B4] at hf8
     refine ⟨_,_,_,_,_,_,rfl,S8,hd8,hf8,?_⟩
     have:=pV hpl hnew hp5 ck.perm
     rw [BV] at this
     exact this
   ·rintro σ H5 ⟨seen,o6,o7,o8,o9,o10,rfl,S5,hd5,hf5,hp5⟩
    refine ⟨_,_,_,_,_,_,_,_,rfl,S5,hd5,hf5,?_⟩
    rw [sw hbig] at hp5
    rw [Fb,hri]
    exact hp5
 ·rintro σ H3 ⟨seen,o4,o5,o6,o7,o8,o9,o10,rfl,S3,hd3,hf3,hp3⟩
  rw [A2,B4,su fun c hc=>(hmem _).mpr (by obtain ⟨x,hx,rfl⟩:=Bz.mp hc; exact Bz.mpr ⟨x,hx,rfl⟩)] at hp3
  have hsl:seen.length=ps.length:=by rw [hp3.length_eq,A2,BL,hml]
  refine ⟨_,rfl,pf,seen,rfl,SqL.of hf3,by omega,fun l ms hl hperm hup=>?_⟩
  have es:ms=(Bh ps.length).map fun k:Nat=>(k:Int):=by
   rw [hml] at hp3
   exact mO (hperm.trans hp3) hup (sE _)
  have s4:=Same.new hl (.lst (ms.map V.int))
  have v4:=ac (H:=H3) (a:=l) (o:=.lst (ms.map V.int))
  generalize upd H3 l (.lst (ms.map V.int))=H4 at s4 v4 ⊢
  refine ⟨_,rfl,pl,_,rfl,.inl (SqL.of (s4 _ _ (S3 _ _ sl.1))),_,rfl,⟨by omega,by omega⟩,by omega,fun l2 hl2=>?_⟩
  have s5:=Same.new hl2 (.lst (eI 0 (('p'.length:Nat):Int).toNat 1))
  have er:eI 0 (('p'.length:Nat):Int).toNat 1=ms.map V.int:=by
   rw [hvl,Cy,es]
   unfold eI
   rw [BV]
   refine CH fun k _=>?_
   simp
  refine ⟨.list (ms.map Et),.list (ms.map Et),.lst (SqL.of (s5 _ _ v4)) (eG _),.lst (SqL.of (by rw [ac,er])) (eG _),KS.layIs _,KS.layIs _,BR (Dy _ _) (KS.depIs _),?_⟩
  rw [C5 _ (KS.layIs _)]
  exact q _ ((S3.trans s4).trans s5)
end
theorem qG (p:Nat->Bool) (i:Nat):(Bh (i+1)).filter p=(Bh i).filter p++(if p i=true then [i] else []):=by
 rw [Dx,CN]
 congr 1
 by_cases h:p i=true
 ·rw [if_pos h,List.filter_cons_of_pos h]
  rfl
 ·rw [if_neg h,List.filter_cons_of_neg h]
  rfl
theorem vf (a b:Str):decide (V.str a=V.str b)=decide (a=b):=by
 by_cases h:a=b
 ·rw [decide_eq_true h,decide_eq_true (by rw [h])]
 ·rw [decide_eq_false h,decide_eq_false (fun z=>h (V.str.inj z))]
theorem PL.keep {H H':Hp}{D:Addr}{us:List (Addr×Str×Int)}(h:PL H D us) (k:∀b o,(∀ts,o≠.tbl ts)->H b=some o->H' b=some o):PL H' D us:=⟨k _ _ (fun _ z=>by cases z) h.1,fun x hx=>k _ _ (fun _ z=>by cases z) (h.2 x hx)⟩
theorem SLs.keep {H H':Hp}{D:Addr}{us:'l'}(h:SLs H D us) (k:∀b o,(∀ts,o≠.tbl ts)->H b=some o->H' b=some o):SLs H' D us:=⟨k _ _ (fun _ z=>by cases z) h.1,fun x hx=>k _ _ (fun _ z=>by cases z) (h.2 x hx)⟩
theorem pj {T:Addr}{H H':Hp}(b:Bt T H H') (t:∃ts,H T=some (.tbl ts)):∀c o,(∀ts,o≠.tbl ts)->H c=some o->H' c=some o:=fun c o n e=>by
 obtain ⟨ts,ht⟩:=t
 exact b c o (aK e ht (n _)) e
theorem lK {T U:Addr}{H H':Hp}(b:Bt2 T U H H') (t:∃ts,H T=some (.tbl ts)) (u:∃ts,H U=some (.tbl ts)):∀c o,(∀ts,o≠.tbl ts)->H c=some o->H' c=some o:=fun c o n e=>by
 obtain ⟨ts,ht⟩:=t
 obtain ⟨us,hu⟩:=u
 exact b c o (aK e ht (n _)) (aK e hu (n _)) e
theorem lQ {ms:List Int}{a b:Int}(hp:ms.Perm [a,b]) (hu:ms.Pairwise fun x y=>ltI y x=false):ms=[if b<a then b else a,if a<b then b else a]:=by
 refine mO (hp.trans ?_) (hu.imp fun h=>by have:=of_decide_eq_false h; omega) ?_
 ·by_cases c:b<a
  ·rw [if_pos c,if_neg 'b']
   exact Dv.swap _ _ _
  ·rw [if_neg c]
   by_cases d:a<b
   ·rw [if_pos d]
   ·rw [if_neg d]
    have:a=b:=by omega
    subst this
    exact .refl _
 ·refine CF.mpr ⟨fun y hy=>?_,CZ ..⟩
  rw [Bu.mp hy]
  split <;> split <;> omega
theorem xT {T p:Addr}{pos:Pos}{qual:Str}{H H':Hp}{xs:List V}(h:TabOk T pos qual H) (b:Bt p H H') (e:H p=some (.lst xs)):TabOk T pos qual H':=by
 rcases h with ⟨ps,h1,h2,h3⟩ | ⟨c',ps,h1,h2,h3,h4⟩
 ·exact .inl ⟨ps,b _ _ (aK h1 e 'c') h1,h2,h3⟩
 ·exact .inr ⟨c',ps,b _ _ (aK h1 e 'c') h1,h2,h3,b _ _ (aK h4 e 'c') h4⟩
theorem kc {K:Ba}{H:Hp}:∀ns:List Str,DenAll K H (ns.map V.str) (ns.map Gc)
 | []=>.nil
 | n :: ns=>.cons (.str n) (kc ns)
theorem oC:∀ns:List Str,(∀x∈ns,B5 x=true)->Cz (ns.map Gc)=true
 | [],_=>rfl
 | b :: r,h=>by simp [Cz,C4,h b Bq,oC r fun x hx=>h x (Br _ hx)]
theorem oV:∀ns:List Str,Cw (ns.map Gc)=0
 | []=>rfl
 | b :: r=>by simp [Cw,DR,oV r]
theorem uh {ns:List Str}(h:∀x∈ns,B5 x=true):(EK (ns.map Gc)).canLay0=true:=by simp [C4,oC ns h]
theorem AA (ns:List Str):(EK (ns.map Gc)).depth<=60:=by simp [DR,oV ns]
def zY (ivs:List Iv) (x:Addr×Addr×Str×Int):Str×Int:=(x.2.2.1,((wanting ivs x.2.2.1 x.2.2.2).length:Int))
section
variable {P:Program}{w:BG}{K:Ba}{mg:Str->Option Value}{base:Heap}
def zM (T U:Addr):Sp:=fun vs H Q _=>∃(pl pp:Addr) (ps:'l') (prs:List Nat) (sp:Int),vs=[.ref pl,.ref pp,.int sp]/\SLs H pl ps/\H pp=some (.lst (nV prs))/\ps.length<64/\0<=sp/\PrOk (aM sp ps) prs/\(∀x∈ps,B5 x.2.reel=true)/\TabOk T fc fb H/\TabOk U ie ic H/\∀H',Bt2 T U H H'->Q (.bl true) H'
theorem scLL:ax ["_law_strips", "_law_prints", "_law_spoil", "_law_told", "_law_reel", "_law_frame", "_law_some", "_law_mine", "_law_want", "_law_k", "_law_low", "_law_high"] ["_law_strips", "_law_prints", "_law_spoil"] (aj c_):='a'
theorem Aj {f T U:Addr}{fd:BX}(hTU:T≠U) (F:Fun K "_law_least" "_law_least" c_ f fd) (dRs:'k' "reasons" 6 ["strips", "spoil"] (xV T U)) (dNeeds:'k' "needs" 6 ["strips", "spoil"] (nI T)) (n_sorted:mg "sorted"=none) (n_set:mg "set"=none) (n_range:mg "range"=none) (n_len:mg "len"=none):aS P w K mg base CX0 7 f fd ["_law_strips", "_law_prints", "_law_spoil"] (zM T U):=by
 refine F.ok scLL (fun vs H Q E h=>?_) (fun cdv A outer s H vs Q E hr h=>?_)
 ·obtain ⟨pl,pp,ps,prs,sp,rfl,_⟩:=h
  rfl
 obtain ⟨pl,pp,ps,prs,sp,rfl,sl,hpp,h64,h0,pr,hso,tabT,tabU,q⟩:=h
 refine iM (ad (aA (i:=3) scLL.nd (bh ag))
  (ad (bf BQ rfl (aZ (ay dRs hr aD (aa (e_c 0) (aa (e_v 2) ag)))) (fK rfl (aN (fL (i:=4) scLL.nd) (aN (aE (i:=5) scLL.nd) (aN (aE (i:=6) scLL.nd) cJ))))
   (ad (aA (i:=7) scLL.nd (GS.e_sortSetI (K:=K) n_sorted n_set (j_ ["_law_prints", "_law_reel", "_law_strips"] [1,4,0] [("_law_strips",'n'+1),("_law_reel",'n'+3),("_law_prints",'n'+2)] rfl ⟨rfl,rfl,rfl,rfl,⟨rfl,rfl,rfl,rfl,⟨rfl,rfl,rfl,rfl,trivial⟩⟩⟩ ⟨rfl,⟨rfl,⟨rfl,trivial⟩⟩⟩ (dn n_range (e_b ao n_len B3 (aa (e_c 0) ag))) (fun _ _ _ _=>(aJ cx (ar (bu (K:=K) rfl) (ar (bD (K:=K) rfl) (e_n 3) (e_n 0)) ae) (e_n 2))) (fun _ _ _ _=>(ar (bD (K:=K) rfl) (e_n 1) (e_n 0))))))
   (ad (aA (i:=8) scLL.nd (bh ag))
   (ad (bf BQ rfl (dn n_range (e_b ao n_len B3 (aa (e_c 0) ag))) (aE (i:=9) scLL.nd)
    (ad (iW (e_b (GS.call_sortTI (K:=K) rfl) n_sorted 'd' (aa (lx fy (ar aw (e_c 0) (e_v 9)) (bP ae) (bP ae)) ag)) (za rfl (aN (aE (i:=10) scLL.nd) (aN (aE (i:=11) scLL.nd) cJ))))
    (ai (bK (t_w (gJ (aJ cx (ar az (ar aw (e_c 0) (e_v 9)) ae) (e_c 4)) (eS (vb kM kM (e_v 10) (e_v 5) (aB aG (e_v 11) (e_v 2))))))
     (ai (aW (aU (e_v 8) (e_v 9))))
     aV))))
   (ad (bK (t_w (gI (aJ (dg hr) (e_v 6) (e_v 8)) (fm (aJ eP (e_b ao n_len B3 (aa (e_v 6) ag)) (e_b ao n_len B3 (aa (e_v 7) ag))))))
    (ai (aF gh))
    aV)
   (ai (aW (aU (e_v 3) (bJ (aa (e_c 4) (aa (e_b ao n_len B3 (aa (e_v 7) ag)) ag)))))))))))
  (ad (bK (aJ (dg hr) (du [] [] [] rfl trivial trivial (aZ (e_v 3)) (fun _ _ _ _=>(ar (bu (K:=K) rfl) (e_n 0) ae))) (GS.e_sortSetT (K:=K) n_sorted n_set (du [] [] [] rfl trivial trivial (aZ (e_c 0)) (fun _ _ _ _=>(ar (bu (K:=K) rfl) (e_n 0) ae)))))
   (ai (aF gh))
   aV)
  (ai (aF (ir (tI hr) (e_v 3) (ay dNeeds hr aD (aa (e_c 0) (aa (e_v 2) ag))))))))) ?_
 intros
 have zl:sizeLine=16777216:=Bo
 have hprl:prs.length=ps.length:=by rw [pr.len,dk]
 have hvl:'p'.length=ps.length:=A2 ..
 refine ⟨'g',fun pf hpf=>?_⟩
 have s0:=Same.new hpf (.lst [])
 have f0:=ac (H:=H) (a:=pf) (o:=.lst [])
 have sl0:=sl.same s0
 have tT0:=tabT.same s0
 have tU0:=tabU.same s0
 have hpp0:=s0 _ _ hpp
 generalize upd H pf (.lst [])=H0 at s0 f0 sl0 tT0 tU0 hpp0 ⊢
 refine ⟨_,rfl,_,rfl,pl,ps,sp,rfl,sl0,h64,h0,tT0,tU0,fun D rows H1 hD0 bt tT1 tU1 hD1 hrows hreels hneed hrl=>?_⟩
 have kp1:=lK bt tT0.at tU0.at
 have sl1:=sl0.keep kp1
 have hpp1:=kp1 _ _ (fun _ z=>by cases z) hpp0
 have f1:=kp1 _ _ (fun _ z=>by cases z) f0
 have row1:∀x∈rows,H1 x.1=some (.tup [.str x.2.2.1,.int x.2.2.2,.ref x.2.1])/\H1 x.2.1=some (.lst (nV (wanting (aM sp ps) x.2.2.1 x.2.2.2)))/\x.2.1≠pf:=fun x hx=>⟨(hrows x hx).1,(hrows x hx).2.2.2,fun z=>by have:=(hrows x hx).2.1; rw [z,f0] at this; cases this⟩
 have nD:D≠pf:=fun z=>by rw [z,f0] at hD0; cases hD0
 have npl:pl≠pf:=ak sl.1 hpf
 have npp:pp≠pf:=ak hpp hpf
 have nt:∀{a ts us} {G:Hp},G a=some (.tup ts)->G pf=some (.lst us)->a≠pf:=fun e e'=>aK e e' 'c'
 refine ⟨D,rfl,⟨_,SqL.of hD1⟩,a_ (K:=K) (a:=D) (xs:=rows.map fun x=>V.ref x.1) (fun i σ H'=>∃(us:List (Addr×Str×Int)) (o4 o5 o6 o7 o8 o9 o10 o11:Option V),σ=[some (.ref pl),some (.ref pp),some (.int sp),some (.ref pf),o4,o5,o6,o7,o8,o9,o10,o11]/\Bt pf H1 H'/\PL H' pf us/\us.map (·.2)=(rows.take i).map (zY (aM sp ps)))
  ⟨[],none,none,none,none,none,none,none,none,rfl,Bt.refl _ _,⟨f1,fun x hx=>nomatch hx⟩,rfl⟩ (fun i σ H' _ ⟨_,_,_,_,_,_,_,_,_,_,b,_⟩=>SqL.of (b _ _ nD hD1)) ?_ ?_⟩
 ·rintro i y σ G hy ⟨us,o4,o5,o6,o7,o8,o9,o10,o11,rfl,bG,pG,eu⟩
  rw [A5] at hy
  cases hri:rows[i]? with
  | none=>rw [hri] at hy; cases hy
  | some z =>
   rw [hri] at hy
   cases hy
   have hzm:=Bg hri
   obtain ⟨z1,z2,z3⟩:=row1 z hzm
   have z1G:=bG _ _ (nt z1 f1) z1
   have z2G:=bG _ _ z3 z2
   have slG:SLs G pl ps:=⟨bG _ _ npl sl1.1,fun x hx=>bG _ _ (nt (sl1.2 x hx) f1) (sl1.2 x hx)⟩
   have hppG:=bG _ _ npp hpp1
   have hil:=(A8.mp hri).1
   have ul:us.length=i:=by
    have h1:=congrArg Ce eu
    rw [A2,A2,B9] at h1
    have:=(A8.mp hri).1
    omega
   refine ⟨z.1,_,rfl,SqT.of z1G,rfl,_,_,rfl,_,_,rfl,_,_,rfl,rfl,?_⟩
   refine ⟨_,rfl,pl,_,rfl,.inl (SqL.of slG.1),((ps.length:Nat):Int),by rw [hvl],by omega,by omega,?_⟩
   refine gk (lo:=0) (n:=ps.length) (onR 's' z.2.2.1) (fun k=>V.int ((prs.getD k 0:Nat):Int)) 'b' ?_ ?_ ?_
   ·intro k H2 R hk hS2 hR
    rw [El]
    have hz:=A4 hk
    refine ⟨_,rfl,_,rfl,pl,_,_,.ref ps[k].1,rfl,rfl,SqL.of (hS2 _ _ slG.1),af (j:=k) (by rw [A5,hz]; rfl),ps[k].1,_,_,.str ps[k].2.reel,rfl,rfl,SqT.of (hS2 _ _ (slG.2 _ (BB hk))),af (j:=0) rfl,_,rfl,rfl,_,rfl,?_⟩
    have:=hR H2 (Same.refl _)
    rw [dR (z:=ps[k].2) _ (by rw [A5,hz]; rfl)] at this
    rw [vf]
    exact this
   ·intro k H2 R hk hS2 _ hR
    rw [El]
    have hp:prs[k]?=some (prs[k]' 'b'):=A4 'b'
    refine ⟨_,rfl,_,rfl,pp,_,_,.int ((prs.getD k 0:Nat):Int),rfl,rfl,SqL.of (hS2 _ _ hppG),af (j:=k) (by rw [eD hp]; exact mB hp),hR _ (Same.refl _)⟩
   intro D2 H2 s2 hD20 hD2
   have hD2':H2 D2=some (.lst ((((Bh ps.length).filter (onR 's' z.2.2.1)).map fun k=>((prs.getD k 0:Nat):Int)).map V.int)):=by rw [hD2,BV]; rfl
   have hfl:=DB (onR 's' z.2.2.1) (Bh ps.length)
   rw [BL] at hfl
   refine ⟨D2,_,rfl,SqL.of hD2',by rw [A2]; omega,fun pm mine hpm hmm hnd hmem _=>?_⟩
   have cnt:(mine.length:Int)=((wanting (aM sp ps) z.2.2.1 z.2.2.2).length:Int):=jN pr (j1 h0 ps) (hneed z hzm) hnd fun v=>by
    rw [hmem,Bz]
    constructor
    ·rintro ⟨k,hk,rfl⟩
     obtain ⟨hk,ho⟩:=C6.mp hk
     have hk:=BW.mp hk
     have hz:=A4 hk
     have hp:prs[k]?=some (prs[k]' 'b'):=A4 'b'
     rw [dR (z:=ps[k].2) _ (by rw [A5,hz]; rfl)] at ho
     exact ⟨k,_,_,dl hz,of_decide_eq_true ho,hp,by rw [eD hp]⟩
    ·rintro ⟨k,v',q',hk,hr',hq',rfl⟩
     obtain ⟨z',hz',rfl⟩:=fJ hk
     refine ⟨k,C6.mpr ⟨BW.mpr (A8.mp hz').1,?_⟩,by rw [eD hq']⟩
     rw [dR (z:=z'.2) _ (by rw [A5,hz']; rfl)]
     exact decide_eq_true hr'
   have s3:=Same.new hpm (.lst (mine.map V.int))
   have v3:=ac (H:=H2) (a:=pm) (o:=.lst (mine.map V.int))
   have S3:=s2.trans s3
   generalize upd H2 pm (.lst (mine.map V.int))=H3 at s3 v3 S3 ⊢
   refine ⟨'g',fun pw hpw=>?_⟩
   have s4:=Same.new hpw (.lst [])
   refine ⟨_,rfl,pl,_,rfl,.inl (SqL.of (s4 _ _ (S3 _ _ slG.1))),((ps.length:Nat):Int),(by rw [hvl]),by omega,by omega,bQ (lo:=0) (n:=ps.length) (fun k σ H'=>∃(o9 o10 o11:Option V),σ=[some (.ref pl),some (.ref pp),some (.int sp),some (.ref pf),some (.str z.2.2.1),some (.int z.2.2.2),some (.ref z.2.1),some (.ref pm),some (.ref pw),o9,o10,o11]/\Same H3 H'/\H' pw=some (.lst (nV ((Bh k).filter (wB (aM sp ps) z.2.2.1 z.2.2.2)))))
    ⟨_,_,_,rfl,s4,ac⟩ ?_ ?_⟩
   ·rintro k σ H5 hk ⟨o9,o10,o11,rfl,S5,hw5⟩
    rw [El]
    have T5:=S3.trans S5
    have hz:=A4 hk
    have hcm:=BB hk
    generalize ps[k]=c at hz hcm
    have hct:=T5 _ _ (slG.2 c hcm)
    have hat:atI 'p' ((k:Nat):Int)=some (.ref c.1):=af (j:=k) (by rw [A5,hz]; rfl)
    have ew:=wS (sp:=sp) z.2.2.1 z.2.2.2 hz
    have e:=qG (wB (aM sp ps) z.2.2.1 z.2.2.2) k
    have hfl:=DB (wB (aM sp ps) z.2.2.1 z.2.2.2) (Bh k)
    rw [BL] at hfl
    refine ⟨_,rfl,_,rfl,pl,_,_,.ref c.1,rfl,rfl,SqL.of (T5 _ _ slG.1),hat,_,rfl,_,rfl,c.1,_,rfl,hct,fun p6 H6 s6 hp6=>?_⟩
    have hp6:H6 p6=some (.tup ([c.2.a,c.2.b].map V.int)):=hp6
    refine ⟨p6,[c.2.a,c.2.b],rfl,SqT.of hp6,(by show 2<64; decide),fun l7 ms hl7 hperm hup=>?_⟩
    obtain rfl:=lQ hperm hup
    have s7:=Same.new hl7 (.lst ([if c.2.b<c.2.a then c.2.b else c.2.a,if c.2.a<c.2.b then c.2.b else c.2.a].map V.int))
    have v7:=ac (H:=H6) (a:=l7) (o:=.lst ([if c.2.b<c.2.a then c.2.b else c.2.a,if c.2.a<c.2.b then c.2.b else c.2.a].map V.int))
    have U7:=s6.trans s7
    have T7:=T5.trans U7
    have S7:=S5.trans U7
    have hw7:=U7 _ _ hw5
    generalize upd H6 l7 (.lst ([if c.2.b<c.2.a then c.2.b else c.2.a,if c.2.a<c.2.b then c.2.b else c.2.a].map V.int))=H7 at s7 v7 U7 T7 S7 hw7 ⊢
    refine ⟨l7,_,rfl,SqL.of v7,rfl,_,_,rfl,_,_,rfl,rfl,?_⟩
    refine ⟨_,rfl,_,rfl,pl,_,_,.ref c.1,rfl,rfl,SqL.of (T7 _ _ slG.1),hat,c.1,_,_,.str c.2.reel,rfl,rfl,SqT.of (U7 _ _ hct),af (j:=0) rfl,_,rfl,rfl,_,rfl,?_⟩
    refine cH (fun z1=>?_) (fun z1=>?_)
    ·have z1:c.2.reel=z.2.2.1:=V.str.inj (of_decide_eq_true z1)
     rw [decide_eq_true z1,Bool.true_and] at ew
     refine ⟨_,rfl,_,rfl,_,_,rfl,rfl,_,rfl,?_⟩
     refine cH (fun z2=>?_) (fun z2=>?_)
     ·have z2:decide ((be sp c.2).lo<=z.2.2.2)=true:=z2
      rw [z2,Bool.true_and] at ew
      refine ⟨_,rfl,_,rfl,_,_,rfl,rfl,_,_,rfl,rfl,_,rfl,?_⟩
      refine cH (fun z3=>?_) (fun z3=>?_)
      ·have z3:decide (z.2.2.2<=(be sp c.2).hi)=true:=z3
       rw [z3] at ew
       rw [if_pos ew] at e
       refine ⟨_,rfl,.inl ⟨rfl,_,SqL.of hw7⟩,_,rfl,pw,_,_,rfl,rfl,hw7,by unfold nV; rw [A2]; omega,_,_,_,rfl,Bt.same S7 Bt.upd hpw,?_⟩
       rw [ac,e]
       unfold nV
       rw [Bf]
       rfl
      ·have z3:decide (z.2.2.2<=(be sp c.2).hi)=false:=FV.mpr z3
       rw [z3] at ew
       rw [if_neg (by rw [ew]; exact Bx),BH] at e
       exact ⟨_,_,_,rfl,S7,by rw [e]; exact hw7⟩
     ·have z2:decide ((be sp c.2).lo<=z.2.2.2)=false:=FV.mpr z2
      rw [z2,E4] at ew
      rw [if_neg (by rw [ew]; exact Bx),BH] at e
      exact ⟨_,rfl,dW ⟨_,_,_,rfl,S7,by rw [e]; exact hw7⟩⟩
    ·have z1:¬ c.2.reel=z.2.2.1:=fun y=>z1 (decide_eq_true (by rw [y]))
     rw [decide_eq_false z1,E4] at ew
     rw [if_neg (by rw [ew]; exact Bx),BH] at e
     exact dW ⟨_,_,_,rfl,S7,by rw [e]; exact hw7⟩
   ·rintro σ H5 ⟨o9,o10,o11,rfl,S5,hw5⟩
    have T5:=S3.trans S5
    have ew:(Bh ps.length).filter (wB (aM sp ps) z.2.2.1 z.2.2.2)=wanting (aM sp ps) z.2.2.1 z.2.2.2:=by rw [gH,dk]
    rw [ew] at hw5
    have hso5:=T5 _ _ z2G
    have hm5:=S5 _ _ v3
    refine ⟨_,rfl,_,rfl,_,_,AC hso5,AC hw5,yW _,yW _,BR (Dy _ _) (AV _),_,rfl,iteN (by rw [C5 _ (yW _)]; rfl) ?_⟩
    refine ⟨_,rfl,z.2.1,_,rfl,.inl (SqL.of hso5),_,rfl,pm,_,rfl,.inl (SqL.of hm5),rfl,_,rfl,iteN ?_ ?_⟩
    ·rw [A2,decide_eq_true (congrArg V.int (by unfold nV; rw [A2]; exact cnt.symm))]
     rfl
    have pG5:=pG.same T5
    refine ⟨_,rfl,.inl ⟨rfl,_,SqL.of pG5.1⟩,_,rfl,_,rfl,pm,_,rfl,.inl (SqL.of hm5),'i',fun pt hpt=>?_⟩
    have et:(((mine.map V.int).length:Nat):Int)=((wanting (aM sp ps) z.2.2.1 z.2.2.2).length:Int):=by rw [A2]; exact cnt
    rw [et]
    have s8:=Same.new hpt (.tup [.str z.2.2.1,.int ((wanting (aM sp ps) z.2.2.1 z.2.2.2).length:Int)])
    have p8:=(pG5.same s8).push (t:=pt) ac
    refine ⟨pf,_,_,rfl,rfl,s8 _ _ pG5.1,by rw [A2]; omega,us++[(pt,zY (aM sp ps) z)],_,_,_,_,_,_,_,_,rfl,((bG.trans (Bt.of T5)).trans (Bt.of s8)).trans Bt.upd,p8,?_⟩
    rw [Bf,eu,Fb,hri,Bf]
    rfl
 ·rintro σ G ⟨us,o4,o5,o6,o7,o8,o9,o10,o11,rfl,bG,pG,eu⟩
  rw [A2,B4] at eu
  have slG:SLs G pl ps:=⟨bG _ _ npl sl1.1,fun x hx=>bG _ _ (nt (sl1.2 x hx) f1) (sl1.2 x hx)⟩
  have nTf:T≠pf:=fun z=>by obtain ⟨ts,e⟩:=tT1.at; rw [z,f1] at e; cases e
  have tTG:TabOk T fc fb G:=xT tT1 bG f1
  have B2G:Bt2 T U H G:=fun b o n1 n2 e=>bG _ _ (ak e hpf) (bt _ _ n1 n2 (s0 _ _ e))
  have ul:us.length=rows.length:=by
   have h1:=congrArg Ce eu
   rwa [A2,A2] at h1
  have ef:(us.map (·.2)).map (·.1)=rows.map fun x=>x.2.2.1:=by rw [eu,BV]; rfl
  have nu:Needs (aM sp ps) (us.map (·.2)):=⟨by rw [ef]; exact hreels,fun x hx=>by
   rw [eu] at hx
   obtain ⟨z,hz,rfl⟩:=Bz.mp hx
   exact hneed z hz⟩
  have okr:∀x∈us.map (fun x=>x.2.1),B5 x=true:=fun x hx=>by
   have e2:(us.map fun x=>x.2.1)=rows.map fun x=>x.2.2.1:=by rw [<- ef,BV]; rfl
   rw [e2] at hx
   obtain ⟨k,v,hk,rfl⟩:=(hreels.mem x).mp hx
   obtain ⟨z,hz,rfl⟩:=fJ hk
   exact hso z (Bg hz)
  refine ⟨_,rfl,pf,rfl,⟨_,SqL.of pG.1⟩,?_⟩
  refine cQ ((us.map fun x=>x.2.1).map V.str) (SqL.of pG.1) (by rw [A2]; omega) (by rw [A2,A2,A2]) ?_ ?_
  ·intro i x y H' R hS' hx hy hR
   rw [A5] at hx
   rw [A5,A5] at hy
   cases hz:us[i]? with
   | none=>rw [hz] at hx; cases hx
   | some z =>
    rw [hz] at hx hy
    cases hx
    cases hy
    exact ⟨_,rfl,z.1,_,_,.str z.2.1,rfl,rfl,SqT.of (hS' _ _ (pG.2 z (Bg hz))),af (j:=0) rfl,hR _ (Same.refl _)⟩
  intro D2 G2 s2 hD20 hD2
  refine ⟨_,rfl,pl,rfl,⟨_,SqL.of (s2 _ _ slG.1)⟩,?_⟩
  refine cQ ((ps.map fun x=>x.2.reel).map V.str) (SqL.of (s2 _ _ slG.1)) (by rw [hvl]; omega) (by rw [A2,A2,A2]) ?_ ?_
  ·intro i x y H' R hS' hx hy hR
   rw [A5] at hx
   rw [A5,A5] at hy
   cases hz:ps[i]? with
   | none=>rw [hz] at hx; cases hx
   | some z =>
    rw [hz] at hx hy
    cases hx
    cases hy
    exact ⟨_,rfl,z.1,_,_,.str z.2.reel,rfl,rfl,SqT.of (hS' _ _ (s2 _ _ (slG.2 z (Bg hz)))),af (j:=0) rfl,hR _ (Same.refl _)⟩
  intro D3 G3 s3 hD30 hD3
  refine ⟨D3,ps.map fun x=>x.2.reel,rfl,SqL.of hD3,by rw [A2]; exact h64,fun pd rs hpd hrl' hnd hmem hup=>?_⟩
  have er:rs=us.map fun x=>x.2.1:=by
   have e2:(us.map fun x=>x.2.1)=rows.map fun x=>x.2.2.1:=by rw [<- ef,BV]; rfl
   rw [e2]
   refine Reels.uniq (ivs:=aM sp ps) ⟨hnd,fun r=>(hmem r).trans ⟨fun h=>?_,fun ⟨k,v,hk,hr'⟩=>?_⟩,hup⟩ hreels
   ·obtain ⟨z,hz,rfl⟩:=Bz.mp h
    obtain ⟨k,hk,ek⟩:=List.getElem_of_mem hz
    exact ⟨k,_,dl (A4 hk),by rw [ek]; rfl⟩
   ·obtain ⟨z,hz,rfl⟩:=fJ hk
    exact Bz.mpr ⟨z,Bg hz,hr'⟩
  have s4:=Same.new hpd (.lst (rs.map V.str))
  have v4:=ac (H:=G3) (a:=pd) (o:=.lst (rs.map V.str))
  have S4:=(s2.trans s3).trans s4
  have hD24:=s4 _ _ (s3 _ _ hD2)
  generalize upd G3 pd (.lst (rs.map V.str))=G4 at s4 v4 S4 hD24 ⊢
  rw [er] at v4
  refine ⟨.list ((us.map fun x=>x.2.1).map Gc),.list ((us.map fun x=>x.2.1).map Gc),.lst (SqL.of hD24) (kc _),.lst (SqL.of v4) (kc _),uh okr,uh okr,BR (Dy _ _) (AA _),_,rfl,iteN (by rw [C5 _ (uh okr)]; rfl) ?_⟩
  have tT4:=tTG.same S4
  refine ⟨_,rfl,_,rfl,_,rfl,pl,ps,sp,rfl,slG.same S4,h64,h0,tT4,fun D5 us5 G5 hD5 bt5 tT5 hD5' hus5 nd5 h645=>?_⟩
  have k5:=pj bt5 tT4.at
  have pG5:=(pG.same S4).keep k5
  have e5:us.map (·.2)=us5.map (·.2):=nu.uniq nd5
  have okp:∀c∈us.map (·.2),B5 c.1=true:=fun c hc=>by
   obtain ⟨z,hz,rfl⟩:=Bz.mp hc
   exact okr _ (Bz.mpr ⟨z,hz,rfl⟩)
  have d5:Den K G5 (.ref D5) (.list ((us5.map (·.2)).map pD)):=PL.den ⟨hD5',hus5⟩
  rw [<- e5] at d5
  refine ⟨_,_,pG5.den,d5,fH okp,fH okp,BR (Dy _ _) (uM _),?_⟩
  rw [C5 _ (fH okp)]
  refine q _ fun b o n1 n2 e=>bt5 _ _ n1 (S4 _ _ (B2G _ _ n1 n2 e))
end
end K55
namespace K55
open PySem L2 G KS
open DT hiding iteN iteY
theorem qN {K:Ba}{a:Addr}{xs:List V}{H:Hp}{cap:St}{te:TE}{Q:VK}(g:Nat->List V) (hS:SqT K H a xs) (hn:xs.length<=sizeLine)
  (el:∀(i:Nat) x H' (P:VK),Same H H'->xs[i]?=some x->(∀r H'',Same H' H''->H'' r=some (.tup (g i))->P (.ref r) H'')->te (some x :: cap) H' P)
  (fin:∀D H' (rs:List Addr),Same H H'->H D=none->H' D=some (.lst (rs.map V.ref))->rs.length=xs.length->(∀(i:Nat) r,rs[i]?=some r->H' r=some (.tup (g i)))->Q (.ref D) H'):d4 (Itt K a) cap te Q H:=by
 intro D hD
 refine ⟨fun i m zs H2=>∃rs:List Addr,m=xs.length-i/\i<=xs.length/\zs=rs.map V.ref/\rs.length=i/\H2 D=some (.lst zs)/\Same H H2/\∀(j:Nat) r,rs[j]?=some r->H2 r=some (.tup (g j)),⟨xs.length,[],rfl,B6 _,rfl,rfl,ac,Same.new hD _,fun j r h=>by cases h⟩,?_⟩
 rintro i m zs H2 ⟨rs,rfl,hi,rfl,hrl,hDz,hS2,hrs⟩
 refine ⟨hDz,?_⟩
 by_cases h:i<xs.length
 ·refine .inr ⟨⟨xs,xs[i],hS2.seqT hS,A4 h⟩,?_⟩
  rintro x H3 ⟨rfl,hy⟩
  have hx:=hy xs (hS2.seqT hS)
  refine el i x H3 _ hS2 hx fun r H4 hS4 hr=>⟨hS4 _ _ hDz,by rw [A2]; omega,xs.length-(i+1),by omega,rs++[r],rfl,h,by rw [Bf]; rfl,by rw [Bd,hrl]; rfl,ac,fun b u q=>?_,fun j r' hj=>?_⟩
  ·rw [ah (ak q hD)]
   exact hS4 _ _ (hS2 _ _ q)
  ·have nD:∀r'' xs',H4 r''=some (.tup xs')->r''≠D:=fun r'' xs' e=>aK e (hS4 _ _ hDz) 'c'
   by_cases hji:j<rs.length
   ·rw [Bk hji] at hj
    have e:=hS4 _ _ (hrs j r' hj)
    rw [ah (nD _ _ e)]
    exact e
   ·have hl:=(A8.mp hj).1
    rw [Bd,BZ] at hl
    have:j=i:=by omega
    subst this
    rw [Bm 'b',show j-rs.length=0 by omega] at hj
    cases hj
    rw [ah (nD _ _ hr)]
    exact hr
 ·have e:i=xs.length:=by omega
  subst e
  exact .inl ⟨⟨xs,hS2.seqT hS,Bb _⟩,fin D H2 rs hS2 hD hDz hrl hrs⟩
theorem qO {K:Ba}{a:Addr}{xs:List V}{H:Hp}{cap:St}{te:TE}{Q:VK}(g:Nat->List Mv) (hS:SqT K H a xs) (hn:xs.length<=sizeLine)
  (el:∀(i:Nat) x H' (P:VK),Same H H'->xs[i]?=some x->(∀l H'',Same H' H''->H' l=none->ML H'' l (g i)->P (.ref l) H'')->te (some x :: cap) H' P)
  (fin:∀D H' (rs:List Addr),Same H H'->H D=none->H' D=some (.lst (rs.map V.ref))->rs.length=xs.length->(∀(i:Nat) r,rs[i]?=some r->ML H' r (g i))->Q (.ref D) H'):d4 (Itt K a) cap te Q H:=by
 intro D hD
 refine ⟨fun i m zs H2=>∃rs:List Addr,m=xs.length-i/\i<=xs.length/\zs=rs.map V.ref/\rs.length=i/\H2 D=some (.lst zs)/\Same H H2/\∀(j:Nat) r,rs[j]?=some r->r≠D/\ML H2 r (g j),⟨xs.length,[],rfl,B6 _,rfl,rfl,ac,Same.new hD _,fun j r h=>by cases h⟩,?_⟩
 rintro i m zs H2 ⟨rs,rfl,hi,rfl,hrl,hDz,hS2,hrs⟩
 refine ⟨hDz,?_⟩
 by_cases h:i<xs.length
 ·refine .inr ⟨⟨xs,xs[i],hS2.seqT hS,A4 h⟩,?_⟩
  rintro x H3 ⟨rfl,hy⟩
  have hx:=hy xs (hS2.seqT hS)
  refine el i x H3 _ hS2 hx fun l H4 hS4 hl0 hl=>⟨hS4 _ _ hDz,by rw [A2]; omega,xs.length-(i+1),by omega,rs++[l],rfl,h,by rw [Bf]; rfl,by rw [Bd,hrl]; rfl,ac,fun b u q=>?_,fun j r' hj=>?_⟩
  ·rw [ah (ak q hD)]
   exact hS4 _ _ (hS2 _ _ q)
  ·have keep:∀{r ms},r≠D->ML H4 r ms->ML (upd H4 D (.lst (rs.map V.ref++[.ref l]))) r ms:=fun n ⟨vs,h1,h2⟩=>⟨vs,by rw [ah n]; exact h1,MVs.bt (Bt.upd (p:=D)) (hS4 _ _ hDz) h2⟩
   by_cases hji:j<rs.length
   ·rw [Bk hji] at hj
    obtain ⟨n,e⟩:=hrs j r' hj
    exact ⟨n,keep n (e.same hS4)⟩
   ·have hl2:=(A8.mp hj).1
    rw [Bd,BZ] at hl2
    have:j=i:=by omega
    subst this
    rw [Bm 'b',show j-rs.length=0 by omega] at hj
    cases hj
    have n:l≠D:=fun z=>by rw [z,hDz] at hl0; cases hl0
    exact ⟨n,keep n hl⟩
 ·have e:i=xs.length:=by omega
  exact .inl ⟨⟨xs,hS2.seqT hS,by omega⟩,fin D H2 rs hS2 hD hDz 'b' fun j r hj=>(hrs j r hj).2⟩
theorem gE {K:Ba}{a:Addr}{xs:List V}{H:Hp}{cap:St}{tc:TT}{te:TE}{Q:VK}(p:Nat->Bool) (f:Nat->V) (hS:SqL K H a xs) (hn:xs.length<=sizeLine)
  (tst:∀(i:Nat) x H' (P:Bool->Hp->Prop),Same H H'->xs[i]?=some x->(∀H'',Same H' H''->P (p i) H'')->tc (some x :: cap) H' P)
  (el:∀(i:Nat) x H' (P:VK),Same H H'->xs[i]?=some x->p i=true->(∀H'',Same H' H''->P (f i) H'')->te (some x :: cap) H' P) (fin:∀D H',Same H H'->H D=none->H' D=some (.lst (((Bh xs.length).filter p).map f))->Q (.ref D) H') :
  CompedF (Itl K a) cap tc te Q H:=by
 refine iA (xs:=xs) (fun i _=>p i) (fun i _=>f i) hn ?_ ?_ ?_ ?_ ?_ ?_
 ·intro i H' s hi
  exact ⟨xs,xs[i],s.seq hS,A4 hi⟩
 ·rintro i H' x H'' s hi ⟨rfl,h⟩
  exact ⟨rfl,h xs (s.seq hS)⟩
 ·intro H' s
  exact ⟨xs,s.seq hS,Bb _⟩
 ·intro i x H' P s h1 hP
  exact tst i x H' P s h1 hP
 ·intro i x H' P s h1 hp hP
  exact el i x H' P s h1 hp hP
 ·intro D H' ys s hD hD' hy
  refine fin D H' s hD ?_
  rw [hD',hy,m_ xs p f]
theorem mP {α β:Type}(d:α) (q:α->Bool) (g:α->β) (l:List α):((Bh l.length).filter fun i=>q (l.getD i d)).map (fun i=>g (l.getD i d))=(l.filter q).map g:=by
 have e:l=(Bh l.length).map fun i=>l.getD i d:=DD 'e' fun i h1 h2=>by simp [A7,h1]
 conv=>rhs; rw [e]
 rw [List.filter_map,BV]
 rfl
theorem ur (b:Bool):decide (V.str (if b=true then ug else jC)=V.str (Df "strip"))=!b:=by cases b <;> decide +kernel
theorem kY (m:Int):(ldP m).filter (fun t=>!t.lead)=[]:=by
 unfold ldP
 split <;> rfl
theorem iY (cs:List Clip) (fi:Nat):∀i,((bq cs fi i).filter fun t=>!t.lead).map (·.n)=dB fi i
 | 0=>rfl
 | i+1=>by
  show ((bq cs fi i++ldP _++[_]).filter _).map _=_
  rw [CN,CN,kY,BH,Bf,iY cs fi i]
  unfold dB
  rw [Dx,Bf]
  show _++[((fi+2*i:Nat):Int)]=_++[(fi:Int)+(i:Int)*2]
  rw [show ((fi+2*i:Nat):Int)=(fi:Int)+(i:Int)*2 by omega]
theorem qD (cs:List Clip) (fi:Nat):((bi cs fi).filter fun t=>!t.lead).map (·.n)=dB fi (aL cs fi):=by
 unfold bi
 rw [CN,kY,BH,iY]
theorem om:∀{a b:List (Str×Int)},a.Perm b->a.Pairwise (fun x y=>ltP y x=false)->b.Pairwise (fun x y=>ltP y x=false)->a=b
 | [],b,h,_,_=>h.nil_eq
 | x :: a,b,h,ha,hb=>by
  cases b with
  | nil=>exact absurd h.length_eq 'e'
  | cons y b =>
   obtain ⟨a1,a2⟩:=CF.mp ha
   obtain ⟨b1,b2⟩:=CF.mp hb
   have hx:x=y:=by
    have h1:x∈y :: b:=h.mem_iff.mp Bq
    have h2:y∈x :: a:=h.mem_iff.mpr Bq
    rcases Bp.mp h1 with z | z
    ·exact z
    rcases Bp.mp h2 with z' | z'
    ·exact z'.symm
    have l1:=b1 x z
    have l2:=a1 y z'
    have e1:x.1=y.1:=by
     by_cases c:x.1=y.1
     ·exact c
     ·rw [gf c] at l1
      rw [gf (Co c)] at l2
      exact kU l1 l2
    rw [fG e1] at l1
    rw [fG e1.symm] at l2
    have l1:=of_decide_eq_false l1
    have l2:=of_decide_eq_false l2
    exact Prod.ext e1 'b'
   subst hx
   rw [om (Dv.cons_inv h) a2 b2]
theorem sq {cs:List Clip}{ld:Int}(h0:0<=ld) (h:∀k,¬ bM cs ld k) (k:Nat):¬ bM cs 0 k:=fun s=>h k ⟨s.1,s.2.1,by have:=s.2.2; omega⟩
def shL (cs:List Clip) (ld:Int):List Int:=((Bh (cs.length-2)).filter fun i=>decide (eK cs (i+1)<ld)).map fun (i:Nat)=>(i:Int)
theorem iU (cs:List Clip) (ld:Int):f6 cs ld=(shL cs ld).map (·+1):=by
 unfold f6 shL
 rw [BV]
 rfl
def Laid (cs:List Clip) (ld:Int) (Hb H:Hp) (tv nv:V):Prop:=((∀k,¬ bM cs ld k)/\nv=.non/\∃t l0 l1 ts0 ts1,tv=.ref t/\H t=some (.tup [.ref l0,.ref l1])/\TL H l0 ts0/\TL H l1 ts1/\ts0.map (·.2)=bi cs 0/\ts1.map (·.2)=bi cs 1) \/
 ∃k:Nat,FirstS cs ld k/\tv=.non/\nv=.int k
theorem Laid.same {cs:List Clip}{ld:Int}{Hb H H':Hp}{tv nv:V}(h:Laid cs ld Hb H tv nv) (s:Same H H'):Laid cs ld Hb H' tv nv:=by
 rcases h with ⟨h1,h2,t,l0,l1,ts0,ts1,h3,h7,h8,h9,h10,h11⟩ | h
 ·exact .inl ⟨h1,h2,t,l0,l1,ts0,ts1,h3,s _ _ h7,h8.same s,h9.same s,h10,h11⟩
 ·exact .inr h
theorem MVs.at {H:Hp}{vs:List V}{ms:List Mv}{i:Nat}{m:Mv}(h:MVs H vs ms) (hm:ms[i]?=some m):∃v,vs[i]?=some v/\MV H v m:=by
 have hl:=h.len
 have hi:i<vs.length:=by have:=(A8.mp hm).1; omega
 have hv:vs[i]?=some vs[i]:=A4 hi
 obtain ⟨m',h1,h2⟩:=h.get hv
 rw [hm] at h1
 cases h1
 exact ⟨_,hv,h2⟩
section
variable {P:Program}{w:BG}{K:Ba}{mg:Str->Option Value}{base:Heap}
def nJ:Sp:=fun vs H Q _=>∃(pc pst:Addr) (ld:Int) (ps qs:'l'),vs=[.ref pc,.ref pst,.int ld]/\CL 9 1000 H pc ps/\Cd2 's'/\ps.length<=30/\ST H pst qs/\qs.map (·.2)=strips 's'/\0<=ld/\∀H',Same H H'->Q (.bl true) H'
theorem scLaidL:ax ["_law_clips_here", "_law_strips", "_law_leader", "_law_gaps_here", "_law_short", "_law_two", "_law_number", "e", "_law_k", "_law_sides", "_law_film_here", "_law_mine"] ["_law_clips_here", "_law_strips", "_law_leader"] (aj dI):='a'
theorem tO {f C:Addr}{fd:BX}{bmC:List Value}{idC:String}(F:Fun K "_law_laid" "_law_laid" dI f fd) (dGaps:'k' "_law_gaps" 1 ["_law_strips"] rW) (dRolls:Def P w K mg base (CX1 P w) "rolls" 4 ["strips", "leader"] (nG C)) (dShows:'k' "roll_shows" 4 ["strips", "roll"] nE) (dShown:'k' "shown" 4 ["clips"] nF)
  (m_TooShort:mg "TooShort"=some (.ref C)) (c_TooShort:ExcC K C bmC idC) (hb_TooShort:bmC.contains (.type "BaseException")=true) (XK:zu K C) (XC:u4 K C) (XN:XNo K C "number")
  (n_range:mg "range"=none) (n_len:mg "len"=none) (n_list:mg "list"=none) (n_isinstance:mg "isinstance"=none) (n_tuple:mg "tuple"=none) (n_sorted:mg "sorted"=none):aS P w K mg base CX0 5 f fd ["_law_clips_here", "_law_strips", "_law_leader"] nJ:=by
 refine F.ok scLaidL (fun vs H Q E h=>?_) (fun cdv A outer s H vs Q E hr h=>?_)
 ·obtain ⟨pc,pst,ld,ps,qs,rfl,_⟩:=h
  rfl
 obtain ⟨pc,pst,ld,ps,qs,rfl,cl,cd2,hpl,st,ecs,h0,q⟩:=h
 refine xN (ad (f8 (i:=3) scLaidL.nd (ay dGaps hr aD (aa (e_c 1) ag)))
  (ad (nX (i:=4) scLaidL.nd ["_law_gaps_here", "_law_leader"] [3,2] [("_law_leader",'n'+2),("_law_gaps_here",'n'+3)] rfl ⟨rfl,rfl,rfl,rfl,⟨rfl,rfl,rfl,rfl,trivial⟩⟩ ⟨rfl,⟨rfl,trivial⟩⟩ (dn n_range (e_b ao n_len B3 (aa (e_c 3) ag))) (fun _ _ _ _=>(aJ gz (ar (bD (K:=K) rfl) (e_n 1) (e_n 0)) (e_n 2))) (fun _ _ _ _=>(e_n 0)))
  (ad (aA (i:=5) scLaidL.nd oU)
  (ad (aA (i:=6) scLaidL.nd oU)
  (ad (fz (zX (i:=5) (j:=7) scLaidL.nd m_TooShort c_TooShort hb_TooShort (xM dRolls hr (aa (e_c 1) (aa (e_c 2) ag))) (fun a=>(ai (aA (i:=6) scLaidL.nd (AT (e_v 7)))))))
  (ad (bK (aJ (dg hr) (e_v 4) (bh ag))
   (ai (aF (uI (Ay (e_v 5)) (uE (ir cx (e_v 6) (aB aG (ar aw (e_v 4) ae) ae))))))
   aV)
  (ad (bK (t_w (gI (zy (e_v 5)) (gI (nn (iO (e_b d3 n_isinstance PyProof.Rows.boot_isinstance (aa (e_v 5) (aa (zi (v:=.ty "tuple") n_tuple 'd' rfl) ag))))) (fm (aJ eP (e_b ao n_len B3 (aa (e_v 5) ag)) ae)))))
   (ai (aF gh))
   aV)
  (ad (bf BQ rfl (dn n_range ae) (fL (i:=8) scLaidL.nd)
   (ai (bK (aJ (dg hr) (j_ [] [] [] rfl trivial trivial (aZ (ar az (e_v 5) (e_c 8))) (fun _ _ _ _=>(aJ cx (ar (bu (K:=K) rfl) (e_n 0) ae) jo)) (fun _ _ _ _=>(ar (bu (K:=K) rfl) (e_n 0) ae))) (wD rfl n_list n_range (e_c 8) (e_b ao n_len B3 (aa (e_c 1) ag)) ae))
    (ai (aF gh))
    aV)))
  (ad (x_ (i:=9) scLaidL.nd ["_law_strips"] [1] [("_law_strips",'n'+1)] rfl ⟨rfl,rfl,rfl,rfl,trivial⟩ ⟨rfl,trivial⟩ (xu (e_v 5)) (fun _ _ _ _=>(ay dShows hr aD (aa (e_n 1) (aa (e_n 0) ag)))))
  (ad (aA (i:=10) scLaidL.nd (ay dShown hr aD (aa (e_v 0) ag)))
  (ad (bK (t_w (gI (aJ eP (e_b ao n_len B3 (aa (ar aw (e_v 9) ae) ag)) (e_b ao n_len B3 (aa (e_v 10) ag))) (fm (aJ eP (e_b ao n_len B3 (aa (ar aw (e_v 9) ae) ag)) (e_b ao n_len B3 (aa (e_v 10) ag))))))
   (ai (aF gh))
   aV)
  (ad (bf BQ rfl (dn n_range (e_b ao n_len B3 (aa (e_v 10) ag))) (fL (i:=8) scLaidL.nd)
   (ad (aA (i:=11) scLaidL.nd (e_b (GS.call_sortPL (K:=K) rfl) n_sorted 'd' (aa (j_ ["_law_k"] [8] [("_law_k",'n'+4)] rfl ⟨rfl,rfl,rfl,rfl,trivial⟩ ⟨rfl,trivial⟩ (aZ (e_v 9)) (fun _ _ _ _=>(rA (ar (bD (K:=K) rfl) (e_n 0) (e_n 1)))) (fun _ _ _ _=>(ar (bD (K:=K) rfl) (e_n 0) (e_n 1)))) ag)))
   (ai (bK (aJ (dg hr) (e_v 11) (e_b (GS.call_sortPL (K:=K) rfl) n_sorted 'd' (aa (du [] [] [] rfl trivial trivial (xu (ar aw (e_v 10) (e_c 8))) (fun _ _ _ _=>(bJ (aa (ar (bu (K:=K) rfl) (e_n 0) ae) (aa (ar (bu (K:=K) rfl) (e_n 0) ae) ag))))) ag)))
    (ai (aF gh))
    aV))))
  (ai (aF gh)))))))))))))) ?_
 intros
 have zl:sizeLine=16777216:=Bo
 have cd:=cd2.cd
 have hl:=hpl
 have em:moments (qs.map (·.2))=moments 's':=by rw [ecs,gq fun c hc=>(cd.all c hc).1]
 have sn:Sw (qs.map (·.2)):=zI cd em
 have mok:∀x∈moments 's',MOk x:=fun x hx=>by
  obtain ⟨c,hc,hx⟩:=Fg.mp hx
  obtain ⟨y,hy,rfl⟩:=Bz.mp hc
  exact (cl.2 y hy).2.mok 'f' 'f' x hx
 have sokA:∀c∈qs.map (·.2),SOk c:=fun c hc=>by
  rw [ecs] at hc
  exact gQ _ [] (fun s hs=>nomatch hs) mok c (List.mem_reverse.mp hc)
 have sok:∀c∈qs.map (·.2),B5 c.reel=true:=fun c hc=>(sokA c hc).rf
 have hmo:(moments 's').length<=270:=by
  have h3:=cz (m:=9) 's' fun c hc=>by
   obtain ⟨x,hx,rfl⟩:=Bz.mp hc
   exact (cl.2 x hx).2.d
  rw [A2] at h3
  omega
 have hql:qs.length<=270:=by
  have h1:=congrArg Ce ecs
  rw [A2] at h1
  have h2:=dU (moments 's') []
  have h4:(strips 's').length=(Gz bb [] (moments 's')).length:=Du ..
  rw [CI] at h2
  omega
 have hql':qs.length<=100000:=by omega
 have hq2:(qs.map (·.2)).length=qs.length:=A2 ..
 have hp2:'s'.length=ps.length:=A2 ..
 have hend:aH (qs.map (·.2)) (qs.map (·.2)).length<=270:=by
  have h1:=oR (S:=qs.map (·.2)) sn.pos _ (Bb _)
  rw [B4,<- eQ,em] at h1
  omega
 have fo:u7 's':=oP _ _ rfl cd2 fun c hc=>by
  obtain ⟨x,hx,rfl⟩:=Bz.mp hc
  exact (cl.2 x hx).2.rf
 have eL1:((shown 's').length:Int)=aH 's' 's'.length:=by
  rw [fo.len]
  have:=ee 's' _ (Bb _)
  rw [B4] at this
  exact this
 have eL2:((shown 's').length:Int)=aH (qs.map (·.2)) (qs.map (·.2)).length:=by
  rw [fo.len,<- em]
  have:=ee (qs.map (·.2)) _ (Bb _)
  rw [B4] at this
  exact this
 refine ⟨_,rfl,pst,qs,rfl,st,hql',fun pg H1 s1 hg0 hg1=>?_⟩
 have gl:((gC (qs.map (·.2))).map V.int).length=qs.length-2:=by rw [A2,jg,hq2]
 refine ⟨_,rfl,pg,_,rfl,.inl (SqL.of hg1),_,rfl,by rw [gl]; omega,by rw [gl]; omega,?_⟩
 rw [gl,Cy]
 refine gk (fun i=>decide (eK (qs.map (·.2)) (i+1)<ld)) (fun i=>V.int (i:Int)) 'b' ?_ ?_ ?_
 ·intro i H2 R hi s2 hR
  have gi:((gC (qs.map (·.2))).map V.int)[i]?=some (.int (eK (qs.map (·.2)) (i+1))):=by
   rw [A5,jh (by rw [hq2]; exact hi)]
   rfl
  exact ⟨_,rfl,_,rfl,pg,_,_,_,rfl,rfl,SqL.of (s2 _ _ hg1),bv (k:=i) 'b' gi,_,rfl,_,_,rfl,rfl,_,rfl,hR H2 (Same.refl _)⟩
 ·intro i H2 R hi s2 hp hR
  refine ⟨_,rfl,?_⟩
  have:=hR H2 (Same.refl _)
  rw [El]
  exact this
 intro D H2 s2 hD0 hD
 have hD:H2 D=some (.lst ((shL (qs.map (·.2)) ld).map V.int)):=by
  rw [hD]
  unfold shL
  rw [BV,hq2]
  rfl
 have S2:=s1.trans s2
 refine ⟨fun σ' H3=>∃tv nv,σ'=[some (.ref pc),some (.ref pst),some (.int ld),some (.ref pg),some (.ref D),some tv,some nv,none,none,none,none,none]/\Same H2 H3/\Laid (qs.map (·.2)) ld H2 H3 tv nv,?_,?_⟩
 ·refine ⟨_,rfl,_,rfl,pst,qs,ld,rfl,st.same S2,hql',fun hn t l0 l1 ts0 ts1 H3 s3 n0 n1 ne ht tl0 tl1 e0 e1=>?_,fun k z H3 dx ez fs s3 hdx=>?_⟩
  ·exact ⟨_,_,rfl,s3,.inl ⟨hn,rfl,t,l0,l1,ts0,ts1,rfl,ht,tl0,tl1,e0,e1⟩⟩
  ·subst ez
   refine ⟨C,bmC,idC,rfl,c_TooShort,by simp,fun a ha=>?_⟩
   have te:=Same.new ha (mT a (.ref C) (some dx))
   have he:=ac (H:=H3) (a:=a) (o:=mT a (.ref C) (some dx))
   exact ⟨_,rfl,a,C,dx,_,.int (k:Int),rfl,he,te _ _ hdx,XK,XC,XN,rfl,_,_,rfl,s3.trans te,.inr ⟨k,fs,rfl,rfl⟩⟩
 rintro σ H3 ⟨tv,nv,rfl,s3,ld3⟩
 have S3:=S2.trans s3
 refine ⟨_,rfl,'g',fun p4 hp4=>?_⟩
 have s4:=Same.new hp4 (.lst [])
 have v4:=ac (H:=H3) (a:=p4) (o:=.lst [])
 have ld4:=ld3.same s4
 have hD4:=s4 _ _ (s3 _ _ hD)
 have S4:=S3.trans s4
 generalize upd H3 p4 (.lst [])=H4 at s4 v4 ld4 hD4 S4 ⊢
 refine ⟨_,_,.lst (SqL.of hD4) (eG _),.lst (SqL.of v4) .nil,KS.layIs _,rfl,BR (Dy _ _) (KS.depIs _),_,rfl,?_⟩
 rw [il]
 cases hsl:shL (qs.map (·.2)) ld with
 | cons x0 xr =>
  have hsl':f6 (qs.map (·.2)) ld=(x0+1) :: xr.map (·+1):=by rw [iU,hsl]; rfl
  obtain ⟨k0',ex0,fs0⟩:=md hsl'
  rcases ld4 with ⟨hns,_⟩ | ⟨k,fs,rfl,rfl⟩
  ·exact absurd fs0.1 (hns k0')
  have ek:=fs0.uniq fs
  subst ek
  rw [hsl] at hD4
  refine iG ⟨_,rfl,_,rfl,iG ?_⟩
  refine ⟨_,rfl,_,rfl,D,_,_,.int x0,rfl,rfl,SqL.of hD4,af (j:=0) rfl,_,_,rfl,rfl,rfl,?_⟩
  show Q (.bl (decide (V.int (k0':Int)=V.int (x0+1)))) _
  rw [ex0,decide_eq_true rfl]
  exact q _ S4
 | nil =>
  have hns:∀k,¬ bM (qs.map (·.2)) ld k:=pT (by rw [iU,hsl]; rfl)
  rcases ld4 with ⟨_,rfl,t,l0,l1,ts0,ts1,rfl,ht,tl0,tl1,e0,e1⟩ | ⟨k,fs,_,_⟩
  rotate_left
  ·exact absurd fs.1 (hns k)
  have hns0:=sq h0 hns
  refine dW ⟨_,rfl,_,rfl,dW ?_⟩
  refine ⟨_,rfl,_,_,_,true,rfl,TyOf.tup ht,.inr ⟨_,rfl⟩,kZ,true,rfl,dW ?_⟩
  refine ⟨_,rfl,t,_,rfl,.inr (SqT.of ht),rfl,_,rfl,iteN rfl ?_⟩
  have rl:∀(ts:List (Addr×Th)) (fi:Nat),fi<=1->ts.map (·.2)=bi (qs.map (·.2)) fi->RlOk (qs.map (·.2)) (ts.map (·.2)):=fun ts fi hf e=>by
   obtain ⟨h1,h2⟩:=dY sn h0 hns fi hf
   have h3:=ji (qs.map (·.2)) fi
   rw [hq2] at h3
   rw [e]
   exact ⟨fun t ht=>(h2 t ht).1,fun t ht=>(h2 t ht).2,fun c hc=>(sokA c hc).sm,by omega,by omega⟩
  have r0:=rl ts0 0 'f' e0
  have r1:=rl ts1 1 'f' e1
  have st4:=st.same S4
  have pick:∀k,k<2->∃(l:Addr) (ts:List (Addr×Th)),[V.ref l0,.ref l1][k]?=some (.ref l)/\TL H4 l ts/\ts.map (·.2)=bi (qs.map (·.2)) k/\RlOk (qs.map (·.2)) (ts.map (·.2)):=fun k hk=>by
   rcases (by omega:k=0\/k=1) with rfl | rfl
   ·exact ⟨l0,ts0,rfl,tl0,e0,r0⟩
   ·exact ⟨l1,ts1,rfl,tl1,e1,r1⟩
  refine ⟨2,rfl,by omega,by omega,bQ (lo:=0) (n:=2) (fun i σ H'=>∃o8:Option V,σ=[some (.ref pc),some (.ref pst),some (.int ld),some (.ref pg),some (.ref D),some (.ref t),some .non,none,o8,none,none,none]/\Same H4 H') ⟨none,rfl,Same.refl _⟩ ?_ ?_⟩
  ·rintro i σ H5 hi ⟨o8,rfl,s5⟩
   rw [El]
   obtain ⟨l,ts,hl,tl,et,_⟩:=pick i hi
   have tl5:=tl.same s5
   have tln:ts.length<=qs.length+3:=by
    have h1:=congrArg Ce et
    rw [A2] at h1
    have h2:=ji (qs.map (·.2)) i
    omega
   refine ⟨_,rfl,_,rfl,t,_,_,.ref l,rfl,rfl,SqT.of (s5 _ _ ht),af (j:=i) hl,l,rfl,⟨_,SqL.of tl5.1⟩,?_⟩
   obtain ⟨qt,hqt⟩:∃qt:List Th,qt=ts.map (·.2):=⟨_,rfl⟩
   refine gE (fun j=>!(qt.getD j (⟨true,0⟩:Th)).lead) (fun j=>V.int (qt.getD j (⟨true,0⟩:Th)).n) (SqL.of tl5.1) (by rw [A2]; omega) ?_ ?_ ?_
   ·intro j x H6 R s6 hx hR
    rw [A5] at hx
    cases hz:ts[j]? with
    | none=>rw [hz] at hx; cases hx
    | some z =>
     rw [hz] at hx
     cases hx
     have ed:qt.getD j (⟨true,0⟩:Th)=z.2:=by rw [hqt,A7,A5,hz]; rfl
     refine ⟨_,rfl,z.1,_,_,.str _,rfl,rfl,SqT.of (s6 _ _ (tl5.2 z (Bg hz))),af (j:=0) rfl,rfl,_,rfl,?_⟩
     rw [ur]
     have:=hR H6 (Same.refl _)
     rw [ed] at this
     exact this
   ·intro j x H6 R s6 hx _ hR
    rw [A5] at hx
    cases hz:ts[j]? with
    | none=>rw [hz] at hx; cases hx
    | some z =>
     rw [hz] at hx
     cases hx
     have ed:qt.getD j (⟨true,0⟩:Th)=z.2:=by rw [hqt,A7,A5,hz]; rfl
     have:=hR H6 (Same.refl _)
     rw [ed] at this
     exact ⟨_,rfl,z.1,_,_,.int z.2.n,rfl,rfl,SqT.of (s6 _ _ (tl5.2 z (Bg hz))),af (j:=1) rfl,this⟩
   intro D6 H6 s6 hD60 hD6
   have hD6:H6 D6=some (.lst ((dB i (aL (qs.map (·.2)) i)).map V.int)):=by
    have e9:(ts.map fun x=>V.ref x.1).length=qt.length:=by rw [hqt,A2,A2]
    rw [hD6,e9,mP (⟨true,0⟩:Th) (fun t=>!t.lead) (fun t=>V.int t.n) qt,hqt,et,<- qD,BV]
    rfl
   have T6:=s5.trans s6
   refine ⟨_,rfl,_,rfl,pst,_,rfl,.inl (SqL.of (T6 _ _ st4.1)),(i:Int),((qs.map fun x=>V.ref x.1).length:Int),rfl,⟨by omega,by omega,by omega,by rw [A2]; omega⟩,by rw [A2]; omega,fun p7 hp7=>?_⟩
   have er:eI (i:Int) ((((qs.map fun x=>V.ref x.1).length:Int)-(i:Int)+1) / 2).toNat 2=(dB i (aL (qs.map (·.2)) i)).map V.int:=by
    have e1:((((qs.map fun x=>V.ref x.1).length:Int)-(i:Int)+1) / 2).toNat=aL (qs.map (·.2)) i:=by
     unfold aL
     rw [A2,hq2]
     omega
    rw [e1]
    unfold eI dB
    rw [BV]
    rfl
   rw [er]
   have s7:=Same.new hp7 (.lst ((dB i (aL (qs.map (·.2)) i)).map V.int))
   refine ⟨_,_,.lst (SqL.of (s7 _ _ hD6)) (eG _),.lst (SqL.of ac) (eG _),KS.layIs _,KS.layIs _,BR (Dy _ _) (KS.depIs _),_,rfl,iteN (by rw [C5 _ (KS.layIs _)]; rfl) ?_⟩
   exact ⟨_,rfl,T6.trans s7⟩
  ·rintro σ H5 ⟨o8,rfl,s5⟩
   have st5:=st4.same s5
   have ht5:=s5 _ _ ht
   refine ⟨_,rfl,t,rfl,⟨_,SqT.of ht5⟩,?_⟩
   refine qO (fun k=>aC (qs.map (·.2)) (bi (qs.map (·.2)) k)) (SqT.of ht5) 'i' ?_ ?_
   ·intro k x H6 R s6 hx hR
    have hk:k<2:=(A8.mp hx).1
    obtain ⟨l,ts,hl,tl,et,rk⟩:=pick k hk
    rw [hl] at hx
    cases hx
    have T6:=s5.trans s6
    refine ⟨_,rfl,_,rfl,pst,l,qs,ts,rfl,st4.same T6,tl.same T6,hql',rk,fun pf H7 s7 h70 ml=>?_⟩
    rw [et] at ml
    exact hR pf H7 s7 h70 ml
   intro D6 H6 rs s6 hD60 hD6 hrl hml
   obtain ⟨pf0,pf1,rfl⟩:∃pf0 pf1,rs=[pf0,pf1]:=by
    match rs,hrl with
    | [a,b],_=>exact ⟨a,b,rfl⟩
   obtain ⟨us0,hus0,mus0⟩:=hml 0 pf0 rfl
   obtain ⟨us1,hus1,mus1⟩:=hml 1 pf1 rfl
   have T6:=s5.trans s6
   have S6:=S4.trans T6
   refine ⟨_,rfl,pc,ps,1000,rfl,(cl.same S6).mono 'f' (Bb _),by decide,by omega,fo.sd,fun pfm H7 s7 hf0 sh=>?_⟩
   obtain ⟨fvs,hfm,ftd⟩:=sh
   have lfm:fvs.length=(shown 's').length:=by rw [ftd.len,A2]
   have lu0:=mus0.len
   have lu1:=mus1.len
   obtain ⟨ln0,_⟩:=dY sn h0 hns 0 'f'
   obtain ⟨ln1,_⟩:=dY sn h0 hns 1 'f'
   have hD7:H7 D6=some (.lst [.ref pf0,.ref pf1]):=s7 _ _ hD6
   have hus07:=s7 _ _ hus0
   have hus17:=s7 _ _ hus1
   refine ⟨_,rfl,D6,_,_,.ref pf0,rfl,rfl,SqL.of hD7,af (j:=0) rfl,pf0,_,rfl,.inl (SqL.of hus07),_,rfl,pfm,_,rfl,.inl (SqL.of hfm),rfl,_,rfl,iteN ?_ ?_⟩
   ·rw [decide_eq_true (congrArg (fun n:Nat=>V.int (n:Int)) 'b')]
    rfl
   refine ⟨_,rfl,D6,_,_,.ref pf1,rfl,rfl,SqL.of hD7,af (j:=1) rfl,pf1,_,rfl,.inl (SqL.of hus17),_,rfl,pfm,_,rfl,.inl (SqL.of hfm),rfl,_,rfl,iteN ?_ ?_⟩
   ·rw [decide_eq_true (congrArg (fun n:Nat=>V.int (n:Int)) 'b')]
    rfl
   have m0:=mus0.same s7
   have m1:=mus1.same s7
   refine ⟨_,rfl,pfm,_,rfl,.inl (SqL.of hfm),((fvs.length:Nat):Int),rfl,by omega,by omega,bQ (lo:=0) (n:=fvs.length) (fun i σ H'=>∃o8 o11:Option V,σ=[some (.ref pc),some (.ref pst),some (.int ld),some (.ref pg),some (.ref D),some (.ref t),some .non,none,o8,some (.ref D6),some (.ref pfm),o11]/\Same H7 H') ⟨_,none,rfl,Same.refl _⟩ ?_ ?_⟩
   ·rintro i σ H8 hi ⟨o8,o11,rfl,s8⟩
    rw [El]
    have hmi:(shown 's')[i]?=some ((shown 's')[i]' 'b'):=A4 'b'
    have hvf:fvs[i]?=some fvs[i]:=A4 hi
    obtain ⟨d,hd,tdx⟩:=(ftd.tk (TK.of s8)).get hvf
    rw [A5,hmi] at hd
    cases hd
    obtain ⟨u,v,hu,hv,hcv⟩:=qp sn hns0 i (by rw [<- eL2]; omega)
    obtain ⟨v0,hv0,mv0⟩:=MVs.at (m0.same s8) hu
    obtain ⟨v1,hv1,mv1⟩:=MVs.at (m1.same s8) hv
    have hfr:=fo.cv i
    rw [A7,hmi,<- em] at hfr
    have hfr:((shown 's')[i]' 'b').map frm=Cv (moments (qs.map (·.2))) i:=hfr
    rw [<- hfr] at hcv
    obtain ⟨mm,hmm⟩:∃mm,mm=(shown 's')[i]' 'b':=⟨_,rfl⟩
    rw [<- hmm] at hcv tdx
    have oku:=kC (cs:=qs.map (·.2)) (ts:=bi (qs.map (·.2)) 0) sok u (Bg hu)
    have okv:=kC (cs:=qs.map (·.2)) (ts:=bi (qs.map (·.2)) 1) sok v (Bg hv)
    have okth:∀x∈there u v,B5 x.1=true:=fun x hx=>by
     unfold there at hx
     obtain ⟨y,hy,e⟩:=EN.mp hx
     simp only [Bp,Cg,or_false] at hy
     rcases hy with rfl | rfl
     ·exact oku x e
     ·exact okv x e
    have hD8:=s8 _ _ hD7
    have hus08:=s8 _ _ hus07
    have hus18:=s8 _ _ hus17
    have side:∀j x,[V.ref pf0,V.ref pf1][j]?=some x->∃(p:Addr) (us:List V),x=.ref p/\H8 p=some (.lst us)/\us[i]?=some (if j=0 then v0 else v1):=fun j x hx=>by
     have hj:j<2:=(A8.mp hx).1
     rcases (by omega:j=0\/j=1) with rfl | rfl
     ·cases hx
      exact ⟨pf0,us0,rfl,hus08,hv0⟩
     ·cases hx
      exact ⟨pf1,us1,rfl,hus18,hv1⟩
    have isn:∀j,(!decide ((if j=0 then v0 else v1)=V.non))=(if j=0 then u else v).isSome:=fun j=>by
     by_cases z:j=0
     ·rw [if_pos z,if_pos z]
      cases u with
      | none=>rw [show v0=.non from mv0,decide_eq_true rfl]; rfl
      | some m=>obtain ⟨r,rfl,_⟩:=mv0; rw [decide_eq_false 'c']; rfl
     ·rw [if_neg z,if_neg z]
      cases v with
      | none=>rw [show v1=.non from mv1,decide_eq_true rfl]; rfl
      | some m=>obtain ⟨r,rfl,_⟩:=mv1; rw [decide_eq_false 'c']; rfl
    refine ⟨_,rfl,D6,rfl,⟨_,SqL.of hD8⟩,?_⟩
    refine gE (fun j=>(if j=0 then u else v).isSome) (fun j=>if j=0 then v0 else v1) (SqL.of hD8) 'i' ?_ ?_ ?_
    ·intro j x H9 R s9 hx hR
     obtain ⟨p,us,rfl,h1,h2⟩:=side j x hx
     have:=hR H9 (Same.refl _)
     refine ⟨_,rfl,_,rfl,p,_,_,_,rfl,rfl,SqL.of (s9 _ _ h1),af (j:=i) h2,?_⟩
     rw [<- isn j] at this
     exact ⟨_,rfl,this⟩
    ·intro j x H9 R s9 hx _ hR
     obtain ⟨p,us,rfl,h1,h2⟩:=side j x hx
     exact ⟨_,rfl,_,rfl,p,_,_,_,rfl,rfl,SqL.of (s9 _ _ h1),af (j:=i) h2,hR _ (Same.refl _)⟩
    intro D9 H9 s9 hD90 hD9
    obtain ⟨ts1,et1,ht1,ef1,l1⟩:∃ts1:List (Addr×Str×Int),((Bh 2).filter fun j=>(if j=0 then u else v).isSome).map (fun j=>if j=0 then v0 else v1)=ts1.map (fun x=>V.ref x.1)/\(∀x∈ts1,H8 x.1=some (.tup [.str x.2.1,.int x.2.2]))/\ts1.map (·.2)=there u v/\ts1.length<=2:=by
     cases u with
     | none =>
      cases v with
      | none=>exact ⟨[],rfl,(fun x hx=>nomatch hx),rfl,by decide⟩
      | some m =>
       obtain ⟨r,rfl,hr⟩:=mv1
       exact ⟨[(r,m)],rfl,(fun x hx=>by rw [Bu.mp hx]; exact hr),rfl,'e'⟩
     | some n =>
      obtain ⟨r0,rfl,hr0⟩:=mv0
      cases v with
      | none=>exact ⟨[(r0,n)],rfl,(fun x hx=>by rw [Bu.mp hx]; exact hr0),rfl,'e'⟩
      | some m =>
       obtain ⟨r,rfl,hr⟩:=mv1
       refine ⟨[(r0,n),(r,m)],rfl,fun x hx=>?_,rfl,by simp⟩
       simp only [Bp,Cg,or_false] at hx
       rcases hx with rfl | rfl
       ·exact hr0
       ·exact hr
    have hD9:H9 D9=some (.lst (ts1.map fun x=>V.ref x.1)):=by rw [hD9,<- et1]; rfl
    refine ⟨D9,ts1,rfl,SqL.of hD9,fun x hx=>s9 _ _ (ht1 x hx),by omega,fun pa us1' hpa pm1 up1=>?_⟩
    have sa:=Same.new hpa (.lst (us1'.map fun x=>V.ref x.1))
    have va:PL (upd H9 pa (.lst (us1'.map fun x=>V.ref x.1))) pa us1':=⟨ac,fun x hx=>sa _ _ (s9 _ _ (ht1 x (pm1.mem_iff.mp hx)))⟩
    have Sa:=s9.trans sa
    generalize upd H9 pa (.lst (us1'.map fun x=>V.ref x.1))=Ha at sa va Sa ⊢
    obtain ⟨am,ms,evf,ham,tds⟩:=tdx.tinv
    refine ⟨_,rfl,_,rfl,_,rfl,pfm,_,_,fvs[i],rfl,rfl,SqL.of (Sa _ _ (s8 _ _ hfm)),af (j:=i) hvf,am,evf,⟨_,SqT.of (Sa _ _ ham)⟩,?_⟩
    have lms:ms.length=mm.length:=by rw [tds.len,A2]
    have hm2:=(hX fo.sd _ (Bb _)) mm (by rw [B4,hmm]; exact BB _)
    refine qN (fun j=>[.str (mm.getD j ⟨"",0,0,0⟩).reel,.int (mm.getD j ⟨"",0,0,0⟩).n]) (SqT.of (Sa _ _ ham)) (by have:=hm2.2.2; omega) ?_ ?_
    ·intro j x Hb R sb hx hR
     obtain ⟨d,hd,td⟩:=((tds.tk (TK.of Sa)).tk (TK.of sb)).get hx
     rw [A5] at hd
     cases hz:mm[j]? with
     | none=>rw [hz] at hd; cases hd
     | some z =>
      rw [hz] at hd
      cases hd
      obtain ⟨a1,rfl,ha1⟩:=rq td
      have ed:mm.getD j ⟨"",0,0,0⟩=z:=by rw [A7,hz]; rfl
      refine ⟨_,rfl,a1,_,_,.str z.reel,rfl,rfl,SqT.of ha1,af (j:=0) rfl,_,rfl,a1,_,_,.int z.n,rfl,rfl,SqT.of ha1,af (j:=1) rfl,'i',fun r hr=>hR r _ (Same.new hr _) ?_⟩
      rw [ed]
      exact ac
    intro Db Hb rs2 sb hDb0 hDb hrl2 hrs2
    have hrl2:rs2.length=(mm.map frm).length:=by rw [hrl2,lms,A2]
    obtain ⟨ts2,hts2⟩:∃ts2:List (Addr×Str×Int),ts2=rs2.zip (mm.map frm):=⟨_,rfl⟩
    have ea:ts2.map (fun x=>V.ref x.1)=rs2.map V.ref:=by
     rw [hts2,show (fun x:Addr×Str×Int=>V.ref x.1)=V.ref ∘ Prod.fst from rfl,<- BV,List.map_fst_zip 'b']
    have eb:ts2.map (·.2)=mm.map frm:=by rw [hts2]; exact F6 'b'
    have l2:ts2.length<=2:=by
     have h1:=congrArg Ce eb
     rw [A2,A2] at h1
     have:=hm2.2.2
     omega
    have ht2:∀x∈ts2,Hb x.1=some (.tup [.str x.2.1,.int x.2.2]):=fun x hx=>by
     obtain ⟨j,hj,ej⟩:=List.getElem_of_mem hx
     have e1:rs2[j]?=some x.1:=by
      have:=congrArg (fun l=>l[j]?) ea
      simp only [A5,A4 hj,EU,ej] at this
      cases hz:rs2[j]? with
      | none=>rw [hz] at this; cases this
      | some y=>rw [hz] at this; cases this; rfl
     have e2:(mm.map frm)[j]?=some x.2:=by rw [<- eb,A5,A4 hj,ej]; rfl
     have:=hrs2 j x.1 e1
     rw [A5] at e2
     cases hz:mm[j]? with
     | none=>rw [hz] at e2; cases e2
     | some y =>
      rw [hz] at e2
      rw [show mm.getD j ⟨"",0,0,0⟩=y by rw [A7,hz]; rfl] at this
      rw [this,<- BP e2]
      rfl
    refine ⟨Db,ts2,rfl,SqL.of (by rw [hDb,ea]),ht2,by omega,fun pc2 us2 hpc2 pm2 up2=>?_⟩
    have sc:=Same.new hpc2 (.lst (us2.map fun x=>V.ref x.1))
    have vc:PL (upd Hb pc2 (.lst (us2.map fun x=>V.ref x.1))) pc2 us2:=⟨ac,fun x hx=>sc _ _ (ht2 x (pm2.mem_iff.mp hx))⟩
    have eq:us1'.map (·.2)=us2.map (·.2):=by
     refine om ?_ (by rw [Cc]; exact up1) (by rw [Cc]; exact up2)
     refine (pm1.map _).trans (Dv.trans ?_ (pm2.map _).symm)
     rw [ef1,eb]
     rcases hcv with e | e
     ·rw [e]
     ·rw [e]
      exact (List.reverse_perm _).symm
    have ok1:∀c∈us1'.map (·.2),B5 c.1=true:=fun c hc=>okth c (by rw [<- ef1]; exact (pm1.map _).mem_iff.mp hc)
    have d2:Den K _ (.ref pc2) (.list ((us2.map (·.2)).map pD)):=vc.den
    rw [<- eq] at d2
    have Sc:=sb.trans sc
    refine ⟨_,_,(va.same Sc).den,d2,fH ok1,fH ok1,BR (Dy _ _) (uM _),_,rfl,iteN (by rw [C5 _ (fH ok1)]; rfl) ?_⟩
    exact ⟨_,_,rfl,(s8.trans Sa).trans Sc⟩
   ·rintro σ H8 ⟨o8,o11,rfl,s8⟩
    exact q _ ((S6.trans s7).trans s8)
end
end K55
namespace K55
open PySem L2 G KS
theorem k6 {K:Ba}{H H':Hp}{a:Addr}{xs:List V}(k:∀b o,(∀ts,o≠.tbl ts)->H b=some o->H' b=some o) (h:SqL K H a xs):SqL K H' a xs:=by
 rcases h with (h | ⟨ob,h⟩) | h
 ·exact .inl (.inl (k _ _ (fun _ z=>by cases z) h))
 ·exact .inl (.inr ⟨ob,k _ _ (fun _ z=>by cases z) h⟩)
 ·exact .inr h
section
variable {P:Program}{w:BG}{K:Ba}{mg:Str->Option Value}{base:Heap}
def spLaw (T U:Addr) (K:Ba):Sp:=fun vs H Q _=>∃(a:Addr) (ns:List Int),vs=[.ref a]/\SqL K H a (ns.map V.int)/\ns.length<=63/\H T=some (.tbl #[])/\H U=some (.tbl #[])/\∀H',Q (.bl true) H'
theorem scLaw:ax ["_law_script", "_law_clips_here", "_law_spoil", "_law_strips", "_law_prints"] ["_law_script"] (aj sy):='a'
theorem yO {f T U:Addr}{fd:BX}(hTU:T≠U) (F:Fun K "law" "law" sy f fd) (dClips:'k' "_law_clips" 2 ["_law_script", "_law_most"] (nN K)) (dCell:'k' "_law_cell" 1 ["_law_script", "_law_k"] (rZ K)) (dStrips:'k' "strips_of" 4 ["clips"] ku) (dOf:'k' "_law_of_strips" 4 ["_law_strips"] jD) (dFilm:'k' "_law_film" 2 ["_law_clips_here"] jD) (dFades:'k' "_law_fades" 1 ["_law_rows"] nK) (dPr:'k' "prints_for" 5 ["strips", "spoil"] (rQ T)) (dWhole:'k' "_law_whole" 1 ["_law_found"] nB)
  (dOnce:'k' "_law_cut_once" 3 ["_law_strips", "_law_prints", "_law_spoil"] rR) (dLL:'k' "_law_least" 7 ["_law_strips", "_law_prints", "_law_spoil"] (zM T U)) (dLaidL:'k' "_law_laid" 5 ["_law_clips_here", "_law_strips", "_law_leader"] nJ) (n_list:mg "list"=none) (n_len:mg "len"=none) (n_all:mg "all"=none):aS P w K mg base CX0 8 f fd ["_law_script"] (spLaw T U K):=by
 refine F.ok scLaw (fun vs H Q E h=>?_) (fun cdv A outer s H vs Q E hr h=>?_)
 ·obtain ⟨a,ns,rfl,_⟩:=h
  rfl
 obtain ⟨a,ns,rfl,hS,hn,hT,hU,q⟩:=h
 refine zv (ad (aA (i:=1) scLaw.nd (ay dClips hr aD (aa (e_v 0) (aa ae ag))))
  (ad (aA (i:=2) scLaw.nd (aB bC (ay dCell hr aD (aa (e_v 0) (aa ae ag))) ae))
  (ad (aA (i:=3) scLaw.nd (ay dStrips hr aD (aa (e_t fN n_list 'd' (aa (e_v 1) ag)) ag)))
  (ad (bK (t_w (gI (aJ (dg hr) (ay dOf hr aD (aa (e_v 3) ag)) (ay dFilm hr aD (aa (e_v 1) ag))) (fm (aJ (dg hr) (ay dFades hr aD (aa (e_v 3) ag)) (ay dFades hr aD (aa (e_v 1) ag))))))
   (ai (aF gh))
   aV)
  (ad (aA (i:=4) scLaw.nd (ay dPr hr aD (aa (e_v 3) (aa (e_v 2) ag))))
  (ad (bK (t_w (gI (aJ eP (e_b ao n_len B3 (aa (e_v 4) ag)) (e_b ao n_len B3 (aa (e_v 3) ag))) (fm (nn (iO (e_b uV n_all PyProof.Rows.boot_all (aa (du [] [] [] rfl trivial trivial (aZ (e_v 4)) (fun _ _ _ _=>(uI (ay dWhole hr aD (aa (e_n 0) ag)) (uE (ir xm (e_n 0) ae))))) ag)))))))
   (ai (aF gh))
   aV)
  (ad (bK (t_w (gI (nn (iO (ay dOnce hr aD (aa (e_v 3) (aa (e_v 4) (aa (e_v 2) ag)))))) (fm (nn (iO (ay dLL hr aD (aa (e_v 3) (aa (e_v 4) (aa (e_v 2) ag)))))))))
   (ai (aF gh))
   aV)
  (ai (aF (ay dLaidL hr aD (aa (e_v 1) (aa (e_v 3) (aa (aB bC (ay dCell hr aD (aa (e_v 0) (aa ae ag))) ae) ag))))))))))))) ?_
 intros
 have zl:sizeLine=16777216:=Bo
 refine ⟨_,rfl,a,ns,rfl,hS,fun pc ps H1 s1 hpc0 cl cd2 hl=>?_⟩
 have cd:=cd2.cd
 refine ⟨_,rfl,a,ns,0,rfl,s1.seq hS,fun H2 s2=>⟨_,_,rfl,rfl,(by show (0:Int)<6; decide),?_⟩⟩
 have sp0:0<=cK ns 0 % 6:=Fz _ 'f'
 have S2:=s1.trans s2
 have cl2:=cl.same s2
 refine ⟨_,rfl,pc,_,rfl,.inl (SqL.of cl2.1),fun p3 hp3=>?_⟩
 have s3:=Same.new hp3 (.lst 'p')
 have cl3:CL 9 1000 (upd H2 p3 (.lst 'p')) p3 ps:=⟨ac,fun x hx=>⟨s3 _ _ (cl2.2 x hx).1,(cl2.2 x hx).2⟩⟩
 have S3:=S2.trans s3
 have clc:=cl2.same s3
 generalize upd H2 p3 (.lst 'p')=H3 at s3 cl3 S3 clc ⊢
 refine ⟨p3,ps,1000,rfl,cl3.mono 'f' (Bb _),by decide,by omega,fun pst rs H4 s4 hst0 sl er=>?_⟩
 have S4:=S3.trans s4
 have cl4:=clc.same s4
 obtain ⟨qs,eqs⟩:∃qs,qs=rs.reverse:=⟨_,rfl⟩
 have st:ST H4 pst qs:=by rw [eqs]; exact sl.st
 have ecs:qs.map (·.2)=strips 's':=by
  rw [eqs,List.map_reverse,er]
  rfl
 have em:moments (qs.map (·.2))=moments 's':=by rw [ecs,gq fun c hc=>(cd.all c hc).1]
 have mok:∀x∈moments 's',MOk x:=fun x hx=>by
  obtain ⟨c,hc,hx⟩:=Fg.mp hx
  obtain ⟨y,hy,rfl⟩:=Bz.mp hc
  exact (cl.2 y hy).2.mok 'f' 'f' x hx
 have sokA:∀c∈qs.map (·.2),SOk c:=fun c hc=>by
  rw [ecs] at hc
  exact gQ _ [] (fun s hs=>nomatch hs) mok c (List.mem_reverse.mp hc)
 have sok:∀c∈qs.map (·.2),B5 c.reel=true:=fun c hc=>(sokA c hc).rf
 have hmo:(moments 's').length<=270:=by
  have h3:=cz (m:=9) 's' fun c hc=>by
   obtain ⟨x,hx,rfl⟩:=Bz.mp hc
   exact (cl.2 x hx).2.d
  rw [A2] at h3
  omega
 have hql:qs.length<=270:=by
  have h1:=congrArg Ce ecs
  rw [A2] at h1
  have h2:=dU (moments 's') []
  have h4:(strips 's').length=(Gz bb [] (moments 's')).length:=Du ..
  rw [CI] at h2
  omega
 have hql':qs.length<=100000:=by omega
 have hq2:(qs.map (·.2)).length=qs.length:=A2 ..
 have hp2:'s'.length=ps.length:=A2 ..
 have hq30:qs.length<=30:=by
  have h1:=congrArg Ce er
  rw [A2] at h1
  have h2:=ib 's' []
  rw [A2,CI] at h2
  rw [eqs,Du]
  have h3:(bW (moments 's')).length=((moments 's').foldl bb []).length:=rfl
  omega
 have hq2':(qs.map (·.2)).length=qs.length:=A2 ..
 have smq:∀x∈qs,Sm x.2/\x.2.cnt<=10000:=fun x hx=>by
  have hm:x.2∈qs.map (·.2):=Bz.mpr ⟨x,hx,rfl⟩
  refine ⟨(sokA _ hm).sm,?_⟩
  have h1:x.2.cnt<=(moments (qs.map (·.2))).length:=by
   obtain ⟨L,R,e⟩:=List.append_of_mem hm
   rw [e]
   unfold moments
   rw [CQ,Ck,Bd,Bd,cq]
   omega
  rw [em] at h1
  omega
 have smp:∀x∈ps,Sm x.2/\x.2.cnt<=10000:=fun x hx=>⟨(cl.2 x hx).2.sm 'f',by have:=(cl.2 x hx).2.d; omega⟩
 have ef:bj (qs.map (·.2))=bj 's':=by rw [fM,fM,em]
 refine ⟨_,rfl,pst,qs,rfl,st,smq,by rw [em]; omega,fun l5 us5 H5 s5 hl5 pl5 e5=>?_⟩
 refine ⟨_,rfl,pc,ps,rfl,(cl4.same s5).st,smp,by omega,fun l6 us6 H6 s6 hl6 pl6 e6=>?_⟩
 have okf:∀c∈us5.map (·.2),B5 c.1=true:=fun c hc=>by
  rw [e5] at hc
  unfold bj at hc
  obtain ⟨k,hk,hc⟩:=Fg.mp hc
  obtain ⟨n,_,rfl⟩:=Bz.mp hc
  exact sok k hk
 have d6:Den K H6 (.ref l6) (.list ((us6.map (·.2)).map pD)):=pl6.den
 rw [e6,<- ef,<- e5] at d6
 refine ⟨_,_,(pl5.same s6).den,d6,fH okf,fH okf,BR (Dy _ _) (uM _),_,rfl,iteN (by rw [C5 _ (fH okf)]; rfl) ?_⟩
 have S6:=(S4.trans s5).trans s6
 have st6:=(st.same s5).same s6
 have cl6:=(cl4.same s5).same s6
 refine ⟨_,rfl,pst,qs,rfl,st6,by rw [em]; omega,fun l7 us7 H7 s7 hl7 pi7 e7=>?_⟩
 refine ⟨_,rfl,pc,ps,rfl,(cl6.same s7).st,by omega,fun l8 us8 H8 s8 hl8 pi8 e8=>?_⟩
 have d8:Den K H8 (.ref l8) (.list ((us8.map (·.2)).map iD)):=pi8.den
 rw [e8,<- em,<- e7] at d8
 refine ⟨_,_,(pi7.same s8).den,d8,ui _,ui _,BR (Dy _ _) (AB _),_,rfl,iteN (by rw [C5 _ (ui _)]; rfl) ?_⟩
 have S8:=(S6.trans s7).trans s8
 have st8:=(st6.same s7).same s8
 have cl8:=(cl6.same s7).same s8
 have tT8:TabOk T fc fb H8:=(TabOk.new hT).same S8
 have tU8:TabOk U ie ic H8:=(TabOk.new hU).same S8
 refine ⟨_,rfl,_,rfl,pst,qs,cK ns 0 % 6,rfl,st8,by omega,sp0,tT8,fun pp prs H9 hpp0 bt9 tT9 hpp pr=>?_⟩
 have k9:=pj bt9 tT8.at
 have st9:SLs H9 pst qs:=SLs.keep st8 k9
 have cl9:CL 9 1000 H9 pc ps:=⟨k9 _ _ (fun _ z=>by cases z) cl8.1,fun x hx=>⟨k9 _ _ (fun _ z=>by cases z) (cl8.2 x hx).1,(cl8.2 x hx).2⟩⟩
 have tU9:TabOk U ie ic H9:=fU tU8 bt9 tT8.at (Co hTU)
 have hprl:prs.length=qs.length:=by rw [pr.len,A2]
 refine ⟨_,rfl,pp,_,rfl,.inl (SqL.of hpp),_,rfl,pst,_,rfl,.inl (SqL.of st9.1),rfl,_,rfl,iteN ?_ ?_⟩
 ·rw [decide_eq_true (congrArg (fun n:Nat=>V.int (n:Int)) (by rw [A2,A2,hprl]))]
  rfl
 refine ⟨_,rfl,pp,rfl,⟨_,SqL.of hpp⟩,?_⟩
 refine cQ ((prs.map fun _=>true).map V.bl) (SqL.of hpp) (by rw [A2]; omega) (by rw [A2,A2,A2]) ?_ ?_
 ·intro i x y H' R hS' hx hy hR
  rw [A5] at hx
  rw [A5,A5] at hy
  cases hz:prs[i]? with
  | none=>rw [hz] at hx; cases hx
  | some z =>
   rw [hz] at hx hy
   cases hx
   cases hy
   refine ⟨_,rfl,((z:Nat):Int),rfl,_,rfl,iG ⟨_,rfl,_,_,rfl,rfl,?_⟩⟩
   have:=hR H' (Same.refl _)
   show R (.bl (decide ((0:Int)<=((z:Nat):Int)))) H'
   rw [show decide ((0:Int)<=((z:Nat):Int))=true from decide_eq_true 'b']
   exact this
 intro D10 H10 s10 hD100 hD10
 refine ⟨D10,_,rfl,SqL.of hD10,rfl,_,rfl,?_⟩
 rw [uY]
 refine dW ?_
 have st10:=st9.same s10
 have hpp10:=s10 _ _ hpp
 have cl10:=cl9.same s10
 refine ⟨_,rfl,_,rfl,_,rfl,pst,pp,qs,prs,cK ns 0 % 6,rfl,st10,hpp10,by omega,sp0,pr,fun H11 s11=>⟨_,rfl,dW ?_⟩⟩
 have S11:=s10.trans s11
 have tT11:=tT9.same S11
 have tU11:=tU9.same S11
 refine ⟨_,rfl,_,rfl,_,rfl,pst,pp,qs,prs,cK ns 0 % 6,rfl,st9.same S11,S11 _ _ hpp,by omega,sp0,pr,fun x hx=>sok _ (Bz.mpr ⟨x,hx,rfl⟩),tT11,tU11,fun H12 bt12=>⟨_,rfl,dW ?_⟩⟩
 have k12:=lK bt12 tT11.at tU11.at
 have st12:SLs H12 pst qs:=SLs.keep (st9.same S11) k12
 have cl11:=cl9.same S11
 have cl12:CL 9 1000 H12 pc ps:=⟨k12 _ _ (fun _ z=>by cases z) cl11.1,fun x hx=>⟨k12 _ _ (fun _ z=>by cases z) (cl11.2 x hx).1,(cl11.2 x hx).2⟩⟩
 have hS12:SqL K H12 a (ns.map V.int):=k6 k12 (S11.seq (k6 k9 (S8.seq hS)))
 refine ⟨_,rfl,_,rfl,_,rfl,a,ns,1,rfl,hS12,fun H13 s13=>⟨_,_,rfl,rfl,(by show (0:Int)<5; decide),?_⟩⟩
 exact ⟨pc,pst,_,ps,qs,rfl,cl12.same s13,cd2,hl,st12.same s13,ecs,Fz _ 'f',fun H14 _=>q _⟩
end
end K55
namespace L2
open PySem PySem.Spec PyProof.Rows
structure m8 (K:Ba) (C:Addr) (qual:Str) (st:Stmt):Prop where
 ex:∃fI fd,ki K C fI/\Fun K "__init__" qual st fI fd
 xc:u4 K C
 ek:zu K C
 ec:∃bm id,ExcC K C bm id
theorem initIn_mk {K:Ba}{C fI:Addr}{qual:Str}{st:Stmt}{oc:Value}{od an:Option Addr}{osl:Array (Option Value)}{kV doc pm cdv ct:Value}{cd:ClassData}
  {bm bs sub:List Value}{NN:Addr}{nm qn:Str}{hd ab:Bool}{sn:List Str}{col:Option Bool}{dd:Option Addr}{k0 k1 k2 k3 k5:Option Value}
  (hi:CJ K (.ref C) "__init__"=some (some (.ref fI))) (ht:PySem.W.typeIn K (.ref fI)=some (.type "function"))
  (l:K.lookup fI=some ⟨oc,od,.func (DG "__init__" qual (bY st) (bF st) (aj st) .none kV doc pm an cdv ct),osl⟩) (cc:E6 K cdv qual=true) (kk:DX K (.ref fI)=true)
  (lC:K.lookup C=some (DK nm qn C NN bs bm hd sn sub ab col dd k0 k1 k2 k3 k5 "ValueError.__new__")) (tl:PySem.W.tailIn K bmVE bm=true)
  (hcd:PySem.W.clsIn K C=some cd) (ho:cp cd.mro=true) (hdd:cd.hasDict=true) (sa:CJ K (.ref C) "__setattr__"=some (some (.builtin "object.__setattr__")))
  (hm:Ge K C (.type "BaseException")=some true) (hmo:Ge K C (.type "object")=some true) (hga:CJ K (.ref C) "__getattribute__"=some (some (.builtin "BaseException.__getattribute__"))) (hgn:CJ K (.ref C) "__getattr__"=some none)
  (hc:(PySem.W.clsIn K C).isSome=true) (ha:CJ K (.ref C) "__class__"=some (some (.builtin "object.__class__"))) (hn:PySem.W.specialIn K (.builtin "object.__class__") "__get__"=some (some (.builtin "getset_descriptor.__get__")))
  (htk:PySem.W.takesIn K (.builtin "object.__class__")=some true):m8 K C qual st :=
 ⟨⟨fI,_,⟨⟨nm,qn,NN,bs,bm,hd,sn,sub,ab,col,dd,k0,k1,k2,k3,k5,lC,tl⟩,hi,ht⟩,mQ l cc kk⟩,⟨⟨cd,hcd,ho,hdd⟩,sa⟩,⟨hm,hmo,hga,hgn,hc,ha,hn,htk⟩,⟨bm,_,.mk lC⟩⟩
end L2
namespace K55
open PySem L2 G
structure Cs where
 c7:Addr
structure CAll (K:Ba) (c:Cs):Prop where
 m7:BN K BA "TooShort"=some (some (.ref c.c7))
 e7:∃bm id,ExcC K c.c7 bm id/\bm.contains (.type "BaseException")=true
 i7:m8 K c.c7 "TooShort.__init__" bE
 x7_number:XNo K c.c7 "number"
theorem cs_mk {K:Ba}{c7:Addr}(m7:BN K BA "TooShort"=some (some (.ref c7)))
  {bmQ7 bsQ7 subQ7:List Value}{idQ7:String}{NQ7:Addr}{nmQ7 qnQ7:Str}{hdQ7 abQ7:Bool}{snQ7:List Str}{colQ7:Option Bool}{ddQ7:Option Addr}{aQ70 aQ71 aQ72 aQ73 aQ75:Option Value}
  (lQ7:K.lookup c7=some (DK nmQ7 qnQ7 c7 NQ7 bsQ7 bmQ7 hdQ7 snQ7 subQ7 abQ7 colQ7 ddQ7 aQ70 aQ71 aQ72 aQ73 aQ75 idQ7)) (hbQ7:bmQ7.contains (.type "BaseException")=true) (I7:m8 K c7 "TooShort.__init__" bE) (x7_number:CJ K (.ref c7) "number"=some none):∃c:Cs,CAll K c :=
 ⟨⟨c7⟩,m7,⟨bmQ7,idQ7,.mk lQ7,hbQ7⟩,I7,x7_number⟩
@[elab_as_elim] theorem us1 {α:Type}{p:List α->Prop}(us:List α) (h:us.length=1) (g:∀a0,p [a0]):p us:=by
 rcases us with _ | ⟨_,_ | ⟨_,_⟩⟩
 all_goals first | exact g _ | (exfalso; simp at h)
@[elab_as_elim] theorem us2 {α:Type}{p:List α->Prop}(us:List α) (h:us.length=2) (g:∀a0 a1,p [a0,a1]):p us:=by
 rcases us with _ | ⟨_,_ | ⟨_,_ | ⟨_,_⟩⟩⟩
 all_goals first | exact g _ _ | (exfalso; simp at h)
@[elab_as_elim] theorem us3 {α:Type}{p:List α->Prop}(us:List α) (h:us.length=3) (g:∀a0 a1 a2,p [a0,a1,a2]):p us:=by
 rcases us with _ | ⟨_,_ | ⟨_,_ | ⟨_,_ | ⟨_,_⟩⟩⟩⟩
 all_goals first | exact g _ _ _ | (exfalso; simp at h)
@[elab_as_elim] theorem us4 {α:Type}{p:List α->Prop}(us:List α) (h:us.length=4) (g:∀a0 a1 a2 a3,p [a0,a1,a2,a3]):p us:=by
 rcases us with _ | ⟨_,_ | ⟨_,_ | ⟨_,_ | ⟨_,_ | ⟨_,_⟩⟩⟩⟩⟩
 all_goals first | exact g _ _ _ _ | (exfalso; simp at h)
@[elab_as_elim] theorem us5 {α:Type}{p:List α->Prop}(us:List α) (h:us.length=5) (g:∀a0 a1 a2 a3 a4,p [a0,a1,a2,a3,a4]):p us:=by
 rcases us with _ | ⟨_,_ | ⟨_,_ | ⟨_,_ | ⟨_,_ | ⟨_,_ | ⟨_,_⟩⟩⟩⟩⟩⟩
 all_goals first | exact g _ _ _ _ _ | (exfalso; simp at h)
structure DsIn (K:Ba) (c T c2 U:Addr):Prop where
 fin:aP K "frames_in" dG
 way:aP K "way_of" gZ
 nos:aP K "numbers_of" c5
 len:aP K "length" g6
 can:aP K "can_have" eX
 take:aP K "take_frame" cW
 strips:aP K "strips_of" dD
 near:aP K "refuse_near" cE
 bg:aP K "begins_of" dH
 putl:aP K "put_leader" cY
 laid:aP K "laid" me
 rolls:aP K "rolls" jI
 cell:aP K "_law_cell" dM
 num:aP K "_law_numbers" cf
 fr:aP K "frames_of" dF
 shows:aP K "roll_shows" cX
 faded:aP K "faded" jL
 sc:aP K "show_clip" dE
 shown:aP K "shown" jH
 least:aP K "least" jK
 gr:aP K "greatest" eW
 free:aP K "first_free" c6
 put:aP K "put_end" f_
 pr:wR K "prints_for" cZ c T
 wn:aP K "wants" jG
 nds:aP K "needs" jJ
 rn:aP K "reason" g0
 rs:wR K "reasons" f9 c2 U
 cuts:aP K "cuts" mh
 whole:aP K "_law_whole" c8
 clips:aP K "_law_clips" de
 lf:aP K "_law_frames" cF
 of:aP K "_law_of_strips" bN
 film:aP K "_law_film" dL
 fades:aP K "_law_fades" dc
 once:aP K "_law_cut_once" bS
 ll:aP K "_law_least" c_
 gaps:aP K "_law_gaps" dJ
 laidl:aP K "_law_laid" dI
 law:aP K "law" sy
structure NsIn (K:Ba) (t:Nat->Tok):Prop where
 zlen:BN K BA "len"=some none
 zint:BN K BA "int"=some none
 zrng:BN K BA "range"=some none
 zabs:BN K BA "abs"=some none
 zmin:BN K BA "min"=some none
 zmax:BN K BA "max"=some none
 zsum:BN K BA "sum"=some none
 zlist:BN K BA "list"=some none
 zisi:BN K BA "isinstance"=some none
 zenum:BN K BA "enumerate"=some none
 zall:BN K BA "all"=some none
 zsort:BN K BA "sorted"=some none
 zzip:BN K BA "zip"=some none
 zset:BN K BA "set"=some none
 ztup:BN K BA "tuple"=some none
 zbool:BN K BA "bool"=some none
theorem ns_mk {K:Ba}
  (b0:BN K BA "len"=some none) (b1:BN K BA "int"=some none) (b2:BN K BA "range"=some none) (b3:BN K BA "abs"=some none) (b4:BN K BA "min"=some none) (b5:BN K BA "max"=some none) (b6:BN K BA "sum"=some none) (b7:BN K BA "list"=some none) (b8:BN K BA "isinstance"=some none) (b9:BN K BA "enumerate"=some none) (b10:BN K BA "all"=some none) (b11:BN K BA "sorted"=some none) (b12:BN K BA "zip"=some none) (b13:BN K BA "set"=some none) (b14:BN K BA "tuple"=some none) (b15:BN K BA "bool"=some none):∃t,NsIn K t:=by
 exact ⟨fun i=>[].getD i 0,b0,b1,b2,b3,b4,b5,b6,b7,b8,b9,b10,b11,b12,b13,b14,b15⟩
theorem all_mk {l:PySem.W.OpenLaw}{w:BG}{K:Ba}{h:Heap}{mg:Str->Option Value}{fa:Addr}(X:K.In h) (G:h.Ns BA mg) (hfa:mg "law"=some (.ref fa)) {t:Nat->Tok}{c T c2 U:Addr}(hTU:T≠U) (D:DsIn K c T c2 U) (Z:NsIn K t) (CC:∃c:Cs,CAll K c) :
  ∃fd:BX,(∀(s:A9) (v:Value),BindsTo s fd ⟨[v],[]⟩ [("_law_script",v)])/\∀base:Heap,K.In base->base.Ns BA mg->base.BuiltinsAt mg T->base.BuiltinsAt mg U->aS l.prog w K mg base CX0 8 fa fd ["_law_script"] (spLaw T U K):=by
 obtain ⟨c,m7',⟨bm7,id7,c7,hB7⟩,I7,x7_number⟩:=CC
 have M7:=PySem.W.mg_of X G m7'
 have nlen:=Cb X G Z.zlen
 have nint:=Cb X G Z.zint
 have nrng:=Cb X G Z.zrng
 have nabs:=Cb X G Z.zabs
 have nmin:=Cb X G Z.zmin
 have nmax:=Cb X G Z.zmax
 have nsum:=Cb X G Z.zsum
 have nlist:=Cb X G Z.zlist
 have nisi:=Cb X G Z.zisi
 have nenum:=Cb X G Z.zenum
 have nall:=Cb X G Z.zall
 have nsort:=Cb X G Z.zsort
 have nzip:=Cb X G Z.zzip
 have nset:=Cb X G Z.zset
 have ntup:=Cb X G Z.ztup
 have nbool:=Cb X G Z.zbool
 obtain ⟨fl,fdl,al,FL⟩:=D.law
 have e:=hfa.symm.trans (PySem.W.mg_of X G al)
 cases e
 refine ⟨fdl,fun s v=>?_,fun base kb _ hB hB2=>?_⟩
 ·obtain ⟨oc,od,kV,doc,pm,an,cdv,ct,osl,rfl,lk,hcd⟩:=FL.ex
  exact .of_eq rfl
 have C:=Fq kb D.pr.1
 have C2:=Fq kb D.rs.1
 obtain ⟨f7,fd7,R7,F7⟩:=I7.ex
 have b7:=F7.binds (ps:=["self", "number"]) 'v'
 have dFin:='t' D.fin (fun _ _ F=>yP F nabs) 'u'
 have dWay:='t' D.way (fun _ _ F=>yI F) 'u'
 have dNos:='t' D.nos (fun _ _ F=>yL F dWay nlist nrng) 'u'
 have dLen:='t' D.len (fun _ _ F=>yN F dFin nsum) 'u'
 have dCan:='t' D.can (fun _ _ F=>yQ F dWay nabs) 'w'
 have dTake:='t' D.take (fun _ _ F=>vO F dCan) 'w'
 have dStrips:='t' D.strips (fun _ _ F=>qi F dNos dTake) 'u'
 have dNear:='t' D.near (fun _ _ F=>vR F dFin M7 R7 (vT F7 I7.xc x7_number) b7 nrng nlen) 'v'
 have dBg:='t' D.bg (fun _ _ F=>Am F dFin) 'u'
 have dPutL:='t' D.putl (fun _ _ F=>vP F) 'v'
 have dLaid:='t' D.laid (fun _ _ F=>vS F dFin dLen dPutL nrng nlen) 'w'
 have dRolls:='t' D.rolls (fun _ _ F=>tL F dNear dBg dLaid) 'v'
 have dCell:='t' D.cell (fun _ _ F=>vY F) 'v'
 have dNum:='t' D.num (fun _ _ F=>yK F nabs nrng nint) 'v'
 have dFr:='t' D.fr (fun _ _ F=>Al F dNos) 'u'
 have dShows:='t' D.shows (fun _ _ F=>tJ F dFr) 'v'
 have dFaded:='t' D.faded (fun _ _ F=>tQ F) fun _ _ _ _ _ _ us hl=>us5 us hl fun _ _ _ _ _=>rfl
 have dSC:='t' D.sc (fun _ _ F=>Ae F dNos dFaded nlen nenum) 'v'
 have dShown:='t' D.shown (fun _ _ F=>tK F dSC) 'u'
 have dLeast:='t' D.least (fun _ _ F=>tN F nmin) 'u'
 have dGr:='t' D.gr (fun _ _ F=>Ak F nmax) 'u'
 have dFree:='t' D.free (fun _ _ F=>vV F nenum nlen) 'v'
 have dPut:='t' D.put (fun _ _ F=>yJ F nlen) 'w'
 have dPr:Def l.prog w K mg base CX0 "prints_for" 5 ["strips", "spoil"] (rQ T):=Def.ofT X G D.pr (fun f fd F hc=>Ah F hc C hB dLeast dGr dFree dPut nlen nsort nrng) 'v'
 have dWn:='t' D.wn (fun _ _ F=>Ad F dLeast dGr) 'w'
 have dNeeds:='t' D.nds (fun _ _ F=>tM F dPr nzip nmax nsort) 'v'
 have dRn:='t' D.rn (fun _ _ F=>Ag F dLeast dWn nenum) 'w'
 have dRs:Def l.prog w K mg base CX0 "reasons" 6 ["strips", "spoil"] (xV T U):=Def.ofT X G D.rs (fun f fd F hc=>Af hTU F hc C2 hB2 dPr dRn nlen nsort nrng) 'v'
 have dCuts:='t' D.cuts (fun _ _ F=>vX F dLeast dGr nenum nsort) fun _ _ _ _ _ _ us hl=>us4 us hl fun _ _ _ _=>rfl
 have dWhole:='t' D.whole (fun _ _ F=>yM F nisi nint nbool) 'u'
 have dClips:='t' D.clips (fun _ _ F=>tR F dNum nmax nmin nabs) 'v'
 have dLF:='t' D.lf (fun _ _ F=>qj F nrng nabs) 'u'
 have dOf:='t' D.of (fun _ _ F=>Ai F dFr) 'u'
 have dFilm:='t' D.film (fun _ _ F=>vW F dLF) 'u'
 have dFades:='t' D.fades (fun _ _ F=>tP F nabs) 'u'
 have dOnce:='t' D.once (fun _ _ F=>vQ F dCuts nlist nsort nset nrng nlen nmax nmin) 'w'
 have dLL:='t' D.ll (fun _ _ F=>Aj hTU F dRs dNeeds nsort nset nrng nlen) 'w'
 have dGaps:='t' D.gaps (fun _ _ F=>vU F nabs nrng nlen) 'u'
 have dLaidL:='t' D.laidl (fun _ _ F=>tO F dGaps dRolls dShows dShown M7 c7 hB7 I7.ek I7.xc x7_number nrng nlen nlist nisi ntup nsort) 'w'
 exact yO hTU FL dClips dCell dStrips dOf dFilm dFades dPr dWhole dOnce dLL dLaidL nlist nlen nall
end K55
open PySem PySem.W PyProof.Rows
local macro_rules | `(tactic| walk_at "own def")=>`(tactic| (dsimp only [L2.KOf]; (first | (refine' L2.funIn_mk ?a ?l ?c ?k; (case a=>k_is); (case l=>k_is); (case c=>k_is); (case k=>k_is)) | (refine' L2.funT_of ?a ?l ?c ?k ?e ?h; (case a=>k_is); (case l=>k_is); (case c=>k_is); (case k=>k_is); (case e=>exact rfl); (case h=>kernel_rfl)))))
set_option maxRecDepth 100000 in
set_option maxHeartbeats 0 in
theorem PySem.Challenge.cw_leadersplice_k55_whole_film_from_prints_holds : PySem.Challenge.rw_leadersplice_k55_whole_film_from_prints.Holds := by
 refine Hd.all.2 (show Hd.all.1 from ?_)
 delta Hd.all
 dsimp only
 k_fill
 refine L2.walk_ofT2 (c:=148) (T:=144) (c2:=174) (T2:=172) (l:=PySem.Challenge.rw_leadersplice_k55_whole_film_from_prints) (n:=63) (k:=8) (x:="_law_script") (CX:=L2.CX0) (sp:=K55.spLaw 144 172) rfl 'f' rfl ⟨rfl,by decide,by decide⟩ 'f' (fun w h Y=>⟨PySem.W.km_in_of Y,PySem.W.km_tabs_of Y 144 'e',PySem.W.km_tabs_of Y 172 'e'⟩) ?P ?C ?P2 ?C2 ?F (fun K H a ns hl hS hT hU=>⟨a,ns,rfl,hS,hl,hT,hU,fun _=>rfl⟩) (fun _ _ _ _ z=>z)
 case P=>exact fun w=>by kernel_rfl
 case C=>exact fun w=>by kernel_rfl
 case P2=>exact fun w=>by kernel_rfl
 case C2=>exact fun w=>by kernel_rfl
 case F =>
  intro w mg fa h KX G hmg
  have D:K55.DsIn (L2.KOf KX) 148 144 174 172:=by
   refine ⟨?_,?_,?_,?_,?_,?_,?_,?_,?_,?_,?_,?_,?_,?_,?_,?_,?_,?_,?_,?_,?_,?_,?_,?_,?_,?_,?_,?_,?_,?_,?_,?_,?_,?_,?_,?_,?_,?_,?_,?_⟩ <;> walk_at "own def"
  have Z:∃t,K55.NsIn (L2.KOf KX) t:=by
   dsimp only [L2.KOf]
   refine' K55.ns_mk ?b0 ?b1 ?b2 ?b3 ?b4 ?b5 ?b6 ?b7 ?b8 ?b9 ?b10 ?b11 ?b12 ?b13 ?b14 ?b15
   (case b0=>k_is); (case b1=>k_is); (case b2=>k_is); (case b3=>k_is); (case b4=>k_is); (case b5=>k_is); (case b6=>k_is); (case b7=>k_is); (case b8=>k_is); (case b9=>k_is); (case b10=>k_is); (case b11=>k_is); (case b12=>k_is); (case b13=>k_is); (case b14=>k_is); (case b15=>k_is)
  have CC:∃c:K55.Cs,K55.CAll (L2.KOf KX) c:=by
   dsimp only [L2.KOf]
   refine' K55.cs_mk ?xm7 ?xlQ7 ?xhbQ7 ?xI7 ?xx7_number
   (case xm7=>k_is); (case xlQ7=>k_is); (case xhbQ7=>kernel_rfl); (case xx7_number=>k_is)
   case xI7 =>
    refine' L2.initIn_mk ?yhi ?yht ?yl ?ycc ?ykk ?ylC ?ytl ?yhcd ?yho ?yhdd ?ysa ?yhm ?yhmo ?yhga ?yhgn ?yhc ?yha ?yhn ?yhtk
    (case yhi=>k_is); (case yht=>k_is); (case yl=>k_is); (case ycc=>k_is); (case ykk=>k_is); (case ylC=>k_is); (case ytl=>kernel_rfl); (case yhcd=>k_is); (case yho=>kernel_rfl); (case yhdd=>kernel_rfl); (case ysa=>k_is); (case yhm=>k_is); (case yhmo=>k_is); (case yhga=>k_is); (case yhgn=>k_is); (case yhc=>kernel_rfl); (case yha=>k_is); (case yhn=>k_is); (case yhtk=>k_is)
  obtain ⟨t,Z⟩:=Z
  exact K55.all_mk KX G hmg 'f' D Z CC
