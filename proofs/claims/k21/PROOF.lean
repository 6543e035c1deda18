import PyProof.Rows.All
import Wide.All
import OpenK.AllK
import Wide.FinOn
import Lean
import PyProof.EqAt
import PyProof.EqKinds
import PyProof.TupleCall
import PyProof.StrLawsChain
import PyProof.StrLawsFirst
import PyProof.Rows.StrNews2
import OpenK.AllK
import PyProof.DictItems
import OpenK.AllK
import PySem.Challenge.RW_primer_k21_prices
set_option Elab.async false
set_option linter.all false
set_option maxRecDepth 100000
set_option maxHeartbeats 4000000
set_option genInjectivity false
set_option genSizeOf false
set_option autoImplicit true
set_option relaxedAutoImplicit true
open Option renaming some->Od,none->OB,map_eq_some_iff->OM,bind_eq_some_iff->Pk,isSome_map->R7,map_eq_none_iff->Sn,map_some->Sv,getD_none->Tt,isNone_iff_eq_none->Uj,isSome_iff_exists->Up
open PySem renaming wpAny_bind->Oz,wpAny_pure->OF,sizeLine->OG,Value->OH,wpAny->OK,Shared->OR,Addr->OS,model->OU,starEach->O4,wpAny_newObj_type->Pe,Expr->Pw,Program->PC,wpAny_holding->PJ,wpAny_call_entry->PK,rawInt->PM,wpAny_mono->PR,mainGlobals->PU,codeAny_builtin->P1,World->P4,wpAny_setState_of->P9,sysModules->P_,isSubtype_type->P',cLine->Qd,bootBuiltins->Qh,Heap->Qk,wpAny_truthy_bool->Ql,wpAny_callSpecial?_slot->Qm,compareOp->Qv,wpAny_Call_Name_kw->Qw,eval->Qx,backTo->QC,foldedSetIterable->QD,wpAny_setField->QN,wpAny_isInstance->QO,scanBound->QP,Around->QW,wpAny_specialOf->QY,wpAny_passesOwn->QZ,Scope->Q0,builtinLookup_eq_fast->Q3,wpAny_rule->Ra,NameKind->Rb,wpAny_typeOf->Rg,Builtin->Ri,call->Rm,plainId_quiet->Ro,binaryOp->Rp,wpAny_pyIter_tuple->Rr,call_meets->Rt,assignEach->Ru,wpAny_getItem_str_slice->Rx,wpAny_field->Ry,isSubtype->Rz,wpAny_seqItems->RF,tupleKeyHash->RG,holding->RH,Stmt->RI,codeAny->RU,attributeBase->RV,Keyword->RX,sliceBounds->RY,wpAny_updateSeq->R5,typeLookup_type->R6,swapsWith->Se,typeIs_str->Sj,tupleKind_room_in1->Sk,SetTable->Sl,FuncData->Sm,keywordEach->Sw,swapsWithSole->Sx,assign->Sy,wpAny_forIn_list->SE,relabel->SN,pyNext->SO,codeAny_mono->SQ,callerA->SR,builtinsNs->SS,wpAny_loadPart'->SY,post_val_or_str->S3,letOwnedTupleGo->S4,call_isinstance->S5,isSubtype_tuple_tuple->S6,wpAny_runValue->Tf,wpAny_of_eq->Tg,firstArgMember->Th,atKey->Ti,IsPart->Tn,notedBy->Tr,getItem->Ts,wpAny_tupleItemsOf->TQ,wpAny_pyIter_list->T3,wpAny_pyIter_enum->T4,valueAt->T5,setNext->T6,setField->T7,concat_meets->T9,compEnvC->T_,collect->Ua,backToKw->Ub,wpAny_askSetting->Ur,tupleKind->Us,seqItems?->Ut,seqIndex?->Uu,pickOrder->Uv,noFill_tuple_add->Uw,PassesOwn->Ux,unsupported->UA,wpAny_execs_nil->UD,codeAny_of_tree->UE,standAt->UL,ItemsOf->UP,wpAny_load->UU,typeLookup->UW,relayAll->UX,raiseNew->UY,pyIter->UZ,WalksS->U0,IsTupleKey->U2,wpAny_standAt->Va,wpAny_newList->Vb,wpAny_comprehension_free->Vc,swappedStores->Vd,seq_tuple_add->Ve,behindInMarks->Vf,wpAny_Call_method0_late->Vj,strValues->Vk,eqIsQuiet->Vl,bindL->Vm,bindC->Vn,wpAny_Call_method_late->Vs,typeOf->Vt,setNextDrawn->Vu,setItem->Vv,newList->Vw,newExc->Vx,Params->Vz,IsEnum->VA,BindsTo->VC,step->VP,seqIndex_of->VQ,codeAny_extend_loopS->VR,bindArgs->VS,again->VT,GenState->VU,wpAny_setEntries_of->V8,wpAny_setItem_heap->We,wpAny_Name->Wf,truthy->Wg,isInstance->Wh,JoinOk->Wj,wpAny_storeSet_of->Wt,wpAny_sequenceKey->Wu,wpAny_pyIter_slot->Wv,wpAny_assign_Name->Ww,spliced->Wx,slot_list_getitem->Wy,fits_of_scanBound->Wz,eqIsQuiet_byValue->WA,Moved->WH,wpAny_eqBool_str->WM,wpAny_eqBool_int->WN,wpAny_Dict_empty->WO,updateSeq->WQ,checkBuiltinCall->WR,cellsFrom->WS,rule->W_,recursionLimit->W',numbered_texts->Xa,newTuple->Xb,isSubtype_stop->Xc,field->Xd,entryFor_alias->Xe,entryFor->Xf,callType_codes->Xg,argsOk->Xh
open Bool renaming true->OA,and_eq_true->OD,false->OE,false_ne_true->O',false_eq_true->Pc,not_eq_true'->P6,or_eq_true->Qj,not_true->Qn,and_eq_true_iff->Qz,or_false->Rf,eq_iff_iff->Rj,and_false->R4,eq_false_iff->Sd,false_and->SM,and_true->Ta,not_false->Wd,or_true->WL
open PySem.Heap renaming get?_push_of_some->OC,get?_push_size->OO,lt_size->OP,get?_update_self->PH,SameBut->Qc,get?_update_other->QK,get?_update_ne->Q_,size_push->Uk,size_update->VI,ExtBut->WU
open Decidable renaming decide->OI
open List renaming length_map->OJ,size_toArray->OL,map_cons->OQ,getElem?_eq_some_iff->OT,mem_cons->OV,getElem?_map->OX,replicate->OZ,mem_singleton->O1,range->O2,getElem?_set_self->O3,getElem?_set_ne->O5,all_eq_true->O6,getElem?_eq_getElem->O7,length_append->O8,length_cons->Pb,getElem?_append_right->Pf,lookup_cons->Pl,mem_append_right->Po,map_map->Pp,nil_append->Pu,mem_cons_of_mem->Py,getElem?_append_left->Pz,mem_cons_self->PB,length_take->PQ,nodup_cons->PX,mem_map->PY,map_append->PZ,length_range->P5,append_nil->P8,mem_of_getElem?->Qf,getElem?_replicate->Qi,getElem_mem->Qp,mem_range->Qs,getElem?_drop->Qt,length_singleton->Qu,map_congr_left->QE,filterMap_cons->QF,take_of_length_le->QL,map_nil->QM,mem_append->QU,find?_cons->QV,isEmpty_iff->Q6,sum_cons->Rc,zip_cons_cons->Rk,getD->Rn,nodup_append->Rq,length_replicate->RC,getElem?_eq_none->RE,length_reverse->RQ,getElem_of_mem->RS,pairwise_cons->R0,getD_eq_getElem?_getD->R3,pairwise_iff_getElem->R_,reverse_cons->Sb,not_mem_nil->So,getElem?_cons_succ->Sr,filter_cons->Ss,length_nil->SA,length->SJ,any_cons->S_,map_singleton->Te,eraseIdx_eq_take_drop_succ->TF,eraseIdxIfInBounds_toArray->TH,length_drop->TL,ext_getElem->TN,map_id->TU,of_mem_zip->TX,foldl_cons->TY,drop_left'->TZ,dropLast_concat_getLast->T1,nodup_nil->Uq,drop_eq_getElem_cons->Uz,getElem?_take_of_lt->UB,length_eq_zero_iff->UI,eraseIdx_cons_succ->UJ,toArray->UR,length_eq_one_iff->US,all_map->UT,dropLast_eq_take->U5,not_lt->U8,mem_erase_of_ne->U9,mem_append_left->U_,getElem?_zipIdx->U',mem_filterMap->Vp,take_sublist->VG,ext_getElem?->VH,le_antisymm->VL,getElem_inj->VM,drop_length->VN,any_eq_true->VO,mem_filter->V4,length_zip->V5,length_set->V6,filter_nil->V7,perm_nil->Wn,map_take->Wo,map_drop->Wq,findIdx?->Wr,all_cons->Ws,range'->W0
open Nat renaming le_refl->ON,ne_of_lt->OW,lt_of_lt_of_le->OY,zero_le->O_,lt_irrefl->PD,le_trans->Qe,le_succ->Qo,ne_of_gt->QA,lt_succ_self->QH,lt_succ_of_lt->Rv,le_of_lt->Rw,zero_add->TC,add_sub_cancel_left->UQ,lt_trans->U3,le_of_eq->U4,not_lt_of_lt->V3,mod_lt->Xr
open PySem.Value renaming ref->O0,none->Pa,type->Pj,str->PL,isStrOf->QR,bool->RZ,int->Tv,isInt->WD
open Array renaming length_toList->O9,getElem?_toList->PF,toArray_toList->RM,getD->Tb,forIn_toList->Tc,size_append->Tq,getD_eq_getD_getElem?->T2,toList->UK,toList_push->Vr
open PySem.Obj renaming mapSeq->Pd,data_mapFields->QQ,putSet->Sz,isFreed_of_fields->SF,cls_mapFields->Tw,mapFields->WE
open PySem.Builtin.List renaming listExtendWith->Ph,listTooLong->Qr,listSameRef->QX,listLengthHint->S9,listItems->TJ,listUpdate->W5
open PySem.Str renaming empty->Pn,ofString->Q9,length->Xj
open Sum renaming inr->Pq,inl->Tu
open PyProof.Rows renaming slot_tuple_getitem->Pt,seqObj->PV,size_push'->Qy,callWith_type1->QG,StrsAre->RL,callWith_builtin1->SH,envOfC->SV,AllBare->SW,listUpdate_at->TK,subscriptTail->Vi,subscriptTail_builtinR->VD,listItems_at->VE,IntsAre->VF,seqEpoch_at->V1,IsTup->V2,entry_tuple_getitem->V_,sortedHeap->Wl,args_tuple_getitem->Wm,wpAny_notIn_heap->WY,slot_str_getitem->WZ,get?_update_seq->W6,entry_list_sort->W7,call_isinstance_yes->W8,tail_any->Xl,sortedHeap_old->Xm,slot_list_sort->Xn,slicePart_none->Xo,isTrue_and_nil->Xp,args_list_sort->Xq
open Option.some renaming inj->Px,injEq->RO
open Int renaming eq_ofNat_of_zero_le->PN,emod_nonneg->RT,emod_lt_of_pos->R8,toNat_natCast->Si,le_trans->SD,le_refl->SX,natCast_pow->Wc
open PySem.Around renaming under_plainId->P0
open PySem.Builtin.Tuple renaming tupleHashOf->P2,tupleExact->P7,tupleItemsOf->RB
open Ne renaming symm->Qa
open PySem.Heap.SameBut renaming update->Qb,refl->Uy
open PySem.Builtin.SmallTypes renaming nextOf->Qg
open PySem.W renaming kas_sort->Qq,kas_descPart->Rh,kas_place->RA,kas_count->RP,kas_asc->RW,kas_rev->Sa,kas_tail3->Sf,kas_desc->Tj,kas_ask->WB,KasT->Xi
open PySem.SetTable renaming below->QB,grown->RN,sizeAbove->UN,orStandIn->UO,layClean->U1,relaid->Vg,laid->Vy
open PySem.NameKind renaming free->QI
open PySem.Calls renaming callWith_builtin->QJ,evalArgs_plain->RJ,spliced_cons->S7,spliced_nil->To,Name_function_global->Ue,call_function_entry->Ul
open PySem.Builtin.Slice renaming slicePlaces->QS,sliceAdjust->RK,sliceApplied->S8,slicePartIndex->WV,sliceFields->WW
open PyProof.Rows.F renaming plain_set_update_loop->QT,entry_set_update_loop->Sg
open PySem.Builtin.Str renaming partsBetween->Q1,occurrences->Q4,strKind->Um
open False renaming elim->Q2
open PySem.AutoSeq1 renaming wpAny_loadPart'->Q5,sub_tuple_tuple->TV,sub_tuple_list->Ug,sub_list_tuple->Uh,sub_list_list->Uo,idx_int->U7
open LT renaming lt->Q7
open ForInStep renaming yield->Q8
open PySem.Shared renaming TypeIs->R9
open List.cons renaming injEq->Sh
open PySem.SeqAt renaming EqAt->Su,ne_of_list_tuple->UG,RcAt->Vh,RcNeAt->Wi
open PySem.Data renaming fields->SG,cell->UH
open PySem.Txt renaming join->SU,split->UM
open True renaming intro->Td
open PySem.F renaming args_str_split_2->Tz,entry_str_split->TR,slot_str_split->Ud,args_list_extend_2->VB,entry_list_extend->VJ,slot_list_extend->VV,entry_list_pop->Wk,slot_list_pop->WJ
open PyProof.Rows.IsTup renaming new->TB
open PySem.pickOrder renaming go->T8
open PySem.SetTable.below renaming go->Uc
open Prod.mk renaming injEq->Ui
open Sum.inr renaming inj->UC
open PySem.PassesOwn renaming never->U6
open PySem.Code renaming quiet_builtin->Vo
open LawfulBEq renaming eq_of_beq->Vq
open PySem.Builtin.Frozenset renaming updateFrom->VW,slot0->VX,sizeOf->VY,newClass->VZ,addrOf->V0
open PySem.ItemsOf renaming nil->V9
open PyProof.Rows.LSm renaming range_all->V',kept_iter->Wa
open Prod renaming ext->Wb
open PySem.W.WShape renaming has->WC
open PySem.Moved renaming trans->WG
open PySem.Heap.IsSliceOf renaming new->WI
open LE renaming le->WK
open PySem.Walks renaming list->WT
open PySem.Builtin.Range renaming rangeSize->WX
open List.Pairwise renaming nil->W2
open PySem.W.WData renaming int->W3
open PySem.Heap.DictOfH renaming new->W4
open ToString renaming toString->W9
open PySem.Heap.DictOf renaming new->Xk
abbrev Xs:=@if_pos
abbrev Xt:=@decide_eq_true_eq
abbrev Xu:=@if_neg
abbrev Xv:=@decide_eq_false
abbrev Xw:=@decide_eq_true
abbrev Xx:=@if_false
local macro_rules|`(⋯)=>`(by omega)
namespace L2
open PySem PySem.Spec PyProof.Rows
abbrev Key:=Sum Int Str
def gv:Key->OH->Bool
 |.inl k,v=>WD k v
 |.inr x,v=>QR x v
def Bl(w:P4):Key->Int
 |.inl k=>hashInt k
 |.inr x=>hashStr w x
theorem aN:∀{k:Key}{v:OH},gv k v=OA->(∃i t,k=Tu i/\v=Tv i t)\/(∃x t,k=Pq x/\v=PL x t)
 |.inl i,v,h=>by
  obtain⟨t,e⟩:=Value.isInt_shape (k:=i) (v:=v) h;exact .inl ⟨i,t,rfl,e⟩
 |.inr x,v,h=>by
  obtain⟨t,e⟩:=Value.isStrOf_shape (x:=x) (v:=v) h;exact .inr ⟨x,t,rfl,e⟩
theorem qh(i:Int)(t:Tok):gv (.inl i) (.int i t)=OA:=by simp[gv,WD]
theorem qi(x:Str)(t:Tok):gv (.inr x) (.str x t)=OA:=by simp[gv,QR]
theorem xP(a b:Int):OI ((Tu a:Key)=Tu b)=(a==b):=by
 by_cases e:a=b
 ·subst e;simp
 ·have h:¬(Tu a:Key)=Tu b:=λq=>e (Sum.inl.inj q);rw[Xv h];exact(beq_eq_false_iff_ne.mpr e).symm
theorem xQ(a b:Str):OI ((Pq a:Key)=Pq b)=OI (a=b):=by
 by_cases e:a=b
 ·subst e;simp
 ·have h:¬(Pq a:Key)=Pq b:=λq=>e (UC q);rw[Xv h,Xv e]
theorem xR(a:Int)(b:Str):OI ((Tu a:Key)=Pq b)=OE:=Xv (λq=>nomatch q)
theorem xS(a:Str)(b:Int):OI ((Pq a:Key)=Tu b)=OE:=Xv (λq=>nomatch q)
def aJ(prog:PC)(w:P4):PySem.KeyKind prog w Key where
 is:=gv
 hash:=Bl w
 inj:=λv a b ha hb=>by
  rcases aN ha with⟨i,t,rfl,rfl⟩|⟨x,t,rfl,rfl⟩
  ·rcases aN hb with⟨j,u,rfl,e⟩|⟨y,u,rfl,e⟩
   ·injection e with e1 _;rw[e1]
   ·exact nomatch e
  ·rcases aN hb with⟨j,u,rfl,e⟩|⟨y,u,rfl,e⟩
   ·exact nomatch e
   ·injection e with e1 _;rw[e1]
 byValue:=λk v h=>by
  rcases aN h with⟨i,t,rfl,rfl⟩|⟨x,t,rfl,rfl⟩<;>rfl
 pyHash:=λhv h=>by
  rcases aN hv with⟨i,t,rfl,rfl⟩|⟨x,t,rfl,rfl⟩
  ·exact wpAny_pyHash_int h
  ·exact wpAny_pyHash_str h
 eqBool:=λhu hv h=>by
  rcases aN hu with⟨i,t,rfl,rfl⟩|⟨x,t,rfl,rfl⟩
  ·rcases aN hv with⟨j,u,rfl,rfl⟩|⟨y,u,rfl,rfl⟩
   ·rw[xP]at h;exact WN h
   ·rw[xR]at h;exact SeqAt.EqAt.int_str i t y u _ _ _ _ h
  ·rcases aN hv with⟨j,u,rfl,rfl⟩|⟨y,u,rfl,rfl⟩
   ·rw[xS]at h;exact SeqAt.EqAt.str_int x t j u _ _ _ _ h
   ·rw[xQ]at h;exact WM h
 «strs»:=λk x t v h=>by
  rcases aN h with⟨i,u,rfl,e⟩|⟨y,u,rfl,e⟩
  ·exact nomatch e
  ·injection e with e1 _
   subst e1;cases v<;>rfl
theorem lr(prog:PC)(w:P4)(i:Int)(t:Tok):(aJ prog w).is (.inl i) (.int i t)=OA:=qh i t
theorem lu(prog:PC)(w:P4)(x:Str)(t:Tok):(aJ prog w).is (.inr x) (.str x t)=OA:=qi x t
inductive V where
 |BZ|bl (b:Bool)|int (i:Int)|str (x:Str)|Iu (b:Array UInt8)|Iv (b:UInt64)|ref (a:OS)|ty (n:String)
 deriving DecidableEq
def RelV:V->OH->Prop
 |.BZ,u=>u=Pa
 |.bl b,u=>u=RZ b
 |.int i,u=>∃t,u=Tv i t
 |.str x,u=>∃t,u=PL x t
 |.Iu b,u=>∃t,u=Value.bytes b t
 |.Iv b,u=>∃t,u=Value.float b t
 |.ref a,u=>u=O0 a
 |.ty n,u=>u=Pj n
abbrev Vals:List V->List OH->Prop:=Paired RelV
theorem Vals.length(r:Vals xs us):xs.length=us.length:=Paired.length r
theorem Vals.get:∀{xs:List V}{us:List OH}{i:Nat}{x:V},Vals xs us->xs[i]?=Od x->∃u,us[i]?=Od u/\RelV x u
 |_,_,_,_,.nil,e=>by simp at e
 |_,_,0,_,.cons r _,e=>by simp at e;subst e;exact⟨_,rfl,r⟩
 |_,_,i+1,x,.cons _ t,e=>by
  obtain⟨u,h1,h2⟩:=Vals.get (i:=i) (x:=x) t (by simpa using e);exact⟨u,by simpa using h1,h2⟩
theorem Vals.set(r:RelV x u):∀{xs:List V}{us:List OH} (i:Nat),Vals xs us->Vals (xs.set i x) (us.set i u)
 |_,_,_,.nil=>.nil
 |_,_,0,.cons _ t=>.cons r t
 |_,_,i+1,.cons q t=>.cons q (Vals.set r i t)
theorem Vals.append:∀{xs ys:List V}{us ws:List OH},Vals xs us->Vals ys ws->Vals (xs++ys) (us++ws)
 |_,_,_,_,.nil,s=>s
 |_,_,_,_,.cons r t,s=>.cons r (Vals.append t s)
theorem Vals.take:∀{xs:List V}{us:List OH} (n:Nat),Vals xs us->Vals (xs.take n) (us.take n)
 |_,_,0,_=>.nil
 |_,_,_+1,.nil=>.nil
 |_,_,n+1,.cons r t=>.cons r (Vals.take n t)
theorem Vals.drop:∀{xs:List V}{us:List OH} (n:Nat),Vals xs us->Vals (xs.drop n) (us.drop n)
 |_,_,0,r=>r
 |_,_,_+1,.nil=>.nil
 |_,_,n+1,.cons _ t=>Vals.drop n t
def jb:Option V->Option OH->Prop
 |some v,Od u=>RelV v u
 |none,OB=>True
 |_,_=>False
def KV{κ:Type}:List (κ×V)->List (κ×OH)->Prop:=Paired λ(p:κ×V) (q:κ×OH)=>p.1=q.1/\RelV p.2 q.2
def kV:Key->V
 |.inl i=>.int i
 |.inr x=>.str x
inductive HO where
 |lst (xs:List V)
 |tup (xs:List V)
 |dK (kvs:List (Key×V))|dT (kvs:List (List Key×V))
 |set (S:Int->Bool) (n:Nat)
 |ins (C dx:OS) (fs:List (Str×V))
 |own (x:OS)
 |xd (fs:List (Str×V))
 |met (f x:OS)
 |Jt (lo hi:Int)
 |CY (o:Obj) (u:HO)
 |FW (ps:Array OH)
 |ext (φ:Qk->Prop)
abbrev Hp:=OS->Option HO
def upd(H:Hp)(a:OS)(o:HO):Hp:=λb=>if b=a then Od o else H b
theorem av:upd H a o a=Od o:=by unfold upd;rw[Xs rfl]
theorem ao(h:b≠a):upd H a o b=H b:=by unfold upd;rw[Xu h]
theorem rm{H:Hp}(h:H a=Od o)(h':H b=Od u)(d:o≠u):a≠b:=by
 intro e;subst e;rw[h]at h';exact d (Px h')
theorem bc{H:Hp}(h:H a=Od o)(h':H b=OB):a≠b:=by
 intro e;subst e;rw[h]at h';cases h'
section
variable(P:PC)(w:P4)
def aY(H:Hp)(h:Qk)(a:OS):HO->Prop
 |.lst xs=>xs.length<=OG/\∃(A':List OH) (n:Nat),Vals xs A'/\h.get? a=Od {cls:=.type "list",data:=.seq A'.toArray n}
 |.tup xs=>xs.length<=OG/\∃A':List OH,Vals xs A'/\V2 h a A'.toArray
 |.dK kvs=>kvs.length<=OG/\(a==P_)=OE/\∃vs,KV kvs vs/\h.DictOf (aJ P w) a vs
 |.dT kvs=>kvs.length<=OG/\(a==P_)=OE/\∃xs:List (List Key×OS×OH),
   Paired (λ(p:List Key×V) (q:List Key×OS×OH)=>p.1=q.1/\H q.2.1=Od (.tup (p.1.map kV))/\RelV p.2 q.2.2) kvs xs /\
   ∃o es ep,h.get? a=Od o/\o.ExactDict/\o.data=.dict es ep/\es.toList=xs.map (entryOfKey (Us (aJ P w)))/\(xs.map (·.1)).Nodup
 |.set S n=>h.SetOf (intKind P w) a S n
 |.ins C dx fs=>H dx=Od (.own a)/\fs.length<=1000/\dx≠a/\h.get? a=Od (PySem.W.instObj C dx) /\
   ∃mA,h.Ns1 dx mA/\(∀f,jb (fs.lookup f) (mA f))/\PySem.Within mA (fs.map (·.1))
 |.own _=>∃o,h.get? a=Od o
 |.xd fs=>∃mA,h.Ns1 a mA/\∀f,jb (fs.lookup f) (mA f)
 |.Jt lo hi=>∃t u v,h.get? a=Od {cls:=.type "range",data:=.fields #[.int lo t,.int hi u,.int 1 v]}
 |.CY o u=>h.get? a=Od o/\aY H h a u
 |.FW ps=>h.get? a=Od {cls:=.none,data:=.fields ps}
 |.met f x=>h.get? a=Od (PySem.W.methodObj (.ref f) (.ref x))
 |.ext φ=>φ h/\(∃o,h.get? a=Od o)/\∀h1 h2:Qk,φ h1->(∀o,h1.get? a=Od o->h2.get? a=Od o)->φ h2
def CL(H:Hp)(h:Qk):Prop:=∀a o,H a=Od o->aY P w H h a o
end
section
theorem aY.lt(x:aY P w H h a o):a<h.objs.size:=by
 cases o with
 |lst xs=>obtain⟨_,_,_,_,e⟩:=x;exact OP e
 |tup xs=>obtain⟨_,_,_,p⟩:=x;exact p.lt
 |set S n=>obtain⟨o,_,_,_,e,_⟩:=x;exact OP e
 |ins C dx fs=>obtain⟨_,_,_,e,_⟩:=x;exact OP e
 |own y=>obtain⟨_,e⟩:=x;exact OP e
 |xd fs=>obtain⟨_,⟨_,_,_,e,_⟩,_⟩:=x;exact OP e
 |Jt lo hi=>obtain⟨_,_,_,e⟩:=x;exact OP e
 |CY ob u=>obtain⟨e,_⟩:=x;exact OP e
 |FW ps=>exact OP (show h.get? a=Od _ from x)
 |met f y=>exact OP (show h.get? a=Od _ from x)
 |ext φ=>obtain⟨_,⟨_,e⟩,_⟩:=x;exact OP e
 |_=>obtain⟨_,_,_,_,o,_,_,e,_⟩:=x;exact OP e
theorem Paired.xT:∀{l₁:List α}{l₂:List β},Paired F l₁ l₂->(∀a b,F a b->G a b)->Paired G l₁ l₂
 |_,_,.nil,_=>.nil
 |_,_,.cons r t,f=>.cons (f _ _ r) (Paired.xT t f)
theorem aY.j3(x:aY P w H h a o)(k:∀b u,(b=a\/H b=Od (.own a))->h.get? b=Od u->h'.get? b=Od u)
  (ho:∀b,H b=Od (.own a)->H' b=Od (.own a)) (ht:∀b xs,H b=Od (.tup xs)->H' b=Od (.tup xs)):aY P w H' h' a o:=by
 induction o with
 |lst xs=>obtain⟨z,A',n,r,e⟩:=x;exact⟨z,A',n,r,k _ _ (.inl rfl) e⟩
 |tup xs=>obtain⟨z,A',r,ob,e,c⟩:=x;exact⟨z,A',r,ob,k _ _ (.inl rfl) e,c⟩
 |dK kvs=>obtain⟨z,y,vs,r,ob,es,ep,e,c⟩:=x;exact⟨z,y,vs,r,ob,es,ep,k _ _ (.inl rfl) e,c⟩
 |dT kvs =>
  obtain⟨z,y,xs,r,ob,es,ep,e,c⟩:=x;exact⟨z,y,xs,Paired.xT r λp q z=>⟨z.1,ht _ _ z.2.1,z.2.2⟩,ob,es,ep,k _ _ (.inl rfl) e,c⟩
 |set S n=>obtain⟨ob,es,ep,t,e,c⟩:=x;exact⟨ob,es,ep,t,k _ _ (.inl rfl) e,c⟩
 |ins C dx fs =>
  obtain⟨d,z,ne,e,mA,⟨od,es,ep,e2,c⟩,r⟩:=x;exact⟨ho _ d,z,ne,k _ _ (.inl rfl) e,mA,⟨od,es,ep,k _ _ (.inr d) e2,c⟩,r⟩
 |own y=>obtain⟨ob,e⟩:=x;exact⟨ob,k _ _ (.inl rfl) e⟩
 |xd fs=>obtain⟨mA,⟨od,es,ep,e,c⟩,r⟩:=x;exact⟨mA,⟨od,es,ep,k _ _ (.inl rfl) e,c⟩,r⟩
 |Jt lo hi=>obtain⟨t,u,v,e⟩:=x;exact⟨t,u,v,k _ _ (.inl rfl) e⟩
 |CY ob u ih=>obtain⟨e,q⟩:=x;exact⟨k _ _ (.inl rfl) e,ih q⟩
 |FW ps =>
  have e:h.get? a=Od {cls:=.none,data:=.fields ps}:=x;show h'.get? a=Od {cls:=.none,data:=.fields ps};exact k a _ (.inl rfl) e
 |met f y =>
  have e:h.get? a=Od (PySem.W.methodObj (.ref f) (.ref y)):=x;show h'.get? a=Od (PySem.W.methodObj (.ref f) (.ref y));exact k a _ (.inl rfl) e
 |ext φ=>obtain⟨p,⟨o,e⟩,st⟩:=x;exact⟨st _ _ p λo q=>k _ _ (.inl rfl) q,⟨o,k _ _ (.inl rfl) e⟩,st⟩
theorem CL.lt(x:CL P w H h)(e:H a=Od o):a<h.objs.size:=(x a o e).lt
theorem CL.fresh(x:CL P w H h)(e:h.objs.size<=a):H a=OB:=by
 cases q:H a with
 |none=>rfl
 |some u=>exact absurd (OY (x.lt q) e) (PD _)
theorem CL.kept(x:CL P w H h)(k:∀b u,h.get? b=Od u->h'.get? b=Od u):CL P w H h':=λa o e =>
 (x a o e).j3 (λb u _ q=>k b u q) (λ_ q=>q) λ_ _ q=>q
theorem CL.laid(x:CL P w H h)(k:∀b u,h.get? b=Od u->h'.get? b=Od u)(hp:h.objs.size<=a)(new:aY P w (upd H a o) h' a o):CL P w (upd H a o) h':=λb u e=>by
 have hn:=x.fresh hp;by_cases hb:b=a
 ·subst hb;rw[av]at e;cases e;exact new
 ·rw[ao hb]at e;exact(x b u e).j3 (λc v _ q=>k c v q) (λc q=>by rw[ao (bc q hn)];exact q) λc xs q=>by rw[ao (bc q hn)];exact q
end
def Rd(H:Hp)(a:OS)(u:HO):Prop:=H a=Od u\/∃o,H a=Od (.CY o u)
theorem Rd.ok(r:Rd H a u)(x:CL P w H h):aY P w H h a u:=by
 rcases r with r|⟨o,r⟩
 ·exact x a u r
 ·obtain⟨_,q⟩:=x a _ r;exact q
def G9:Option HO->Prop
 |some (.lst _)=>True
 |some (.dK _)=>True
 |some (.dT _)=>True
 |some (.set _ _)=>True
 |some (.ins _ _ _)=>True
 |some (.ext _)=>True
 |_=>False
section
theorem CL.write(ok:CL P w H h)(mu:G9 (H x))(he:e=x\/H e=Od (.own x))(k:∀b u,b≠e->h.get? b=Od u->h'.get? b=Od u)(GK:∃u,h'.get? e=Od u)
  (new:aY P w (upd H x o') h' x o'):CL P w (upd H x o') h':=λb u q=>by
 have G_:∀c y,H c=Od (.own y)->c≠x:=λc y r z=>by subst z;rw[r]at mu;exact mu
 have Ju:∀c xs,H c=Od (.tup xs)->c≠x:=λc xs r z=>by subst z;rw[r]at mu;exact mu
 by_cases hb:b=x
 ·subst hb;rw[av]at q;cases q;exact new
 ·rw[ao hb]at q;by_cases FX:b=e
  ·have q':H b=Od (.own x):=by
    rcases he with z|z
    ·exact absurd (FX.trans z) hb
    ·rw[FX];exact z
   rw[q]at q';cases q';obtain⟨v,hv⟩:=GK;exact⟨v,by rw[FX];exact hv⟩
  ·refine(ok b u q).j3 (λc v hc r=>k c v ?_ r) (λc r=>by rw[ao (G_ c b r)];exact r) λc xs r=>by rw[ao (Ju c xs r)];exact r
   rcases hc with rfl|hc
   ·exact FX
   ·rintro rfl;rcases he with z|z
    ·exact G_ c b hc z
    ·rw[hc]at z;cases z;exact hb rfl
end
structure Un(fs ex:List OS)(H H':Hp)(h h':Qk):Prop where
 keep:∀b o,h.get? b=Od o->H b=OB->b∉fs->b∉ex->h'.get? b=Od o
 slot:∀b o,h.get? b=Od o->H b=OB->b∈fs->b∉ex->∃sl,h'.get? b=Od {o with slots:=sl}
 free:∀b o,h.get? b=Od o->H b=OB->b∉ex->H' b=OB
 there:∀b o,h.get? b=Od o->b∉ex->∃o',h'.get? b=Od o'
 gM:∀b xs,H b=Od (.tup xs)->H' b=Od (.tup xs)
 Df:∀b o u,H b=Od (.CY o u)->H' b=Od (.CY o u)
 Dl:∀b ps,H b=Od (.FW ps)->∃more,H' b=Od (.FW (ps++more))
section
theorem Un.any(u:Un fs ex H H1 h h1)(q:h.get? b=Od ob)(n:H b=OB)(hx:b∉ex):∃sl,h1.get? b=Od {ob with slots:=sl}:=by
 by_cases hb:b∈fs
 ·exact u.slot b ob q n hb hx
 ·exact⟨ob.slots,u.keep b ob q n hb hx⟩
theorem Un.kept(k:∀b u,h.get? b=Od u->h'.get? b=Od u):Un fs ex H H h h' :=
 ⟨λb ob q _ _ _=>k b ob q,λb ob q _ _ _=>⟨ob.slots,k b ob q⟩,λ_ _ _ n _=>n,λb ob q _=>⟨ob,k b ob q⟩,λ_ _ q=>q,λ_ _ _ q=>q,λ_ ps q=>⟨#[],by rw[q];simp⟩⟩
theorem Un.refl:Un fs ex H H h h:=Un.kept λ_ _ q=>q
theorem Un.laid(k:∀b u,h.get? b=Od u->h'.get? b=Od u)(hp:h.objs.size<=a)(hn:H a=OB):Un fs ex H (upd H a o) h h' where
 keep:=λb u q _ _ _=>k b u q
 slot:=λb u q _ _ _=>⟨u.slots,k b u q⟩
 free:=λb u q n _=>by rw[ao (OW (OY (OP q) hp))];exact n
 there:=λb u q _=>⟨u,k b u q⟩
 gM:=λb xs q=>by rw[ao (bc q hn)];exact q
 Df:=λb u xs q=>by rw[ao (bc q hn)];exact q
 Dl:=λb ps q=>⟨#[],by rw[ao (bc q hn),q];simp⟩
theorem Un.write(mu:G9 (H x))(he:e=x\/H e=Od (.own x))(k:∀b u,b≠e->h.get? b=Od u->h'.get? b=Od u)(GK:∃u,h'.get? e=Od u):Un fs ex H (upd H x o) h h':=by
 have hx:∀b,H b=OB->b≠x:=λb n z=>by subst z;rw[n]at mu;exact mu
 have hb:∀b,H b=OB->b≠e:=λb n z=>by
  subst z;rcases he with r|r
  ·exact hx b n r
  ·rw[n]at r;cases r
 have hm:∀b u,H b=Od u->¬G9 (Od u)->b≠x:=λb u q nm z=>by subst z;rw[q]at mu;exact nm mu
 refine⟨λb u q n _ _=>k b u (hb b n) q,λb u q n _ _=>⟨u.slots,k b u (hb b n) q⟩,λb u q n _=>by rw[ao (hx b n)];exact n,λb u q _=>?_,
  λb xs q=>by rw[ao (hm b _ q λz=>z)];exact q,λb u xs q=>by rw[ao (hm b _ q λz=>z)];exact q,λb ps q=>⟨#[],by rw[ao (hm b _ q λz=>z),q];simp⟩⟩
 by_cases FX:b=e
 ·subst FX;exact GK
 ·exact⟨u,k b u FX q⟩
end
def Iw(h:Qk)(H:Hp):List OS:=(O2 h.objs.size).filter λa=>(H a).isSome
def j4(h:Qk)(H:Hp):Qk:=PySem.W.hideAll h (Iw h H)
theorem qj(h:Qk)(H:Hp):(j4 h H).objs.size=h.objs.size:=PySem.W.hideAll_size _ _
theorem rn(e:h.get? b=Od o)(n:H b=OB):(j4 h H).get? b=Od o :=
 PySem.W.hideAll_get _ e λhm=>by
  have q:(H b).isSome=OA:=(V4.mp hm).2;rw[n]at q;simp at q
theorem uX(e:(j4 h H).get? b=Od o):h.get? b=Od o/\H b=OB:=by
 have e':h.get? b=Od o:=PySem.W.of_hideAll (Iw h H) e;refine⟨e',?_⟩;cases q:H b with
 |none=>rfl
 |some x =>
  have hm:b∈Iw h H:=V4.mpr ⟨Qs.mpr (OP e'),by simp[q]⟩;have z:(j4 h H).get? b=OB:=PySem.W.hideAll_none (Iw h H) hm;rw[z]at e;cases e
structure Mod(K:PySem.W.Frag)(mg:Str->Option OH)(base:Qk):Prop where
 Iy:K.In base
 glob:base.Ns PU mg
 blt:∃mb,base.Ns SS mb/\∀x:Str,x≠"__name__"->mb x=Qh x
 nolimit:base.NoLimit
structure Cx where
 prog:PC
 w:P4
 K:PySem.W.Frag
 mg:Str->Option OH
 base:Qk
 A:QW
 N:List Str
 s₀:OR
 H₀:Hp
 env:Env
 outer:List Env
 stack:List Env
 ex:List OS
 fn:Str->Bool
 calm:Bool
 pn:List (OS×Obj)
 xe:OH->OR->Prop
def DZ(l:List Env):List OS:=l.filterMap (·.frame)
abbrev Cx.fs(X:Cx):List OS:=DZ X.outer
def EU(sc:Q0)(x:Str):Prop:=sc.names.lookup x=Od .local\/sc.names.lookup x=Od .cell\/sc.names.lookup x=Od .free
def Loc(sc:Q0)(x:Str):Prop:=sc.names.lookup x=Od .local\/sc.names.lookup x=Od .cell
def Look(env:Env)(h:Qk)(m:Str->Option OH)(x:Str)(u:OH):Prop :=
 (env.kindOf x=Od .local/\m x=Od u)\/((env.kindOf x=Od .cell\/env.kindOf x=Od .free)/\∃c,env.cells.lookup x=Od c/\h.IsCell c (Od u))
structure Cx.Ok(X:Cx):Prop where
 mod:Mod X.K X.mg X.base
 kind:X.env.scope.kind=.function
 glob:X.env.globals=PU
 blt:X.env.builtins=SS
 above:X.s₀.heap.objs.size<=X.env.locals
 inj:∀x y c,X.env.cells.lookup x=Od c->X.env.cells.lookup y=Od c->x=y
 has:∀x,(X.env.kindOf x=Od .cell\/X.env.kindOf x=Od .free)->∃c,X.env.cells.lookup x=Od c
 G':∀x c,X.fn x=OA->X.env.cells.lookup x=Od c->X.s₀.heap.objs.size<=c
 hd:X.calm=OA->X.A.handled=OB
 frames:X.A.frames=Od X.stack
 Iz:X.stack=X.outer\/(X.stack=X.env::X.outer/\X.env.frame=Od X.env.locals)
 KR:∀b∈X.ex,b≠X.env.locals/\∀x c,X.env.cells.lookup x=Od c->c≠b
 bs:∀b o,X.base.get? b=Od o->X.s₀.heap.get? b=Od o/\X.H₀ b=OB
 Fw:X.base.objs.size<=X.s₀.heap.objs.size
 Es:∀b o,X.base.get? b=Od o->b∉X.ex
 E6:∀b∈X.ex,b∉X.fs
 gW:X.s₀.heap.FunFrames X.base X.outer
 GL:∀b∈X.fs,X.H₀ b=OB
structure Inv(X:Cx)(pins:List (OS×Obj))(σ:List (Option V))(H:Hp)(s:OR):Prop where
 ok:X.Ok
 os:s.os=X.s₀.os
 bare:SW s.gens
 base:Un X.fs X.ex X.H₀ H X.s₀.heap s.heap
 loc:∃m,s.heap.Ns X.env.locals m/\∀(i:Nat) (x:Str) (v:V),X.N[i]?=Od x->σ[i]?=Od (Od v)->EU X.env.scope x->∃u,RelV v u/\Look X.env s.heap m x u
 cell:∀x c,X.env.cells.lookup x=Od c->∃v,s.heap.IsCell c v
 free:H X.env.locals=OB
 Cz:∀x c,X.env.cells.lookup x=Od c->H c=OB
 pin:∀p∈X.pn++pins,s.heap.get? p.1=Od p.2/\H p.1=OB/\p.1≠X.env.locals/\p.1∉X.fs/\∀v,p.2.data≠.cell v
 B0:CL X.prog X.w H s.heap
 len:σ.length=X.N.length
section
variable{X:Cx}{pins:List (OS×Obj)}{σ:List (Option V)}{H H':Hp}{s:OR}{h':Qk}
theorem Cx.Ok.Bm(ok:X.Ok)(e:X.base.get? b=Od o):b∉X.fs:=λhb=>by
 have:=(ok.gW.mem hb).1;rw[e]at this;cases this
theorem Inv.bs(I:Inv X pins σ H s):∀b o,X.base.get? b=Od o->s.heap.get? b=Od o/\H b=OB:=λb o e =>
 ⟨I.base.keep b o (I.ok.bs b o e).1 (I.ok.bs b o e).2 (I.ok.Bm e) (I.ok.Es b o e),I.base.free b o (I.ok.bs b o e).1 (I.ok.bs b o e).2 (I.ok.Es b o e)⟩
theorem Inv.bk(I:Inv X pins σ H s):∀b o,X.base.get? b=Od o->s.heap.get? b=Od o:=λb o e=>(I.bs b o e).1
theorem Inv.mod(I:Inv X pins σ H s):Mod X.K X.mg X.base:=I.ok.mod
theorem Inv.FY(I:Inv X pins σ H s):X.K.In s.heap:=I.ok.mod.Iy.keeps I.bk
theorem Inv.lt(I:Inv X pins σ H s):X.env.locals<s.heap.objs.size:=let ⟨_,hn,_⟩:=I.loc;hn.lt
theorem Inv.sz(I:Inv X pins σ H s):X.s₀.heap.objs.size<=s.heap.objs.size:=Qe I.ok.above (Rw I.lt)
theorem Inv.zI(I:Inv X pins σ H s)(h:s.heap.objs.size<=a):a∉X.fs:=λhb=>by
 obtain⟨_,o,ho,_⟩:=I.ok.gW.mem hb;exact absurd (OY (OP ho) (Qe I.sz h)) (PD _)
theorem Inv.FZ(I:Inv X pins σ H s):∀x c,X.env.cells.lookup x=Od c->c≠X.env.locals:=λx c e z=>by
 obtain⟨v,o,ho,hd⟩:=I.cell x c e;obtain⟨m,⟨o',es,ep,CH,Dm,_⟩,_⟩:=I.loc;rw[z,CH]at ho;cases ho;rw[Dm]at hd;cases hd
theorem Inv.gW(I:Inv X pins σ H s):s.heap.FunFrames X.base X.outer:=by
 have all:∀(l:List Env),(∀b∈DZ l,b∈X.fs)->X.s₀.heap.FunFrames X.base l->s.heap.FunFrames X.base l:=by
  intro l;induction l with
  |nil=>intro _ _;trivial
  |cons env r ih =>
   intro hs hl;obtain⟨hk,⟨L,o,hf,hn,ho,hd⟩,hr⟩:=hl;have hL:L∈X.fs:=hs L (by unfold DZ;rw[QF,hf];exact PB);obtain⟨sl,e⟩:=I.base.slot L o ho (I.ok.GL L hL) hL λz=>I.ok.E6 L z hL;exact⟨hk,⟨L,_,hf,hn,e,hd⟩,ih (λb hb=>hs b (by unfold DZ;rw[QF,hf];exact Py _ hb)) hr⟩
 exact all X.outer (λ_ hb=>hb) I.ok.gW
theorem Inv.stack(I:Inv X pins σ H s):s.heap.FunFrames X.base X.stack:=by
 rcases I.ok.Iz with e|⟨e,hf⟩
 ·rw[e];exact I.gW
 ·rw[e];obtain⟨m,hn,_⟩:=I.loc;refine .cons (by rw[I.ok.kind];decide) hf hn ?_ I.gW;exact Heap.get?_none_of_le (Qe I.ok.Fw I.ok.above)
theorem Inv.gX(I:Inv X pins σ H s):∀b∈DZ X.stack,b∈X.env.locals::X.fs:=λb hb=>by
 rcases I.ok.Iz with e|⟨e,hf⟩
 ·rw[e]at hb;exact Py _ hb
 ·rw[e]at hb;unfold DZ at hb;rw[QF,hf]at hb;exact hb
theorem Inv.oF(I:Inv X pins σ H s):∀b∈DZ X.stack,H b=OB:=λb hb=>by
 rcases OV.mp (I.gX b hb) with e|hb
 ·rw[e];exact I.free
 ·obtain⟨_,o,ho,_⟩:=I.ok.gW.mem hb;exact I.base.free b o ho (I.ok.GL b hb) λz=>I.ok.E6 b z hb
theorem Inv.step{ch:List OS}(I:Inv X pins σ H s)
  (EV:∀b∈ch,(b∈X.ex\/X.s₀.heap.objs.size<=b)/\b≠X.env.locals/\(∀x c,X.env.cells.lookup x=Od c->c≠b)/\∀p∈X.pn++pins,p.1≠b)
  (keep:∀b o,b≠X.env.locals->b∉X.fs->b∉ch->s.heap.get? b=Od o->H b=OB->h'.get? b=Od o)
  (slot:∀b o,b≠X.env.locals->b∈X.fs->b∉ch->s.heap.get? b=Od o->H b=OB->∃sl,h'.get? b=Od {o with slots:=sl}) (free:∀b o,b∉ch->s.heap.get? b=Od o->H b=OB->H' b=OB)
  (there:∀b o,b∉ch->s.heap.get? b=Od o->∃o',h'.get? b=Od o')
  (gM:∀b xs,H b=Od (.tup xs)->H' b=Od (.tup xs)) (Df:∀b o u,H b=Od (.CY o u)->H' b=Od (.CY o u)) (Dl:∀b ps,H b=Od (.FW ps)->∃more,H' b=Od (.FW (ps++more)))
  (ns:∀m,s.heap.Ns X.env.locals m->h'.Ns X.env.locals m) (B0:CL X.prog X.w H' h') (hg:SW g') :
  Inv X pins σ H' {s with heap:=h',gens:=g',drawn:=d',toks:=t' }:=by
 have KS:∀b o,X.s₀.heap.get? b=Od o->b≠X.env.locals:=λb o e=>OW (OY (OP e) I.ok.above);have IA:∀b o,X.s₀.heap.get? b=Od o->b∉X.ex->b∉ch:=λb o e hx hb=>by
  rcases(EV b hb).1 with z|z
  ·exact hx z
  ·exact absurd (OY (OP e) z) (PD _)
 have cellK:∀x c,X.env.cells.lookup x=Od c->∀v,s.heap.IsCell c v->h'.IsCell c v:=λx c e v Du=>by
  obtain⟨o,ho,hd⟩:=Du;have Ha:c∉ch:=λz=>(EV c z).2.2.1 x c e rfl;by_cases hc:c∈X.fs
  ·obtain⟨sl,q⟩:=slot c o (I.FZ x c e) hc Ha ho (I.Cz x c e);exact⟨_,q,hd⟩
  ·exact⟨o,keep c o (I.FZ x c e) hc Ha ho (I.Cz x c e),hd⟩
 refine⟨I.ok,I.os,hg,⟨λb o e n hb hx=>?_,λb o e n hb hx=>?_,λb o e n hx=>?_,λb o e hx=>?_,λb xs e=>gM b xs (I.base.gM b xs e),λb o xs e=>Df b o xs (I.base.Df b o xs e),λb ps e=>?_⟩,?_,λx c e=>?_,?_,λx c e=>?_,λp hp=>?_,B0,I.len⟩
 ·exact keep b o (KS b o e) hb (IA b o e hx) (I.base.keep b o e n hb hx) (I.base.free b o e n hx)
 ·obtain⟨sl,e1⟩:=I.base.slot b o e n hb hx;obtain⟨LS,e2⟩:=slot b _ (KS b o e) hb (IA b o e hx) e1 (I.base.free b o e n hx);exact⟨LS,e2⟩
 ·obtain⟨o',e1⟩:=I.base.there b o e hx;exact free b o' (IA b o e hx) e1 (I.base.free b o e n hx)
 ·obtain⟨o',e1⟩:=I.base.there b o e hx;exact there b o' (IA b o e hx) e1
 ·obtain⟨m1,e1⟩:=I.base.Dl b ps e;obtain⟨m2,e2⟩:=Dl b _ e1;exact⟨m1++m2,by rw[e2,Array.append_assoc]⟩
 ·obtain⟨m,hn,hl⟩:=I.loc;refine⟨m,ns m hn,λi x v e1 e2 e3=>?_⟩;obtain⟨u,r,l⟩:=hl i x v e1 e2 e3;refine⟨u,r,?_⟩;rcases l with l|⟨k,c,e,z⟩
  ·exact .inl l
  ·exact .inr ⟨k,c,e,cellK x c e _ z⟩
 ·obtain⟨v,z⟩:=I.cell x c e;exact⟨v,cellK x c e v z⟩
 ·obtain⟨m,⟨o,_,_,ho,_⟩,_⟩:=I.loc;exact free _ o (λz=>(EV _ z).2.1 rfl) ho I.free
 ·obtain⟨v,o,ho,hd⟩:=I.cell x c e;exact free c o (λz=>(EV c z).2.2.1 x c e rfl) ho (I.Cz x c e)
 ·obtain⟨e,n,ne,nf,d⟩:=I.pin p hp;have Ha:p.1∉ch:=λz=>(EV p.1 z).2.2.2 p hp rfl;exact⟨keep p.1 p.2 ne nf Ha e n,free p.1 p.2 Ha e n,ne,nf,d⟩
theorem Inv.un(I:Inv X pins σ H s)(u:Un X.fs [] H H' s.heap h')(B0:CL X.prog X.w H' h'):Inv X pins σ H' {s with heap:=h',toks:=t' }:=by
 obtain⟨m,⟨o,es,ep,ho,r⟩,_⟩:=id I.loc;obtain⟨sl,hL⟩:=u.any ho I.free (by simp);exact I.step (g':=s.gens) (d':=s.drawn) (ch:=[]) (λ_ z=>nomatch z) (λb o _ hb _ e n=>u.keep b o e n hb (by simp)) (λb o _ hb _ e n=>u.slot b o e n hb (by simp)) (λb o _ e n=>u.free b o e n (by simp)) (λb o _ e=>u.there b o e (by simp)) u.gM u.Df u.Dl (λm' hm=>by
  obtain⟨o',BY,F0,CH,r'⟩:=hm;rw[ho]at CH;cases CH;exact⟨_,BY,F0,hL,r'⟩) B0 I.bare
theorem Inv.call(I:Inv X pins σ H s)(u:Un (DZ X.stack) ch H H' s.heap h')(B0:CL X.prog X.w H' h')(hg:SW g')
  (EV:∀b∈ch,(b∈X.ex\/X.s₀.heap.objs.size<=b)/\b≠X.env.locals/\(∀x c,X.env.cells.lookup x=Od c->c≠b)/\∀p∈X.pn++pins,p.1≠b) :
  Inv X pins σ H' {s with heap:=h',gens:=g',drawn:=d',toks:=t' }:=by
 obtain⟨m,⟨o,es,ep,ho,r⟩,_⟩:=id I.loc;obtain⟨sl,hL⟩:=u.any ho I.free λz=>(EV _ z).2.1 rfl;exact I.step (ch:=ch) EV (λb o hL hb hc e n=>u.keep b o e n (λz=>(OV.mp (I.gX b z)).elim hL hb) hc) (λb o _ _ hc e n=>u.any e n hc) (λb o hc e n=>u.free b o e n hc) (λb o hc e=>u.there b o e hc) u.gM u.Df u.Dl (λm' hm=>by
  obtain⟨o',BY,F0,CH,r'⟩:=hm;rw[ho]at CH;cases CH;exact⟨_,BY,F0,hL,r'⟩) B0 hg
theorem Inv.turned(I:Inv X pins σ H s)(k:∀b o,b≠it->s.heap.get? b=Od o->h'.get? b=Od o)(hn:H it=OB)(hL:it≠X.env.locals)
  (h1:it∈X.ex\/X.s₀.heap.objs.size<=it) (h2:∀x c,X.env.cells.lookup x=Od c->c≠it) (h3:∀p∈X.pn++pins,p.1≠it):Inv X pins σ H {s with heap:=h',toks:=t' }:=by
 have Hb:∀b u,H b=Od u->b≠it:=λb u e z=>by rw[z,hn]at e;cases e
 refine I.step (g':=s.gens) (d':=s.drawn) (ch:=[it]) (λb hb=>?_) (λb o _ _ hc e _=>k b o (λz=>hc (by simp[z])) e) (λb o _ _ hc e _=>⟨o.slots,k b o (λz=>hc (by simp[z])) e⟩) (λ_ _ _ _ n=>n)
  (λb o hc e=>⟨o,k b o (λz=>hc (by simp[z])) e⟩) (λ_ _ e=>e) (λ_ _ _ e=>e) (λb ps e=>⟨#[],by rw[e];simp⟩) (λm hm=>?_) (λb u e=>?_) I.bare
 ·have e:b=it:=by simpa using hb
  subst e;exact⟨h1,hL,h2,h3⟩
 ·obtain⟨o,es,ep,ho,r⟩:=hm;exact⟨o,es,ep,k _ o (Qa hL) ho,r⟩
 ·refine(I.B0 b u e).j3 (λc v hc q=>k c v ?_ q) (λ_ q=>q) λ_ _ q=>q;rcases hc with z|z
  ·rw[z];exact Hb b u e
  ·exact Hb c _ z
theorem Inv.tok(I:Inv X pins σ H s)(t:Nat):Inv X pins σ H {s with toks:=t}:=I.un (h':=s.heap) (t':=t) Un.refl I.B0
theorem Inv.kept(I:Inv X pins σ H s)(k:∀b u,s.heap.get? b=Od u->h'.get? b=Od u):Inv X pins σ H {s with heap:=h',toks:=t' }:=I.un (Un.kept k) (I.B0.kept k)
theorem Inv.laid(I:Inv X pins σ H s)(k:∀b u,s.heap.get? b=Od u->h'.get? b=Od u)(hp:s.heap.objs.size<=a)(new:aY X.prog X.w (upd H a o) h' a o):
  Inv X pins σ (upd H a o) {s with heap:=h',toks:=t' }:=I.un (Un.laid k hp (I.B0.fresh hp)) (I.B0.laid k hp new)
theorem Inv.write(I:Inv X pins σ H s)(mu:G9 (H x))(he:e=x\/H e=Od (.own x))(k:∀b u,b≠e->s.heap.get? b=Od u->h'.get? b=Od u)(GK:∃u,h'.get? e=Od u)
  (new:aY X.prog X.w (upd H x o) h' x o):Inv X pins σ (upd H x o) {s with heap:=h',toks:=t' }:=I.un (Un.write mu he k GK) (I.B0.write mu he k GK new)
theorem Inv.weak(I:Inv X pins σ H s)(hl:σ'.length=σ.length)(w:∀(i:Nat) v,σ'[i]?=Od (Od v)->σ[i]?=Od (Od v)):Inv X pins σ' H s :=
 ⟨I.ok,I.os,I.bare,I.base,let ⟨m,hn,Fx⟩:=I.loc;⟨m,hn,λi x v e1 e2 e3=>Fx i x v e1 (w i v e2) e3⟩,I.cell,I.free,I.Cz,I.pin,I.B0,hl.trans I.len⟩
theorem Inv.dZ(I:Inv X pins σ H s)(h:∀p∈Fy,s.heap.get? p.1=Od p.2/\H p.1=OB/\p.1≠X.env.locals/\p.1∉X.fs/\∀v,p.2.data≠.cell v):Inv X Fy σ H s :=
 ⟨I.ok,I.os,I.bare,I.base,I.loc,I.cell,I.free,I.Cz,λp hp=>(QU.mp hp).elim (λz=>I.pin p (U_ _ z)) (h p),I.B0,I.len⟩
theorem gY{N:List Str}(hN:N.Nodup){i j:Nat}(a:N[i]?=Od x)(b:N[j]?=Od x):i=j:=by
 obtain⟨h1,e1⟩:=OT.mp a;obtain⟨h2,e2⟩:=OT.mp b;exact(VM hN).mp (e1.trans e2.symm)
theorem jo(I:Inv X pins σ H s)(hN:X.N.Nodup)(hi:X.N[i]?=Od x)(hx:Loc X.env.scope x)(r:RelV v u)
  (h:∀s',Inv X pins (σ.set i (Od v)) H s'->(∃a,Qc a s.heap s'.heap/\(a=X.env.locals\/X.env.cells.lookup x=Od a))->Q () s') (hf:X.fn x=OA\/X.env.scope.names.lookup x=Od .local:=by first|exact .inl rfl|exact .inr rfl|assumption):OK M A (storeName X.env x u) Q E s:=by
 obtain⟨m,hn,hl⟩:=id I.loc;have Jv:(X.env.scope.kind==.class||(X.env.scope.kind==.module&&X.env.locals != X.env.globals))=OE:=by rw[I.ok.kind];rfl
 have KU:i < σ.length:=by rw[I.len];exact(OT.mp hi).1
 have FZ:=I.FZ;have tracked:∀{a:OS} {h':Qk},(∃o,s.heap.get? a=Od o/\H a=OB)->Qc a s.heap h'->CL X.prog X.w H h':=λ{a h'} ha hs b ob e=>by
  obtain⟨_,_,CF⟩:=ha;refine(I.B0 b ob e).j3 (λc w' hc q=>(hs.2 c ?_).trans q) (λ_ q=>q) λ_ _ q=>q;rintro rfl;rcases hc with rfl|hc
  ·rw[CF]at e;cases e
  ·rw[CF]at hc;cases hc
 rcases hx with hk|hk
 ·refine wpAny_storeName_local hk hn (λh' LU hs=>?_) Jv;obtain⟨oL,_,_,E7,_⟩:=id hn;refine h _ ⟨I.ok,I.os,I.bare,⟨λb o e n hb hx=>?_,λb o e n hb hx=>?_,I.base.free,λb o e hx=>?_,I.base.gM,I.base.Df,I.base.Dl⟩,⟨_,LU,λj y v' e1 e2 e3=>?_⟩,λy c e=>?_,I.free,I.Cz,λp hp=>?_,tracked ⟨oL,E7,I.free⟩ hs,by simpa using I.len⟩ ⟨_,hs,.inl rfl⟩
  ·exact(hs.2 b (OW (OY (OP e) I.ok.above))).trans (I.base.keep b o e n hb hx)
  ·obtain⟨sl,e1⟩:=I.base.slot b o e n hb hx;exact⟨sl,(hs.2 b (OW (OY (OP e) I.ok.above))).trans e1⟩
  ·obtain⟨o',e1⟩:=I.base.there b o e hx;exact⟨o',(hs.2 b (OW (OY (OP e) I.ok.above))).trans e1⟩
  ·by_cases hj:j=i
   ·subst hj;rw[hi]at e1;cases e1;rw[O3 KU]at e2;cases e2;exact⟨u,r,.inl ⟨hk,by simp⟩⟩
   ·rw[O5 (Qa hj)]at e2;obtain⟨u',r',q⟩:=hl j y v' e1 e2 e3;refine⟨u',r',?_⟩;rcases q with⟨k,e⟩|⟨k,c,e,z⟩
    ·refine .inl ⟨k,?_⟩;have:y≠x:=λe=>hj (gY hN e1 (e▸hi));simp[this,e]
    ·exact .inr ⟨k,c,e,z.sameBut hs (FZ y c e)⟩
  ·obtain⟨w',z⟩:=I.cell y c e;exact⟨w',z.sameBut hs (FZ y c e)⟩
  ·obtain⟨e,n,ne,nf,d⟩:=I.pin p hp;exact⟨(hs.2 p.1 ne).trans e,n,ne,nf,d⟩
 ·have DK:X.fn x=OA:=by
   rcases hf with z|z
   ·exact z
   ·rw[z]at hk;cases hk
  obtain⟨c,hc⟩:=I.ok.has x (.inl hk);obtain⟨w',z⟩:=I.cell x c hc;refine wpAny_storeName_cell I.ok.kind hk hc z (λh' GN hs=>?_);obtain⟨oc,KW,Jw⟩:=id z;refine h {s with heap:=h' } ⟨I.ok,I.os,I.bare,⟨λb o e n hb hx=>?_,λb o e n hb hx=>?_,I.base.free,λb o e hx=>?_,I.base.gM,I.base.Df,I.base.Dl⟩,⟨m,hn.sameBut hs (Qa (FZ x c hc)),λj y v' e1 e2 e3=>?_⟩,λy c' e=>?_,I.free,I.Cz,λp hp=>?_,tracked ⟨oc,KW,I.Cz x c hc⟩ hs,by simpa using I.len⟩ ⟨c,hs,.inr hc⟩
  ·exact(hs.2 b (OW (OY (OP e) (I.ok.G' x c DK hc)))).trans (I.base.keep b o e n hb hx)
  ·obtain⟨sl,e1⟩:=I.base.slot b o e n hb hx;exact⟨sl,(hs.2 b (OW (OY (OP e) (I.ok.G' x c DK hc)))).trans e1⟩
  ·obtain⟨o',e1⟩:=I.base.there b o e hx;exact⟨o',(hs.2 b (OW (OY (OP e) (I.ok.G' x c DK hc)))).trans e1⟩
  ·by_cases hj:j=i
   ·subst hj;rw[hi]at e1;cases e1;rw[O3 KU]at e2;cases e2;exact⟨u,r,.inr ⟨.inl hk,c,hc,GN⟩⟩
   ·rw[O5 (Qa hj)]at e2;obtain⟨u',r',q⟩:=hl j y v' e1 e2 e3;refine⟨u',r',?_⟩;rcases q with q|⟨k,c',e,z'⟩
    ·exact .inl q
    ·refine .inr ⟨k,c',e,z'.sameBut hs ?_⟩;rintro rfl;exact hj (gY hN e1 (I.ok.inj _ _ _ e hc▸hi))
  ·by_cases KY:c'=c
   ·subst KY;exact⟨_,GN⟩
   ·obtain⟨w2,z2⟩:=I.cell y c' e;exact⟨w2,z2.sameBut hs KY⟩
  ·obtain⟨e,n,ne,nf,d⟩:=I.pin p hp;refine⟨(hs.2 p.1 ?_).trans e,n,ne,nf,d⟩;intro q;rw[q,KW]at e;have q':oc=p.2:=Px e;exact d w' (by rw[<-q'];exact Jw)
theorem lx(I:Inv X pins σ H s)(hN:X.N.Nodup)(hi:X.N[i]?=Od x)(hx:Loc X.env.scope x)(r:RelV v u)
  (h:∀s',Inv X pins (σ.set i (Od v)) H s'->Q () s') (hf:X.fn x=OA\/X.env.scope.names.lookup x=Od .local:=by first|exact .inl rfl|exact .inr rfl|assumption):OK M A (storeName X.env x u) Q E s :=
 jo I hN hi hx r (λs' I' _=>h s' I') hf
theorem Inv.zJ(I:Inv X pins σ H s)(ho:s'.os=s.os)(u:Un (DZ X.stack) ch H H' s.heap s'.heap)(B0:CL X.prog X.w H' s'.heap)(hg:SW s'.gens)
  (EV:∀b∈ch,(b∈X.ex\/X.s₀.heap.objs.size<=b)/\b≠X.env.locals/\(∀x c,X.env.cells.lookup x=Od c->c≠b)/\∀p∈X.pn++pins,p.1≠b):Inv X pins σ H' s':=by
 obtain⟨h',g',d',t',o'⟩:=s';have e:o'=s.os:=ho;subst e;exact I.call (g':=g') (t':=t') (d':=d') u B0 hg EV
end
abbrev XK:=OH->Option OS->Hp->Prop
abbrev St:=List (Option V)
abbrev VK:=V->Hp->Prop
abbrev TE:=St->Hp->VK->Prop
abbrev TT:=St->Hp->(Bool->Hp->Prop)->Prop
abbrev TA:=St->Hp->(List V->Hp->Prop)->Prop
structure Ends where
 nx:St->Hp->Prop
 rt:VK
 bk:St->Hp->Prop:=λ_ _=>False
 ct:St->Hp->Prop:=λ_ _=>False
abbrev TS:=Ends->St->Hp->Prop
def EP(X:Cx)(pins:List (OS×Obj))(σ:St)(Q:VK)(u:OH)(s':OR):Prop:=∃v H',Inv X pins σ H' s'/\RelV v u/\Q v H'
def TP(X:Cx)(pins:List (OS×Obj))(σ:St)(Q:Bool->Hp->Prop)(b:Bool)(s':OR):Prop:=∃H',Inv X pins σ H' s'/\Q b H'
def AP(X:Cx)(pins:List (OS×Obj))(σ:St)(Q:List V->Hp->Prop)(us:List OH)(s':OR):Prop:=∃vs H',Inv X pins σ H' s'/\Vals vs us/\Q vs H'
def SP(X:Cx)(pins:List (OS×Obj))(D:Ends)(f:Flow)(s':OR):Prop :=
 match f with
 |.next=>∃σ' H',Inv X pins σ' H' s'/\D.nx σ' H'
 |.brk=>∃σ' H',Inv X pins σ' H' s'/\D.bk σ' H'
 |.cont=>∃σ' H',Inv X pins σ' H' s'/\D.ct σ' H'
 |.ret u=>∃v σ' H',Inv X pins σ' H' s'/\RelV v u/\D.rt v H'
def PE(X:Cx)(e:Pw)(t:TE):Prop :=
 ∀(pins:List (OS×Obj)) (s:OR) (σ:St) (H:Hp) (Q:VK),Inv X pins σ H s->t σ H Q->OK (OU X.prog X.w) X.A (Qx e X.env) (EP X pins σ Q) X.xe s
def PT(X:Cx)(e:Pw)(t:TT):Prop :=
 ∀(pins:List (OS×Obj)) (s:OR) (σ:St) (H:Hp) (Q:Bool->Hp->Prop),Inv X pins σ H s->t σ H Q->OK (OU X.prog X.w) X.A (isTrue e X.env (Qx e X.env)) (TP X pins σ Q) X.xe s
def PW(X:Cx)(e:Pw)(t:TT):Prop :=
 ∀(whole:Sem OH) (pins:List (OS×Obj)) (s:OR) (σ:St) (H:Hp) (Q:Bool->Hp->Prop),Inv X pins σ H s->t σ H Q->OK (OU X.prog X.w) X.A (isTrue e X.env whole) (TP X pins σ Q) X.xe s
theorem PW.pt(h:PW X e t):PT X e t:=h _
def PA(X:Cx)(es:List Pw)(t:TA):Prop :=
 ∀(pos:Pos) (pins:List (OS×Obj)) (s:OR) (σ:St) (H:Hp) (Q:List V->Hp->Prop),Inv X pins σ H s->t σ H Q->OK (OU X.prog X.w) X.A (Wx (QC pos (O4 es X.env))) (AP X pins σ Q) X.xe s
def PS(X:Cx)(st:RI)(t:TS):Prop :=
 ∀(pins:List (OS×Obj)) (s:OR) (σ:St) (H:Hp) (D:Ends),Inv X pins σ H s->t D σ H->OK (OU X.prog X.w) X.A (exec st X.env) (SP X pins D) X.xe s
def CP(X:Cx)(st:List RI)(t:TS):Prop :=
 ∀(pins:List (OS×Obj)) (s:OR) (σ:St) (H:Hp) (D:Ends),Inv X pins σ H s->t D σ H->OK (OU X.prog X.w) X.A (execs st X.env) (SP X pins D) X.xe s
theorem B6(h:OK M A t Q E s)(hQ:∀a s,Q a s->Q' a s):OK M A t Q' E s:=PR h hQ λ_ _ x=>x
section
def Bn(i:Nat):TE:=λσ H Q=>∃v,σ[i]?=Od (Od v)/\Q v H
def tC(v:V):TE:=λ_ H Q=>Q v H
theorem eS(hN:X.N[i]?=Od x)(hv:EU X.env.scope x)(hd:(x==("__debug__":Str))=OE:=by decide)(C_:(x==("__classdict__":Str))=OE:=by decide):PE X (.Name x pos) (Bn i):=by
 intro pins s σ H Q I h;obtain⟨v,e,h⟩:=h;obtain⟨m,hn,hl⟩:=I.loc;obtain⟨u,r,l⟩:=hl i x v hN e hv;have fin:EP X pins σ Q u s:=⟨v,H,I,r,h⟩
 rcases l with⟨hk,hm⟩|⟨hk,c,hc,Fz⟩
 ·exact Wf (wpAny_loadName_local I.ok.kind hk hn hm fin) hd
 ·rcases hk with hk|hk
  ·exact Wf (wpAny_loadName_cell I.ok.kind hk hc Fz fin) hd
  ·exact Wf (wpAny_loadName_free I.ok.kind hk hc Fz fin C_) hd
theorem rp:PE X (.Constant (.int i) j pos) (tC (.int i)):=λ_ _ _ H _ I h=>wpAny_Constant_int ⟨.int i,H,I.tok _,⟨_,rfl⟩,h⟩
theorem xl:PE X (.Constant (.bool b) j pos) (tC (.bl b)):=λ_ _ _ H _ I h=>Constant_bool ⟨.bl b,H,I,rfl,h⟩
theorem rq:PE X (.Constant .none j pos) (tC .BZ):=λ_ _ _ H _ I h=>Constant_none ⟨.BZ,H,I,rfl,h⟩
theorem rz:PE X (.Constant (.str x) j pos) (tC (.str x)):=λ_ _ _ H _ I h=>Calls.Constant_str ⟨.str x,H,I.tok _,⟨_,rfl⟩,h⟩
def Gl(X:Cx)(x:Str):Prop:=X.env.kindOf x=Od .globalImplicit
theorem oG(I:Inv X pins σ H s)(hg:Gl X x)(hm:X.mg x=Od u)(h:Q u s)
  (hd:(x==("__debug__":Str))=OE:=by decide):OK (OU X.prog X.w) X.A (Qx (.Name x pos) X.env) Q E s :=
 Ue I.ok.kind hg (Calls.loadGlobal_global (by rw[I.ok.glob];exact I.mod.glob.keeps I.bk) hm h) hd
theorem dv(I:Inv X pins σ H s)(hg:Gl X x)(hm:X.mg x=OB)(hv:Qh x=Od u)(h:Q u s)
  (hn:x≠"__name__":=by decide) (hd:(x==("__debug__":Str))=OE:=by decide):OK (OU X.prog X.w) X.A (Qx (.Name x pos) X.env) Q E s:=by
 obtain⟨mb,h1,h2⟩:=I.mod.blt;exact Ue I.ok.kind hg (Calls.loadGlobal_builtin (by rw[I.ok.glob];exact I.mod.glob.keeps I.bk) hm (by rw[I.ok.blt];exact h1.keeps I.bk) ((h2 x hn).trans hv) h) hd
theorem uY(hg:Gl X x)(hm:X.mg x=OB)(hv:Qh x=Od u)(r:RelV v u)(hn:x≠"__name__":=by decide)(hd:(x==("__debug__":Str))=OE:=by decide):PE X (.Name x pos) (tC v) :=
 λ_ _ _ H _ I h=>dv I hg hm hv ⟨v,H,I,r,h⟩ hn hd
def Bo(t u:TT):TT:=λσ H Q=>t σ H λc H1=>if c=OA then u σ H1 Q else Q OE H1
def LV(t u:TT):TT:=λσ H Q=>t σ H λc H1=>if c=OA then Q OA H1 else u σ H1 Q
def Bp(t:TT):TT:=λσ H Q=>t σ H λc H1=>Q (!c) H1
theorem uZ(ha:PT X a tA):PW X (.BoolOp .And [a] pos) tA:=by
 intro wh pins s σ H Q I h;refine isTrue_and (B6 (ha pins s σ H Q I h) λc s1 e=>?_);cases c with
 |true=>exact Xp e
 |false=>exact e
theorem xU(ha:PT X a tA):PW X (.BoolOp .Or [a] pos) tA:=by
 intro wh pins s σ H Q I h;refine isTrue_or (B6 (ha pins s σ H Q I h) λc s1 e=>?_);cases c with
 |false=>exact isTrue_or_nil e
 |true=>exact e
theorem xV(ha:PT X a tA)(hb:PW X (.BoolOp .And (b::rest) pos) Jx):PW X (.BoolOp .And (a::b::rest) pos) (Bo tA Jx):=by
 intro wh pins s σ H Q I h;refine isTrue_and (B6 (ha pins s σ H _ I h) λc s1 ⟨H1,I1,q1⟩=>?_);cases c with
 |true=>exact hb wh pins s1 σ H1 Q I1 q1
 |false=>exact⟨H1,I1,q1⟩
theorem zK(ha:PT X a tA)(hb:PW X (.BoolOp .Or (b::rest) pos) Jx):PW X (.BoolOp .Or (a::b::rest) pos) (LV tA Jx):=by
 intro wh pins s σ H Q I h;refine isTrue_or (B6 (ha pins s σ H _ I h) λc s1 ⟨H1,I1,q1⟩=>?_);cases c with
 |true=>exact⟨H1,I1,q1⟩
 |false=>exact hb wh pins s1 σ H1 Q I1 q1
theorem xW(ha:PT X a tA):PT X (.UnaryOp .Not a pos) (Bp tA):=by
 intro pins s σ H Q I h;exact isTrue_not (ha pins s σ H (λc H1=>Q (!c) H1) I h)
def zL(ta tb:TE):TE:=λσ H Q=>ta σ H λx H1=>∃c,x=.bl c/\if c=OA then tb σ H1 Q else Q (.bl OE) H1
def Bq(ta tb:TE):TE:=λσ H Q=>ta σ H λx H1=>∃c,x=.bl c/\if c=OA then Q (.bl OA) H1 else tb σ H1 Q
def zM(ta:TE):TE:=λσ H Q=>ta σ H λx H1=>∃c,x=.bl c/\Q (.bl (!c)) H1
theorem rA(h:PE X a t):PE X (.BoolOp op [a] pos) t:=λpins s σ H Q I hw=>BoolOp_one (h pins s σ H Q I hw)
theorem xX(ha:PE X a ta)(hb:PE X (.BoolOp .And (b::rest) pos) tb):PE X (.BoolOp .And (a::b::rest) pos) (zL ta tb):=by
 intro pins s σ H Q I h;refine BoolOp_and (B6 (ha pins s σ H _ I h) λv s1 ⟨x,H1,I1,r1,q1⟩=>?_);obtain⟨c,rfl,q1⟩:=q1;cases r1;refine Ql ?_;cases c with
 |true=>exact hb pins s1 σ H1 Q I1 q1
 |false=>exact⟨.bl OE,H1,I1,rfl,q1⟩
theorem zN(ha:PE X a ta)(hb:PE X (.BoolOp .Or (b::rest) pos) tb):PE X (.BoolOp .Or (a::b::rest) pos) (Bq ta tb):=by
 intro pins s σ H Q I h;refine BoolOp_or (B6 (ha pins s σ H _ I h) λv s1 ⟨x,H1,I1,r1,q1⟩=>?_);obtain⟨c,rfl,q1⟩:=q1;cases r1;refine Ql ?_;cases c with
 |false=>exact hb pins s1 σ H1 Q I1 q1
 |true=>exact⟨.bl OA,H1,I1,rfl,q1⟩
theorem xY(ha:PE X a ta):PE X (.UnaryOp .Not a pos) (zM ta):=by
 intro pins s σ H Q I h;refine UnaryOp_ (B6 (ha pins s σ H _ I h) λv s1 ⟨x,H1,I1,r1,q1⟩=>?_);obtain⟨c,rfl,q1⟩:=q1;cases r1;exact not_of (Ql ⟨.bl (!c),H1,I1,rfl,q1⟩)
def LW(t:TT)(ta tb:TE):TE:=λσ H Q=>t σ H λc H1=>if c=OA then ta σ H1 Q else tb σ H1 Q
theorem rB(hc:PT X c tA)(ha:PE X a ta)(hb:PE X b tb):PE X (.IfExp c a b pos) (LW tA ta tb):=by
 intro pins s σ H Q I h;refine wpAny_IfExp (B6 (hc pins s σ H _ I h) λd s1 ⟨H1,I1,q1⟩=>?_);cases d with
 |true=>exact ha pins s1 σ H1 Q I1 q1
 |false=>exact hb pins s1 σ H1 Q I1 q1
end
def Cn(K:PySem.W.Frag)(H:Hp)(a:OS)(xs:List V):Prop :=
 Rd H a (.lst xs) \/
  ∃(o:Obj) (A':Array OH) (n:Nat),K.lookup a=Od o/\o.cls=.type "list"/\o.dict=OB/\o.data=.seq A' n/\A'.size<=OG/\Vals xs A'.toList
def Ci(K:PySem.W.Frag)(H:Hp)(a:OS)(xs:List V):Prop :=
 Rd H a (.tup xs) \/
  ∃(o:Obj) (A':Array OH) (n:Nat),K.lookup a=Od o/\o.cls=.type "tuple"/\o.data=.seq A' n/\A'.size<=OG/\Vals xs A'.toList
def Br:OH->Option V
 |.none=>Od .BZ
 |.bool b=>Od (.bl b)
 |.int i _=>Od (.int i)
 |.str x _=>Od (.str x)
 |.bytes b _=>Od (.Iu b)
 |.float b _=>Od (.Iv b)
 |.ref a=>Od (.ref a)
 |.type n=>Od (.ty n)
 |_=>OB
theorem RelV.abs(r:RelV x u):Br u=Od x:=by
 cases x with
 |BZ=>cases r;rfl
 |bl _=>cases r;rfl
 |ref _=>cases r;rfl
 |ty _=>cases r;rfl
 |_=>obtain⟨t,rfl⟩:=r;rfl
theorem RelV.inj(r:RelV x u)(q:RelV y u):x=y:=Px (r.abs.symm.trans q.abs)
theorem Vals.inj:∀{xs ys:List V}{us:List OH},Vals xs us->Vals ys us->xs=ys
 |_,_,_,.nil,.nil=>rfl
 |_,_,_,.cons r t,.cons r' t'=>by rw[r.inj r',Vals.inj t t']
section
theorem Cn.of{K:PySem.W.Frag}(h:H a=Od (.lst xs)):Cn K H a xs:=.inl (.inl h)
theorem Ci.of{K:PySem.W.Frag}(h:H a=Od (.tup xs)):Ci K H a xs:=.inl (.inl h)
theorem Inv.list(I:Inv X pins σ H s)(h:Cn X.K H a xs):∃A':List OH,Vals xs A'/\PlainL s.heap a A'.toArray/\xs.length<=OG:=by
 rcases h with h|⟨o,A',n,hk,hc,hd,hs,hz,r⟩
 ·obtain⟨z,A',n,r,e⟩:=h.ok I.B0;exact⟨A',r,⟨_,n,e,rfl,rfl,rfl⟩,z⟩
 ·refine⟨A'.toList,r,⟨o,n,I.FY a o hk,hc,hd,by simpa using hs⟩,?_⟩;have e:=r.length;simp only[O9]at e;omega
theorem Inv.tuple(I:Inv X pins σ H s)(h:Ci X.K H a xs):∃A':List OH,Vals xs A'/\V2 s.heap a A'.toArray/\xs.length<=OG:=by
 rcases h with h|⟨o,A',n,hk,hc,hs,hz,r⟩
 ·obtain⟨z,A',r,p⟩:=h.ok I.B0;exact⟨A',r,p,z⟩
 ·refine⟨A'.toList,r,⟨o,I.FY a o hk,hc,n,by simpa using hs⟩,?_⟩;have e:=r.length;simp only[O9]at e;omega
theorem Inv.ly(I:Inv X pins σ H s)(h:Cn X.K H a xs)(h':Cn X.K H a ys):xs=ys:=by
 obtain⟨A',r,⟨o,n,e,_,_,d⟩,_⟩:=I.list h;obtain⟨its',r',⟨o',n',e',_,_,d'⟩,_⟩:=I.list h';rw[e]at e';cases e';rw[d]at d';injection d' with d1 _
 have:A'=its':=by simpa using congrArg UK d1
 subst this;exact r.inj r'
theorem Inv.jq(I:Inv X pins σ H s)(h:Ci X.K H a xs)(h':Ci X.K H a ys):xs=ys:=by
 obtain⟨A',r,⟨o,e,_,n,d⟩,_⟩:=I.tuple h;obtain⟨its',r',⟨o',e',_,n',d'⟩,_⟩:=I.tuple h';rw[e]at e';cases e';rw[d]at d';injection d' with d1 _
 have:A'=its':=by simpa using congrArg UK d1
 subst this;exact r.inj r'
end
abbrev Cx.jc(X:Cx)(E:OH->OR->Prop):Cx:={X with xe:=E}
abbrev Cx.GO(X:Cx):Cx:=X.jc λ_ _=>False
theorem Cx.Ok.jc{X:Cx}(ok:X.Ok)(E:OH->OR->Prop):(X.jc E).Ok :=
 ⟨ok.mod,ok.kind,ok.glob,ok.blt,ok.above,ok.inj,ok.has,ok.G',ok.hd,ok.frames,ok.Iz,ok.KR,ok.bs,ok.Fw,ok.Es,ok.E6,ok.gW,ok.GL⟩
theorem Cx.Ok.fY{X:Cx}(ok:(X.jc E).Ok):X.Ok :=
 ⟨ok.mod,ok.kind,ok.glob,ok.blt,ok.above,ok.inj,ok.has,ok.G',ok.hd,ok.frames,ok.Iz,ok.KR,ok.bs,ok.Fw,ok.Es,ok.E6,ok.gW,ok.GL⟩
section
theorem Inv.jc(I:Inv X pins σ H s)(E:OH->OR->Prop):Inv (X.jc E) pins σ H s:=⟨I.ok.jc E,I.os,I.bare,I.base,I.loc,I.cell,I.free,I.Cz,I.pin,I.B0,I.len⟩
theorem Inv.fY(I:Inv (X.jc E) pins σ H s):Inv X pins σ H s:=⟨I.ok.fY,I.os,I.bare,I.base,I.loc,I.cell,I.free,I.Cz,I.pin,I.B0,I.len⟩
theorem SP.fY(h:SP (X.jc E) pins D f s'):SP X pins D f s':=by
 cases f with
 |ret u=>obtain⟨v,σ',H',I,r,q⟩:=h;exact⟨v,σ',H',I.fY,r,q⟩
 |_=>obtain⟨σ',H',I,q⟩:=h;exact⟨σ',H',I.fY,q⟩
theorem CP.GO{st:List RI}(h:CP X.GO st t):CP X st t:=λpins s σ H D I hw =>
 PR (h pins s σ H D (I.jc _) hw) (λ_ _ q=>q.fY) λ_ _ z=>Q2 z
end
section
variable{X:Cx}{st:RI}{rest:List RI}{t u:TS}{e:Pw}{te:TE}{pos:Pos}
def xm:TS:=λD σ H=>D.nx σ H
def Bs(t u:TS):TS:=λD σ H=>t {D with nx:=u D} σ H
theorem u9:CP X [] xm:=λ_ _ σ H _ I h=>UD ⟨σ,H,I,h⟩
theorem rC(h1:PS X st t)(h2:CP X rest u):CP X (st::rest) (Bs t u):=by
 intro pins s σ H D I h;refine wpAny_execs_cons (B6 (h1 pins s σ H {D with nx:=u D} I h) λf s1 q=>?_);cases f with
 |next =>
  obtain⟨σ',H',I',q⟩:=q;exact h2 pins s1 σ' H' D I' q
 |_=>exact q
def xZ:TS:=λD σ H=>D.bk σ H
def zO:TS:=λD σ H=>D.ct σ H
theorem u_:PS X (.Pass pos) xm:=λ_ _ σ H _ I h=>wpAny_Pass ⟨σ,H,I,h⟩
theorem rD:PS X (.Break pos) xZ:=λ_ _ σ H _ I h=>wpAny_Break ⟨σ,H,I,h⟩
theorem lz:PS X (.Continue pos) zO:=λ_ _ σ H _ I h=>wpAny_Continue ⟨σ,H,I,h⟩
theorem Inv.quiet(I:Inv X pins σ H s):interactive X.env=OE:=by simp[interactive,I.ok.kind]
def zP(te:TE):TS:=λD σ H=>te σ H λ_ H1=>D.nx σ H1
theorem gO(he:PE X e te)(hs:Se e OB pos.line X.env=pure OE:=by rfl):PS X (.Expr e pos) (zP te):=by
 intro pins s σ H D I h;exact wpAny_Expr_any (B6 (he pins s σ H _ I h) λv s1 ⟨x,H1,I1,r1,q1⟩=>⟨σ,H1,I1,q1⟩) I.quiet hs
def Bt(te:TE):TS:=λD σ H=>te σ H D.rt
theorem x2(he:PE X e te):PS X (.Return (Od e) pos) (Bt te):=by
 intro pins s σ H D I h;exact wpAny_Return_some (B6 (he pins s σ H _ I h) λv s1 ⟨x,H1,I1,r1,q1⟩=>⟨x,σ,H1,I1,r1,q1⟩)
def zQ:TS:=λD _ H=>D.rt .BZ H
theorem vb:PS X (.Return OB pos) zQ:=λ_ _ σ H _ I h=>wpAny_Return_none ⟨.BZ,σ,H,I,rfl,h⟩
def Bu(c:TT)(t u:TS):TS:=λD σ H=>c σ H λb H1=>if b=OA then t D σ H1 else u D σ H1
theorem zR(hc:PT X c tc)(ha:CP X a t)(hb:CP X b u):PS X (.If c a b pos) (Bu tc t u):=by
 intro pins s σ H D I h;refine wpAny_If (B6 (hc pins s σ H _ I h) λd s1 ⟨H1,I1,q1⟩=>?_);cases d with
 |true=>exact ha pins s1 σ H1 D I1 q1
 |false=>exact hb pins s1 σ H1 D I1 q1
end
abbrev TG:=V->St->Hp->(St->Hp->Prop)->Prop
abbrev GP:=List V->St->Hp->(St->Hp->Prop)->Prop
def PG(X:Cx)(target:Pw)(t:TG):Prop :=
 ∀(pins:List (OS×Obj)) (s:OR) (σ:St) (H:Hp) (v:V) (u:OH) (Q:St->Hp->Prop),Inv X pins σ H s->RelV v u->t v σ H Q ->
  OK (OU X.prog X.w) X.A (Sy target X.env u) (λ_ s'=>∃σ' H',Inv X pins σ' H' s'/\Q σ' H') X.xe s
def Hc(X:Cx)(ts:List Pw)(t:GP):Prop :=
 ∀(pins:List (OS×Obj)) (s:OR) (σ:St) (H:Hp) (vs:List V) (us:List OH) (Q:St->Hp->Prop),Inv X pins σ H s->Vals vs us->t vs σ H Q ->
  OK (OU X.prog X.w) X.A (assignInOrder ((Ru ts X.env).map (·.2)) us) (λ_ s'=>∃σ' H',Inv X pins σ' H' s'/\Q σ' H') X.xe s
abbrev zS:=V->V->V->Hp->(Hp->Prop)->Prop
def jd(X:Cx)(t:zS):Prop :=
 ∀(pins:List (OS×Obj)) (s:OR) (σ:St) (H:Hp) (o i v:V) (ov iv u:OH) (Q:Hp->Prop),Inv X pins σ H s->RelV o ov->RelV i iv->RelV v u->t o i v H Q ->
  OK (OU X.prog X.w) X.A (Vv ov iv u) (λ_ s'=>∃H',Inv X pins σ H' s'/\Q H') X.xe s
section
def oH(i:Nat):TG:=λv σ H Q=>Q (σ.set i (Od v)) H
theorem oI(hN:X.N.Nodup)(hi:X.N[i]?=Od x)(hx:Loc X.env.scope x)(hf:X.fn x=OA\/X.env.scope.names.lookup x=Od .local:=by first|exact .inl rfl|exact .inr rfl|assumption):PG X (.Name x pos) (oH i):=by
 intro pins s σ H v u Q I r h;exact Ww (lx I hN hi hx r (λs' I'=>⟨_,H,I',h⟩) hf)
def zT:GP:=λvs σ H Q=>vs=[]/\Q σ H
def xn(t:TG)(u:GP):GP:=λvs σ H Q=>∃v r,vs=v::r/\t v σ H λσ' H'=>u r σ' H' Q
theorem vc:Hc X [] zT:=by
 intro pins s σ H vs us Q I r h;obtain⟨e,h⟩:=h;subst e;cases r;exact assignInOrder_nil ⟨σ,H,I,h⟩
theorem rE(h1:PG X e t)(h2:Hc X es u)
  (hs:(Ru (e::es) X.env).map (·.2)=Sy e X.env::(Ru es X.env).map (·.2):=by rfl):Hc X (e::es) (xn t u):=by
 intro pins s σ H vs us Q I r h;obtain⟨v,vr,e1,h⟩:=h;subst e1;cases r with
 |cons r rr =>
  rw[hs];refine assignInOrder_cons (B6 (h1 pins s σ H _ _ _ I r h) λ_ s1 ⟨σ1,H1,I1,q1⟩=>?_);exact h2 pins s1 σ1 H1 _ _ Q I1 rr q1
def Bv(K:PySem.W.Frag)(n:Nat)(t:GP):TG:=λv σ H Q=>∃a xs,v=.ref a/\Ci K H a xs/\xs.length=n/\t xs σ H Q
theorem x3(hc:X.calm=OA)(h:Hc X es t)
  (hn:(Ru es X.env).length=n:=by rfl) (B_:(Ru es X.env).findIdx? (·.1)=OB:=by rfl):PG X (.Tuple es k pos) (Bv X.K n t):=by
 intro pins s σ H v u Q I r hw;obtain⟨a,xs,e1,hq,hl,hw⟩:=hw;subst e1;cases r;obtain⟨A',rv,ht,hz⟩:=I.tuple hq;refine assign_Tuple_tuple (I.ok.hd hc) ht (by simp[hn,<-hl,rv.length]) B_ λh' hx=>?_;have I1:Inv X pins σ H {s with heap:=h' }:=I.kept (t':=s.toks) λb o e=>hx b o (OW (OP e)) e;exact h pins _ σ H xs _ Q I1 (by simpa using rv) hw
def Bw(to ti:TE)(t:zS):TG:=λv σ H Q=>to σ H λo H1=>ti σ H1 λi H2=>t o i v H2 λH3=>Q σ H3
theorem x4(ho:PE X o to)(hi:PE X i ti)(hs:jd X t)
  (ha:∀v,Sy (.Subscript o i pos) X.env v=(do
   let ov <-RH [v] (Qx o X.env)
   let iv <-RH [v,ov] (Qx i X.env)
   UL pos
   RH [v,ov,iv] (Vv ov iv v)
   release [v,ov,iv] []):=by intro _;rfl):PG X (.Subscript o i pos) (Bw to ti t):=by
 intro pins s σ H v u Q I r h;rw[ha];refine Oz (PJ (B6 (ho pins s σ H _ I h) λov s1 ⟨x,H1,I1,r1,q1⟩=>?_));refine Oz (PJ (B6 (hi pins s1 σ H1 _ I1 q1) λiv s2 ⟨y,H2,I2,r2,q2⟩=>?_));refine Oz (Va (Oz (PJ (B6 (hs pins s2 σ H2 x y v ov iv u _ I2 r1 r2 r q2) λ_ s3 ⟨H3,I3,q3⟩=>?_))));exact wpAny_release ⟨σ,H3,I3,q3⟩
def x5(te:TE)(g:TG):TS:=λD σ H=>te σ H λx H1=>g x σ H1 D.nx
theorem rF(he:PE X e te)(hg:PG X tg g)(hs:Sx [tg] e pos.line X.env=pure OE:=by rfl)(hw:Vd [tg] e X.env=pure OB:=by rfl)
  (h1:(Ru [tg] X.env).map (·.2)=[Sy tg X.env]:=by rfl):PS X (.Assign [tg] e pos) (x5 te g):=by
 intro pins s σ H D I h;refine wpAny_Assign_stores (B6 (he pins s σ H _ I h) λv s1 ⟨x,H1,I1,r1,q1⟩=>?_) hs hw;rw[h1];exact B6 (hg pins s1 σ H1 x v _ I1 r1 q1) λ_ s2 q=>q
theorem x6(hN:X.N.Nodup)(hi:X.N[i]?=Od x)(hx:Loc X.env.scope x)(he:PE X e te)(hs:Se e (Od (.Name x pos')) pos.line X.env=pure OE:=by rfl)(hf:X.fn x=OA\/X.env.scope.names.lookup x=Od .local:=by first|exact .inl rfl|exact .inr rfl|assumption):
  PS X (.Assign [.Name x pos'] e pos) (x5 te (oH i)):=by
 intro pins s σ H D I h;refine wpAny_Assign_Name (B6 (he pins s σ H _ I h) λv s1 ⟨y,H1,I1,r1,q1⟩=>?_) hs;exact lx I1 hN hi hx r1 (λs2 I2=>⟨_,H1,I2,q1⟩) hf
end
section
def x8(c:TT)(tb:TS):TS:=λD σ H=>∃W:Nat->St->Hp->Prop,(∃m,W m σ H)/\∀m σ H,W m σ H ->
 c σ H λb H1=>if b=OA then ∃N:St->Hp->Prop,(∀σ' H',N σ' H'->∃m',m'<m/\W m' σ' H')/\tb {D with nx:=N,ct:=N,bk:=D.nx} σ H1 else D.nx σ H1
theorem rG(hp:Ux (OU X.prog X.w) X.A X.env X.xe)(hc:PT X c tc)(hb:CP X body tb):PS X (.While c body [] pos) (x8 tc tb):=by
 intro pins s σ H D I h;obtain⟨W,⟨m0,w0⟩,turn⟩:=h;refine wpAny_While (codeAny_whileLoop (λn s'=>∃σ' H',Inv X pins σ' H' s'/\W n σ' H') ?_ m0 ⟨σ,H,I,w0⟩);rintro n s1 ⟨σ1,H1,I1,w1⟩;refine QZ hp (B6 (hc pins s1 σ1 H1 _ I1 (turn n σ1 H1 w1)) λb s2 ⟨H2,I2,q2⟩=>?_);cases b with
 |true =>
  obtain⟨N,hN,q2⟩:=q2;rw[Xs rfl];refine QZ hp (B6 (hb pins s2 σ1 H2 _ I2 q2) λf s3 q3=>?_);cases f with
  |next =>
   obtain⟨σ3,H3,I3,n3⟩:=q3;obtain⟨m',hm,w3⟩:=hN σ3 H3 n3;exact⟨m',hm,σ3,H3,I3,w3⟩
  |cont =>
   obtain⟨σ3,H3,I3,n3⟩:=q3;obtain⟨m',hm,w3⟩:=hN σ3 H3 n3;exact⟨m',hm,σ3,H3,I3,w3⟩
  |_=>exact q3
 |false =>
  rw[Xu O'];exact UD ⟨σ1,H2,I2,q2⟩
end
structure It where
 go:Nat->Hp->Prop
 IB:Nat->Hp->V->Hp->Prop
 stop:Nat->Hp->Prop
def fj(X:Cx)(pins:List (OS×Obj))(H:Hp)(b:OS):Prop :=
 H b=OB/\b≠X.env.locals/\b∉X.fs/\(b∈X.ex\/X.s₀.heap.objs.size<=b)/\(∀x c,X.env.cells.lookup x=Od c->c≠b)/\∀p∈X.pn++pins,p.1≠b
theorem Inv.rH(I:Inv X pins σ H s)(hb:s.heap.objs.size<=b)(hn:H' b=OB):fj X pins H' b:=by
 refine⟨hn,QA (OY I.lt hb),I.zI hb,.inr (Qe I.sz hb),λx c e z=>?_,λp hp z=>?_⟩
 ·obtain⟨v,q⟩:=I.cell x c e;exact absurd (OY q.lt (by rw[z];exact hb)) (PD _)
 ·exact absurd (OY (OP (I.pin p hp).1) (by rw[z];exact hb)) (PD _)
structure Turn(P:PC)(w:P4)(K:PySem.W.Frag)(tg:Pw)(J:It)(fp:List OS)(it:OS)(tn:Nat->Qk->Prop):Prop where
 mem:it∈fp
 obj:∀i h,tn i h->∀b∈fp,∃o,h.get? b=Od o/\∀v,o.data≠.cell v
 keep:∀i h h',tn i h->(∀b∈fp,∀o,h.get? b=Od o->h'.get? b=Od o)->tn i h'
 item:∀(X:Cx),X.prog=P->X.w=w->X.K=K->X.calm=OA->∀(i:Nat) (pins:List (OS×Obj)) (s:OR) (σ:St) (H:Hp) (E:OH->OR->Prop),Inv X pins σ H s->(∀b∈fp,fj X pins H b)->tn i s.heap->J.go i H ->
  OK (OU P w) X.A (SO (.ref it)) (λr s1=>∃u,r=Od u /\
   OK (OU P w) X.A (S4 tg (.ref it) u) (λ_ s2=>∃x H',Inv X pins σ H' s2/\RelV x u/\J.IB i H x H'/\tn (i+1) s2.heap/\∀b∈fp,H' b=OB) E s1) E s
 done:∀(X:Cx),X.prog=P->X.w=w->X.K=K->X.calm=OA->∀(i:Nat) (pins:List (OS×Obj)) (s:OR) (σ:St) (H:Hp) (E:OH->OR->Prop),Inv X pins σ H s->(∀b∈fp,fj X pins H b)->tn i s.heap->J.stop i H ->
  OK (OU P w) X.A (SO (.ref it)) (λr s1=>r=OB/\Inv X pins σ H s1) E s
 self:∀(A:QW) (i:Nat) (s:OR) (Q:OH->OR->Prop) (E:OH->OR->Prop),tn i s.heap->Q (.ref it) s->OK (OU P w) A (UZ (.ref it)) Q E s
abbrev TI:=St->Hp->(It->Hp->Prop)->Prop
def KZ(X:Cx)(pins:List (OS×Obj))(σ:St)(tg:Pw)(R:It->Hp->Prop)(IC:OH)(s2:OR):Prop :=
 ∃(it:OS) (fp:List OS) (tn:Nat->Qk->Prop) (J:It) (H':Hp),IC=.ref it/\Inv X pins σ H' s2/\Turn X.prog X.w X.K tg J fp it tn/\tn 0 s2.heap/\(∀b∈fp,fj X pins H' b)/\R J H'
def PI(X:Cx)(tg iter:Pw)(wi:TI):Prop :=
 ∀(pins:List (OS×Obj)) (s:OR) (σ:St) (H:Hp) (R:It->Hp->Prop),Inv X pins σ H s->wi σ H R ->
  OK (OU X.prog X.w) X.A (Qx iter X.env) (λv s1=>OK (OU X.prog X.w) X.A (UZ v) (KZ X pins σ tg R) X.xe s1) X.xe s
theorem rJ(ho:s.heap.get? it=Od o)(hc:o.cls=.type n)(hd:o.data=.fields vs)
    (hn:["enumerate","zip","dict_itemiterator","dict_reverseitemiterator","odict_iterator","itertools.zip_longest","itertools.pairwise"].contains n=OE) (hQ:Q () s):OK M A (S4 tg (.ref it) u) Q E s:=by
  unfold S4;cases tg<;>first
    | exact OF hQ
    | (cases u<;>first
        | exact OF hQ
        | (refine Oz (UU ho ?_)
           rw[hc,hd];show OK M A (if (["enumerate","zip","dict_itemiterator","dict_reverseitemiterator","odict_iterator","itertools.zip_longest","itertools.pairwise"].contains n&&vs[0]?==Od (PM _))=OA then _ else _) Q E s;rw[Xu (by intro h;rw[hn,SM]at h;cases h)];exact OF hQ))
def Jy(K:PySem.W.Frag)(a:OS):It :=
 ⟨λi H=>∃xs x,Cn K H a xs/\xs[i]?=Od x,λi H x H'=>H'=H/\∀xs,Cn K H a xs->xs[i]?=Od x,λi H=>∃xs,Cn K H a xs/\xs.length<=i⟩
def Jz(K:PySem.W.Frag)(a:OS):It :=
 ⟨λi H=>∃xs x,Ci K H a xs/\xs[i]?=Od x,λi H x H'=>H'=H/\∀xs,Ci K H a xs->xs[i]?=Od x,λi H=>∃xs,Ci K H a xs/\xs.length<=i⟩
def ID(lo:Int)(n:Nat):It:=⟨λi _=>i<n,λi H x H'=>H'=H/\x=.int (lo+i),λi _=>n<=i⟩
theorem qk{K:PySem.W.Frag}(a it:OS):Turn P w K tg (Jy K a) [it] it (λi h=>h.IsListIter it a i) where
 mem:=by simp
 obj:=λi h st b hb=>by
  have e:b=it:=by simpa using hb
  subst e;obtain⟨o,e,c,d⟩:=st;exact⟨o,e,λv z=>by rw[d]at z;cases z⟩
 keep:=λi h h' st k=>st.at λo e=>k it (by simp) o e
 item:=by
  intro X hP hw hK hc i pins s σ H E I hf st hg;subst hP hw hK;obtain⟨xs,x,hq,hx⟩:=hg;obtain⟨A',rv,p,hz⟩:=I.list hq;obtain⟨u,hu,ru⟩:=rv.get hx;obtain⟨f0,f1,f2,f3,f4,f5⟩:=hf it (by simp);refine wpAny_pyNext_list_item st p.isList (x:=u) (by simpa using hu) λh' st' sb=>?_;have I1:Inv X pins σ H {s with heap:=h' }:=I.turned (t':=s.toks) (λb o hb e=>(sb.2 b hb).trans e) f0 f1 f3 f4 f5;obtain⟨o,e,c,d⟩:=id st';exact⟨u,rfl,rJ (s:={s with heap:=h' }) e c d (by decide) ⟨x,H,I1,ru,⟨rfl,λys hy=>by rw[I.ly hy hq];exact hx⟩,st',λb hb=>(hf b hb).1⟩⟩
 done:=by
  intro X hP hw hK hc i pins s σ H E I hf st hg;subst hP hw hK;obtain⟨xs,hq,hx⟩:=hg;obtain⟨A',rv,p,hz⟩:=I.list hq;obtain⟨f0,f1,f2,f3,f4,f5⟩:=hf it (by simp);have hl:=rv.length;exact wpAny_pyNext_list_end (I.ok.hd hc) st p.isList (by simp;omega) λh' eb=>⟨rfl,I.turned (t':=s.toks) (λb o hb e=>eb b o hb e) f0 f1 f3 f4 f5⟩
 self:=λ_ _ _ _ _ st h=>wpAny_pyIter_listiter st h
theorem mV{K:PySem.W.Frag}(a it:OS):Turn P w K tg (Jz K a) [it] it (λi h=>h.IsTupleIter it a i) where
 mem:=by simp
 obj:=λi h st b hb=>by
  have e:b=it:=by simpa using hb
  subst e;obtain⟨o,e,c,d⟩:=st;exact⟨o,e,λv z=>by rw[d]at z;cases z⟩
 keep:=λi h h' st k=>st.at λo e=>k it (by simp) o e
 item:=by
  intro X hP hw hK hc i pins s σ H E I hf st hg;subst hP hw hK;obtain⟨xs,x,hq,hx⟩:=hg;obtain⟨A',rv,p,hz⟩:=I.tuple hq;obtain⟨u,hu,ru⟩:=rv.get hx;obtain⟨f0,f1,f2,f3,f4,f5⟩:=hf it (by simp);refine wpAny_pyNext_tuple_item st (show s.heap.IsTuple a A'.toArray from p) (x:=u) (by simpa using hu) λh' st' sb=>?_;have I1:Inv X pins σ H {s with heap:=h' }:=I.turned (t':=s.toks) (λb o hb e=>(sb.2 b hb).trans e) f0 f1 f3 f4 f5;obtain⟨o,e,c,d⟩:=id st';exact⟨u,rfl,rJ (s:={s with heap:=h' }) e c d (by decide) ⟨x,H,I1,ru,⟨rfl,λys hy=>by rw[I.jq hy hq];exact hx⟩,st',λb hb=>(hf b hb).1⟩⟩
 done:=by
  intro X hP hw hK hc i pins s σ H E I hf st hg;subst hP hw hK;obtain⟨xs,hq,hx⟩:=hg;obtain⟨A',rv,p,hz⟩:=I.tuple hq;obtain⟨f0,f1,f2,f3,f4,f5⟩:=hf it (by simp);have hl:=rv.length;exact wpAny_pyNext_tuple_end (I.ok.hd hc) st (show s.heap.IsTuple a A'.toArray from p) (by simp;omega) λh' eb=>⟨rfl,I.turned (t':=s.toks) (λb o hb e=>eb b o hb e) f0 f1 f3 f4 f5⟩
 self:=λ_ _ _ _ _ st h=>wpAny_pyIter_tupleiter st h
theorem mW{K:PySem.W.Frag}(it:OS)(lo:Int)(n:Nat):Turn P w K tg (ID lo n) [it] it (λi h=>IsRangeIter h it (lo+(i:Nat) * 1) ((n:Int) - (i:Nat)) 1) where
 mem:=by simp
 obj:=λi h st b hb=>by
  have e:b=it:=by simpa using hb
  subst e;exact⟨_,st,λv z=>by
   have z':SG _=UH v:=z;cases z'⟩
 keep:=λi h h' st k=>k it (by simp) _ st
 item:=by
  intro X hP hw hK hc i pins s σ H E I hf st hg;subst hP hw hK;obtain⟨f0,f1,f2,f3,f4,f5⟩:=hf it (by simp);have W:=Walks.range (prog:=X.prog) (w:=X.w) (I.ok.hd hc) it lo 1 n;refine W.item i s _ _ hg st λv h' tk hv st' kk=>?_;obtain⟨t,rfl⟩:=hv;have I1:Inv X pins σ H {s with heap:=h',toks:=tk}:=I.turned (λb o hb e=>kk b o (by simpa using hb) e) f0 f1 f3 f4 f5;refine⟨_,rfl,rJ (s:={s with heap:=h',toks:=tk}) (n:="range_iterator") st' rfl rfl (by decide) ⟨.int (lo+i),H,I1,⟨t,?_⟩,⟨rfl,rfl⟩,st',λb hb=>(hf b hb).1⟩⟩;rw[Int.mul_one]
 done:=by
  intro X hP hw hK hc i pins s σ H E I hf st hg;subst hP hw hK;obtain⟨f0,f1,f2,f3,f4,f5⟩:=hf it (by simp);exact wpAny_pyNext_range_end (I.ok.hd hc) st (by have:n<=i:=hg;omega) λh' eb=>⟨rfl,I.turned (t':=s.toks) (λb o hb e=>eb b o hb e) f0 f1 f3 f4 f5⟩
 self:=λ_ _ _ _ _ st h=>wpAny_pyIter_rangeiter st h
section
def zU(K:PySem.W.Frag)(tl:TE):TI:=λσ H R=>tl σ H λx H1=>∃a,x=.ref a/\(∃xs,Cn K H1 a xs)/\R (Jy K a) H1
def Bx(K:PySem.W.Frag)(tl:TE):TI:=λσ H R=>tl σ H λx H1=>∃a,x=.ref a/\(∃xs,Ci K H1 a xs)/\R (Jz K a) H1
theorem vd(hl:PE X l tl):PI X tg l (zU X.K tl):=by
 intro pins s σ H R I h;refine B6 (hl pins s σ H _ I h) λv s1 ⟨x,H1,I1,r1,q1⟩=>?_;obtain⟨a,e,⟨xs,hq⟩,q⟩:=q1;subst e;cases r1;obtain⟨A',rv,p,hz⟩:=I1.list hq;refine T3 p.isList ?_;refine⟨s1.heap.objs.size,[s1.heap.objs.size],_,_,H1,rfl,I1.kept (t':=s1.toks) λb o e=>OC _ e,qk a _,⟨_,OO _ rfl,rfl,rfl⟩,λb hb=>?_,q⟩;have e:b=s1.heap.objs.size:=by simpa using hb
 subst e;exact I1.rH (ON _) (I1.B0.fresh (ON _))
theorem x9(hl:PE X l tl):PI X tg l (Bx X.K tl):=by
 intro pins s σ H R I h;refine B6 (hl pins s σ H _ I h) λv s1 ⟨x,H1,I1,r1,q1⟩=>?_;obtain⟨a,e,⟨xs,hq⟩,q⟩:=q1;subst e;cases r1;obtain⟨A',rv,p,hz⟩:=I1.tuple hq;refine Rr (show s1.heap.IsTuple a A'.toArray from p) ?_;refine⟨s1.heap.objs.size,[s1.heap.objs.size],_,_,H1,rfl,I1.kept (t':=s1.toks) λb o e=>OC _ e,mV a _,⟨_,OO _ rfl,rfl,rfl⟩,λb hb=>?_,q⟩;have e:b=s1.heap.objs.size:=by simpa using hb
 subst e;exact I1.rH (ON _) (I1.B0.fresh (ON _))
theorem rK{lo hi:Int}(I:Inv X pins σ H s)(h1:-(2 ^ 62)<=lo)(h2:lo<2 ^ 62)(h3:-(2 ^ 62)<=hi)(h4:hi<2 ^ 62)
  (q:R (ID lo (hi - lo).toNat) H):OK (OU X.prog X.w) X.A (UZ (.ref s.heap.objs.size)) (KZ X pins σ tg R) E {s with heap:=s.heap.push {cls:=.type "range",data:=.fields #[.int lo t,.int hi u,.int 1 v]},toks:=tk}:=by
 refine wpAny_pyIter_range (IsRange.new ..) (small_one h1 h2 h3 h4) ?_;have I1:Inv X pins σ H {s with heap:=s.heap.push {cls:=.type "range",data:=.fields #[.int lo t,.int hi u,.int 1 v]},toks:=tk}:=I.kept λb o e=>OC _ e;refine⟨(s.heap.push {cls:=.type "range",data:=.fields #[.int lo t,.int hi u,.int 1 v]}).objs.size,[(s.heap.push {cls:=.type "range",data:=.fields #[.int lo t,.int hi u,.int 1 v]}).objs.size],_,_,H,rfl,
  I1.kept (t':=tk) λb o e=>OC _ e,mW _ lo (hi - lo).toNat,?_,λb hb=>?_,q⟩
 ·have e1:lo+((0:Nat):Int) * 1=lo:=by simp
  have e2:(((hi - lo).toNat:Nat):Int) - ((0:Nat):Int)=WX lo hi 1:=by rw[rangeSize_one];split<;>omega
  show IsRangeIter _ _ (lo+((0:Nat):Int) * 1) ((((hi - lo).toNat:Nat):Int) - ((0:Nat):Int)) 1;rw[e1,e2];exact OO _ rfl
 ·have e:b=(s.heap.push {cls:=.type "range",data:=.fields #[.int lo t,.int hi u,.int 1 v]}).objs.size:=by simpa using hb
  subst e;exact I1.rH (ON _) (I1.B0.fresh (ON _))
def zV(ta:TA):TI:=λσ H R=>ta σ H λvs H1=>∃j:Int,vs=[.int j]/\-(2 ^ 62)<=j/\j<2 ^ 62/\R (ID 0 j.toNat) H1
theorem ql(hg:Gl X "range")(hm:X.mg "range"=OB)(ha:PA X [a] ta)(hs:O4 [a] X.env=[(OE,Qx a X.env)]:=by rfl):PI X tg (.Call (.Name "range" p) [a] [] pos) (zV ta):=by
 intro pins s σ H R I h;refine Call_ (dv I hg hm boot_range (QG (B6 (ha pos pins s σ H _ I h) λus s1 ⟨vs,H1,I1,r1,q1⟩=>?_) hs rfl));obtain⟨j,e,q1,q2,q⟩:=q1;subst e;cases r1 with
 |cons r rr =>
  cases rr;obtain⟨t,rfl⟩:=r;exact call_range_1 (rK I1 ⋯ ⋯ q1 q2 (by simpa using q))
def By(wi:TI)(g:TG)(tb:TS):TS:=λD σ H=>wi σ H λJ H1=>∃W:Nat->Nat->St->Hp->Prop,(∃m,W 0 m σ H1)/\∀i m σ H,W i m σ H ->
 (J.stop i H/\D.nx σ H)\/(J.go i H/\∃N:St->Hp->Prop,(∀σ' H',N σ' H'->∃m',m'<m/\W (i+1) m' σ' H')/\∀x H',J.IB i H x H'->g x σ H' λσ2 H2=>tb {D with nx:=N,ct:=N,bk:=D.nx} σ2 H2)
def gZ(fp:List OS)(h:Qk):List (OS×Obj):=fp.filterMap λb=>(h.get? b).map λo=>(b,o)
theorem cW(hb:b∈fp)(e:h.get? b=Od o):(b,o)∈gZ fp h:=Vp.mpr ⟨b,hb,by rw[e];rfl⟩
theorem qm(hp:p∈gZ fp h):p.1∈fp/\h.get? p.1=Od p.2:=by
 obtain⟨b,hb,e⟩:=Vp.mp hp;cases q:h.get? b with
 |none=>rw[q]at e;cases e
 |some o =>
  rw[q]at e;have e':(b,o)=p:=Px e;subst e';exact⟨hb,q⟩
theorem Inv.pinned(I:Inv X pins σ H s)(hf:∀b∈fp,fj X pins H b)(ho:∀b∈fp,∃o,s.heap.get? b=Od o/\∀v,o.data≠.cell v):Inv X (pins++gZ fp s.heap) σ H s :=
 I.dZ λp hp=>(QU.mp hp).elim (λz=>I.pin p (Po _ z)) λz=>by
  obtain⟨hb,e⟩:=qm z;obtain⟨f0,f1,f2,_⟩:=hf p.1 hb;obtain⟨o,e',d⟩:=ho p.1 hb;rw[e]at e';cases e';exact⟨e,f0,f1,f2,d⟩
theorem Inv.g9(I:Inv X (pins++pl) σ H s):Inv X pins σ H s:=I.dZ λp hp=>I.pin p (Po _ (U_ _ hp))
theorem x_(hp:Ux (OU X.prog X.w) X.A X.env X.xe)(hc:X.calm=OA)(hi:PI X tg iter wi)(hg:PG X tg g)(hb:CP X body tb)
  (hs:∀x,QD iter X.env x=pure x:=by intro _;rfl):PS X (.For tg iter body [] pos) (By wi g tb):=by
 intro pins s σ H D I h;refine wpAny_For (B6 (hi pins s σ H _ I h) λv s1 h1=>B6 h1 λIC s2 h2=>?_) hs;obtain⟨it,fp,tn,J,H2,e,I2,T,st2,f2,W,⟨m0,w0⟩,turn⟩:=h2;subst e;have F2:∀{H':Hp},(∀b∈fp,H' b=OB)->∀b∈fp,fj X pins H' b:=λhn b hb=>⟨hn b hb,(f2 b hb).2⟩
 refine codeAny_forLoop_any (λn s'=>∃i σ' H',Inv X pins σ' H' s'/\tn i s'.heap/\(∀b∈fp,H' b=OB)/\W i n σ' H') ?_ m0 ⟨0,σ,H2,I2,st2,λb hb=>(f2 b hb).1,w0⟩;rintro n s3 ⟨i,σ3,H3,I3,CI,Hd,w3⟩;rcases turn i n σ3 H3 w3 with⟨stop,qn⟩|⟨go,N,hN,VP⟩
 ·refine QZ hp (B6 (T.done X rfl rfl rfl hc i pins s3 σ3 H3 X.xe I3 (F2 Hd) CI stop) λr s4 ⟨hr,I4⟩=>?_);subst hr;exact UD ⟨σ3,H3,I4,qn⟩
 ·refine QZ hp (B6 (T.item X rfl rfl rfl hc i pins s3 σ3 H3 X.xe I3 (F2 Hd) CI go) λr s4 ⟨u,hr,h4⟩=>?_);subst hr;refine QZ hp (B6 h4 λ_ s5 ⟨x,H5,I5,r5,y5,FA,JA⟩=>?_);have JB:=I5.pinned (F2 JA) (T.obj _ _ FA);refine QZ hp (B6 (hg _ s5 σ3 H5 x u _ JB r5 (VP x H5 y5)) λ_ s6 ⟨σ6,H6,I6,q6⟩=>?_);refine QZ hp (B6 (hb _ s6 σ6 H6 _ I6 q6) λf s7 q7=>?_);have VT:∀{σ7:St} {H7:Hp},Inv X (pins++gZ fp s5.heap) σ7 H7 s7->N σ7 H7->∃m,m<n/\∃i σ' H',Inv X pins σ' H' s7/\tn i s7.heap/\(∀b∈fp,H' b=OB)/\W i m σ' H':=λ{σ7 H7} I7 n7=>by
   obtain⟨m',hm,w7⟩:=hN σ7 H7 n7;refine⟨m',hm,i+1,σ7,H7,I7.g9,T.keep _ _ _ FA λb hb o e=>(I7.pin (b,o) (Po _ (Po _ (cW hb e)))).1,λb hb=>?_,w7⟩;obtain⟨o,e,d⟩:=T.obj _ _ FA b hb;exact(I7.pin (b,o) (Po _ (Po _ (cW hb e)))).2.1
  cases f with
  |brk=>obtain⟨σ7,H7,I7,q7⟩:=q7;exact⟨σ7,H7,I7.g9,q7⟩
  |ret v=>obtain⟨x7,σ7,H7,I7,r7,q7⟩:=q7;exact⟨x7,σ7,H7,I7.g9,r7,q7⟩
  |_=>obtain⟨σ7,H7,I7,n7⟩:=q7;exact VT I7 n7
end
abbrev R2:=V->V->Hp->VK->Prop
def C5(X:Cx)(f:OH->OH->Sem OH)(r:R2):Prop :=
 ∀(pins:List (OS×Obj)) (s:OR) (σ:St) (H:Hp) (x y:V) (v u:OH) (Q:VK),Inv X pins σ H s->RelV x v->RelV y u->r x y H Q ->
  OK (OU X.prog X.w) X.A (f v u) (EP X pins σ Q) X.xe s
def eG(X:Cx)(f:OH)(r:List V->Hp->VK->Prop):Prop :=
 ∀(pins:List (OS×Obj)) (s:OR) (σ:St) (H:Hp) (xs:List V) (us:List OH) (Q:VK),Inv X pins σ H s->Vals xs us->r xs H Q ->
  OK (OU X.prog X.w) X.A (Rm f us) (EP X pins σ Q) X.xe s
def Bz(X:Cx)(r:V->Hp->(Bool->Hp->Prop)->Prop):Prop :=
 ∀(pins:List (OS×Obj)) (s:OR) (σ:St) (H:Hp) (x:V) (v:OH) (Q:Bool->Hp->Prop),Inv X pins σ H s->RelV x v->r x H Q ->
  OK (OU X.prog X.w) X.A (Wg v) (TP X pins σ Q) X.xe s
def rI(C:Int->Int->Prop)(g:Int->Int->V):R2:=λx y H Q=>∃i j,x=.int i/\y=.int j/\C i j/\Q (g i j) H
def F3(g:Int->Int->V):R2:=λx y H Q=>∃i j,x=.int i/\y=.int j/\Q (g i j) H
section
theorem IE{g:Int->Int->Int}
  (W_:∀(i j:Int) (t u:Tok) (s:OR) (Q:OH->OR->Prop) (E:OH->OR->Prop),C i j->Q (.int (g i j) s.toks) {s with toks:=s.toks+1}->OK (OU X.prog X.w) X.A (f (.int i t) (.int j u)) Q E s) :
  C5 X f (rI C λi j=>.int (g i j)):=by
 intro pins s σ H x y v u Q I rx ry h;obtain⟨i,j,rfl,rfl,hc,q⟩:=h;obtain⟨t,rfl⟩:=rx;obtain⟨t',rfl⟩:=ry;exact W_ i j t t' s _ _ hc ⟨.int (g i j),H,I.tok _,⟨_,rfl⟩,q⟩
theorem zW{g:Int->Int->Int}
  (W_:∀(i j:Int) (t u:Tok) (s:OR) (Q:OH->OR->Prop) (E:OH->OR->Prop),Q (.int (g i j) s.toks) {s with toks:=s.toks+1}->OK (OU X.prog X.w) X.A (f (.int i t) (.int j u)) Q E s) :
  C5 X f (F3 λi j=>.int (g i j)):=by
 intro pins s σ H x y v u Q I rx ry h;obtain⟨i,j,rfl,rfl,q⟩:=h;obtain⟨t,rfl⟩:=rx;obtain⟨t',rfl⟩:=ry;exact W_ i j t t' s _ _ ⟨.int (g i j),H,I.tok _,⟨_,rfl⟩,q⟩
theorem ya{g:Int->Int->Bool}
  (W_:∀(i j:Int) (t u:Tok) (s:OR) (Q:OH->OR->Prop) (E:OH->OR->Prop),Q (.bool (g i j)) s->OK (OU X.prog X.w) X.A (f (.int i t) (.int j u)) Q E s) :
  C5 X f (F3 λi j=>.bl (g i j)):=by
 intro pins s σ H x y v u Q I rx ry h;obtain⟨i,j,rfl,rfl,q⟩:=h;obtain⟨t,rfl⟩:=rx;obtain⟨t',rfl⟩:=ry;exact W_ i j t t' s _ _ ⟨.bl (g i j),H,I,rfl,q⟩
def BA(i j:Int):Prop:=0<j/\j<1073741824
def BB(i j:Int):Prop:=0<=j/\j<=1000000/\i.natAbs<2 ^ 64
def yb(i j:Int):Prop:=(-(2 ^ 64)<i/\i<2 ^ 64)\/(-(2 ^ 64)<j/\j<2 ^ 64)
theorem yb.ok(h:yb i j):IntMulOk i j:=by
 rcases h with⟨h1,h2⟩|⟨h1,h2⟩
 ·exact .of_left (intBits_le_64 h1 h2)
 ·exact .of_right (intBits_le_64 h1 h2)
theorem bt:C5 X (Rp .Add) (F3 λi j=>.int (i+j)):=zW λ_ _ _ _ _ _ _ q=>add_int q
theorem mX:C5 X (Rp .Sub) (F3 λi j=>.int (i - j)):=zW λ_ _ _ _ _ _ _ q=>sub_int q
theorem g_:C5 X (Rp .Mult) (rI yb λi j=>.int (i * j)):=IE λ_ _ _ _ _ _ _ hc q=>mul_int q hc.ok
theorem vf:C5 X (Rp .FloorDiv) (rI BA λi j=>.int (i / j)):=IE λi j _ _ _ _ _ hc q=>by
 have h1:(0:Int)<j:=hc.1;have h2:j<1073741824:=hc.2;exact floordiv_int ⋯ (by rw[Int.fdiv_eq_ediv_of_nonneg i ⋯];exact q) (.inl (PyProof.noPylong_small ⋯))
theorem cL:C5 X (Rp .Mod) (rI (λ_ j=>0<j) λi j=>.int (i % j)):=IE λi j _ _ _ _ _ hc q=>by
 have h1:(0:Int)<j:=hc;exact mod_int' ⋯ (by rw[Int.fmod_eq_emod_of_nonneg i ⋯];exact q)
theorem j5:C5 X (Rp .Pow) (rI BB λi j=>.int (i ^ j.toNat)):=IE λ_ _ _ _ _ _ _ hc q=>pow_int_small hc.1 hc.2.1 hc.2.2 q
end
section
theorem j6(I:Inv X pins σ H s)(q:Q (.bl k) H)(e:k=k'):EP X pins σ Q (.bool k') s:=by
 subst e;exact⟨.bl k,H,I,rfl,q⟩
theorem zX:C5 X (Qv .Lt) (F3 λi j=>.bl (OI (i<j))):=ya λ_ _ _ _ _ _ _ q=>lt_int q
theorem zY:C5 X (Qv .Gt) (F3 λi j=>.bl (OI (j<i))):=ya λ_ _ _ _ _ _ _ q=>gt_int q
theorem zZ:C5 X (Qv .GtE) (F3 λi j=>.bl (OI (j<=i))):=ya λ_ _ _ _ _ _ _ q=>ge_int q
theorem yc:C5 X (Qv .Is) (λx y H Q=>y=.BZ/\Q (.bl (OI (x=.BZ))) H):=by
 intro pins s σ H x y v u Q I rx ry h;obtain⟨rfl,q⟩:=h;cases ry;refine is_none_gen (j6 I q ?_);cases x<;>first
  |(cases rx;rfl)
  |(obtain⟨t,rfl⟩:=rx;rfl)
theorem vg:C5 X (Qv .IsNot) (λx y H Q=>y=.BZ/\Q (.bl (!OI (x=.BZ))) H):=by
 intro pins s σ H x y v u Q I rx ry h;obtain⟨rfl,q⟩:=h;cases ry;refine isnot_none_gen (j6 I q ?_);cases x<;>first
  |(cases rx;rfl)
  |(obtain⟨t,rfl⟩:=rx;rfl)
def z9(K:PySem.W.Frag)(x:V)(H:Hp)(k:Bool):Prop :=
 match x with
 |.BZ=>k=OE
 |.bl b=>k=b
 |.int i=>k=(i != 0)
 |.str y=>y.length<=OG/\k=((y.length:Int) != 0)
 |.Iu y=>y.size<=OG/\k=((y.size:Int) != 0)
 |.ref p=>(∃xs,Cn K H p xs/\k=!xs.isEmpty)\/(∃xs,Ci K H p xs/\k=!xs.isEmpty)\/∃kvs,H p=Od (.dK kvs)/\k=!kvs.isEmpty
 |_=>False
theorem mY(r:KV kvs vs):(!vs.isEmpty)=!kvs.isEmpty:=by
 cases r<;>rfl
theorem hJ(r:Vals xs A'):(!A'.toArray.isEmpty)=!xs.isEmpty:=by
 cases r<;>simp
theorem eT:(OG:Nat)<2 ^ 63:=by rw[sizeLine_eq];decide
theorem yd:Bz X (λx H Q=>∃k,z9 X.K x H k/\Q k H):=by
 intro pins s σ H x v Q I rx h;obtain⟨k,e,q⟩:=h;have hl:=eT;have hs:OG=16777216:=sizeLine_eq;cases x with
 |BZ =>
  cases rx;have e':k=OE:=e;subst e';exact truthy_none ⟨H,I,q⟩
 |bl b =>
  cases rx;have e':k=b:=e;subst e';exact Ql ⟨H,I,q⟩
 |int i =>
  obtain⟨t,rfl⟩:=rx;have e':k=(i != 0):=e;subst e';exact PySem.P.truthy_int ⟨H,I,q⟩
 |str y =>
  obtain⟨t,rfl⟩:=rx;obtain⟨hy,e'⟩:y.length<=OG/\k=((y.length:Int) != 0):=e;subst e';exact PySem.P.truthy_str ⋯ ⟨H,I.tok _,q⟩
 |Iu y =>
  obtain⟨t,rfl⟩:=rx;obtain⟨hy,e'⟩:y.size<=OG/\k=((y.size:Int) != 0):=e;subst e';exact PySem.W.truthy_bytes ⋯ ⟨H,I.tok _,q⟩
 |ref p =>
  cases rx;have e':(∃xs,Cn X.K H p xs/\k=!xs.isEmpty)\/(∃xs,Ci X.K H p xs/\k=!xs.isEmpty)\/∃kvs,H p=Od (.dK kvs)/\k=!kvs.isEmpty:=e;rcases e' with⟨xs,hx,e'⟩|⟨xs,hx,e'⟩|⟨kvs,hx,e'⟩
  ·subst e';obtain⟨A',r,pl,hz⟩:=I.list hx;have hlen:=r.length;exact wpAny_truthy_list pl.isList (by simp only[OL];omega) ⟨H,I.tok _,by rw[hJ r];exact q⟩
  ·subst e';obtain⟨A',r,pl,hz⟩:=I.tuple hx;have hlen:=r.length;exact truthy_tuple pl (by simp only[OL];omega) ⟨H,I.tok _,by rw[hJ r];exact q⟩
  ·subst e';obtain⟨hz,hS,vs,r,m⟩:kvs.length<=OG/\(p==P_)=OE/\∃vs,KV kvs vs/\s.heap.DictOf (aJ X.prog X.w) p vs:=I.B0 p _ hx;have hlen:kvs.length=vs.length:=Paired.length r;exact wpAny_truthy_dict hS m ⋯ ⟨H,I.tok _,by rw[mY r];exact q⟩
 |_=>exact(show False from e).elim
theorem rL(ha:PE X a ta)(he:∀whole,isTrue a X.env whole=(do let v <-whole;UL a.pos;RH [v] (Wg v))):
  PT X a (λσ H Q=>ta σ H λx H'=>∃k,z9 X.K x H' k/\Q k H'):=by
 intro pins s σ H Q I h;exact isTrue_plain (B6 (ha pins s σ H _ I h) λv s1 ⟨x,H1,I1,r1,q1⟩=>yd pins s1 σ H1 x v Q I1 r1 q1) (he _)
theorem mZ:C5 X (Rp .Add) (λx y H Q=>∃i j,x=.str i/\y=.str j/\i.length+j.length<=OG/\Q (.str (i++j)) H):=by
 intro pins s σ H x y v u Q I rx ry h;obtain⟨i,j,rfl,rfl,hz,q⟩:=h;obtain⟨t,rfl⟩:=rx;obtain⟨t',rfl⟩:=ry;exact add_str (λt' tk=>⟨.str (i++j),H,I.tok _,⟨_,rfl⟩,q⟩) hz
theorem vals1(r:Vals [x] us):∃u,us=[u]/\RelV x u:=by
 cases r with
 |cons r1 r2=>cases r2;exact⟨_,rfl,r1⟩
theorem vals2(r:Vals [x,y] us):∃u w',us=[u,w']/\RelV x u/\RelV y w':=by
 cases r with
 |cons r1 r2 =>
  cases r2 with
  |cons r3 r4=>cases r4;exact⟨_,_,rfl,r1,r3⟩
theorem j7:eG X (.type "str") (λxs H Q=>∃i,xs=[.int i]/\i.natAbs.log2<1920/\Q (.str (W9 i)) H):=by
 intro pins s σ H xs us Q I r h;obtain⟨i,rfl,hz,q⟩:=h;obtain⟨u,rfl,t,rfl⟩:=vals1 r;exact PySem.P.str_of_int hz ⟨.str _,H,I.tok _,⟨_,rfl⟩,q⟩
end
section
end
theorem jb.some_of(r:jb (Od v) o):∃u,o=Od u/\RelV v u:=by
 cases o with
 |none=>exact(show False from r).elim
 |some u=>exact⟨u,rfl,r⟩
section
end
structure LX(K:PySem.W.Frag)(C:OS):Prop where
 pg:PySem.W.plainGet K C Pn=OA
 hd:PySem.W.hasDictIn K C=OA
 po:PySem.W.plainOver K C=OA
 sa:PySem.W.findIn K (.ref C) "__setattr__"=Od (Od (.builtin "object.__setattr__"))
section
end
section
end
section
inductive hU(K:PySem.W.Frag)(H:Hp):V->OH->Prop where
 |BZ:hU K H .BZ (.type "NoneType")
 |bl (x:Bool):hU K H (.bl x) (.type "bool")
 |int (i:Int):hU K H (.int i) (.type "int")
 |str (x:Str):hU K H (.str x) (.type "str")
 |Iv (x:UInt64):hU K H (.Iv x) (.type "float")
 |lst {a:OS} {xs:List V} (e:H a=Od (.lst xs)):hU K H (.ref a) (.type "list")
 |CY {a:OS} {o:Obj} {xs:List V} (e:H a=Od (.CY o (.lst xs))):hU K H (.ref a) (.type "list")
 |tup {a:OS} {xs:List V} (e:H a=Od (.tup xs)):hU K H (.ref a) (.type "tuple")
 |dK {a:OS} {kvs:List (Key×V)} (e:H a=Od (.dK kvs)):hU K H (.ref a) (.type "dict")
 |dT {a:OS} {kvs:List (List Key×V)} (e:H a=Od (.dT kvs)):hU K H (.ref a) (.type "dict")
 |ins {a C dx:OS} {fs:List (Str×V)} (e:H a=Od (.ins C dx fs)) (cl:LX K C) (ha:PySem.W.findIn K (.ref C) "__class__"=Od (Od (.builtin "object.__class__")))
   (hn:PySem.W.specialIn K (.builtin "object.__class__") "__get__"=Od (Od (.builtin "getset_descriptor.__get__"))) (LY:PySem.W.takesIn K (.builtin "object.__class__")=Od OA)
   (hm:PySem.W.mroIn K C (.type "object")=Od OA):hU K H (.ref a) (.ref C)
end
structure eB(k:Nat)(A:QW):Prop where
 hd:A.handled=OB
 dp:A.depth+3 * k+5<W'
 un:A.units+16 * k+200<Qd
 gd:A.guards=Od []
theorem eB.deeper(r:eB (k+1) A)(env:Env):eB k (A.deeper env) :=
 ⟨r.hd,by have:=r.dp;show A.depth+1+3 * k+5 < _;omega,by have:=r.un;show A.units+3+16 * k+200 < _;omega,r.gd⟩
theorem eB.depth(r:eB k A):A.depth<W':=by have:=r.dp;omega
def BC:TA:=λ_ H Q=>Q [] H
def z_(ta:TE)(tr:TA):TA:=λσ H Q=>ta σ H λx H1=>tr σ H1 λxs H2=>Q (x::xs) H2
section
theorem hZ:PA X [] BC:=λ_ _ _ _ H Q I h=>To ⟨[],H,I,.nil,h⟩
theorem d0(ha:PE X e te)(hr:PA X es t)(hs:O4 (e::es) X.env=(OE,Qx e X.env)::O4 es X.env:=by rfl):PA X (e::es) (z_ te t):=by
 intro pos pins s σ H Q I h;rw[hs];show OK _ _ (Wx ((OE,Qx e X.env)::QC pos (O4 es X.env))) _ _ s;refine S7 (B6 (ha pins s σ H _ I h) λu s1 ⟨x,H1,I1,r1,q1⟩=>?_);exact B6 (hr pos pins s1 σ H1 _ I1 q1) λus s2 ⟨xs,H2,I2,r2,q2⟩=>⟨x::xs,H2,I2,.cons r1 r2,q2⟩
end
abbrev Sp:=List V->Hp->VK->XK->Prop
abbrev GQ:=List Env->Hp->OR->XK->OH->OR->Prop
structure vh(P:PC)(w:P4)(K:PySem.W.Frag)(mg:Str->Option OH)(base:Qk)(A:QW)(outer:List Env)(s:OR)(H:Hp):Prop where
 frames:A.frames=Od outer
 mod:Mod K mg base
 bs:∀b o,base.get? b=Od o->s.heap.get? b=Od o/\H b=OB
 Fw:base.objs.size<=s.heap.objs.size
 gW:s.heap.FunFrames base outer
 GL:∀b∈DZ outer,H b=OB
 B0:CL P w H s.heap
 bare:SW s.gens
def CE(outer:List Env)(P:PC)(w:P4)(H:Hp)(s:OR)(Q:VK)(u:OH)(s':OR):Prop :=
 ∃v H',s'.os=s.os/\SW s'.gens/\Un (DZ outer) [] H H' s.heap s'.heap/\CL P w H' s'.heap/\RelV v u/\Q v H'
def CR(CX:GQ)(outer:List Env)(P:PC)(w:P4)(H:Hp)(s:OR)(Q:VK)(E:XK)(r:Result)(s':OR):Prop :=
 match r with
 |.ok (.ret u)=>CE outer P w H s Q u s'
 |.ok _=>False
 |.error e=>CX outer H s E e s'
structure h_(P:PC)(w:P4)(K:PySem.W.Frag)(mg:Str->Option OH)(base:Qk)(CX:GQ)(k:Nat)(f:OS)(fd:Sm)(ps:List Str)(sp:Sp):Prop where
 len:∀vs H Q E,sp vs H Q E->vs.length=ps.length
 run:∀(A:QW) (outer:List Env) (s:OR) (H:Hp) (args:Args) (us:List OH) (vs:List V) (Q:VK) (E:XK),eB k A->vh P w K mg base A outer s H->VC s fd args (ps.zip us)->Vals vs us->sp vs H Q E ->
  RU (OU P w) A (.call (.ref f) args) (CR CX outer P w H s Q E) s
section
theorem Inv.BD(I:Inv X pins σ H s):vh X.prog X.w X.K X.mg X.base X.A X.stack s H :=
 ⟨I.ok.frames,I.ok.mod,I.bs,Qe I.ok.Fw I.sz,I.stack,I.oF,I.B0,I.bare⟩
theorem Inv.after(I:Inv X pins σ H s)(h:CE X.stack X.prog X.w H s Q u s'):EP X pins σ Q u s':=by
 obtain⟨v,H',os,bare,un,B0,r,q⟩:=h;obtain⟨hh,g,d,t,JC⟩:=s';obtain rfl:JC=s.os:=os;exact⟨v,H',I.call (h':=hh) (g':=g) (d':=d) (t':=t) (ch:=[]) un B0 bare (λb z=>absurd z (by simp)),r,q⟩
end
def Binds(K:PySem.W.Frag)(fd:Sm)(ps:List Str)(ds:List OH):Prop :=
 ∀(s:OR) (us:List OH),K.In s.heap->(us++ds).length=ps.length->VC s fd ⟨us,[]⟩ (ps.zip (us++ds))
theorem Binds.all{K:PySem.W.Frag}(h:∀us:List OH,us.length=ps.length->VS fd ⟨us,[]⟩=pure (ps.zip us)):Binds K fd ps []:=λs us _ hl=>by
 rw[P8]at hl ⊢;exact .of_eq (h us hl)
def Passes(CX:GQ)(X:Cx)(E:XK):Prop:=∀(pins:List (OS×Obj)) (σ:St) (H:Hp) (s:OR) (e:OH) (s':OR),Inv X pins σ H s->CX X.stack H s E e s'->X.xe e s'
section
theorem rM(F:h_ X.prog X.w X.K X.mg X.base CX k f fd ps sp)(hr:eB k X.A)(hb:Binds X.K fd ps ds)(hd:Vals JD ds)(hx:Passes CX X E)
  (I:Inv X pins σ H s) (r:Vals vs us) (h:sp (vs++JD) H Q E):OK (OU X.prog X.w) X.A (Rm (.ref f) us) (EP X pins σ Q) X.xe s:=by
 have r2:Vals (vs++JD) (us++ds):=r.append hd;have hl:(us++ds).length=ps.length:=by rw[<-r2.length];exact F.len _ _ _ _ h
 refine wpAny_call (SQ (F.run X.A X.stack s H ⟨us,[]⟩ (us++ds) (vs++JD) Q E hr I.BD (hb s us I.FY hl) r2 h) λr s' hq=>?_);cases r with
 |error e=>exact hx pins σ H s e s' I hq
 |ok fl =>
  cases fl with
  |ret u=>exact I.after hq
  |_=>exact Q2 hq
end
section
end
structure cI(N P:List Str)(sc:Q0):Prop where
 kind:sc.kind=.function
 co:sc.isCoroutine=OE
 gen:sc.isGenerator=OE
 nd:N.Nodup
 pre:N.take P.length=P
 par:∀x∈P,sc.names.lookup x=Od .local\/sc.names.lookup x=Od .cell
 F4:∀y∈sc.names,y.2≠.free
theorem jr{kindOf:Str->Option Rb}:∀{binds:List (Str×OH)}{m:Str->Option OH},(∀v,(x,v)∉binds)->Vm kindOf binds m x=m x
 |[],_,_=>rfl
 |(n,v)::r,m,h=>by
  unfold Vm;rw[jr λw hw=>h w (Py _ hw)];split
  ·have:x≠n:=by rintro rfl;exact h v PB
   simp[this]
  ·rfl
theorem jt{kindOf:Str->Option Rb}:∀{binds:List (Str×OH)}{m:Str->Option OH},(∀v,(x,v)∉binds)->Vn kindOf binds m x=m x
 |[],_,_=>rfl
 |(n,v)::r,m,h=>by
  unfold Vn;rw[jt λw hw=>h w (Py _ hw)];split
  ·rfl
  ·have:x≠n:=by rintro rfl;exact h v PB
   simp[this]
theorem ju{kindOf:Str->Option Rb}:∀{P:List Str}{vs:List OH}{i:Nat}{m:Str->Option OH},P.Nodup->P[i]?=Od x->vs[i]?=Od v->kindOf x=Od .local ->
  Vm kindOf (P.zip vs) m x=Od v
 |[],_,_,_,_,h,_,_=>by simp at h
 |_::_,[],_,_,_,_,h,_=>by simp at h
 |p::P,w::vs,0,m,nd,h1,h2,hk=>by
  simp at h1 h2;subst h1;subst h2;show Vm kindOf ((p,w)::P.zip vs) m p=_;unfold Vm;rw[jr λv hv=>(PX.mp nd).1 (TX hv).1,Xs hk];simp
 |p::P,w::vs,i+1,m,nd,h1,h2,hk=>by
  show Vm kindOf ((p,w)::P.zip vs) m x=_;unfold Vm;exact ju (i:=i) (PX.mp nd).2 (by simpa using h1) (by simpa using h2) hk
theorem jv{kindOf:Str->Option Rb}:∀{P:List Str}{vs:List OH}{i:Nat}{m:Str->Option OH},P.Nodup->P[i]?=Od x->vs[i]?=Od v->kindOf x≠Od .local ->
  Vn kindOf (P.zip vs) m x=Od v
 |[],_,_,_,_,h,_,_=>by simp at h
 |_::_,[],_,_,_,_,h,_=>by simp at h
 |p::P,w::vs,0,m,nd,h1,h2,hk=>by
  simp at h1 h2;subst h1;subst h2;show Vn kindOf ((p,w)::P.zip vs) m p=_;unfold Vn;rw[jt λv hv=>(PX.mp nd).1 (TX hv).1,Xu hk];simp
 |p::P,w::vs,i+1,m,nd,h1,h2,hk=>by
  show Vn kindOf ((p,w)::P.zip vs) m x=_;unfold Vn;exact jv (i:=i) (PX.mp nd).2 (by simpa using h1) (by simpa using h2) hk
def start(N:List Str)(vs:List V):St:=vs.map Od++OZ (N.length - vs.length) OB
def lA(CX:GQ)(P:PC)(w:P4)(K:PySem.W.Frag)(mg:Str->Option OH)(base:Qk)(N:List Str)(qual:Str)(scope:Q0)(f:OS)(cd:OH)(A:QW)(outer:List Env)(s:OR)(H:Hp)(E:XK):Cx where
 prog:=P
 w:=w
 K:=K
 mg:=mg
 base:=base
 A:=A.deeper (SV qual scope s.heap.objs.size f cd)
 N:=N
 s₀:=s
 H₀:=H
 env:=SV qual scope s.heap.objs.size f cd
 outer:=outer
 stack:=SV qual scope s.heap.objs.size f cd::outer
 ex:=[]
 calm:=OA
 fn:=λ_=>OA
 pn:=[]
 xe:=λe s'=>OK (OU P w) (A.deeper (SV qual scope s.heap.objs.size f cd)) (leaving (SV qual scope s.heap.objs.size f cd) e) (λ_ He=>CX outer H s E e He) (λe' He=>CX outer H s E e' He) s'
theorem lB{sc:Q0}(h:sc.names.lookup x=Od .cell):∃c,(WS n sc.names []).lookup x=Od c:=by
 have q:=PySem.W.cellsFrom_some sc.names n [] (.inl h);exact Up.mp q
theorem qo{K:PySem.W.Frag}
  (S:cI N ps scope) (hd:A.handled=OB) (e0:vh P w K mg base A outer s H) (hl:vs.length=ps.length) (r:Vals vs us)
  (x:InCallC s s.heap.objs.size (Vm (SV qual scope s.heap.objs.size f cd).kindOf (ps.zip us) λ_=>OB) (WS (s.heap.objs.size+1) scope.names []) (Vn (SV qual scope s.heap.objs.size f cd).kindOf (ps.zip us) λ_=>OB) s1) :
  Inv (lA CX P w K mg base N qual scope f cd A outer s H E) [] (start N vs) H s1:=by
 have Dv:ps.length<=N.length:=by have:=congrArg SJ S.pre;rw[PQ]at this;omega
 obtain⟨h1,tk,rfl,hk⟩:=x.done;have Hf:∀b:OS,b∉(lA CX P w K mg base N qual scope f cd A outer s H E).ex:=λb z=>absurd (show b∈([]:List OS) from z) (by simp);refine⟨⟨e0.mod,S.kind,rfl,rfl,ON _,λy z c h1 h2=>?_,λy hy=>?_,λy c _ h=>?_,λ_=>hd,Around.frames_deeper e0.frames,.inr ⟨rfl,rfl⟩,λb z=>absurd z (Hf b),e0.bs,e0.Fw,λb _ _=>Hf b,λb z=>absurd z (Hf b),e0.gW,e0.GL⟩,
  rfl,e0.bare,Un.kept hk,⟨_,x.toInCall.ns,λi y v h1 h2 h3=>?_⟩,λy c h=>⟨_,x.cell y c h⟩,e0.B0.fresh (ON _),λy c h=>?_,λp hp=>absurd (show p∈([]:List (OS×Obj)) from hp) (by simp),e0.B0.kept hk,?_⟩
 ·exact name_of_addr x.apart (PySem.mem_of_lookup h1) (PySem.mem_of_lookup h2)
 ·have hy:scope.names.lookup y=Od .cell\/scope.names.lookup y=Od .free:=hy;rcases hy with hy|hy
  ·exact lB hy
  ·exact absurd rfl (S.F4 _ (PySem.mem_of_lookup hy))
 ·exact Rw (x.above y c (PySem.mem_of_lookup h))
 ·have hi:i<vs.length:=by
   unfold start at h2;by_cases hi:i<vs.length
   ·exact hi
   ·rw[Pf (by simpa using hi)]at h2;rw[Qi]at h2;split at h2<;>cases h2
  have ha:vs[i]?=Od v:=by
   unfold start at h2;rw[Pz (by simpa using hi),OX]at h2;cases e:vs[i]? with
   |none=>rw[e]at h2;cases h2
   |some a=>rw[e]at h2;cases h2;rfl
  obtain⟨u,hu,rv⟩:=r.get ha;have hp:ps[i]?=Od y:=by
   rw[<-S.pre,UB ⋯];exact h1
  have K0:ps.Nodup:=by rw[<-S.pre];exact S.nd.sublist (VG _ _)
  refine⟨u,rv,?_⟩;rcases S.par y (Qf hp) with k|k
  ·exact .inl ⟨k,ju K0 hp hu k⟩
  ·obtain⟨c,e⟩:=lB (n:=s.heap.objs.size+1) k;refine .inr ⟨.inl k,c,e,?_⟩;have q:=x.cell y c e;rw[jv K0 hp hu (by show scope.names.lookup y≠_;rw[k];decide)]at q;exact q
 ·exact e0.B0.fresh (Rw (x.above y c (PySem.mem_of_lookup h)))
 ·unfold start;show _=N.length;rw[O8,OJ,RC];omega
theorem Aa{K:PySem.W.Frag}{dV kV doc pm CQ ct oc:OH}
 (lk:K.lookup f=Od ⟨oc,od,.func (PySem.W.fnOf name qual params body scope dV kV doc pm an CQ ct),Hg⟩) (C_:PySem.W.codeIn K CQ qual=OA) (S:cI N ps scope)
    (len:∀vs H Q E,sp vs H Q E->vs.length=ps.length)
    (Et:∀(A:QW) (outer:List Env) (s:OR) (H:Hp) (vs:List V) (Q:VK) (E:XK),eB k (A.deeper (SV qual scope s.heap.objs.size f CQ))->sp vs H Q E ->
      ∃t,CP (lA CX P w K mg base N qual scope f CQ A outer s H E) body t/\t {nx:=λ_ H'=>Q .BZ H',rt:=Q} (start N vs) H) :
    h_ P w K mg base CX (k+1) f (PySem.W.fnOf name qual params body scope dV kV doc pm an CQ ct) ps sp:=by
  refine⟨len,λA outer s H args us vs Q E hr e0 hb r DE=>?_⟩;have hl:=len _ _ _ _ DE;have KX:K.In s.heap:=e0.mod.Iy.keeps λb o e=>(e0.bs b o e).1;have lim:s.heap.NoLimit:=e0.mod.nolimit.keeps λb o e=>(e0.bs b o e).1;have Hh:∀y∈ps.zip us,scope.names.lookup y.1=Od .local\/(scope.names.lookup y.1=Od .cell/\((WS (s.heap.objs.size+1) scope.names []).lookup y.1).isSome=OA):=λ⟨n,v⟩ hy=>by
    rcases S.par n (TX hy).1 with q|q
    · exact .inl q
    · exact .inr ⟨q,PySem.W.cellsFrom_some _ _ _ (.inl q)⟩
  refine codeAny_call_function hr.depth (KX _ _ lk) rfl S.co S.gen rfl (PySem.W.codeRec_of KX C_) (hb _ _ _ _ ?_);refine wpAny_newFunctionEnv_cells S.kind Hh λenv he s1 x=>?_;subst he;refine⟨lim.keeps x.toInCall.keep,codeAny_func ?_⟩;obtain⟨t,ht,hq⟩:=Et A outer s H vs Q E (hr.deeper _) DE;have I:Inv (lA CX P w K mg base N qual scope f CQ A outer s H E) [] (start N vs) H s1:=qo S hr.hd e0 hl r x;refine PR (ht [] s1 (start N vs) H _ I hq) (λfl s' hs=>?_) λe s' hs=>hs;have fin:∀{σ':St} {H':Hp} {v:V} {u:OH},Inv (lA CX P w K mg base N qual scope f CQ A outer s H E) [] σ' H' s'->RelV v u->Q v H'->CE outer P w H s Q u s' :=
    λ{σ' H' v u} J rv q=>⟨v,H',J.os,J.bare,J.base,J.B0,rv,q⟩
  cases fl with
  | ret u =>
    obtain⟨v,σ',H',J,rv,q⟩:=hs;exact fin J rv q
  | next =>
    obtain⟨σ',H',J,q⟩:=hs;exact fin (v:=V.BZ) (u:=Pa) J rfl q
  | brk =>
    obtain⟨_,_,_,q⟩:=hs;exact Q2 q
  | cont =>
    obtain⟨_,_,_,q⟩:=hs;exact Q2 q
section
end
end L2
namespace HT
open PySem PyProof.Rows
section
open PySem.SeqAt
open PySem.AutoSeq1 (wpAny_loadPart')
open PySem.MeetsSeq PySem.MeetsSeq2 PySem.MeetsSeq3
end
section
theorem vi(ht:V2 s.heap t vs.toArray)(hb:V2 s.heap b ws.toArray)(hv:vs≠[])
  (h1:ws=[]->Q (.ref t) s) (h2:ws≠[]->Q (.ref s.heap.objs.size) {s with heap:=s.heap.push {cls:=.type "tuple",data:=.seq (vs++ws).toArray}})
  (hsz:vs.length+ws.length<=OG):OK (OU prog w) A (Rp .Add (.ref t) (.ref b)) Q E s:=by
 obtain⟨⟨cls,dd,data,sl⟩,ho,hc,n,hd⟩:=id ht;obtain⟨⟨Hi,GR,data2,GS⟩,D0,FC,n2,hd2⟩:=id hb;simp only at hc hd FC hd2;subst hc hd FC hd2;have e:vs.toArray++ws.toArray=(vs++ws).toArray:=by simp
 by_cases hw:ws=[]
 ·exact T9 ⟨_,ho,rfl⟩ ⟨_,D0,rfl⟩ Uw Ve PySem.F.slot_tuple_add PySem.F.entry_tuple_add (PySem.F.args_tuple_add_2 _ _)
   (tuple_addW1 t b vs.toArray ws.toArray n n2 dd GR sl GS (by simpa using hv) (by simp[hw])) ⟨ho,D0,h1 hw⟩
 ·refine T9 ⟨_,ho,rfl⟩ ⟨_,D0,rfl⟩ Uw Ve PySem.F.slot_tuple_add PySem.F.entry_tuple_add (PySem.F.args_tuple_add_2 _ _)
   (tuple_addW2 t b vs.toArray ws.toArray n n2 dd GR sl GS (by simpa using hv) (by simpa using hw) (by rw[OL,OL];exact hsz)) ⟨ho,D0,?_⟩
  rw[e];exact h2 hw
def B4(n d:Nat):Option Int->Nat
 |none=>d
 |some v=>if v<0 then(v+(n:Int)).toNat else min v.toNat n
theorem ye(n d:Nat)(hd:d<=n)(o:Option Int):B4 n d o<=n:=by
 cases o with
 |none=>exact hd
 |some v =>
  show(if v<0 then(v+(n:Int)).toNat else min v.toNat n)<=n;by_cases hv:v<0
  ·rw[Xs hv];omega
  ·rw[Xu hv];exact Nat.min_le_right _ _
theorem oJ(v:Int)(n d:Nat):(if v<0 then max (v+(n:Int)) 0 else min v (n:Int))=((B4 n d (Od v):Nat):Int):=by
 show(if v<0 then max (v+(n:Int)) 0 else min v (n:Int))=(((if v<0 then(v+(n:Int)).toNat else min v.toNat n):Nat):Int)
 by_cases hv:v<0
 ·simp only[Xs hv];omega
 ·simp only[Xu hv];omega
theorem m6(lo hi:Option Int)(n:Nat):RK lo hi 1 (n:Int)=(((B4 n 0 lo:Nat):Int),((B4 n n hi:Nat):Int)):=by
 have h1:¬((1:Int)<0):=by omega
 unfold RK;simp only[h1,Xx];refine Wb ?_ ?_
 ·cases lo with
  |none=>rfl
  |some v=>exact oJ v n 0
 ·cases hi with
  |none=>rfl
  |some v=>exact oJ v n n
theorem m7(i j:Nat):QS (i:Int) (j:Int) 1=j - i:=by
 unfold QS;have h1:(1:Int)>0:=by omega
 simp only[h1,if_true,Int.ediv_one];split<;>omega
theorem ia(p:Tn v o)(h:Q o s):OK (OU prog w) A (WV v) Q E s:=by
 cases p with
 |none=>exact Xo h
 |int i t=>exact slicePart_int h
theorem cO{lo hi:Option Int}{n:Nat}(hs:s.heap.IsSliceOf sl vl vu .none)(pl:Tn vl lo)(pu:Tn vu hi)
  (h:Q (((B4 n 0 lo:Nat):Int),1,B4 n n hi - B4 n 0 lo) s):OK (OU prog w) A (S8 (.ref sl) (pure (n:Int))) Q E s:=by
 obtain⟨os,Eu,IF,Hj⟩:=id hs;unfold S8 WW;refine Oz (Oz (Ry Eu Hj (x:=vl) rfl (Oz (Ry Eu Hj (x:=vu) rfl (Oz (Ry Eu Hj (x:=.none) rfl (OF ?_)))))));refine Oz (Xo ?_);show OK _ _ (if ((1:Int)==0)=OA then _ else _) _ _ s;rw[Xu (by decide)];refine Oz (ia pl (Oz (ia pu (Oz (OF ?_)))));show OK _ _ (match RK lo hi 1 (n:Int) with|(lo,hi)=>pure (lo,(1:Int),QS lo hi 1)) _ _ s;rw[m6 lo hi n];show OK _ _ (pure (((B4 n 0 lo:Nat):Int),(1:Int),QS ((B4 n 0 lo:Nat):Int) ((B4 n n hi:Nat):Int) 1)) _ _ s;rw[m7];exact OF h
theorem rN(xs:Array OH)(i k:Nat):((O2 k).filterMap λ(m:Nat)=>xs[((i:Int)+(m:Int) * 1).toNat]?).toArray=((xs.toList.drop i).take k).toArray:=by
 have e:(λ(m:Nat)=>xs[((i:Int)+(m:Int) * 1).toNat]?)=λm=>xs[i+m]?:=by
  funext m
  have:((i:Int)+(m:Int) * 1).toNat=i+m:=by omega
  rw[this]
 rw[e];have:=pick_run xs i k;rw[List.filterMap_map]at this;have e2:((λx=>xs[x]?) ∘ λx=>i+x)=λm=>xs[i+m]?:=rfl;rw[e2]at this;rw[this]
theorem fk{lo hi:Option Int}(ht:V2 s.heap t items)(hs:s.heap.IsSliceOf sl vl vu .none)(pl:Tn vl lo)(pu:Tn vu hi)
  (hw:¬(B4 items.size 0 lo=0/\B4 items.size items.size hi=items.size))
  (h:Q (.ref s.heap.objs.size) {s with heap:=s.heap.push {cls:=.type "tuple",data:=.seq ((items.toList.drop (B4 items.size 0 lo)).take (B4 items.size items.size hi - B4 items.size 0 lo)).toArray}})
  (hsz:items.size<=OG):OK (OU prog w) A (Ts (.ref t) (.ref sl)) Q E s:=by
 have D3:sizeOk (.seq ((items.toList.drop (B4 items.size 0 lo)).take (B4 items.size items.size hi - B4 items.size 0 lo)).toArray):=by
  show((items.toList.drop (B4 items.size 0 lo)).take (B4 items.size items.size hi - B4 items.size 0 lo)).toArray.size<=OG;rw[OL,PQ,TL,O9];omega
 have hj:B4 items.size items.size hi<=items.size:=ye _ _ (ON _) hi;obtain⟨os,Eu,IF,Hj⟩:=id hs;have JE:s.TypeIs (.ref sl) "slice":=⟨os,Eu,IF⟩
 unfold Ts
 try with_reducible refine PJ ?_
 first|refine Oz (OF ?_)|skip
 refine Oz (Wu ht.typeIs (by decide) ?_);refine Oz (Qm (name:=Q9 "__getitem__") ht.typeIs Pt
  (PK Pt ht.typeIs V_ ?_ (Wm _ _)))
 show OK _ _ (RB (.ref t) >>= _) _ _ s;refine Oz (tupleItemsOf_ ht ?_);refine Oz (Rg JE ?_);rw[Xs (by decide)];refine Oz (cO hs pl pu ?_);have JF:¬((((B4 items.size 0 lo:Nat):Int)==0&&(1:Int)==1&&(B4 items.size items.size hi - B4 items.size 0 lo)==items.size)=OA):=by
  intro q;rw[OD,OD]at q;have q1:((B4 items.size 0 lo:Nat):Int)=0:=Vq q.1.1;have q2:B4 items.size items.size hi - B4 items.size 0 lo=items.size:=Vq q.2;exact hw ⟨⋯,⋯⟩
 show OK _ _ (if (((B4 items.size 0 lo:Nat):Int)==0&&(1:Int)==1&&(B4 items.size items.size hi - B4 items.size 0 lo)==items.size)=OA then _ else _) _ _ s;rw[Xu JF,rN]
 first
  |exact Oz (m:=P7 _) (Pe (OF ⟨_,rfl,OF h⟩) D3)
  |exact Oz (m:=P7 _) (Pe (Oz (OF (OF ⟨_,rfl,OF h⟩))) D3)
  |exact Oz (Oz (m:=P7 _) (Pe (OF (OF ⟨_,rfl,OF h⟩)) D3))
  |exact Oz (Oz (m:=P7 _) (Pe (OF ⟨_,rfl,OF h⟩) D3))
end
end HT
namespace L2
open PySem PySem.Spec PyProof.Rows
abbrev TO:=St->Hp->(Option Int->Hp->Prop)->Prop
def PO(X:Cx)(e:Option Pw)(t:TO):Prop :=
 ∀(pins:List (OS×Obj)) (s:OR) (σ:St) (H:Hp) (Q:Option Int->Hp->Prop),Inv X pins σ H s->t σ H Q ->
  OK (OU X.prog X.w) X.A (evalPart e X.env) (λu s'=>∃o H',Inv X pins σ H' s'/\Tn u o/\Q o H') X.xe s
def vj:TO:=λ_ H Q=>Q OB H
def Ab(t:TE):TO:=λσ H Q=>t σ H λx H1=>∃i,x=.int i/\Q (Od i) H1
section
variable{X:Cx}{e:Pw}{te:TE}{lo hi:Option Pw}{tl th:TO}{pos p2:Pos}
theorem vk:PO X OB vj:=by
 intro pins s σ H Q I h;rw[evalPart_none];exact OF ⟨OB,H,I,.none,h⟩
theorem vm(h:PE X e te):PO X (Od e) (Ab te):=by
 intro pins s σ H Q I hw;rw[evalPart_some];refine B6 (h pins s σ H _ I hw) λu s1 ⟨x,H1,I1,r1,q1⟩=>?_;obtain⟨i,rfl,q⟩:=q1;obtain⟨t,rfl⟩:=r1;exact⟨Od i,H1,I1,.int i t,q⟩
def EW(X:Cx)(r:V->Option Int->Option Int->Hp->VK->Prop):Prop :=
 ∀(pins:List (OS×Obj)) (s:OR) (σ:St) (H:Hp) (x:V) (v vl vu:OH) (lo hi:Option Int) (sl:OS) (Q:VK),Inv X pins σ H s->RelV x v->s.heap.IsSliceOf sl vl vu .none->Tn vl lo->Tn vu hi->r x lo hi H Q ->
  ∃T id,UW (.type T) "__getitem__"=pure (Od (.builtin id))/\s.TypeIs v T/\OK (OU X.prog X.w) X.A (Ts v (.ref sl)) (EP X pins σ Q) X.xe s
theorem EW.or(h:EW X r)(h':EW X r'):EW X (λx lo hi H Q=>r x lo hi H Q\/r' x lo hi H Q):=by
 intro pins s σ H x v vl vu lo hi sl Q I rx hs pl pu q;rcases q with q|q
 ·exact h pins s σ H x v vl vu lo hi sl Q I rx hs pl pu q
 ·exact h' pins s σ H x v vl vu lo hi sl Q I rx hs pl pu q
def LZ(r:V->Option Int->Option Int->Hp->VK->Prop)(te:TE)(tl th:TO):TE:=λσ H Q=>te σ H λx H1=>tl σ H1 λl H2=>th σ H2 λu H3=>r x l u H3 Q
theorem rO(hr:EW X r)(he:PE X e te)(hl:PO X lo tl)(hu:PO X hi th):PE X (.Subscript e (.Slice lo hi OB p2) pos) (LZ r te tl th):=by
 intro pins s σ H Q I h;refine Subscript_ (B6 (he pins s σ H _ I h) λv s1 ⟨x,H1,I1,r1,q1⟩=>?_);refine wpAny_Slice (B6 (hl pins s1 σ H1 _ I1 q1) λvl s2 ⟨l,H2,I2,pl,q2⟩=>B6 (hu pins s2 σ H2 _ I2 q2) λvu s3 ⟨u,H3,I3,pu,q3⟩=>?_);rw[evalPart_none];refine OF ?_;have I4:Inv X pins σ H3 {s3 with heap:=s3.heap.push {cls:=.type "slice",data:=.fields #[vl,vu,.none]}}:=I3.kept (t':=s3.toks) λb ob q=>OC _ q;obtain⟨T,id,hT,ht,hg⟩:=hr pins {s3 with heap:=s3.heap.push {cls:=.type "slice",data:=.fields #[vl,vu,.none]}} σ H3 x v vl vu l u s3.heap.objs.size Q I4 r1 (WI ..) pl pu q3;show OK (OU X.prog X.w) X.A (Vi e (.Slice lo hi OB p2) v (.ref s3.heap.objs.size)) (EP X pins σ Q) X.xe {s3 with heap:=s3.heap.push {cls:=.type "slice",data:=.fields #[vl,vu,.none]}};exact Xl (ops:=[.ref s3.heap.objs.size,v]) ht hT hg (by with_unfolding_all rfl)
def lC(xs:List V)(lo hi:Option Int):List V:=(xs.drop (HT.B4 xs.length 0 lo)).take (HT.B4 xs.length xs.length hi - HT.B4 xs.length 0 lo)
theorem gw(xs:List V)(lo hi:Option Int):(lC xs lo hi).length<=xs.length:=by
 unfold lC;rw[PQ,TL];omega
def Ac(K:PySem.W.Frag):V->Option Int->Option Int->Hp->VK->Prop:=λx lo hi H Q=>∃a xs,x=.ref a/\Ci K H a xs /\
 ¬(HT.B4 xs.length 0 lo=0/\HT.B4 xs.length xs.length hi=xs.length)/\∀p,H p=OB->Q (.ref p) (upd H p (.tup (lC xs lo hi)))
theorem yf:EW X (Ac X.K):=by
 intro pins s σ H x v vl vu lo hi sl Q I rx hs pl pu h;obtain⟨a,xs,rfl,hx,hw,q⟩:=h;cases rx;obtain⟨A',r,ht,hz⟩:=I.tuple hx;have hlen:A'.toArray.size=xs.length:=by rw[OL];exact r.length.symm
 refine⟨"tuple",_,Pt.lookup,ht.typeIs,?_⟩;refine HT.fk ht hs pl pu (by rw[hlen];exact hw) ?_ (by rw[hlen];exact hz);rw[hlen];refine⟨.ref s.heap.objs.size,_,I.laid (t':=s.toks) (o:=.tup (lC xs lo hi)) (λb ob q=>OC _ q) (ON _) ?_,rfl,q _ (I.B0.fresh (ON _))⟩;exact⟨Qe (gw xs lo hi) hz,_,(r.drop (HT.B4 xs.length 0 lo)).take (HT.B4 xs.length xs.length hi - HT.B4 xs.length 0 lo),TB _ _⟩
def Ad(K:PySem.W.Frag):R2:=λx y H Q=>∃a b xs ys,x=.ref a/\y=.ref b/\Ci K H a xs/\Ci K H b ys/\xs≠[]/\xs.length+ys.length<=OG /\
 (ys=[]->Q (.ref a) H)/\(ys≠[]->∀p,H p=OB->Q (.ref p) (upd H p (.tup (xs++ys))))
theorem Vals.j8(r:Vals xs us):us=[]↔xs=[]:=by
 cases r with
 |_=>simp
theorem vn:C5 X (Rp .Add) (Ad X.K):=by
 intro pins s σ H x y v u Q I rx ry h;obtain⟨a,b,xs,ys,rfl,rfl,ha,hb,hx,hz,q1,q2⟩:=h;cases rx;cases ry;obtain⟨A',r1,p1,_⟩:=I.tuple ha;obtain⟨B8,r2,p2,_⟩:=I.tuple hb;refine HT.vi p1 p2 (λz=>hx (r1.j8.mp z)) (λz=>⟨.ref a,H,I,rfl,q1 (r2.j8.mp z)⟩) (λz=>?_) (by rw[<-r1.length,<-r2.length];exact hz);refine⟨.ref s.heap.objs.size,_,I.laid (t':=s.toks) (o:=.tup (xs++ys)) (λb ob q=>OC _ q) (ON _) ?_,rfl,q2 (λw=>z (r2.j8.mpr w)) _ (I.B0.fresh (ON _))⟩;exact⟨by rw[O8];exact hz,_,r1.append r2,TB _ _⟩
end
def E8(n:Nat)(i:Int):Option Nat:=if 0<=i then(if i<n then Od i.toNat else OB) else if -(n:Int)<=i then Od (i+n).toNat else OB
def CS{α:Type}(xs:List α)(i:Int):Option α:=(E8 xs.length i).bind λj=>xs[j]?
theorem oK{n:Nat}(h:E8 n i=Od j):Uu i n=Od j/\j<n/\-(n:Int)<=i/\i<n:=by
 unfold E8 at h;by_cases h0:0<=i
 ·rw[Xs h0]at h;by_cases h1:i<n
  ·rw[Xs h1]at h;have e:i.toNat=j:=Px h;exact⟨by rw[VQ h0 h1,e],⋯,⋯,h1⟩
  ·rw[Xu h1]at h;cases h
 ·rw[Xu h0]at h;by_cases h1:-(n:Int)<=i
  ·rw[Xs h1]at h;have e:(i+n).toNat=j:=Px h;exact⟨by rw[seqIndex_neg ⋯ h1,e],⋯,h1,⋯⟩
  ·rw[Xu h1]at h;cases h
theorem j9(h:CS xs i=Od v):∃j,Uu i xs.length=Od j/\xs[j]?=Od v/\j<xs.length/\-(xs.length:Int)<=i/\i<xs.length:=by
 unfold CS at h;cases e:E8 xs.length i with
 |none=>rw[e]at h;cases h
 |some j =>
  rw[e]at h;obtain⟨h1,h2,h3,h4⟩:=oK e;exact⟨j,h1,h,h2,h3,h4⟩
theorem gP{j:Nat}(h:xs[j]?=Od v):CS xs (j:Int)=Od v:=by
 have hj:j<xs.length:=(OT.mp h).1;have e:E8 xs.length (j:Int)=Od j:=by
  unfold E8;rw[Xs ⋯,Xs ⋯];simp
 unfold CS;rw[e];exact h
def j_(b:Pw):Prop:=∀o i,subscripted b OE o i=operate [o,i] (Ts o i)
def JG(X:Cx)(r:R2):Prop :=
 ∀(value slice:Pw) (pins:List (OS×Obj)) (s:OR) (σ:St) (H:Hp) (x y:V) (v u:OH) (Q:VK),Inv X pins σ H s->RelV x v->RelV y u->r x y H Q ->
  subscripted slice OE v u=operate [v,u] (Ts v u)->OK (OU X.prog X.w) X.A (Vi value slice v u) (EP X pins σ Q) X.xe s
def IG(X:Cx)(id:String)(r:V->List V->Hp->VK->Prop):Prop :=
 ∀(pins:List (OS×Obj)) (s:OR) (σ:St) (H:Hp) (x:V) (xs:List V) (v:OH) (us:List OH) (Q:VK),Inv X pins σ H s->RelV x v->Vals xs us->r x xs H Q ->
  OK (OU X.prog X.w) X.A (Rm (.builtin id) (v::us)) (EP X pins σ Q) X.xe s
section
def BE(K:PySem.W.Frag):R2:=λx y H Q=>∃p xs i v,x=.ref p/\y=.int i/\Cn K H p xs/\CS xs i=Od v/\Q v H
def BF(K:PySem.W.Frag):R2:=λx y H Q=>∃p xs i v,x=.ref p/\y=.int i/\Ci K H p xs/\CS xs i=Od v/\Q v H
def BG:R2:=λx y H Q=>∃z i c,x=.str z/\y=.int i/\z.length<=OG/\CS z.cps.toList i=Od c/\Q (.str ⟨#[c]⟩) H
theorem vo:JG X (BE X.K):=by
 intro value slice pins s σ H x y v u Q I rx ry h hs;obtain⟨p,xs,i,z,rfl,rfl,hq,he,q⟩:=h;cases rx;obtain⟨t,rfl⟩:=ry;obtain⟨A',r,pl,hz⟩:=I.list hq;obtain⟨j,h1,h2,h3,h4,h5⟩:=j9 he;obtain⟨w,ew,Ew⟩:=r.get h2;have hl:=r.length;have hn:=eT;have fin:EP X pins σ Q w s:=⟨z,H,I,Ew,q⟩
 by_cases h0:0<=i
 ·have hj:i.toNat=j:=by
   rw[VQ h0 h5]at h1;exact Px h1
  exact item_listR pl.isList h0 ⋯ (by rw[hj];simpa using ew) fin hs
 ·have hj:(i+(A'.toArray.size:Int)).toNat=j:=by
   rw[seqIndex_neg ⋯ h4]at h1;rw[OL,<-hl];exact Px h1
  exact VD (x:=w) pl.isList.typeIs Wy.lookup
   (wpAny_getItem_list_neg (Q:=λr s'=>r=w/\EP X pins σ Q r s') pl.isList ⋯ (by rw[OL]<;>omega) ⋯ (by rw[hj];simpa using ew) ⟨rfl,fin⟩) hs
theorem m8:JG X (BF X.K):=by
 intro value slice pins s σ H x y v u Q I rx ry h hs;obtain⟨p,xs,i,z,rfl,rfl,hq,he,q⟩:=h;cases rx;obtain⟨t,rfl⟩:=ry;obtain⟨A',r,pl,hz⟩:=I.tuple hq;obtain⟨j,h1,h2,h3,h4,h5⟩:=j9 he;obtain⟨w,ew,Ew⟩:=r.get h2;have hl:=r.length;have hn:=eT;have fin:EP X pins σ Q w s:=⟨z,H,I,Ew,q⟩
 exact VD (x:=w) pl.typeIs Pt.lookup
  (getItem_tuple (j:=j) (Q:=λr s'=>r=w/\EP X pins σ Q r s') pl ⋯ ⋯ (by rw[OL,<-hl];exact h1) (by simpa using ew) ⟨rfl,fin⟩) hs
theorem ka:JG X BG:=by
 intro value slice pins s σ H x y v u Q I rx ry h hs;obtain⟨z,i,c,rfl,rfl,hz,he,q⟩:=h;obtain⟨t,rfl⟩:=rx;obtain⟨t',rfl⟩:=ry;obtain⟨j,h1,h2,h3,h4,h5⟩:=j9 he;have hl:z.cps.toList.length=z.length:=by simp[Xj]
 rw[hl]at h1 h4 h5;have hn:=eT;exact Xl (Sj s z t) WZ.lookup (getItem_str (c:=c) (by
  have e1:OI (i < -(2 ^ 63:Int))=OE:=Xv ⋯;have e2:OI (i >= 2 ^ 63)=OE:=Xv ⋯;rw[e1,e2,Rf]) (by rw[h1];simpa using h2) ⟨.str ⟨#[c]⟩,H,I.tok _,⟨_,rfl⟩,q⟩) hs
theorem m9(A':List OH)(n j:Nat)(u:OH):Pd (·.setIfInBounds j u) {cls:=.type "list",data:=.seq A'.toArray n}={cls:=.type "list",data:=.seq (A'.set j u).toArray n}:=by
 simp[Pd]
theorem Inv.lst(I:Inv X pins σ H s)(h:H p=Od (.lst xs)):
  ∃(A':List OH) (n:Nat),Vals xs A'/\s.heap.get? p=Od {cls:=.type "list",data:=.seq A'.toArray n}/\xs.length<=OG:=by
 obtain⟨z,A',n,r,e⟩:=I.B0 p _ h;exact⟨A',n,r,e,z⟩
theorem Inv.yg{A' its':List OH}(I:Inv X pins σ H s)(h:H p=Od (.lst xs))
  (ho:s.heap.get? p=Od {cls:=.type "list",data:=.seq A'.toArray n}) (hf:f {cls:=.type "list",data:=.seq A'.toArray n}={cls:=.type "list",data:=.seq its'.toArray n' }) (r:Vals ys its') (hz:ys.length<=OG) (t:Nat) :
  Inv X pins σ (upd H p (.lst ys)) {s with heap:=s.heap.update p f,toks:=t}:=by
 have e:(s.heap.update p f).get? p=Od {cls:=.type "list",data:=.seq its'.toArray n' }:=by
  rw[PH f ho (by rw[hf]<;>rfl),hf]
 refine I.write (x:=p) (e:=p) (by rw[h];trivial) (.inl rfl) (λb u hb q=>(QK _ _ (Qa hb)).trans q) ⟨_,e⟩ ?_;exact⟨hz,its',n',r,e⟩
def Ae:V->V->V->Hp->(Hp->Prop)->Prop:=λo i v H Q=>∃p xs k j,o=.ref p/\i=.int k/\H p=Od (.lst xs)/\E8 xs.length k=Od j/\Q (upd H p (.lst (xs.set j v)))
theorem set_list:jd X Ae:=by
 intro pins s σ H o i v ov iv u Q I ro ri rv h;obtain⟨p,xs,k,j,rfl,rfl,hp,hj,q⟩:=h;cases ro;obtain⟨t,rfl⟩:=ri;obtain⟨A',n,r,ho,hz⟩:=I.lst hp;obtain⟨h1,h2,h3,h4⟩:=oK hj;have hl:=r.length;have hn:=eT;have I':Inv X pins σ (upd H p (.lst (xs.set j v))) {s with heap:=s.heap.update p (Pd (·.setIfInBounds j u))} :=
  I.yg hp ho (m9 A' n j u) (r.set rv j) (by rw[V6];exact hz) s.toks
 by_cases h0:0<=k
 ·have hk:k.toNat=j:=by
   rw[VQ h0 h4]at h1;exact Px h1
  exact PySem.W.ki_setAt ho h0 ⋯ (by rw[OL,<-hl];exact h4) (by rw[hk];exact⟨_,I',q⟩)
 ·have hk:(k+(A'.toArray.size:Int)).toNat=j:=by
   rw[seqIndex_neg ⋯ h3]at h1;rw[OL,<-hl];exact Px h1
  exact PySem.W.ki_setBack ho ⋯ (by rw[OL,<-hl];exact h3) ⋯ (by rw[hk];exact⟨_,I',q⟩)
theorem kb(lo hi:Option Int)(n:Nat):(RY lo hi OB n).1=((HT.B4 n 0 lo:Nat):Int)/\(RY lo hi OB n).2.1=((HT.B4 n n hi:Nat):Int)/\(RY lo hi OB n).2.2=1:=by
 refine⟨?_,?_,rfl⟩
 ·cases lo with
  |none=>simp[RY,HT.B4]
  |some i =>
   simp only[RY,HT.B4,Tt,show(1:Int)>0 by decide,if_true];by_cases h:i<0
   ·simp only[h,if_true]<;>omega
   ·simp only[h,Xx]<;>omega
 ·cases hi with
  |none=>simp[RY,HT.B4]
  |some i =>
   simp only[RY,HT.B4,Tt,show(1:Int)>0 by decide,if_true];by_cases h:i<0
   ·simp only[h,if_true]<;>omega
   ·simp only[h,Xx]<;>omega
theorem je(A':List OH)(lo hi:Option Int):slicePick A'.toArray lo hi OB=((A'.drop (HT.B4 A'.length 0 lo)).take (HT.B4 A'.length A'.length hi - HT.B4 A'.length 0 lo)).toArray:=by
 obtain⟨h1,h2,h3⟩:=kb lo hi A'.toArray.size;unfold slicePick;rw[h1,h2,h3];simp only[sliceRange_one,pick_run,OL]<;>rfl
def Af(K:PySem.W.Frag):V->Option Int->Option Int->Hp->VK->Prop:=λx lo hi H Q=>∃a xs,x=.ref a/\Cn K H a xs/\∀p,H p=OB->Q (.ref p) (upd H p (.lst (lC xs lo hi)))
theorem vp:EW X (Af X.K):=by
 intro pins s σ H x v vl vu lo hi sl Q I rx hs pl pu h;obtain⟨a,xs,rfl,hx,q⟩:=h;cases rx;obtain⟨A',r,ht,hz⟩:=I.list hx;have hlen:=r.length;refine⟨"list",_,Wy.lookup,ht.isList.typeIs,?_⟩;refine wpAny_getItem_list_slice ht.isList hs pl pu .none (by simp) ?_ (by rw[OL]<;>omega);rw[je,<-hlen];refine⟨.ref s.heap.objs.size,_,I.laid (t':=s.toks) (o:=.lst (lC xs lo hi)) (λb ob q=>OC _ q) (ON _) ?_,rfl,q _ (I.B0.fresh (ON _))⟩;exact⟨Qe (gw xs lo hi) hz,_,0,(r.drop (HT.B4 xs.length 0 lo)).take (HT.B4 xs.length xs.length hi - HT.B4 xs.length 0 lo),OO _ rfl⟩
theorem fm:eG X (.builtin "len") (λxs H Q=>∃p ys,xs=[.ref p]/\(Cn X.K H p ys\/Ci X.K H p ys)/\Q (.int ys.length) H):=by
 intro pins s σ H xs us Q I r h;obtain⟨p,ys,rfl,hq,q⟩:=h;obtain⟨u,rfl,rx⟩:=vals1 r;cases rx;have hn:=eT;rcases hq with hq|hq
 ·obtain⟨A',r',pl,hz⟩:=I.list hq;have hlen:=r'.length;exact Calls.call_len_list pl.isList (by simp only[OL]<;>omega) ⟨.int ys.length,H,I.tok _,⟨s.toks+1,by rw[OL,hlen]⟩,q⟩
 ·obtain⟨A',r',pl,hz⟩:=I.tuple hq;have hlen:=r'.length;exact len_tuple pl (by simp only[OL]<;>omega) ⟨.int ys.length,H,I.tok _,⟨s.toks+1,by rw[OL,hlen]⟩,q⟩
theorem kf:eG X (.builtin "len") (λxs H Q=>∃z,xs=[.str z]/\z.length<=OG/\Q (.int z.length) H):=by
 intro pins s σ H xs us Q I r h;obtain⟨z,rfl,hz,q⟩:=h;obtain⟨u,rfl,t,rfl⟩:=vals1 r;have hn:=eT;exact len_str ⋯ ⟨.int z.length,H,I.tok _,⟨_,rfl⟩,q⟩
theorem fq:eG X (.type "list") (λxs H Q=>∃p ys,xs=[.ref p]/\(Cn X.K H p ys\/Ci X.K H p ys)/\∀l,H l=OB->Q (.ref l) (upd H l (.lst ys))):=by
 intro pins s σ H xs us Q I r h;obtain⟨p,ys,rfl,hq,q⟩:=h;obtain⟨u,rfl,rx⟩:=vals1 r;cases rx;have fin:∀(A':List OH),Vals ys A'->ys.length<=OG->∀(h':Qk) (c':Nat),(∀b o',s.heap.get? b=Od o'->h'.get? b=Od o') ->
   h'.get? s.heap.objs.size=Od {cls:=.type "list",dict:=OB,data:=.seq A'.toArray c',slots:=#[]}->EP X pins σ Q (.ref s.heap.objs.size) {s with heap:=h' }:=λA' r' hz h' c' kp e =>
  ⟨.ref s.heap.objs.size,_,I.laid (t':=s.toks) kp (ON _) (show aY X.prog X.w _ h' _ (.lst ys) from⟨hz,A',c',r',e⟩),rfl,q _ (I.B0.fresh (ON _))⟩
 rcases hq with hq|hq
 ·obtain⟨A',r',pl,hz⟩:=I.list hq;have hlen:=r'.length;obtain⟨o,ho,hc,n,hd⟩:=pl.isList;exact call_list_seq p (.inl rfl) ho hc hd (λh' c' kp e=>fin A' r' hz h' c' kp e) (by simp only[OL]<;>omega)
 ·obtain⟨A',r',pl,hz⟩:=I.tuple hq;have hlen:=r'.length;obtain⟨o,ho,hc,n,hd⟩:=pl;exact call_list_seq p (.inr rfl) ho hc hd (λh' c' kp e=>fin A' r' hz h' c' kp e) (by simp only[OL]<;>omega)
theorem eI:eG X (.type "tuple") (λxs H Q=>∃p ys,xs=[.ref p]/\((Cn X.K H p ys/\∀l,H l=OB->Q (.ref l) (upd H l (.tup ys)))\/(Ci X.K H p ys/\Q (.ref p) H))):=by
 intro pins s σ H xs us Q I r h;obtain⟨p,ys,rfl,h⟩:=h;obtain⟨u,rfl,rx⟩:=vals1 r;cases rx;rcases h with⟨hq,q⟩|⟨hq,q⟩
 ·obtain⟨A',r',pl,hz⟩:=I.list hq;have hlen:=r'.length;refine call_tuple_list pl.isList (λh' kp=>?_) (by simp only[OL]<;>omega);have I1:Inv X pins σ H {s with heap:=h' }:=I.kept (t':=s.toks) kp;have I2:Inv X pins σ (upd H h'.objs.size (.tup ys)) {s with heap:=h'.push {cls:=.type "tuple",data:=.seq A'.toArray}} :=
   I1.laid (t':=s.toks) (λb o e=>OC _ e) (ON _) (show aY X.prog X.w _ _ _ (.tup ys) from⟨hz,A',r',TB _ _⟩)
  exact⟨.ref h'.objs.size,_,I2,rfl,q _ (I1.B0.fresh (ON _))⟩
 ·obtain⟨A',r',pl,hz⟩:=I.tuple hq;exact call_tuple_same pl ⟨.ref p,H,I,rfl,q⟩
def IH(K:PySem.W.Frag)(T:String)(x:V)(H:Hp):Prop:=match x with
 |.str _=>T="str"
 |.int _=>T="int"
 |.ref p=>(T="list"/\∃xs,Cn K H p xs)\/(T="tuple"/\∃o,K.lookup p=Od o/\o.cls=.type "tuple"/\o.dict=OB) \/
   (T="dict"/\((∃kvs,H p=Od (.dK kvs))\/∃kvs,H p=Od (.dT kvs)))\/(T="set"/\∃S n,H p=Od (.set S n))
 |_=>False
theorem m_(I:Inv X pins σ H s)(r:RelV x v)(ty:IH X.K T x H):
  s.TypeIs v T/\∀a,v=.ref a->∃ob,s.heap.get? a=Od ob/\ob.dict=OB:=by
 cases x with
 |str z =>
  obtain⟨t,rfl⟩:=r;cases(show T="str" from ty);exact⟨Sj s z t,λ_ e=>nomatch e⟩
 |int i =>
  obtain⟨t,rfl⟩:=r;cases(show T="int" from ty);exact⟨typeIs_int s i t,λ_ e=>nomatch e⟩
 |ref p =>
  cases r;rcases ty with⟨rfl,xs,hq⟩|⟨rfl,o,hk,hc,hd⟩|⟨rfl,hk⟩|⟨rfl,S,n,hk⟩
  ·obtain⟨A',_,pl,_⟩:=I.list hq;refine⟨pl.isList.typeIs,λa e=>?_⟩;cases e;obtain⟨o,n,e,c,hd,_⟩:=pl;exact⟨o,e,hd⟩
  ·refine⟨⟨o,I.FY p o hk,hc⟩,λa e=>?_⟩;cases e;exact⟨o,I.FY _ o hk,hd⟩
  ·have z:∃o,s.heap.get? p=Od o/\o.ExactDict:=by
    rcases hk with⟨kvs,hk⟩|⟨kvs,hk⟩
    ·obtain⟨_,_,_,_,o,_,_,e,ex,_⟩:=I.B0 p _ hk;exact⟨o,e,ex⟩
    ·obtain⟨_,_,_,_,o,_,_,e,ex,_⟩:=I.B0 p _ hk;exact⟨o,e,ex⟩
   obtain⟨o,e,ex⟩:=z;refine⟨⟨o,e,ex.1⟩,λa e2=>?_⟩;cases e2;exact⟨o,e,ex.2.1⟩
  ·obtain⟨o,_,_,_,e,ex,_⟩:=I.B0 p _ hk;refine⟨⟨o,e,ex.1⟩,λa e2=>?_⟩;cases e2;exact⟨o,e,ex.2.1⟩
 |_=>exact Q2 ty
def BH(K:PySem.W.Frag)(T:String)(r:V->List V->Hp->VK->Prop)(to:TE):TE:=λσ H Q=>to σ H λx H1=>IH K T x H1/\r x [] H1 Q
def L0(K:PySem.W.Frag)(T:String)(r:V->List V->Hp->VK->Prop)(to:TE)(t:TA):TE:=λσ H Q=>to σ H λx H1=>IH K T x H1/\t σ H1 λxs H2=>r x xs H2 Q
variable{o e:Pw}{es:List Pw}{to:TE}{t:TA}{name:Str}{apos BW:Pos}{T id:String}{r:V->List V->Hp->VK->Prop}
theorem rP(pa:PlainAttrs T)(slot:Slot T name id)(Hk:Vt (.builtin id)=pure (.type "method_descriptor"))(hm:IG X id r)(ho:PE X o to)
  (CM:RV o name X.env (Qx o X.env)=Qx o X.env:=by rfl) (B9:(apos.endLine==BW.line)=OA:=by rfl):PE X (.Call (.Attribute o name apos) [] [] BW) (BH X.K T r to):=by
 intro pins s σ H Q I h;refine Vj CM B9 (B6 (ho pins s σ H _ I h) λv s1 ⟨x,H1,I1,r1,ty,q1⟩=>?_);obtain⟨h1,h2⟩:=m_ I1 r1 ty;exact⟨T,id,pa,slot,Hk,h1,h2,QJ rfl (PySem.evalArgs_none (hm pins s1 σ H1 x [] v [] Q I1 r1 .nil q1))⟩
theorem rQ(pa:PlainAttrs T)(slot:Slot T name id)(Hk:Vt (.builtin id)=pure (.type "method_descriptor"))(hm:IG X id r)(ho:PE X o to)(ha:PA X (e::es) t)
  (CM:RV o name X.env (Qx o X.env)=Qx o X.env:=by rfl)
  (Dn:((QC BW (O4 (e::es) X.env)).all (λx=>!x.1)&&(Ub BW (Sw [] X.env)).all (λx=>x.1.isSome)
   && OI ((e::es).length+([]:List RX).length+(if ([]:List RX).isEmpty then 0 else 1)<30))=OA:=by rfl)
  (B9:(apos.endLine==BW.line)=OA:=by rfl) (hs:O4 (e::es) X.env=(OE,Qx e X.env)::O4 es X.env:=by rfl) (C6:(QC BW (O4 es X.env)).any (·.1)=OE:=by rfl) :
  PE X (.Call (.Attribute o name apos) (e::es) [] BW) (L0 X.K T r to t):=by
 intro pins s σ H Q I h;refine Vs CM Dn B9 rfl (B6 (ho pins s σ H _ I h) λv s1 ⟨x,H1,I1,r1,ty,q1⟩=>?_);obtain⟨h1,h2⟩:=m_ I1 r1 ty;refine⟨T,id,pa,slot,Hk,h1,h2,?_⟩;have hA:=ha BW pins s1 σ H1 _ I1 q1;rw[hs]at hA ⊢;refine QJ (by show(OE||(QC BW (O4 es X.env)).any (·.1))=OE;rw[C6]<;>rfl) (RJ ?_);exact B6 hA λus s2 ⟨vs,H2,I2,r2,q2⟩=>hm pins s2 σ H2 x vs v us Q I2 r1 r2 q2
end
def Hl(X:Cx)(id:String)(r:V->List V->Hp->VK->Prop):Prop :=
 ∀(pins:List (OS×Obj)) (s:OR) (σ:St) (H:Hp) (x:V) (xs:List V) (v:OH) (us:List OH) (Q:VK),Inv X pins σ H s->RelV x v->Vals xs us->r x xs H Q ->
  OK (OU X.prog X.w) X.A (Rm (.builtin id) (v::us)) (EP X pins σ Q) X.xe s
theorem Vals.one:∀{x:V}{us:List OH},Vals [x] us->∃u,us=[u]/\RelV x u
 |_,_,.cons r .nil=>⟨_,rfl,r⟩
theorem Vals.zero:∀{us:List OH},Vals [] us->us=[]
 |_,.nil=>rfl
theorem Vals.dropLast(h:Vals xs us):Vals xs.dropLast us.dropLast:=by
 induction h with
 |nil=>exact .nil
 |cons r t ih =>
  cases t with
  |nil=>exact .nil
  |cons q t'=>exact .cons r ih
theorem Vals.eraseIdx:∀{xs:List V}{us:List OH} (i:Nat),Vals xs us->Vals (xs.eraseIdx i) (us.eraseIdx i)
 |_,_,_,.nil=>.nil
 |_,_,0,.cons _ t=>t
 |_,_,i+1,.cons r t=>.cons r (Vals.eraseIdx i t)
theorem Vals.reverse(h:Vals xs us):Vals xs.reverse us.reverse:=by
 induction h with
 |nil=>exact .nil
 |cons r t ih=>rw[Sb,Sb];exact Vals.append ih (.cons r .nil)
theorem ng(l:List α):l.eraseIdx (l.length - 1)=l.dropLast:=by
 induction l with
 |nil=>rfl
 |cons a r ih =>
  cases r with
  |nil=>rfl
  |cons b r =>
   have e:(a::b::r).length - 1=((b::r).length - 1)+1:=by
    have h1:(a::b::r).length=r.length+2:=rfl;have h2:(b::r).length=r.length+1:=rfl;omega
   rw[e,UJ,ih]
   all_goals rfl
theorem jw:∀(l:List α) (i:Nat),(l.eraseIdx i).length<=l.length
 |[],_=>ON _
 |_::_,0=>Qo _
 |_::r,i+1=>Nat.succ_le_succ (jw r i)
section
theorem Inv.gI{A' its':List OH}(I:Inv X pins σ H s)(hH:H l=Od (.lst xs))
  (e:s.heap.get? l=Od {cls:=.type "list",data:=.seq A'.toArray n}) (hf:f A'.toArray=its'.toArray) (hv:Vals ys its') (hz:ys.length<=OG) :
  Inv X pins σ (upd H l (.lst ys)) {s with heap:=s.heap.update l (Pd f),toks:=t' }:=by
 have q:=PySem.IsL.update e f;rw[hf]at q;refine I.write (x:=l) (e:=l) (by rw[hH];exact trivial) (.inl rfl) (λb' u hb hu=>(QK s.heap (Pd f) (Qa hb)).trans hu) ⟨_,q⟩ ?_;exact⟨hz,its',_,hv,q⟩
theorem Inv.BI(I:Inv X pins σ H s)(hv:Vals ys A')(hz:ys.length<=OG):
  Inv X pins σ (upd H s.heap.objs.size (.lst ys)) {s with heap:=s.heap.push {cls:=.type "list",data:=.seq A'.toArray},toks:=t' } :=
 I.laid (λ_ _ q=>OC _ q) (ON _) ⟨hz,A',0,hv,OO _ rfl⟩
theorem Inv.fresh(I:Inv X pins σ H s):H s.heap.objs.size=OB:=I.B0.fresh (ON _)
theorem Inv.rR(I:Inv X pins σ H s)(hH:H l=Od (.lst xs)):xs.length<=OG/\∃(A':List OH) (n:Nat),Vals xs A'/\xs.length=A'.length/\s.heap.get? l=Od {cls:=.type "list",data:=.seq A'.toArray n}:=by
 obtain⟨z,A',n,r,e⟩:=I.B0 l _ hH;exact⟨z,A',n,r,r.length,e⟩
theorem rS(h:n<=OG):Qr n=OE:=by
 unfold Qr;exact Xv ⋯
end
section
def vq:V->List V->Hp->VK->Prop:=λx vs H Q=>∃l xs y,x=.ref l/\vs=[y]/\H l=Od (.lst xs)/\xs.length<OG/\Q .BZ (upd H l (.lst (xs++[y])))
theorem qp:Hl X "list.append" vq:=by
 intro pins s σ H x vs v us Q I rx rv h;obtain⟨l,xs,y,rfl,rfl,hH,hz,q⟩:=h;cases rx;obtain⟨u,rfl,ru⟩:=rv.one;obtain⟨z,A',n,r,hl,e⟩:=I.rR hH;refine Rt F.slot_list_append ⟨_,e,rfl⟩ F.entry_list_append (F.args_list_append_2 _ _) (PySem.list_append l A'.toArray n u (by rw[OL];omega)) ⟨e,?_⟩;refine⟨.BZ,_,I.gI (its':=A'++[u]) hH e (by simp) (r.append (.cons ru .nil)) ?_,rfl,q⟩;rw[O8,Qu];omega
def BJ:V->List V->Hp->VK->Prop:=λx vs H Q=>∃l xs y,x=.ref l/\vs=[]/\H l=Od (.lst xs)/\xs[xs.length - 1]?=Od y/\Q y (upd H l (.lst xs.dropLast))
theorem yh:Hl X "list.pop" BJ:=by
 intro pins s σ H x vs v us Q I rx rv h;obtain⟨l,xs,y,rfl,rfl,hH,hy,q⟩:=h;cases rx;have JH:=rv.zero;subst JH;obtain⟨z,A',n,r,hl,e⟩:=I.rR hH;obtain⟨u,hu,ru⟩:=r.get hy;have F5:A'.toArray[A'.toArray.size - 1]?=Od u:=by
  show A'.toArray[A'.length - 1]?=Od u;rw[<-PF,<-hl];exact hu
 refine Rt WJ ⟨_,e,rfl⟩ Wk (F.args_list_pop_1 _) (MeetsSeq.list_pop_last l A'.toArray n u F5 (by rw[OL];omega)) ⟨e,?_⟩;refine⟨y,_,I.gI (its':=A'.dropLast) hH e ?_ r.dropLast ?_,ru,q⟩
 ·show A'.toArray.eraseIdxIfInBounds (A'.toArray.size - 1)=A'.dropLast.toArray;rw[OL,TH,ng]
 ·rw[List.length_dropLast];omega
def yi:V->List V->Hp->VK->Prop:=λx vs H Q=>∃l xs i k y,x=.ref l/\vs=[.int i]/\H l=Od (.lst xs)/\-(2 ^ 63)<=i/\i<2 ^ 63/\Uu i xs.length=Od k/\xs[k]?=Od y/\Q y (upd H l (.lst (xs.eraseIdx k)))
theorem rT:Hl X "list.pop" yi:=by
 intro pins s σ H x vs v us Q I rx rv h;obtain⟨l,xs,i,k,y,rfl,rfl,hH,h1,h2,hk,hy,q⟩:=h;cases rx;obtain⟨u,rfl,ru⟩:=rv.one;obtain⟨t,rfl⟩:=ru;obtain⟨z,A',n,r,hl,e⟩:=I.rR hH;obtain⟨w,hw,Ew⟩:=r.get hy;refine Rt WJ ⟨_,e,rfl⟩ Wk (F.args_list_pop_2 _ _)
  (MeetsSeq.list_pop_at l A'.toArray n i t k w (fitsIndex_both h1 h2) (by rw[OL,<-hl];exact hk) (by rw[<-PF];exact hw) (by rw[OL];omega)) ⟨e,?_⟩
 refine⟨y,_,I.gI (its':=A'.eraseIdx k) hH e ?_ (r.eraseIdx k) ?_,Ew,q⟩
 ·show A'.toArray.eraseIdxIfInBounds k=(A'.eraseIdx k).toArray;rw[TH]
 ·have:=jw xs k;omega
def yj:V->List V->Hp->VK->Prop:=λx vs H Q=>∃l xs,x=.ref l/\vs=[]/\H l=Od (.lst xs)/\Q .BZ (upd H l (.lst []))
theorem rU:Hl X "list.clear" yj:=by
 intro pins s σ H x vs v us Q I rx rv h;obtain⟨l,xs,rfl,rfl,hH,q⟩:=h;cases rx;have JH:=rv.zero;subst JH;obtain⟨z,A',n,r,hl,e⟩:=I.rR hH;refine Rt F.slot_list_clear ⟨_,e,rfl⟩ F.entry_list_clear (F.args_list_clear_1 _) (AutoSeq1.list_clear_list_0 l A'.toArray n (by rw[OL];omega)) ⟨e,?_⟩;exact⟨.BZ,_,I.gI (its':=[]) (ys:=[]) hH e rfl .nil (O_ _),rfl,q⟩
end
section
set_option maxRecDepth 100000 in
end
section
end
end L2
namespace K1
open PySem PySem.W PySem.Calls PyProof.Rows
theorem gJ:∀(ns:List Int) (vs:List OH),WellAll P h vs (ns.map W3)->VF vs ns:=by
 intro ns;induction ns with
 |nil =>
  intro vs w;rw[QM]at w;cases w;exact .nil
 |cons n ns ih =>
  intro vs w;rw[OQ]at w;cases w with
  |cons a b =>
   cases a;exact .cons _ _ (ih _ b)
theorem qq{l:OpenLaw}(hn:l.most=Od n)
  (E9:l.row.toRowW.claim.pre args=OA) (Hm:WellAll P h vals args) :
  ∃a vs ns,vals=[O0 a]/\args=[WData.list (ns.map W3)]/\h.get? a=Od {cls:=.type "list",data:=.seq vs.toArray}/\VF vs ns/\ns.length<=n:=by
 have L3:WShape.hasAll [] args [.list .int]=OA:=(pre_splitW E9).1;have hc:l.pre.holds [] {args:=args}=OA:=(pre_splitW E9).2;obtain⟨d,r,rfl,h1,h2⟩:=hasAllW_cons L3;obtain rfl:=hasAllW_nil h2;obtain⟨xs,rfl,h3⟩:=hasW_list h1;obtain⟨ns,rfl⟩:=items_int h3;have hlen:ns.length<=n:=by
  unfold OpenLaw.pre at hc;have h4:(WTm.not (.lt (.lit (.int (n:Int))) (.len (.arg 0)))).holds [] {args:=[.list (ns.map .int)]}=OA:=by
   have h4:=(holds_andW hc).1;rw[hn]at h4;exact h4
  have h5:=condW_of h4 (w_not (w_lt w_lit (w_len_list (w_arg rfl))));rw[OJ]at h5;refine Nat.le_of_not_lt λq=>?_;have q':(n:Int)<((ns.length:Nat):Int):=by omega
  first
   |(rw[Xw q']at h5;exact absurd h5 (by decide))
   |(simp at h5;omega)
 cases Hm with
 |cons w1 w2 =>
  cases w2;cases w1 with
  |list ho Dp=>exact⟨_,_,ns,rfl,rfl,ho,gJ ns _ Dp,hlen⟩
theorem qr(l:OpenLaw)(args:List WData):l.row.toRowW.claim.post args (.bool OA) args=OA :=
 postW_of (r:=l.row.toRowW) (X:=(OA==OA))
  (show WC [] (.bool OA) .bool=OA by first|rfl|decide|simp[WC,WShape.arms,WShape.armsAll])
  (show(WTm.eq .res (.lit (.bool OA))).value [] {args:=args,res:=Od (.bool OA),after:=args}=Od (.bool (OA==OA)) from w_eq_bool (w_res rfl) w_lit) rfl
theorem lD{l:OpenLaw}
  (hn:l.most=Od n) (F6:d.params.defaults=[])
  (Rm:∀(w:P4) (s₀ s₁:OR) (mg mb:Str->Option OH) (fa:OS) (o:Obj) (pm cd doc:OH) (a:OS) (vs:List OH) (ns:List Int),
   Ground q loose [] XP w s₀ mg mb s₁.heap->YP w s₁.heap ->
   s₁.heap.get? fa=Od o->o.data=.func (docDef d.name d.params d.body d.scope pm cd doc)->s₁.heap.CodeRec cd d.name->mg d.name=Od (.ref fa) ->
   s₁.heap.get? a=Od {cls:=.type "list",data:=.seq vs.toArray}->VF vs ns->ns.length<=n->s₁.gens=#[] ->
   RU (OU l.prog w) SR (.call (.ref fa) ⟨[.ref a],[]⟩) (λr s'=>r=.ok (.ret (.bool OA))/\OldK s₁.heap s'.heap/\s'.os=s₁.os/\SW s'.gens) s₁) :
  WalkO q loose XP YP l.row.toRowW d [] (λf vs=>PySem.call f vs):=by
 intro w s₀ s₁ mg mb G Y fa o pm cd doc dV kV ho hd C_ hD Hn hg args vals as E9 L4 GU Hm N7;obtain rfl:dV=.none:=Dflts.none hD F6;obtain rfl:kV=.none:=Dflts.noKw hD;obtain⟨a,vs,ns,rfl,rfl,F7,hints,hlen⟩:=qq hn E9 Hm;refine enter_call (SQ (Rm w s₀ s₁ mg mb fa o pm cd doc a vs ns G Y ho (fd_plain hd) C_ Hn F7 hints hlen hg) λr s' hq=>?_);obtain⟨rfl,h2,h3,h4⟩:=hq;exact⟨.inl ⟨.bool OA,.bool OA,[],rfl,λ_=>rfl,.bool OA,qr l _,λ_=>⟨W2,λ_ hm=>(nomatch hm)⟩⟩,h2,h3,h4⟩
section
end
end K1
namespace L2
open PySem PySem.Spec PyProof.Rows
theorem jx:∀{vs:List OH}{ns:List Int},VF vs ns->Vals (ns.map V.int) vs
 |_,_,.nil=>.nil
 |_,_,.cons n t h=>.cons ⟨t,rfl⟩ (jx h)
def yk(H:Hp):Prop:=∀b,H b=OB\/∃o xs,H b=Od (.CY o (.lst xs))
theorem rV{K:PySem.W.Frag}
  (KX:K.In s₁.heap) (Dc:s₁.heap.Ns PU mg) (hb:s₁.heap.Ns SS mb) (L5:∀x:Str,x≠"__name__"->mb x=Qh x) (JI:s₁.heap.NoLimit) (hg:s₁.gens=#[])
  (ha:s₁.heap.get? a=Od {cls:=.type "list",data:=.seq vs.toArray}) (hi:VF vs ns) (hl:ns.length<=OG) (hr:eB k SR)
  (F:∀base:Qk,K.In base->base.Ns PU mg->h_ P w K mg base CX k fa fd [x] sp) (Ho:∀(s:OR) (u:OH),VC s fd ⟨[u],[]⟩ [(x,u)])
  (DE:∀H:Hp,yk H->Cn K H a (ns.map V.int)->sp [.ref a] H (λv _=>v=.bl OA) λ_ _ _=>False)
  (JJ:∀H e s',CX [] H s₁ (λ_ _ _=>False) e s'->False) :
  RU (OU P w) SR (.call (.ref fa) ⟨[.ref a],[]⟩) (λr s'=>r=.ok (.ret (.bool OA))/\OldK s₁.heap s'.heap/\s'.os=s₁.os/\SW s'.gens) s₁:=by
 have rv:=jx hi;have JK:=hi.length;have core:∀H:Hp,yk H->Cn K H a (ns.map V.int)->CL P w H s₁.heap->(∀b,H b≠OB->b=a)->(H a≠OB->K.lookup a=OB) ->
   RU (OU P w) SR (.call (.ref fa) ⟨[.ref a],[]⟩) (λr s'=>r=.ok (.ret (.bool OA))/\OldK s₁.heap s'.heap/\s'.os=s₁.os/\SW s'.gens) s₁:=by
  intro H hO hS B0 hA hK;have gT:∀{b:OS} {o:Obj},s₁.heap.get? b=Od o->H b=OB->(j4 s₁.heap H).get? b=Od o:=λe n=>rn e n;have Hf:∀{b:OS} {o:Obj} {es:Array DictEntry} {ep:Nat},s₁.heap.get? b=Od o->o.data=.dict es ep->H b=OB:=λ{b o es ep} e d=>by
   cases q:H b with
   |none=>rfl
   |some u =>
    have e':b=a:=hA b (by rw[q];simp);subst e';rw[ha]at e;cases e;have d':Data.seq vs.toArray _=Data.dict es ep:=d;cases d'
  have II:∀{b:OS} {m:Str->Option OH},s₁.heap.Ns b m->(j4 s₁.heap H).Ns b m:=λ{b m} ⟨o,es,ep,e,d,r⟩=>⟨o,es,ep,gT e (Hf e d),d,r⟩
  have K2:K.In (j4 s₁.heap H):=λb o e=>gT (KX b o e) (by
   cases q:H b with
   |none=>rfl
   |some u =>
    have e':b=a:=hA b (by rw[q];simp);subst e';rw[hK (by rw[q];simp)]at e;cases e)
  have hM:Mod K mg (j4 s₁.heap H):=⟨K2,II Dc,⟨mb,II hb,L5⟩,let ⟨mc,h1,h2⟩:=JI;⟨mc,II h1,h2⟩⟩
  have e0:vh P w K mg (j4 s₁.heap H) SR [] s₁ H:=⟨rfl,hM,λb o e=>uX e,U4 (qj _ _),trivial,λb hb=>absurd (show b∈([]:List OS) from hb) (by simp),B0,.of_eq hg⟩
  refine SQ ((F _ K2 (II Dc)).run SR [] s₁ H ⟨[.ref a],[]⟩ [.ref a] [.ref a] _ _ hr e0 (Ho s₁ (.ref a)) (.cons rfl .nil) (DE H hO hS)) λr s' h=>?_;cases r with
  |error e=>exact(JJ H e s' h).elim
  |ok fl =>
   cases fl with
   |ret u =>
    obtain⟨v,H',os,bare,un,JL,r',q⟩:=h;have q':v=.bl OA:=q;subst q';obtain rfl:u=RZ OA:=r';refine⟨rfl,OldK.of_keep λb o e=>?_,os,bare⟩;cases q:H b with
    |none=>exact un.keep b o e q (by intro z;exact absurd (show b∈([]:List OS) from z) (by simp)) (by simp)
    |some u =>
     rcases hO b with z|⟨ob,xs,z⟩
     ·rw[q]at z;cases z
     ·have z2:=un.Df b ob _ z;obtain⟨e1,_⟩:=B0 b _ z;obtain⟨e2,_⟩:=JL b _ z2;rw[e]at e1;cases e1;exact e2
   |_=>exact Q2 h
 cases hk:K.lookup a with
 |some o =>
  have e:=KX a o hk;rw[ha]at e;cases e;refine core (λ_=>OB) (λ_=>.inl rfl) (.inr ⟨_,vs.toArray,_,hk,rfl,rfl,rfl,by rw[OL,JK];exact hl,by simpa using rv⟩) (λb u z=>by have z':(OB:Option HO)=Od u:=z;cases z') (λb z=>absurd rfl z) λz=>absurd rfl z
 |none =>
  refine core (λb=>if b=a then Od (.CY {cls:=.type "list",data:=.seq vs.toArray} (.lst (ns.map V.int))) else OB) (λb=>?_) (.inl (.inr ⟨{cls:=.type "list",data:=.seq vs.toArray},Xs rfl⟩)) (λb u z=>?_) (λb z=>?_) λ_=>hk
  ·by_cases hb:b=a
   ·exact .inr ⟨_,_,Xs hb⟩
   ·exact .inl (Xu hb)
  ·by_cases hb:b=a
   ·have z':=(Xs hb).symm.trans z;cases z';subst hb;exact⟨ha,by rw[OJ];exact hl,vs,_,rv,ha⟩
   ·have z':=(Xu hb).symm.trans z;cases z'
  ·by_cases hb:b=a
   ·exact hb
   ·exact absurd (Xu hb) z
theorem vt{l:PySem.W.OpenLaw}{K:Vz->PySem.W.Frag}{CX:P4->GQ}{sp:P4->Sp}
  (hn:l.most=Od n) (L6:n<=OG) (F6:d.params.defaults=[]) (hr:eB k SR)
  (hY:∀(w:P4) (h:Qk),YP w h->(K w.params).In h)
  (F:∀(w:P4) (mg:Str->Option OH) (fa:OS) (h:Qk),(K w.params).In h->h.Ns PU mg->mg d.name=Od (.ref fa) ->
   ∃fd:Sm,(∀(s:OR) (u:OH),VC s fd ⟨[u],[]⟩ [(x,u)]) /\
    ∀base:Qk,(K w.params).In base->base.Ns PU mg->h_ l.prog w (K w.params) mg base (CX w) k fa fd [x] (sp w))
  (DE:∀(w:P4) (H:Hp) (a:OS) (ns:List Int),ns.length<=n->yk H->Cn (K w.params) H a (ns.map V.int)->sp w [.ref a] H (λv _=>v=.bl OA) λ_ _ _=>False)
  (JJ:∀(w:P4) (H:Hp) (s:OR) (e:OH) (s':OR),CX w [] H s (λ_ _ _=>False) e s'->False) :
  PySem.W.WalkO q loose XP YP l.row.toRowW d [] (λf vs=>PySem.call f vs):=by
 refine K1.lD hn F6 λw s₀ s₁ mg mb fa o pm cd doc a vs ns G Y ho hd C_ Hn F7 hints hlen hg=>?_;have KX:=hY w _ Y;obtain⟨fd,hb,hF⟩:=F w mg fa _ KX G.T.g Hn;exact rV KX G.T.g G.T.b G.T.builtins G.T.nolimit hg F7 hints (Qe hlen L6) hr hF hb (λH hO hS=>DE w H a ns hlen hO hS) λH e s'=>JJ w H s₁ e s'
def d4(s:RI):Arguments:=match s with
 |.FunctionDef _ a _ _ _ _ _ _ _ _=>a
 |_=>{posonlyargs:=[],args:=[],vararg:=OB,kwonlyargs:=[],kw_defaults:=[],kwarg:=OB,defaults:=[]}
def bO(s:RI):List RI:=match s with
 |.FunctionDef _ _ b _ _ _ _ _ _ _=>b
 |_=>[]
def aE(s:RI):Q0:=match s with
 |.FunctionDef _ _ _ _ _ _ sc _ _ _=>sc
 |_=>{kind:=.function,names:=[],isGenerator:=OE,isCoroutine:=OE}
abbrev Ek:GQ:=λ_ _ _ _ _ _=>False
abbrev E0:XK:=λ_ _ _=>False
theorem xo:Passes Ek X E0:=λ_ _ _ _ _ _ _ h=>h.elim
structure FD(K:PySem.W.Frag)(x qual:Str)(st:RI)(f:OS)(fd:Sm):Prop where
 ex:∃(oc:OH) (od:Option OS) (kV doc pm:OH) (an:Option OS) (CQ ct:OH) (Hg:Array (Option OH)),
  fd=PySem.W.fnOf x qual (d4 st) (bO st) (aE st) .none kV doc pm an CQ ct/\K.lookup f=Od ⟨oc,od,.func fd,Hg⟩/\PySem.W.codeIn K CQ qual=OA
 kp:PySem.W.keepIn K (.ref f)=OA
section
variable{P:PC}{w:P4}{K:PySem.W.Frag}{mg:Str->Option OH}{base:Qk}
theorem FD.ok{st:RI}(F:FD K x qual st f fd)(S:cI N ps (aE st))(len:∀vs H Q E,sp vs H Q E->vs.length=ps.length)
  (Et:∀(CQ:OH) (A:QW) (outer:List Env) (s:OR) (H:Hp) (vs:List V) (Q:VK) (E:XK),eB k (A.deeper (SV qual (aE st) s.heap.objs.size f CQ))->sp vs H Q E ->
   ∃t,CP (lA Ek P w K mg base N qual (aE st) f CQ A outer s H E).GO (bO st) t/\t {nx:=λ_ H'=>Q .BZ H',rt:=Q} (start N vs) H):h_ P w K mg base Ek (k+1) f fd ps sp:=by
 obtain⟨oc,od,kV,doc,pm,an,CQ,ct,Hg,rfl,lk,C_⟩:=F.ex;refine Aa lk C_ S len λA outer s H vs Q E hr DE=>?_;obtain⟨t,h,q⟩:=Et CQ A outer s H vs Q E hr DE;exact⟨t,h.GO,q⟩
theorem yl{st:RI}{kV doc pm CQ ct:OH}(l:K.lookup f=Od ⟨oc,od,.func (PySem.W.fnOf x qual (d4 st) (bO st) (aE st) .none kV doc pm an CQ ct),Hg⟩)
  (c:PySem.W.codeIn K CQ qual=OA) (k:PySem.W.keepIn K (.ref f)=OA):FD K x qual st f (PySem.W.fnOf x qual (d4 st) (bO st) (aE st) .none kV doc pm an CQ ct):=⟨⟨oc,od,kV,doc,pm,an,CQ,ct,Hg,rfl,l,c⟩,k⟩
end
theorem qt(h:n<=1000):n<OG:=Nat.lt_of_le_of_lt h (by decide)
section
end
def cX(H H':Hp):Prop:=∀b o,H b=Od o->H' b=Od o
section
variable{κ:Type}[DecidableEq κ]
def ft(kvs:List (κ×V))(k:κ):Option V:=(kvs.find? λkv=>OI (kv.1=k)).map (·.2)
def putK(kvs:List (κ×V))(k:κ)(v:V):List (κ×V) :=
 if (kvs.any λkv=>OI (kv.1=k))=OA then kvs.map (λkv=>if kv.1=k then(kv.1,v) else kv) else kvs++[(k,v)]
theorem dw{p:κ×V}{k:κ}(e:p.1=k):ft (p::r) k=Od p.2:=by simp[ft,QV,e]
theorem dy{p:κ×V}{k:κ}(e:¬p.1=k):ft (p::r) k=ft r k:=by simp[ft,QV,e]
theorem ib(k:κ):∀kvs:List (κ×V),(kvs.any λkv=>OI (kv.1=k))=(ft kvs k).isSome
 |[]=>rfl
 |p::r=>by
  rw[S_];by_cases e:p.1=k
  ·simp only[dw e,Xw e,Bool.true_or,Option.isSome_some]
  ·rw[dy e,Xv e,Bool.false_or];exact ib k r
theorem gx(kvs:List (κ×V))(k:κ)(v:V):(putK kvs k v).length<=kvs.length+1:=by
 unfold putK;split
 ·rw[OJ];omega
 ·rw[O8,Pb,SA];omega
theorem jb.cP(r:jb o u):o.isSome=u.isSome:=by
 cases o with
 |none=>cases u with
  |none=>rfl
  |some _=>exact(show False from r).elim
 |some _=>cases u with
  |none=>exact(show False from r).elim
  |some _=>rfl
theorem KV.val(r:KV kvs vs)(k:κ):jb (ft kvs k) (T5 vs k):=by
 unfold KV at r;induction r with
 |nil=>exact Td
 |@cons p q ps qs h t ih =>
  obtain⟨h1,h2⟩:=h;by_cases e:p.1=k
  ·have e':q.1=k:=h1.symm.trans e;have b:T5 (q::qs) k=Od q.2:=by simp[T5,QV,e']
   rw[dw e,b];exact h2
  ·have e':¬q.1=k:=λz=>e (h1.trans z);have b:T5 (q::qs) k=T5 qs k:=by simp[T5,QV,e']
   rw[dy e,b];exact ih
theorem KV.any(r:KV kvs vs)(k:κ):(kvs.any λkv=>OI (kv.1=k))=vs.any λkv=>OI (kv.1=k):=by
 unfold KV at r;induction r with
 |nil=>rfl
 |cons h t ih=>rw[S_,S_,ih,h.1]
theorem KV.ym(r:KV kvs vs)(k:κ)(ry:RelV y u):
  KV (kvs.map λkv=>if kv.1=k then(kv.1,y) else kv) (vs.map λkv=>if kv.1=k then(kv.1,u) else kv):=by
 unfold KV at r ⊢;induction r with
 |nil=>exact .nil
 |@cons p q ps qs h t ih =>
  rw[OQ,OQ];refine .cons ?_ ih;obtain⟨h1,h2⟩:=h;by_cases e:p.1=k
  ·rw[Xs e,Xs (h1.symm.trans e)];exact⟨h1,ry⟩
  ·rw[Xu e,Xu (λz=>e (h1.trans z))];exact⟨h1,h2⟩
theorem KV.put(r:KV kvs vs)(k:κ)(ry:RelV y u):KV (putK kvs k y) (stored vs k u):=by
 unfold putK stored;rw[r.any k];by_cases e:(vs.any λkv=>OI (kv.1=k))=OA
 ·rw[Xs e,Xs e];exact r.ym k ry
 ·rw[Xu e,Xu e];exact Paired.snoc r ⟨rfl,ry⟩
theorem KV.length(r:KV kvs vs):kvs.length=vs.length:=Paired.length r
end
theorem lE(r:RelV (kV k) u):(aJ P w).is k u=OA:=by
 cases k with
 |inl i=>obtain⟨t,e⟩:=(show ∃t,u=Tv i t from r);subst e;exact lr P w i t
 |inr x=>obtain⟨t,e⟩:=(show ∃t,u=PL x t from r);subst e;exact lu P w x t
theorem jy:∀{ks:List Key}{us:List OH},Vals (ks.map kV) us->ItemsAre (aJ P w) ks us
 |[],_,r=>by rw[QM]at r;cases r;exact .nil
 |k::ks,_,r=>by
  rw[OQ]at r;cases r with
  |cons h t=>exact .cons (lE h) (jy t)
abbrev KT(H:Hp):List (List Key×V)->List (List Key×OS×OH)->Prop:=Paired λp q=>p.1=q.1/\H q.2.1=Od (.tup (p.1.map kV))/\RelV p.2 q.2.2
theorem KT.val(r:KT H kvs xs)(k:List Key):jb (ft kvs k) ((Ti xs k).map (·.2)):=by
 induction r with
 |nil=>exact Td
 |@cons p q ps qs h t ih =>
  obtain⟨h1,_,h2⟩:=h;by_cases e:p.1=k
  ·have e':q.1=k:=h1.symm.trans e;have b:Ti (q::qs) k=Od q.2:=by simp[Ti,QV,e']
   rw[dw e,b];exact h2
  ·have e':¬q.1=k:=λz=>e (h1.trans z);have b:Ti (q::qs) k=Ti qs k:=by simp[Ti,QV,e']
   rw[dy e,b];exact ih
theorem KT.ym(r:KT H kvs xs)(k:List Key)(ry:RelV y u):
  KT H (kvs.map λkv=>if kv.1=k then(kv.1,y) else kv) (xs.map (putAt k u)):=by
 induction r with
 |nil=>exact .nil
 |@cons p q ps qs h t ih =>
  rw[OQ,OQ];refine .cons ?_ ih;obtain⟨h1,h2,h3⟩:=h;unfold putAt;by_cases e:p.1=k
  ·rw[Xs e,Xs (h1.symm.trans e)];exact⟨h1,h2,ry⟩
  ·rw[Xu e,Xu (λz=>e (h1.trans z))];exact⟨h1,h2,h3⟩
theorem KT.put(r:KT H kvs xs)(k:List Key)(hb:H b=Od (.tup (k.map kV)))(ry:RelV y u):
  KT H (putK kvs k y) (storedH xs k b u):=by
 have e:(kvs.any λkv=>OI (kv.1=k))=(Ti xs k).isSome:=by
  rw[ib,(r.val k).cP,R7]
 unfold putK storedH;rw[e];by_cases q:(Ti xs k).isSome=OA
 ·rw[Xs q,Xs q];exact r.ym k ry
 ·rw[Xu q,Xu q];exact Paired.snoc r ⟨rfl,hb,ry⟩
theorem KT.keeps(r:KT H kvs xs)(ht:∀b ys,H b=Od (.tup ys)->H' b=Od (.tup ys)):KT H' kvs xs :=
 Paired.xT r λ_ _ z=>⟨z.1,ht _ _ z.2.1,z.2.2⟩
section
theorem xp(ok:CL P w H h)(e:Rd H a u):aY P w H h a u:=e.ok ok
theorem lF(ok:CL P w H h)(e:Rd H a (.dK kvs)):kvs.length<=OG/\(a==P_)=OE/\∃vs,KV kvs vs/\h.DictOf (aJ P w) a vs :=
 show aY P w H h a (.dK kvs) from xp ok e
theorem xq(ok:CL P w H h)(e:H a=Od (.dK kvs)):kvs.length<=OG/\(a==P_)=OE/\∃vs,KV kvs vs/\h.DictOf (aJ P w) a vs:=lF ok (.inl e)
theorem ic(ok:CL P w H h)(e:H a=Od (.tup (ks.map kV))):(Us (aJ P w)).is h ks a:=by
 obtain⟨_,A',r,o,h1,h2,n,h3⟩:=(show aY P w H h a (.tup (ks.map kV)) from ok a _ e)
 exact⟨o,A'.toArray,n,h1,h2,h3,by simpa using jy r⟩
theorem lG(ok:CL P w H h)(e:Rd H a (.dT kvs)):kvs.length<=OG/\(a==P_)=OE /\
  ∃xs,KT H kvs xs/\h.DictOfH (Us (aJ P w)) a xs:=by
 obtain⟨z,y,xs,r,o,es,ep,h1,h2,h3,h4,h5⟩:=(show aY P w H h a (.dT kvs) from xp ok e)
 refine⟨z,y,xs,r,o,es,ep,h1,h2,h3,h4,λx hx=>?_,h5⟩;have all:∀{l:List (List Key×V)} {m:List (List Key×OS×OH)},KT H l m->∀x∈m,(Us (aJ P w)).is h x.1 x.2.1:=by
  intro l m q;induction q with
  |nil=>intro x hx;exact nomatch hx
  |@cons p q ps qs hq t ih =>
   intro x hx;rcases OV.mp hx with e|hx
   ·subst e;exact ic ok (by rw[<-hq.1];exact hq.2.1)
   ·exact ih x hx
 exact all r x hx
theorem Ag(ok:CL P w H h)(e:H a=Od (.dT kvs)):kvs.length<=OG/\(a==P_)=OE /\
  ∃xs,KT H kvs xs/\h.DictOfH (Us (aJ P w)) a xs:=lG ok (.inl e)
end
def jf(H:Hp)(a:OS)(y:V)(r:Option V):Prop :=
 (∃kvs k,Rd H a (.dK kvs)/\y=kV k/\r=ft kvs k)\/∃kvs k b,Rd H a (.dT kvs)/\y=.ref b/\H b=Od (.tup (k.map kV))/\r=ft kvs k
def rW(H:Hp)(a:OS)(y v:V)(H':Hp):Prop :=
 (∃kvs k,H a=Od (.dK kvs)/\y=kV k/\kvs.length<OG/\H'=upd H a (.dK (putK kvs k v))) \/
 ∃kvs k b,H a=Od (.dT kvs)/\y=.ref b/\H b=Od (.tup (k.map kV))/\kvs.length<OG/\H'=upd H a (.dT (putK kvs k v))
theorem jf.k{H:Hp}{a:OS}{kvs:List (Key×V)}{k:Key}(e:H a=Od (.dK kvs)):jf H a (kV k) (ft kvs k):=.inl ⟨kvs,k,.inl e,rfl,rfl⟩
theorem rW.k{H:Hp}{a:OS}{kvs:List (Key×V)}{k:Key}{v:V}(e:H a=Od (.dK kvs))(hl:kvs.length<OG):rW H a (kV k) v (upd H a (.dK (putK kvs k v))):=.inl ⟨kvs,k,e,rfl,hl,rfl⟩
section
theorem Inv.big(I:Inv X pins σ H s):P_<s.heap.objs.size:=by
 have h:PU<s.heap.objs.size:=(I.mod.glob.keeps I.bk).lt;exact U3 (by decide) h
theorem qu(hu:A.units+1<Qd)(I:Inv X pins σ H s)(g:jf H a y (Od v))(ry:RelV y u)(h:∀w' s',Inv X pins σ H s'->RelV v w'->Q w' s'):
  OK (OU X.prog X.w) A (Ts (.ref a) u) Q E s:=by
 rcases g with⟨kvs,k,e,ey,l⟩|⟨kvs,k,b,e,ey,eb,l⟩
 ·subst ey;obtain⟨z,hd,vs,rel,dd⟩:=lF I.B0 e;obtain⟨w',hw,Ew⟩:=jb.some_of (v:=v) (o:=T5 vs k) (by rw[l];exact rel.val k);exact wpAny_getItem_of (lE ry) dd.mapOf hw (h w' _ (I.tok _) Ew)
 ·subst ey;cases(show u=O0 b from ry);obtain⟨z,hd,xs,rel,dd⟩:=lG I.B0 e;obtain⟨w',hw,Ew⟩:=jb.some_of (v:=v) (o:=(Ti xs k).map (·.2)) (by rw[l];exact rel.val k);obtain⟨p,hp,GV⟩:=OM.mp hw;refine wpAny_getItem_heap (Sk hu) (ic I.B0 eb) dd hp ?_;rw[GV];exact h w' _ (I.tok _) Ew
theorem BK(hu:A.units+1<Qd)(I:Inv X pins σ H s)(g:jf H a y o)(ry:RelV y u)(h:∀s',Inv X pins σ H s'->Q (.bool o.isSome) s'):
  OK (OU X.prog X.w) A (Qv .In u (.ref a)) Q E s:=by
 rcases g with⟨kvs,k,e,ey,l⟩|⟨kvs,k,b,e,ey,eb,l⟩
 ·subst ey;obtain⟨z,hd,vs,rel,dd⟩:=lF I.B0 e;refine wpAny_in_of (lE ry) hd dd.mapOf ?_;rw[<-(rel.val k).cP,<-l];exact h _ (I.tok _)
 ·subst ey;cases(show u=O0 b from ry);obtain⟨z,hd,xs,rel,dd⟩:=lG I.B0 e;refine wpAny_in_heap (Sk hu) (ic I.B0 eb) hd dd ?_;have q:=(rel.val k).cP;rw[R7]at q;rw[<-q,<-l];exact h _ (I.tok _)
theorem vv(hu:A.units+1<Qd)(I:Inv X pins σ H s)(g:jf H a y o)(ry:RelV y u)(h:∀s',Inv X pins σ H s'->Q (.bool (!o.isSome)) s'):
  OK (OU X.prog X.w) A (Qv .NotIn u (.ref a)) Q E s:=by
 rcases g with⟨kvs,k,e,ey,l⟩|⟨kvs,k,b,e,ey,eb,l⟩
 ·subst ey;obtain⟨z,hd,vs,rel,dd⟩:=lF I.B0 e;refine wpAny_notIn_of (lE ry) hd dd.mapOf ?_;rw[<-(rel.val k).cP,<-l];exact h _ (I.tok _)
 ·subst ey;cases(show u=O0 b from ry);obtain⟨z,hd,xs,rel,dd⟩:=lG I.B0 e;refine WY (Sk hu) (ic I.B0 eb) hd dd ?_;have q:=(rel.val k).cP;rw[R7]at q;rw[<-q,<-l];exact h _ (I.tok _)
theorem oM(I:Inv X pins σ H s)(mu:G9 (H a))(hs:Qc a s.heap h')(he:∃q,h'.get? a=Od q)(new:aY X.prog X.w (upd H a ob) h' a ob):
  Inv X pins σ (upd H a ob) {s with heap:=h',toks:=t' } :=
 I.write (x:=a) (e:=a) mu (.inl rfl) (λb q hb z=>(hs.2 b hb).trans z) he new
theorem yn(z:kvs.length<=OG)(hd:(a==P_)=OE)(rel:KV kvs vs)(dd:h'.DictOf (aJ P w) a vs):
  aY P w H' h' a (.dK kvs):=⟨z,hd,vs,rel,dd⟩
theorem qv(hu:A.units+1<Qd)(I:Inv X pins σ H s)(g:rW H a y v H')(ry:RelV y u)(rv:RelV v r)(h:∀s',Inv X pins σ H' s'->Q () s'):
  OK (OU X.prog X.w) A (Vv (.ref a) u r) Q E s:=by
 rcases g with⟨kvs,k,e,ey,l,eH⟩|⟨kvs,k,b,e,ey,eb,l,eH⟩
 ·subst ey eH;obtain⟨z,hd,vs,rel,dd⟩:=xq I.B0 e;have hz:vs.length<=OG:=by rw[<-rel.length];exact z
  have hl:(putK kvs k v).length<=OG:=by have:=gx kvs k v;omega
  refine wpAny_setItem_pairs (hsz:=hz) (lE ry) dd λh' IJ hs=>h _ ?_;have he:∃q,h'.get? a=Od q:=let ⟨q,_,_,hq,_⟩:=IJ;⟨q,hq⟩;exact oM I (by rw[e];exact Td) hs he (yn hl hd (rel.put k rv) IJ)
 ·subst ey eH;cases(show u=O0 b from ry);obtain⟨z,hd,xs,rel,dd⟩:=Ag I.B0 e;have hz:xs.length<=OG:=by rw[<-Paired.length rel];exact z
  have hl:(putK kvs k v).length<=OG:=by have:=gx kvs k v;omega
  refine We (hsz:=hz) (Sk hu) (ic I.B0 eb) dd λh' IJ hs=>h _ ?_;obtain⟨q,es,ep,hq,h2,h3,h4,_,h5⟩:=IJ;refine oM I (by rw[e];exact Td) hs ⟨q,hq⟩ ⟨hl,hd,_,(rel.put k eb rv).keeps λc ys ec=>?_,q,es,ep,hq,h2,h3,h4,h5⟩;rw[ao (rm ec e (λz=>nomatch z))];exact ec
end
section
end
theorem lH(I:Inv X pins σ H s)(g:jf H a y o):s.TypeIs (.ref a) "dict":=by
 rcases g with⟨kvs,k,e,_,_⟩|⟨kvs,k,b,e,_,_,_⟩
 ·obtain⟨_,_,vs,_,dd⟩:=lF I.B0 e;exact dd.typeIs
 ·obtain⟨_,_,xs,_,dd⟩:=lG I.B0 e;exact dd.typeIs
section
end
theorem rX(h:Qk)(hb:P_<h.objs.size):aY P w H (h.push {cls:=.type "dict",data:=.dict #[]}) h.objs.size (.dK []) :=
 ⟨O_ _,beq_eq_false_iff_ne.mpr (Qa (OW hb)),[],.nil,Xk h⟩
def yo:TE:=λ_ H Q=>∀p,H p=OB->Q (.ref p) (upd H p (.dK []))
section
theorem rY:PE X (.Dict [] [] pos) yo:=λpins s σ H Q I h =>
 WO ⟨.ref s.heap.objs.size,_,I.laid (a:=s.heap.objs.size) (o:=.dK []) (t':=s.toks) (λ_ _ q=>OC _ q) (ON _) (rX s.heap I.big),rfl,h _ (I.B0.fresh (ON _))⟩
end
section
end
section
end
section
end
section
end
end L2
namespace CB
open PySem PySem.Builtin.Str PySem.StrLaws
def rZ(i:Int):Str:=Q9 (W9 i)
theorem app_list(x y:Str):(x++y).cps.toList=x.cps.toList++y.cps.toList:=by
 show(x.cps++y.cps).toList=_;simp
end CB
namespace L2
open PySem PySem.Spec PyProof.Rows
def aZ(env:Env):List (Str×Rb)->List (Str×OS)->List (Str×OS)
 |[],cs=>cs
 |(n,k)::r,cs=>aZ env r (if k==.free then(match env.cells.lookup n with|some a=>(n,a)::cs|none=>cs) else cs)
theorem cQ(h:∀y∈scope.names,y.2=.free->∃a,env.cells.lookup y.1=Od a):closureFor scope env=pure (aZ env scope.names []):=by
 unfold closureFor;generalize scope.names=names at h
 suffices H:∀cs,(forIn names cs (λ(x:Str×Rb) (r:List (Str×OS))=>if (x.2==QI)=OA then do let a <-cellOf env x.1;pure (Q8 ((x.1,a)::r)) else pure (Q8 r)):Sem (List (Str×OS)))=pure (aZ env names cs) by
  have:=H [];exact congrArg (λ(m:Sem (List (Str×OS)))=>m >>= pure) this
 induction names with
 |nil=>intro cs;rfl
 |cons y r ih =>
  intro cs;obtain⟨n,k⟩:=y;rw[List.forIn_cons];have K3:=ih λy hy=>h y (Py _ hy);by_cases hk:(k==QI)=OA
  ·obtain⟨a,ha⟩:=h (n,k) PB (by simpa using hk);have L7:env.cells.lookup n=Od a:=ha;simp only[hk,if_true,cellOf,L7,aZ];exact K3 _
  ·simp only[hk,Xx,aZ];exact K3 _
theorem cY:∀(names:List (Str×Rb)) (cs:List (Str×OS)),(∀n c,cs.lookup n=Od c->env.cells.lookup n=Od c)->∀n c,(aZ env names cs).lookup n=Od c->env.cells.lookup n=Od c
 |[],_,h=>h
 |(m,k)::r,cs,h=>by
  unfold aZ;refine cY r _ λn c e=>?_;by_cases hk:(k==QI)=OA
  ·rw[Xs hk]at e;cases q:env.cells.lookup m with
   |none=>rw[q]at e;exact h n c e
   |some a =>
    rw[q]at e;simp only[Pl]at e;cases hx:n==m with
    |true =>
     rw[hx]at e;have e':n=m:=by simpa using hx
     subst e';simp only at e;rw[q];exact e
    |false=>rw[hx]at e;exact h n c e
  ·rw[Xu hk]at e;exact h n c e
theorem gy(ha:env.cells.lookup n=Od a):∀(names:List (Str×Rb)) (cs:List (Str×OS)),cs.lookup n=Od a->(aZ env names cs).lookup n=Od a
 |[],_,h=>h
 |(m,k)::r,cs,h=>by
  unfold aZ;refine gy ha r _ ?_;by_cases hk:(k==QI)=OA
  ·rw[Xs hk];cases q:env.cells.lookup m with
   |none=>exact h
   |some b =>
    simp only[Pl];cases hx:n==m with
    |true =>
     have e':n=m:=by simpa using hx
     subst e';rw[ha]at q;cases q;rfl
    |false=>exact h
  ·rw[Xu hk];exact h
theorem eU(ha:env.cells.lookup n=Od a):∀(names:List (Str×Rb)) (cs:List (Str×OS)),(n,QI)∈names->(aZ env names cs).lookup n=Od a
 |[],_,h=>by cases h
 |(m,k)::r,cs,h=>by
  unfold aZ;rcases OV.mp h with e|e
  ·cases e;refine gy ha r _ ?_;rw[Xs (by decide),ha];simp[Pl]
  ·exact eU ha r _ e
theorem bh{env:Env}:∀{names:List (Str×Rb)}{x:Str}{k:Rb},
  (names.map λ(n,k)=>if (k==QI&&env.scope.kind==.function&&env.kindOf n==Od .cell) then(n,NameKind.cell) else(n,k)).lookup x=Od k ->
  names.lookup x=Od k\/(k=.cell/\names.lookup x=Od .free)
 |[],_,_,h=>by simp at h
 |(n,k0)::r,x,k,h=>by
  have ih:=@bh env r x k;rw[OQ]at h;by_cases hc:(k0==QI&&env.scope.kind==.function&&env.kindOf n==Od .cell)=OA
  ·simp only[Xs hc,Pl]at h;cases hx:x==n with
   |true =>
    rw[hx]at h;have hf:k0=.free:=by
     have:=(Qz.mp (Qz.mp hc).1).1;simpa using this
    refine .inr ⟨by simpa using h.symm,by simp[Pl,hx,hf]⟩
   |false =>
    rw[hx]at h;rcases ih h with z|⟨z1,z2⟩
    ·exact .inl (by simp[Pl,hx,z])
    ·exact .inr ⟨z1,by simp[Pl,hx,z2]⟩
  ·simp only[Xu hc,Pl]at h;cases hx:x==n with
   |true=>rw[hx]at h;exact .inl (by simpa[Pl,hx] using h)
   |false =>
    rw[hx]at h;rcases ih h with z|⟨z1,z2⟩
    ·exact .inl (by simp[Pl,hx,z])
    ·exact .inr ⟨z1,by simp[Pl,hx,z2]⟩
def CN(X:Cx)(N:List Str)(scope:Q0)(C:OS)(s:OR)(H:Hp)(ex:List OS):Cx where
 prog:=X.prog
 w:=X.w
 K:=X.K
 mg:=X.mg
 base:=X.base
 A:=X.A
 N:=N
 s₀:=s
 H₀:=H
 env:=T_ scope (aZ X.env scope.names []) C X.env
 outer:=X.stack
 stack:=X.stack
 ex:=ex
 fn:=λ_=>OE
 calm:=X.calm
 pn:=[]
 xe:=λ_ _=>False
def cM(D N:List Str):Prop:=D.length=N.length/\∀(i:Nat) (y:Str),D[i]?=Od y->N[i]?=Od y\/y="."\/y=".."
theorem cM.refl(N:List Str):cM N N:=⟨rfl,λ_ _ h=>.inl h⟩
theorem cM.set{D N:List Str}(h:cM D N)(j:Nat){m:Str}(hm:m="."\/m=".."):cM (D.set j m) N:=by
 refine⟨by rw[V6];exact h.1,λi y e=>?_⟩;by_cases hj:j=i
 ·subst hj;rw[List.getElem?_set,Xs rfl]at e;split at e
  ·cases e;exact .inr hm
  ·cases e
 ·rw[O5 hj]at e;exact h.2 i y e
structure cN(X:Cx)(N own:List Str)(scope:Q0):Prop where
 kind:scope.kind=.function
 DL:∀y∈scope.names,y.2≠.cell
 names:∀y∈scope.names,y.2=.local->scope.names.lookup y.1=Od .local
 nd:N.Nodup
 pre:N.take own.length=own
 loc:∀y∈scope.names,y.2=.local->y.1∈own\/y.1=".0"
 L8:(".0":Str)∉N
 tail:cM (N.drop own.length) X.N
 free:∀y∈scope.names,y.2=.free->X.env.scope.names.lookup y.1=Od .cell\/X.env.scope.names.lookup y.1=Od .free
 dot:∀y∈scope.names,y.1≠"."/\y.1≠".."
theorem mem_lookup{names:List (Str×Rb)}(h:names.lookup x=Od k):(x,k)∈names:=PySem.mem_of_lookup h
theorem cN.cells(S:cN X N own scope)(ok:X.Ok):∀y∈scope.names,y.2=.free->∃a,X.env.cells.lookup y.1=Od a:=λy hy hf=>by
 rcases S.free y hy hf with z|z
 ·exact ok.has y.1 (.inl z)
 ·exact ok.has y.1 (.inr z)
theorem r9(S:cN X N own scope)(I:Inv X pins σ H s)
  (hC:s.heap.objs.size<=C) (Eu:s4.os=s.os) (hg:s4.gens=s.gens) (keep:∀b o,s.heap.get? b=Od o->s4.heap.get? b=Od o) (ns:∃m,s4.heap.Ns C m)
  (hex:∀b∈ex,fj X pins H b/\b<s.heap.objs.size):Inv (CN X N scope C s H ex) [] (OZ own.length OB++σ) H s4:=by
 obtain⟨m0,IK⟩:=ns;have sub:=cY (env:=X.env) scope.names [] (λn c e=>by simp at e);have JM:∀b∈ex,b<C:=λb hb=>OY (hex b hb).2 hC;have tl:own.length<=N.length:=by have:=congrArg SJ S.pre;rw[PQ]at this;omega
 refine⟨⟨I.ok.mod,?_,I.ok.glob,I.ok.blt,hC,λx y c h1 h2=>I.ok.inj x y c (sub x c h1) (sub y c h2),λx hx=>?_,λx c h _=>absurd (show OE=OA from h) (by decide),I.ok.hd,I.ok.frames,.inl rfl,λb hb=>⟨OW (JM b hb),λx c e=>?_⟩,λb o e=>I.bs b o e,?_,λb o e hb=>?_,λb hb=>?_,I.stack,I.oF⟩,
  Eu,(by rw[hg];exact I.bare),Un.kept keep,⟨m0,IK,λi y v h1 h2 h3=>?_⟩,λx c e=>?_,I.B0.fresh hC,λx c e=>I.Cz x c (sub x c e),λp hp=>absurd (show p∈([]:List (OS×Obj)) from hp) (by simp),I.B0.kept keep,?_⟩
 ·show(SN scope X.env).kind=.function;exact S.kind
 ·
  have Hq:(SN scope X.env).names.lookup x=Od .cell\/(SN scope X.env).names.lookup x=Od .free:=hx;have CF:scope.names.lookup x=Od .free:=by
   rcases Hq with z|z
   ·rcases bh z with q|⟨_,q⟩
    ·exact absurd rfl (S.DL _ (mem_lookup q))
    ·exact q
   ·rcases bh z with q|⟨q,_⟩
    ·exact q
    ·cases q
  obtain⟨a,ha⟩:=S.cells I.ok (x,.free) (mem_lookup CF) rfl;exact⟨a,eU ha scope.names [] (mem_lookup CF)⟩
 ·exact(hex b hb).1.2.2.2.2.1 x c (sub x c e)
 ·exact Qe I.ok.Fw I.sz
 ·obtain⟨f0,f1,f2,f3,f4,f5⟩:=(hex b hb).1;rcases f3 with z|z
  ·exact I.ok.Es b o e z
  ·exact absurd (OY (OP e) (Qe I.ok.Fw z)) (PD _)
 ·intro Dj;obtain⟨f0,f1,f2,f3,f4,f5⟩:=(hex b hb).1;rcases OV.mp (I.gX b Dj) with z|z
  ·exact f1 z
  ·exact f2 z
 ·
  have hi:own.length<=i:=by
   by_cases hi:i<own.length
   ·rw[Pz (by simpa using hi),Qi]at h2;split at h2<;>cases h2
   ·omega
  rw[Pf (by simpa using hi),RC]at h2;have L9:(N.drop own.length)[i - own.length]?=Od y:=by
   rw[Qt];have e:own.length+(i - own.length)=i:=by omega
   rw[e];exact h1
  have GW:(SN scope X.env).names.lookup y=Od .local\/(SN scope X.env).names.lookup y=Od .cell\/(SN scope X.env).names.lookup y=Od .free:=h3;have CF:scope.names.lookup y=Od .free:=by
   rcases GW with z|z|z
   ·rcases bh z with q|⟨q,_⟩
    ·exfalso
     have F8:y∈own:=by
      rcases S.loc (y,.local) (mem_lookup q) rfl with z|z
      ·exact z
      ·have z':y=".0":=z;exact absurd (Qf h1) (by rw[z'];exact S.L8)
     obtain⟨j,hj,ej⟩:=RS F8;have FE:N[j]?=Od y:=by
      have e1:(N.take own.length)[j]?=Od y:=by rw[S.pre,O7 hj,ej]
      rw[UB hj]at e1;exact e1
     have:=gY S.nd FE h1;omega
    ·cases q
   ·rcases bh z with q|⟨_,q⟩
    ·exact absurd rfl (S.DL _ (mem_lookup q))
    ·exact q
   ·rcases bh z with q|⟨q,_⟩
    ·exact q
    ·cases q
  have hX:X.N[i - own.length]?=Od y:=by
   rcases S.tail.2 _ _ L9 with e|e|e
   ·exact e
   ·exact absurd e (S.dot _ (mem_lookup CF)).1
   ·exact absurd e (S.dot _ (mem_lookup CF)).2
  obtain⟨m,hn,hl⟩:=I.loc;have hv:X.env.scope.names.lookup y=Od .cell\/X.env.scope.names.lookup y=Od .free:=S.free (y,.free) (mem_lookup CF) rfl;obtain⟨u,r,l⟩:=hl _ y v hX h2 (.inr hv);refine⟨u,r,?_⟩;rcases l with⟨k,_⟩|⟨k,c,e,z⟩
  ·have k':X.env.scope.names.lookup y=Od .local:=k;rcases hv with q|q<;>(rw[k']at q;cases q)
  ·have hk:(SN scope X.env).names.lookup y=Od .cell\/(SN scope X.env).names.lookup y=Od .free:=by
    rcases GW with q|q|q
    ·rcases bh q with q'|⟨q',_⟩
     ·rw[CF]at q';cases q'
     ·cases q'
    ·exact .inl q
    ·exact .inr q
   obtain⟨o,ho,hd⟩:=z;exact .inr ⟨hk,c,eU e scope.names [] (mem_lookup CF),o,keep c o ho,hd⟩
 ·obtain⟨v,o,ho,hd⟩:=I.cell x c (sub x c e);exact⟨v,o,keep c o ho,hd⟩
 ·rw[O8,RC,I.len];have e:N.length=own.length+(N.drop own.length).length:=by rw[TL];omega
  show _=N.length;rw[e,S.tail.1]
theorem lI(I:Inv X pins σ H s)
  (I4:Inv (CN X N scope C s H ex) Fy σ' H4 s4) (hD:s.heap.objs.size<=D) (hC:s.heap.objs.size<=C) (JN:D≠C) (nD:H4 D=OB) (rv:Vals ys A') (pl:s4.heap.PlainList D A'.toArray) (hl:ys.length<=OG)
  (sb:Qc C s4.heap h') (hex:∀b∈ex,fj X pins H b):Inv X pins σ (upd H4 D (.lst ys)) {s4 with heap:=h' }:=by
 have nC:H4 C=OB:=I4.free;have lt:∀{b:OS} {o:Obj},s.heap.get? b=Od o->b≠C/\b≠D:=λe=>⟨OW (OY (OP e) hC),OW (OY (OP e) hD)⟩
 refine I.zJ (s':={s4 with heap:=h' }) (ch:=ex) I4.os ⟨λb o e n hb hx=>?_,λb o e n hb hx=>?_,λb o e n hx=>?_,λb o e hx=>?_,λb xs e=>?_,λb o u e=>?_,λb ps e=>?_⟩ (λa o e=>?_) I4.bare λb hb=>?_
 ·exact(sb.2 b (lt e).1).trans (I4.base.keep b o e n hb hx)
 ·obtain⟨sl,q⟩:=I4.base.slot b o e n hb hx;exact⟨sl,(sb.2 b (lt e).1).trans q⟩
 ·rw[ao (lt e).2];exact I4.base.free b o e n hx
 ·obtain⟨o',q⟩:=I4.base.there b o e hx;exact⟨o',(sb.2 b (lt e).1).trans q⟩
 ·have q:=I4.base.gM b xs e;rw[ao (bc q nD)];exact q
 ·have q:=I4.base.Df b o u e;rw[ao (bc q nD)];exact q
 ·obtain⟨more,q⟩:=I4.base.Dl b ps e;exact⟨more,by rw[ao (bc q nD)];exact q⟩
 ·by_cases ha:a=D
  ·subst ha;rw[av]at e;cases e;obtain⟨n,q⟩:=pl;exact⟨hl,A',n,rv,(sb.2 _ JN).trans q⟩
  ·rw[ao ha]at e;refine(I4.B0 a o e).j3 (λc v hc q=>(sb.2 c ?_).trans q) (λc q=>?_) λc xs q=>?_
   ·rintro rfl;rcases hc with z|z
    ·rw[<-z,nC]at e;cases e
    ·rw[nC]at z;cases z
   ·rw[ao (bc q nD)];exact q
   ·rw[ao (bc q nD)];exact q
 ·obtain⟨f0,f1,f2,f3,f4,f5⟩:=hex b hb;exact⟨f3,f1,f4,f5⟩
section
theorem kg(I:Nat->OR->Prop)
  (turn:∀n s,I n s->OK (OU prog w) A (SO it) (λr s₁=>match r with
   |none=>R (.ok .next) s₁
   |some v=>OK (OU prog w) A (S4 target it v) (λ_ s₁=>OK (OU prog w) A (Sy target env v) (λ_ s₂ =>
     OK (OU prog w) A (forIn ifs OA λc r=>if r=OA then do let ok <-isTrue c env (Qx c env);pure (Q8 ok) else pure (Q8 r)) (λok s₃ =>
      if ok=OA then OK (OU prog w) A (Qx elt env) (λx s₄ =>
       OK (OU prog w) A (Rm (.builtin "list.append") [acc,x]) (λ_ s₅=>∃m,m<n/\I m s₅) (Tr (OU prog w) A env λe s'=>R (.error e) s') s₄) (Tr (OU prog w) A env λe s'=>R (.error e) s') s₃
      else ∃m,m<n/\I m s₃) (Tr (OU prog w) A env λe s'=>R (.error e) s') s₂) (Tr (OU prog w) A env λe s'=>R (.error e) s') s₁) (Tr (OU prog w) A env λe s'=>R (.error e) s') s₁) (Tr (OU prog w) A env λe s'=>R (.error e) s') s)
  (n:Nat) (h:I n s) :
  RU (OU prog w) A (.compLoop (.ListComp elt [⟨target,iter,ifs,0⟩] scope pos) 0 it acc env) R s:=by
 refine codeAny_loop rfl I (λn s hI=>?_) n h;show OK _ A ((compTurn (.ListComp elt [⟨target,iter,ifs,0⟩] scope pos) 0 it acc env).onRaise (λx=>do noteFrame x env;theTreesLotGoes x)) _ _ s;refine wpAny_noted ?_;rw[compTurn_list];refine Oz (Va (Oz (PR (turn n s hI) (λr s₁ h₁=>?_) λ_ _ h'=>h')));cases r with
 |none=>exact OF h₁
 |some v =>
  refine Oz (PR h₁ (λ_ N8 L_=>?_) λ_ _ h'=>h');refine Oz (PR L_ (λ_ s₂ h₂=>Oz (PR h₂ (λok s₃ h₃=>?_) λ_ _ h'=>h')) λ_ _ h'=>h');cases ok with
  |false=>exact OF ⟨rfl,h₃⟩
  |true =>
   exact Oz (Oz (PR h₃ (λx s₄ h₄=>Oz (PR h₄ (λ_ s₅ h₅=>OF (OF ⟨rfl,h₅⟩)) λ_ _ h'=>h')) λ_ _ h'=>h'))
end
def E_(X:Cx)(ifs:List Pw)(t:TT):Prop :=
 ∀(pins:List (OS×Obj)) (s:OR) (σ:St) (H:Hp) (Q:Bool->Hp->Prop),Inv X pins σ H s->t σ H Q ->
  OK (OU X.prog X.w) X.A (forIn ifs OA λc r=>if r=OA then do let ok <-isTrue c X.env (Qx c X.env);pure (Q8 ok) else pure (Q8 r)) (TP X pins σ Q) X.xe s
def BL:TT:=λ_ H Q=>Q OA H
theorem oN:E_ X [] BL:=λ_ _ _ H _ I h=>wpAny_tests_nil ⟨H,I,h⟩
theorem oO(h:PT X c t):E_ X [c] t:=λpins s σ H Q I q=>wpAny_tests_one (h pins s σ H Q I q)
def oP(k:Nat)(J:It)(g:TG)(tt:TT)(te:TE)(Q:VK)(σ:St)(H1:Hp):Prop :=
  ∃W:Nat->Nat->List V->Hp->Prop,(∃m,W 0 m [] H1)/\∀i m ys H,W i m ys H->ys.length<=OG /\
    ((J.stop i H/\∀p,H p=OB->Q (.ref p) (upd H p (.lst ys))) \/
     (J.go i H/\∃NN:List V->Hp->Prop,(∀EX H',NN EX H'->∃m',m'<m/\W (i+1) m' EX H')/\∀x H',J.IB i H x H'->g x (OZ k OB++σ) H' λσ2 H2=>∃own:St,own.length=k/\σ2=own++σ /\
        tt σ2 H2 λb H3=>if b=OA then te σ2 H3 λy H4=>NN (ys++[y]) H4 else NN ys H3))
def r_(k:Nat)(wi:TI)(g:TG)(tt:TT)(te:TE):TE:=λσ H Q=>wi σ H λJ H1=>oP k J g tt te Q σ H1
section
theorem sd
  (S:cN X N own scope) (hc:X.calm=OA) (hg:∀C s H ex,PG (CN X N scope C s H ex) tg g) (hf:∀C s H ex,E_ (CN X N scope C s H ex) ifs tt) (he:∀C s H ex,PE (CN X N scope C s H ex) elt te)
  (I:Inv X pins σ H s) (T:Turn X.prog X.w X.K tg J fp it tn) (st:tn 0 s.heap) (f2:∀b∈fp,fj X pins H b) (W:oP own.length J g tt te Q σ H)
  (hD:@Eq Nat D s.heap.objs.size) (hC:@Eq Nat C (s.heap.objs.size+1)) (Eu:s4.os=s.os) (Ma:s4.gens=s.gens) (keep:∀b o,s.heap.get? b=Od o->s4.heap.get? b=Od o) (ns:∃m,s4.heap.Ns C m) (pl:s4.heap.PlainList D #[])
  (fin:∀s5 H5 ys A',Inv (CN X N scope C s H fp) [] (OZ own.length OB++σ) H5 s5->H5 D=OB->Vals ys A'->s5.heap.PlainList D A'.toArray->ys.length<=OG->(∀p,H5 p=OB->Q (.ref p) (upd H5 p (.lst ys)))->R (.ok .next) s5) :
  RU (OU X.prog X.w) X.A (.compStart (.ListComp elt [⟨tg,iter,ifs,0⟩] scope pos) 0 (.ref it) (.ref D) (T_ scope (aZ X.env scope.names []) C X.env)) R s4:=by
 have Fb:∀b∈fp,@Q7 Nat _ b s.heap.objs.size:=λb hb=>by
  obtain⟨o,e,_⟩:=T.obj 0 s.heap st b hb;exact OP e
 have I4:Inv (CN X N scope C s H fp) [] (OZ own.length OB++σ) H s4:=r9 S I ⋯ Eu Ma keep ns λb hb=>⟨f2 b hb,Fb b hb⟩
 have GX:tn 0 s4.heap:=T.keep 0 s.heap s4.heap st λb _ o e=>keep b o e;have nD:H D=OB:=I.B0.fresh ⋯;obtain⟨W,⟨m0,w0⟩,VP⟩:=W;generalize DM:CN X N scope C s H fp=X' at I4 fin;have eP:X'.prog=X.prog:=by rw[<-DM];rfl
 have ew:X'.w=X.w:=by rw[<-DM];rfl
 have eK:X'.K=X.K:=by rw[<-DM];rfl
 have ec:X'.calm=OA:=by rw[<-DM];exact hc
 have eA:X'.A=X.A:=by rw[<-DM];rfl
 have ee:X'.env=T_ scope (aZ X.env scope.names []) C X.env:=by rw[<-DM];rfl
 have JO:X'.xe=λ_ _=>False:=by rw[<-DM];rfl
 have el:X'.env.locals=C:=by rw[ee];rfl
 have Mb:PG X' tg g:=by rw[<-DM];exact hg _ _ _ _
 have Mc:E_ X' ifs tt:=by rw[<-DM];exact hf _ _ _ _
 have JP:PE X' elt te:=by rw[<-DM];exact he _ _ _ _
 have s0:X'.s₀=s:=by rw[<-DM];rfl
 have Hr:X'.pn=[]:=by rw[<-DM];rfl
 have JQ:∀{H':Hp} {o:Obj},(∀b∈fp,H' b=OB)->∀b∈fp,fj X' [(D,o)] H' b:=λ{H' o} hn b hb=>by
  have ex:X'.ex=fp:=by rw[<-DM];rfl
  refine⟨hn b hb,?_,?_,.inl (by rw[ex];exact hb),λx c e=>?_,λp hp=>?_⟩
  ·rw[el];have:=Fb b hb;exact OW (by show @Q7 Nat _ b C;omega)
  ·have e1:X'.fs=DZ X.stack:=by rw[<-DM];rfl
   rw[e1];intro z;obtain⟨f0,f1,Md,f3,f4,f5⟩:=f2 b hb;rcases OV.mp (I.gX b z) with q|q
   ·exact f1 q
   ·exact Md q
  ·have e1:X'.env.cells=aZ X.env scope.names []:=by rw[ee];rfl
   rw[e1]at e;exact(f2 b hb).2.2.2.2.1 x c (cY scope.names [] (λn c e=>by simp at e) x c e)
  ·rw[Hr,Pu]at hp;have:p=(D,o):=by simpa using hp
   subst this;have:=Fb b hb;exact QA (by show @Q7 Nat _ b D;omega)
 have JR:∀{σ':St} {H':Hp} {s':OR} {o:Obj},Inv X' [] σ' H' s'->H' D=OB->s'.heap.get? D=Od o->(∀v,o.data≠.cell v)->Inv X' [(D,o)] σ' H' s':=λ{σ' H' s' o} I' n e d =>
  I'.dZ λp hp=>by
   have:p=(D,o):=by simpa using hp
   subst this;refine⟨e,n,?_,?_,d⟩
   ·rw[el];exact OW (by show @Q7 Nat _ D C;omega)
   ·have e1:X'.fs=DZ X.stack:=by rw[<-DM];rfl
    rw[e1];intro z;have zz:(D:OS)∈DZ X.stack:=z;rcases OV.mp (I.gX D zz) with q|q
    ·have:=I.lt;rw[<-q]at this;exact absurd this (by show ¬@Q7 Nat _ D s.heap.objs.size;omega)
    ·exact I.zI (a:=D) ⋯ q
 have start:∀s':OR,s'=s4->RU (OU X.prog X.w) X.A (.compLoop (.ListComp elt [⟨tg,iter,ifs,0⟩] scope pos) 0 (.ref it) (.ref D) (T_ scope (aZ X.env scope.names []) C X.env)) R s':=by
  rintro s' rfl;refine kg (λn s'=>∃i ys A' H',Inv X' [] (OZ own.length OB++σ) H' s'/\tn i s'.heap/\(∀b∈fp,H' b=OB)/\H' D=OB/\Vals ys A'/\s'.heap.PlainList D A'.toArray/\W i n ys H') ?_ m0
   ⟨0,[],[],H,I4,GX,λb hb=>(f2 b hb).1,nD,.nil,pl,w0⟩
  rintro n s3 ⟨i,ys,A',H3,I3,CI,Hd,K4,IL,⟨nn,Mg⟩,w3⟩;obtain⟨hlen,D4⟩:=VP i n ys H3 w3;have IP:=JR I3 K4 Mg (λv z=>by have z':Data.seq _ _=UH v:=z;cases z');rcases D4 with⟨stop,qn⟩|⟨go,NN,K5,turn⟩
  ·have d:=T.done X' eP ew eK ec i _ s3 _ H3 (Tr (OU X.prog X.w) X.A (T_ scope (aZ X.env scope.names []) C X.env) λe s'=>R (.error e) s') IP (JQ Hd) CI stop;rw[eA]at d;refine B6 d λr s4 ⟨hr,I5⟩=>?_;subst hr;have e5:=(I5.pin (D,({cls:=.type "list",data:=.seq A'.toArray nn}:Obj)) (by rw[Hr];simp)).1;exact fin s4 H3 ys A' (I5.dZ λp hp=>by cases hp) K4 IL ⟨nn,e5⟩ hlen qn
  ·have d:=T.item X' eP ew eK ec i _ s3 _ H3 (Tr (OU X.prog X.w) X.A (T_ scope (aZ X.env scope.names []) C X.env) λe s'=>R (.error e) s') IP (JQ Hd) CI go;rw[eA]at d;refine B6 d λr s4 ⟨u,hr,h4⟩=>?_;subst hr;refine B6 h4 λ_ s5 ⟨x,H5,I5,r5,y5,FA,JA⟩=>?_;have N9:H5 D=OB:=(I5.pin (D,({cls:=.type "list",data:=.seq A'.toArray nn}:Obj)) (by rw[Hr];simp)).2.1;have JB:=I5.pinned (JQ JA) (T.obj _ _ FA);have a6:=Mb _ s5 _ H5 x u _ JB r5 (turn x H5 y5);rw[eP,ew,eA,ee,JO]at a6;refine PR a6 (λ_ s6 ⟨σ6,H6,I6,q6⟩=>?_) λ_ _ z=>Q2 z;obtain⟨ow,how,rfl,q6⟩:=q6;have a7:=Mc _ s6 _ H6 _ I6 q6;rw[eP,ew,eA,ee,JO]at a7;refine PR a7 (λb s7 ⟨H7,I7,q7⟩=>?_) λ_ _ z=>Q2 z;have back:∀{s8:OR} {H8:Hp} {EX:List V} {its':List OH} {nn':Nat},Inv X' [] (ow++σ) H8 s8->tn (i+1) s8.heap->(∀b∈fp,H8 b=OB)->H8 D=OB->Vals EX its'->s8.heap.PlainList D its'.toArray->(∃m',m'<n/\W (i+1) m' EX H8) ->
     ∃m,m<n/\∃i ys A' H',Inv X' [] (OZ own.length OB++σ) H' s8/\tn i s8.heap/\(∀b∈fp,H' b=OB)/\H' D=OB/\Vals ys A'/\s8.heap.PlainList D A'.toArray/\W i m ys H':=λ{s8 H8 EX its' nn'} I8 Mh Mi n8 Mj Mk w8=>by
    obtain⟨m',hm,w8⟩:=w8;refine⟨m',hm,i+1,EX,its',H8,I8.weak (by simp[how]) (λj v e=>?_),Mh,Mi,n8,Mj,Mk,w8⟩;by_cases hj:j<own.length
    ·rw[Pz (by simpa using hj),Qi]at e;split at e<;>cases e
    ·rw[Pf (by simpa using(Nat.not_lt.mp hj)),RC]at e;rw[Pf ⋯,how];exact e
   have tell:∀{σ':St} {H8:Hp} {s8:OR},Inv X' ([(D,({cls:=.type "list",data:=.seq A'.toArray nn}:Obj))]++gZ fp s5.heap) σ' H8 s8->s8.heap.get? D=Od {cls:=.type "list",data:=.seq A'.toArray nn}/\H8 D=OB/\tn (i+1) s8.heap/\∀b∈fp,H8 b=OB:=λ{σ' H8 s8} I8=>by
    have p1:=I8.pin (D,({cls:=.type "list",data:=.seq A'.toArray nn}:Obj)) (by rw[Hr];simp);refine⟨p1.1,p1.2.1,T.keep _ _ _ FA λb hb o e=>(I8.pin (b,o) (Po _ (Po _ (cW hb e)))).1,λb hb=>?_⟩;obtain⟨o,e,d⟩:=T.obj _ _ FA b hb;exact(I8.pin (b,o) (Po _ (Po _ (cW hb e)))).2.1
   cases b with
   |false =>
    rw[Xu O']at q7 ⊢;obtain⟨p1,p2,p3,p4⟩:=tell I7;exact back (nn':=0) (I7.dZ λp hp=>by cases hp) p3 p4 p2 IL ⟨nn,p1⟩ (K5 _ _ q7)
   |true =>
    rw[Xs rfl]at q7 ⊢;have a8:=JP _ s7 _ H7 _ I7 q7;rw[eP,ew,eA,ee,JO]at a8;refine PR a8 (λy s8 ⟨yv,H8,I8,r8,q8⟩=>?_) λ_ _ z=>Q2 z;obtain⟨p1,p2,p3,p4⟩:=tell I8;have hsz:A'.toArray.size<=OG:=by rw[OL,<-IL.length];exact hlen
    refine wpAny_list_append_plain (hsz:=hsz) ⟨nn,p1⟩ λh9 Ml K6=>?_;have Mm:Inv X' [] (ow++σ) H8 s8:=I8.dZ λp hp=>by cases hp
    have IM:∀x c,X'.env.cells.lookup x=Od c->c≠D:=λx c e=>by
     have e1:X'.env.cells=aZ X.env scope.names []:=by rw[ee];rfl
     rw[e1]at e;have q:=cY scope.names [] (λn c e=>by simp at e) x c e;obtain⟨v,z⟩:=I.cell x c q;have:@Q7 Nat _ c s.heap.objs.size:=z.lt;exact OW (by show @Q7 Nat _ c D;omega)
    have I9:Inv X' [] (ow++σ) H8 {s8 with heap:=h9,toks:=s8.toks}:=Mm.turned (it:=D) (λb o hb e=>(K6.2 b hb).trans e) p2 (by rw[el];exact OW (by show @Q7 Nat _ D C;omega)) (.inr (by rw[s0];show @WK Nat _ s.heap.objs.size D;omega)) IM (λp hp=>by rw[Hr]at hp;cases hp);have Mn:(A'++[y]).toArray=A'.toArray.push y:=by simp
    refine back (nn':=0) (s8:={s8 with heap:=h9,toks:=s8.toks}) I9 (T.keep _ _ _ p3 λb hb o e=>(K6.2 b ?_).trans e) p4 p2 (IL.append (.cons r8 .nil)) (by rw[Mn];exact Ml) (K5 _ _ q8);have:=Fb b hb;exact OW (by show @Q7 Nat _ b D;omega)
 exact codeAny_compStart_list (start _ rfl) (T.self _ _ _ _ _ GX (start _ rfl))
theorem ie{RR:OH->OS->Result->OR->Prop}
    (S:cN X N own scope) (hc:X.calm=OA) (hg:∀C s H ex,PG (CN X N scope C s H ex) tg g) (hf:∀C s H ex,E_ (CN X N scope C s H ex) ifs tt) (he:∀C s H ex,PE (CN X N scope C s H ex) elt te)
 (I:Inv X pins σ H s) (T:Turn X.prog X.w X.K tg J fp it tn) (st:tn 0 s.heap) (f2:∀b∈fp,fj X pins H b) (W:oP own.length J g tt te Q σ H)
    (fin:∀D C s5 H5 ys A',@Eq Nat D s.heap.objs.size->@Eq Nat C (s.heap.objs.size+1)->Inv (CN X N scope C s H fp) [] (OZ own.length OB++σ) H5 s5->H5 D=OB->Vals ys A'->s5.heap.PlainList D A'.toArray->ys.length<=OG->(∀p,H5 p=OB->Q (.ref p) (upd H5 p (.lst ys)))->RR (.ref D) C (.ok .next) s5) :
    OK (OU X.prog X.w) X.A (Vw []) (λacc s₃=>OK (OU X.prog X.w) X.A (newFunctionEnv scope X.env.globals (aZ X.env scope.names []) [] X.env.qual OB .none (Od X.env)) (λHs s₄ =>
      RU (OU X.prog X.w) X.A (.compStart (.ListComp elt [⟨tg,iter,ifs,0⟩] scope pos) 0 (.ref it) acc {Hs with scope:=SN scope X.env}) (RR acc Hs.locals) s₄) E s₃) E s:=by
  refine Pe (wpAny_newFunctionEnv S.DL (by intro y hy;simp at hy) (λh₁ F9 Fc=>?_) S.kind)
  dsimp only at F9 Fc ⊢
  generalize JS:s.heap.push {cls:=.type "list",dict:=OB,data:=.seq ([]:List OH).toArray}=H2 at F9 Fc ⊢;have hC:H2.objs.size=s.heap.objs.size+1:=by rw[<-JS,Uk]
  have JN:s.heap.objs.size≠H2.objs.size:=by rw[hC];exact OW (QH _)
  have below:∀b:OS,b<s.heap.objs.size->b≠H2.objs.size:=λb hb=>OW (by have Dj:@Q7 Nat _ b s.heap.objs.size:=hb;show @Q7 Nat _ b H2.objs.size;omega);have old:∀b o,s.heap.get? b=Od o->h₁.get? b=Od o:=λb o e=>Fc.extBut b o (below b (OP e)) (OC _ (JS▸OC _ e));have Cj:h₁.PlainList s.heap.objs.size #[]:=⟨_,Fc.extBut _ _ JN (OC _ (JS▸OO _ rfl))⟩
  exact sd (s:=s) (s4:={s with heap:=h₁,toks:=s.toks+([]:List (Str×OH)).length}) (C:=H2.objs.size) (D:=s.heap.objs.size) S hc hg hf he I T st f2 W rfl hC rfl rfl old ⟨_,F9⟩ Cj
    λs5 H5 ys A' I5 n5 Ht Hu Hv q5=>fin _ _ s5 H5 ys A' rfl hC I5 n5 Ht Hu Hv q5
theorem vz(S:cN X N own scope)(hc:X.calm=OA)(hi:PI X tg iter wi)(hg:∀C s H ex,PG (CN X N scope C s H ex) tg g)(hf:∀C s H ex,E_ (CN X N scope C s H ex) ifs tt)(he:∀C s H ex,PE (CN X N scope C s H ex) elt te)
  (hs:∀x,QD iter X.env x=pure x:=by intro _;rfl):PE X (.ListComp elt [⟨tg,iter,ifs,0⟩] scope pos) (r_ own.length wi g tt te):=by
 intro pins s σ H Q I h;rw[eval_ListComp];refine Vc (use:=OB) (cl:=aZ X.env scope.names []) rfl hs (cQ (S.cells I.ok)) S.kind S.names ?_;refine B6 (hi pins s σ H _ I h) λv s1 h1=>B6 h1 λIC s2 h2=>?_;obtain⟨it,fp,tn,J,H2,e,I2,T,st2,f2,W⟩:=h2;subst e;refine ie (RR:=λacc C=>compPost (OU X.prog X.w) X.A X.xe OB (EP X pins σ Q) acc C) S hc hg hf he I2 T st2 f2 W ?_;intro D C s5 H5 ys A' hD hC I5 n5 Ht Hu Hv q5;obtain⟨m5,JT,_⟩:=I5.loc;exact⟨m5,JT,λh' sb=>⟨.ref D,_,lI I2 I5 (U4 hD.symm) (by show @WK Nat _ s2.heap.objs.size C;omega) (OW (by show @Q7 Nat _ D C;omega)) n5 Ht Hu Hv sb f2,rfl,q5 D n5⟩⟩
theorem vA(S:cN X N own scope)(hc:X.calm=OA)(hN:X.N.Nodup)(IQ:X.N[i]?=Od y)(hy:X.env.scope.names.lookup y=Od .local)
  (hi:PI X tg iter wi) (hg:∀C s H ex,PG (CN X N scope C s H ex) tg g) (hf:∀C s H ex,E_ (CN X N scope C s H ex) ifs tt) (he:∀C s H ex,PE (CN X N scope C s H ex) elt te)
  (FF:Se (.ListComp elt [⟨tg,iter,ifs,0⟩] scope pos) (Od (.Name y py)) Eb.line X.env=pure OA:=by rfl)
  (hs:∀x,QD iter X.env x=pure x:=by intro _;rfl):PS X (.Assign [.Name y py] (.ListComp elt [⟨tg,iter,ifs,0⟩] scope pos) Eb) (x5 (r_ own.length wi g tt te) (oH i)):=by
 intro pins s σ H D I h;rw[exec_Assign_Name_used _ _ _ _ FF];refine Oz (Va (Oz ?_));show OK _ X.A (do let _ <-comprehension (.ListComp elt [⟨tg,iter,ifs,0⟩] scope pos) scope X.env _ (Vw []) OE (Qx iter X.env) (Od (Sy (.Name y py) X.env))) _ _ s;refine Oz (PR (Vc (use:=Od (Sy (.Name y py) X.env)) (cl:=aZ X.env scope.names []) (Q:=λ_ s'=>SP X pins D .next s') rfl hs (cQ (S.cells I.ok)) S.kind S.names ?_) (λ_ s' hq=>OF (OF hq)) λ_ _ e=>e);refine B6 (hi pins s σ H _ I h) λv s1 h1=>B6 h1 λIC s2 h2=>?_;obtain⟨it,fp,tn,J,H2,e,I2,T,st2,f2,W⟩:=h2;subst e;refine ie (RR:=λacc C=>compPost (OU X.prog X.w) X.A X.xe (Od (Sy (.Name y py) X.env)) (λ_ s'=>SP X pins D .next s') acc C) S hc hg hf he I2 T st2 f2 W ?_;intro DD C s5 H5 ys A' hD hC I5 n5 Ht Hu Hv q5;obtain⟨m5,JT,_⟩:=I5.loc;have Mo:H5 C=OB:=I5.free;have B:Inv X pins σ (upd H5 DD (.lst ys)) {s5 with heap:=s5.heap}:=lI I2 I5 (U4 hD.symm) (by show @WK Nat _ s2.heap.objs.size C;omega) (OW (by show @Q7 Nat _ DD C;omega)) n5 Ht Hu Hv (Uy ..) f2;show OK _ X.A (Sy (.Name y py) X.env (.ref DD)) _ _ s5;refine Ww (jo (s:=s5) B hN IQ (.inl hy) (show RelV (.ref DD) (.ref DD) from rfl) (λs6 I6 ⟨a,sb,ha⟩=>?_) (.inr hy));have IM:@Q7 Nat _ X.env.locals C:=by have:@Q7 Nat _ X.env.locals s2.heap.objs.size:=I2.lt;omega
 have Ey:∀x c,X.env.cells.lookup x=Od c->c≠C:=λx c e=>by
  obtain⟨v,z⟩:=I2.cell x c e;have:@Q7 Nat _ c s2.heap.objs.size:=z.lt;exact OW (by show @Q7 Nat _ c C;omega)
 have Mp:C≠a:=by
  rcases ha with z|z
  ·rw[z];exact QA IM
  ·exact(Ey _ _ z).symm
 refine⟨m5,JT.sameBut sb Mp,λh' Mq=>?_⟩;refine⟨σ.set i (Od (.ref DD)),upd H5 DD (.lst ys),I6.turned (it:=C) (t':=s6.toks) (λb o hb e=>(Mq.2 b hb).trans e) ?_ (QA IM) (.inr (by have:@WK Nat _ X.s₀.heap.objs.size s2.heap.objs.size:=I2.sz;show @WK Nat _ X.s₀.heap.objs.size C;omega)) Ey (λp hp=>?_),q5 DD n5⟩
 ·rw[ao (QA (by show @Q7 Nat _ DD C;omega))];exact Mo
 ·have:@Q7 Nat _ p.1 s2.heap.objs.size:=OP (I2.pin p hp).1;exact OW (by show @Q7 Nat _ p.1 C;omega)
end
section
end
section
def Ah:V->Option Int->Option Int->Hp->VK->Prop:=λx lo hi H Q=>∃z,x=.str z/\z.length<=OG/\Q (.str (PySem.StrLaws.sliceText z lo hi)) H
theorem jg(x:Str)(lo hi:Option Int)(hz:x.length<=OG):(PySem.StrLaws.sliceText x lo hi).length<=OG:=Qe (Txt.slice_le x lo hi) hz
theorem yp:EW X Ah:=by
 intro pins s σ H x v vl vu lo hi sl Q I rx hs pl pu h;obtain⟨z,rfl,hz,q⟩:=h;obtain⟨t,rfl⟩:=rx;refine⟨"str",_,WZ.lookup,Sj _ _ _,?_⟩;have fin:(PySem.StrLaws.sliceText z lo hi).length<=OG/\∀t' k,EP X pins σ Q (.str (PySem.StrLaws.sliceText z lo hi) t') {s with toks:=k}:=⟨jg z lo hi hz,λt' k=>⟨.str _,H,I.tok k,⟨_,rfl⟩,q⟩⟩
 cases pl with
 |none =>
  cases pu with
  |none=>exact Rx (l:=OB) (u:=OB) (st:=OB) hs rfl (S3 fin)
  |int j tj=>exact Rx (l:=OB) (u:=Od (j,tj)) (st:=OB) hs rfl (S3 fin)
 |int i ti =>
  cases pu with
  |none=>exact Rx (l:=Od (i,ti)) (u:=OB) (st:=OB) hs rfl (S3 fin)
  |int j tj=>exact Rx (l:=Od (i,ti)) (u:=Od (j,tj)) (st:=OB) hs rfl (S3 fin)
theorem jz:∀(l:List (Str×Tok)),Vals (l.map λp=>V.str p.1) (Vk l)
 |[]=>.nil
 |(x,t)::r=>.cons ⟨t,rfl⟩ (jz r)
theorem fu:∀{ys:List Str}{A':List OH},Vals (ys.map V.str) A'->∃l:List (Str×Tok),A'=Vk l/\l.map (·.1)=ys
 |[],_,.nil=>⟨[],rfl,rfl⟩
 |y::ys,_,.cons r t=>by
  obtain⟨tk,rfl⟩:=r;obtain⟨l,rfl,e⟩:=fu t;exact⟨(y,tk)::l,rfl,by rw[OQ,e]⟩
theorem se:IG X "str.split" (λx xs H Q=>∃a b,x=.str a/\xs=[.str b]/\(b.length==0)=OE/\a.length+2<=OG /\
  ∀p,H p=OB->Q (.ref p) (upd H p (.lst ((UM a b).map V.str)))):=by
 intro pins s σ H x xs v us Q I rx rs h;obtain⟨x,y,rfl,rfl,hy,hz,q⟩:=h;obtain⟨t,rfl⟩:=rx;obtain⟨u0,rfl,u,rfl⟩:=vals1 rs;have hf:H s.heap.objs.size=OB:=I.B0.fresh (ON _);have q':=q _ hf;have fin:∀(l:List (Str×Tok)) (k:Nat),l.length<=OG->l.map (·.1)=UM x y->EP X pins σ Q (.ref s.heap.objs.size) {s with toks:=k,heap:=s.heap.push {cls:=.type "list",data:=.seq (Vk l).toArray}}:=λl k hl e =>
  ⟨.ref s.heap.objs.size,_,I.laid (t':=k) (o:=.lst ((UM x y).map V.str)) (λb u e=>OC _ e) (ON _)
   ⟨by rw[<-e,OJ,OJ];exact hl,Vk l,_,by rw[<-e,Pp];exact jz l,OO _ rfl⟩,rfl,q'⟩
 have one:1<=OG:=by decide
 cases h1:(OI (x.length<y.length)||decide (Um x<Um y))
 ·cases hf:(Q4 x y 0 x.length (x.length+1)).isEmpty
  ·have hn:(Q1 x (Q4 x y 0 x.length (x.length+1)) y.length).length<=OG:=by
    have:=PySem.StrLaws.occ_length_le x y 0 x.length (x.length+1);simp only[Q1,OJ,V5,Pb,O8];omega
   refine Rt Ud (Sj _ _ _) TR (Tz _ _) (meets_str_split_sep x y t u h1 hy hf ⋯ hn) ?_;show wants _ _ _ {s with toks:=_,heap:=s.heap.push {cls:=.type "list",data:=.seq (strsFrom s.toks (Q1 x (Q4 x y 0 x.length (x.length+1)) y.length)).toArray}};rw[strsFrom_eq];refine fin (numbered s.toks _) _ ?_ ((Xa _ _).trans ((Xu (ne_true_of_eq_false h1)).trans (Xu (ne_true_of_eq_false hf))).symm);have e:=congrArg SJ (Xa s.toks (Q1 x (Q4 x y 0 x.length (x.length+1)) y.length));rw[OJ]at e;omega
  ·exact Rt Ud (Sj _ _ _) TR (Tz _ _) (meets_str_split_not_found x y t u h1 hy hf)
    (fin [(x,t)] _ one ((Xu (ne_true_of_eq_false h1)).trans (Xs hf)).symm)
 ·exact Rt Ud (Sj _ _ _) TR (Tz _ _) (meets_str_split_cannot_occur x y t u h1)
   (fin [(x,t)] _ one (Xs h1).symm)
theorem vB:IG X "str.join" (λx xs H Q=>∃a p ys,x=.str a/\xs=[.ref p]/\Cn X.K H p (ys.map V.str)/\Wj a ys=OA/\Q (.str (SU a ys)) H):=by
 intro pins s σ H x xs v us Q I rx rs h;obtain⟨a,p,ys,rfl,rfl,hq,B0,q⟩:=h;obtain⟨t,rfl⟩:=rx;obtain⟨u,rfl,r⟩:=vals1 rs;cases r;obtain⟨A',rv,pl,hz⟩:=I.list hq;obtain⟨l,rfl,e⟩:=fu rv;exact SC.join pl.isList e B0 λt' k=>⟨.str _,H,I.tok k,⟨_,rfl⟩,q⟩
theorem gz:∀{bs:List Bool}{A':List OH},Vals (bs.map V.bl) A'->A'=bs.map RZ
 |[],_,.nil=>rfl
 |b::bs,_,.cons r t=>by
  cases r;rw[gz t];rfl
theorem sf:X.calm=OA->eG X (.builtin "all") (λxs H Q=>∃(p:OS) (bs:List Bool),xs=[.ref p]/\Cn X.K H p (bs.map V.bl)/\Q (.bl (bs.all id)) H):=by
 intro hc pins s σ H xs us Q I rs h;obtain⟨p,bs,rfl,hq,q⟩:=h;obtain⟨u,rfl,r⟩:=vals1 rs;cases r;obtain⟨A',rv,pl,hz⟩:=I.list hq;have e:=gz rv;subst e;have Ce:p<s.heap.objs.size:=by obtain⟨_,_,e,_⟩:=pl;exact OP e
 refine call_all_walk (T3 pl.isList ?_);refine⟨s.heap.objs.size,[s.heap.objs.size,p],[s.heap.objs.size],(bs.map RZ).toArray.size,_,_,λi=>(bs[i]?).getD OA,rfl,WT (A:=X.A.in1) (I.ok.hd hc) _ p (OW Ce) (bs.map RZ).toArray,
  ⟨⟨_,OO _ rfl,rfl,rfl⟩,pl.isList.push _⟩,λi v s' Q' E' hP hQ=>?_,λh' tk hk=>?_⟩
 ·have Hw:(bs.map RZ)[i]?=Od v:=by simpa using hP
  rw[OX]at Hw;cases e:bs[i]? with
  |none=>rw[e]at Hw;cases Hw
  |some b =>
   rw[e]at Hw;cases Hw;simp only[e,Option.getD_some]at hQ;exact Ql hQ
 ·have e:((O2 (bs.map RZ).toArray.size).all λi=>(bs[i]?).getD OA)=bs.all id:=by
   rw[OL,OJ];exact V' bs
  rw[e];exact⟨.bl _,H,I.kept (t':=tk) (Wa hk),rfl,q⟩
end
section
end
def yq(N own:List Str)(scope:Q0)(out:List (Str×Rb)):Bool :=
 OI (scope.kind=.function)&&scope.names.all (λy=>OI (y.2≠.cell))&&scope.names.all (λy=>OI (y.2≠.local)||decide (scope.names.lookup y.1=Od .local))&&decide N.Nodup&&OI (N.take own.length=own) &&
 scope.names.all (λy=>OI (y.2≠.local)||decide (y.1∈own)||decide (y.1=".0"))&&OI ((".0":Str)∉N)&&scope.names.all (λy=>OI (y.2≠.free)||decide (out.lookup y.1=Od .cell)||decide (out.lookup y.1=Od .free))&&scope.names.all (λy=>OI (y.1≠".")&&OI (y.1≠".."))
theorem sg(hn:X.env.scope.names=out)(ht:cM (N.drop own.length) X.N)(h:yq N own scope out=OA):cN X N own scope:=by
 unfold yq at h;simp only[OD,O6,Qj,Xt]at h;obtain⟨⟨⟨⟨⟨⟨⟨⟨h1,h2⟩,h3⟩,h4⟩,h5⟩,h6⟩,h7⟩,h8⟩,h9⟩:=h;refine⟨h1,h2,λy hy e=>?_,h4,h5,λy hy e=>?_,h7,ht,λy hy e=>?_,h9⟩
 ·rcases h3 y hy with z|z
  ·exact absurd e z
  ·exact z
 ·rcases h6 y hy with(z|z)|z
  ·exact absurd e z
  ·exact .inl z
  ·exact .inr z
 ·rw[hn];rcases h8 y hy with(z|z)|z
  ·exact absurd e z
  ·exact .inl z
  ·exact .inr z
section
def aR(prog:PC)(w:P4)(h:Qk)(k:Str×List Str)(a:OS):Prop :=
 ∃o n t b,h.get? a=Od o/\o.cls=.type "tuple"/\o.data=.seq #[.str k.1 t,.ref b] n/\U2 (PySem.strKind prog w) h k.2 b
theorem aR.typeIs{s:OR}(x:aR prog w s.heap k a):s.TypeIs (.ref a) "tuple":=let ⟨o,_,_,_,ho,hc,_⟩:=x;⟨o,ho,hc⟩
theorem aR.inj(hx:aR prog w h x a)(hy:aR prog w h y a):x=y:=by
 obtain⟨o,n,t,b,ho,_,hd,hi⟩:=hx;obtain⟨o',n',t',b',CH,_,Dm,C3⟩:=hy;obtain rfl:o=o':=Px (ho.symm.trans CH);rw[hd]at Dm;injection Dm with h1 _
 simp only[Array.mk.injEq,Sh,Value.str.injEq,Value.ref.injEq,and_true]at h1;obtain⟨⟨e1,_⟩,e2⟩:=h1;subst e2;exact Wb e1 (hi.inj C3)
theorem aR.keeps(x:aR prog w h k a)(ho:h.get? d=Od o)(hd:o.data=.dict es ep)(hs:Qc d h h'):aR prog w h' k a:=by
 obtain⟨o',n,t,b,CH,hc,Dm,hi⟩:=x;have C7:a≠d:=by
  rintro rfl;obtain rfl:o'=o:=Px (CH.symm.trans ho);rw[hd]at Dm;exact nomatch Dm
 exact⟨o',n,t,b,(hs.2 a C7).trans CH,hc,Dm,hi.keeps ho hd hs⟩
def kh(prog:PC)(w:P4)(k:Str×List Str):Int:=reduceHash (P2 [(PySem.strKind prog w).hash k.1,RG (PySem.strKind prog w) k.2])
def si(prog:PC)(w:P4)(hh:Qk)(v:OH)(n:Int)(d:Nat):Prop :=
 ∀{A:QW} {E:OH->OR->Prop} {s:OR} {Q:Int->OR->Prop},s.heap=hh->A.units<Qd->Q n {s with toks:=s.toks+d}->OK (OU prog w) A (pyHash v) Q E s
theorem nh(x:Str)(t:Tok):si prog w hh (.str x t) ((PySem.strKind prog w).hash x) 1:=λ_ _ h=>(PySem.strKind prog w).pyHash (by simp[PySem.strKind,QR]) h
theorem kl(hk:U2 (PySem.strKind prog w) hh ks b):si prog w hh (.ref b) (RG (PySem.strKind prog w) ks) (ks.length+1):=λe hu h=>by
 subst e;exact wpAny_pyHash_tuple hu hk h
theorem fZ(hu:A.units+1<Qd)(hk:aR prog w s.heap k a)(h:Q (kh prog w k) {s with toks:=s.toks+(k.2.length+3)}):
  OK (OU prog w) A (pyHash (.ref a)) Q E s:=by
 have hT:=hk.typeIs;obtain⟨o,n,t,b,ho,_,hd,hi⟩:=hk;unfold pyHash
 first|unfold pyHashByItsType|skip
 first|refine Oz (wpAny_cRoomFor_or (.inr ⋯) ?_)|skip
 refine Oz (QY hT PySem.F.slot_tuple_hash.lookup ?_);show OK _ _ (if (Od (Value.builtin "tuple.__hash__")==Od Pa)=OA then _ else _) Q E s;rw[Xu (by rw[beq_builtin_none];exact O')];refine Oz (QY hT PySem.F.slot_tuple_hash.lookup ?_);show OK _ _ (callSpecialIfBoundUnlessNone? (.ref a) "__hash__" _ >>= _) Q E s;refine Oz (wpAny_callSpecialIfBoundUnlessNone?_slot hT PySem.F.slot_tuple_hash (PK PySem.F.slot_tuple_hash hT PySem.F.entry_tuple_hash ?_ (PySem.F.args_tuple_hash_1 _)));show OK _ _ (RB (.ref a) >>= _) _ _ s;refine Oz (TQ ho hd ?_);refine Oz ?_;rw[<-Tc];refine SE _
  (λrest (b':Array Int) s'=>(rest=[PL k.1 t,O0 b]/\b'=#[]/\s'=s)\/(rest=[O0 b]/\b'.toList=[(PySem.strKind prog w).hash k.1]/\s'={s with toks:=s.toks+1}) \/
   (rest=[]/\b'.toList=[(PySem.strKind prog w).hash k.1,RG (PySem.strKind prog w) k.2]/\s'={s with toks:=s.toks+1+(k.2.length+1)}))
  _ ?_ ?_ _ _ (.inl ⟨rfl,rfl,rfl⟩)
 ·rintro x rest b' s' (⟨e,rfl,rfl⟩|⟨e,hb,rfl⟩|⟨e,_,_⟩)
  ·cases e;refine Oz (nh k.1 t (hh:=s'.heap) rfl (by show A.units+1<Qd;exact hu) ?_)
   first
    |exact OF (.inr (.inl ⟨rfl,rfl,rfl⟩))
    |exact Oz (OF (OF (.inr (.inl ⟨rfl,rfl,rfl⟩))))
  ·cases e;refine Oz (kl hi rfl (by show A.units+1<Qd;exact hu) ?_)
   first
    |exact OF (.inr (.inr ⟨rfl,by simp[hb],rfl⟩))
    |exact Oz (OF (OF (.inr (.inr ⟨rfl,by simp[hb],rfl⟩))))
  ·cases e
 ·rintro b' s' (⟨e,_,_⟩|⟨e,_,_⟩|⟨_,hb,rfl⟩)
  ·cases e
  ·cases e
  ·show OK _ _ (retInt (P2 b'.toList)) _ _ _;rw[hb];refine wpAny_ret_mkInt ?_;have et:s.toks+1+(k.2.length+1)+1=s.toks+(k.2.length+3):=by omega
   show OK _ _ (if (OI (-(2:Int) ^ 63<=P2 [(PySem.strKind prog w).hash k.1,RG (PySem.strKind prog w) k.2])&&OI (P2 [(PySem.strKind prog w).hash k.1,RG (PySem.strKind prog w) k.2]<2 ^ 63))=OA then _ else _) Q E _;unfold kh reduceHash at h;by_cases hr:(OI (-(2:Int) ^ 63<=P2 [(PySem.strKind prog w).hash k.1,RG (PySem.strKind prog w) k.2])&&OI (P2 [(PySem.strKind prog w).hash k.1,RG (PySem.strKind prog w) k.2]<2 ^ 63))=OA
   ·rw[Xs hr];rw[Xs hr]at h;exact OF (by rw[et];exact h)
   ·rw[Xu hr];rw[Xu hr]at h;exact Oz (Ra (OF (by rw[et];exact h)))
theorem lJ(hu:A.units<Qd)(hx:aR prog w s.heap x a)(hy:aR prog w s.heap y b)(h:P (.done (.ret (.bool (OI (x=y))))) s):
  OK (OU prog w) A (Ri.«tuple.__eq__» ⟨[.ref a,.ref b],[]⟩) P E s:=by
 have Mr:=hy.typeIs;obtain⟨oa,na,ta,pa,Ms,_,Mt,Hx⟩:=hx;obtain⟨ob,nb,tb,pb,Mu,_,Fd,Mw⟩:=hy;show OK _ _ (Wh (.ref b) (.type "tuple") >>= _) _ _ s;refine Oz (QO Mr S6 ?_);simp only[Qn,Pc,Xx];refine Oz (TQ Ms Mt ?_);refine Oz (TQ Mu Fd ?_);refine Oz ?_;refine SE _
  (λrest r s'=>r.1=OB/\s'=s/\((rest=[(PL x.1 ta,PL y.1 tb),(O0 pa,O0 pb)])\/(rest=[(O0 pa,O0 pb)]/\x.1=y.1)\/(rest=[]/\x=y)))
  _ ?_ ?_ _ _ ⟨rfl,rfl,.inl rfl⟩
 ·rintro⟨u,v⟩ rest r s' ⟨hr,rfl,(e|⟨e,e1⟩|⟨e,_⟩)⟩
  ·cases e;refine Oz ((PySem.strKind prog w).eqBool (a:=x.1) (b:=y.1) (by simp[PySem.strKind,QR]) (by simp[PySem.strKind,QR]) ?_);by_cases hk:x.1=y.1
   ·rw[Xw hk];simp only[Qn,Pc,Xx];exact OF ⟨rfl,rfl,.inr (.inl ⟨by first|rfl|trivial,hk⟩)⟩
   ·rw[Xv hk];simp only[Wd,if_true];rw[Xv (λz=>hk (by rw[z]))]at h;exact Oz (OF (OF (OF h)))
  ·cases e;refine Oz (wpAny_eqBool_tuple hu Hx Mw ?_);by_cases hk:x.2=y.2
   ·rw[Xw hk];simp only[Qn,Pc,Xx];exact OF ⟨rfl,rfl,.inr (.inr ⟨by first|rfl|trivial,Wb e1 hk⟩)⟩
   ·rw[Xv hk];simp only[Wd,if_true];rw[Xv (λz=>hk (by rw[z]))]at h;exact Oz (OF (OF (OF h)))
  ·cases e
 ·rintro⟨r1,r2⟩ s' ⟨hr,rfl,(e|⟨e,_⟩|⟨_,rfl⟩)⟩
  ·cases e
  ·cases e
  ·simp only at hr;subst hr;refine OF ?_;rw[Xw rfl]at h;exact h
theorem f9(hu:A.units+2<Qd)(hx:aR prog w s.heap x a)(hy:aR prog w s.heap y b)(h:Q (OI (x=y)) s):
  OK (OU prog w) A (eqBool (.ref a) (.ref b)) Q E s:=by
 unfold eqBool
 try with_reducible refine PJ ?_
 show OK _ _ (if (O0 a==O0 b)=OA then _ else _) Q E s;by_cases F_:(O0 a==O0 b)=OA
 ·rw[Xs F_];have e:a=b:=by have:=Vq F_;injection this
  subst e;obtain rfl:=hx.inj hy;exact Oz (Ra (OF (by simpa using h)))
 ·rw[Xu F_];exact Oz (wpAny_richCompare_same_room (op:=.Eq) hx.typeIs hy.typeIs PySem.F.slot_tuple_eq
   (PK PySem.F.slot_tuple_eq hx.typeIs PySem.F.entry_tuple_eq (lJ (by first|(show A.units+1<Qd;omega)|(show A.units<Qd;omega)|(show A.units+1+1<Qd;omega)) hx hy ⟨_,rfl,(λe=>nomatch e),Ql h⟩) (PySem.F.args_tuple_eq_2 _ _)) ⋯)
theorem fw(hk:U2 (PySem.strKind prog w) s.heap ks a)(h:Q OA s):OK (OU prog w) A (Vl (n+1) (.ref a)) Q E s:=by
 have hT:=hk.typeIs;obtain⟨o,items,n',ho,_,hd,hi⟩:=hk;unfold Vl;refine Oz (QY hT PySem.F.slot_tuple_eq.lookup ?_);show OK _ _ (Wh (.ref a) (.type "tuple") >>= _) _ _ s;refine Oz (QO hT S6 ?_);simp only[Qn,Pc,Xx];refine Oz (RF ho hd ?_);refine Oz ?_;show OK _ _ (forIn items _ _) _ _ s;rw[<-Tc];refine SE _ (λrest r s'=>r.1=OB/\s'=s/\∀v∈rest,carriedByValue v=OA) _ ?_ ?_ _ _ ⟨rfl,rfl,hi.byValue⟩
 ·rintro v rest r s' ⟨hr,rfl,Dp⟩;rw[WA _ (Dp v PB)];refine Oz (OF ?_);simp only[Qn,Pc,Xx];exact OF ⟨rfl,rfl,λu Mx=>Dp u (Py _ Mx)⟩
 ·rintro⟨r1,r2⟩ s' ⟨hr,rfl,_⟩;simp only at hr;subst hr;exact OF h
theorem gK(hk:aR prog w s.heap k a)(h:Q OA s):OK (OU prog w) A (Vl 8 (.ref a)) Q E s:=by
 have hT:=hk.typeIs;obtain⟨o,n,t,b,ho,_,hd,hi⟩:=hk;unfold Vl;refine Oz (QY hT PySem.F.slot_tuple_eq.lookup ?_);show OK _ _ (Wh (.ref a) (.type "tuple") >>= _) _ _ s;refine Oz (QO hT S6 ?_);simp only[Qn,Pc,Xx];refine Oz (RF ho hd ?_);refine Oz ?_;rw[<-Tc];refine SE _ (λrest r s'=>r.1=OB/\s'=s/\(rest=[PL k.1 t,O0 b]\/rest=[O0 b]\/rest=[])) _ ?_ ?_ _ _ ⟨rfl,rfl,.inl rfl⟩
 ·rintro v rest r s' ⟨hr,rfl,(e|e|e)⟩
  ·cases e;rw[WA _ rfl];refine Oz (OF ?_);simp only[Qn,Pc,Xx];exact OF ⟨rfl,rfl,.inr (.inl (by first|rfl|trivial))⟩
  ·cases e;refine Oz (fw hi ?_);simp only[Qn,Pc,Xx];exact OF ⟨rfl,rfl,.inr (.inr (by first|rfl|trivial))⟩
  ·cases e
 ·rintro⟨r1,r2⟩ s' ⟨hr,rfl,_⟩;simp only at hr;subst hr;exact OF h
end
def fy(prog:PC)(w:P4):HeapKind prog w (Str×List Str) where
 is:=aR prog w
 hash:=kh prog w
 draws:=λk=>k.2.length+3
 room:=λA=>A.units+2<Qd
 inj:=λhx hy=>hx.inj hy
 keeps:=λx ho hd hs=>x.keeps ho hd hs
 pyHash:=λhu hk h=>fZ ⋯ hk h
 eqBool:=λhu hx hy h=>f9 hu hx hy h
 quiet:=λhk h=>gK hk h
abbrev lK:=Str×List Str
def dz(K:PySem.W.Frag)(H:Hp)(v:V)(k:lK):Prop:=∃a b,v=.ref a/\Ci K H a [.str k.1,.ref b]/\Ci K H b (k.2.map V.str)
def gA(P:PC)(w:P4)(d:OS)(xs:List (lK×OS×OH)):HO:=.ext λh=>(d==P_)=OE/\∃o es ep,h.get? d=Od o/\o.ExactDict/\o.data=.dict es ep/\es.toList=xs.map (entryOfKey (fy P w))/\(xs.map (·.1)).Nodup
def dg(P:PC)(w:P4)(K:PySem.W.Frag)(H:Hp)(d:OS)(ks:List lK):Prop:=∃xs,H d=Od (gA P w d xs)/\xs.map (·.1)=ks/\∀x∈xs,dz K H (.ref x.2.1) x.1
theorem ig:∀{ks:List Str}{A':List OH},Vals (ks.map V.str) A'->ItemsAre (PySem.strKind P w) ks A'
 |[],_,.nil=>.nil
 |k::ks,_,.cons r t=>by
  obtain⟨tk,rfl⟩:=r;exact .cons (by simp[PySem.strKind,QR]) (ig t)
theorem vC(I:Inv X pins σ H s)(e:Ci X.K H b (ks.map V.str)):U2 (PySem.strKind X.prog X.w) s.heap ks b:=by
 obtain⟨A',r,⟨o,h1,h2,n,h3⟩,_⟩:=I.tuple e;exact⟨o,A'.toArray,n,h1,h2,h3,by simpa using ig r⟩
theorem gQ(I:Inv X pins σ H s)(e:dz X.K H (.ref a) k):aR X.prog X.w s.heap k a:=by
 obtain⟨a',b,q,e1,e2⟩:=e;cases q;obtain⟨A',r,⟨o,h1,h2,n,h3⟩,_⟩:=I.tuple e1;cases r with
 |cons r1 r2 =>
  cases r2 with
  |cons r2 r3 =>
   cases r3;obtain⟨t,rfl⟩:=r1;cases r2;exact⟨o,n,t,b,h1,h2,h3,vC I e2⟩
section
theorem Inv.BM(I:Inv X pins σ H s):P_<s.heap.objs.size:=by
 obtain⟨o,es,ep,ho,_⟩:=I.mod.glob;have h1:@Q7 Nat _ PU s.heap.objs.size:=OP (I.bk _ _ ho);obtain⟨mb,⟨o',BY,F0,CH,_⟩,_⟩:=I.mod.blt;have h2:@Q7 Nat _ SS s.heap.objs.size:=OP (I.bk _ _ CH);revert h1 h2;show @Q7 Nat _ PU s.heap.objs.size->@Q7 Nat _ SS s.heap.objs.size->@Q7 Nat _ P_ s.heap.objs.size;unfold PU SS P_;omega
theorem ij(I:Inv X pins σ H s)(h:H d=Od (gA X.prog X.w d xs))(hk:∀x∈xs,dz X.K H (.ref x.2.1) x.1):(d==P_)=OE/\s.heap.DictOfH (fy X.prog X.w) d xs:=by
 obtain⟨⟨h1,o,es,ep,h2,h3,h4,h5,h6⟩,_⟩:=I.B0 d _ h;exact⟨h1,o,es,ep,h2,h3,h4,h5,λx hx=>gQ I (hk x hx),h6⟩
theorem xr(hd:(d==P_)=OE)(x:h.DictOfH (fy P w) d xs):aY P w H' h d (gA P w d xs):=by
 obtain⟨o,es,ep,h2,h3,h4,h5,_,h6⟩:=x;exact⟨⟨hd,o,es,ep,h2,h3,h4,h5,h6⟩,⟨o,h2⟩,λh1 h2 ⟨q0,o,es,ep,q1,q2,q3,q4,q5⟩ k=>⟨q0,o,es,ep,k _ q1,q2,q3,q4,q5⟩⟩
theorem vD:PE X (.Dict [] [] pos) (λ_ H Q=>∀p,H p=OB->Q (.ref p) (upd H p (gA X.prog X.w p []))):=λpins s σ H Q I h =>
 WO ⟨.ref s.heap.objs.size,_,I.laid (a:=s.heap.objs.size) (o:=gA X.prog X.w s.heap.objs.size []) (t':=s.toks) (λ_ _ q=>OC _ q) (ON _)
  (xr (beq_eq_false_iff_ne.mpr (Qa (OW I.BM))) (W4 s.heap)),rfl,h _ (I.B0.fresh (ON _))⟩
theorem eV(k:lK):(Ti xs k).isSome=OI (k∈xs.map (·.1)):=by
 unfold Ti;rw[R7,Rj,List.find?_isSome,Xt,PY];constructor
 ·rintro⟨x,hx,e⟩;exact⟨x,hx,of_decide_eq_true e⟩
 ·rintro⟨x,hx,e⟩;exact⟨x,hx,Xw e⟩
theorem qw(hu:X.A.units+3<Qd):C5 X (Qv .NotIn) (λx y H Q=>∃k d ks,dz X.K H x k/\y=.ref d/\dg X.prog X.w X.K H d ks/\Q (.bl (!OI (k∈ks))) H):=by
 intro pins s σ H x y v u Q I rx ry h;obtain⟨k,d,ks,hx,rfl,⟨xs,hd,F',Dp⟩,q⟩:=h;cases ry;obtain⟨a,b,rfl,e1,e2⟩:=id hx;cases rx;obtain⟨h1,h2⟩:=ij I hd Dp;refine WY (knd:=fy X.prog X.w) (k:=k) (by show X.A.units+1+2<Qd;omega) (gQ I hx) h1 h2 ?_;rw[eV,F'];exact⟨.bl _,H,I.tok _,rfl,q⟩
theorem vE(hu:X.A.units+3<Qd):jd X (λo i v H Q=>∃d k ks,o=.ref d/\dz X.K H i k/\dg X.prog X.w X.K H d ks/\k∉ks/\ks.length<=1000/\∀H',dg X.prog X.w X.K H' d (ks++[k])->(∀b,b≠d->H' b=H b)->Q H'):=by
 intro pins s σ H o i v ov iv u Q I ro ri rv h;obtain⟨d,k,ks,rfl,hi,⟨xs,hd,F',Dp⟩,hn,hl,q⟩:=h;cases ro;obtain⟨a,b,rfl,e1,e2⟩:=id hi;cases ri;obtain⟨h1,h2⟩:=ij I hd Dp;have JU:xs.length<=OG:=by
  have:=congrArg SJ F';rw[OJ]at this;rw[this];exact Rw (qt hl)
 refine We (hsz:=JU) (knd:=fy X.prog X.w) (k:=k) (by show X.A.units+1+2<Qd;omega) (gQ I hi) h2 λh' Ec sb=>?_;have JF:Ti xs k=OB:=by
  have:=eV (xs:=xs) k;rw[F',Xv hn]at this;cases e:Ti xs k with
  |none=>rfl
  |some _=>rw[e]at this;cases this
 rw[storedH_new JF]at Ec;obtain⟨o',BY,F0,g1,_⟩:=id Ec;refine⟨upd H d (gA X.prog X.w d (xs++[(k,a,u)])),I.write (x:=d) (e:=d) (by rw[hd];exact Td) (.inl rfl) (λb q hb z=>(sb.2 b hb).trans z) ⟨o',g1⟩ (xr h1 Ec),q _ ⟨_,av,by rw[PZ,F'];rfl,λx hx=>?_⟩ λb hb=>ao hb⟩;have kT:∀{a':OS} {ys:List V},Ci X.K H a' ys->Ci X.K (upd H d (gA X.prog X.w d (xs++[(k,a,u)]))) a' ys:=λ{a' ys} z=>by
  rcases z with(z|⟨o,z⟩)|z
  ·exact .inl (.inl (by rw[ao (rm z hd (λz=>nomatch z))];exact z))
  ·exact .inl (.inr ⟨o,by rw[ao (rm z hd (λz=>nomatch z))];exact z⟩)
  ·exact .inr z
 have keep:∀{y:V} {k':lK},dz X.K H y k'->dz X.K (upd H d (gA X.prog X.w d (xs++[(k,a,u)]))) y k':=λ{y k'} ⟨a',b',z1,z2,z3⟩=>⟨a',b',z1,kT z2,kT z3⟩
 rcases QU.mp hx with m|m
 ·exact keep (Dp x m)
 ·have:x=(k,a,u):=by simpa using m
  subst this;exact keep hi
end
def Dw(a b:Str):Bool:=!OI (b.cps.toList<a.cps.toList)
theorem fz(a b:Str):Dw a b=OA↔a.cps.toList<=b.cps.toList:=by
 simp only[Dw,P6,decide_eq_false_iff_not];exact U8
theorem jA(a b c:Str)(h1:Dw a b=OA)(h2:Dw b c=OA):Dw a c=OA:=by
 rw[fz]at h1 h2 ⊢;exact List.le_trans h1 h2
theorem qx(a b:Str):(Dw a b||Dw b a)=OA:=by
 rw[Qj,fz,fz];exact List.le_total _ _
theorem lL{x y:Str}(h:x.cps.toList=y.cps.toList):x=y:=by
 cases x;cases y;congr
 exact Array.toList_inj.mp h
theorem km(h1:Dw a b=OA)(h2:Dw b a=OA):a=b:=by
 rw[fz]at h1 h2;exact lL (VL h1 h2)
def aF(l:List Str):List Str:=l.mergeSort Dw
theorem bj(l:List Str):(aF l).Perm l:=List.mergeSort_perm l Dw
theorem fA(l:List Str):(aF l).Pairwise (λa b=>Dw a b=OA):=List.pairwise_mergeSort jA qx l
theorem fB:∀(l:List Str) (p:Str),risingS p l=OA->(p::l).Pairwise (λa b=>Dw a b=OA)
 |[],p,_=>by simp
 |x::r,p,h=>by
  have h':(!ltCps x.cps.toList p.cps.toList&&risingS x r)=OA:=h;obtain⟨h1,h2⟩:=Qz.mp h';have ih:=fB r x h2;have K7:Dw p x=OA:=by rw[ltCps_eq]at h1;exact h1
  refine R0.mpr ⟨λy hy=>?_,ih⟩;rcases OV.mp hy with e|e
  ·rw[e];exact K7
  ·exact jA _ _ _ K7 ((R0.mp ih).1 y e)
theorem kn(h:sortedS l=OA):l.Pairwise (λa b=>Dw a b=OA):=by
 cases l with
 |nil=>exact .nil
 |cons x r=>exact fB r x h
theorem d5:∀{l m:List Str},l.Perm m->l.Pairwise (λa b=>Dw a b=OA)->m.Pairwise (λa b=>Dw a b=OA)->l=m
 |[],m,hp,_,_=>(List.Perm.nil_eq hp)
 |x::l,m,hp,h1,h2=>by
  cases m with
  |nil=>exact absurd hp.length_eq (by simp)
  |cons y m =>
   obtain⟨a1,a2⟩:=R0.mp h1;obtain⟨b1,b2⟩:=R0.mp h2;have My:x=y:=by
    have m1:x∈y::m:=hp.mem_iff.mp PB;have m2:y∈x::l:=hp.mem_iff.mpr PB;rcases OV.mp m1 with e|e
    ·exact e
    ·rcases OV.mp m2 with e'|e'
     ·exact e'.symm
     ·exact km (a1 y e') (b1 x e)
   subst My;rw[d5 (List.Perm.cons_inv hp) a2 b2]
theorem sj(hp:l.Perm m)(hs:sortedS l=OA):l=aF m:=d5 (hp.trans (bj m).symm) (kn hs) (fA m)
theorem lM(hp:l.Perm m):aF l=aF m:=d5 ((bj l).trans (hp.trans (bj m).symm)) (fA l) (fA m)
theorem bP(l:List Str):(aF l).length=l.length:=(bj l).length_eq
section
theorem cC:∀{ys:List Str}{A':List OH},Vals (ys.map V.str) A'->RL A' ys
 |[],_,.nil=>.nil
 |y::ys,_,.cons r t=>by
  obtain⟨tk,rfl⟩:=r;exact .cons y tk (cC t)
theorem cA:∀{A':List OH}{ys:List Str},RL A' ys->Vals (ys.map V.str) A'
 |_,_,.nil=>.nil
 |_,_,.cons x t h=>.cons ⟨t,rfl⟩ (cA h)
theorem cZ(hc:OK (OU prog w) A.in1 (Ua x) (λvs s1=>∃ss,RL vs ss/\vs.length<64 /\
      ∀(h':Qk) (CV:List OH) (e:Nat),(∀b o,s1.heap.get? b=Od o->h'.get? b=Od o)->h'.get? s1.heap.objs.size=Od (PV "list" CV.toArray e)->RL CV (aF ss)->Q (.ref s1.heap.objs.size) {s1 with heap:=h' }) E s) :
    OK (OU prog w) A (Rm (.builtin "sorted") [x]) Q E s:=by
  refine Ul kind_sorted plain_sorted entry_sorted (args_sorted1 _) ?_;unfold Ri.«sorted»;refine Oz (m:=checkCount "sorted" 1 1 _) (OF ?_);refine Oz (PR hc (λvs s1 h1=>?_) λ_ _ e=>e);obtain⟨ss,hS,Ez,h⟩:=h1
  refine wpAny_bind (wpAny_newList ?_ (by have : (64 : Nat) ≤ sizeLine := by decide
                                          omega))
  have E7:(s1.heap.push (PV "list" vs.toArray 0)).get? s1.heap.objs.size=Od (PV "list" vs.toArray 0):=OO _ rfl;show OK _ _ _ _ _ {s1 with heap:=s1.heap.push (PV "list" vs.toArray 0)};refine Oz (PJ (PK Xn ⟨_,E7,rfl⟩ W7 (list_sort_treeK strKind_oneLt E7 hS.keysOf (λv₁ v₂ rest e=>keyKind_strs (by rw[<-e];exact hS)) Ez λst' a1 a2=>⟨_,rfl,?_⟩) (Xq _)));obtain⟨DN,b1,b2,b3⟩:=sorted_out_str hS a1 a2;obtain⟨e,he⟩:=sortedHeap_at (out:=(arrOf st').map (·.2)) E7;rw[sj b2 b3]at b1;refine OF ⟨_,rfl,h _ ((arrOf st').map (·.2)).toList e (λb o q=>?_) (by rw[RM];exact he) b1⟩;have Ce:b<s1.heap.objs.size:=OP q;show(Wl (s1.heap.push (PV "list" vs.toArray 0)) s1.heap.objs.size vs ((arrOf st').map (·.2))).get? b=Od o;rw[Xm (OW Ce) (by rw[Qy];exact Rv Ce)];exact OC _ q
theorem jh(hl:V2 s.heap l vs.toArray)
  (h:Q vs {s with heap:=(s.heap.push (PV "list" #[] 0)).update s.heap.objs.size (Pd (·++vs.toArray))}) (hsz:vs.length<=OG) :
  OK (OU prog w) A (Ua (.ref l)) Q E s:=by
 obtain⟨o,ho,hc,n,hd⟩:=id hl;unfold Ua;refine Oz (Tf (P1 entry_proto_collect' ?_));show OK _ _ (do VT (.builtin "list.__iadd__" ⟨[<-Vw [],.ref l],[]⟩)) _ _ s;refine Oz (Vb (OF ⟨Vo _ (by decide +kernel),P1 entry_list_iadd' ?_⟩));show OK _ _ (Ph (.ref s.heap.objs.size) (.ref l) (.ref s.heap.objs.size)) _ _ {s with heap:=s.heap.push (PV "list" #[] 0)};unfold Ph;have CH:(s.heap.push (PV "list" #[] 0)).get? l=Od o:=OC _ ho;refine Oz (Rg (T:="tuple") ⟨o,CH,hc⟩ ?_);have ht:(Pj "tuple"==Pj "tuple")=OA:=by rfl
 rw[Xs (by rw[ht];simp)];refine Oz (VE CH hd ?_);refine Oz (VE (xs:=#[]) (n:=0) (OO _ rfl) rfl ?_);rw[Xu (by simp)];refine Oz (TK (xs:=#[]) (n:=0) (OO _ rfl) rfl ?_ (O_ _) (by show(#[]++vs.toArray).size<=OG+1;simp only[Tq,OL,SA];omega));refine OF ?_;show OK (OU prog w) A (do
   let o <-load s.heap.objs.size
   match o.data with
   |.seq xs _=>pure xs.toList
   |_=>UA "internal:collect") Q E {s with heap:=(s.heap.push (PV "list" #[] 0)).update s.heap.objs.size (Pd (·++vs.toArray))}
 refine Oz (UU (W6 (OO _ rfl) _) ?_);show OK _ _ (pure ((#[]:Array OH)++vs.toArray).toList) Q E _;rw[show((#[]:Array OH)++vs.toArray).toList=vs by simp];exact OF h
end
section
theorem eJ{h:Qk}{vs:List OH}(e:h.get? b=Od o):((h.push (PV "list" #[] 0)).update h.objs.size (Pd (·++vs.toArray))).get? b=Od o:=by
 rw[Q_ _ _ _ _ (OW (OP e))];exact OC _ e
theorem lN(I:Inv X pins σ H s)(k1:∀b o,s.heap.get? b=Od o->s1.heap.get? b=Od o)(FG:∃h1 t1,s1={s with heap:=h1,toks:=t1})
  (hk:∀b o,s1.heap.get? b=Od o->h'.get? b=Od o) (El:h'.get? s1.heap.objs.size=Od (PV "list" CV.toArray e)) (hS:RL CV (aF ss)) (hsz:s.heap.objs.size<=s1.heap.objs.size) (hl:ss.length<=OG)
  (q:∀p,H p=OB->Q (.ref p) (upd H p (.lst ((aF ss).map V.str)))):EP X pins σ Q (.ref s1.heap.objs.size) {s1 with heap:=h' }:=by
 obtain⟨h1,t1,rfl⟩:=FG;have I1:Inv X pins σ H {s with heap:=h1,toks:=t1}:=I.kept (t':=t1) k1;refine⟨.ref h1.objs.size,_,I1.laid (t':=t1) (o:=.lst ((aF ss).map V.str)) hk (ON _) ⟨by rw[OJ,bP];exact hl,CV,e,cA hS,El⟩,rfl,q _ (I1.B0.fresh (ON _))⟩
theorem gB:eG X (.builtin "sorted") (λxs H Q=>∃(p:OS) (ys:List Str),xs=[.ref p]/\(Cn X.K H p (ys.map V.str)\/Ci X.K H p (ys.map V.str))/\ys.length<64/\∀q,H q=OB->Q (.ref q) (upd H q (.lst ((aF ys).map V.str)))):=by
 intro pins s σ H xs us Q I rs h;obtain⟨p,ys,rfl,hq,Ez,q⟩:=h;obtain⟨u,rfl,r⟩:=vals1 rs;cases r;have hl:ys.length<=OG:=Rw (OY Ez (by decide));have fin:∀(A':List OH),Vals (ys.map V.str) A'->∀(h':Qk) (CV:List OH) (e:Nat),(∀b o,((s.heap.push (PV "list" #[] 0)).update s.heap.objs.size (Pd (·++A'.toArray))).get? b=Od o->h'.get? b=Od o) ->
   h'.get? ((s.heap.push (PV "list" #[] 0)).update s.heap.objs.size (Pd (·++A'.toArray))).objs.size=Od (PV "list" CV.toArray e)->RL CV (aF ys) ->
   EP X pins σ Q (.ref ((s.heap.push (PV "list" #[] 0)).update s.heap.objs.size (Pd (·++A'.toArray))).objs.size) {s with heap:=h' }:=λA' rv h' CV e hk El hS =>
  lN (s1:={s with heap:=(s.heap.push (PV "list" #[] 0)).update s.heap.objs.size (Pd (·++A'.toArray))}) I (λb o z=>eJ z) ⟨_,s.toks,rfl⟩ hk El hS (by show s.heap.objs.size<=((s.heap.push (PV "list" #[] 0)).update s.heap.objs.size (Pd (·++A'.toArray))).objs.size;rw[VI,Qy];exact Qo _) hl q
 rcases hq with hq|hq
 ·obtain⟨A',rv,pl,hz⟩:=I.list hq;have el:A'.length=ys.length:=by rw[<-rv.length,OJ]
  exact cZ (collect_list pl.isList ⟨ys,cC rv,⋯,λh' CV e hk El hS=>fin A' rv h' CV e hk El hS⟩ ⋯)
 ·obtain⟨A',rv,pl,hz⟩:=I.tuple hq;have el:A'.length=ys.length:=by rw[<-rv.length,OJ]
  exact cZ (jh pl ⟨ys,cC rv,⋯,λh' CV e hk El hS=>fin A' rv h' CV e hk El hS⟩ ⋯)
end
abbrev sK(P:PC)(w:P4):=PySem.strKind P w
def c6(P:PC)(w:P4)(h:Qk)(a:OS)(led:Bool)(D:List Str):Prop :=
 ∃(L:List (Str×Tok)) (es:Array (Int×OH)) (ep:Nat) (t:Sl),h.get? a=Od {cls:=.type "set",dict:=OB,data:=.set es ep t}/\es.toList=L.map (λp=>((sK P w).hash p.1,PL p.1 p.2)) /\
  (L.map (·.1)).Perm D/\D.Nodup/\t.fits es.size=OA/\es.size<QP/\t.led=led/\(es.size=0\/t.plain=OE)
section
theorem sk{L:List (Str×Tok)}:ElemsOf (sK prog w) (L.map λp=>((sK prog w).hash p.1,PL p.1 p.2)):=by
 intro e he;obtain⟨p,_,rfl⟩:=PY.mp he;exact⟨⟨p.1,by simp[PySem.strKind,QR],rfl⟩,rfl⟩
theorem oQ(x y:Str)(t:Tok):(sK prog w).is x (.str y t)=OI (x=y):=by
 rw[Rj];simp[PySem.strKind,QR];exact⟨λh=>h.symm,λh=>h.symm⟩
theorem ni(t:Sl)(es:Array (Int×OH))(h:Int)(x:OH):(layNew t es h x).2.1.led=t.led:=by
 unfold layNew;split
 ·show(UO (t.put _).1 _).led=t.led;unfold UO;split<;>rfl
 ·rfl
theorem kq(t:Sl)(es:Array (Int×OH))(n:Nat):(UX t es n).2.1.led=t.led:=by
 unfold UX;split
 ·rename_i t' order he;have:t'.led=t.led:=by
   unfold Vg Vy at he;cases hc:U1 (UN n - 1) (es.map (·.1)) with
   |none=>rw[hc]at he;cases he
   |some o=>rw[hc]at he;cases he;rfl
  dsimp only
  split
  ·exact this
  ·rfl
 ·rfl
theorem il(t:Sl)(es:Array (Int×OH))(n:Nat)(h:t.plain=OE):(UX t es n).2.1.plain=OE:=by
 unfold UX;split
 ·rename_i t' order he;have:t'.plain=t.plain:=by
   unfold Vg Vy at he;cases hc:U1 (UN n - 1) (es.map (·.1)) with
   |none=>rw[hc]at he;cases he
   |some o=>rw[hc]at he;cases he;rfl
  dsimp only
  split
  ·rw[this];exact h
  ·rfl
 ·rfl
theorem eW(h:l.Perm (L.map λp=>((sK prog w).hash p.1,PL p.1 p.2))):∃L':List (Str×Tok),l=L'.map (λp=>((sK prog w).hash p.1,PL p.1 p.2))/\L'.Perm L:=by
 have all:∀e∈l,∃p:Str×Tok,e=((sK prog w).hash p.1,PL p.1 p.2):=λe he=>by
  obtain⟨p,_,rfl⟩:=PY.mp (h.mem_iff.mp he);exact⟨p,rfl⟩
 have ex:∀l:List (Int×OH),(∀e∈l,∃p:Str×Tok,e=((sK prog w).hash p.1,PL p.1 p.2))->∃L':List (Str×Tok),l=L'.map (λp=>((sK prog w).hash p.1,PL p.1 p.2)):=by
  intro l;induction l with
  |nil=>intro _;exact⟨[],rfl⟩
  |cons e l ih =>
   intro ha;obtain⟨p,rfl⟩:=ha e PB;obtain⟨L',rfl⟩:=ih λe he=>ha e (Py _ he);exact⟨p::L',rfl⟩
 obtain⟨L',rfl⟩:=ex l all;refine⟨L',rfl,?_⟩;have g:(L'.map λp=>((sK prog w).hash p.1,PL p.1 p.2)).map (λe=>match e.2 with|.str x t=>(x,t)|_=>(Pn,0))=L':=by
  rw[Pp];exact TU _
 have g2:(L.map λp=>((sK prog w).hash p.1,PL p.1 p.2)).map (λe=>match e.2 with|.str x t=>(x,t)|_=>(Pn,0))=L:=by
  rw[Pp];exact TU _
 have:=h.map (λe=>match e.2 with|.str x t=>(x,t)|_=>(Pn,0));rw[g,g2]at this;exact this
theorem nj(hS:c6 prog w s.heap a led D)(FH:D.length+1<QP)
    (h:∀h',Qc a s.heap h'->c6 prog w h' a led (if x∈D then D else D++[x])->Q (OI (x∉D)) {s with heap:=h' }) :
    OK (OU prog w) A (setAddHashed a (.str x tk) ((sK prog w).hash x)) Q E s:=by
  obtain⟨L,es,ep,t,ho,EA,CJ,CZ,hf,hb,Ed,Dv⟩:=hS;have JV:(sK prog w).is x (.str x tk)=OA:=by rw[oQ];simp
  have K8:ElemsOf (sK prog w) es.toList:=by rw[EA];exact sk
  have hlen:es.size=D.length:=by rw[<-O9,EA,OJ,<-OJ (f:=Prod.fst) (as:=L),CJ.length_eq]
  unfold setAddHashed setAddHashedIn;refine PJ (Oz (P9 ho rfl hf ?_))
  dsimp only
  rw[byScan_of (knd:=sK prog w) rfl hb K8];simp only[↓reduceIte];unfold setAddByScan;refine Oz ?_;refine Oz (Ra ?_);refine Oz (wpAny_setScan_of (knd:=sK prog w) JV ho rfl hf K8 ?_);have mem_iff:(∃e∈es.toList,(sK prog w).is x e.2=OA)↔x∈D:=by
    rw[EA,<-CJ.mem_iff,PY];constructor
    · rintro⟨e,he,hi⟩
      obtain⟨p,hp,rfl⟩:=PY.mp he;rw[oQ,Xt]at hi;exact⟨p,hp,hi.symm⟩
    · rintro⟨p,hp,e⟩
      exact⟨_,PY.mpr ⟨p,hp,rfl⟩,by rw[oQ];simp[e]⟩
  cases hr:Wr (λe=>(sK prog w).is x e.2) es.toList with
  | some j =>
    dsimp only
    obtain⟨hj,Mz,_⟩:=List.findIdx?_eq_some_iff_getElem.mp hr;have hx:x∈D:=mem_iff.mp ⟨es.toList[j],Qp hj,Mz⟩;refine OF (OF ?_);have e:s={s with heap:=s.heap}:=by cases s;rfl
    have:=h s.heap (Uy a s.heap) (by rw[Xs hx];exact⟨L,es,ep,t,ho,EA,CJ,CZ,hf,hb,Ed,Dv⟩);rw[Xv (λz=>z hx)]at this;rw[e];exact this
  | none =>
    dsimp only
    have hx:x∉D:=λhx=>by
      obtain⟨e,he,hp⟩:=mem_iff.mpr hx;have:=List.findIdx?_eq_none_iff.mp hr e he;rw[hp]at this;exact Bool.noConfusion this
    have MA:∀(b:Bool) {s₁:OR} {Q':Unit->OR->Prop},Q' () s₁->OK (OU prog w) A (match b with|true=>W_ "set.scan.the-table-gave-way"|false=>pure ()) Q' E s₁ :=
      λb s₁ Q' hq=>by cases b<;>first|exact OF hq|exact Ra hq
    have Hy:=layNew_perm t es ((sK prog w).hash x) (.str x tk);have D5:=layNew_fits t es ((sK prog w).hash x) (.str x tk);have EB:=ni t es ((sK prog w).hash x) (.str x tk);generalize hL:layNew t es ((sK prog w).hash x) (.str x tk)=NL at Hy D5 EB ⊢;obtain⟨CG,t1,EC,MB⟩:=NL
    dsimp only at Hy D5 EB ⊢
    rw[Vr,EA,show [((sK prog w).hash x,PL x tk)]=[(x,tk)].map (λp=>((sK prog w).hash p.1,PL p.1 p.2)) from rfl,<-PZ]at Hy;obtain⟨L1,e1,MC⟩:=eW Hy;have MD:CG.size=D.length+1:=by rw[<-O9,Hy.length_eq,OJ,O8,<-hlen,<-O9,EA,OJ];rfl
    have K9:CG.size<QP:=by omega
    have FI:(L1.map (·.1)).Perm (D++[x]):=(MC.map _).trans (by rw[PZ];exact CJ.append_right _);have K_:(D++[x]).Nodup:=by
      rw[Rq]
      exact ⟨CZ, by simp, fun y hy z hz => by have : z = x := by simpa using hz
                                              subst this;rintro rfl;exact hx hy⟩
    refine Oz (MA _ ?_);have Fe:∀h',Qc a s.heap h'->c6 prog w h' a led (D++[x])->Q OA {s with heap:=h' }:=λh' sb hs=>by
      have:=h h' sb (by rw[Xu hx];exact hs);rw[Xw hx]at this;exact this
    have tail:∀(g:Bool->Sem Unit),(∀(b:Bool) (s₁:OR) (Q':Unit->OR->Prop),Q' () s₁->OK (OU prog w) A (g b) Q' E s₁)->∀(R:Option Bool->OR->Prop),(∀h',Qc a s.heap h'->c6 prog w h' a led (D++[x])->R (Od OA) {s with heap:=h' })->∀t2:Sl,t2.fits CG.size=OA->t2.led=led->t2.plain=OE->OK (OU prog w) A (do
        storeSet a CG t2
        if (!EC&&t2.tooFull)=true then do
            g (relayAll t2 CG (SetTable.grown CG.size)).2.2
            storeSet a (relayAll t2 CG (SetTable.grown CG.size)).1 (relayAll t2 CG (SetTable.grown CG.size)).2.1
            pure (some true)
          else pure (Od OA)) R E s:=by
      intro g hg R hR t2 ME Ff Fg;refine Oz (Wt ho rfl ?_ (Wz K9));have Hz:(s.heap.update a (Sz CG t2)).get? a=Od {cls:=.type "set",dict:=OB,data:=.set CG (ep+1) t2}:=by
        have:=PH (Sz CG t2) ho rfl;exact this
      have HA:=Qb s.heap a (Sz CG t2);split
      · have hp:=relayAll_perm t2 CG (RN CG.size)
        have JW:=relayAll_fits t2 CG (RN CG.size);have GY:=kq t2 CG (RN CG.size);have JX:=il t2 CG (RN CG.size) Fg;generalize N_:UX t2 CG (RN CG.size)=Rl at hp JW GY JX ⊢;obtain⟨Fh,t3,K'⟩:=Rl
        dsimp only at hp JW GY JX ⊢
        rw[e1]at hp;obtain⟨L2,e2,MF⟩:=eW hp;have hsz:Fh.size=CG.size:=by rw[<-O9,hp.length_eq,<-e1,O9]
        refine Oz (hg _ _ _ ?_);refine Oz (Wt Hz rfl ?_ (Wz ⋯));have Ga:((s.heap.update a (Sz CG t2)).update a (Sz Fh t3)).get? a=Od {cls:=.type "set",dict:=OB,data:=.set Fh (ep+1+1) t3}:=PH (Sz Fh t3) Hz rfl;refine OF (hR _ (HA.trans (Qb _ a _)) ⟨L2,Fh,_,t3,Ga,e2,(MF.map _).trans FI,K_,JW,⋯,GY.trans Ff,.inr JX⟩)
      · exact OF (hR _ HA ⟨L1,CG,_,t2,Hz,e1,FI,K_,ME,K9,Ff,.inr Fg⟩)
    split
    · rename_i hp
      refine Oz ?_;rw[hashByValue_scannable 8 rfl];refine OF ?_;have ep:(if plainKind (PL x tk)=OA then t1 else {t1 with plain:=OE})={t1 with plain:=OE}:=rfl;rw[ep];refine tail _ ?_ _ ?_ {t1 with plain:=OE} (SetTable.fits_plain_off D5) (EB.trans Ed) rfl
      · intro b s₁ Q' hq;cases b<;>first|exact OF hq|exact Ra hq
      · intro h' GZ Dd;dsimp only;exact OF (Fe h' GZ Dd)
    · rename_i hp
      refine Oz (OF ?_);simp only[↓reduceIte];refine tail _ ?_ _ ?_ t1 D5 (EB.trans Ed) (Sd.mpr hp)
      · intro b s₁ Q' hq;cases b<;>first|exact OF hq|exact Ra hq
      · intro h' GZ Dd;dsimp only;exact OF (Fe h' GZ Dd)
end
def gL(D:List Str)(x:Str):List Str:=if x∈D then D else D++[x]
def bo(l:List Str):List Str:=l.foldl gL []
theorem nq(h:D.Nodup):(gL D x).Nodup:=by
  unfold gL;split
  · exact h
  · rename_i hx
    rw[Rq]
    exact ⟨h, by simp, fun y hy z hz => by have : z = x := by simpa using hz
                                           subst this;rintro rfl;exact hx hy⟩
theorem ip:∀(l D:List Str),D.Nodup->(l.foldl gL D).Nodup/\(∀x,x∈l.foldl gL D↔x∈D\/x∈l)/\(l.foldl gL D).length<=D.length+l.length
 |[],D,h=>⟨h,by simp,by simp⟩
 |y::l,D,h=>by
  obtain⟨h1,h2,h3⟩:=ip l (gL D y) (nq h);have hm:∀x,x∈gL D y↔x∈D\/x=y:=λx=>by
   unfold gL;split
   ·rename_i hy;exact⟨.inl,λz=>z.elim id (λe=>e▸hy)⟩
   ·simp
  have hl:(gL D y).length<=D.length+1:=by
   unfold gL;split
   ·omega
   ·simp
  refine⟨h1,λx=>?_,by rw[TY,Pb];omega⟩;rw[TY,h2,hm,OV,or_assoc]
theorem nu(l:List Str):(bo l).length<=l.length:=by have:=(ip l [] Uq).2.2;simpa[bo] using this
theorem lO(l:List Str)(x:Str):bo (l++[x])=gL (bo l) x:=by unfold bo;rw[List.foldl_append];rfl
section
variable{prog:PC}{w:P4}{A:QW}{R:Result->OR->Prop}{I:OS}{fp wr:List OS}{G:Array VU->Array VU->Prop}{n:Nat}{P:Nat->OH->Prop}{St:Nat->OR->Prop}
theorem f_(W:U0 prog w A.in1 I fp wr G n P St)(S:OS)(DO:S∉fp)(led:Bool)
  (ys:List Str) (hn:ys.length=n) (Gb:∀i v,P i v->∃x t,ys[i]?=Od x/\v=.str x t) (hb:n+1<QP) :
  ∀(k i:Nat) (s:OR),n - i=k->i<=n->St i s->c6 prog w s.heap S led (bo (ys.take i)) ->
   (∀s',WH (S::wr) G s s'->c6 prog w s'.heap S led (bo ys)->R (.ok (.ret .none)) s') ->
   RU (OU prog w) A (.builtin "set.update.loop" ⟨[.ref S,.ref I],[]⟩) R s:=by
 have La:S∉wr:=λh=>DO (W.sub _ h);have Ee:∀b∈wr,b∈S::wr:=λb hb=>Py _ hb;intro k;induction k with
 |zero =>
  intro i s hk hi B_ hS hR;have FJ:i=n:=by omega
  subst FJ;refine P1 Sg ?_;rw[P0 QT _];show OK _ A.in1 (SO (.ref I) >>= _) _ _ s;refine Oz (W.done s _ _ B_ λs' hm=>?_);show OK _ A.in1 (ret Pa) _ _ s';rw[QL ⋯]at hS;exact OF (hR s' (hm.mono Ee) (by
   obtain⟨L,es,ep,t,ho,rest⟩:=hS;exact⟨L,es,ep,t,hm.heap S _ La ho,rest⟩))
 |succ k ih =>
  intro i s hk hi B_ hS hR;have Ce:i<n:=by omega
  refine P1 Sg ?_;rw[P0 QT _];show OK _ A.in1 (SO (.ref I) >>= _) _ _ s;refine Oz (W.item i s _ _ Ce B_ λv s' hP JY hm=>?_);obtain⟨x,t,hx,rfl⟩:=Gb i v hP;have Dd:c6 prog w s'.heap S led (bo (ys.take i)):=by
   obtain⟨L,es,ep,tb,ho,rest⟩:=hS;exact⟨L,es,ep,tb,hm.heap S _ La ho,rest⟩
  show OK _ A.in1 (RH [PL x t] (setAdd S (.str x t)) >>= _) _ _ s';refine Oz (PJ ?_);unfold setAdd;refine PJ ?_;refine Oz ((sK prog w).pyHash (k:=x) (by rw[oQ];simp) ?_);have FH:(bo (ys.take i)).length+1<QP:=by have:=nu (ys.take i);rw[PQ]at this;omega
  refine nj (s:={s' with toks:=s'.toks+1}) Dd FH λh' GZ IS=>?_;have MG:c6 prog w h' S led (bo (ys.take (i+1))):=by
   rw[List.take_add_one,hx];show c6 prog w h' S led (bo (ys.take i++[x]));rw[lO];exact IS
  refine OF ⟨Ro QT _,ih (i+1) _ ⋯ Ce (W.frame _ s' _ _ JY (Qo _) λb hb o e=>?_) MG λHe JZ J0=>?_⟩
  ·rw[GZ.2 b (λh:b=S=>DO (by rw[<-h];exact hb))];exact e
  ·refine hR He (WG W.gtrans ((hm.mono Ee).then_heap (Qo _) λb o hb e=>?_) JZ) J0;rw[GZ.2 b (λh:b=S=>hb (by rw[h];exact PB))];exact e
end
section
theorem ji(a:OH)
  (h:Q₁ (.ref s.heap.objs.size) {s with heap:=s.heap.push {cls:=.type "set",dict:=OB,data:=.set #[] 0 (.fresh 0 0 (!w.params.followText "set-order"))}}) :
  RU (OU prog w) A (.call (.builtin "set.__new__") ⟨[.type "set",a],[]⟩) (wants Q₁ E) s:=by
 refine UE ?_;show OK _ A.in1 (do WR "set.__new__" ⟨[.type "set",a],[]⟩;VT (.builtin "set.__new__" ⟨[.type "set",a],[]⟩)) _ _ s;refine Oz (Tg (PySem.F.newCall_set_1 a) (OF ⟨Ro PySem.F.plain_set_new _,P1 PySem.F.entry_set_new ?_⟩));rw[P0 PySem.F.plain_set_new _];unfold Ri.«set.__new__» VZ;have Ee:=sub_set_self;obtain⟨hp,g,d,tk,os⟩:=s
 dsimp only
 wp_walk
 refine Ur (OF ?_)
 dsimp only
 simp only[newObj];refine Oz (wpAny_alloc (OF ?_));exact OF h
theorem nv(hg:h.get? a=Od {cls:=.type "set",dict:=OB,data:=.set #[] 0 (.fresh 0 0 led)}):c6 prog w h a led [] :=
 ⟨[],#[],0,_,hg,rfl,.nil,Uq,rfl,by unfold QP;decide,rfl,.inl rfl⟩
end
theorem sub_tuple_set:Rz (.type "tuple") (.type "set")=pure OE:=by rw[P'];kernel_rfl
theorem sub_tuple_frozenset:Rz (.type "tuple") (.type "frozenset")=pure OE:=by rw[P'];kernel_rfl
section
abbrev cq(w:P4):Bool:=!w.params.followText "set-order"
abbrev ny(led:Bool):Obj:={cls:=.type "set",dict:=OB,data:=.set #[] 0 (.fresh 0 0 led)}
theorem fC
  (MH:s.TypeIs (.ref l) T) (MI:Rz (.type T) (.type "set")=pure OE) (MJ:Rz (.type T) (.type "frozenset")=pure OE) (C7:(Pj T==Pj "dict")=OE)
  (hb:ys.length+1<QP)
  (hit:∀(s1:OR) (B:QW) (Q':OH->OR->Prop),B.handled=A.handled->(∀b o,s.heap.get? b=Od o->s1.heap.get? b=Od o)->s.heap.objs.size<s1.heap.objs.size ->
   (∀I fp wr G P St h1,U0 prog w B.in1 I fp wr G ys.length P St->(∀g g',G g g'->g'=g)->s.heap.objs.size∉fp->(∀b∈wr,s.heap.objs.size<b)->(∀i v,P i v->∃x t,ys[i]?=Od x/\v=.str x t)->St 0 {s1 with heap:=h1}->(∀b o,s1.heap.get? b=Od o->h1.get? b=Od o)->Q' (.ref I) {s1 with heap:=h1})->OK (OU prog w) B (UZ (.ref l)) Q' E s1)
  (h:∀(h':Qk) (tk:Nat),c6 prog w h' s.heap.objs.size (cq w) (bo ys)->(∀b o,b<s.heap.objs.size->s.heap.get? b=Od o->h'.get? b=Od o)->Q (.ref s.heap.objs.size) {s with heap:=h',toks:=tk}) :
  OK (OU prog w) A (Rm (.type "set") [.ref l]) Q E s:=by
 obtain⟨c,tl,MK⟩:=PySem.F.called_set.mro;have Lb:=PySem.F.called_set.made;have Ee:=PySem.F.called_set.sub;refine wpAny_call (UE ?_);show OK _ _ (callAny (.type "set") _) _ _ _;refine OF ⟨Vo _ (by decide +kernel),P1 PySem.F.entry_type_call ?_⟩;rw[Around.under_plain (weight_type_call_type "set" [.ref l] []) rfl];have h1:=PySem.F.called_set.notType;have h2:=PySem.F.called_set.canCreate;have N':=PySem.F.typeCall_set_1 (.ref l)
 repeat (any_goals (first|assumption|wp_step))
 refine SQ (ji (.ref l) (E:=E) (Q₁:=λobj s₁=>obj=.ref s.heap.objs.size/\s₁={s with heap:=s.heap.push (ny (cq w))}) ⟨rfl,rfl⟩) λr s₁ hr=>?_;cases r with
 |error e=>exact hr
 |ok fl =>
  cases fl with
  |ret obj =>
   obtain⟨rfl,rfl⟩:=hr;have hS:(s.heap.push (ny (cq w))).get? s.heap.objs.size=Od (ny (cq w)):=OO _ rfl;have hT:R9 {s with heap:=s.heap.push (ny (cq w))} (.ref s.heap.objs.size) "set":=⟨_,hS,rfl⟩
   have Oa:=PySem.F.called_set.init.lookup;have Ob:=PySem.F.called_set.init.bind (.ref s.heap.objs.size)
   repeat (any_goals (first|assumption|wp_step))
   refine SQ (codeAny_call_builtin (R:=wants (λr s₂=>r=.none/\∃h' tk,s₂={s with heap:=h',toks:=tk} /\
     c6 prog w h' s.heap.objs.size (cq w) (bo ys) /\
     (∀b o,b<s.heap.objs.size->s.heap.get? b=Od o->h'.get? b=Od o)) E) PySem.F.called_set.init.plain PySem.F.entry_set_init (check_set_init_1 hT ?_)) λr₂ s₂ J1=>?_
   ·obtain⟨ol,HB,IT⟩:=MH;obtain⟨ML,HC,HD,Ge⟩:=ol;simp only at IT;subst IT;have J2:(s.heap.push (ny (cq w))).get? l=Od {cls:=.type T,dict:=HC,data:=HD,slots:=Ge}:=OC _ HB;have Oc:R9 {s with heap:=s.heap.push (ny (cq w))} (.ref l) T:=⟨_,J2,rfl⟩
    unfold Ri.«set.__init__» noKeywords VW;generalize MM:UZ=PI
    wp_walk
    subst MM;refine hit {s with heap:=s.heap.push (ny (cq w))} _ _ rfl (λb o e=>OC _ e) (by rw[Qy];exact QH _) λI fp wr G P St h1 W hG hf MN Gb B_ hk=>?_;refine Oz (Tf ?_);refine f_ W s.heap.objs.size hf (cq w) ys rfl Gb hb (ys.length - 0) 0 _ ⋯ (O_ _) B_ (nv (hk _ _ hS)) ?_;intro s' hm Dd;obtain⟨h',g',d',MO,JC⟩:=s';have eg:g'=s.gens:=hG _ _ hm.gens;have ed:d'=s.drawn:=hm.drawn;have eo:JC=s.os:=hm.os;subst eg;subst ed;subst eo;show OK _ _ _ _ _ _;refine OF ?_;show OK _ _ (ret Pa) _ _ _;refine OF ⟨rfl,h',MO,rfl,Dd,λb o Dj e=>?_⟩;exact hm.heap b o (λz=>by
     rcases OV.mp z with z|z
     ·rw[z]at Dj;exact PD _ Dj
     ·exact absurd (MN b z) (V3 Dj)) (hk _ _ (OC _ e))
   ·cases r₂ with
    |error e=>exact J1
    |ok MP =>
     cases MP with
     |ret r =>
      obtain⟨rfl,h',tk,rfl,Dd,Cv⟩:=J1
      repeat (any_goals (first|assumption|wp_step))
      exact h _ _ Dd Cv
     |_=>exact J1.elim
  |_=>exact hr.elim
end
section
theorem ku:∀{vs:List OH}{ss:List Str},RL vs ss->∀(i:Nat) (v:OH),vs[i]?=Od v->∃x t,ss[i]?=Od x/\v=.str x t
 |_,_,.nil,i,v,h=>by simp at h
 |_,_,.cons x t h,0,v,e=>by simp at e;exact⟨x,t,rfl,e.symm⟩
 |_,_,.cons x t h,i+1,v,e=>by rw[Sr]at e;rw[Sr];exact ku h i v e
theorem fD:∀{vs:List OH}{ss:List Str},RL vs ss->vs.length=ss.length
 |_,_,.nil=>rfl
 |_,_,.cons x t h=>by simp[fD h]
theorem oR(h1:n≠S)(h2:n≠l):n∉[S,l]:=by simp[h1,h2]
theorem iq(hh:A.handled=OB)(hl:s.heap.IsList l vs.toArray)(hS:RL vs ys)(hb:ys.length+1<QP)
  (h:∀(h':Qk) (tk:Nat),c6 prog w h' s.heap.objs.size (cq w) (bo ys)->(∀b o,b<s.heap.objs.size->s.heap.get? b=Od o->h'.get? b=Od o)->Q (.ref s.heap.objs.size) {s with heap:=h',toks:=tk}) :
  OK (OU prog w) A (Rm (.type "set") [.ref l]) Q E s:=by
 have HE:l<s.heap.objs.size:=let ⟨o,ho,_⟩:=hl;OP ho;refine fC hl.typeIs PySem.F.sub_list_set PySem.F.sub_list_frozenset (by decide) hb (λs1 B Q' hB hk Ce hq=>?_) h;have EB:s1.heap.IsList l vs.toArray:=let ⟨o,ho,r⟩:=hl;⟨o,hk _ _ ho,r⟩;refine T3 EB ?_;have Gf:l≠s1.heap.objs.size:=OW (U3 HE Ce);have W:=(WT (prog:=prog) (w:=w) (A:=B.in1) (by simp[hB,hh]) s1.heap.objs.size l Gf vs.toArray).toS;have el:vs.toArray.size=ys.length:=by simp[fD hS]
 rw[el]at W;refine hq _ _ _ _ _ _ _ W (λ_ _ e=>e) (oR (OW Ce) (QA HE)) (λb hb=>by rw[O1.mp hb];exact Ce) (λi v hv=>ku hS i v (by simpa using hv)) ⟨⟨_,OO _ rfl,rfl,rfl⟩,EB.push _⟩ λb o e=>OC _ e
theorem jj(hh:A.handled=OB)(hl:s.heap.IsTuple l vs.toArray)(hS:RL vs ys)(hb:ys.length+1<QP)
  (h:∀(h':Qk) (tk:Nat),c6 prog w h' s.heap.objs.size (cq w) (bo ys)->(∀b o,b<s.heap.objs.size->s.heap.get? b=Od o->h'.get? b=Od o)->Q (.ref s.heap.objs.size) {s with heap:=h',toks:=tk}) :
  OK (OU prog w) A (Rm (.type "set") [.ref l]) Q E s:=by
 have HE:l<s.heap.objs.size:=let ⟨o,ho,_⟩:=hl;OP ho;refine fC hl.typeIs sub_tuple_set sub_tuple_frozenset (by decide) hb (λs1 B Q' hB hk Ce hq=>?_) h;have EB:s1.heap.IsTuple l vs.toArray:=let ⟨o,ho,r⟩:=hl;⟨o,hk _ _ ho,r⟩;refine Rr EB ?_;have Gf:l≠s1.heap.objs.size:=OW (U3 HE Ce);have W:=(Walks.tuple (prog:=prog) (w:=w) (A:=B.in1) (by simp[hB,hh]) s1.heap.objs.size l Gf vs.toArray).toS;have el:vs.toArray.size=ys.length:=by simp[fD hS]
 rw[el]at W;refine hq _ _ _ _ _ _ _ W (λ_ _ e=>e) (oR (OW Ce) (QA HE)) (λb hb=>by rw[O1.mp hb];exact Ce) (λi v hv=>ku hS i v (by simpa using hv)) ⟨⟨_,OO _ rfl,rfl,rfl⟩,let ⟨o,ho,r⟩:=EB;⟨o,OC _ ho,r⟩⟩ λb o e=>OC _ e
theorem kz(hn:n≠0)(h:∀i<n,Q i {s with drawn:=s.drawn.bump src}):OK M A (choose src n) Q E s:=λΓ p hΓ=>by
 show Sem.wp M Γ (.choose src n .pure) _ _ p s;rw[Sem.wp_choose];exact⟨hn,h _ (Xr _ (Nat.pos_of_ne_zero hn))⟩
theorem eX:∀{xs:List α}{i:Nat}{x:α},xs[i]?=Od x->(x::xs.eraseIdx i).Perm xs
 |[],i,x,h=>by simp at h
 |y::ys,0,x,h=>by simp at h;subst h;exact .refl _
 |y::ys,i+1,x,h=>by
  rw[Sr]at h;rw[UJ];exact(List.Perm.swap y x _).trans ((eX h).cons y)
theorem eL:∀(n:Nat) (xs:List α) (s:OR) (Q:List α->OR->Prop),xs.length=n->(∀ys d,ys.Perm xs->Q ys {s with drawn:=d})->OK M A (drawOrder n xs) Q E s
 |0,xs,s,Q,hn,h=>by
  have:xs=[]:=UI.mp hn;subst this;exact OF (h [] s.drawn (.refl _))
 |n+1,[],s,Q,hn,h=>by simp at hn
 |n+1,y::ys,s,Q,hn,h=>by
  show OK M A (choose .order (y::ys).length >>= _) Q E s;refine Oz (kz (by simp) λi hi=>?_);have e:(y::ys)[i]?=Od ((y::ys)[i]'hi):=O7 hi;have hp:=eX e;generalize (y::ys)[i]'hi=x at e hp;simp only[e];refine Oz (eL n _ _ _ (by have:=hp.length_eq;simp at this hn ⊢;omega) λzs d hz=>?_);exact OF (h (x::zs) d ((hz.cons x).trans hp))
theorem gC(next:Nat->Nat):∀(fuel k:Nat) (left:List α) (out:Array α),left.length=fuel->(T8 next fuel k left out).toList.Perm (out.toList++left)
 |0,k,left,out,hl=>by
  have:left=[]:=UI.mp hl;subst this;simp[T8]
 |fuel+1,k,left,out,hl=>by
  unfold T8;have Ce:next k % left.length<left.length:=Xr _ ⋯;have e:left[next k % left.length]?=Od (left[next k % left.length]'Ce):=O7 Ce;have hp:=eX e;generalize left[next k % left.length]'Ce=x at e hp;simp only[e];refine(gC next fuel _ _ _ (by have:=hp.length_eq;simp at this;omega)).trans ?_;rw[Vr,List.append_assoc];exact(hp.append_left _)
theorem dA(next:Nat->Nat)(xs:Array α):(Uv next xs).toList.Perm xs.toList:=by
 have:=gC next xs.size 0 xs.toList #[] (by simp);simpa[Uv] using this
end
namespace SI
theorem lP:Manifest.owners.lookup (String.ofList ['r','o','t','a','r','e','t','i','_','t','e','s'].reverse)=Od Manifest.sig_set_iterator:=by kernel_rfl
theorem slot_next:Slot "set_iterator" "__next__" "set_iterator.__next__" :=
 .of (owner:="set_iterator") (n:="__next__") (by rw[R6,Q3];kernel_rfl) (by decide +kernel) (by decide +kernel) (by decide +kernel)
  (by first|exact .inl (by decide +kernel)|exact .inr (by decide +kernel)) (by rw[P'];kernel_rfl)
theorem entry_next:Xf table "set_iterator.__next__"=Od Ri.«set_iterator.__next__»:=entryFor_of_tree (by kernel_rfl)
theorem args_next(a:OH):Xh "set_iterator.__next__" ⟨[a],[]⟩:=by
 unfold Xh;rw[signature?_of (id:="set_iterator.__next__") (n:=['_','_','t','x','e','n','_','_']) (o:=['r','o','t','a','r','e','t','i','_','t','e','s']) (by kernel_rfl) lP];kernel_rfl
theorem jB:Slot "set_iterator" "__iter__" "set_iterator.__iter__" :=
 .of (owner:="set_iterator") (n:="__iter__") (by rw[R6,Q3];kernel_rfl) (by decide +kernel) (by decide +kernel) (by decide +kernel)
  (by first|exact .inl (by decide +kernel)|exact .inr (by decide +kernel)) (by rw[P'];kernel_rfl)
theorem qy(a:OH):Xh "set_iterator.__iter__" ⟨[a],[]⟩:=by
 unfold Xh;rw[signature?_of (id:="set_iterator.__iter__") (n:=['_','_','r','e','t','i','_','_']) (o:=['r','o','t','a','r','e','t','i','_','t','e','s']) (by kernel_rfl) lP];kernel_rfl
theorem nz:Xf table "set_iterator.__iter__"=Od Ri.«dict_keyiterator.__iter__» :=
 Xe (id':="dict_keyiterator.__iter__") (by kernel_rfl) (by first|rfl|decide +kernel|(unfold String.splitOn;simp +decide [String.splitOnAux])) (by decide +kernel) (by kernel_rfl)
theorem ir:Xf table "set.__iter__"=Od Ri.«frozenset.__iter__» :=
 Xe (id':="frozenset.__iter__") (by kernel_rfl) rfl (by decide +kernel) (by kernel_rfl)
end SI
section
variable{prog:PC}{w:P4}{A:QW}{E:OH->OR->Prop}{s:OR}
def eY(h:Qk)(I:OS)(first:OH)(i:Nat)(S:OS)(n ep:Nat):Prop:=∃o,h.get? I=Od o/\o.cls=.type "set_iterator"/\o.data=.fields #[first,PM i,.ref S,PM n,PM ep]
theorem eY.typeIs(x:eY s.heap I f i S n ep):s.TypeIs (.ref I) "set_iterator":=let ⟨o,ho,hc,_⟩:=x;⟨o,ho,hc⟩
theorem vF(hit:eY s.heap I f i S n ep)(h:Q (.ref I) s):OK (OU prog w) A (UZ (.ref I)) Q E s:=by
 refine Wv hit.typeIs SI.jB (PK SI.jB hit.typeIs SI.nz ?_ (SI.qy _));show OK _ _ (ret (.ref I)) _ _ s;exact OF ⟨_,rfl,"set_iterator",_,hit.typeIs,SI.slot_next.lookup,h⟩
theorem c7(h:Q (M.w.params.followText "set-order") s):OK M A setsByText Q E s:=by
 unfold setsByText;exact Oz (Ur (OF h))
end
end L2
namespace L2
open PySem PySem.Spec PyProof.Rows
section
variable{prog:PC}{w:P4}{A:QW}{E:OH->OR->Prop}{s:OR}
abbrev kA(es:Array (Int×OH))(ep:Nat)(t:Sl):Obj:={cls:=.type "set",dict:=OB,data:=.set es ep t}
theorem lQ{I:OS}{B:QW}{Q:Option OH->OR->Prop}{h1:Qk}{k:OH->Sem (Option OH)}(hh:B.handled=OB)
  (hQ:∀h',(∀b o,h1.get? b=Od o->h'.get? b=Od o)->∀e,R9 {s with heap:=h' } e "StopIteration"->E e {s with heap:=h' }) {Q':Fin->OR->Prop} :
  OK (OU prog w) B (Vx (.type "StopIteration") [] >>= λe=>(UY e:Sem Fin)) Q' E {s with heap:=h1}:=by
 refine Oz ?_;simp only[Vx,Xb];refine Oz (Pe ?_ (by size_fits));refine Oz (m:=Th _ _) (Tg (a:=Pa) (by first|rfl|(simp only[Th];rfl)) ?_);refine Pe ?_ (by size_fits);simp only[UY];refine Oz (wpAny_handled ?_);rw[hh];refine Oz (OF (wpAny_throw ?_));exact hQ _ (λb o e=>OC _ (OC _ e)) _ ⟨_,OO _ rfl,rfl⟩
theorem oS{I S:OS}{first:OH}{i ep:Nat}{es:Array (Int×OH)}{t:Sl}(hit:eY s.heap I first i S es.size ep)(ho:s.heap.get? S=Od (kA es ep t))(hf:t.fits es.size=OA)
  (HF:∀(Q':Fin->OR->Prop) (E':OH->OR->Prop) ,(∀v s',Q (Od v) s'->Q' (.done (.ret v)) s')->(∀e s',s'.TypeIs e "StopIteration"->Q OB s'->E' e s') ->
   OK (OU prog w) A.in1 (if let .int slot _:=first then(do
     match <-T6 S slot.toNat i ep with
     |some (x,next) =>
      T7 (.ref I) 0 (PM next)
      T7 (.ref I) 1 (PM ((i:Int)+1))
      ret x
     |none=>T7 (.ref I) 2 .none;UY (<-Vx (.type "StopIteration") []))
    else(do
     let Od places <-Ut first|unsupported "internal:set_iterator"
     match places[i]? with
     |some (.int place _) =>
      let x <-Vu S place.toNat ep
      T7 (.ref I) 1 (PM ((i:Int)+1))
      ret x
     |some _=>UA "internal:set_iterator"
     |none=>T7 (.ref I) 0 (PM 0);T7 (.ref I) 2 .none;UY (<-Vx (.type "StopIteration") []))) Q' E' s):OK (OU prog w) A (SO (.ref I)) Q E s:=by
 obtain⟨o,hI,hc,hd⟩:=id hit;unfold SO;refine Oz (wpAny_attempt (Qm (name:=Q9 "__next__") hit.typeIs SI.slot_next
  (PK SI.slot_next hit.typeIs SI.entry_next ?_ (SI.args_next _))))
 unfold Ri.«set_iterator.__next__»;refine Oz (Tg (a:=(O0 I,[])) rfl ?_)
 try dsimp only
 refine Oz (wpAny_fieldsOf hI hd ?_)
 try dsimp only
 refine Oz (V8 ho rfl hf ?_);rw[Xu (by simp)];refine PR (HF (λfin s'=>∃r,fin=.done (.ret r)/\Q (Od r) s') (λe s'=>s'.TypeIs e "StopIteration"/\Q OB s') (λv s' q=>⟨v,rfl,q⟩) λe s' z q=>⟨z,q⟩) ?_ ?_
 ·rintro fin s' ⟨r,rfl,q⟩;exact⟨r,rfl,OF q⟩
 ·rintro e s' ⟨z,q⟩;refine Oz (QO (T:="StopIteration") (b:=OA) z Xc ?_);exact OF q
end
section
theorem oU{I S:OS}{f f':OH}{i n ep:Nat}{h:Qk}{o:Obj}(hI:h.get? I=Od o)(hc:o.cls=.type "set_iterator")(hd:o.data=.fields #[f,PM i,.ref S,PM n,PM ep]):
  eY (h.update I (WE (·.setIfInBounds 1 (PM ((i:Int)+1))))) I f (i+1) S n ep :=
 ⟨_,PH _ hI (SF (QQ hd _)),(Tw ..).trans hc,by rw[QQ hd];simp⟩
theorem lR{h:Qk}(hI:h.get? I=Od o)(hc:o.cls=.type "set_iterator")(hd:o.data=.fields #[f,PM i,.ref S,PM n,PM ep]):
  ∃o',(h.update I (WE (·.setIfInBounds 0 f'))).get? I=Od o'/\o'.cls=.type "set_iterator"/\o'.data=.fields #[f',PM i,.ref S,PM n,PM ep] :=
 ⟨_,PH _ hI (SF (QQ hd _)),(Tw ..).trans hc,by rw[QQ hd];simp⟩
theorem sm{I S:OS}{slot i ep:Nat}{es:Array (Int×OH)}{t:Sl}{Q:Option OH->OR->Prop}(hit:eY s.heap I (PM slot) i S es.size ep)(ho:s.heap.get? S=Od (kA es ep t))(hf:t.fits es.size=OA)(hh:A.handled=OB)
  {r:Option (OH×Nat)} (hn:∀(B:QW) (E':OH->OR->Prop) (Q':Option (OH×Nat)->OR->Prop),Q' r s->OK (OU prog w) B (T6 S slot i ep) Q' E' s)
  (h1:∀x nx,r=Od (x,nx)->∀h',eY h' I (PM nx) (i+1) S es.size ep->Qc I s.heap h'->Q (Od x) {s with heap:=h' })
  (h2:r=OB->∀h',(∀b o,b≠I->s.heap.get? b=Od o->h'.get? b=Od o)->Q OB {s with heap:=h' }):OK (OU prog w) A (SO (.ref I)) Q E s:=by
 refine oS hit ho hf λQ' E' q1 q2=>?_;obtain⟨o,hI,hc,hd⟩:=id hit;show OK _ _ (T6 S slot i ep >>= _) _ _ s;refine Oz (hn _ _ _ ?_);cases r with
 |some p =>
  obtain⟨x,nx⟩:=p
  dsimp only
  refine Oz (QN hI hd (by simp) ?_);obtain⟨o',e1,e2,e3⟩:=lR (f':=PM nx) hI hc hd;refine Oz (QN (s:={s with heap:=_}) e1 e3 (by simp) ?_);exact OF (q1 _ _ (h1 x nx rfl _ (oU (f':=PM nx) e1 e2 e3) ((Qb ..).trans (Qb ..))))
 |none =>
  dsimp only
  refine Oz (QN hI hd (by simp) ?_);refine lQ (I:=I) (k:=λ_=>pure OB) (Q:=λ_ _=>True) (s:=s) (by simpa using hh) λh' hk e he=>q2 e _ he (h2 rfl h' λb ob hb eb=>hk b ob ?_);rw[Q_ _ _ _ _ hb];exact eb
theorem yr{I S T:OS}{i ep:Nat}{es:Array (Int×OH)}{t:Sl}{pl:List Nat}{Q:Option OH->OR->Prop}(hit:eY s.heap I (.ref T) i S es.size ep)(ho:s.heap.get? S=Od (kA es ep t))(hf:t.fits es.size=OA)(hh:A.handled=OB)
  (hT:s.heap.IsTuple T ((pl.map λ(j:Nat)=>PM j).toArray))
  (h1:∀(j:Nat) (e:Int×OH),pl[i]?=Od j->es[j]?=Od e->∀h',eY h' I (.ref T) (i+1) S es.size ep->Qc I s.heap h'->Q (Od e.2) {s with heap:=h' })
  (hp:∀j∈pl,j<es.size)
  (h2:pl[i]?=OB->∀h',(∀b o,b≠I->s.heap.get? b=Od o->h'.get? b=Od o)->Q OB {s with heap:=h' }):OK (OU prog w) A (SO (.ref I)) Q E s:=by
 refine oS hit ho hf λQ' E' q1 q2=>?_;obtain⟨o,hI,hc,hd⟩:=id hit;obtain⟨oT,MQ,Oe,nT,MR⟩:=hT;show OK _ _ (Ut (.ref T) >>= _) _ _ s;refine Oz (RF MQ MR ?_);cases e:pl[i]? with
 |some j =>
  have e':(pl.map λ(j:Nat)=>PM j).toArray[i]?=Od (PM j):=by simp[e]
  simp only[e'];have hj:j<es.size:=hp j (Qf e);have ej:es[j]?=Od (es[j]'hj):=by simp[hj]
  show OK _ _ (Vu S (j:Int).toNat ep >>= _) _ _ s;unfold Vu;rw[Si];refine Oz (Oz (P9 ho rfl hf ?_))
  dsimp only
  rw[Xu (by simp)];generalize es[j]'hj=p at ej;simp only[ej];refine OF ?_;refine Oz (QN hI hd (by simp) ?_);exact OF (q1 _ _ (h1 j p e ej _ (oU (f':=.ref T) hI hc hd) (Qb ..)))
 |none =>
  have e':(pl.map λ(j:Nat)=>PM j).toArray[i]?=OB:=by simp at e ⊢;exact e
  simp only[e'];refine Oz (QN hI hd (by simp) ?_);obtain⟨o',e1,e2,e3⟩:=lR (f':=PM 0) hI hc hd;refine Oz (QN (s:={s with heap:=_}) e1 e3 (by simp) ?_);refine lQ (I:=I) (k:=λ_=>pure OB) (Q:=λ_ _=>True) (s:=s) (by simpa using hh) λh' hk ex he=>q2 ex _ he (h2 e h' λb ob hb eb=>hk b ob ?_);rw[Q_ _ _ _ _ hb,Q_ _ _ _ _ hb];exact eb
end
section
theorem eY.at(x:eY h I f i S n ep)(e:∀o,h.get? I=Od o->h'.get? I=Od o):eY h' I f i S n ep:=let ⟨o,ho,r⟩:=x;⟨o,e _ ho,r⟩
theorem iu(hh:A.handled=OB)(C7:S≠I)(hf:t.fits es.size=OA)(T:OS)(hT:T≠I)(ord:List OH)(hlen:ord.length=es.size)
  (first:Nat->OH) (side:Qk->Prop) (D6:∀h h',side h->(∀o,h.get? T=Od o->h'.get? T=Od o)->side h')
  (D4:∀(s:OR) (i:Nat) (E:OH->OR->Prop) (Q:Option OH->OR->Prop),i<=es.size->side s.heap->eY s.heap I (first i) i S es.size ep->s.heap.get? S=Od (kA es ep t) ->
   (∀x,ord[i]?=Od x->∀h',eY h' I (first (i+1)) (i+1) S es.size ep->Qc I s.heap h'->Q (Od x) {s with heap:=h' }) ->
   (ord[i]?=OB->∀h',(∀b o,b≠I->s.heap.get? b=Od o->h'.get? b=Od o)->Q OB {s with heap:=h' })->OK (OU prog w) A (SO (.ref I)) Q E s) :
  Walks prog w A I [I,S,T] [I] es.size (λi v=>ord[i]?=Od v) (λi h=>i<=es.size/\eY h I (first i) i S es.size ep/\h.get? S=Od (kA es ep t)/\side h) where
 sub:=λb hb=>by rw[O1.mp hb];simp
 frame:=λi h h' x hk=>⟨x.1,x.2.1.at λo e=>hk I (by simp) o e,hk S (by simp) _ x.2.2.1,D6 h h' x.2.2.2 λo e=>hk T (by simp) o e⟩
 item:=λi s Q E hi x hQ=>by
  refine D4 s i E Q x.1 x.2.2.2 x.2.1 x.2.2.1 (λv hv h' hit hs=>?_) λz=>absurd z (by simp;omega);refine hQ v h' s.toks hv ⟨hi,hit,?_,D6 _ h' x.2.2.2 λo e=>?_⟩ λb o hb e=>?_
  ·rw[hs.2 S C7];exact x.2.2.1
  ·rw[hs.2 T hT];exact e
  ·rw[hs.2 b λz=>hb (by simp[z])];exact e
 done:=λs Q E x hQ=>by
  refine D4 s es.size E Q x.1 x.2.2.2 x.2.1 x.2.2.1 (λv hv=>absurd hv (by rw[RE ⋯];simp)) λ_ h' hk=>hQ h' s.toks λb o hb e=>hk b o (λz=>hb (by simp[z])) e
 self:=λi s Q E x hQ=>vF x.2.1 hQ
theorem kB(ho:s.heap.get? S=Od (kA es ep t))(hf:t.fits es.size=OA)(h:Q (!w.params.followText "set-order"&&(!t.plain&&OI (es.size>1))) s):OK (OU prog w) A (setDrawn S) Q E s:=by
 unfold setDrawn;refine Oz (P9 ho rfl hf ?_)
 dsimp only
 exact Oz (c7 (OF h))
theorem kC(hw:w.params.followText "set-order"=OA)(ho:s.heap.get? S=Od (kA es ep t))(hf:t.fits es.size=OA)
  (h:Q ((Uv (w.params.setOrder S ep) es)[i]?.map λe=>(e.2,0)) s):OK (OU prog w) A (T6 S 0 i ep) Q E s:=by
 unfold T6;refine Oz (P9 ho rfl hf ?_)
 dsimp only
 refine Oz (c7 ?_);show OK _ _ (if (w.params.followText "set-order")=OA then _ else _) _ _ s;rw[Xs hw];rw[Xu (by simp)];unfold setWalk;refine Oz (Oz (P9 ho rfl hf ?_))
 dsimp only
 refine Oz (c7 ?_);show OK _ _ (if (w.params.followText "set-order")=OA then _ else _) _ _ s;rw[Xs hw];refine Oz (Ur (OF ?_));exact OF h
theorem lS(hw:w.params.followText "set-order"=OE)(ho:s.heap.get? S=Od (kA es ep t))(hf:t.fits es.size=OA)(hl:t.led=OA)(h1:es.size<=1)
    (h:Q (match es[QB t.place slot]?,t.place[QB t.place slot]? with|some (_,x),Od j=>Od (x,j+1)|_,_=>OB) s):OK (OU prog w) A (T6 S slot i ep) Q E s:=by
  unfold T6;refine Oz (P9 ho rfl hf ?_)
  dsimp only
  refine Oz (c7 ?_);show OK _ _ (if (w.params.followText "set-order")=OA then _ else _) _ _ s;rw[Xu (by rw[hw];simp)];show OK _ _ (if (!t.plain&&OI (es.size>1))=OA then _ else _) _ _ s
  rw [if_neg (by have : decide (es.size > 1) = false := decide_eq_false (by omega)
                 rw[this];simp)]
  show OK _ _ ((if (!t.led&&!es.isEmpty)=OA then _ else _) >>= _) _ _ s;rw[Xu (by rw[hl];simp)];exact Oz (OF (OF h))
theorem lT(es:Array (Int×OH))(pl:Array Nat)(i:Nat)(h1:es.size<=1)(h2:pl.size=es.size)(h3:i<=es.size):
  (match es[QB pl (if i=0 then 0 else(pl[0]?).getD 0+1)]?,pl[QB pl (if i=0 then 0 else(pl[0]?).getD 0+1)]? with|some (_,x),Od j=>Od (x,j+1)|_,_=>OB)=es[i]?.map λe=>(e.2,(pl[0]?).getD 0+1):=by
 obtain⟨es⟩:=es;obtain⟨pl⟩:=pl
 match es,pl,h1,h2,h3 with
 |[],[],_,_,h3=>simp
 |[e],[p],_,_,h3 =>
  match i,h3 with
  |0,_ =>
   have:QB #[p] 0=0:=by simp[QB,Uc]
   simp[this]
  |1,_ =>
   have:QB #[p] (p+1)=1:=by simp[QB,Uc]
   simp[this]
  |n+2,h=>simp at h
 |[],_::_,_,h,_=>simp at h
 |[_],[],_,h,_=>simp at h
 |[_],_::_::_,_,h,_=>simp at h
 |_::_::_,_,h,_,_=>simp at h
theorem so(hh:B.handled=OB)(hS:c6 prog w s.heap S (cq w) D)
  (h:∀(I:OS) (fp:List OS) (n:Nat) (P:Nat->OH->Prop) (St:Nat->Qk->Prop) (ys:List Str) (h':Qk) (d':Drawn),Walks prog w B I fp [I] n P St->ys.Perm D->n=ys.length->(∀i v,P i v->∃x tk,ys[i]?=Od x/\v=.str x tk)->s.heap.objs.size<=I->(∀b∈fp,b=S\/s.heap.objs.size<=b)->St 0 h' ->
   (∀b o,s.heap.get? b=Od o->h'.get? b=Od o)->Q (.ref I) {s with heap:=h',drawn:=d' }):OK (OU prog w) A (UZ (.ref S)) Q E s:=by
 obtain⟨L,es,ep,t,ho,EA,CJ,CZ,hf,hb,Ed,Dv⟩:=hS;have Lc:s.TypeIs (.ref S) "set":=⟨_,ho,rfl⟩
 have ED:S<s.heap.objs.size:=OP ho;refine Wv Lc PySem.F.slot_set_iter (PK PySem.F.slot_set_iter Lc SI.ir ?_ (PySem.F.args_set_iter_1 _));unfold Ri.«frozenset.__iter__» VX slotArgs;simp only[List.isEmpty_nil,Qn,Pc,↓reduceIte,bind_assoc,SA,bne_self_eq_false];unfold V0 VY;refine Oz (OF ?_)
 try dsimp only
 refine Oz (OF ?_);refine Oz (Oz (V8 ho rfl hf (OF ?_)));have MS:D.length=es.size:=by rw[<-CJ.length_eq,OJ,<-O9,EA,OJ]
 have look:∀(l:List (Int×OH)),l.Perm es.toList->∃ys:List Str,ys.Perm D/\ys.length=es.size/\∀(i:Nat) (v:OH),(l.map (·.2))[i]?=Od v->∃(x:Str) (tk:Tok),ys[i]?=Od x/\v=PL x tk:=by
  intro l hl;rw[EA]at hl;obtain⟨L',e',p'⟩:=eW hl;refine⟨L'.map (·.1),(p'.map _).trans CJ,by rw[((p'.map _).trans CJ).length_eq,MS],λi v hv=>?_⟩;subst e';rw[Pp,OX]at hv;rw[OX];cases q:L'[i]? with
  |none=>rw[q]at hv;simp at hv
  |some p=>rw[q]at hv;simp at hv;exact⟨p.1,p.2,rfl,hv.symm⟩
 refine Oz (kB ho hf ?_);cases hw:w.params.followText "set-order" with
 |true =>
  simp only[Qn,SM,Pc,↓reduceIte];refine Oz (OF ?_);refine Oz (Oz (P9 ho rfl hf (OF ?_)));refine Oz (Pe ?_);have hn:S≠s.heap.objs.size:=OW ED;obtain⟨ys,y1,y2,y3⟩:=look (Uv (w.params.setOrder S ep) es).toList (dA _ _);have W:=iu (prog:=prog) (w:=w) (A:=B) (I:=s.heap.objs.size) (S:=S) (es:=es) (ep:=ep) (t:=t) hh hn hf S hn ((Uv (w.params.setOrder S ep) es).toList.map (·.2)) (by rw[OJ,(dA _ _).length_eq,O9]) (λ_=>PM 0) (λ_=>True) (λ_ _ _ _=>trivial)
   (λs i E Q _ _ hit CH k1 k2=>sm (slot:=0) hit CH hf hh (λB E' Q' q=>kC hw CH hf q) (λx nx e h' DP hs=>by
    rw[OM]at e;obtain⟨p,e1,e2⟩:=e;cases e2;exact k1 _ (by rw[OX,PF,e1];rfl) h' DP hs) (λe=>k2 (by rw[OX,PF,Sn];rwa [Sn]at e)))
  refine OF ⟨_,rfl,"set_iterator",_,⟨_,OO _ rfl,rfl⟩,SI.slot_next.lookup,?_⟩;exact h _ _ _ _ _ ys _ s.drawn W y1 y2.symm y3 (ON _) (λb hb=>by
   simp only[OV,So,or_false]at hb;rcases hb with rfl|rfl|rfl
   ·exact .inr (ON _)
   ·exact .inl rfl
   ·exact .inl rfl) ⟨O_ _,⟨_,OO _ rfl,rfl,rfl⟩,OC _ ho,trivial⟩ λb o e=>OC _ e
 |false =>
  by_cases hsz:es.size>1
  ·have C6:t.plain=OE:=by
    rcases Dv with z|z
    ·omega
    ·exact z
   have e1:(!OE&&(!t.plain&&OI (es.size>1)))=OA:=by rw[C6,Xw hsz];rfl
   rw[e1];simp only[↓reduceIte];refine Oz (eL _ _ _ _ P5 λpl d' hp=>?_);simp only[Xb];have Fg:∀j∈pl,j<es.size:=λj hj=>by have:=hp.mem_iff.mp hj;simpa using this
   have HG:pl.length=es.size:=by rw[hp.length_eq];simp
   refine Oz (Pe ?_ (by
    show(pl.map λ(j:Nat)=>PM j).toArray.size<=_;have:es.size<4096:=hb;simp only[OL,OJ,HG];have:(4096:Nat)<=OG:=by decide
    omega))
   have Ef:(s.heap.push {cls:=.type "tuple",data:=.seq (pl.map λ(j:Nat)=>PM j).toArray}).get? S=Od (kA es ep t):=OC _ ho;refine Oz (Oz (P9 (s:={s with heap:=_,drawn:=d' }) Ef rfl hf (OF ?_)));refine Oz (Pe ?_);have MT:s.heap.objs.size≠(s.heap.push {cls:=.type "tuple",data:=.seq (pl.map λ(j:Nat)=>PM j).toArray}).objs.size:=by rw[Qy];exact OW (QH _)
   have hn:S≠(s.heap.push {cls:=.type "tuple",data:=.seq (pl.map λ(j:Nat)=>PM j).toArray}).objs.size:=by rw[Qy];exact OW (Rv ED)
   have Gg:(pl.map λj=>(es[j]?).getD (0,Pa)).Perm es.toList:=by
    refine(hp.map _).trans ?_;have:(O2 es.size).map (λj=>(es[j]?).getD (0,Pa))=es.toList:=by
     apply TN
     ·simp
     ·intro i h1 h2;simp at h1 ⊢;simp[h1]
    rw[this]
   obtain⟨ys,y1,y2,y3⟩:=look _ Gg;have W:=iu (prog:=prog) (w:=w) (A:=B) (I:=(s.heap.push {cls:=.type "tuple",data:=.seq (pl.map λ(j:Nat)=>PM j).toArray}).objs.size) (S:=S) (es:=es) (ep:=ep) (t:=t) hh hn hf s.heap.objs.size MT ((pl.map λj=>(es[j]?).getD (0,Pa)).map (·.2)) (by simp[HG]) (λ_=>.ref s.heap.objs.size) (λh=>h.IsTuple s.heap.objs.size (pl.map λ(j:Nat)=>PM j).toArray) (λh h' ⟨o,ho,r⟩ k=>⟨o,k _ ho,r⟩)
    (λs' i E Q _ D6 hit CH k1 k2=>yr hit CH hf hh D6 (λj e ej ee h' DP hs=>k1 _ (by rw[OX,OX,ej];simp[ee]) h' DP hs) Fg (λe=>k2 (by rw[OX,OX,e];rfl)))
   refine OF ⟨_,rfl,"set_iterator",_,⟨_,OO _ rfl,rfl⟩,SI.slot_next.lookup,?_⟩;refine h _ _ _ _ _ ys _ d' W y1 y2.symm y3 (by rw[Qy];exact Qo _) (λb hb=>?_) ⟨O_ _,⟨_,OO _ rfl,rfl,rfl⟩,OC _ Ef,⟨_,OC _ (OO _ rfl),rfl,_,rfl⟩⟩ λb o e=>OC _ (OC _ e);rw[Qy]at hb;simp only[OV,So,or_false]at hb;rcases hb with rfl|rfl|rfl
   ·exact .inr (Qo _)
   ·exact .inl rfl
   ·exact .inr (ON _)
  ·have e1:(!OE&&(!t.plain&&OI (es.size>1)))=OE:=by rw[Xv hsz];simp
   rw[e1];simp only[Pc,↓reduceIte];refine Oz (OF ?_);refine Oz (Oz (P9 ho rfl hf (OF ?_)));refine Oz (Pe ?_);have hn:S≠s.heap.objs.size:=OW ED;have MU:t.led=OA:=by rw[Ed];show(!w.params.followText "set-order")=OA;rw[hw];rfl
   obtain⟨ys,y1,y2,y3⟩:=look es.toList (.refl _);have DF:t.place.size=es.size:=by
    unfold SetTable.fits at hf;simp only[OD,beq_iff_eq]at hf;exact hf.1
   have W:=iu (prog:=prog) (w:=w) (A:=B) (I:=s.heap.objs.size) (S:=S) (es:=es) (ep:=ep) (t:=t) hh hn hf S hn (es.toList.map (·.2)) (by simp) (λi=>PM ((if i=0 then 0 else(t.place[0]?).getD 0+1:Nat):Nat)) (λ_=>True) (λ_ _ _ _=>trivial)
    (λs' i E Q hi _ hit CH k1 k2=>sm (slot:=if i=0 then 0 else(t.place[0]?).getD 0+1) hit CH hf hh (λB E' Q' q=>lS hw CH hf MU ⋯ q) (λx nx e h' DP hs=>by
     rw[lT es t.place i ⋯ DF hi,OM]at e;obtain⟨p,e1,e2⟩:=e;cases e2;refine k1 _ (by rw[OX,PF,e1];rfl) h' ?_ hs;rw[Xu (Nat.succ_ne_zero i)];exact DP) (λe=>by
     rw[lT es t.place i ⋯ DF hi,Sn]at e;exact k2 (by rw[OX,PF,e];rfl)))
   refine OF ⟨_,rfl,"set_iterator",_,⟨_,OO _ rfl,rfl⟩,SI.slot_next.lookup,?_⟩;exact h _ _ _ _ _ ys _ s.drawn W y1 y2.symm y3 (ON _) (λb hb=>by
    simp only[OV,So,or_false]at hb;rcases hb with rfl|rfl|rfl
    ·exact .inr (ON _)
    ·exact .inl rfl
    ·exact .inl rfl) ⟨O_ _,⟨_,OO _ rfl,rfl,rfl⟩,OC _ ho,trivial⟩ λb o e=>OC _ e
end
theorem lU:UW (.type "set") "__len__"=pure (Od (.builtin "set.__len__")):=by rw[R6,Q3];kernel_rfl
section
theorem iw:∀{vs:List OH}{ys:List Str},vs.length=ys.length->(∀(i:Nat) (v:OH),vs[i]?=Od v->∃x t,ys[i]?=Od x/\v=.str x t)->RL vs ys
 |[],[],_,_=>.nil
 |[],_::_,h,_=>by simp at h
 |_::_,[],h,_=>by simp at h
 |v::vs,y::ys,h,k=>by
  obtain⟨x,t,e1,e2⟩:=k 0 v rfl;cases e1;subst e2;exact .cons y t (iw (by simpa using h) λi w hw=>k (i+1) w hw)
theorem lV(hh:A.handled=OB)(hS:c6 prog w s.heap S (cq w) D)(hn:D.length<=OG)
  (hQ:∀(vs:List OH) (ys:List Str) (h':Qk) (d':Drawn) (tk:Nat),ys.Perm D->RL vs ys->s.heap.objs.size<=h'.objs.size->s.toks<=tk->(∀b o,s.heap.get? b=Od o->h'.get? b=Od o)->Q vs {s with heap:=h',drawn:=d',toks:=tk}) :
  OK (OU prog w) A (Ua (.ref S)) Q E s:=by
 obtain⟨L,es,ep,t,ho,rest⟩:=id hS;have ED:S<s.heap.objs.size:=OP ho;unfold Ua;refine Oz (Tf (P1 PySem.F.entry_proto_collect ?_));rw[P0 PySem.F.plain_proto_collect _];show OK _ A.in1 (Vw [] >>= λl=>VT (.builtin "list.__iadd__" ⟨[l,.ref S],[]⟩)) _ _ s;refine Oz (Pe ?_);refine OF ⟨Ro PySem.F.plain_list_iadd _,P1 PySem.F.entry_list_iadd ?_⟩;rw[P0 PySem.F.plain_list_iadd _];have Ef:(s.heap.push {cls:=.type "list",data:=.seq ([]:List OH).toArray}).get? S=Od {cls:=.type "set",dict:=OB,data:=.set es ep t}:=OC _ ho;have hT:R9 {s with heap:=s.heap.push {cls:=.type "list",data:=.seq ([]:List OH).toArray}} (.ref S) "set":=⟨_,Ef,rfl⟩
 show OK _ A.in1 (Ph (.ref s.heap.objs.size) (.ref S) (.ref s.heap.objs.size)) _ _ _;unfold Ph;refine Oz (Rg hT ?_);have C7:s.heap.objs.size≠S:=QA ED;have h1:QX (.ref s.heap.objs.size) (.ref S)=OE:=by simp[QX,C7]
 have h2:(Pj "set"==Pj "list")=OE:=by decide
 have h3:(Pj "set"==Pj "tuple")=OE:=by decide
 simp only[h1,h2,h3,Rf,Pc,Xx];refine Oz (so (B:=A.in1) (by simpa using hh) ⟨L,es,ep,t,Ef,rest⟩ ?_);intro I fp n P St ys h' d' W hp Le hP hI Gh B_ hk;have J3:R9 {s with heap:=h',drawn:=d' } (.ref S) "set":=⟨_,hk _ _ Ef,rfl⟩
 refine Oz (PJ ?_);unfold S9;refine Oz (QY J3 lU ?_);have DE:splitId "set.__len__"=Od ("set","__len__"):=by decide +kernel
 dsimp only
 rw[DE]
 dsimp only
 refine Oz (QO J3 sub_set_self ?_);rw[Xu (by decide)];rw[Xs (by decide +kernel)];refine Oz (Rg J3 ?_);refine OF ?_;rw[Xs (by decide +kernel)];have DO:s.heap.objs.size∉fp:=λhm=>by
  rcases Gh _ hm with z|z
  ·exact C7 z
  ·rw[Qy]at z;exact absurd z (Nat.not_succ_le_self _)
 have G0:h'.get? s.heap.objs.size=Od {cls:=.type "list",data:=.seq ([]:List OH).toArray}:=hk _ _ (OO _ rfl);refine Oz (Ra ?_);refine Oz ?_;show OK _ A.in1 (WQ s.heap.objs.size (·.push .none) >>= λ_=>WQ s.heap.objs.size (·.pop)) _ _ _;refine Oz (R5 G0 rfl ?_);have IS:=PH (Pd (·.push Pa)) G0 rfl;refine R5 IS rfl ?_;have MV:=PH (Pd (·.pop)) IS rfl;have CW:∀b o,b≠s.heap.objs.size->h'.get? b=Od o->((h'.update s.heap.objs.size (Pd (·.push Pa))).update s.heap.objs.size (Pd (·.pop))).get? b=Od o :=
  λb o hb e=>(QK _ _ (Qa hb)).trans ((QK _ _ (Qa hb)).trans e)
 refine OF ⟨Ro PySem.F.plain_extend_loop _,VR W.toS (by rw[Le,hp.length_eq];exact hn) _ DO _ n 0 _ _ _ rfl (O_ _) (W.frame 0 h' _ B_ λb hb o e=>CW b o (λz=>DO (z▸hb)) e) MV (V9 P) λs' Cw c' hm Dd Cj=>?_⟩;show OK _ A (load s.heap.objs.size >>= _) _ _ s';refine Oz (UU Dd ?_);obtain⟨Ec,g2,d2,MW,MX⟩:=s';have eg:g2=s.gens:=hm.gens;have ed:d2=d':=hm.drawn;have eo:MX=s.os:=hm.os;subst eg;subst ed;subst eo;refine OF (hQ _ ys Ec d2 MW hp (iw (by rw[O9,Cj.1,Le]) λi v hv=>hP i v (Cj.2 i v (by rwa [PF]at hv))) (Rw (OP Dd)) hm.toks λb o e=>?_);have Lf:b≠s.heap.objs.size:=λz=>by rw[z]at e;exact absurd (OP e) (PD _)
 refine hm.heap b o (λz=>?_) (CW b o Lf (hk _ _ (OC _ e)));rcases OV.mp z with z|z
 ·exact Lf z
 ·rw[O1.mp z]at e;have:=OP e;rw[Qy]at hI;exact absurd (OY this (Qe (Qo _) hI)) (PD _)
end
section
theorem Inv.drawn(I:Inv X pins σ H s)(d:Drawn):Inv X pins σ H {s with drawn:=d}:=⟨I.ok,I.os,I.bare,I.base,I.loc,I.cell,I.free,I.Cz,I.pin,I.B0,I.len⟩
theorem fE(hc:X.calm=OA)(I:Inv X pins σ H s)(hq:Cn X.K H p (ys.map V.str)\/Ci X.K H p (ys.map V.str))(hb:ys.length+1<QP)
  (h:∀(S:OS) (h':Qk) (tk:Nat),c6 X.prog X.w h' S (cq X.w) (bo ys)->Inv X pins σ H {s with heap:=h',toks:=tk}->Q (.ref S) {s with heap:=h',toks:=tk}) :
  OK (OU X.prog X.w) X.A (Rm (.type "set") [.ref p]) Q X.xe s:=by
 have hh:X.A.handled=OB:=I.ok.hd hc;rcases hq with hq|hq
 ·obtain⟨A',rv,pl,hz⟩:=I.list hq;exact iq hh pl.isList (cC rv) hb λh' tk hS k=>h _ h' tk hS (I.kept λb o e=>k b o (OP e) e)
 ·obtain⟨A',rv,pl,hz⟩:=I.tuple hq;exact jj hh pl (cC rv) hb λh' tk hS k=>h _ h' tk hS (I.kept λb o e=>k b o (OP e) e)
theorem jk(hc:X.calm=OA)(I:Inv X pins σ H s)(hS:c6 X.prog X.w s.heap S (cq X.w) D)(Ez:D.length<64)
  (q:∀p,H p=OB->Q (.ref p) (upd H p (.lst ((aF D).map V.str)))):OK (OU X.prog X.w) X.A (Rm (.builtin "sorted") [.ref S]) (EP X pins σ Q) X.xe s:=by
 have hh:X.A.handled=OB:=I.ok.hd hc;have hl:D.length<=OG:=Rw (OY Ez (by decide));refine cZ (lV (A:=X.A.in1) (by simpa using hh) hS hl λvs ys h' d' tk hp hv hsz LY hk=>⟨ys,hv,by rw[fD hv,hp.length_eq];exact Ez,λh2 CV e k2 at2 s2=>?_⟩);rw[lM hp]at s2;have I1:Inv X pins σ H {s with heap:=h',toks:=tk}:=I.kept (t':=tk) hk;have I2:Inv X pins σ H {s with heap:=h',drawn:=d',toks:=tk}:=I1.drawn d';exact⟨.ref h'.objs.size,_,I2.laid (t':=tk) (o:=.lst ((aF D).map V.str)) k2 (ON _) ⟨by rw[OJ,bP];exact hl,CV,e,cA s2,at2⟩,rfl,q _ (I2.B0.fresh (ON _))⟩
theorem nA(I:Inv X pins σ H s)(hS:c6 X.prog X.w s.heap S (cq X.w) D)
  (q:Q (.int D.length) H):OK (OU X.prog X.w) X.A (Rm (.builtin "len") [.ref S]) (EP X pins σ Q) X.xe s:=by
 obtain⟨L,es,ep,t,ho,EA,CJ,CZ,hf,hb,Ed,Dv⟩:=hS;have hlen:es.size=D.length:=by rw[<-O9,EA,OJ,<-OJ (f:=Prod.fst) (as:=L),CJ.length_eq]
 have Dj:es.size<4096:=hb;refine call_len_set ho ⟨rfl,rfl,rfl⟩ rfl hf ⋯ ?_;exact⟨.int es.size,_,I.kept (t':=s.toks+1+1) (λ_ _ e=>e),⟨_,rfl⟩,by rw[hlen];exact q⟩
end
theorem nB:UW (.type "list_reverseiterator") "__len__"=pure OB:=by rw[R6,Q3];kernel_rfl
theorem sr:UW (.type "list_reverseiterator") "__length_hint__"=pure (Od (.builtin "list_reverseiterator.__length_hint__")):=by rw[R6,Q3];kernel_rfl
theorem kD:Rz (.type "list_reverseiterator") (.type "list_reverseiterator")=pure OA:=by rw[P'];kernel_rfl
section
variable{I:OS}{fp wr:List OS}{G:Array VU->Array VU->Prop}{n:Nat}{P:Nat->OH->Prop}{St:Nat->OR->Prop}
theorem ix(W:U0 prog w A.in1 I fp wr G n P St)(hT:∀i s,St i s->s.TypeIs (.ref I) "list_reverseiterator")(S:OS)(res:OH)(c₀:Nat)(B_:St 0 s)(DO:S∉fp)(hI:I∈fp)
  (hS:s.heap.get? S=Od {cls:=.type "list",data:=.seq #[] c₀})
  (hR:∀s' Cw c',WH (S::wr) G s s'->s'.heap.get? S=Od {cls:=.type "list",dict:=OB,data:=.seq Cw c',slots:=#[]}->UP P Cw n->R (.ok (.ret res)) s') (hn:n<=OG) :
  OK (OU prog w) A.in1 (Ph (.ref S) (.ref I) res)
   (λfin s'=>match fin with|.done f=>R (.ok f) s'|.again c'=>c'.quiet=OA/\RU (OU prog w) A c' R s') (λe s'=>R (.error e) s') s:=by
 have MY:S≠I:=λe=>DO (e▸hI);unfold Ph;refine Oz (Rg (hT 0 _ B_) ?_);have h1:QX (.ref S) (.ref I)=OE:=by simp[QX,MY]
 have h2:(Pj "list_reverseiterator"==Pj "list")=OE:=by decide
 have h3:(Pj "list_reverseiterator"==Pj "tuple")=OE:=by decide
 simp only[h1,h2,h3,Rf,Pc,Xx];refine Oz (W.self 0 _ _ _ B_ ?_);refine Oz (PJ ?_);unfold S9;refine Oz (QY (hT 0 _ B_) nB ?_);show OK _ A.in1 (specialOf (O0 I) (Q9 "__length_hint__") >>= _) _ _ _;refine Oz (QY (hT 0 _ B_) sr ?_);have DE:splitId "list_reverseiterator.__length_hint__"=Od ("list_reverseiterator","__length_hint__"):=by decide +kernel
 dsimp only
 rw[DE]
 dsimp only
 refine Oz (QO (hT 0 _ B_) kD ?_);rw[Xu (by decide)];rw[Xs (by decide +kernel)];rw[Xu (by decide +kernel)];refine OF ?_;rw[Xu (by decide +kernel)];refine OF ⟨Ro PySem.F.plain_extend_loop _,VR W hn _ DO _ n 0 _ _ _ rfl (O_ _) B_ hS (V9 P) λs' Cw c' hm Dd Cj=>?_⟩;exact hR s' Cw c' hm Dd Cj
theorem jl(W:U0 prog w A.in1 I fp wr G n P St)(hT:∀i s,St i s->s.TypeIs (.ref I) "list_reverseiterator")(S:OS)(B_:St 0 s)(DO:S∉fp)(hI:I∈fp)
  (hS:s.heap.get? S=Od {cls:=.type "list",data:=.seq #[]})
  (hR:∀s' Cw c',WH (S::wr) G s s'->s'.heap.get? S=Od {cls:=.type "list",dict:=OB,data:=.seq Cw c',slots:=#[]}->UP P Cw n->R (.ok (.ret .none)) s') (hn:n<=OG) :
  OK (OU prog w) A.in1 (Ri.«list.__init__» ⟨[.ref S,.ref I],[]⟩)
   (λfin s'=>match fin with|.done f=>R (.ok f) s'|.again c'=>c'.quiet=OA/\RU (OU prog w) A c' R s') (λe s'=>R (.error e) s') s:=by
 show OK _ A.in1 (do let old <-TJ (.ref S);W5 (.ref S) (λ_=>#[]);letGo old.toList.reverse;Ph (.ref S) (.ref I) .none) _ _ s;refine Oz ?_;unfold TJ;refine Oz (RF hS rfl (OF ?_));show OK _ A.in1 (WQ S (λ_=>#[]) >>= λ_=>letGo (#[]:Array OH).toList.reverse >>= λ_=>Ph (.ref S) (.ref I) .none) _ _ s;refine Oz (R5 hS rfl ?_);have MZ:=PH (Pd (λ_=>(#[]:Array OH))) hS rfl;have CW:∀b o,b≠S->s.heap.get? b=Od o->(s.heap.update S (Pd (λ_=>(#[]:Array OH)))).get? b=Od o :=
  λb o hb e=>(QK _ _ (Qa hb)).trans e
 refine Oz (wpAny_letGo ?_);refine ix W hT S .none _ (W.frame 0 s _ s.toks B_ (ON _) λb hb o e=>CW b o (λh=>DO (h▸hb)) e) DO hI MZ (λs' Cw c' hm Dd Cj=>?_) hn;exact hR s' Cw c' (WG W.gtrans ((Moved.refl W.grefl).then_heap (ON _) λb o hb e=>CW b o (λh=>hb (h▸PB)) e) hm) Dd Cj
theorem lW(W:U0 prog w A.in1.in1 I fp wr G n P St)(hT:∀i s,St i s->s.TypeIs (.ref I) "list_reverseiterator")(B_:St 0 s)(Gh:∀b∈fp,b<s.heap.objs.size)(hI:I∈fp)
  (hQ:∀s' Cw c',WH (s.heap.objs.size::wr) G {s with heap:=s.heap.push {cls:=.type "list",data:=.seq #[]}} s' ->
   s'.heap.get? s.heap.objs.size=Od {cls:=.type "list",dict:=OB,data:=.seq Cw c',slots:=#[]}->UP P Cw n->Q (.ref s.heap.objs.size) s') (hn:n<=OG) :
  OK (OU prog w) A (Rm (.type "list") [.ref I]) Q E s:=by
 have DO:s.heap.objs.size∉fp:=λhm=>PD _ (Gh _ hm);refine Xg (Q₁:=λobj s₁=>obj=.ref s.heap.objs.size/\s₁={s with heap:=s.heap.push {cls:=.type "list",data:=.seq #[]}}) PySem.F.called_list (PySem.F.typeCall_list_1 _) PySem.F.entry_list_init
  (code_list_new _ ⟨rfl,rfl⟩) λobj s₁ h₁=>?_
 obtain⟨rfl,rfl⟩:=h₁;have hS:(s.heap.push {cls:=.type "list",data:=.seq #[]}).get? s.heap.objs.size=Od {cls:=.type "list",data:=.seq #[]}:=OO _ rfl;refine⟨⟨_,hS,rfl⟩,PySem.F.args_list_init_2 _ _,jl W hT _ (W.frame 0 s _ s.toks B_ (ON _) λb _ o e=>OC _ e) DO hI hS (λs' Cw c' hm Dd Cj=>?_) hn⟩;exact⟨rfl,hQ s' Cw c' hm Dd Cj⟩
theorem lX(W:U0 prog w A.in1 I fp wr G n P St)(hT:∀i s,St i s->s.TypeIs (.ref I) "list_reverseiterator")(B_:St 0 s)(Gh:∀b∈fp,b<s.heap.objs.size)(hI:I∈fp)
  (hQ:∀s' acc,WH wr G s s'->UP P acc n->Q acc.toList s') (hn:n<=OG):OK (OU prog w) A (Ua (.ref I)) Q E s:=by
 have DO:s.heap.objs.size∉fp:=λhm=>PD _ (Gh _ hm);unfold Ua;refine Oz (Tf (P1 PySem.F.entry_proto_collect ?_));rw[P0 PySem.F.plain_proto_collect _];show OK _ A.in1 (Vw [] >>= λl=>VT (.builtin "list.__iadd__" ⟨[l,.ref I],[]⟩)) _ _ s;refine Oz (Pe ?_);refine OF ⟨Ro PySem.F.plain_list_iadd _,P1 PySem.F.entry_list_iadd ?_⟩;rw[P0 PySem.F.plain_list_iadd _];have J4:=W.frame 0 s (s.heap.push {cls:=.type "list",data:=.seq ([]:List OH).toArray}) s.toks B_ (ON _) λb _ o e=>OC _ e;show OK _ A.in1 (Ph (.ref s.heap.objs.size) (.ref I) (.ref s.heap.objs.size)) _ _ _;refine ix (R:=λr s'=>match r with
  |.ok (.ret v)=>OK (OU prog w) A (match v with
   |.ref a=>do
    let o <-load a
    match o.data with
    |.seq xs _=>pure xs.toList
    |_=>UA "internal:collect"
   |_=>UA "internal:collect") Q E s'
  |.ok _=>False
  |.error e=>E e s') W hT _ _ 0 J4 DO hI (OO _ rfl) (λs' Cw c' hm Dd Cj=>?_) hn
 show OK _ A (load s.heap.objs.size >>= _) _ _ s';refine Oz (UU Dd ?_);exact OF (hQ s' Cw (Moved.drop_new (o:={cls:=.type "list",data:=.seq ([]:List OH).toArray}) (tk:=s.toks) hm (ON _)) Cj)
open AutoSeq1 (wpAny_loadPart') in
theorem kF(W:U0 prog w A.in1.in1.in1 I fp wr G n P St)(hT:∀i s,St i s->s.TypeIs (.ref I) "list_reverseiterator")(B_:St 0 s)(Gh:∀b∈fp,b<s.heap.objs.size)(hI:I∈fp)
  (hQ:∀s' acc,WH wr G s s'->UP P acc n->Q (.ref s'.heap.objs.size) {s' with heap:=s'.heap.push {cls:=.type "tuple",data:=.seq acc}}) (hsz:n<=OG) :
  OK (OU prog w) A (Rm (.type "tuple") [.ref I]) Q E s:=by
 refine Xg (Q₁:=λobj s₁=>s₁.TypeIs obj "tuple"/\Q obj s₁) PySem.F.called_tuple (PySem.F.typeCall_tuple_1 _) PySem.F.entry_object_init
  (?_) λobj s₁ h₁=>?_
 ·refine UE ?_;show OK _ A.in1.in1 (do WR "tuple.__new__" ⟨[.type "tuple",.ref I],[]⟩;VT (.builtin "tuple.__new__" ⟨[.type "tuple",.ref I],[]⟩)) _ _ s;refine Oz (Tg (PySem.F.newCall_tuple_1 _) (OF ⟨Ro PySem.F.plain_tuple_new _,P1 PySem.F.entry_tuple_new ?_⟩));rw[P0 PySem.F.plain_tuple_new _];have Ee:=sub_tuple_self;have Lg:=init_tuple_lookup;have Of:=madeHere_tuple;have M0:=hT 0 s B_
  wp_walk using Rg M0,lX (hn:=hsz) W hT B_ Gh hI
  intro s' acc hm Cj;show OK _ _ (P7 acc.toList.toArray >>= λv=>ret v) _ _ _;unfold P7;refine Oz (Pe ?_ (by show acc.toList.toArray.size<=OG;simp only[RM];rw[Cj.1];exact hsz));refine OF ?_;have e:acc.toList.toArray=acc:=by simp
  rw[e];exact⟨⟨_,OO _ rfl,rfl⟩,hQ s' acc hm Cj⟩
 ·exact⟨h₁.1,PySem.F.args_object_init_2 obj _,object_init_meets PySem.F.called_tuple.init.lookup PySem.F.called_tuple.made (by decide) prog w A.in1 _ s₁ ⟨h₁.1,rfl,h₁.2⟩⟩
end
section
theorem fF(hit:s.heap.IsTupleIter it l i)
  (hl:s.heap.IsTuple l items) (hx:items[i]?=Od x)
  (hQ:∀h',h'.IsTupleIter it l (i+1)->Qc it s.heap h'->Q x {s with heap:=h' }) :
  OK (OU prog w) A (Qg (.ref it)) Q E s:=by
 obtain⟨o,ho,hc,hd⟩:=id hit;obtain⟨ol,HB,_,nl,J5⟩:=hl;unfold Qg;refine Oz (Qm (name:=Q9 "__next__") hit.typeIs PySem.F.slot_tuple_iterator_next
  (PK PySem.F.slot_tuple_iterator_next hit.typeIs PySem.F.entry_tuple_iterator_next ?_ (PySem.F.args_tuple_iterator_next_1 _)))
 show OK _ _ (Xd (.ref it) 0 >>= _) _ _ s;refine Oz (Ry ho hd (x:=.ref l) rfl ?_);show OK _ _ (if (O0 l==Pa)=OA then _ else _) _ _ s;rw[Xu (show ¬((O0 l==Pa)=OA) from O')];show OK _ _ (Xd (.ref it) 1 >>= _) _ _ s;refine Oz (Ry ho hd (x:=.int i 0) rfl ?_);show OK _ _ (Ut (.ref l) >>= _) _ _ s;refine Oz (RF HB J5 ?_);simp only[Si,hx];refine Oz (QN ho hd (by simp) (OF ⟨x,rfl,OF (hQ _ ?_ (Qb ..))⟩));exact⟨_,PH _ ho (SF (QQ hd _)),(Tw ..).trans hc,by
  rw[QQ hd];simp[PM]⟩
theorem cR(hh:A.handled=OB)
  (hit:s.heap.IsTupleIter it l i) (hl:s.heap.IsTuple l items) (hx:items[i]?=OB)
  (hE:∀h' e,WU it s.heap h'->(∃o,h'.get? e=Od o/\o.cls=.type "StopIteration")->E (.ref e) {s with heap:=h' }) :
  OK (OU prog w) A (Qg (.ref it)) Q E s:=by
 obtain⟨o,ho,hc,hd⟩:=id hit;obtain⟨ol,HB,_,nl,J5⟩:=hl;unfold Qg;refine Oz (Qm (name:=Q9 "__next__") hit.typeIs PySem.F.slot_tuple_iterator_next
  (PK PySem.F.slot_tuple_iterator_next hit.typeIs PySem.F.entry_tuple_iterator_next ?_ (PySem.F.args_tuple_iterator_next_1 _)))
 show OK _ _ (Xd (.ref it) 0 >>= _) _ _ s;refine Oz (Ry ho hd (x:=.ref l) rfl ?_);show OK _ _ (if (O0 l==Pa)=OA then _ else _) _ _ s;rw[Xu (show ¬((O0 l==Pa)=OA) from O')];show OK _ _ (Xd (.ref it) 1 >>= _) _ _ s;refine Oz (Ry ho hd (x:=.int i 0) rfl ?_);show OK _ _ (Ut (.ref l) >>= _) _ _ s;refine Oz (RF HB J5 ?_);simp only[Si,hx];refine Oz (Ra (Oz (QN ho hd (by simp) ?_)));show OK _ _ (Vx (.type "StopIteration") [] >>= _) _ _ _;refine Oz ?_;simp only[Vx,Xb];refine Oz (Pe ?_ (by size_fits));refine Oz (m:=Th _ _) (Tg (a:=Pa) (by first|rfl|(simp only[Th];rfl)) ?_);refine Pe ?_ (by size_fits);simp only[UY];refine Oz (wpAny_handled ?_)
 first|rw[show A.in1.handled=OB from hh]|rw[hh]
 refine Oz (OF (wpAny_throw ?_));exact hE _ _ (((Qb ..).extBut.push _).push _) ⟨_,OO _ rfl,rfl⟩
end
theorem lY(hh:A.handled=OB)(it l:OS)(C7:l≠it)(items:Array OH):
  Draws prog w A it [it,l] items.size (λi v=>items[i]?=Od v) (λi h=>h.IsTupleIter it l i/\h.IsTuple l items) where
 live:=λ_ _ st=>let ⟨o,ho,_⟩:=st.1;⟨o,ho⟩
 frame:=λ_ _ _ st hk=>⟨st.1.at λo e=>hk it (by simp) o e,let ⟨o,ho,r⟩:=st.2;⟨o,hk l (by simp) o ho,r⟩⟩
 item:=λi s Q E hi st hQ=>by
  refine fF st.1 st.2 (x:=items[i]) (by simp[hi]) λh' DP G1=>?_;exact hQ _ h' s.toks (by simp[hi]) ⟨DP,let ⟨o,ho,r⟩:=st.2;⟨o,(G1.2 l C7).trans ho,r⟩⟩ G1
 done:=λs Q E st hE=>cR hh st.1 st.2 (by simp) hE
open AutoSeq1 (wpAny_loadPart') in
theorem iy(l:OS)(items:Array OH)(n:Nat)(J6:Option OS)(sl:Array (Option OH)):
  Meets (Ri.«enumerate.__new__» ⟨[.type "enumerate",.ref l],[]⟩) (λ_ R s=>s.heap.get? l=Od {cls:=.type "tuple",dict:=J6,data:=.seq items n,slots:=sl} /\
   R (.ok (.ret (.ref (s.heap.push {cls:=.type "tuple_iterator",data:=.fields #[.ref l,.int 0 0]}).objs.size)))
    {s with heap:=(s.heap.push {cls:=.type "tuple_iterator",data:=.fields #[.ref l,.int 0 0]}).push {cls:=.type "enumerate",data:=.fields #[.none,.bool OE,.ref s.heap.objs.size,PM 0,.none,.none]}}) :=
 .of_wp λprog w A R s h=>by
  obtain⟨hp,g,d,tk,os⟩:=s;obtain⟨hl,h⟩:=h;have Ee:=sub_enumerate;have hL:Heap.IsTuple (Shared.heap ⟨hp,g,d,tk,os⟩) l items:=⟨_,hl,rfl,n,rfl⟩
  wp_walk using SY hl
  refine wpAny_stack_any λst=>OF ?_;split
  ·rename_i c _ _ _ _ _;cases(c==Pj "enumerate")
   ·wp_walk using SY hl,Rr hL
    exact⟨_,rfl,h⟩
   ·wp_walk using SY hl,Rr hL
    exact⟨_,rfl,h⟩
  ·wp_walk using SY hl,Rr hL
   exact⟨_,rfl,h⟩
section
theorem dB(hL:s.heap.IsTuple l items)
  (h:∀h',VA h' (s.heap.objs.size+1) s.heap.objs.size 0 .none->h'.IsTupleIter s.heap.objs.size l 0->h'.objs.size=s.heap.objs.size+2 ->
   (∀b o,s.heap.get? b=Od o->h'.get? b=Od o)->Q (.ref (s.heap.objs.size+1)) {s with heap:=h' }) :
  OK (OU prog w) A (Rm (.type "enumerate") [.ref l]) Q E s:=by
 obtain⟨⟨c,J6,dt,sl⟩,hl,hc,n,hd⟩:=hL
 replace hc:c=.type "tuple":=hc
 replace hd:dt=.seq items n:=hd
 subst hc hd;refine callType_new PySem.F.called_enumerate (by decide) (PySem.F.typeCall_enumerate_1 _) (PySem.F.newCall_enumerate_1 _) (λobj=>PySem.F.args_object_init_2 obj _) PySem.F.entry_enumerate_new
  (iy l items n J6 sl) ⟨hl,?_⟩
 have hz:(s.heap.push {cls:=.type "tuple_iterator",data:=.fields #[.ref l,.int 0 0]}).objs.size=s.heap.objs.size+1:=Uk ..;show _/\_;rw[hz];have he:VA ((s.heap.push {cls:=.type "tuple_iterator",data:=.fields #[.ref l,.int 0 0]}).push
   {cls:=.type "enumerate",data:=.fields #[.none,.bool OE,.ref s.heap.objs.size,PM 0,.none,.none]}) (s.heap.objs.size+1) s.heap.objs.size 0 .none:=by
  have:=OO (s.heap.push {cls:=.type "tuple_iterator",data:=.fields #[.ref l,.int 0 0]})
   (o:={cls:=.type "enumerate",data:=.fields #[.none,.bool OE,.ref s.heap.objs.size,PM 0,.none,.none]}) rfl
  rw[hz]at this;exact this
 refine⟨⟨_,he,rfl⟩,h _ he ⟨_,OC _ (OO _ rfl),rfl,rfl⟩ (by rw[Uk,hz]) λb o x=>OC _ (OC _ x)⟩
end
end L2
namespace L2
open PySem PySem.Spec PyProof.Rows
section
theorem Inv.kG{ch:List OS}(I:Inv X pins σ H s)(hf:∀b∈ch,fj X pins H b)(k:∀b o,b∉ch->s.heap.get? b=Od o->h'.get? b=Od o):Inv X pins σ H {s with heap:=h',toks:=t' }:=by
 have Hb:∀b u,H b=Od u->b∉ch:=λb u e z=>by rw[(hf b z).1]at e;cases e
 refine I.step (g':=s.gens) (d':=s.drawn) (ch:=ch) (λb hb=>?_) (λb o _ _ hc e _=>k b o hc e) (λb o _ _ hc e _=>⟨o.slots,k b o hc e⟩) (λ_ _ _ _ n=>n)
  (λb o hc e=>⟨o,k b o hc e⟩) (λ_ _ e=>e) (λ_ _ _ e=>e) (λb ps e=>⟨#[],by rw[e];simp⟩) (λm hm=>?_) (λb u e=>?_) I.bare
 ·obtain⟨f0,f1,f2,f3,f4,f5⟩:=hf b hb;exact⟨f3,f1,f4,f5⟩
 ·obtain⟨o,es,ep,ho,r⟩:=hm;exact⟨o,es,ep,k _ o (λz=>(hf _ z).2.1 rfl) ho,r⟩
 ·refine(I.B0 b u e).j3 (λc v hc q=>k c v ?_ q) (λ_ q=>q) λ_ _ q=>q;rcases hc with z|z
  ·rw[z];exact Hb b u e
  ·exact Hb c _ z
theorem Inv.iz{ch:List OS}(I:Inv X pins σ H s)(hf:∀b∈ch,fj X pins H b)(k:∀b o,b∉ch->s.heap.get? b=Od o->h'.get? b=Od o)(hT:s.heap.objs.size<=T)(new:aY X.prog X.w (upd H T o) h' T o):
  Inv X pins σ (upd H T o) {s with heap:=h',toks:=t' }:=by
 have I1:Inv X pins σ H {s with heap:=h',toks:=t' }:=I.kG hf k;have hn:H T=OB:=I.B0.fresh hT;have nT:∀b o,s.heap.get? b=Od o->b≠T:=λb o e z=>by rw[z]at e;exact absurd (OY (OP e) hT) (PD _)
 have nH:∀b u,H b=Od u->b≠T:=λb u e z=>by rw[z,hn]at e;cases e
 refine I.step (g':=s.gens) (d':=s.drawn) (ch:=ch) (λb hb=>?_) (λb o _ _ hc e _=>k b o hc e) (λb o _ _ hc e _=>⟨o.slots,k b o hc e⟩) (λb o _ e n=>by rw[ao (nT b o e)];exact n)
  (λb o hc e=>⟨o,k b o hc e⟩) (λb _ e=>by rw[ao (nH b _ e)];exact e) (λb _ _ e=>by rw[ao (nH b _ e)];exact e) (λb ps e=>⟨#[],by rw[ao (nH b _ e),e];simp⟩) (λm hm=>?_) (λb u e=>?_) I.bare
 ·obtain⟨f0,f1,f2,f3,f4,f5⟩:=hf b hb;exact⟨f3,f1,f4,f5⟩
 ·obtain⟨o,es,ep,ho,r⟩:=hm;exact⟨o,es,ep,k _ o (λz=>(hf _ z).2.1 rfl) ho,r⟩
 ·by_cases hb:b=T
  ·subst hb;rw[av]at e;cases e;exact new
  ·rw[ao hb]at e;exact(I1.B0 b u e).j3 (λc v _ q=>q) (λc q=>by rw[ao (nH c _ q)];exact q) λc xs q=>by rw[ao (nH c _ q)];exact q
end
def G2(Sq:Hp->List V->Prop):It :=
 ⟨λi H=>∃xs x,Sq H xs/\xs[i]?=Od x,λi H x H'=>∃p,H p=OB/\x=.ref p/\∀xs v,Sq H xs->xs[i]?=Od v->H'=upd H p (.tup [.int i,v]),λi H=>∃xs,Sq H xs/\xs.length<=i⟩
theorem jC{K:PySem.W.Frag}(Sq:Hp->List V->Prop)(a e it:OS)(Gi:e≠it)(At:Nat->Qk->Prop)(Is:Qk->Array OH->Prop)
  (El:∀i h h',At i h->(∀o,h.get? it=Od o->h'.get? it=Od o)->At i h') (Lh:∀i h,At i h->∃o,h.get? it=Od o/\∀v,o.data≠.cell v)
  (IU:∀(X:Cx) (pins:List (OS×Obj)) (s:OR) (σ:St) (H:Hp) (xs:List V),X.K=K->Inv X pins σ H s->Sq H xs->∃A':List OH,Vals xs A'/\Is s.heap A'.toArray)
  (J7:∀(X:Cx) (pins:List (OS×Obj)) (s:OR) (σ:St) (H:Hp) (xs ys:List V),X.K=K->Inv X pins σ H s->Sq H xs->Sq H ys->xs=ys)
  (M1:∀h items i old,Is h items->VA h e it i old->e≠a)
  (hD:∀(A:QW) (items:Array OH),A.handled=OB->Draws P w A it [it,a] items.size (λi v=>items[i]?=Od v) (λi h=>At i h/\Is h items))
  (Fe:∀(A:QW) (s:OR) (i:Nat) (items:Array OH) (Q:OH->OR->Prop) (E:OH->OR->Prop),A.handled=OB->At i s.heap->Is s.heap items->items[i]?=OB ->
   (∀h' x,WU it s.heap h'->(∃o,h'.get? x=Od o/\o.cls=.type "StopIteration")->E (.ref x) {s with heap:=h' })->OK (OU P w) A (Qg (.ref it)) Q E s) :
  Turn P w K (.Tuple es kx ps) (G2 Sq) [e,it] e (λi h=>(∃old,VA h e it i old)/\At i h) where
 mem:=by simp
 obj:=λi h st b hb=>by
  obtain⟨⟨old,he⟩,hl⟩:=st;rcases OV.mp hb with z|z
  ·rw[z];exact⟨_,he,λv z=>by
    have z':SG _=UH v:=z;cases z'⟩
  ·rw[O1.mp z];exact Lh i h hl
 keep:=λi h h' ⟨⟨old,he⟩,hl⟩ k=>⟨⟨old,k e (by simp) _ he⟩,El i h h' hl λo q=>k it (by simp) o q⟩
 item:=by
  intro X hP hw hK hc i pins s σ H E I hf ⟨⟨old,he⟩,hl⟩ hg;subst hP hw;obtain⟨xs,x,hq,hx⟩:=hg;obtain⟨A',rv,p⟩:=IU X pins s σ H xs hK I hq;obtain⟨u,hu,ru⟩:=rv.get hx;have Ce:i<A'.toArray.size:=by simpa using(OT.mp hu).1
  have D:=hD X.A.in1 A'.toArray (by simpa using I.ok.hd hc);have J8:=M1 _ _ _ _ p he;refine wpAny_pyNext_enum_itemD D he ⟨hl,p⟩ Ce Gi (by simp[Gi,J8]) λy h1 tk hy ho st1 hT hsz hk=>?_;have ey:y=u:=by
   have:A'.toArray[i]?=Od u:=by simpa using hu
   rw[this]at hy;cases hy;rfl
  subst ey;refine⟨_,rfl,wpAny_letOwnedTupleGo_enum (s:={s with heap:=h1,toks:=tk+1}) ho λh2 IV EY=>?_⟩;have Li:e<s.heap.objs.size:=OP he;have J9:h2.get? s.heap.objs.size=Od {cls:=.type "tuple",data:=.seq #[.int i tk,y]}:=(EY.2 _ (QA Li)).trans hT;have k2:∀b o,b∉[e,it]->s.heap.get? b=Od o->h2.get? b=Od o:=λb o hb q=>by
   simp only[OV,So,or_false,not_or]at hb;exact(EY.2 b hb.1).trans (hk b o hb.1 hb.2 q)
  have I2:Inv X pins σ (upd H s.heap.objs.size (.tup [.int i,x])) {s with heap:=h2,toks:=tk+1}:=I.iz hf k2 (ON _)
   (show aY X.prog X.w _ h2 _ (.tup [.int i,x]) from⟨by show 2<=OG;decide,[.int i tk,y],.cons ⟨tk,rfl⟩ (.cons ru .nil),⟨_,J9,rfl,_,rfl⟩⟩)
  refine⟨.ref s.heap.objs.size,_,I2,rfl,⟨_,I.B0.fresh (ON _),rfl,λys v hy hv=>?_⟩,⟨⟨_,IV⟩,El (i+1) h1 h2 st1.1 λo q=>(EY.2 it (Qa Gi)).trans q⟩,λb hb=>?_⟩
  ·have:=J7 X pins s σ H ys xs hK I hy hq;subst this;rw[hx]at hv;cases hv;rfl
  ·have Dj:b≠s.heap.objs.size:=by
    rcases OV.mp hb with z|z
    ·rw[z];exact OW Li
    ·rw[O1.mp z];obtain⟨o,q,_⟩:=Lh i _ hl;exact OW (OP q)
   rw[ao Dj];exact(hf b hb).1
 done:=by
  intro X hP hw hK hc i pins s σ H E I hf ⟨⟨old,he⟩,hl⟩ hg;subst hP hw;obtain⟨xs,hq,hx⟩:=hg;obtain⟨A',rv,p⟩:=IU X pins s σ H xs hK I hq;have hlen:=rv.length;have hT:s.TypeIs (.ref e) "enumerate":=⟨_,he,rfl⟩
  unfold SO;refine Oz (wpAny_attempt (Qm (name:=Q9 "__next__") hT PySem.F.slot_enumerate_next
   (PK PySem.F.slot_enumerate_next hT PySem.F.entry_enumerate_next ?_ (PySem.F.args_enumerate_next_1 _))))
  show OK _ _ (Xd (.ref e) 2 >>= _) _ _ _;refine Oz (Ry he rfl (x:=.ref it) rfl ?_);refine Oz (Fe _ _ i A'.toArray _ _ (by simpa using I.ok.hd hc) hl p (by simp;omega) λh' x JP Hq=>?_);obtain⟨o,ho,IT⟩:=Hq;refine Oz (QO (T:="StopIteration") (b:=OA) ⟨o,ho,IT⟩ Xc ?_);refine OF ⟨rfl,I.kG (t':=s.toks) (ch:=[it]) (λb hb=>hf b (Py _ hb)) λb o hb q=>JP b o (λz=>hb (by simp[z])) q⟩
 self:=λA i s Q E ⟨⟨old,he⟩,hl⟩ h=>T4 he h
section
variable{X:Cx}{es:List Pw}{kx:Nat}{ps p pos:Pos}
theorem qz:Qh "enumerate"=Od (.type "enumerate"):=by decide +kernel
def BN(K:PySem.W.Frag)(ta:TA):TI:=λσ H R=>ta σ H λvs H1=>∃a,vs=[.ref a]/\((∃xs,Cn K H1 a xs)/\R (G2 λH xs=>Cn K H a xs) H1\/(∃xs,Ci K H1 a xs)/\R (G2 λH xs=>Ci K H a xs) H1)
theorem yt(a e it:OS)(Gi:e≠it)(Hx:a≠it):Turn X.prog X.w X.K (.Tuple es kx ps) (G2 λH xs=>Cn X.K H a xs) [e,it] e (λi h=>(∃old,VA h e it i old)/\h.IsListIter it a i):=by
 refine jC _ a e it Gi (λi h=>h.IsListIter it a i) (λh items=>h.IsList a items) (λi h h' x k=>x.at k) (λi h ⟨o,ho,hc,hd⟩=>⟨o,ho,λv z=>by rw[hd]at z;cases z⟩)
  (λY pins s σ H xs hK I hq=>?_) (λY pins s σ H xs ys hK I hx hy=>?_) (λh items i old ⟨o,ho,hc,_⟩ he z=>?_) (λA items hh=>Draws.list hh it a Hx items) (λA s i items Q E hh hl hp hx hE=>wpAny_nextOf_list_end hh hl hp hx hE)
 ·rw[<-hK]at hq;obtain⟨A',rv,p,hz⟩:=I.list hq;exact⟨A',rv,p.isList⟩
 ·rw[<-hK]at hx hy;exact I.ly hx hy
 ·rw[<-z,he]at ho;cases ho;have GN:Pj "enumerate"=Pj "list":=hc;exact absurd GN (by decide)
theorem yu(a e it:OS)(Gi:e≠it)(Hx:a≠it):Turn X.prog X.w X.K (.Tuple es kx ps) (G2 λH xs=>Ci X.K H a xs) [e,it] e (λi h=>(∃old,VA h e it i old)/\h.IsTupleIter it a i):=by
 refine jC _ a e it Gi (λi h=>h.IsTupleIter it a i) (λh items=>h.IsTuple a items) (λi h h' x k=>x.at k) (λi h ⟨o,ho,hc,hd⟩=>⟨o,ho,λv z=>by rw[hd]at z;cases z⟩)
  (λY pins s σ H xs hK I hq=>?_) (λY pins s σ H xs ys hK I hx hy=>?_) (λh items i old ⟨o,ho,hc,_⟩ he z=>?_) (λA items hh=>lY hh it a Hx items) (λA s i items Q E hh hl hp hx hE=>cR hh hl hp hx hE)
 ·rw[<-hK]at hq;obtain⟨A',rv,p,hz⟩:=I.tuple hq;exact⟨A',rv,p⟩
 ·rw[<-hK]at hx hy;exact I.jq hx hy
 ·rw[<-z,he]at ho;cases ho;have GN:Pj "enumerate"=Pj "tuple":=hc;exact absurd GN (by decide)
theorem vG(hg:Gl X "enumerate")(hm:X.mg "enumerate"=OB)(ha:PA X [a] ta)(hs:O4 [a] X.env=[(OE,Qx a X.env)]):PI X (.Tuple es kx ps) (.Call (.Name "enumerate" p) [a] [] pos) (BN X.K ta):=by
 intro pins s σ H R I h;refine Call_ (dv I hg hm qz (QG (B6 (ha pos pins s σ H _ I h) λus s1 ⟨vs,H1,I1,r1,q1⟩=>?_) hs rfl));obtain⟨a',e,q⟩:=q1;subst e;obtain⟨u,rfl,r⟩:=vals1 r1;cases r;have ne1:s1.heap.objs.size+1≠s1.heap.objs.size:=Nat.succ_ne_self _;have fin:∀(h':Qk),(∀b∈[s1.heap.objs.size+1,s1.heap.objs.size],fj X pins H1 b):=λh' b hb=>by
  have Dj:s1.heap.objs.size<=b:=by
   rcases OV.mp hb with z|z
   ·rw[z];exact Qo _
   ·rw[O1.mp z];exact ON _
  exact I1.rH Dj (I1.B0.fresh Dj)
 rcases q with⟨⟨xs,hq⟩,q⟩|⟨⟨xs,hq⟩,q⟩
 ·obtain⟨A',rv,p,hz⟩:=I1.list hq;have Ce:a'<s1.heap.objs.size:=let ⟨o,ho,_⟩:=p.isList;OP ho;refine call_enumerate_list p.isList λh' he hl hsz hk=>?_;refine T4 he ⟨_,[s1.heap.objs.size+1,s1.heap.objs.size],_,_,H1,rfl,I1.kept (t':=s1.toks) hk,yt a' _ _ ne1 (OW Ce),⟨⟨_,he⟩,hl⟩,fin h',q⟩
 ·obtain⟨A',rv,p,hz⟩:=I1.tuple hq;have Ce:a'<s1.heap.objs.size:=let ⟨o,ho,_⟩:=p;OP ho;refine dB p λh' he hl hsz hk=>?_;refine T4 he ⟨_,[s1.heap.objs.size+1,s1.heap.objs.size],_,_,H1,rfl,I1.kept (t':=s1.toks) hk,yu a' _ _ ne1 (OW Ce),⟨⟨_,he⟩,hl⟩,fin h',q⟩
end
theorem oV{A':List OH}(h:UP (λi v=>A'.toArray[A'.toArray.size - 1 - i]?=Od v) acc A'.toArray.size):acc.toList=A'.reverse:=by
 apply VH;intro i;have hs:acc.size=A'.length:=by have:=h.1;simpa using this
 by_cases hi:i<A'.length
 ·have C3:i<acc.size:=by omega
  have:=h.2 i (acc[i]'C3) (by simp[C3]);rw[PF,Array.getElem?_eq_getElem C3,List.getElem?_reverse hi];simpa using this.symm
 ·rw[RE (by rw[O9];omega),RE (by rw[RQ];omega)]
section
theorem lZ(hc:X.calm=OA)(I:Inv X pins σ H s)(hq:Cn X.K H a xs)
  (h:∀A',Vals xs A'->xs.length<=OG->∀(R:OS) (h1:Qk),R=s.heap.objs.size->h1.objs.size=s.heap.objs.size+1->(∀b o,s.heap.get? b=Od o->h1.get? b=Od o)->(∀B:QW,B.handled=X.A.handled ->
   Walks X.prog X.w B R [R,a] [R] A'.toArray.size (λi v=>A'.toArray[A'.toArray.size - 1 - i]?=Od v) (λi h=>i<=A'.toArray.size/\h.IsRevIter R a ((A'.toArray.size:Int) - 1 - (i:Int))/\h.IsList a A'.toArray)) ->
   h1.IsRevIter R a ((A'.toArray.size:Int) - 1 - ((0:Nat):Int))->h1.IsList a A'.toArray->a<s.heap.objs.size->Q (.ref R) {s with heap:=h1}):OK (OU X.prog X.w) X.A (Rm (.type "reversed") [.ref a]) Q X.xe s:=by
 obtain⟨A',rv,p,hz⟩:=I.list hq;have Ce:a<s.heap.objs.size:=let ⟨o,ho,_⟩:=p.isList;OP ho;refine call_reversed_list p.isList (h A' rv hz _ _ rfl (by rw[Qy]) (λb o e=>OC _ e) (λB hB=>Walks.listRev (by rw[hB];exact I.ok.hd hc) _ a (OW Ce) A'.toArray) ?_ (p.isList.push _) Ce);refine⟨_,OO _ rfl,rfl,?_⟩;show SG _=SG _;congr 3
 simp
theorem qA(hc:X.calm=OA)(I:Inv X pins σ H s)(hq:Cn X.K H a xs)(q:∀l,H l=OB->Q (.ref l) (upd H l (.tup xs.reverse))):
  OK (OU X.prog X.w) X.A (Rm (.type "reversed") [.ref a]) (λv s1=>OK (OU X.prog X.w) X.A (Rm (.type "tuple") [v]) (EP X pins σ Q) X.xe s1) X.xe s:=by
 refine lZ hc I hq λA' rv hz R h1 hR hsz hk hW hr hl Ce=>?_;have el:A'.length=xs.length:=rv.length.symm;refine kF (s:={s with heap:=h1}) (hW X.A.in1.in1.in1 rfl).toS (λi s st=>st.2.1.typeIs) ⟨O_ _,hr,hl⟩ (λb hb=>?_) (by simp) (λs' acc hm Cj=>?_) (by simp;omega)
 ·show b<h1.objs.size;rw[hsz];rcases OV.mp hb with z|z
  ·rw[z,hR];exact QH _
  ·rw[O1.mp z];exact Rv Ce
 ·obtain⟨h2,g2,d2,t2,o2⟩:=s';have eg:g2=s.gens:=hm.gens;have ed:d2=s.drawn:=hm.drawn;have eo:o2=s.os:=hm.os;subst eg ed eo;have k2:∀b o,s.heap.get? b=Od o->h2.get? b=Od o:=λb o e=>hm.heap b o (λz=>by
   rw[O1.mp z,hR]at e;exact absurd (OP e) (PD _)) (hk b o e)
  have I1:Inv X pins σ H {s with heap:=h2,toks:=t2}:=I.kept k2;have ea:=oV Cj;have I2:Inv X pins σ (upd H h2.objs.size (.tup xs.reverse)) {s with heap:=h2.push {cls:=.type "tuple",data:=.seq acc},toks:=t2} :=
   I1.laid (t':=t2) (λb o e=>OC _ e) (ON _) (show aY X.prog X.w _ _ _ (.tup xs.reverse) from⟨by rw[RQ];exact hz,A'.reverse,rv.reverse,by rw[<-ea,RM];exact TB _ _⟩)
  exact⟨.ref h2.objs.size,_,I2,rfl,q _ (I1.B0.fresh (ON _))⟩
theorem su(hc:X.calm=OA)(I:Inv X pins σ H s)(hq:Cn X.K H a xs)(q:∀l,H l=OB->Q (.ref l) (upd H l (.lst xs.reverse))):
  OK (OU X.prog X.w) X.A (Rm (.type "reversed") [.ref a]) (λv s1=>OK (OU X.prog X.w) X.A (Rm (.type "list") [v]) (EP X pins σ Q) X.xe s1) X.xe s:=by
 refine lZ hc I hq λA' rv hz R h1 hR hsz hk hW hr hl Ce=>?_;have el:A'.length=xs.length:=rv.length.symm;refine lW (s:={s with heap:=h1}) (hW X.A.in1.in1 rfl).toS (λi s st=>st.2.1.typeIs) ⟨O_ _,hr,hl⟩ (λb hb=>?_) (by simp) (λs' acc c' hm hS Cj=>?_) (by simp;omega)
 ·show b<h1.objs.size;rw[hsz];rcases OV.mp hb with z|z
  ·rw[z,hR];exact QH _
  ·rw[O1.mp z];exact Rv Ce
 ·obtain⟨h2,g2,d2,t2,o2⟩:=s';have eg:g2=s.gens:=hm.gens;have ed:d2=s.drawn:=hm.drawn;have eo:o2=s.os:=hm.os;subst eg ed eo;have k2:∀b o,s.heap.get? b=Od o->h2.get? b=Od o:=λb o e=>hm.heap b o (λz=>by
   have hb:=OP e;rcases OV.mp z with z|z
   ·rw[z]at hb;have Dj:h1.objs.size<s.heap.objs.size:=hb;rw[hsz]at Dj;exact absurd Dj (V3 (QH _))
   ·rw[O1.mp z,hR]at e;exact absurd (OP e) (PD _)) (OC _ (hk b o e))
  have ea:=oV Cj;refine⟨.ref h1.objs.size,_,I.laid (t':=t2) (o:=.lst xs.reverse) k2 (by rw[hsz];exact Qo _) ⟨by rw[RQ];exact hz,A'.reverse,c',rv.reverse,?_⟩,rfl,q _ (I.B0.fresh (by rw[hsz];exact Qo _))⟩;have Dd:h2.get? h1.objs.size=Od {cls:=.type "list",dict:=OB,data:=.seq acc c',slots:=#[]}:=hS;rw[Dd,<-ea,RM]
end
theorem qB(l:OS)(items:Array OH)(n:Nat)(b:OS)(Cm:Array OH)(n2:Nat)(dd:Option OS)(sl:Array (Option OH))(EE:¬(!items.isEmpty&&Qr (items.size+Cm.size))=OA)(FG:items.size<=OG)(EY:items.size+Cm.size<=OG+1):
  Meets (Ri.«list.extend» ⟨[.ref l,.ref b],[]⟩) (λ_ R s=>s.heap.get? l=Od {cls:=.type "list",dict:=OB,data:=.seq items n,slots:=#[]}/\s.heap.get? b=Od {cls:=.type "list",dict:=dd,data:=.seq Cm n2,slots:=sl}/\R (.ok (.ret Pa)) {s with heap:=s.heap.update l (Pd λx=>x++Cm),toks:=s.toks}) :=
 .of_wp λprog w A R s h=>by
  obtain⟨hp,g,d,tk,os⟩:=s;obtain⟨hl,hb,h⟩:=h;have f1:=U7;have f2:=TV;have f3:=Uo;have f4:=Ug;have f5:=Uh;
  have J_:(items++Cm).size<=OG+1:=by rw[Tq];exact EY
  wp_walk using(R5 hl rfl (hz:=FG) (_hz':=J_)),Q5 hl,Q5 hb;exact⟨_,rfl,h⟩
theorem qC(l:OS)(items:Array OH)(n:Nat)(b:OS)(Cm:Array OH)(n2:Nat)(dd:Option OS)(sl:Array (Option OH))(EE:¬(!items.isEmpty&&Qr (items.size+Cm.size))=OA)(FG:items.size<=OG)(EY:items.size+Cm.size<=OG+1):
  Meets (Ri.«list.extend» ⟨[.ref l,.ref b],[]⟩) (λ_ R s=>s.heap.get? l=Od {cls:=.type "list",dict:=OB,data:=.seq items n,slots:=#[]}/\s.heap.get? b=Od {cls:=.type "tuple",dict:=dd,data:=.seq Cm n2,slots:=sl}/\R (.ok (.ret Pa)) {s with heap:=s.heap.update l (Pd λx=>x++Cm),toks:=s.toks}) :=
 .of_wp λprog w A R s h=>by
  obtain⟨hp,g,d,tk,os⟩:=s;obtain⟨hl,hb,h⟩:=h;have f1:=U7;have f2:=TV;have f3:=Uo;have f4:=Ug;have f5:=Uh;
  have J_:(items++Cm).size<=OG+1:=by rw[Tq];exact EY
  wp_walk using(R5 hl rfl (hz:=FG) (_hz':=J_)),Q5 hl,Q5 hb;exact⟨_,rfl,h⟩
section
theorem nE:Hl X "list.extend" (λx vs H Q=>∃l b xs zs,x=.ref l/\vs=[.ref b]/\H l=Od (.lst xs)/\(Cn X.K H b zs\/Ci X.K H b zs)/\xs.length+zs.length<=OG/\Q .BZ (upd H l (.lst (xs++zs)))):=by
 intro pins s σ H x vs v us Q I rx rv h;obtain⟨l,b,xs,zs,rfl,rfl,hH,hB,hz,q⟩:=h;cases rx;obtain⟨u,rfl,ru⟩:=rv.one;cases ru;obtain⟨z,A',n,r,hl,e⟩:=I.rR hH;have fin:∀B8:List OH,Vals zs B8->EP X pins σ Q Pa {s with heap:=s.heap.update l (Pd λx=>x++B8.toArray),toks:=s.toks}:=λB8 r2=>by
  refine⟨.BZ,_,I.gI (its':=A'++B8) hH e (by simp) (r.append r2) ?_,rfl,q⟩;rw[O8];omega
 have sz:∀B8:List OH,zs.length=B8.length->A'.toArray.size+B8.toArray.size<=OG:=λB8 h=>by rw[OL,OL];omega
 have lg:∀B8:List OH,zs.length=B8.length->¬(!A'.toArray.isEmpty&&Qr (A'.toArray.size+B8.toArray.size))=OA:=λB8 h=>by
  rw[rS (sz B8 h),R4];exact O'
 rcases hB with hB|hB
 ·obtain⟨B8,r2,pl,_⟩:=I.list hB;obtain⟨⟨cls,dd,data,sl⟩,ho,hc,n2,hd⟩:=pl.isList;simp only at hc hd;subst hc hd;have Ff:=r2.length;have h1:=sz B8 Ff;exact Rt VV ⟨_,e,rfl⟩ VJ (VB _ _) (qB l A'.toArray n b B8.toArray n2 dd sl (lg B8 Ff) ⋯ ⋯) ⟨e,ho,fin B8 r2⟩
 ·obtain⟨B8,r2,pl,_⟩:=I.tuple hB;obtain⟨⟨cls,dd,data,sl⟩,ho,hc,n2,hd⟩:=pl;simp only at hc hd;subst hc hd;have Ff:=r2.length;have h1:=sz B8 Ff;exact Rt VV ⟨_,e,rfl⟩ VJ (VB _ _) (qC l A'.toArray n b B8.toArray n2 dd sl (lg B8 Ff) ⋯ ⋯) ⟨e,ho,fin B8 r2⟩
end
end L2
namespace L2
open PySem PySem.W PyProof.Rows
section
theorem qD{vs:List (Key×OH)}(hk:vs.map (·.1)=ks.map Pq)(hl:acc.length=vs.length)(h:∀(j:Nat) (v:OH),acc[j]?=Od v->∃k x,vs[j]?=Od (k,x)/\(aJ P w).is k v=OA):RL acc ks:=by
 induction acc generalizing ks vs with
 |nil =>
  cases vs with
  |nil=>cases ks with
   |nil=>exact .nil
   |cons _ _=>cases hk
  |cons _ _=>cases hl
 |cons v acc ih =>
  cases vs with
  |nil=>cases hl
  |cons p vs =>
   cases ks with
   |nil=>cases hk
   |cons k ks =>
    simp only[OQ,Sh]at hk;obtain⟨k',x,e1,e2⟩:=h 0 v rfl;simp only[List.getElem?_cons_zero,RO]at e1;subst e1;have M3:k'=Pq k:=hk.1;subst M3;rcases aN (show gv (Pq k) v=OA from e2) with⟨i,t,e,rfl⟩|⟨y,t,e,rfl⟩
    ·cases e
    ·cases e;exact .cons _ _ (ih hk.2 (by simpa using hl) λj u ej=>h (j+1) u (by simpa using ej))
theorem gb:X.calm=OA->eG X (.builtin "sorted") (λxs H Q=>∃(d:OS) (kvs:List (Key×V)) (ks:List Str),xs=[.ref d]/\H d=Od (.dK kvs)/\kvs.map (·.1)=ks.map Pq/\ks.length<64/\∀q,H q=OB->Q (.ref q) (upd H q (.lst ((aF ks).map V.str)))):=by
 intro hc pins s σ H xs us Q I rs h;obtain⟨d,kvs,ks,rfl,e,hk,Ez,q⟩:=h;obtain⟨u,rfl,r⟩:=vals1 rs;cases r;obtain⟨hz,lo,vs,kv,dd⟩:=xq I.B0 e;have hlen:vs.length=kvs.length:=(Paired.length kv).symm;have M4:kvs.length=ks.length:=by rw[<-OJ (f:=(·.1)),hk,OJ]
 have M5:vs.map (·.1)=ks.map Pq:=by
  rw[<-hk];clear dd hlen hk M4 e q hz;induction kv with
  |nil=>rfl
  |cons r _ ih=>rw[OQ,OQ,ih,r.1]
 obtain⟨o,es,ep,hd⟩:=id dd;have big:(64:Nat)<=OG:=by decide
 refine cZ (kdu_collect (A:=X.A.in1) (kdl_dict (knd:=aJ X.prog X.w) (kvs:=vs) (ep:=ep) lo) (I.ok.hd hc) ⟨o,es,hd⟩ ⋯ λh' tk acc Cv Cj=>⟨ks,qD M5 (by rw[O9];exact Cj.1) (λj v ej=>Cj.2 j v (by rw[<-PF];exact ej)),by rw[O9,Cj.1];omega,λh2 CV e2 k2 at2 s2=>?_⟩);have I1:Inv X pins σ H {s with heap:=h',toks:=tk}:=I.kept (t':=tk) Cv;exact⟨.ref h'.objs.size,_,I1.laid (t':=tk) (o:=.lst ((aF ks).map V.str)) k2 (ON _) ⟨by rw[OJ,bP];omega,CV,e2,cA s2,at2⟩,rfl,q _ (I1.B0.fresh (ON _))⟩
end
section
theorem iA:∀{ns:List Int}{A':List OH},Vals (ns.map V.int) A'->∃ps:List (Int×Tok),A'=ps.map (λp=>Tv p.1 p.2)/\ps.map (·.1)=ns
 |[],_,h=>by cases h;exact⟨[],rfl,rfl⟩
 |n::ns,_,h=>by
  cases h with
  |cons r t =>
   obtain⟨tk,rfl⟩:=r;obtain⟨ps,rfl,rfl⟩:=iA t;exact⟨(n,tk)::ps,rfl,rfl⟩
theorem sv:X.calm=OA->eG X (.builtin "sum") (λxs H Q=>∃(p:OS) (ns:List Int),xs=[.ref p]/\Cn X.K H p (ns.map V.int)/\Q (.int ns.sum) H):=by
 intro hc pins s σ H xs us Q I rs h;obtain⟨p,ns,rfl,hq,q⟩:=h;obtain⟨u,rfl,r⟩:=vals1 rs;cases r;obtain⟨A',rv,pl,hz⟩:=I.list hq;obtain⟨ps,rfl,rfl⟩:=iA rv;have e:(ps.map λp=>Tv p.1 p.2).toArray=intItems ps.toArray:=by simp[intItems]
 refine sum_intListG (xs:=ps.toArray) (I.ok.hd hc) (by rw[<-e];exact pl.isList) λh' tk t' hk=>?_;rw[preSum_eq,QL (by simp)];exact⟨.int _,H,I.kept (t':=tk) hk,⟨t',rfl⟩,q⟩
end
def aG{α:Type}(lt:Nat->Nat->Bool):Xi α->α
 |.ret x=>x
 |.ask i j k=>aG lt (k (lt i j))
def CU{α:Type}(n:Nat)(P:α->Prop):Xi α->Prop
 |.ret x=>P x
 |.ask i j k=>i<n/\j<n/\∀b,CU n P (k b)
theorem CU.G3{P:α->Prop}{Q:β->Prop}{f:α->Xi β}(hf:∀x,P x->CU n Q (f x)):∀{t:Xi α},CU n P t->CU n Q (t.bind f)
 |.ret x,h=>hf x h
 |.ask i j k,h=>⟨h.1,h.2.1,λb=>CU.G3 hf (h.2.2 b)⟩
theorem CU.got:∀{t:Xi α},CU n P t->P (aG lt t)
 |.ret _,h=>h
 |.ask i j k,h=>CU.got (t:=k (lt i j)) (h.2.2 _)
theorem CU.wp(hc:∀i j,i<n->j<n->∀C:Bool->OR->Prop,C (lt i j) s->cmp i j C s):
  ∀{t:Xi α},CU n P t->Q (aG lt t) s->t.kasWp cmp Q s
 |.ret _,_,q=>q
 |.ask i j k,h,q=>hc i j h.1 h.2.1 _ (CU.wp hc (t:=k (lt i j)) (h.2.2 _) q)
def Pm(n:Nat)(p:Array Nat):Prop:=p.toList.Perm (O2 n)
section
variable{n:Nat}(hn:0<n)
include hn
theorem Pm.at(h:Pm n p)(i:Nat):p.getD i 0<n:=by
 by_cases hi:i<p.size
 ·have:p.getD i 0=p[i]:=by simp[Tb,hi]
  rw[this];have hm:p[i]∈p.toList:=by simp
  exact Qs.mp (h.mem_iff.mp hm)
 ·have:p.getD i 0=0:=by simp[Tb,hi]
  rw[this];exact hn
omit hn in
theorem Pm.rev(h:Pm n p)(i j:Nat):Pm n (Sa p i j):=(mirror_perm p i j _).toList.trans h
omit hn in
theorem Pm.Lj(h:Pm n p)(i j:Nat):Pm n (bubble p i j):=(bubble_perm p i j).toList.trans h
theorem nF(h:Pm n p):∀(f m:Nat),CU n (λ_=>True) (RW p f m)
 |0,m=>trivial
 |f+1,m=>⟨h.at hn _,h.at hn _,λb=>by
  cases b
  ·exact nF h f (m+1)
  ·exact trivial⟩
theorem gR:∀(f:Nat) (p:Array Nat) (m q:Nat),Pm n p->CU n (λr=>Pm n r.1) (Tj f p m q)
 |0,p,m,q,h=>h
 |f+1,p,m,q,h=>⟨h.at hn _,h.at hn _,λb=>by
  cases b
  ·exact⟨h.at hn _,h.at hn _,λb=>by
    cases b
    ·exact gR f p (m+1) (q+1) h
    ·exact h⟩
  ·show CU n _ (if q>0 then _ else _);split
   ·exact gR f _ _ _ (h.rev _ _)
   ·exact gR f _ _ _ h⟩
theorem oW(h:Pm n p)(m r:Nat):CU n (λx=>Pm n x.2) (Sf m r p):=by
 unfold Sf;refine CU.G3 (λx _=>?_) (nF hn (h.rev _ _) _ _);exact h.rev _ _
theorem oX(h:Pm n p)(m r:Nat):CU n (λx=>Pm n x.2) (Rh m r p):=by
 unfold Rh;refine CU.G3 (λx hx=>?_) (gR hn _ _ _ _ h);split
 ·exact oW hn (hx.rev _ _) _ _
 ·exact oW hn hx _ _
theorem sy(h:Pm n p)(r:Nat):CU n (λx=>Pm n x.2) (RP r p):=by
 unfold RP;refine CU.G3 (λm _=>?_) (nF hn h _ _);split
 ·exact h
 ·split
  ·exact⟨h.at hn _,h.at hn _,λb=>by
    cases b
    ·exact oX hn (h.rev _ _) _ _
    ·exact h⟩
  ·exact oX hn h _ _
theorem iB(h:Pm n p)(k:Nat):∀(f l r:Nat),CU n (λ_=>True) (RA p k f l r)
 |0,l,r=>trivial
 |f+1,l,r=>by
  unfold RA;split
  ·exact trivial
  ·exact⟨h.at hn _,h.at hn _,λb=>by
    cases b
    ·exact iB h k f _ _
    ·exact iB h k f _ _⟩
theorem sA:∀(f:Nat) (p:Array Nat) (k:Nat),Pm n p->CU n (Pm n) (kas_bin f p k)
 |0,p,k,h=>h
 |f+1,p,k,h=>CU.G3 (λl _=>sA f _ _ (h.Lj _ _)) (iB hn h _ _ _ _)
theorem oY:CU n (Pm n) (Qq n):=by
 unfold Qq;refine CU.G3 (λx hx=>?_) (sy hn (p:=UR (O2 n)) (by unfold Pm;simp) n);split
 ·exact sA hn _ _ _ hx
 ·exact hx
end
theorem iC(lt:Nat->Nat->Bool)(n:Nat):(aG lt (Qq n)).toList.Perm (O2 n):=by
 cases n with
 |zero=>exact List.Perm.refl _
 |succ n=>exact(oY (Nat.succ_pos n)).got
section
theorem qE(ho:s.heap.get? a=Od (PV "list" vs.toArray n))(Ez:vs.length<64)
  (Lk:2<=vs.length->∀s1:OR,(∀b o,b≠a->s.heap.get? b=Od o->s1.heap.get? b=Od o)->OK (OU prog w) A (keyKind' vs.toArray) (λκ s'=>s'=s1/\∀i j,i<vs.length->j<vs.length->∀C:Bool->OR->Prop,C (lt i j) s1->WB prog w A κ vs i j C s1) (λ_ _=>False) s1)
  (h:P (.done (.ret .none)) {s with heap:=Wl s.heap a vs (((aG lt (Qq vs.length)).toList.map λi=>vs.getD i Pa).toArray)}) :
  OK (OU prog w) A (Ri.«list.sort» ⟨[.ref a],[]⟩) P E s:=by
 have ha:a<s.heap.objs.size:=OP ho;have big:(64:Nat)<=OG:=by decide
 rw[list_sort_plain];refine Oz (VE ho rfl (Oz (TK ho rfl ?_ (by rw[OL];omega) (O_ _))));obtain⟨e1,Ef⟩:∃e1,(s.heap.update a (Pd λ_=>(#[]:Array OH))).get? a=Od (PV "list" #[] e1):=⟨_,W6 ho λ_=>#[]⟩
 refine Oz (V1 Ef rfl (Oz (wpAny_newTuple (Oz (Vb (PJ ?_) (O_ _))) (by show vs.length<=_;omega))));have HH:(((s.heap.update a (Pd λ_=>(#[]:Array OH))).push (PV "tuple" vs.toArray 0)).push (PV "list" #[] 0)).get? a=Od (PV "list" #[] e1):=OC _ (OC _ Ef);have old:∀b o,b≠a->s.heap.get? b=Od o->(((s.heap.update a (Pd λ_=>(#[]:Array OH))).push (PV "tuple" vs.toArray 0)).push (PV "list" #[] 0)).get? b=Od o:=λb o hb e =>
  OC _ (OC _ (by rw[Q_ _ _ _ _ hb];exact e))
 show OK (OU prog w) A _ P E {s with heap:=((s.heap.update a (Pd λ_=>(#[]:Array OH))).push (PV "tuple" vs.toArray 0)).push (PV "list" #[] 0)}
 dsimp only
 have HI:((aG lt (Qq vs.length)).toList.map λi=>vs.getD i Pa).length=vs.length:=by rw[OJ,(iC lt _).length_eq,P5]
 by_cases h2:vs.toArray.size<2
 ·rw[Xs h2,Xs h2];refine Oz (OF ?_);rw[StateT.run_pure];refine Oz (OF ?_);have eo:((aG lt (Qq vs.length)).toList.map λi=>vs.getD i Pa).toArray=(vs.toArray.zip vs.toArray).map (·.2):=by
   have hp:=iC lt vs.length;clear h Lk HI old HH ho Ez
   match vs,h2,hp with
   |[],_,hp=>rw[show(aG lt (Qq ([]:List OH).length)).toList=[] from Wn.mp hp];simp
   |[v],_,hp=>rw[show(aG lt (Qq [v].length)).toList=[0] from List.perm_singleton.mp hp];simp
   |_::_::_,h2,_=>simp at h2;omega
  rw[eo]at h
  dsimp only
  refine Oz (V1 HH rfl (Oz (TK HH rfl ?_ (O_ _) (by rw[Array.size_map];show(pairsOf vs).size<=_;rw[pairsOf_size];omega))));simp only[bne_self_eq_false,Pc,Xx];exact OF h
 ·rw[Xu h2,Xu h2];have Ec:2<=vs.length:=by rw[OL]at h2;omega
  refine Oz (PR (Lk Ec _ old) (λκ s0 hk=>?_) λ_ _ x=>x.elim);obtain⟨rfl,hk⟩:=hk;refine Oz (PR (kat_run (κ:=κ) (ks:=vs) (vs:=vs) (G:=λp s'=>p=aG lt (Qq vs.length)/\s'={s with heap:=((s.heap.update a (Pd λ_=>(#[]:Array OH))).push (PV "tuple" vs.toArray 0)).push (PV "list" #[] 0)})
   (Q:=λst' s'=>∃p:Array Nat,arrOf st'=p.map (kas_item (vs.toArray.zip vs.toArray))/\failedOf st'=OB/\p=aG lt (Qq vs.length)/\s'={s with heap:=((s.heap.update a (Pd λ_=>(#[]:Array OH))).push (PV "tuple" vs.toArray 0)).push (PV "list" #[] 0)})
   rfl Ec Ez (λp st' s' a1 a2 a3 a4=>⟨p,a2,a3,a4⟩) (CU.wp hk (oY ⋯) ⟨rfl,rfl⟩)) ?_ λ_ _ e=>e)
  rintro⟨⟨⟩,st'⟩ s' ⟨p,M6,hf,rfl,rfl⟩
  dsimp only
  have J':=kat_snds rfl M6;rw[J',hf];refine Oz (V1 HH rfl (Oz (TK HH rfl ?_ (O_ _) (by rw[OL,HI];omega))));simp only[bne_self_eq_false,Pc,Xx];exact OF h
end
def D7(ks:List Str)(i j:Nat):Bool:=OI ((ks.getD i Pn).cps.toList<(ks.getD j Pn).cps.toList)
def eC(ks:List Str):List Nat:=(aG (D7 ks) (Qq ks.length)).toList
theorem cS(ks:List Str):(eC ks).Perm (O2 ks.length):=iC _ _
section
end
section
end
structure Ll(n:Nat)(lt:Nat->Nat->Bool):Prop where
 tr:∀a b c,a<n->b<n->c<n->lt a b=OA->lt b c=OA->lt a c=OA
 Ka:∀a b,a<n->b<n->a≠b->lt a b=OE->lt b a=OA
def aT(p:Array Nat)(i:Nat):Nat:=p.getD i 0
theorem oZ(h:p[i]?=q[j]?):aT p i=aT q j:=by
 unfold aT;rw[T2,T2,h]
def D8(lt:Nat->Nat->Bool)(p:Array Nat)(m:Nat):Prop:=∀i j,i<j->j<m->lt (aT p i) (aT p j)=OA
def FK(lt:Nat->Nat->Bool)(p:Array Nat)(m:Nat):Prop:=∀i j,i<j->j<m->lt (aT p j) (aT p i)=OA
theorem d6:∀t:Xi α,aG lt (t.bind f)=aG lt (f (aG lt t))
 |.ret _=>rfl
 |.ask i j k=>d6 (k (lt i j))
theorem Pm.size(h:Pm n p):p.size=n:=by
 have:=h.length_eq;simpa using this
theorem sC{l:List α}(hn:l.Nodup)(hi:i<l.length)(hj:j<l.length)(e:l[i]=l[j]):i=j:=by
 rcases Nat.lt_trichotomy i j with z|z|z
 ·exact absurd e (R_.mp hn i j hi hj z)
 ·exact z
 ·exact absurd e.symm (R_.mp hn j i hj hi z)
theorem Pm.ne(h:Pm n p)(hi:i<n)(hj:j<n)(CC:i≠j):aT p i≠aT p j:=by
 have hs:=h.size;have hn:p.toList.Nodup:=h.nodup_iff.mpr List.nodup_range;have e1:aT p i=p.toList[i]'(by simpa[hs] using hi):=by unfold aT;simp[Tb,hs,hi]
 have e2:aT p j=p.toList[j]'(by simpa[hs] using hj):=by unfold aT;simp[Tb,hs,hj]
 rw[e1,e2];intro e;exact CC (sC hn _ _ e)
section
variable{n:Nat}{lt:Nat->Nat->Bool}(ht:Ll n lt)(hn:0<n)
include ht hn
theorem D8.ext(h:Pm n p)(m1:1<=m)(hu:D8 lt p m)(hl:lt (aT p (m - 1)) (aT p m)=OA):D8 lt p (m+1):=by
 intro i j CC hj;by_cases e:j=m
 ·subst e;by_cases e2:i=j - 1
  ·subst e2;exact hl
  ·exact ht.tr _ (aT p (j - 1)) _ (h.at hn _) (h.at hn _) (h.at hn _) (hu i (j - 1) ⋯ ⋯) hl
 ·exact hu i j CC ⋯
theorem FK.ext(h:Pm n p)(m1:1<=m)(hu:FK lt p m)(hl:lt (aT p m) (aT p (m - 1))=OA):FK lt p (m+1):=by
 intro i j CC hj;by_cases e:j=m
 ·subst e;by_cases e2:i=j - 1
  ·subst e2;exact hl
  ·exact ht.tr _ (aT p (j - 1)) _ (h.at hn _) (h.at hn _) (h.at hn _) hl (hu i (j - 1) ⋯ ⋯)
 ·exact hu i j CC ⋯
theorem kH(h:Pm n p):∀(f m:Nat),1<=m->m+f<=n->D8 lt p m->D8 lt p (aG lt (RW p f m))/\m<=aG lt (RW p f m)/\aG lt (RW p f m)<=m+f/\(aG lt (RW p f m)<m+f->lt (aT p (aG lt (RW p f m))) (aT p (aG lt (RW p f m) - 1))=OA)
 |0,m,m1,hm,hu=>⟨hu,ON _,ON _,λz=>absurd z (PD _)⟩
 |f+1,m,m1,hm,hu=>by
  have e:aG lt (RW p (f+1) m)=aG lt (if lt (aT p m) (aT p (m - 1))=OA then .ret m else RW p f (m+1)):=rfl;by_cases hc:lt (aT p m) (aT p (m - 1))=OA
  ·rw[e,Xs hc];exact⟨hu,ON _,by show m<=_;omega,λ_=>hc⟩
  ·rw[e,Xu hc];have hl:=ht.Ka _ _ (h.at hn _) (h.at hn _) (h.ne (i:=m) (j:=m - 1) ⋯ ⋯ ⋯) (Sd.mpr hc);obtain⟨a,b,c,d⟩:=kH h f (m+1) ⋯ ⋯ (D8.ext ht hn h m1 hu hl);exact⟨a,⋯,⋯,λz=>d ⋯⟩
theorem l6(h:Pm n p):∀(f m:Nat),1<=m->m+f<=n->FK lt p m->∃r,aG lt (Tj f p m 0)=(p,r,0)/\FK lt p r/\m<=r/\r<=m+f
 |0,m,m1,hm,hu=>⟨m,rfl,hu,ON _,ON _⟩
 |f+1,m,m1,hm,hu=>by
  have e:aG lt (Tj (f+1) p m 0)=aG lt (if lt (aT p m) (aT p (m - 1))=OA then(if 0>0 then Tj f (Sa p (m - (0+1)) m) (m+1) 0 else Tj f p (m+1) 0)
   else .ask (aT p (m - 1)) (aT p m) λd=>if d=OA then .ret (p,m,0) else Tj f p (m+1) (0+1)):=rfl
  by_cases hc:lt (aT p m) (aT p (m - 1))=OA
  ·rw[e,Xs hc,Xu ⋯];obtain⟨r,a,b,c,d⟩:=l6 h f (m+1) ⋯ ⋯ (FK.ext ht hn h m1 hu hc);exact⟨r,a,b,⋯,⋯⟩
  ·have hl:=ht.Ka _ _ (h.at hn _) (h.at hn _) (h.ne (i:=m) (j:=m - 1) ⋯ ⋯ ⋯) (Sd.mpr hc);rw[e,Xu hc];refine⟨m,?_,hu,ON _,⋯⟩;show aG lt (if lt (aT p (m - 1)) (aT p m)=OA then .ret (p,m,0) else Tj f p (m+1) (0+1))=_;have Fx:lt (aT p (m - 1)) (aT p m)=OA:=hl;rw[Xs Fx];rfl
theorem sD(h:Pm n p)(m1:1<=m)(hm:m<=n)(hu:FK lt p m):D8 lt (aG lt (Sf m n p)).2 (aG lt (Sf m n p)).1/\Pm n (aG lt (Sf m n p)).2/\1<=(aG lt (Sf m n p)).1/\(aG lt (Sf m n p)).1<=n:=by
 have hr:Pm n (Sa p 0 m):=h.rev 0 m;have hs:=h.size;have M7:D8 lt (Sa p 0 m) m:=by
  have key:∀k,k<m->aT (Sa p 0 m) k=aT p (m - 1 - k):=λk hk=>by
   refine oZ ?_;unfold Sa;rw[getElem?_mirror_all ⋯,Xs ⟨O_ _,hk⟩,TC]
  intro i j CC hj;rw[key i ⋯,key j hj];exact hu (m - 1 - j) (m - 1 - i) ⋯ ⋯
 obtain⟨a,b,c,_⟩:=kH ht hn hr (n - m) m m1 ⋯ M7;unfold Sf;rw[d6];exact⟨a,hr,by show 1<=aG lt (RW _ _ _);omega,by show aG lt (RW _ _ _)<=n;omega⟩
theorem qF(h:Pm n p):D8 lt (aG lt (RP n p)).2 (aG lt (RP n p)).1/\Pm n (aG lt (RP n p)).2/\1<=(aG lt (RP n p)).1/\(aG lt (RP n p)).1<=n:=by
 obtain⟨a,b,c,d⟩:=kH ht hn h (n - 1) 1 (ON _) ⋯ (λi j CC hj=>by omega);unfold RP;rw[d6];generalize aG lt (RW p (n - 1) 1)=m at a b c d;by_cases e:m=n
 ·rw[Xs (by simp[e])];exact⟨a,h,b,by show m<=n;omega⟩
 ·rw[Xu (by simp[e])];by_cases m1:m>1
  ·rw[Xs m1];show D8 lt (aG lt (if lt (aT p 0) (aT p (m - 1))=OA then .ret (m,p) else Rh m n (Sa p 0 m))).2 (aG lt (if lt (aT p 0) (aT p (m - 1))=OA then .ret (m,p) else Rh m n (Sa p 0 m))).1/\Pm n (aG lt (if lt (aT p 0) (aT p (m - 1))=OA then .ret (m,p) else Rh m n (Sa p 0 m))).2/\1<=(aG lt (if lt (aT p 0) (aT p (m - 1))=OA then .ret (m,p) else Rh m n (Sa p 0 m))).1/\(aG lt (if lt (aT p 0) (aT p (m - 1))=OA then .ret (m,p) else Rh m n (Sa p 0 m))).1<=n;rw[Xs (a 0 (m - 1) ⋯ ⋯)];exact⟨a,h,b,by show m<=n;omega⟩
  ·rw[Xu m1];have em:m=1:=by omega
   subst em;have hd:FK lt p 2:=λi j CC hj=>by
    have e1:i=0:=by omega
    have e2:j=1:=by omega
    subst e1 e2;exact d ⋯
   obtain⟨r,a1,b1,c1,d1⟩:=l6 ht hn h (n - 2) 2 ⋯ ⋯ hd;unfold Rh;rw[d6,a1];rw[Xu (by show ¬(0>0);omega)];have M8:r<=n:=by
    have e3:2<=n:=by omega
    omega
   exact sD ht hn h (m:=r) ⋯ M8 b1
theorem gc(h:Pm n p)(hk:k<n)(hu:D8 lt p k):∀(f l r:Nat),r - l<=f->l<=r->r<=k->(∀j,j<l->lt (aT p j) (aT p k)=OA)->(∀j,r<=j->j<k->lt (aT p k) (aT p j)=OA) ->
  aG lt (RA p k f l r)<=k/\(∀j,j<aG lt (RA p k f l r)->lt (aT p j) (aT p k)=OA)/\∀j,aG lt (RA p k f l r)<=j->j<k->lt (aT p k) (aT p j)=OA
 |0,l,r,hf,hl,hr,h1,h2=>⟨by show l<=k;omega,h1,λj hj=>h2 j (by have:l<=j:=hj;omega)⟩
 |f+1,l,r,hf,hl,hr,h1,h2=>by
  by_cases GY:l >= r
  ·have e:aG lt (RA p k (f+1) l r)=l:=by
    show aG lt (if l >= r then .ret l else _)=l;rw[Xs GY];rfl
   rw[e];exact⟨⋯,h1,λj hj=>h2 j ⋯⟩
  ·have e:aG lt (RA p k (f+1) l r)=aG lt (if lt (aT p k) (aT p ((l+r) / 2))=OA then RA p k f l ((l+r) / 2) else RA p k f ((l+r) / 2+1) r):=by
    show aG lt (if l >= r then .ret l else _)=_;rw[Xu GY];rfl
   rw[e];by_cases hc:lt (aT p k) (aT p ((l+r) / 2))=OA
   ·rw[Xs hc];refine gc h hk hu f l ((l+r) / 2) ⋯ ⋯ ⋯ h1 λj hj Lm=>?_;by_cases ej:j=(l+r) / 2
    ·subst ej;exact hc
    ·exact ht.tr _ _ _ (h.at hn _) (h.at hn _) (h.at hn _) hc (hu _ _ ⋯ Lm)
   ·rw[Xu hc];have hb:=ht.Ka _ _ (h.at hn _) (h.at hn _) (h.ne (i:=k) (j:=(l+r) / 2) ⋯ ⋯ ⋯) (Sd.mpr hc);refine gc h hk hu f ((l+r) / 2+1) r ⋯ ⋯ ⋯ (λj hj=>?_) h2;by_cases ej:j=(l+r) / 2
    ·subst ej;exact hb
    ·exact ht.tr _ _ _ (h.at hn _) (h.at hn _) (h.at hn _) (hu j _ ⋯ ⋯) hb
theorem o_:∀(f:Nat) (p:Array Nat) (k:Nat),Pm n p->D8 lt p k->k+f=n->D8 lt (aG lt (kas_bin f p k)) n
 |0,p,k,h,hu,hk=>by
  have e:k=n:=by omega
  subst e;exact hu
 |f+1,p,k,h,hu,hk=>by
  obtain⟨a,b,c⟩:=gc ht hn h (k:=k) ⋯ hu k 0 k ⋯ ⋯ (ON _) (λj hj=>by omega) λj hj Lm=>by omega
  unfold kas_bin;rw[d6];generalize aG lt (RA p k k 0 k)=l at a b c;refine o_ f _ (k+1) (h.Lj _ _) ?_ ⋯;have hs:=h.size;have key:∀i,aT (bubble p k (k - l)) i=if i=l then aT p k else if l<i/\i<=k then aT p (i - 1) else aT p i:=λi=>by
   have g:=getElem?_bubble (xs:=p) (src:=k) ⋯ (k - l) ⋯ i;rw[show k - (k - l)=l by omega]at g;by_cases e1:i=l
   ·rw[Xs e1]at g ⊢;exact oZ g
   ·rw[Xu e1]at g ⊢;by_cases e2:l<i/\i<=k
    ·rw[Xs e2]at g ⊢;exact oZ g
    ·rw[Xu e2]at g ⊢;exact oZ g
  intro i j CC hj;rw[key i,key j];by_cases i1:i=l
  ·rw[Xs i1,Xu ⋯,Xs ⋯];exact c _ ⋯ ⋯
  ·rw[Xu i1];by_cases i2:l<i/\i<=k
   ·rw[Xs i2,Xu ⋯,Xs ⋯];exact hu _ _ ⋯ ⋯
   ·rw[Xu i2];by_cases j1:j=l
    ·rw[Xs j1];exact b _ ⋯
    ·rw[Xu j1];by_cases j2:l<j/\j<=k
     ·rw[Xs j2];by_cases e:i=j - 1
      ·exfalso;omega
      ·exact hu _ _ ⋯ ⋯
     ·rw[Xu j2];exact hu _ _ CC ⋯
theorem sE:D8 lt (aG lt (Qq n)) n:=by
 obtain⟨a,b,c,d⟩:=qF ht hn (p:=UR (O2 n)) (by unfold Pm;simp);unfold Qq;rw[d6];generalize aG lt (RP n (UR (O2 n)))=x at a b c d;by_cases e:x.1<n
 ·rw[Xs e,show max x.1 1=x.1 by omega];exact o_ ht hn _ _ _ b a ⋯
 ·rw[Xu e];have e2:x.1=n:=by omega
  rw[<-e2];exact a
end
theorem vH(h:ks.Nodup):Ll ks.length (D7 ks):=by
 refine⟨λa b c _ _ _ h1 h2=>?_,λa b ha hb F_ h1=>?_⟩
 ·unfold D7 at *;rw[Xt]at *;exact List.lt_trans h1 h2
 ·unfold D7 at *;rw[decide_eq_false_iff_not]at h1;rw[Xt];have hle:=U8.mp h1;rcases Decidable.em ((ks.getD b Pn).cps.toList<(ks.getD a Pn).cps.toList) with z|z
  ·exact z
  ·exfalso
   have e:=lL (VL hle (U8.mp z));rw[R3,R3,O7 ha,O7 hb]at e;exact F_ (sC h ha hb e.symm)
theorem qG(h:ks.Nodup):(eC ks).map (λi=>ks.getD i Pn)=aF ks:=by
 have hp:=cS ks;have e:(O2 ks.length).map (λi=>ks.getD i Pn)=ks:=by
  apply TN
  ·simp
  ·intro i h1 h2;simp[Rn,h2]
 have GV:((eC ks).map λi=>ks.getD i Pn).Perm ks:=by
  have:=hp.map λi=>ks.getD i Pn;rw[e]at this;exact this
 refine d5 (GV.trans (bj ks).symm) ?_ (fA ks);rw[List.pairwise_map,R_];intro i j hi hj CC;have hl:(eC ks).length=ks.length:=by rw[hp.length_eq,P5]
 have hu:=sE (vH h) ⋯ i j CC ⋯;have e1:∀(k:Nat) (hk:k<(eC ks).length),aT (aG (D7 ks) (Qq ks.length)) k=(eC ks)[k]:=λk hk=>by
  unfold aT;have Cv:k<(aG (D7 ks) (Qq ks.length)).size:=by simpa[eC] using hk
  simp[eC,Tb,Cv]
 rw[e1 i hi,e1 j hj]at hu;unfold D7 at hu;rw[Xt]at hu;rw[fz];exact List.le_of_lt hu
def dh(h:Qk)(as:List OS)(ks:List Str):Prop:=as.length=ks.length/\∀(j:Nat) (a:OS),as[j]?=Od a->∃k t o n b u,ks[j]?=Od k/\h.get? a=Od o/\o.cls=.type "tuple"/\o.data=.seq #[.str k t,.int b u] n
theorem dh.keeps(x:dh h as ks)(k:∀b o,b∈as->h.get? b=Od o->h'.get? b=Od o):dh h' as ks :=
 ⟨x.1,λj a e=>let ⟨k0,t,o,n,b,u,e1,e2,e3⟩:=x.2 j a e;⟨k0,t,o,n,b,u,e1,k a o (Qf e) e2,e3⟩⟩
theorem dh.tail(x:dh h (a::as) (k::ks)):dh h as ks :=
 ⟨by have:=x.1;simpa using this,λj b e=>by
  obtain⟨k0,t,o,n,c,u,e1,e2⟩:=x.2 (j+1) b (by simpa using e);exact⟨k0,t,o,n,c,u,by simpa using e1,e2⟩⟩
theorem dh.gM:∀{as:List OS}{ks:List Str},dh h as ks->∃fs:List OH,KatTups h (as.map O0) fs/\fs.length=as.length/\∀v∈fs,∃x t,v=PL x t
 |[],_,_=>⟨[],KatTups.nil,rfl,by simp⟩
 |a::as,[],x=>by have:=x.1;simp at this
 |a::as,k::ks,x=>by
  obtain⟨fs,h1,h2,h3⟩:=dh.gM x.tail;obtain⟨k0,t,o,n,b,u,e1,e2,e3,e4⟩:=x.2 0 a rfl;refine⟨.str k0 t::fs,KatTups.cons e2 e3 e4 rfl h1,by simp[h2],λv hv=>?_⟩;rcases OV.mp hv with rfl|hv
  ·exact⟨_,_,rfl⟩
  ·exact h3 v hv
section
theorem yw(x:dh s.heap as ks)(CZ:ks.Nodup)(hi:i<as.length)(hj:j<as.length)(q:C (D7 ks i j) s):
  WB prog w A (tuples' OA) (as.map O0) i j C s:=by
 obtain⟨p,t,o,n,b,u,e1,e2,_,e3⟩:=x.2 i as[i] (by simp[hi]);obtain⟨p',t',o',n',b',u',Em,HJ,_,HK⟩:=x.2 j as[j] (by simp[hj]);have gi:(as.map O0).getD i Pa=.ref as[i]:=by simp[Rn,hi]
 have gj:(as.map O0).getD j Pa=.ref as[j]:=by simp[Rn,hj]
 have ki:ks.getD i Pn=p:=by simp[Rn,e1]
 have kj:ks.getD j Pn=p':=by simp[Rn,Em]
 unfold WB;rw[gi,gj];refine kat_lt (b:=OA) e2 e3 HJ HK ?_;unfold D7 at q;rw[ki,kj]at q;show KatLex prog w A OA (OI (2<2)) C [(.str p t,.str p' t'),(.int b u,.int b' u')] 0 s;refine kat_cons (WM ?_);by_cases h:p=p'
 ·have CC:i=j:=by
   obtain⟨h1,z1⟩:=OT.mp e1;obtain⟨h2,z2⟩:=OT.mp Em;exact(VM CZ).mp (by rw[z1,z2,h])
  subst CC;rw[e2]at HJ;cases HJ;rw[e3]at HK;injection HK with HK _
  have hb:b=b'/\u=u':=by
   have:=congrArg (λa:Array OH=>a[1]?) HK;simpa using this
  obtain⟨hb,hu⟩:=hb;subst hb hu;subst h;rw[Xw rfl];refine kat_yes (kat_cons (WN ?_));rw[show(b==b)=OA by simp];refine kat_yes (kat_nil ?_);have:OI (p.cps.toList<p.cps.toList)=OE:=Xv (List.lt_irrefl _);rw[this]at q;exact q
 ·rw[Xv h];exact kat_no (oneLt_str q)
theorem yx(x:dh s.heap as ks)(CZ:ks.Nodup)(h2:2<=as.length):
  OK (OU prog w) A (keyKind' (as.map O0).toArray) (λκ s'=>s'=s/\∀i j,i<(as.map O0).length->j<(as.map O0).length->∀C:Bool->OR->Prop,C (D7 ks i j) s->WB prog w A κ (as.map O0) i j C s) (λ_ _=>False) s:=by
 obtain⟨fs,f1,f2,f3⟩:=x.gM;refine kat_kind (T:=.type "str") f1 ⋯ (λv hv=>?_) rfl ⟨rfl,λi j hi hj C q=>?_⟩
 ·obtain⟨y,t,rfl⟩:=f3 v hv;exact Looks.of_pure rfl
 ·rw[OJ]at hi hj;exact yw x CZ hi hj q
end
section
theorem nG{as:List OS}(I:Inv X pins σ H s)(e:Cn X.K H L (as.map V.ref))(hl:as.length=ks.length)
  (ht:∀(j:Nat) a k,as[j]?=Od a->ks[j]?=Od k->∃b,Ci X.K H a [.str k,.int b]) (CZ:ks.Nodup) (Ez:as.length<64)
  (q:∀L',H L'=OB->Q (.ref L') (upd H L' (.lst ((eC ks).map λi=>V.ref (as.getD i 0))))) :
  OK (OU X.prog X.w) X.A (Rm (.builtin "sorted") [.ref L]) (EP X pins σ Q) X.xe s:=by
 have big:(64:Nat)<=OG:=by decide
 obtain⟨A',rv,pl,hz⟩:=I.list e;have Kb:A'=as.map O0:=by
  have:∀(as:List OS) (A':List OH),Vals (as.map V.ref) A'->A'=as.map O0:=λas=>by
   induction as with
   |nil=>intro A' h;cases h;rfl
   |cons a as ih =>
    intro A' h;cases h with
    |cons r t=>rw[ih _ t];cases r;rfl
  exact this as A' rv
 subst Kb;have pa:dh s.heap as ks:=⟨hl,λj a ej=>by
  have hj:j<ks.length:=by rw[<-hl];exact(OT.mp ej).1
  obtain⟨b,hb⟩:=ht j a ks[j] ej (by simp[hj]);obtain⟨us,r,⟨o,h1,h2,n,h3⟩,_⟩:=I.tuple hb;cases r with
  |cons r1 r2 =>
   cases r2 with
   |cons r2 r3 =>
    cases r3;obtain⟨t,rfl⟩:=r1;obtain⟨u,rfl⟩:=r2;exact⟨_,t,o,n,b,u,by simp[hj],h1,h2,h3⟩⟩
 refine Ul kind_sorted plain_sorted entry_sorted (args_sorted1 _) ?_;unfold Ri.«sorted»;refine Oz (m:=checkCount "sorted" 1 1 _) (OF ?_);refine Oz (collect_list pl.isList ?_ (by simp;omega));generalize hg:(s.heap.push (PV "list" #[] 0)).update s.heap.objs.size (Pd (·++(as.map O0).toArray))=g;have k1:∀b o,s.heap.get? b=Od o->g.get? b=Od o:=λb o z=>by subst hg;exact eJ z
 have hsz:s.heap.objs.size<=g.objs.size:=by subst hg;rw[VI,Qy];exact Qo _
 have M9:∀a∈as,a<g.objs.size:=λa ha=>by
  obtain⟨j,hj,ej⟩:=List.mem_iff_getElem.mp ha;obtain⟨_,_,o,_,_,_,_,z,_⟩:=pa.2 j a (by simp[hj,ej]);exact OY (OP z) hsz
 refine Oz (Vb ?_ (by rw[OJ];omega));have E7:(g.push (PV "list" (as.map O0).toArray 0)).get? g.objs.size=Od (PV "list" (as.map O0).toArray 0):=OO _ rfl;show OK _ _ _ _ _ {s with heap:=g.push (PV "list" (as.map O0).toArray 0)};refine Oz (PJ (PK Xn ⟨_,E7,rfl⟩ W7 (qE (lt:=D7 ks) E7 (by rw[OJ];omega) (λh2 s1 kp=>?_) ⟨_,rfl,?_⟩) (Xq _)))
 ·exact yx (pa.keeps λb o hb z=>kp b o (OW (M9 b hb)) (OC _ (k1 b o z))) CZ (by rw[OJ]at h2;exact h2)
 ·obtain⟨ee,he⟩:=sortedHeap_at (out:=((aG (D7 ks) (Qq (as.map O0).length)).toList.map λi=>(as.map O0).getD i Pa).toArray) E7;have hold:∀b o,g.get? b=Od o->(Wl (g.push (PV "list" (as.map O0).toArray 0)) g.objs.size (as.map O0) ((aG (D7 ks) (Qq (as.map O0).length)).toList.map λi=>(as.map O0).getD i Pa).toArray).get? b=Od o:=λb o z=>by
   have Ce:b<g.objs.size:=OP z;rw[Xm (OW Ce) (by rw[Qy];exact Rv Ce)];exact OC _ z
  have eP:((aG (D7 ks) (Qq (as.map O0).length)).toList)=eC ks:=by
   unfold eC;rw[OJ,hl]
  have FJ:∀i∈eC ks,i<as.length:=λi hi=>by
   have:=Qs.mp ((cS _).mem_iff.mp hi);omega
  refine OF ⟨_,rfl,.ref g.objs.size,_,I.laid (t':=s.toks) (o:=.lst ((eC ks).map λi=>V.ref (as.getD i 0))) (λb u z=>hold b u (k1 b u z)) hsz ⟨?_,(eC ks).map λi=>(as.map O0).getD i Pa,ee,?_,by rw[<-eP];exact he⟩,rfl,q _ (I.B0.fresh hsz)⟩
  ·rw[OJ,(cS _).length_eq,P5];omega
  ·generalize eC ks=l at FJ;induction l with
   |nil=>exact .nil
   |cons i l ih =>
    refine .cons ?_ (ih λj hj=>FJ j (by simp[hj]));have hi:=FJ i (by simp);show RelV (.ref (as.getD i 0)) ((as.map O0).getD i Pa);have:(as.map O0).getD i Pa=.ref (as.getD i 0):=by simp[Rn,hi]
    rw[this];rfl
end
section
theorem Inv.freeze(I:Inv X pins σ H s)(hr:H r=Od (.dK kvs))(ho:s.heap.get? r=Od o):Inv X pins σ (upd H r (.CY o (.dK kvs))) s:=by
 have nr:∀b u,H b=Od u->u≠.dK kvs->b≠r:=λb u e n z=>by subst z;rw[hr]at e;cases e;exact n rfl
 exact I.write (t':=s.toks) (x:=r) (e:=r) (by rw[hr];trivial) (.inl rfl) (λb u _ q=>q) ⟨o,ho⟩ ⟨ho,(I.B0 r _ hr).j3 (λ_ _ _ q=>q) (λb q=>by rw[ao (nr b _ q (λz=>by cases z))];exact q) λb xs q=>by rw[ao (nr b _ q (λz=>by cases z))];exact q⟩
end
def Kc(r:OS)(o:Obj)(kvs:List (Key×V)):It :=
 ⟨λi H=>H r=Od (.CY o (.dK kvs))/\i<kvs.length,λi H x H'=>∃p,H p=OB/\x=.ref p/\∀k v,kvs[i]?=Od (k,v)->H'=upd H p (.tup [kV k,v]),λi H=>H r=Od (.CY o (.dK kvs))/\kvs.length<=i⟩
theorem yy(h:(aJ P w).is k u=OA):RelV (kV k) u:=by
 rcases aN (show gv k u=OA from h) with⟨i,t,rfl,rfl⟩|⟨y,t,rfl,rfl⟩
 ·exact⟨t,rfl⟩
 ·exact⟨t,rfl⟩
theorem xt:∀{kvs:List (Key×V)}{vs:List (Key×OH)},KV kvs vs->∀(i:Nat) (h:i<kvs.length) (h':i<vs.length),kvs[i].1=vs[i].1/\RelV kvs[i].2 vs[i].2
 |_,_,.cons a _,0,_,_=>a
 |_,_,.cons _ b,i+1,h,h'=>xt b i (by simpa using h) (by simpa using h')
theorem nI{K:PySem.W.Frag}(IW:o.data=.dict en ep):
  Turn P w K (.Tuple es kx ps) (Kc r o kvs) [it] it (λi h=>∃ok ov,IsItemIter h it r i kvs.length ep ok ov) where
 mem:=by simp
 obj:=λi h ⟨ok,ov,st⟩ b hb=>by
  rw[O1.mp hb];exact⟨_,st,λv z=>by
    have z':SG _=UH v:=z;cases z'⟩
 keep:=λi h h' ⟨ok,ov,st⟩ k=>⟨ok,ov,k it (by simp) _ st⟩
 item:=by
  intro X hP hw hK hc i pins s σ H E I hf ⟨ok,ov,st⟩ hg;subst hP hw;obtain⟨hr,hi⟩:=hg;obtain⟨ho,z1,z2,vs,kv,o',M_,F0,CH,hx,Dm,Gj⟩:=(show aY X.prog X.w H s.heap r (.CY o (.dK kvs)) from I.B0 r _ hr)
  rw[ho]at CH;cases CH;rw[IW]at Dm;cases Dm;have hl:vs.length=kvs.length:=(Paired.length kv).symm;have hm:s.heap.DictAt (aJ X.prog X.w) r vs ep:=⟨o,en,ho,hx,IW,Gj⟩
  obtain⟨q,hq,e1,e2⟩:∃q,vs[i]?=Od q/\kvs[i].1=q.1/\RelV kvs[i].2 q.2:=by
   have C3:i<vs.length:=by omega
   refine⟨vs[i],by simp[C3],?_⟩;exact xt kv i hi C3
  rw[<-hl]at st;refine wpAny_pyNext_items_item st hm (k:=q.1) (v:=q.2) hq λkey h1 hk hit hT hsz HL=>⟨_,rfl,wpAny_letOwnedTupleGo_items (s:={s with heap:=h1}) hit λh2 IV EY=>?_⟩
  have Ce:it<s.heap.objs.size:=OP st;have J9:h2.get? s.heap.objs.size=Od {cls:=.type "tuple",data:=.seq #[key,q.2]}:=(EY.2 _ (QA Ce)).trans hT;have k2:∀b o,b∉[it]->s.heap.get? b=Od o->h2.get? b=Od o:=λb o hb q=>by
   have Dj:b≠it:=λz=>hb (by simp[z]);exact(EY.2 b Dj).trans (HL b o Dj q)
  have I2:Inv X pins σ (upd H s.heap.objs.size (.tup [kV kvs[i].1,kvs[i].2])) {s with heap:=h2,toks:=s.toks}:=I.iz hf k2 (ON _)
   (show aY X.prog X.w _ h2 _ (.tup [kV kvs[i].1,kvs[i].2]) from⟨by show 2<=OG;decide,[key,q.2],.cons (by rw[e1];exact yy hk) (.cons e2 .nil),⟨_,J9,rfl,_,rfl⟩⟩)
  refine⟨.ref s.heap.objs.size,_,I2,rfl,⟨_,I.B0.fresh (ON _),rfl,λk v IX=>?_⟩,⟨_,_,by rw[hl]at IV;exact IV⟩,λb hb=>?_⟩
  ·rw[O7 hi]at IX;rw[Px IX]
  ·have Dj:b≠s.heap.objs.size:=by rw[O1.mp hb];exact OW Ce
   rw[ao Dj];exact(hf b hb).1
 done:=by
  intro X hP hw hK hc i pins s σ H E I hf ⟨ok,ov,st⟩ hg;subst hP hw;obtain⟨hr,hi⟩:=hg;obtain⟨ho,z1,z2,vs,kv,o',M_,F0,CH,hx,Dm,Gj⟩:=(show aY X.prog X.w H s.heap r (.CY o (.dK kvs)) from I.B0 r _ hr)
  rw[ho]at CH;cases CH;rw[IW]at Dm;cases Dm;have hl:vs.length=kvs.length:=(Paired.length kv).symm;have hm:s.heap.DictAt (aJ X.prog X.w) r vs ep:=⟨o,en,ho,hx,IW,Gj⟩
  rw[<-hl]at st;exact wpAny_pyNext_items_end (by simpa using I.ok.hd hc) st hm (RE ⋯) λh' Hq=>⟨rfl,I.kG (t':=s.toks) hf λb o hb q=>Hq b o (λz=>hb (by simp[z])) q⟩
 self:=λA i s Q E ⟨ok,ov,st⟩ h=>kcp_self st h
section
end
section
def Ai(te:TE):TI:=λσ H R=>te σ H λv H1=>∃r kvs,v=.ref r/\H1 r=Od (.dK kvs)/\∀o,R (Kc r o kvs) (upd H1 r (.CY o (.dK kvs)))
theorem qH(he:PE X e te)(CM:RV e "items" X.env (Qx e X.env)=Qx e X.env)(B9:(apos.endLine==BW.line)=OA):
  PI X (.Tuple es kx ps) (.Call (.Attribute e "items" apos) [] [] BW) (Ai te):=by
 intro pins s σ H R I hE;refine Vj CM B9 (B6 (he pins s σ H _ I hE) λv s1 ⟨x1,H0,I0,r1,r,kvs,z1,IY,hR⟩=>?_);subst z1;cases(show v=O0 r from r1);obtain⟨_,_,_,_,o,_,_,M',_⟩:=(show aY X.prog X.w H0 s1.heap r (.dK kvs) from I0.B0 r _ IY)
 have I1:=I0.freeze IY M';have hR:=hR o;generalize Na:upd H0 r (.CY o (.dK kvs))=H1 at I1 hR;have hr:H1 r=Od (.CY o (.dK kvs)):=by rw[<-Na];exact av
 obtain⟨ho,z1,lo,vs,kv,o',en,ep,CH,hx,Dm,Gj⟩:=(show aY X.prog X.w H1 s1.heap r (.CY o (.dK kvs)) from I1.B0 r _ hr)
 rw[ho]at CH;cases CH;have hl:vs.length=kvs.length:=(Paired.length kv).symm;have hm:s1.heap.DictAt (aJ X.prog X.w) r vs ep:=⟨o,en,ho,hx,Dm,Gj⟩
 have hT:s1.TypeIs (.ref r) "dict":=⟨o,ho,hx.1⟩
 refine⟨"dict","dict.items",PySem.F.plainAttrs_dict,PySem.F.slot_dict_items,PySem.F.type_dict_items,hT,λa e=>⟨o,by cases e;exact ho,hx.2.1⟩,QJ rfl (PySem.evalArgs_none (call_meetsIn PySem.F.slot_dict_items hT PySem.F.entry_dict_items (PySem.F.args_dict_items_1 _) (meets_dict_items (aJ X.prog X.w) r lo) ⟨⟨vs,o,en,ep,ho,hx,Dm,Gj⟩,?_⟩))⟩;have k1:∀b u,s1.heap.get? b=Od u->(s1.heap.push {cls:=.type "dict_items",data:=.fields #[.ref r]}).get? b=Od u:=λb u z=>OC _ z;have El:(s1.heap.push {cls:=.type "dict_items",data:=.fields #[.ref r]}).DictAt (aJ X.prog X.w) r vs ep:=⟨o,en,k1 _ _ ho,hx,Dm,Gj⟩
 refine wpAny_pyIter_items (s:={s1 with heap:=s1.heap.push {cls:=.type "dict_items",data:=.fields #[.ref r]}}) ⟨_,OO _ rfl,rfl,rfl⟩ El ?_;have hsz:(s1.heap.push {cls:=.type "dict_items",data:=.fields #[.ref r]}).objs.size=s1.heap.objs.size+1:=Qy ..;have I2:=I1.kept (t':=s1.toks) (h':=(s1.heap.push {cls:=.type "dict_items",data:=.fields #[.ref r]}).push {cls:=.type "dict_itemiterator",data:=.fields #[.none,.bool OE,.ref r,.int 0 0,.int vs.length 0,.int ep 0,.none,.none]}) λb u z=>OC _ (k1 b u z);refine⟨_,[_],_,_,H1,rfl,I2,nI (kvs:=kvs) Dm,⟨.none,.none,by rw[<-hl];exact OO _ rfl⟩,λb hb=>?_,hR⟩;rw[O1.mp hb];have Ln:s1.heap.objs.size<=(s1.heap.push {cls:=.type "dict_items",data:=.fields #[.ref r]}).objs.size:=by rw[hsz];exact Qo _
 exact I1.rH Ln (I1.B0.fresh Ln)
end
end L2
namespace TM
open PySem L2
inductive U where
 |BZ|bl (b:Bool)|int (i:Int)|str (x:Str)
 |tup (xs:List U)|lst (xs:List U)
 |CD (ks:List Str) (vs:List U)|De (ks:List lK)
mutual
def Co:U->Bool
 |.tup xs=>bD xs
 |.lst _=>OE
 |.CD _ _=>OE
 |.De _=>OE
 |.BZ=>OA|.bl _=>OA|.int _=>OA|.str _=>OA
def bD:List U->Bool
 |[]=>OA
 |u::us=>Co u&&bD us
end
inductive Kd where|own|io|loc|any|bor (j:Nat)|B1
deriving DecidableEq
def Kd.root:Kd->Bool
 |.own=>OA
 |.io=>OA
 |_=>OE
abbrev ay:=List (Option (Kd×U))
structure Ct where
 P:PC
 w:P4
 K:PySem.W.Frag
 H₀:Hp
 D9:OS->Prop
 IO:OS->Prop
def KL(K:PySem.W.Frag)(a:OS)(xs:List V):Prop :=
 ∃(o:Obj) (A':Array OH) (n:Nat),K.lookup a=Od o/\o.cls=.type "list"/\o.dict=OB/\o.data=.seq A' n/\A'.size<=OG/\Vals xs A'.toList
def HM(K:PySem.W.Frag)(S:OS->Prop)(H:Hp)(a:OS)(vs:List V):Prop:=(S a/\Rd H a (.lst vs))\/KL K a vs
theorem HM.sq(h:HM K S H a vs):Cn K H a vs:=h.elim (λz=>.inl z.2) .inr
def FL(H:Hp)(R:List V->Prop)(a:OS)(ks:List Str):Prop:=∃kvs:List (Key×V),H a=Od (.dK kvs)/\kvs.map (·.1)=ks.map Pq/\R (kvs.map (·.2))
section
variable(C:Ct)(S:OS->Prop)(H:Hp)
mutual
def Rep:U->V->Prop
 |.BZ,v=>v=.BZ
 |.bl b,v=>v=.bl b
 |.int i,v=>v=.int i
 |.str x,v=>v=.str x
 |.tup us,v=>∃a vs,v=.ref a/\Ci C.K H a vs/\ai us vs
 |.lst us,v=>∃a vs,v=.ref a/\HM C.K S H a vs/\ai us vs
 |.CD ks us,v=>∃a,v=.ref a/\S a/\FL H (ai us) a ks
 |.De ks,v=>∃a,v=.ref a/\S a/\dg C.P C.w C.K H a ks
def ai:List U->List V->Prop
 |[],vs=>vs=[]
 |u::us,vs=>∃v r,vs=v::r/\Rep u v/\ai us r
end
end
def Tp:HO->Prop
 |.tup _=>True
 |.CY _ (.tup _)=>True
 |_=>False
structure Mv(S:OS->Prop)(H:Hp)(S':OS->Prop)(H':Hp):Prop where
 sub:∀a,S a->S' a
 IZ:∀a o,H a=Od o->Tp o->H' a=Od o
 I_:∀a o,S a->H a=Od o->H' a=Od o
theorem Mv.Ke(m:Mv S H S' H')(h:Ci K H a vs):Ci K H' a vs:=by
 rcases h with(h|⟨o,h⟩)|h
 ·exact .inl (.inl (m.IZ a _ h trivial))
 ·exact .inl (.inr ⟨o,m.IZ a _ h trivial⟩)
 ·exact .inr h
theorem Mv.Nb(m:Mv S H S' H')(h:HM K S H a vs):HM K S' H' a vs:=by
 rcases h with⟨s,h|⟨o,h⟩⟩|h
 ·exact .inl ⟨m.sub a s,.inl (m.I_ a _ s h)⟩
 ·exact .inl ⟨m.sub a s,.inr ⟨o,m.I_ a _ s h⟩⟩
 ·exact .inr h
theorem Mv.row(m:Mv S H S' H')(h:dz K H v r):dz K H' v r :=
 let ⟨a,b,e,h1,h2⟩:=h;⟨a,b,e,m.Ke h1,m.Ke h2⟩
theorem FL.mv(ha:∀o,H a=Od o->H' a=Od o)(hR:∀vs,R vs->R' vs)(h:FL H R a ks):FL H' R' a ks :=
 let ⟨kvs,h1,h2,h3⟩:=h;⟨kvs,ha _ h1,h2,hR _ h3⟩
theorem Mv.pd(m:Mv S H S' H')(ha:∀o,H a=Od o->H' a=Od o)(h:dg P w K H a ks):dg P w K H' a ks :=
 let ⟨xs,h1,h2,h3⟩:=h;⟨xs,ha _ h1,h2,λx hx=>m.row (h3 x hx)⟩
section
mutual
theorem Rep.FN(m:Mv S H S' H'):∀(u:U) (v:V),Rep C S H u v->Rep C S' H' u v
 |.BZ,_,h=>h
 |.bl _,_,h=>h
 |.int _,_,h=>h
 |.str _,_,h=>h
 |.tup us,v,h=>by
  obtain⟨a,vs,e,h1,h2⟩:=h;exact⟨a,vs,e,m.Ke h1,ai.FN m us vs h2⟩
 |.lst us,v,h=>by
  obtain⟨a,vs,e,h1,h2⟩:=h;exact⟨a,vs,e,m.Nb h1,ai.FN m us vs h2⟩
 |.CD ks us,v,h=>by
  obtain⟨a,e,h1,h2⟩:=h;exact⟨a,e,m.sub a h1,h2.mv (λo q=>m.I_ a o h1 q) λvs q=>ai.FN m us vs q⟩
 |.De ks,v,h=>by
  obtain⟨a,e,h1,h2⟩:=h;exact⟨a,e,m.sub a h1,m.pd (λo q=>m.I_ a o h1 q) h2⟩
theorem ai.FN(m:Mv S H S' H'):∀(us:List U) (vs:List V),ai C S H us vs->ai C S' H' us vs
 |[],_,h=>h
 |u::us,vs,h=>by
  obtain⟨v,r,e,h1,h2⟩:=h;exact⟨v,r,e,Rep.FN m u v h1,ai.FN m us r h2⟩
end
mutual
theorem Rep.qJ:∀(u:U) (v:V),Co u=OA->Rep C S H u v->Rep C S' H u v
 |.BZ,_,_,h=>h
 |.bl _,_,_,h=>h
 |.int _,_,_,h=>h
 |.str _,_,_,h=>h
 |.tup us,v,i,h=>by
  obtain⟨a,vs,e,h1,h2⟩:=h;exact⟨a,vs,e,h1,ai.qJ us vs (by simpa[TM.Co] using i) h2⟩
 |.lst us,v,i,h=>by simp[TM.Co]at i
 |.CD ks us,v,i,h=>by simp[TM.Co]at i
 |.De ks,v,i,h=>by simp[TM.Co]at i
theorem ai.qJ:∀(us:List U) (vs:List V),bD us=OA->ai C S H us vs->ai C S' H us vs
 |[],_,_,h=>h
 |u::us,vs,i,h=>by
  obtain⟨v,r,e,h1,h2⟩:=h;have i':TM.Co u=OA/\bD us=OA:=by simpa[bD] using i
  exact⟨v,r,e,Rep.qJ u v i'.1 h1,ai.qJ us r i'.2 h2⟩
end
theorem Rep.mv(m:Mv S H S' H')(h:Rep C S H u v):Rep C S' H' u v:=Rep.FN m u v h
theorem ai.mv(m:Mv S H S' H')(h:ai C S H us vs):ai C S' H' us vs:=ai.FN m us vs h
theorem Rep.Co(i:TM.Co u=OA)(h:Rep C S H u v):Rep C S' H u v:=Rep.qJ u v i h
theorem ai.Co(i:bD us=OA)(h:ai C S H us vs):ai C S' H us vs:=ai.qJ us vs i h
theorem Mv.up(sub:∀a,S a->S' a):Mv S H S' H:=⟨sub,λ_ _ h _=>h,λ_ _ _ h=>h⟩
theorem ai.len:∀{us:List U}{vs:List V},ai C S H us vs->us.length=vs.length
 |[],_,h=>by cases h;rfl
 |u::us,vs,h=>by
  obtain⟨v,r,rfl,_,h2⟩:=h;rw[Pb,Pb,ai.len h2]
theorem ai.get:∀{us:List U}{vs:List V}{i:Nat}{u:U},ai C S H us vs->us[i]?=Od u->∃v,vs[i]?=Od v/\Rep C S H u v
 |[],_,_,_,_,e=>by simp at e
 |u::us,vs,0,w,h,e=>by
  obtain⟨v,r,rfl,h1,_⟩:=h;simp at e;subst e;exact⟨v,rfl,h1⟩
 |u::us,vs,i+1,w,h,e=>by
  obtain⟨v,r,rfl,_,h2⟩:=h;obtain⟨v',e',h'⟩:=ai.get (i:=i) (u:=w) h2 (by simpa using e);exact⟨v',by simpa using e',h'⟩
theorem ai.append:∀{us ws:List U}{vs ys:List V},ai C S H us vs->ai C S H ws ys->ai C S H (us++ws) (vs++ys)
 |[],_,_,_,h,h'=>by cases h;exact h'
 |u::us,ws,vs,ys,h,h'=>by
  obtain⟨v,r,rfl,h1,h2⟩:=h;exact⟨v,r++ys,rfl,h1,h2.append h'⟩
theorem ai.take:∀{us:List U}{vs:List V} (n:Nat),ai C S H us vs->ai C S H (us.take n) (vs.take n)
 |_,_,0,_=>by simp[ai]
 |[],_,n+1,h=>by cases h;simp[ai]
 |u::us,vs,n+1,h=>by
  obtain⟨v,r,rfl,h1,h2⟩:=h;exact⟨v,r.take n,rfl,h1,h2.take n⟩
theorem ai.drop:∀{us:List U}{vs:List V} (n:Nat),ai C S H us vs->ai C S H (us.drop n) (vs.drop n)
 |_,_,0,h=>h
 |[],_,n+1,h=>by cases h;simp[ai]
 |u::us,vs,n+1,h=>by
  obtain⟨v,r,rfl,h1,h2⟩:=h;exact h2.drop n
theorem ai.set:∀{us:List U}{vs:List V} (n:Nat) {u:U}{v:V},ai C S H us vs->Rep C S H u v->ai C S H (us.set n u) (vs.set n v)
 |[],_,n,_,_,h,_=>by cases h;simp[ai]
 |u::us,vs,0,_,_,h,h'=>by
  obtain⟨v,r,rfl,h1,h2⟩:=h;exact⟨_,r,rfl,h',h2⟩
 |u::us,vs,n+1,_,_,h,h'=>by
  obtain⟨v,r,rfl,h1,h2⟩:=h;exact⟨v,_,rfl,h1,h2.set n h'⟩
theorem ai.snoc(h:ai C S H us vs)(h':Rep C S H u v):ai C S H (us++[u]) (vs++[v]):=h.append ⟨v,[],rfl,h',rfl⟩
theorem ai.strs:∀{xs:List Str}{vs:List V},ai C S H (xs.map .str) vs↔vs=xs.map V.str
 |[],vs=>by simp[ai]
 |x::xs,vs=>by
  constructor
  ·rintro⟨v,r,rfl,h1,h2⟩;rw[ai.strs.mp h2];have:v=.str x:=h1;rw[this];rfl
  ·rintro rfl;exact⟨_,_,rfl,rfl,ai.strs.mpr rfl⟩
end
structure Ct.Eqv(C C':Ct):Prop where
 P:C.P=C'.P
 w:C.w=C'.w
 K:C.K=C'.K
section
mutual
theorem Rep.FO(q:C.Eqv C'):∀(u:U) (v:V),Rep C S H u v->Rep C' S H u v
 |.BZ,_,h=>h
 |.bl _,_,h=>h
 |.int _,_,h=>h
 |.str _,_,h=>h
 |.tup us,v,h=>by
  obtain⟨a,vs,e,h1,h2⟩:=h;exact⟨a,vs,e,q.K▸h1,ai.FO q us vs h2⟩
 |.lst us,v,h=>by
  obtain⟨a,vs,e,h1,h2⟩:=h;exact⟨a,vs,e,q.K▸h1,ai.FO q us vs h2⟩
 |.CD ks us,v,h=>by
  obtain⟨a,e,h1,h2⟩:=h;exact⟨a,e,h1,h2.mv (λ_ q=>q) λvs z=>ai.FO q us vs z⟩
 |.De ks,v,h=>by
  obtain⟨a,e,h1,h2⟩:=h;exact⟨a,e,h1,by rw[<-q.P,<-q.w,<-q.K];exact h2⟩
theorem ai.FO(q:C.Eqv C'):∀(us:List U) (vs:List V),ai C S H us vs->ai C' S H us vs
 |[],_,h=>h
 |u::us,vs,h=>by
  obtain⟨v,r,e,h1,h2⟩:=h;exact⟨v,r,e,Rep.FO q u v h1,ai.FO q us r h2⟩
end
theorem Rep.cg(q:C.Eqv C')(h:Rep C S H u v):Rep C' S H u v:=Rep.FO q u v h
theorem ai.cg(q:C.Eqv C')(h:ai C S H us vs):ai C' S H us vs:=ai.FO q us vs h
end
def bW(C:Ct)(S:OS->Prop)(H:Hp)(r:OS):U->Prop
 |.lst us=>∃vs,H r=Od (.lst vs)/\ai C S H us vs
 |.CD ks us=>FL H (ai C S H us) r ks
 |.De ks=>dg C.P C.w C.K H r ks
 |_=>False
theorem bW.mv(m:Mv S H S' H')(hr:∀o,H r=Od o->H' r=Od o)(h:bW C S H r u):bW C S' H' r u:=by
 cases u with
 |lst us=>obtain⟨vs,h1,h2⟩:=h;exact⟨vs,hr _ h1,h2.mv m⟩
 |CD ks us=>exact FL.mv hr (λvs q=>q.mv m) h
 |De ks=>exact m.pd hr h
 |_=>exact h
theorem bW.rep(hs:∀a,S a->S' a)(hr:S' r)(h:bW C S H r u):Rep C S' H u (.ref r):=by
 cases u with
 |lst us=>obtain⟨vs,h1,h2⟩:=h;exact⟨r,vs,rfl,.inl ⟨hr,.inl h1⟩,h2.mv (.up hs)⟩
 |CD ks us=>exact⟨r,rfl,hr,FL.mv (λ_ q=>q) (λvs q=>q.mv (.up hs)) h⟩
 |De ks=>exact⟨r,rfl,hr,h⟩
 |_=>exact h.elim
theorem bW.cg(q:C.Eqv C')(h:bW C S H r u):bW C' S H r u:=by
 cases u with
 |lst us=>obtain⟨vs,h1,h2⟩:=h;exact⟨vs,h1,h2.cg q⟩
 |CD ks us=>exact FL.mv (λ_ q=>q) (λvs z=>z.cg q) h
 |De ks=>show dg _ _ _ _ _ _;rw[<-q.P,<-q.w,<-q.K];exact h
 |_=>exact h
theorem bW.some(h:bW C S H r u):∃o,H r=Od o/\¬Tp o:=by
 cases u with
 |lst us=>obtain⟨vs,h1,_⟩:=h;exact⟨_,h1,λz=>z⟩
 |CD ks us=>obtain⟨kvs,h1,_⟩:=h;exact⟨_,h1,λz=>z⟩
 |De ks=>obtain⟨xs,h1,_⟩:=h;exact⟨_,h1,λz=>z⟩
 |_=>exact h.elim
structure Cf where
 S:OS->Prop
 H:Hp
 σ:St
 st:ay
 kid:Nat->List OS
def Cf.R1(c:Cf)(a:OS):Prop:=∃(j:Nat) (k:Kd) (u:U),k.root=OA/\c.st[j]?=Od (Od (k,u))/\c.σ[j]?=Od (Od (.ref a))
def Cf.RD(c:Cf)(j:Nat)(a:OS):Prop:=∃(u:U) (r:OS),c.st[j]?=Od (Od (.B1,u))/\c.σ[j]?=Od (Od (.ref r))/\(a=r\/a∈c.kid j)
def Cf.R(c:Cf)(a:OS):Prop:=c.R1 a\/∃j,c.RD j a
def PS(C:Ct)(S:OS->Prop):OS->Prop:=λa=>C.D9 a\/S a
def dC(C:Ct)(S:OS->Prop)(H:Hp):Kd->U->V->Prop
 |.own,u,v=>∃r,v=.ref r/\¬S r/\¬C.D9 r/\C.H₀ r=OB/\bW C S H r u
 |.io,u,v=>∃r,v=.ref r/\¬S r/\¬C.D9 r/\C.IO r/\bW C S H r u
 |.loc,u,v=>Rep C S H u v
 |.any,u,v=>Rep C (PS C S) H u v
 |.bor _,_,_=>False
 |.B1,_,v=>∃r,v=.ref r
def kI(C:Ct)(S:OS->Prop)(H:Hp):List U->List OS->Prop
 |[],as=>as=[]
 |u::us,as=>∃a Gk ys vs,as=a::Gk/\u=.lst ys/\H a=Od (.lst vs)/\ai C S H ys vs/\kI C S H us Gk
def dE(C:Ct)(S:OS->Prop)(H:Hp)(r:OS)(as:List OS):U->Prop
 |.CD ks us=>∃kvs:List (Key×V),H r=Od (.dK kvs)/\kvs.map (·.1)=ks.map Pq/\kvs.map (·.2)=as.map V.ref/\(r::as).Nodup/\(∀a∈r::as,¬S a/\¬C.D9 a/\C.H₀ a=OB)/\kI C S H us as
 |_=>False
structure En(C:Ct)(c:Cf):Prop where
 kd:∀(j:Nat) (u:U) (r:OS),c.st[j]?=Od (Od (.B1,u))->c.σ[j]?=Od (Od (.ref r))->dE C c.S c.H r (c.kid j) u
 dj:∀(i j:Nat) (a:OS),c.RD i a->c.RD j a->i=j
 d1:∀(j:Nat) (a:OS),c.RD j a->¬c.R1 a
structure Ok(C:Ct)(c:Cf):Prop where
 same:∀a o,C.H₀ a=Od o->¬C.IO a->c.H a=Od o
 DG:∀a,c.S a->C.H₀ a=OB/\∃o,c.H a=Od o
 par:∀a,C.D9 a->(∃o,C.H₀ a=Od o)/\¬C.IO a
 io:∀a,C.IO a->(∃o,C.H₀ a=Od o)/\∃o,c.H a=Od o
 len:c.st.length=c.σ.length
 sl:∀(i:Nat) (k:Kd) (u:U),c.st[i]?=Od (Od (k,u))->∃v,c.σ[i]?=Od (Od v)/\dC C c.S c.H k u v
 inj:∀(i j:Nat) (k k':Kd) (u u':U) (r:OS),k.root=OA->k'.root=OA->c.st[i]?=Od (Od (k,u))->c.st[j]?=Od (Od (k',u'))->c.σ[i]?=Od (Od (.ref r))->c.σ[j]?=Od (Od (.ref r))->i=j
 dd:En C c
structure Ns(c c':Cf):Prop where
 keep:∀a o,c.H a=Od o->¬c.R a->c'.H a=Od o
 there:∀a o,c.H a=Od o->∃o',c'.H a=Od o'
 roots:∀a,c'.R a->c.R a\/c.H a=OB
 sub:∀a,c.S a->c'.S a
 new:∀a,c'.S a->c.S a\/c.R a\/c.H a=OB
section
theorem Ns.refl(c:Cf):Ns c c:=⟨λ_ _ h _=>h,λ_ o h=>⟨o,h⟩,λ_ h=>.inl h,λ_ h=>h,λ_ h=>.inl h⟩
theorem Ns.none(n:Ns c c')(h:c'.H a=.none):c.H a=.none:=by
 cases e:c.H a with
 |none=>rfl
 |some o=>obtain⟨o',q⟩:=n.there a o e;rw[h]at q;cases q
theorem Ns.trans(m:Ns c c')(n:Ns c' Eo):Ns c Eo where
 keep:=λa o h hr=>by
  refine n.keep a o (m.keep a o h hr) λz=>?_;rcases m.roots a z with z|z
  ·exact hr z
  ·rw[h]at z;cases z
 there:=λa o h=>let ⟨o',h'⟩:=m.there a o h;n.there a o' h'
 roots:=λa h=>by
  rcases n.roots a h with z|z
  ·exact m.roots a z
  ·exact .inr (m.none z)
 sub:=λa h=>n.sub a (m.sub a h)
 new:=λa h=>by
  rcases n.new a h with z|z|z
  ·exact m.new a z
  ·rcases m.roots a z with z|z
   ·exact .inr (.inl z)
   ·exact .inr (.inr z)
  ·exact .inr (.inr (m.none z))
theorem dC.rt(hk:k.root=OA)(h:dC C S H k u v):∃r,v=.ref r/\¬S r/\¬C.D9 r/\(C.H₀ r=OB\/C.IO r)/\bW C S H r u:=by
 cases k with
 |own=>obtain⟨r,h1,h2,h3,h4,h5⟩:=h;exact⟨r,h1,h2,h3,.inl h4,h5⟩
 |io=>obtain⟨r,h1,h2,h3,h4,h5⟩:=h;exact⟨r,h1,h2,h3,.inr h4,h5⟩
 |_=>cases hk
theorem kI.mem:∀{us:List U}{as:List OS}{a:OS},kI C S H us as->a∈as->∃vs,H a=Od (.lst vs)
 |[],as,a,h,ha=>by cases h;cases ha
 |u::us,as,a,h,ha=>by
  obtain⟨a',Gk,ys,vs,rfl,_,h1,_,h2⟩:=h;rcases OV.mp ha with rfl|ha
  ·exact⟨vs,h1⟩
  ·exact kI.mem h2 ha
theorem kI.mv(m:Mv S H S' H'):∀{us:List U}{as:List OS},(∀a∈as,∀o,H a=Od o->H' a=Od o)->kI C S H us as->kI C S' H' us as
 |[],as,_,h=>h
 |u::us,as,hf,h=>by
  obtain⟨a,Gk,ys,vs,rfl,e,h1,h2,h3⟩:=h;exact⟨a,Gk,ys,vs,rfl,e,hf a (by simp) _ h1,h2.mv m,kI.mv m (λa ha=>hf a (by simp[ha])) h3⟩
theorem dE.fr(h:dE C S H r as u):∀a∈r::as,¬S a/\¬C.D9 a/\C.H₀ a=OB:=by
 cases u<;>first|exact h.elim|(obtain⟨kvs,_,_,_,_,h5,_⟩:=h;exact h5)
theorem dE.there(h:dE C S H r as u):∀a∈r::as,∃o,H a=Od o/\¬Tp o:=by
 cases u<;>first|exact h.elim|skip
 obtain⟨kvs,h1,_,_,_,_,h6⟩:=h;intro a ha;rcases OV.mp ha with rfl|ha
 ·exact⟨_,h1,λz=>z⟩
 ·obtain⟨vs,e⟩:=h6.mem ha;exact⟨_,e,λz=>z⟩
theorem dE.mv(m:Mv S H S' H')(hf:∀a∈r::as,¬S' a/\∀o,H a=Od o->H' a=Od o)(h:dE C S H r as u):dE C S' H' r as u:=by
 cases u<;>first|exact h.elim|skip
 obtain⟨kvs,h1,h2,h3,h4,h5,h6⟩:=h;exact⟨kvs,(hf r (by simp)).2 _ h1,h2,h3,h4,λa ha=>⟨(hf a ha).1,(h5 a ha).2⟩,h6.mv m λa ha=>(hf a (by simp[ha])).2⟩
theorem En.of(d:En C c)(hk:c'.kid=c.kid)(hD:∀(j:Nat) (u:U),c'.st[j]?=Od (Od (.B1,u))->c.st[j]?=Od (Od (.B1,u))/\c'.σ[j]?=c.σ[j]?)(h1:∀a,c'.R1 a->c.R1 a\/∀j,¬c.RD j a)
  (m:Mv c.S c.H c'.S c'.H) (hf:∀j a,c.RD j a->¬c'.S a/\∀o,c.H a=Od o->c'.H a=Od o):En C c':=by
 have back:∀j a,c'.RD j a->c.RD j a:=λj a Du=>by
  obtain⟨u,r,e1,e2,e3⟩:=Du;obtain⟨q1,q2⟩:=hD j u e1;rw[q2]at e2;rw[hk]at e3;exact⟨u,r,q1,e2,e3⟩
 refine⟨λj u r e1 e2=>?_,λi j a z1 z2=>d.dj i j a (back i a z1) (back j a z2),λj a z1 z2=>?_⟩
 ·obtain⟨q1,q2⟩:=hD j u e1;rw[q2]at e2;rw[hk];exact dE.mv m (λa ha=>hf j a ⟨u,r,q1,e2,OV.mp ha⟩) (d.kd j u r q1 e2)
 ·rcases h1 a z2 with z|z
  ·exact d.d1 j a (back j a z1) z
  ·exact z j (back j a z1)
theorem En.hs(d:En C c)(m:Mv c.S c.H S' H')(hf:∀j a,c.RD j a->¬S' a/\∀o,c.H a=Od o->H' a=Od o):En C {c with H:=H',S:=S' } :=
 d.of rfl (λ_ _ e=>⟨e,rfl⟩) (λ_ z=>.inl z) m hf
theorem Ok.root(ok:Ok C c)(h:c.R r):¬c.S r/\¬C.D9 r/\(C.H₀ r=OB\/C.IO r)/\∃o,c.H r=Od o/\¬Tp o:=by
 rcases h with⟨j,k,u,hk,h1,h2⟩|⟨j,u,r',h1,h2,h3⟩
 ·obtain⟨v,e,hs⟩:=ok.sl j _ _ h1;obtain⟨r',ev,h3,h4,h5,h6⟩:=hs.rt hk;rw[h2]at e;cases e;cases ev;exact⟨h3,h4,h5,h6.some⟩
 ·have hd:=ok.dd.kd j u r' h1 h2;obtain⟨q1,q2,q3⟩:=dE.fr hd r (OV.mpr h3);exact⟨q1,q2,.inl q3,dE.there hd r (OV.mpr h3)⟩
theorem Ok.mv(ok:Ok C c)(n:Ns c c'):Mv c.S c.H c'.S c'.H:=⟨n.sub,λa o h t=>n.keep a o h λz=>by
  obtain⟨_,_,_,o',h',nt⟩:=ok.root z;rw[h]at h';cases h';exact nt t,λa o s h=>n.keep a o h λz=>(ok.root z).1 s⟩
theorem Ok.Gm(ok:Ok C c)(n:Ns c c'):Mv (PS C c.S) c.H (PS C c'.S) c'.H:=⟨λa h=>h.imp id (n.sub a),(ok.mv n).IZ,λa o s h=>n.keep a o h λz=>by
  rcases s with s|s
  ·exact(ok.root z).2.1 s
  ·exact(ok.root z).1 s⟩
theorem Ok.kJ(ok:Ok C c)(h:c.H p=OB):C.H₀ p=OB/\¬c.S p/\¬C.D9 p/\¬C.IO p/\¬c.R p:=by
 have CO:¬C.IO p:=λz=>by obtain⟨_,o,q⟩:=ok.io p z;rw[h]at q;cases q
 have h0:C.H₀ p=OB:=by
  cases e:C.H₀ p with
  |none=>rfl
  |some o=>have:=ok.same p o e CO;rw[h]at this;cases this
 refine⟨h0,λz=>?_,λz=>?_,CO,λz=>?_⟩
 ·obtain⟨_,o,q⟩:=ok.DG p z;rw[h]at q;cases q
 ·obtain⟨⟨o,q⟩,_⟩:=ok.par p z;rw[h0]at q;cases q
 ·obtain⟨_,_,_,o,q,_⟩:=ok.root z;rw[h]at q;cases q
theorem dC.mv(m:Mv S H S' H')(mp:Mv (PS C S) H (PS C S') H')(hr:k.root=OA->∀r,v=.ref r->¬S' r/\∀o,H r=Od o->H' r=Od o)(h:dC C S H k u v):dC C S' H' k u v:=by
 cases k with
 |own =>
  obtain⟨r,e,h1,h2,h3,h4⟩:=h;obtain⟨q1,q2⟩:=hr rfl r e;exact⟨r,e,q1,h2,h3,h4.mv m q2⟩
 |io =>
  obtain⟨r,e,h1,h2,h3,h4⟩:=h;obtain⟨q1,q2⟩:=hr rfl r e;exact⟨r,e,q1,h2,h3,h4.mv m q2⟩
 |loc=>exact Rep.mv m h
 |any=>exact Rep.mv mp h
 |bor j=>exact h.elim
 |B1=>exact h
structure Nx(c c':Cf):Prop extends Ns c c' where
instance {c c':Cf}:Coe (Nx c c') (Ns c c'):=⟨Nx.toNs⟩
theorem Nx.refl(c:Cf):Nx c c:=⟨.refl c⟩
theorem Nx.trans(m:Nx c c')(n:Nx c' Eo):Nx c Eo:=⟨m.toNs.trans n.toNs⟩
theorem Nx.none(n:Nx c c')(h:c'.H a=.none):c.H a=.none:=n.toNs.none h
theorem Ok.lay(ok:Ok C c)(h:c.H p=OB):Ok C {c with H:=upd c.H p o}/\Nx c {c with H:=upd c.H p o}:=by
 have ne:∀{a:OS} {o':HO},c.H a=Od o'->a≠p:=λe z=>by subst z;rw[h]at e;cases e
 have kp:∀a o',c.H a=Od o'->(upd c.H p o) a=Od o':=λa o' e=>by rw[ao (ne e)];exact e
 have nx:Nx c {c with H:=upd c.H p o}:=⟨⟨λa o' e _=>kp a o' e,λa o' e=>⟨o',kp a o' e⟩,λa z=>.inl z,λ_ z=>z,λ_ z=>.inl z⟩⟩
 refine⟨⟨λa o' e z=>kp a o' (ok.same a o' e z),λa z=>⟨(ok.DG a z).1,let ⟨o',q⟩:=(ok.DG a z).2;⟨o',kp a o' q⟩⟩,ok.par,λa z=>⟨(ok.io a z).1,let ⟨o',q⟩:=(ok.io a z).2;⟨o',kp a o' q⟩⟩,ok.len,λi k u e=>?_,ok.inj,ok.dd.hs (ok.mv nx.toNs) λj a z=>⟨(ok.root (.inr ⟨j,z⟩)).1,λo' e=>kp a o' e⟩⟩,nx⟩;obtain⟨v,e1,e2⟩:=ok.sl i k u e;refine⟨v,e1,e2.mv (ok.mv nx.toNs) (ok.Gm nx.toNs) λhk r er=>?_⟩;obtain⟨r',Dx,q1,_⟩:=e2.rt hk;rw[er]at Dx;cases Dx;exact⟨q1,λo' e=>kp r o' e⟩
theorem Ok.grow(ok:Ok C c)(hs:cX c.H H')(hS:∀a,S' a->c.S a\/(c.H a=OB/\∃o,H' a=Od o))(G0:∀a,c.S a->S' a):Ok C {c with H:=H',S:=S' }/\Nx c {c with H:=H',S:=S' }:=by
 have nx:Nx c {c with H:=H',S:=S' }:=⟨⟨λa o' e _=>hs a o' e,λa o' e=>⟨o',hs a o' e⟩,λa z=>.inl z,G0,λa z=>(hS a z).imp id λq=>.inr q.1⟩⟩
 refine⟨⟨λa o' e z=>hs a o' (ok.same a o' e z),λa z=>?_,ok.par,λa z=>⟨(ok.io a z).1,let ⟨o',q⟩:=(ok.io a z).2;⟨o',hs a o' q⟩⟩,ok.len,λi k u e=>?_,ok.inj,ok.dd.hs (ok.mv nx.toNs) λj a z=>⟨λz'=>?_,λo' e=>hs a o' e⟩⟩,nx⟩
 rotate_left 2
 ·obtain⟨q1,_,_,o,q4,_⟩:=ok.root (.inr ⟨j,z⟩);rcases hS a z' with z'|⟨z',_⟩
  ·exact q1 z'
  ·rw[q4]at z';cases z'
 ·rcases hS a z with q|⟨q1,q2⟩
  ·exact⟨(ok.DG a q).1,let ⟨o',q⟩:=(ok.DG a q).2;⟨o',hs a o' q⟩⟩
  ·exact⟨(ok.kJ q1).1,q2⟩
 ·obtain⟨v,e1,e2⟩:=ok.sl i k u e;refine⟨v,e1,e2.mv (ok.mv nx.toNs) (ok.Gm nx.toNs) λhk r er=>?_⟩;obtain⟨r',Dx,q1,q2,q3,q4⟩:=e2.rt hk;rw[er]at Dx;cases Dx;obtain⟨o,ho,_⟩:=q4.some;refine⟨λz=>?_,λo' e=>hs r o' e⟩;rcases hS r z with z|⟨z,_⟩
  ·exact q1 z
  ·rw[z]at ho;cases ho
def aC(C:Ct)(c0 c:Cf):Kd->U->V->Prop
 |.own,u,v=>∃r,v=.ref r/\c0.H r=OB/\¬c.S r/\¬c.R r/\bW C c.S c.H r u
 |.loc,u,v=>Rep C c.S c.H u v
 |.any,u,v=>Rep C (PS C c.S) c.H u v
 |.bor j,u,v=>(∃k:Kd,k.root=OA/\c.st[j]?=Od (Od (k,u)))/\c.σ[j]?=Od (Od v)
 |.io,_,_=>False
 |.B1,_,_=>False
def dF(C:Ct)(c0 c:Cf):Kd->U->V->Prop
 |.own,u,v=>∃r,v=.ref r/\c0.H r=OB/\¬c.S r/\¬c.R r/\bW C c.S c.H r u
 |.loc,u,v=>Rep C c.S c.H u v
 |.any,u,v=>Rep C (PS C c.S) c.H u v
 |.bor j,u,v=>c.σ[j]?=Od (Od v)
 |.io,_,_=>False
 |.B1,_,_=>False
theorem aC.w(h:aC C c0 c k u v):dF C c0 c k u v:=by
 cases k with
 |bor j=>exact h.2
 |_=>exact h
theorem dF.Lo(ok:Ok C c)(n:Ns c c')(hσ:∀j,k=.bor j->c'.σ[j]?=c.σ[j]?)(h:dF C c0 c k u v):dF C c0 c' k u v:=by
 cases k with
 |own =>
  obtain⟨r,e,h1,h2,h3,h4⟩:=h;obtain⟨o,ho,_⟩:=h4.some;refine⟨r,e,h1,λz=>?_,λz=>?_,h4.mv (ok.mv n) λo q=>n.keep r o q h3⟩
  ·rcases n.new r z with z|z|z
   ·exact h2 z
   ·exact h3 z
   ·rw[z]at ho;cases ho
  ·rcases n.roots r z with z|z
   ·exact h3 z
   ·rw[z]at ho;cases ho
 |loc=>exact Rep.mv (ok.mv n) h
 |any=>exact Rep.mv (ok.Gm n) h
 |bor j=>show c'.σ[j]?=_;rw[hσ j rfl];exact h
 |_=>exact h
theorem dF.on(ok:Ok C c)(n:Ns c c')(hσ:c'.σ=c.σ)(h:dF C c0 c k u v):dF C c0 c' k u v:=h.Lo ok n λj _=>by rw[hσ]
theorem dF.from(n:Ns c0 c1)(h:dF C c1 c k u v):dF C c0 c k u v:=by
 cases k with
 |own=>obtain⟨r,e,h1,h2⟩:=h;exact⟨r,e,n.none h1,h2⟩
 |_=>exact h
theorem aC.from(n:Ns c0 c1)(h:aC C c1 c k u v):aC C c0 c k u v:=by
 cases k with
 |own=>obtain⟨r,e,h1,h2⟩:=h;exact⟨r,e,n.none h1,h2⟩
 |_=>exact h
def SK(C:Ct)(c:Cf):Kd->OS->Prop
 |.any=>PS C c.S
 |_=>c.S
def kE:Kd->Kd
 |.any=>.any
 |_=>.loc
theorem Ok.rootOf(ok:Ok C c){j:Nat}(h:∃k:Kd,k.root=OA/\c.st[j]?=Od (Od (k,u)))(e:c.σ[j]?=Od (Od v)):∃r,v=.ref r/\¬c.S r/\¬C.D9 r/\(C.H₀ r=OB\/C.IO r)/\bW C c.S c.H r u:=by
 obtain⟨k,hk,h⟩:=h;obtain⟨v',e1,e2⟩:=ok.sl j _ _ h;rw[e]at e1;cases e1;exact e2.rt hk
theorem aC.list(ok:Ok C c)(h:aC C c0 c k (.lst us) v):∃a vs,v=.ref a/\Cn C.K c.H a vs/\ai C (SK C c k) c.H us vs:=by
 cases k with
 |own=>obtain⟨r,e,_,_,_,vs,h1,h2⟩:=h;exact⟨r,vs,e,Cn.of h1,h2⟩
 |bor j=>obtain⟨r,e,_,_,_,vs,h1,h2⟩:=ok.rootOf h.1 h.2;exact⟨r,vs,e,Cn.of h1,h2⟩
 |io=>exact h.elim
 |B1=>exact h.elim
 |_=>obtain⟨a,vs,e,h1,h2⟩:=h;exact⟨a,vs,e,h1.sq,h2⟩
theorem aC.tuple(ok:Ok C c)(h:aC C c0 c k (.tup us) v):∃a vs,v=.ref a/\Ci C.K c.H a vs/\ai C (SK C c k) c.H us vs:=by
 cases k with
 |own=>obtain⟨r,e,_,_,_,h⟩:=h;exact h.elim
 |bor j=>obtain⟨r,e,_,_,_,h⟩:=ok.rootOf h.1 h.2;exact h.elim
 |io=>exact h.elim
 |B1=>exact h.elim
 |_=>obtain⟨a,vs,e,h1,h2⟩:=h;exact⟨a,vs,e,h1,h2⟩
theorem aC.flat(ok:Ok C c)(hu:Co u=OA)(h:aC C c0 c k u v):Rep C c.S c.H u v:=by
 cases k with
 |own=>obtain⟨r,e,_,_,_,h⟩:=h;cases u<;>simp[Co]at hu<;>exact h.elim
 |loc=>exact h
 |any=>exact Rep.Co hu h
 |bor j=>obtain⟨r,e,_,_,_,h⟩:=ok.rootOf h.1 h.2;cases u<;>simp[Co]at hu<;>exact h.elim
 |_=>exact h.elim
theorem aC.int(ok:Ok C c)(h:aC C c0 c k (.int i) v):v=.int i:=h.flat ok rfl
theorem aC.str(ok:Ok C c)(h:aC C c0 c k (.str x) v):v=.str x:=h.flat ok rfl
theorem aC.bl(ok:Ok C c)(h:aC C c0 c k (.bl b) v):v=.bl b:=h.flat ok rfl
theorem aC.BZ(ok:Ok C c)(h:aC C c0 c k .BZ v):v=.BZ:=h.flat ok rfl
theorem aC.item(h:Rep C (SK C c k) c.H u v):aC C c0 c (kE k) u v:=by
 cases k<;>exact h
def DH(H:Hp):OS->Prop:=λa=>∃o,H a=Od o
theorem Ok.sF(ok:Ok C c):∀a,c.S a->DH c.H a:=λa h=>(ok.DG a h).2
theorem Ok.Aj(ok:Ok C c):∀a,PS C c.S a->DH c.H a:=λa h=>by
 rcases h with h|h
 ·obtain⟨⟨o,e⟩,n⟩:=ok.par a h;exact⟨o,ok.same a o e n⟩
 ·exact ok.sF a h
theorem aC.read(ok:Ok C c)(h:aC C c0 c k u v):Rep C (DH c.H) c.H u v:=by
 cases k with
 |own =>
  obtain⟨r,e,_,_,_,h4⟩:=h;rw[e];obtain⟨o,ho,_⟩:=h4.some;exact h4.rep ok.sF ⟨o,ho⟩
 |loc=>exact Rep.mv (.up ok.sF) h
 |any=>exact Rep.mv (.up ok.Aj) h
 |bor j =>
  obtain⟨r,e,_,_,_,h4⟩:=ok.rootOf h.1 h.2;rw[e];obtain⟨o,ho,_⟩:=h4.some;exact h4.rep ok.sF ⟨o,ho⟩
 |_=>exact h.elim
theorem Ok.newList(ok:Ok C c)(n:Nx c0 c)(h:c.H p=OB)(hr:ai C c.S c.H us vs):
  Ok C {c with H:=upd c.H p (.lst vs)}/\Nx c0 {c with H:=upd c.H p (.lst vs)}/\aC C c0 {c with H:=upd c.H p (.lst vs)} .own (.lst us) (.ref p):=by
 obtain⟨Cb,n'⟩:=ok.lay (o:=.lst vs) h;obtain⟨h0,h1,h2,h3,h4⟩:=ok.kJ h;exact⟨Cb,n.trans n',p,rfl,n.none h,h1,h4,vs,av,hr.mv (ok.mv n'.toNs)⟩
theorem Ok.yz(ok:Ok C c)(n:Nx c0 c)(h:c.H p=OB)(hr:ai C c.S c.H us vs):
  Ok C {c with H:=upd c.H p (.tup vs)}/\Nx c0 {c with H:=upd c.H p (.tup vs)}/\aC C c0 {c with H:=upd c.H p (.tup vs)} .loc (.tup us) (.ref p):=by
 obtain⟨Cb,n'⟩:=ok.lay (o:=.tup vs) h;exact⟨Cb,n.trans n',p,vs,rfl,Ci.of av,hr.mv (ok.mv n'.toNs)⟩
end
inductive Ex(α:Type) where|ok (a:α)|exc (c:Str)
def M(α:Type):=ay->Option (Ex α×ay)
namespace M
def pure(a:α):M α:=λst=>Od (.ok a,st)
def fail:M α:=λ_=>OB
def bind(m:M α)(f:α->M β):M β:=λst=>match m st with
 |none=>OB
 |some (.ok a,st')=>f a st'
 |some (.exc c,st')=>Od (.exc c,st')
def Ca(o:Option α):M α:=λst=>match o with
 |none=>OB
 |some a=>Od (.ok a,st)
end M
instance:Monad M:={pure:=M.pure,bind:=M.bind}
def W{α:Type}(m:M α)(st:ay)(Q:α->ay->Prop):Prop:=∃a st',m st=Od (.ok a,st')/\Q a st'
section
theorem aj:W (pure a) st Q↔Q a st:=by
 constructor
 ·rintro⟨b,st',e,h⟩;cases e;exact h
 ·intro h;exact⟨a,st,rfl,h⟩
theorem af:W (m >>= f) st Q↔W m st λa st'=>W (f a) st' Q:=by
 constructor
 ·rintro⟨b,st',e,h⟩;have e':M.bind m f st=Od (.ok b,st'):=e;unfold M.bind at e';cases q:m st with
  |none=>rw[q]at e';cases e'
  |some r =>
   obtain⟨r,s1⟩:=r;rw[q]at e';cases r with
   |ok a=>exact⟨a,s1,q,b,st',e',h⟩
   |exc c=>cases e'
 ·rintro⟨a,s1,q,b,st',e,h⟩;refine⟨b,st',?_,h⟩;show M.bind m f st=_;unfold M.bind;rw[q];exact e
theorem bQ:W (M.Ca o) st Q↔∃a,o=Od a/\Q a st:=by
 cases o with
 |none=>exact⟨λ⟨_,_,e,_⟩=>(by cases e),λ⟨_,e,_⟩=>(by cases e)⟩
 |some a=>exact⟨λ⟨_,_,e,h⟩=>(by cases e;exact⟨a,rfl,h⟩),λ⟨_,e,h⟩=>(by cases e;exact⟨a,st,rfl,h⟩)⟩
theorem aq:W (M.fail:M α) st Q↔False:=⟨λ⟨_,_,e,_⟩=>(by cases e),Q2⟩
theorem W.mono(h:W m st Q)(i:∀a s,Q a s->Q' a s):W m st Q':=let ⟨a,s,e,q⟩:=h;⟨a,s,e,i a s q⟩
end
inductive Ja where|add|sub|mul|EZ|mod|pow
deriving DecidableEq
inductive HN where|eq|ne|lt|le|gt|ge|isin|Cd|is|Gn
deriving DecidableEq
inductive Bf where|len|sorted|list|tuple|str|int|repr|max|min|all|any
 |sum
deriving DecidableEq
inductive B2 where|Eg|Dq|sset|gI
deriving DecidableEq
inductive Mf where|split|join|partition|endswith
deriving DecidableEq
inductive Dy where|str|list|tuple|int|bool
deriving DecidableEq
inductive Ik where|seq|Cq|Nc|G4|zip|rev
 |HP
deriving DecidableEq
inductive E where
 |var (i:Nat)
 |cst (u:U)
 |Jb (x:Str) (u:U)
 |bin (op:Ja) (a b:E)
 |cmp (op:HN) (a b:E)
 |EF (o1 o2:HN) (a b c:E)
 |and (es:List E)|or (es:List E)|not (a:E)
 |ite (c a b:E)
 |tup (es:List E)|lst (es:List E)|C8 (r:Bool)
 |idx (a b:E)
 |Eh (a:E) (lo hi:List E)
 |bi (f:Bf) (es:List E)
 |Fi (f:B2) (es:List E)
 |E1 (m:Mf) (a:E) (es:List E)
 |call (f:Str) (es:List E)
 |comp (k:Nat) (t:Bool) (ik:Ik) (src:List E) (cond:List E) (e:E)
 |neg (a:E)|bad|DQ (a:E) (T:Dy)|fst (es:List E)|inD (neg:Bool) (a:E) (i:Nat)|Jc (i:Nat)|Fj (i:Nat) (k d:E)|Jd (i:Nat)|Je (ln:Bool) (a b:E)
 |BV (f:Str) (es:List E) (is:List Nat)
 |pop (i:Nat)|Dz (i:Nat) (e:E)
inductive S where
 |set (i:Nat) (e:E)
 |Fm (is:List Nat) (e:E)
 |put (i:Nat) (k v:E)
 |app (i:Nat) (e:E)|ext (i:Nat) (e:E)|bad|newD (i:Nat)|putD (i:Nat) (k v:E)|Fo (i:Nat) (k v:E)|aug (sub:Bool) (i:Nat) (k v:E)|Jf (i:Nat)
 |exp (e:E)
 |ret (e:E)|DR
 |ite (c:E) (a b:List S)
 |B' (t:Bool) (is:List Nat) (ik:Ik) (src:List E) (body:List S)
 |EG (c:E) (body:List S)
 |brk|cnt|Jg
 |Dr (is:List Nat)
 |Gp (i:Nat)
def isAny:Kd->Bool
 |.any=>OA
 |_=>OE
def fG(k:Kd)(xs:List U):Bool:=!isAny k||bD xs
def kT(k k':Kd):Kd:=if isAny k||isAny k' then .any else .loc
def cut{α:Type}(xs:List α)(lo hi:Option Int):List α:=(xs.drop (HT.B4 xs.length 0 lo)).take (HT.B4 xs.length xs.length hi - HT.B4 xs.length 0 lo)
def vI:Kd×U->Kd×U->Option (Kd×U)
 |(_,.int i),(_,.int j)=>Od (.loc,.int (i+j))
 |(_,.str x),(_,.str y)=>if x.length+y.length<=OG then Od (.loc,.str (x++y)) else OB
 |(k,.lst xs),(k',.lst ys)=>if xs.length+ys.length<=OG/\fG k xs=OA/\fG k' ys=OA then Od (.own,.lst (xs++ys)) else OB
 |(k,.tup xs),(k',.tup ys)=>if xs.length+ys.length<=OG then Od (kT k k',.tup (xs++ys)) else OB
 |_,_=>OB
def nJ(f:Int->Int->Option Int):U->U->Option (Kd×U)
 |.int i,.int j=>(f i j).map λn=>(.loc,.int n)
 |_,_=>OB
def vJ(i j:Int):Option Int:=if ((-(2 ^ 64)<i/\i<2 ^ 64)\/(-(2 ^ 64)<j/\j<2 ^ 64)) then Od (i * j) else OB
def vK(i j:Int):Option Int:=if 0<j/\j<1073741824 then Od (i / j) else OB
def vL(i j:Int):Option Int:=if 0<j then Od (i % j) else OB
def vM(i j:Int):Option Int:=if 0<=j/\j<=1000000/\i.natAbs<2 ^ 64 then Od (i ^ j.toNat) else OB
def EH(op:Ja)(x y:Kd×U):Option (Kd×U):=match op with
 |.add=>vI x y
 |.sub=>nJ (λi j=>Od (i - j)) x.2 y.2
 |.mul=>nJ vJ x.2 y.2
 |.EZ=>nJ vK x.2 y.2
 |.mod=>nJ vL x.2 y.2
 |.pow=>nJ vM x.2 y.2
mutual
def DA:Nat->U->Bool
 |_,.CD _ _=>OE
 |_,.De _=>OE
 |0,.tup _=>OE
 |0,.lst _=>OE
 |n+1,.tup xs=>iD n xs
 |n+1,.lst xs=>iD n xs
 |_,.BZ=>OA|_,.bl _=>OA|_,.int _=>OA|_,.str _=>OA
def iD:Nat->List U->Bool
 |_,[]=>OA
 |n,u::us=>DA n u&&iD n us
end
mutual
def bJ:U->U->Bool
 |.BZ,.BZ=>OA
 |.bl a,.bl b=>a==b
 |.bl a,.int b=>(if a then 1 else 0)==b
 |.int a,.bl b=>a==(if b then 1 else 0)
 |.int a,.int b=>a==b
 |.str a,.str b=>a==b
 |.tup xs,.tup ys=>bY xs ys
 |.lst xs,.lst ys=>bY xs ys
 |_,_=>OE
def bY:List U->List U->Bool
 |[],[]=>OA
 |u::us,w::ws=>bJ u w&&bY us ws
 |_,_=>OE
end
def Gq(x:U)(ys:List U):Option Bool:=if DA 50 x=OA/\iD 50 ys=OA then Od (ys.any λy=>bJ y x) else OB
def strsOf:List U->Option (List Str)
 |[]=>Od []
 |.str x::us=>(strsOf us).map (x::·)
 |_::_=>OB
def rowOf:U->Option lK
 |.tup [.str x,.tup ys]=>(strsOf ys).map λss=>(x,ss)
 |_=>OB
def vN:U->U->Option Bool
 |x,.lst ys=>Gq x ys
 |x,.tup ys=>Gq x ys
 |.str x,.CD ks _=>Od (OI (x∈ks))
 |x,.De ks=>(rowOf x).map λr=>OI (r∈ks)
 |_,_=>OB
def gf:List Str->List U->Str->Option U
 |y::ks,u::us,x=>if y=x then Od u else gf ks us x
 |_,_,_=>OB
def dput(ks:List Str)(us:List U)(x:Str)(u:U):List Str×List U :=
 if x∈ks then(ks,(ks.zip us).map λp=>if p.1=x then u else p.2) else(ks++[x],us++[u])
def jD:U->Bool
 |.BZ=>OA
 |_=>OE
def b7:HN->U->U->Option Bool
 |.eq,a,b=>if DA 50 a=OA/\DA 50 b=OA then Od (bJ a b) else OB
 |.ne,a,b=>if DA 50 a=OA/\DA 50 b=OA then Od (!bJ a b) else OB
 |.lt,.int i,.int j=>Od (OI (i<j))
 |.gt,.int i,.int j=>Od (OI (j<i))
 |.ge,.int i,.int j=>Od (OI (j<=i))
 |.isin,x,y=>vN x y
 |.Cd,x,y=>(vN x y).map (!·)
 |.is,x,.BZ=>Od (jD x)
 |.Gn,x,.BZ=>Od (!jD x)
 |.is,.bl x,.bl y=>Od (x==y)
 |.Gn,.bl x,.bl y=>Od (!(x==y))
 |_,_,_=>OB
def iE:List U->Option (List Bool)
 |[]=>Od []
 |.bl x::us=>(iE us).map (x::·)
 |_::_=>OB
def dG:Kd×U->U->Option (Kd×U)
 |(k,.lst xs),.int i=>(CS xs i).map λu=>(kE k,u)
 |(k,.tup xs),.int i=>(CS xs i).map λu=>(kE k,u)
 |(_,.str x),.int i=>if x.length<=OG then(CS x.cps.toList i).map λc=>(.loc,.str ⟨#[c]⟩) else OB
 |(k,.CD ks us),.str x=>(gf ks us x).map λu=>(kE k,u)
 |_,_=>OB
def l8:Kd×U->Option Int->Option Int->Option (Kd×U)
 |(k,.lst xs),lo,hi=>if fG k xs=OA then Od (.own,.lst (cut xs lo hi)) else OB
 |(k,.tup xs),lo,hi=>Od (kE k,.tup (cut xs lo hi))
 |(_,.str x),lo,hi=>if x.length<=OG then Od (.loc,.str (PySem.StrLaws.sliceText x lo hi)) else OB
 |_,_,_=>OB
def yA:U->Option Nat
 |.lst xs=>Od xs.length
 |.tup xs=>Od xs.length
 |.str x=>if x.length<=OG then Od x.length else OB
 |_=>OB
def dn{β:Type}(f:Kd×U->Option β):List (Kd×U)->Option β
 |[x]=>f x
 |_=>OB
def intsOf:List U->Option (List Int)
 |[]=>Od []
 |.int x::us=>(intsOf us).map (x::·)
 |_::_=>OB
def jE:List U->Option (List Str)
 |[]=>Od []
 |.tup [.str x,.int _]::us=>(jE us).map (x::·)
 |_::_=>OB
def vO(k:Kd)(xs:List U):Option (Kd×U):=(jE xs).bind λks=>if ks.length<64/\ks.Nodup/\fG k xs=OA then Od (.own,.lst ((eC ks).map λi=>xs.getD i .BZ)) else OB
def vP(k:Kd)(xs:List U):Option (Kd×U):=match strsOf xs with
 |some ss=>if ss.length<64 then Od (.own,.lst ((aF ss).map .str)) else OB
 |none=>vO k xs
def yB:Kd×U->Option (Kd×U)
 |(k,.lst xs)=>vP k xs
 |(_,.CD ks _)=>if ks.length<64 then Od (.own,.lst ((aF ks).map .str)) else OB
 |(_,.tup xs)=>(strsOf xs).bind λss=>if ss.length<64 then Od (.own,.lst ((aF ss).map .str)) else OB
 |_=>OB
def yC:Kd×U->Option (Kd×U)
 |(k,.lst xs)=>if fG k xs=OA then Od (.own,.lst xs) else OB
 |(k,.tup xs)=>if fG k xs=OA then Od (.own,.lst xs) else OB
 |_=>OB
def yD:Kd×U->Option (Kd×U)
 |(k,.lst xs)=>Od (kE k,.tup xs)
 |(k,.tup xs)=>Od (kE k,.tup xs)
 |_=>OB
def vQ:Kd×U->Option (Kd×U)
 |(_,.int i)=>if i.natAbs.log2<1920 then Od (.loc,.str (W9 i)) else OB
 |_=>OB
def yE:Kd×U->Option (Kd×U)
 |(_,.lst xs)=>(iE xs).map λbs=>(.loc,.bl (bs.all id))
 |_=>OB
def yF:Kd×U->Option (Kd×U)
 |(_,.lst xs)=>(intsOf xs).map λns=>(.loc,.int ns.sum)
 |_=>OB
def Ds(f:Bf)(rs:List (Kd×U)):Option (Kd×U):=match f with
 |.len=>dn (λx=>(yA x.2).map λ(n:Nat)=>(Kd.loc,U.int (n:Int))) rs
 |.sorted=>dn yB rs
 |.list=>dn yC rs
 |.tuple=>dn yD rs
 |.str=>dn vQ rs
 |.all=>dn yE rs
 |.sum=>dn yF rs
 |_=>OB
def qK:U->Option (List Str)
 |.lst xs=>(strsOf xs).bind λss=>if ss.length+1<QP then Od (bo ss) else OB
 |.tup xs=>(strsOf xs).bind λss=>if ss.length+1<QP then Od (bo ss) else OB
 |_=>OB
def yG:Kd×U->Option (Kd×U)
 |(k,.lst xs)=>Od (kE k,.tup xs.reverse)
 |_=>OB
def yH:Kd×U->Option (Kd×U)
 |(k,.lst xs)=>if fG k xs=OA then Od (.own,.lst xs.reverse) else OB
 |_=>OB
def nK(f:B2)(rs:List (Kd×U)):Option (Kd×U):=match f with
 |.Eg=>dn yG rs
 |.Dq=>dn yH rs
 |.sset=>dn (λx=>(qK x.2).bind λss=>if ss.length<64 then Od (.own,.lst ((aF ss).map .str)) else OB) rs
 |.gI=>dn (λx=>(qK x.2).map λss=>(.loc,.int ss.length)) rs
def iF:Mf->U->List (Kd×U)->Option (Kd×U)
 |.split,.str a,[(_,.str b)]=>if (b.length==0)=OE/\a.length+2<=OG then Od (.own,.lst ((UM a b).map .str)) else OB
 |.join,.str a,[(_,.lst xs)]=>(strsOf xs).bind λss=>if Wj a ss=OA then Od (.loc,.str (SU a ss)) else OB
 |_,_,_=>OB
def BO:Kd×U->Option (List (Kd×U))
 |(k,.lst xs)=>Od (xs.map λu=>(kE k,u))
 |(k,.tup xs)=>Od (xs.map λu=>(kE k,u))
 |_=>OB
def sG:Kd×U->Option (List (Kd×U))
 |(_,.int n)=>if n<2 ^ 62/\-(2 ^ 62)<n then Od ((O2 n.toNat).map λi:Nat=>(Kd.loc,U.int (0+(i:Int)))) else OB
 |_=>OB
def yI:Kd×U->Option (List (Kd×U))
 |(k,.lst xs)=>Od (xs.zipIdx.map λp=>(kE k,.tup [.int p.2,p.1]))
 |(k,.tup xs)=>Od (xs.zipIdx.map λp=>(kE k,.tup [.int p.2,p.1]))
 |_=>OB
def nL(d:List Str×List U):List (Kd×U):=(d.1.zip d.2).map λp=>(Kd.loc,U.tup [.str p.1,p.2])
def yJ:Kd×U->Option (List (Kd×U))
 |(.own,.CD ks us)=>Od (nL (ks,us))
 |_=>OB
def DB(ik:Ik)(rs:List (Kd×U)):Option (List (Kd×U)):=match ik with
 |.seq=>dn BO rs
 |.Cq=>dn sG rs
 |.G4=>dn yI rs
 |.HP=>dn yJ rs
 |_=>OB
def jm:U->Option Bool
 |.bl b=>Od b
 |.lst xs=>Od !xs.isEmpty
 |.tup xs=>Od !xs.isEmpty
 |.str x=>if x.length<=OG then Od ((x.length:Int) != 0) else OB
 |_=>OB
def lift:Kd×U->M U
 |(.own,u)=>pure u
 |(.loc,u)=>pure u
 |(.any,u)=>if Co u=OA then pure u else M.fail
 |(.bor j,_)=>λst=>match st[j]? with
  |some (Od (.own,u))=>Od (.ok u,st.set j (Od (.loc,u)))
  |_=>OB
 |(.io,_)=>M.fail
 |(.B1,_)=>M.fail
def cu:List (Kd×U)->M (List U)
 |[]=>pure []
 |r::rs=>do let u <-lift r;let us <-cu rs;pure (u::us)
def dq(i:Nat):Kd×U->M Unit
 |(.bor j,_)=>λst=>match st[j]? with
  |some (Od (.own,u))=>Od (.ok (),(st.set j (Od (.loc,u))).set i (Od (.loc,u)))
  |_=>OB
 |(.io,_)=>M.fail
 |(.B1,_)=>M.fail
 |(k,u)=>λst=>Od (.ok (),st.set i (Od (k,u)))
def aX:List (Kd×U)->ay->Prop
 |[],_=>True
 |(.bor j,u)::rs,st=>(∃k:Kd,k.root=OA/\st[j]?=Od (Od (k,u)))/\aX rs st
 |_::rs,st=>aX rs st
open Classical in
noncomputable def ar(rs:List (Kd×U)):M Unit:=λst=>if aX rs st then Od (.ok (),st) else OB
abbrev Tab:=Str->List U->Option (Ex (Kd×U))
def iG(Γ:Tab)(f:Str)(us:List U):M (Kd×U):=λst=>match Γ f us with
 |some (.ok (.any,_))=>OB
 |none=>OB
 |some r=>Od (r,st)
def eZ(rs:List (Kd×U))(p:Nat):Option Nat:=match rs[p]? with
 |some (.bor j,.lst us)=>if bD us=OA then Od j else OB
 |_=>OB
def sH(js:List (Option Nat)):Kd×U->Bool
 |(.bor j,_)=>OI (Od j∉js)
 |_=>OA
def l9(rs:List (Kd×U))(is:List Nat):Bool:=is.all (λp=>(eZ rs p).isSome)&&OI ((is.map (eZ rs)).Nodup)&&(O2 rs.length).all λq=>OI (q∈is)||sH (is.map (eZ rs)) (rs.getD q (.loc,.BZ))
def eM(rs:List (Kd×U)):List Nat->List U->ay->Option ay
 |[],[],st=>Od st
 |p::is,w::ws,st=>match eZ rs p with
  |some j=>match w,st[j]? with
   |.lst us,Od (Od (k,_))=>eM rs is ws (st.set j (Od (k,.lst us)))
   |_,_=>OB
  |none=>OB
 |_,_,_=>OB
def Kf:Kd×U->Option (Kd×U×List U)
 |(.own,.tup (u::ws))=>Od (.own,u,ws)
 |(.loc,.tup (u::ws))=>Od (.loc,u,ws)
 |_=>OB
def cH(st:ay):Kd×U->Kd×U
 |(.bor j,u)=>(.bor j,match st[j]? with|some (Od (k,u'))=>if k.root=OA then u' else u|_=>u)
 |r=>r
def vR(rs:List (Kd×U)):M (List (Kd×U)):=λst=>Od (.ok (rs.map (cH st)),st)
def l_(Γ:Tab)(f:Str)(rs:List (Kd×U))(is:List Nat):M (Kd×U):=λst=>match Γ f (rs.map (·.2)) with
 |some (.ok r)=>match Kf r with
  |some (k,u,ws)=>if l9 rs is=OA then(match eM rs is ws st with|some st'=>Od (.ok (k,u),st')|none=>OB) else OB
  |none=>OB
 |_=>OB
def sI(i:Nat):M (Kd×U):=λst=>match st[i]? with
 |some (Od (k,.lst us))=>if k.root=OA then(match us[us.length - 1]? with|some u=>Od (.ok (.loc,u),st.set i (Od (k,.lst us.dropLast)))|none=>OB) else OB
 |_=>OB
def qL(i:Nat):U->M (Kd×U)
 |.int j=>λst=>match st[i]? with
  |some (Od (k,.lst us))=>if k.root=OA/\0<=j/\j<1000000 then(match us[j.toNat]? with|some u=>Od (.ok (.loc,u),st.set i (Od (k,.lst (us.eraseIdx j.toNat))))|none=>OB) else OB
  |_=>OB
 |_=>M.fail
def dH(i:Nat):M (Kd×U):=λst=>match st[i]? with
 |some (Od (.B1,_))=>OB
 |some (Od (k,u))=>Od (.ok (if k.root=OA then .bor i else k,u),st)
 |_=>OB
def sets:List Nat->List (Kd×U)->M Unit
 |[],[]=>pure ()
 |i::is,r::rs=>do dq i r;sets is rs
 |_,_=>M.fail
def cT(t:Bool)(is:List Nat)(r:Kd×U):M Unit:=match t,is,r with
 |false,[i],r=>dq i r
 |true,is,(k,.tup xs)=>sets is (xs.map λu=>(kE k,u))
 |_,_,_=>M.fail
def inScope{α:Type}(k:Nat)(m:M α):M α:=λst=>match m (OZ k OB++st) with
 |none=>OB
 |some (r,st')=>Od (r,st'.drop k)
noncomputable def bw(k:Nat)(t:Bool)(cond:M Bool)(elt:M (Kd×U))(src:List (Kd×U)):List (Kd×U)->List U->M (List U)
 |[],acc=>do ar src;pure acc
 |x::xs,acc=>do
  ar src
  let r <-inScope k (cT t (O2 k) x >>= λ_=>cond >>= λb=>if b=OA then(elt >>= λr=>lift r >>= λu=>pure (Od u)) else pure OB)
  match r with
  |some u=>if acc.length<OG then bw k t cond elt src xs (acc++[u]) else M.fail
  |none=>bw k t cond elt src xs acc
def mf:U->Dy->Option Bool
 |.str _,T=>Od (OI (T=.str))
 |.int _,T=>Od (OI (T=.int))
 |.bl _,.bool=>Od OA
 |.bl _,.int=>Od OA
 |.lst _,T=>Od (OI (T=.list))
 |.tup _,T=>Od (OI (T=.tuple))
 |_,_=>OB
def BP:Kd×U->Option (Kd×U)
 |(_,.int i)=>Od (.loc,.int (-i))
 |_=>OB
def yK(x:Kd×U):M (Option Int):=match x.2 with
 |.int i=>pure (Od i)
 |_=>M.fail
def Fp:U->M Unit
 |.lst _=>pure ()
 |_=>M.fail
section
variable(Γ:Tab)
mutual
noncomputable def ev:E->M (Kd×U)
 |.var i=>dH i
 |.cst u=>pure (.loc,u)
 |.Jb _ u=>pure (.loc,u)
 |.bin op a b=>do
  let x <-ev a
  let y <-ev b
  ar [x,y]
  M.Ca (EH op x y)
 |.cmp op a b=>do
  let x <-ev a
  let y <-ev b
  ar [x,y]
  let c <-M.Ca (b7 op x.2 y.2)
  pure (.loc,.bl c)
 |.EF o1 o2 a b c=>do
  let x <-ev a
  let y <-ev b
  ar [x,y]
  let p <-M.Ca (b7 o1 x.2 y.2)
  if p=OA then do
   let z <-ev c
   ar [y,z]
   let q <-M.Ca (b7 o2 y.2 z.2)
   pure (.loc,.bl q)
  else pure (.loc,.bl OE)
 |.and es=>fH es
 |.or es=>yL es
 |.not a=>do
  let x <-ev a
  match x.2 with
  |.bl c=>pure (.loc,.bl !c)
  |_=>M.fail
 |.ite c a b=>do
  let p <-Cc c
  if p=OA then ev a else ev b
 |.tup es=>do
  let rs <-ba es
  ar rs
  let us <-cu rs
  if us.length<=OG then pure (.loc,.tup us) else M.fail
 |.lst es=>do
  let rs <-ba es
  ar rs
  let us <-cu rs
  if us.length<=OG then pure (.own,.lst us) else M.fail
 |.C8 r=>pure (.own,if r=OA then .De [] else .CD [] [])
 |.idx a b=>do
  let x <-ev a
  let y <-ev b
  ar [x,y]
  M.Ca (dG x y.2)
 |.Eh a lo hi=>do
  let x <-ev a
  let l <-Gr lo
  let h <-Gr hi
  ar [x]
  M.Ca (l8 x l h)
 |.bi f es=>do
  let rs <-ba es
  ar rs
  M.Ca (Ds f rs)
 |.Fi f es=>do
  let rs <-ba es
  ar rs
  M.Ca (nK f rs)
 |.E1 m a es=>do
  let x <-ev a
  let rs <-ba es
  ar (x::rs)
  M.Ca (iF m x.2 rs)
 |.call f es=>do
  let rs <-ba es
  ar rs
  iG Γ f (rs.map (·.2))
 |.comp k t ik src cond e=>do
  let rs <-ba src
  ar rs
  let xs <-M.Ca (DB ik rs)
  let us <-bw k t (aS cond) (ev e) rs xs []
  pure (.own,.lst us)
 |.neg a=>do
  let x <-ev a
  M.Ca (BP x)
 |.bad=>M.fail
 |.Jd _=>M.fail
 |.inD _ _ _=>M.fail
 |.Jc _=>M.fail
 |.Fj _ _ _=>M.fail
 |.BV f es is=>do
  let rs <-(ba es >>= vR)
  ar rs
  l_ Γ f rs is
 |.pop i=>sI i
 |.Dz i e=>do
  let x <-dH i
  Fp x.2
  let y <-ev e
  qL i y.2
 |.Je _ _ _=>M.fail
 |.fst es=>M.fail
 |.DQ a T=>do
  let x <-ev a
  let b <-M.Ca (mf x.2 T)
  pure (.loc,.bl b)
noncomputable def ba:List E->M (List (Kd×U))
 |[]=>pure []
 |e::es=>do let r <-ev e;let rs <-ba es;pure (r::rs)
noncomputable def Gr:List E->M (Option Int)
 |[]=>pure OB
 |[e]=>do let x <-ev e;yK x
 |_=>M.fail
noncomputable def fH:List E->M (Kd×U)
 |[]=>M.fail
 |[e]=>ev e
 |e::es=>do
  let x <-ev e
  match x.2 with
  |.bl OA=>fH es
  |.bl OE=>pure (.loc,.bl OE)
  |_=>M.fail
noncomputable def yL:List E->M (Kd×U)
 |[]=>M.fail
 |[e]=>ev e
 |e::es=>do
  let x <-ev e
  match x.2 with
  |.bl OA=>pure (.loc,.bl OA)
  |.bl OE=>yL es
  |_=>M.fail
noncomputable def Cc:E->M Bool
 |.and es=>aS es
 |.or es=>dI es
 |.not a=>do let b <-Cc a;pure !b
 |.cmp op a b=>do
  let x <-ev a
  let y <-ev b
  ar [x,y]
  M.Ca (b7 op x.2 y.2)
 |.var i=>do let x <-dH i;M.Ca (jm x.2)
 |.cst u=>M.Ca (jm u)
 |.idx a b=>do
  let x <-ev a
  let y <-ev b
  ar [x,y]
  let r <-M.Ca (dG x y.2)
  M.Ca (jm r.2)
 |.Fi f es=>do
  let rs <-ba es
  ar rs
  let r <-M.Ca (nK f rs)
  M.Ca (jm r.2)
 |.bi f es=>do
  let rs <-ba es
  ar rs
  let r <-M.Ca (Ds f rs)
  M.Ca (jm r.2)
 |.E1 m a es=>do
  let x <-ev a
  let rs <-ba es
  ar (x::rs)
  let r <-M.Ca (iF m x.2 rs)
  M.Ca (jm r.2)
 |.call f es=>do
  let rs <-ba es
  ar rs
  let r <-iG Γ f (rs.map (·.2))
  M.Ca (jm r.2)
 |.EF o1 o2 a b c=>do
  let x <-ev a
  let y <-ev b
  ar [x,y]
  let p <-M.Ca (b7 o1 x.2 y.2)
  if p=OA then do
   let z <-ev c
   ar [y,z]
   M.Ca (b7 o2 y.2 z.2)
  else pure OE
 |.DQ a T=>do
  let x <-ev a
  M.Ca (mf x.2 T)
 |_=>M.fail
noncomputable def aS:List E->M Bool
 |[]=>pure OA
 |[e]=>Cc e
 |e::es=>do let b <-Cc e;if b=OA then aS es else pure OE
noncomputable def dI:List E->M Bool
 |[]=>pure OE
 |[e]=>Cc e
 |e::es=>do let b <-Cc e;if b=OA then pure OA else dI es
end
inductive Fl where|nx|rt (k:Kd) (u:U)|bk|ct
def retS:Kd×U->M Fl
 |(.own,u)=>pure (.rt .own u)
 |(.loc,u)=>pure (.rt .loc u)
 |(.any,u)=>if Co u=OA then pure (.rt .loc u) else pure (.rt .any u)
 |(.bor j,_)=>λst=>match st[j]? with
  |some (Od (.own,u))=>Od (.ok (.rt .own u),st.set j OB)
  |_=>OB
 |(.io,_)=>M.fail
 |(.B1,_)=>M.fail
noncomputable def forM(t:Bool)(is:List Nat)(body:M Fl)(src:List (Kd×U)):List (Kd×U)->M Fl
 |[]=>do ar src;pure .nx
 |x::xs=>do
  ar src
  cT t is x
  let f <-body
  match f with
  |.nx=>forM t is body src xs
  |.ct=>forM t is body src xs
  |.bk=>pure .nx
  |.rt k u=>pure (.rt k u)
def eD(c:M Bool)(body:M Fl):Nat->M Fl
 |0=>M.fail
 |n+1=>do
  let b <-c
  if b=OA then do
   let f <-body
   match f with
   |.nx=>eD c body n
   |.ct=>eD c body n
   |.bk=>pure .nx
   |.rt k u=>pure (.rt k u)
  else pure .nx
def modS(i:Nat)(f:U->Option U):M Unit:=λst=>match st[i]? with
 |some (Od (k,u))=>if k.root=OA then match f u with
   |some u'=>Od (.ok (),st.set i (Od (k,u')))
   |none=>OB
  else OB
 |_=>OB
def sJ(u:U):U->Option U
 |.lst xs=>if xs.length<OG then Od (.lst (xs++[u])) else OB
 |_=>OB
def nM:Kd×U->U->Option U
 |(k,.lst ys),.lst xs=>if xs.length+ys.length<=OG/\fG k ys=OA then Od (.lst (xs++ys)) else OB
 |(k,.tup ys),.lst xs=>if xs.length+ys.length<=OG/\fG k ys=OA then Od (.lst (xs++ys)) else OB
 |_,_=>OB
def dJ(x u:U):U->Option U
 |.CD ks vs=>match x with
  |.str y=>if ks.length<OG then Od (.CD (dput ks vs y u).1 (dput ks vs y u).2) else OB
  |_=>OB
 |.De ks=>match rowOf x,u with
  |some r,.bl OA=>if r∉ks/\ks.length<=1000 then Od (.De (ks++[r])) else OB
  |_,_=>OB
 |.lst xs=>match x with
  |.int i=>(E8 xs.length i).map λj=>.lst (xs.set j u)
  |_=>OB
 |_=>OB
def yM:U->Option U
 |.lst _=>Od (.lst [])
 |_=>OB
def pe:List U->U->Option U
 |[u,x]=>dJ x u
 |_=>λ_=>OB
def fuel:Nat:=1000000000000
mutual
def FP:S->Nat->Bool
 |.set i _,j=>OI (j≠i)
 |.Fm is _,j=>OI (j∉is)
 |.ite _ a b,j=>DS a j&&DS b j
 |.B' _ is _ _ body,j=>OI (j∉is)&&DS body j
 |.EG _ body,j=>DS body j
 |.put _ _ _,_=>OA
 |.app _ _,_=>OA
 |.ext _ _,_=>OA
 |.bad,_=>OA
 |.newD i,j=>OI (j≠i)
 |.putD _ _ _,_=>OA
 |.Fo _ _ _,_=>OA
 |.aug _ _ _ _,_=>OA
 |.Jf _,_=>OA
 |.exp _,_=>OA
 |.ret _,_=>OA
 |.DR,_=>OA
 |.brk,_=>OA
 |.cnt,_=>OA
 |.Jg,_=>OA
 |.Dr _,_=>OA
 |.Gp _,_=>OA
def DS:List S->Nat->Bool
 |[],_=>OA
 |s::ss,j=>FP s j&&DS ss j
end
def pf(rs:List (Kd×U))(is:List Nat)(body:List S):Bool:=rs.all λr=>match r.1 with
 |.bor j=>OI (j∉is)&&DS body j
 |_=>OA
mutual
noncomputable def exec:S->M Fl
 |.set i e=>do let r <-ev Γ e;dq i r;pure .nx
 |.Fm is e=>do let r <-ev Γ e;cT OA is r;pure .nx
 |.put i k v=>do
  let r <-ev Γ v
  let _ <-dH i
  let x <-ev Γ k
  let us <-cu [r,x]
  modS i (pe us)
  pure .nx
 |.app i e=>do
  let x <-dH i
  Fp x.2
  let r <-ev Γ e
  let u <-lift r
  modS i (sJ u)
  pure .nx
 |.ext i e=>do
  let x <-dH i
  Fp x.2
  let r <-ev Γ e
  modS i (nM r)
  pure .nx
 |.bad=>M.fail
 |.newD _=>M.fail
 |.putD _ _ _=>M.fail
 |.Fo _ _ _=>M.fail
 |.aug _ _ _ _=>M.fail
 |.Jf _=>M.fail
 |.exp e=>do let _ <-ev Γ e;pure .nx
 |.ret e=>do let r <-ev Γ e;retS r
 |.DR=>pure (.rt .loc .BZ)
 |.ite c a b=>do let p <-Cc Γ c;if p=OA then execs a else execs b
 |.B' t is ik src body=>do
  let rs <-ba Γ src
  ar rs
  let xs <-M.Ca (DB ik rs)
  if pf rs is body=OA then forM t is (execs body) rs xs else M.fail
 |.EG c body=>eD (Cc Γ c) (execs body) fuel
 |.brk=>pure .bk
 |.cnt=>pure .ct
 |.Jg=>pure .nx
 |.Dr _=>M.fail
 |.Gp i=>do
  modS i yM
  pure .nx
noncomputable def execs:List S->M Fl
 |[]=>pure .nx
 |s::ss=>do
  let f <-exec s
  match f with
  |.nx=>execs ss
  |f=>pure f
end
end
structure Fn where
 name:Str
 np:Nat
 ns:Nat
 body:List S
def start(us:List U)(n:Nat):ay:=us.map (λu=>Od (if Co u=OA then Kd.loc else Kd.any,u))++OZ (n - us.length) OB
noncomputable def c8(Γ:Tab)(fn:Fn)(us:List U):Option (Ex (Kd×U)):=if us.length=fn.np then match execs Γ fn.body (start us fn.ns) with
  |some (.ok (.rt .own u),_)=>Od (.ok (.own,u))
  |some (.ok (.rt .loc u),_)=>Od (.ok (.loc,u))
  |some (.ok (.rt .any u),_)=>Od (.ok (.any,u))
  |some (.ok .nx,_)=>Od (.ok (.loc,.BZ))
  |some (.exc c,_)=>Od (.exc c)
  |_=>OB
 else OB
def bR(is:List Nat)(us:List U)(n:Nat):ay:=(us.zipIdx.map λp=>Od (if p.2∈is then Kd.io else if Co p.1=OA then Kd.loc else Kd.any,p.1))++OZ (n - us.length) OB
def Gu:List Nat->ay->Option (List U)
 |[],_=>Od []
 |i::is,st=>match st[i]? with
  |some (Od (.io,u))=>(Gu is st).map (u::·)
  |_=>OB
def Jh:Fl->Option (Kd×U)
 |.rt .own u=>Od (.own,u)
 |.rt .loc u=>Od (.loc,u)
 |.nx=>Od (.loc,.BZ)
 |_=>OB
noncomputable def eE(Γ:Tab)(fn:Fn)(is:List Nat)(body:List S)(us:List U):Option (Ex (Kd×U)):=if us.length=fn.np then match execs Γ body (bR is us fn.ns) with
  |some (.ok f,st)=>(Jh f).bind λr=>(Gu is st).map λws=>.ok (r.1,.tup (r.2::ws))
  |_=>OB
 else OB
def Fn.io(fn:Fn):Option (List Nat×List S):=match fn.body with
 |.Dr is::body=>Od (is,body)
 |_=>OB
noncomputable def gh(Γ:Tab)(fn:Fn)(us:List U):Option (Ex (Kd×U)):=match fn.io with
 |some (is,body)=>eE Γ fn is body us
 |none=>c8 Γ fn us
noncomputable def Cg(P:List Fn):Nat->Tab
 |0=>λ_ _=>OB
 |d+1=>λf us=>match P.find? λfn=>OI (fn.name=f) with
  |some fn=>gh (Cg P d) fn us
  |none=>OB
end TM
namespace TM
open PySem L2
section
variable{X:Cx}{pins:List (OS×Obj)}{σ:St}{H:Hp}{s:OR}{C:Ct}{S:OS->Prop}
theorem ph(I:Inv X pins σ H s)(h:Cn X.K H a vs):∃A':List OH,Vals vs A'/\s.heap.IsList a A'.toArray/\vs.length<=OG:=by
 obtain⟨A',r,p,z⟩:=I.list h;exact⟨A',r,p.isList,z⟩
inductive Cy(s:OR):Nat->U->OH->Prop where
 |BZ {n:Nat}:Cy s n .BZ .none
 |bl {n:Nat} {b:Bool}:Cy s n (.bl b) (.bool b)
 |int {n:Nat} {i:Int} {t:Tok}:Cy s n (.int i) (.int i t)
 |str {n:Nat} {y:Str} {t:Tok}:Cy s n (.str y) (.str y t)
 |tup {n:Nat} {us:List U} {A':List OH} {a:OS}:us.length=A'.length->(∀j (hj:j<A'.length),Cy s n (us.getD j .BZ) A'[j])->bY us us=OA->s.heap.IsTuple a A'.toArray->Cy s (n+1) (.tup us) (.ref a)
 |lst {n:Nat} {us:List U} {A':List OH} {a:OS}:us.length=A'.length->(∀j (hj:j<A'.length),Cy s n (us.getD j .BZ) A'[j])->bY us us=OA->s.heap.IsList a A'.toArray->Cy s (n+1) (.lst us) (.ref a)
theorem Cy.self(h:Cy s n u x):bJ u u=OA:=by
 cases h<;>first|assumption|simp[bJ]
theorem Cy.vS(f:∀u v x,DA n u=OA->Rep C S H u v->RelV v x->Cy s n u x):∀{us:List U}{vs:List V}{A':List OH},iD n us=OA->ai C S H us vs->Vals vs A'->us.length=A'.length/\(∀j (hj:j<A'.length),Cy s n (us.getD j .BZ) A'[j])/\bY us us=OA
 |[],_,_,_,h,r=>by cases h;cases r;exact⟨rfl,λj hj=>(nomatch hj),rfl⟩
 |u::us,_,_,e,h,r=>by
  obtain⟨v,vs,rfl,h1,h2⟩:=h;simp only[iD,OD]at e;cases r with
  |cons r1 r2 =>
   obtain⟨l,k,y⟩:=Cy.vS f e.2 h2 r2;refine⟨by simp[l],λj hj=>?_,by rw[bY,(f _ _ _ e.1 h1 r1).self,y];rfl⟩;cases j with
   |zero=>exact f _ _ _ e.1 h1 r1
   |succ j=>exact k j (by simpa using hj)
theorem Cy.of(I:Inv X pins σ H s)(hK:C.K=X.K):∀(n:Nat) (u:U) (v:V) (x:OH),DA n u=OA->Rep C S H u v->RelV v x->Cy s n u x:=by
 intro n;induction n with
 |zero=>intro u v x e h r;cases u<;>first|(simp[DA]at e;done)|(simp only[Rep]at h;subst h;first|(cases r;constructor)|(obtain⟨t,rfl⟩:=r;constructor))
 |succ n ih =>
  intro u v x e h r;cases u with
  |tup us =>
   obtain⟨a,vs,rfl,h1,h2⟩:=h;cases r;obtain⟨A',rv,p,_⟩:=I.tuple (hK▸h1);obtain⟨l,k,y⟩:=Cy.vS ih (by simpa[DA] using e) h2 rv;exact .tup l k y p
  |lst us =>
   obtain⟨a,vs,rfl,h1,h2⟩:=h;cases r;obtain⟨A',rv,p,_⟩:=ph I (hK▸h1.sq);obtain⟨l,k,y⟩:=Cy.vS ih (by simpa[DA] using e) h2 rv;exact .lst l k y p
  |_=>first|(simp[DA]at e;done)|(simp only[Rep]at h;subst h;first|(cases r;constructor)|(obtain⟨t,rfl⟩:=r;constructor))
theorem Cy.inj:∀{n:Nat}{u w:U}{x:OH},Cy s n u x->Cy s n w x->u=w:=by
 intro n;induction n with
 |zero=>intro u w x h h';cases h<;>cases h'<;>rfl
 |succ n ih =>
  have go:∀{us ws:List U} {A' its':List OH} {a:OS} {o o':Obj} {m m':Nat},us.length=A'.length->(∀j (hj:j<A'.length),Cy s n (us.getD j .BZ) A'[j])->ws.length=its'.length->(∀j (hj:j<its'.length),Cy s n (ws.getD j .BZ) its'[j])->s.heap.get? a=Od o->o.data=.seq A'.toArray m->s.heap.get? a=Od o'->o'.data=.seq its'.toArray m'->us=ws:=by
   intro us ws A' its' a o o' m m' l k l' k' e d e' d';rw[e]at e';cases e';rw[d]at d';injection d' with d1 _
   have:A'=its':=by simpa using congrArg UK d1
   subst this;refine TN ⋯ λj h1 h2=>?_;have:=ih (k j ⋯) (k' j ⋯);simpa[h1,h2] using this
  intro u w x h h';cases h with
  |tup l k y p =>
   cases h' with
   |tup l' k' y' p'=>obtain⟨o,e,_,m,d⟩:=p;obtain⟨o',e',_,m',d'⟩:=p';rw[go l k l' k' e d e' d']
   |lst l' k' y' p'=>exact absurd rfl (UG p' p)
  |lst l k y p =>
   cases h' with
   |lst l' k' y' p'=>obtain⟨o,e,_,m,d⟩:=p;obtain⟨o',e',_,m',d'⟩:=p';rw[go l k l' k' e d e' d']
   |tup l' k' y' p'=>exact absurd rfl (UG p p')
  |_=>cases h';rfl
theorem gk:∀{us ws:List U},us.length≠ws.length->bY us ws=OE
 |[],[],h=>absurd rfl h
 |[],_::_,_=>rfl
 |_::_,[],_=>rfl
 |u::us,w::ws,h=>by
  rw[bY,gk (us:=us) (ws:=ws) (λe=>h (by simp[e])),R4]
theorem dM:∀{us ws:List U},us.length=ws.length->bY us ws=(O2 us.length).all λj=>bJ (us.getD j .BZ) (ws.getD j .BZ)
 |[],[],_=>rfl
 |[],_::_,h=>by simp at h
 |_::_,[],h=>by simp at h
 |u::us,w::ws,h=>by
  have h':us.length=ws.length:=by simpa using h
  rw[bY,dM h',Pb,List.range_succ_eq_map,Ws,UT];rfl
theorem Ak{A' its':List OH}(l1:us.length=A'.length)(l2:ws.length=its'.length):bY us ws=((O2 (min A'.toArray.size its'.toArray.size)).all (λj=>bJ (us.getD j .BZ) (ws.getD j .BZ))&&A'.toArray.size==its'.toArray.size):=by
 simp only[OL];by_cases el:us.length=ws.length
 ·rw[dM el,show min A'.length its'.length=us.length by omega,show(A'.length==its'.length)=OA by simp;omega,Ta]
 ·rw[gk el,show(A'.length==its'.length)=OE by simp;omega,R4]
theorem pj(hf:Cy s n u y)(h:Vh A s y x k)(hs:y=x->k=OA):Su A s y x k:=λprog w E Q hq=>by
 unfold eqBool;refine PJ ?_;refine wpAny_ite_split (λF_=>?_) (λ_=>?_)
 ·rw[hs (Vq F_)]at hq;exact Oz (Ra (OF hq))
 ·cases hf<;>exact Oz (h prog w E _ (Ql hq))
theorem Kg(ih:∀m,m+1=n->∀{u w:U}{x x':OH}{A:QW},Cy s m u x->Cy s m w x'->A.units+m<Qd->Su A s x x' (bJ u w))(h:Cy s n u x)(h':Cy s n w x')(hn:A.units+n<Qd):Vh A s x x' (bJ u w)/\Wi A s x x' (!bJ u w):=by
 have hu:A.units<Qd:=by omega
 have go:∀{m:Nat} {us ws:List U} {A' its':List OH},m+1=n->(∀j (hj:j<A'.length),Cy s m (us.getD j .BZ) A'[j])->(∀j (hj:j<its'.length),Cy s m (ws.getD j .BZ) its'[j])->∀j (h1:j<A'.toArray.size) (h2:j<its'.toArray.size),Su A.in1 s A'.toArray[j] its'.toArray[j] (bJ (us.getD j .BZ) (ws.getD j .BZ)):=λ{m us ws A' its'} e k k' j h1 h2=>ih m e (k j h1) (k' j h2) (by show A.units+1+m < _;omega);cases h with
 |BZ =>
  cases h' with
  |BZ=>exact⟨.none_none,.none_none⟩
  |bl=>exact⟨.none_bool _,.none_bool _⟩
  |int=>exact⟨.none_int _ _,.none_int _ _⟩
  |str=>exact⟨.none_str _ _,.none_str _ _⟩
  |tup l' k' y' p'=>exact⟨.none_tuple p' hu,.none_tuple p' hu⟩
  |lst l' k' y' p'=>exact⟨.none_list p' hu,.none_list p' hu⟩
 |bl =>
  cases h' with
  |BZ=>exact⟨.bool_none _,.bool_none _⟩
  |bl=>exact⟨.bool_bool _ _,.bool_bool _ _⟩
  |int=>exact⟨.bool_int _ _ _,.bool_int _ _ _⟩
  |str=>exact⟨.bool_str _ _ _,.bool_str _ _ _⟩
  |tup l' k' y' p'=>exact⟨.bool_tuple _ p' hu,.bool_tuple _ p' hu⟩
  |lst l' k' y' p'=>exact⟨.bool_list _ p' hu,.bool_list _ p' hu⟩
 |int =>
  cases h' with
  |BZ=>exact⟨.int_none _ _,.int_none _ _⟩
  |bl=>exact⟨.int_bool _ _ _,.int_bool _ _ _⟩
  |int=>exact⟨.int_int _ _ _ _,.int_int _ _ _ _⟩
  |str=>exact⟨.int_str _ _ _ _,.int_str _ _ _ _⟩
  |tup l' k' y' p'=>exact⟨.int_tuple _ _ p' hu,.int_tuple _ _ p' hu⟩
  |lst l' k' y' p'=>exact⟨.int_list _ _ p' hu,.int_list _ _ p' hu⟩
 |str =>
  cases h' with
  |BZ=>exact⟨.str_none _ _,.str_none _ _⟩
  |bl=>exact⟨.str_bool _ _ _,.str_bool _ _ _⟩
  |int=>exact⟨.str_int _ _ _ _,.str_int _ _ _ _⟩
  |str=>exact⟨.str_str _ _ _ _,.str_str _ _ _ _⟩
  |tup l' k' y' p'=>exact⟨.str_tuple _ _ p' hu,.str_tuple _ _ p' hu⟩
  |lst l' k' y' p'=>exact⟨.str_list _ _ p' hu,.str_list _ _ p' hu⟩
 |tup l k y p =>
  cases h' with
  |BZ=>exact⟨.tuple_none p hu,.tuple_none p hu⟩
  |bl=>exact⟨.tuple_bool _ p hu,.tuple_bool _ p hu⟩
  |int=>exact⟨.tuple_int _ _ p hu,.tuple_int _ _ p hu⟩
  |str=>exact⟨.tuple_str _ _ p hu,.tuple_str _ _ p hu⟩
  |tup l' k' y' p'=>rw[show bJ (.tup _) (.tup _)=_ from Ak l l'];exact⟨.tuples p p' hu (go rfl k k'),.tuples p p' hu (go rfl k k')⟩
  |lst l' k' y' p'=>exact⟨.tuple_list p p' hu,.tuple_list p p' hu⟩
 |lst l k y p =>
  cases h' with
  |BZ=>exact⟨.list_none p hu,.list_none p hu⟩
  |bl=>exact⟨.list_bool _ p hu,.list_bool _ p hu⟩
  |int=>exact⟨.list_int _ _ p hu,.list_int _ _ p hu⟩
  |str=>exact⟨.list_str _ _ p hu,.list_str _ _ p hu⟩
  |tup l' k' y' p'=>exact⟨.list_tuple p p' hu,.list_tuple p p' hu⟩
  |lst l' k' y' p' =>
   rename_i us _ _ ws _ _;by_cases el:us.length=ws.length
   ·rw[show bJ (.lst us) (.lst ws)=_ from dM el,l,<-OL];exact⟨.lists p p' (by simp;omega) hu (go rfl k k'),.lists p p' (by simp;omega) hu (go rfl k k')⟩
   ·rw[show bJ (.lst us) (.lst ws)=OE from gk el];exact⟨.lists_lengths p p' (by simp;omega) hu,.lists_lengths p p' (by simp;omega) hu⟩
theorem Al:∀{n:Nat}{u w:U}{x x':OH}{A:QW},Cy s n u x->Cy s n w x'->A.units+n<Qd->Su A s x x' (bJ u w):=by
 intro n;induction n with
 |zero=>intro u w x x' A h h' hu;exact pj h (Kg (λm e=>by cases e) h h' hu).1 λe=>by subst e;rw[h.inj h'];exact h'.self
 |succ n ih=>intro u w x x' A h h' hu;exact pj h (Kg (λm e=>by cases e;exact ih) h h' hu).1 λe=>by subst e;rw[h.inj h'];exact h'.self
theorem Am(h:Cy s n u x)(h':Cy s n w x')(hu:A.units+n<Qd):Vh A s x x' (bJ u w)/\Wi A s x x' (!bJ u w):=Kg (λm e=>by cases e;exact Al) h h' hu
end
end TM
namespace TM
open PySem L2 PyProof.Rows
def B3(C:Ct)(m:M (Kd×U)):TE:=λσ H Q=>∃c0:Cf,c0.σ=σ/\c0.H=H/\Ok C c0/\W m c0.st λr st'=>∀c v,c.σ=σ->c.st=st'->Ok C c->Nx c0 c->aC C c0 c r.1 r.2 v->Q v c.H
def C0(C:Ct)(m:M Bool):TT:=λσ H Q=>∃c0:Cf,c0.σ=σ/\c0.H=H/\Ok C c0/\W m c0.st λb st'=>∀c,c.σ=σ->c.st=st'->Ok C c->Nx c0 c->Q b c.H
def bL(C:Ct)(c0 c:Cf):List (Kd×U)->List V->Prop
 |[],vs=>vs=[]
 |r::rs,vs=>∃v t,vs=v::t/\dF C c0 c r.1 r.2 v/\bL C c0 c rs t/\(r.1=.own->∀(i:Nat) r' v',rs[i]?=Od r'->t[i]?=Od v'->r'.1=.own->v'≠v)
def C1(C:Ct)(m:M (List (Kd×U))):TA:=λσ H Q=>∃c0:Cf,c0.σ=σ/\c0.H=H/\Ok C c0/\W m c0.st λrs st'=>∀c vs,c.σ=σ->c.st=st'->Ok C c->Nx c0 c->bL C c0 c rs vs->Q vs c.H
section
theorem PE.weak(h:PE X e t)(i:∀σ H Q,t' σ H Q->t σ H Q):PE X e t':=λpins s σ H Q I q=>h pins s σ H Q I (i σ H Q q)
theorem PT.weak(h:PT X e t)(i:∀σ H Q,t' σ H Q->t σ H Q):PT X e t':=λpins s σ H Q I q=>h pins s σ H Q I (i σ H Q q)
theorem bE{st:ay}:W (ar rs) st Q↔aX rs st/\Q () st:=by
 constructor
 ·rintro⟨a,st',e,h⟩;unfold ar at e;split at e
  ·cases e;exact⟨by assumption,h⟩
  ·cases e
 ·rintro⟨h1,h2⟩;exact⟨(),st,by unfold ar;rw[Xs h1],h2⟩
theorem d7{st:ay}:aX (r::rs) st↔aX [r] st/\aX rs st:=by
 obtain⟨k,u⟩:=r;cases k<;>simp[aX]
theorem dF.t(h:dF C c0 c k u v)(s:aX [(k,u)] c.st):aC C c0 c k u v:=by
 cases k with
 |bor j=>exact⟨s.1,h⟩
 |_=>exact h
structure HQ(C:Ct)(c0 c:Cf)(x y:Kd×U)(vx vy:V):Prop where
 hσ:c.σ=c0.σ
 ok:Ok C c
 nx:Nx c0 c
 rx:aC C c0 c x.1 x.2 vx
 ry:aC C c0 c y.1 y.2 vy
 ne:x.1=.own->y.1=.own->vy≠vx
theorem kK(h:dF C c0 c1 k u v)(h':dF C c1 c k' u' v'):k=.own->k'=.own->v'≠v:=by
 rintro rfl rfl e;obtain⟨r,e1,_,_,_,h4⟩:=h;obtain⟨r',e2,h5,_⟩:=h';obtain⟨o,ho,_⟩:=h4.some;subst e1;rw[e2]at e;cases e;rw[ho]at h5;cases h5
theorem two{k:Kd×U->Kd×U->M β}{B7:β->ay->Prop}{f:OH->OH->Sem α}{Q':OH->OH->α->OR->Prop}(ha:PE X a (B3 C ma))(hb:PE X b (B3 C mb))(I:Inv X pins c0.σ c0.H s)(ok:Ok C c0)
  (h:W (ma >>= λx=>mb >>= λy=>ar [x,y] >>= λ_=>k x y) c0.st B7)
  (hf:∀x y c vx vy v u s2,HQ C c0 c x y vx vy->Inv X pins c.σ c.H s2->RelV vx v->RelV vy u->W (k x y) c.st B7->OK (OU X.prog X.w) X.A (f v u) (Q' v u) X.xe s2) :
  OK (OU X.prog X.w) X.A (Qx a X.env) (λv s₁=>OK (OU X.prog X.w) X.A (Qx b X.env) (λu s₂=>OK (OU X.prog X.w) X.A (f v u) (Q' v u) X.xe s₂) X.xe s₁) X.xe s:=by
 rw[af]at h;refine B6 (ha pins s c0.σ c0.H (λvx H1=>∃x c1,c1.H=H1/\c1.σ=c0.σ/\Ok C c1/\Nx c0 c1/\aC C c0 c1 x.1 x.2 vx/\W (mb >>= λy=>ar [x,y] >>= λ_=>k x y) c1.st B7) I ⟨c0,rfl,rfl,ok,h.mono λx st1 h1 c1 vx e1 e2 B5 n1 r1=>⟨x,c1,rfl,e1,B5,n1,r1,by rw[e2];exact h1⟩⟩) ?_;rintro v s1 ⟨vx,H1,I1,rv,x,c1,rfl,e1,B5,n1,r1,h1⟩;rw[af]at h1;refine B6 (hb pins s1 c0.σ c1.H (λvy H2=>∃y c2,c2.H=H2/\HQ C c0 c2 x y vx vy/\W (k x y) c2.st B7) I1 ⟨c1,e1,rfl,B5,h1.mono λy st2 h2 c2 vy e3 e4 Cr n2 r2=>?_⟩) ?_
 ·rw[af,bE]at h2;subst e4;rw[d7]at h2;exact⟨y,c2,rfl,⟨e3,Cr,n1.trans n2,(r1.w.on B5 n2 (e3.trans e1.symm)).t h2.1.1,(r2.from n1),kK r1.w r2.w⟩,h2.2⟩
 ·rintro u s2 ⟨vy,H2,I2,ru,y,c2,rfl,at2,h2⟩;have hs:c2.σ=c0.σ:=at2.hσ;exact hf x y c2 vx vy v u s2 at2 (by rw[hs];exact I2) rv ru h2
structure HR(C:Ct)(c0 c:Cf)(x:Kd×U)(vx:V):Prop where
 hσ:c.σ=c0.σ
 ok:Ok C c
 nx:Nx c0 c
 rx:aC C c0 c x.1 x.2 vx
def bG(C:Ct)(c0:Cf)(Q:VK)(r:Kd×U)(st':ay):Prop:=∀c v,c.σ=c0.σ->c.st=st'->Ok C c->Nx c0 c->aC C c0 c r.1 r.2 v->Q v c.H
section
theorem bG.flat(h:bG C c0 Q (.loc,u) c.st)(hσ:c.σ=c0.σ)(ok:Ok C c)(n:Nx c0 c)(r:Rep C c.S c.H u v):Q v c.H:=h c v hσ rfl ok n r
theorem bG.list(h:bG C c0 Q (.own,.lst us) c.st)(hσ:c.σ=c0.σ)(ok:Ok C c)(n:Nx c0 c)(r:ai C c.S c.H us vs)(p:OS)(hp:c.H p=OB):Q (.ref p) (upd c.H p (.lst vs)):=by
 obtain⟨Cb,n',r'⟩:=ok.newList n hp r;exact h {c with H:=upd c.H p (.lst vs)} _ hσ rfl Cb n' r'
theorem bG.tup(h:bG C c0 Q (.loc,.tup us) c.st)(hσ:c.σ=c0.σ)(ok:Ok C c)(n:Nx c0 c)(r:ai C c.S c.H us vs)(p:OS)(hp:c.H p=OB):Q (.ref p) (upd c.H p (.tup vs)):=by
 obtain⟨Cb,n',r'⟩:=ok.yz n hp r;exact h {c with H:=upd c.H p (.tup vs)} _ hσ rfl Cb n' r'
theorem bG.tupK(h:bG C c0 Q (kE k,.tup us) c.st)(hσ:c.σ=c0.σ)(ok:Ok C c)(n:Nx c0 c)(r:ai C (SK C c k) c.H us vs)(p:OS)(hp:c.H p=OB):Q (.ref p) (upd c.H p (.tup vs)):=by
 obtain⟨Cb,n'⟩:=ok.lay (o:=.tup vs) hp;refine h {c with H:=upd c.H p (.tup vs)} _ hσ rfl Cb (n.trans n') (aC.item ?_);cases k<;>exact⟨p,vs,rfl,Ci.of av,by first|exact r.mv (ok.Gm n')|exact r.mv (ok.mv n')⟩
theorem bS(h:fG k us=OA)(r:ai C (SK C c k) c.H us vs):ai C c.S c.H us vs:=by
 cases k with
 |any=>exact r.Co (by simpa[fG,isAny] using h)
 |_=>exact r
end
theorem yN(k k':Kd):∀a,SK C c k a->SK C c (kT k k') a:=by
 intro a h;cases k<;>cases k'<;>first|exact h|exact .inr h
theorem vT(k k':Kd):∀a,SK C c k' a->SK C c (kT k k') a:=by
 intro a h;cases k<;>cases k'<;>first|exact h|exact .inr h
theorem An(k k':Kd):kE (kT k k')=kT k k':=by cases k<;>cases k'<;>rfl
theorem vU:C5 X (Rp .Add) (λx y H Q=>∃l b xs zs,x=.ref l/\y=.ref b/\Cn X.K H l xs/\Cn X.K H b zs/\xs.length+zs.length<=OG/\∀p,H p=OB->Q (.ref p) (upd H p (.lst (xs++zs)))):=by
 intro pins s σ H x y v u Q I rx ry h;obtain⟨l,b,xs,zs,rfl,rfl,hH,hB,hz,q⟩:=h;cases rx;cases ry;obtain⟨A',r,pl,z⟩:=I.list hH;obtain⟨B8,r2,HS,z2⟩:=I.list hB;have hl:=r.length;have Ff:=r2.length;obtain⟨⟨cls,dd,data,sl⟩,ho,hc,n,hd⟩:=pl.isList;obtain⟨⟨Hi,GR,data2,GS⟩,D0,FC,n2,hd2⟩:=HS.isList;simp only at hc hd FC hd2;subst hc hd FC hd2;refine T9 ⟨_,ho,rfl⟩ ⟨_,D0,rfl⟩ noFill_list_add seq_list_add PySem.F.slot_list_add PySem.F.entry_list_add (PySem.F.args_list_add_2 _ _)
   (list_addW l b A'.toArray B8.toArray n n2 dd GR sl GS (by rw[OL,OL];omega)) ⟨ho,D0,?_⟩
 have ea:A'.toArray++B8.toArray=(A'++B8).toArray:=by simp
 rw[ea];exact⟨.ref _,_,I.BI (t':=s.toks) (r.append r2) (by rw[O8];omega),rfl,q _ I.fresh⟩
end
section
variable{X:Cx}{C:Ct}{pins:List (OS×Obj)}{s:OR}{c0 c:Cf}{Q:VK}
theorem sL:C5 X (Rp .Add) (λx y H Q=>∃a b ys,x=.ref a/\y=.ref b/\Ci X.K H a []/\Ci X.K H b ys/\Q (.ref b) H):=by
 intro pins s σ H x y v u Q I rx ry h;obtain⟨a,b,ys,rfl,rfl,ha,hb,q⟩:=h;cases rx;cases ry;obtain⟨A',r1,p1,_⟩:=I.tuple ha;obtain⟨B8,r2,p2,_⟩:=I.tuple hb;cases r1;obtain⟨⟨cls,dd,data,sl⟩,ho,hc,n,hd⟩:=id p1;obtain⟨⟨Hi,GR,data2,GS⟩,D0,FC,n2,hd2⟩:=id p2;simp only at hc hd FC hd2;subst hc hd FC hd2;exact T9 ⟨_,ho,rfl⟩ ⟨_,D0,rfl⟩ Uw Ve PySem.F.slot_tuple_add PySem.F.entry_tuple_add (PySem.F.args_tuple_add_2 _ _)
   (tuple_addW0 a b _ B8.toArray n n2 dd GR sl GS (by rfl)) ⟨ho,D0,.ref b,H,I,rfl,q⟩
def Ja.op:Ja->Operator
 |.add=>.Add|.sub=>.Sub|.mul=>.Mult|.EZ=>.FloorDiv|.mod=>.Mod|.pow=>.Pow
theorem cU(h:nJ f a b=Od r):∃i j o,a=.int i/\b=.int j/\f i j=Od o/\r=(.loc,.int o):=by
 unfold nJ at h;split at h
 ·rw[OM]at h;obtain⟨o,e,rfl⟩:=h;exact⟨_,_,o,rfl,rfl,e,rfl⟩
 ·cases h
theorem yO(hK:C.K=X.K)(t:HQ C c0 c x y vx vy)(I:Inv X pins c.σ c.H s)(rx:RelV vx v)(ry:RelV vy u)(h:EH op x y=Od r)(q:bG C c0 Q r c.st):
  OK (OU X.prog X.w) X.A (Rp op.op v u) (EP X pins c.σ Q) X.xe s:=by
 obtain⟨hσ,ok,n,tx,ty,_⟩:=t;cases op with
 |add =>
  have h:vI x y=Od r:=h;unfold vI at h;split at h
  ·have ex:=tx.int ok;have ey:=ty.int ok;cases h;exact bt pins s c.σ c.H vx vy v u Q I rx ry ⟨_,_,ex,ey,q.flat hσ ok n rfl⟩
  ·have ex:=tx.str ok;have ey:=ty.str ok;split at h
   ·cases h;exact mZ pins s c.σ c.H vx vy v u Q I rx ry ⟨_,_,ex,ey,by assumption,q.flat hσ ok n rfl⟩
   ·cases h
  ·obtain⟨a,vs,ex,h1,h2⟩:=tx.list ok;obtain⟨b,ws,ey,h3,h4⟩:=ty.list ok;split at h
   ·rename_i hh;cases h;exact vU pins s c.σ c.H vx vy v u Q I rx ry ⟨a,b,vs,ws,ex,ey,hK▸h1,hK▸h3,by rw[<-h2.len,<-h4.len];exact hh.1,λp hp=>q.list hσ ok n ((bS hh.2.1 h2).append (bS hh.2.2 h4)) p hp⟩
   ·cases h
  ·rename_i k xs k' ys _ _;obtain⟨a,vs,ex,h1,h2⟩:=tx.tuple ok;obtain⟨b,ws,ey,h3,h4⟩:=ty.tuple ok;have DC:=h1;have GW:=h3;rw[hK]at DC GW;split at h
   ·rename_i hh;cases h;have m1:ai C (SK C c (kT k k')) c.H xs vs:=h2.mv (.up (yN k k'));have m2:ai C (SK C c (kT k k')) c.H ys ws:=h4.mv (.up (vT k k'));have q':bG C c0 Q (kE (kT k k'),.tup (xs++ys)) c.st:=by rw[An];exact q
    by_cases e1:vs=[]
    ·subst e1;refine sL pins s c.σ c.H vx vy v u Q I rx ry ⟨a,b,ws,ex,ey,DC,GW,?_⟩;refine q' c (.ref b) hσ rfl ok n (aC.item ⟨b,ws,rfl,h3,?_⟩);have:xs=[]:=by have:=m1.len;simpa using this
     rw[this];exact m2
    ·refine vn pins s c.σ c.H vx vy v u Q I rx ry ⟨a,b,vs,ws,ex,ey,DC,GW,e1,by rw[<-h2.len,<-h4.len];exact hh,λe2=>?_,λ_ p hp=>q'.tupK hσ ok n (m1.append m2) p hp⟩;subst e2;refine q' c (.ref a) hσ rfl ok n (aC.item ⟨a,vs,rfl,h1,?_⟩);have:ys=[]:=by have:=m2.len;simpa using this
     rw[this,P8];exact m1
   ·cases h
  ·cases h
 |sub =>
  obtain⟨i,j,o,ex,ey,eo,rfl⟩:=cU h;have ex:=(ex▸tx).int ok;have ey:=(ey▸ty).int ok;cases eo;exact mX pins s c.σ c.H vx vy v u Q I rx ry ⟨_,_,ex,ey,q.flat hσ ok n rfl⟩
 |mul =>
  obtain⟨i,j,o,ex,ey,eo,rfl⟩:=cU h;have ex:=(ex▸tx).int ok;have ey:=(ey▸ty).int ok;unfold vJ at eo;split at eo
  ·cases eo;exact g_ pins s c.σ c.H vx vy v u Q I rx ry ⟨_,_,ex,ey,by assumption,q.flat hσ ok n rfl⟩
  ·cases eo
 |EZ =>
  obtain⟨i,j,o,ex,ey,eo,rfl⟩:=cU h;have ex:=(ex▸tx).int ok;have ey:=(ey▸ty).int ok;unfold vK at eo;split at eo
  ·cases eo;exact vf pins s c.σ c.H vx vy v u Q I rx ry ⟨_,_,ex,ey,by assumption,q.flat hσ ok n rfl⟩
  ·cases eo
 |mod =>
  obtain⟨i,j,o,ex,ey,eo,rfl⟩:=cU h;have ex:=(ex▸tx).int ok;have ey:=(ey▸ty).int ok;unfold vL at eo;split at eo
  ·cases eo;exact cL pins s c.σ c.H vx vy v u Q I rx ry ⟨_,_,ex,ey,by assumption,q.flat hσ ok n rfl⟩
  ·cases eo
 |pow =>
  obtain⟨i,j,o,ex,ey,eo,rfl⟩:=cU h;have ex:=(ex▸tx).int ok;have ey:=(ey▸ty).int ok;unfold vM at eo;split at eo
  ·cases eo;exact j5 pins s c.σ c.H vx vy v u Q I rx ry ⟨_,_,ex,ey,by assumption,q.flat hσ ok n rfl⟩
  ·cases eo
theorem vV(hK:C.K=X.K)(ha:PE X a (B3 C ma))(hb:PE X b (B3 C mb)):PE X (.BinOp a op.op b pos) (B3 C (ma >>= λx=>mb >>= λy=>ar [x,y] >>= λ_=>M.Ca (EH op x y))):=by
 rintro pins s σ H Q I ⟨c0,rfl,rfl,ok,h⟩;refine wpAny_BinOp (two ha hb I ok h λx y c vx vy v u s2 t I2 rx ry w=>?_);obtain⟨r,e,q⟩:=bQ.mp w;exact B6 (yO hK t I2 rx ry e q) λ_ _ z=>by rw[t.hσ]at z;exact z
def HN.op:HN->CmpOp
 |.eq=>.Eq|.ne=>.NotEq|.lt=>.Lt|.le=>.LtE|.gt=>.Gt|.ge=>.GtE|.isin=>.In|.Cd=>.NotIn|.is=>.Is|.Gn=>.IsNot
theorem Ao{neg:Bool}(I:Inv X pins c.σ c.H s)(hK:C.K=X.K)(hu:X.A.units+60<Qd){S:OS->Prop}(hx:Rep C S c.H x vx)(rx:RelV vx v)(hy:ai C S c.H ys vs)
  (ha:Cn C.K c.H a vs\/Ci C.K c.H a vs) (e1:DA 50 x=OA) (e2:iD 50 ys=OA) {Q:OH->OR->Prop} (q:Q (.bool (if neg then !(ys.any λy=>bJ y x) else ys.any λy=>bJ y x)) s) :
  OK (OU X.prog X.w) X.A (Qv (if neg then .NotIn else .In) v (.ref a)) Q X.xe s:=by
 have sx:=Cy.of I hK 50 x vx v e1 hx rx;have go:∀A':List OH,Vals vs A'->∃e:OH->Bool,(∀y,y∈A'.toArray->Su X.A.in1 s y v (e y))/\A'.toArray.any e=ys.any λy=>bJ y x:=by
  intro A' rv;obtain⟨l,k,_⟩:=Cy.vS (Cy.of I hK 50) e2 hy rv
  classical
  have q:∀j (hj:j<A'.length),OI (∃w,Cy s 50 w A'[j]/\bJ w x=OA)=bJ (ys.getD j .BZ) x:=λj hj=>by
   rw[Rj,decide_eq_true_iff];exact⟨λ⟨w,h1,h2⟩=>by rw[<-h1.inj (k j hj)];exact h2,λh=>⟨_,k j hj,h⟩⟩
  refine⟨λy=>OI (∃w,Cy s 50 w y/\bJ w x=OA),λy F8=>?_,?_⟩
  ·obtain⟨j,hj,e⟩:=RS (show y∈A' by simpa using F8);subst e;show Su _ _ _ _ (decide _);rw[q j hj];exact Al (k j hj) sx (by show X.A.units+1+50 < _;omega)
  ·rw[Rj];simp only[List.any_toArray,VO];constructor
   ·rintro⟨y,F5,h⟩;obtain⟨j,hj,rfl⟩:=RS F5;rw[q j hj]at h;exact⟨_,Qp (l▸hj),by simpa[l▸hj] using h⟩
   ·rintro⟨w,hw,h3⟩;obtain⟨j,hj,rfl⟩:=RS hw;exact⟨_,Qp (l▸hj),by rw[q j (l▸hj)];simpa[hj] using h3⟩
 rcases ha with ha|ha
 ·obtain⟨A',rv,p,_⟩:=ph I (hK▸ha);obtain⟨e,h1,h2⟩:=go A' rv;cases neg with
  |false=>exact SeqAt.in_listAt e p h1 (by rw[h2];exact q)
  |true=>exact SeqAt.notIn_listAt e p h1 (by rw[h2];exact q)
 ·rw[hK]at ha;obtain⟨A',rv,p,_⟩:=I.tuple ha;obtain⟨e,h1,h2⟩:=go A' rv;cases neg with
  |false=>exact SeqAt.in_tupleAt e p h1 (by rw[h2];exact q)
  |true=>exact SeqAt.notIn_tupleAt e p h1 (by rw[h2];exact q)
end
section
theorem bz:∀{us:List U}{ss:List Str},strsOf us=Od ss->us=ss.map .str
 |[],ss,h=>by cases h;rfl
 |.str x::us,ss,h=>by
  simp only[strsOf,OM]at h;obtain⟨t,h1,rfl⟩:=h;rw[bz h1];rfl
 |.BZ::_,_,h=>by cases h
 |.bl _::_,_,h=>by cases h
 |.int _::_,_,h=>by cases h
 |.tup _::_,_,h=>by cases h
 |.lst _::_,_,h=>by cases h
 |.CD _ _::_,_,h=>by cases h
 |.De _::_,_,h=>by cases h
theorem gD:∀{us:List U}{ns:List Int},intsOf us=Od ns->us=ns.map .int
 |[],ns,h=>by cases h;rfl
 |u::us,ns,h=>by
  cases u<;>first|(cases h;done)|skip
  rename_i x;have h':(intsOf us).map (x::·)=Od ns:=h;rw[OM]at h';obtain⟨ms,e,rfl⟩:=h';rw[gD e];rfl
theorem ai.ints{S:OS->Prop}:∀{ns:List Int}{vs:List V},ai C S H (ns.map .int) vs->vs=ns.map V.int
 |[],vs,h=>h
 |n::ns,vs,h=>by
  obtain⟨v,r,rfl,h1,h2⟩:=h;rw[ai.ints h2];have:v=.int n:=h1;rw[this];rfl
theorem iH:∀{us:List U}{ss:List Bool},iE us=Od ss->us=ss.map .bl
 |[],ss,h=>by cases h;rfl
 |.bl x::us,ss,h=>by
  simp only[iE,OM]at h;obtain⟨t,h1,rfl⟩:=h;rw[iH h1];rfl
 |.BZ::_,_,h=>by cases h
 |.str _::_,_,h=>by cases h
 |.int _::_,_,h=>by cases h
 |.tup _::_,_,h=>by cases h
 |.lst _::_,_,h=>by cases h
 |.CD _ _::_,_,h=>by cases h
 |.De _::_,_,h=>by cases h
theorem ai.Lp{S:OS->Prop}:∀{xs:List Bool}{vs:List V},ai C S H (xs.map .bl) vs->vs=xs.map V.bl
 |[],vs,h=>h
 |x::xs,vs,h=>by
  obtain⟨v,r,rfl,h1,h2⟩:=h;rw[ai.Lp h2];have:v=.bl x:=h1;rw[this];rfl
def Ap(r:lK):U:=.tup [.str r.1,.tup (r.2.map .str)]
theorem iI(h:rowOf u=Od r):u=Ap r:=by
 unfold rowOf at h;split at h
 ·rw[OM]at h;obtain⟨ss,h1,rfl⟩:=h;rw[bz h1];rfl
 ·cases h
def yP(X:Cx)(pins:List (OS×Obj))(c:Cf)(b:Bool)(v:OH)(s':OR):Prop:=v=.bool b/\Inv X pins c.σ c.H s'
theorem cB(o:C5 X f r)(I:Inv X pins c.σ c.H s)(rx:RelV vx v)(ry:RelV vy u)(h:r vx vy c.H λx H'=>x=.bl b/\H'=c.H):
  OK (OU X.prog X.w) X.A (f v u) (yP X pins c b) X.xe s :=
 B6 (o pins s c.σ c.H vx vy v u _ I rx ry h) λw s' Du=>by
  obtain⟨z,H',I',r,e1,e2⟩:=Du;subst e1 e2;exact⟨r,I'⟩
theorem aC.dict(ok:Ok C c)(h:aC C c0 c k (.CD ks us) v):∃a kvs,v=.ref a/\c.H a=Od (.dK kvs)/\kvs.map (·.1)=ks.map Pq/\ai C (SK C c k) c.H us (kvs.map (·.2)):=by
 cases k with
 |own=>obtain⟨r,e,_,_,_,kvs,h1,h2,h3⟩:=h;exact⟨r,kvs,e,h1,h2,h3⟩
 |bor j=>obtain⟨r,e,_,_,_,kvs,h1,h2,h3⟩:=ok.rootOf h.1 h.2;exact⟨r,kvs,e,h1,h2,h3⟩
 |io=>exact h.elim
 |B1=>exact h.elim
 |_=>obtain⟨a,e,_,kvs,h1,h2,h3⟩:=h;exact⟨a,kvs,e,h1,h2,h3⟩
theorem aC.pd(ok:Ok C c)(h:aC C c0 c k (.De ks) v):∃a,v=.ref a/\dg C.P C.w C.K c.H a ks:=by
 cases k with
 |own=>obtain⟨r,e,_,_,_,h⟩:=h;exact⟨r,e,h⟩
 |bor j=>obtain⟨r,e,_,_,_,h⟩:=ok.rootOf h.1 h.2;exact⟨r,e,h⟩
 |io=>exact h.elim
 |B1=>exact h.elim
 |_=>obtain⟨a,e,_,h⟩:=h;exact⟨a,e,h⟩
theorem d8{S:OS->Prop}:∀{ks:List Str}{us:List U}{kvs:List (Key×V)},kvs.map (·.1)=ks.map Pq->ai C S H us (kvs.map (·.2)) ->
  (∀u,gf ks us x=Od u->∃v,ft kvs (Pq x)=Od v/\Rep C S H u v)/\(ft kvs (Pq x)).isSome=OI (x∈ks)
 |[],us,kvs,h1,h2=>by
  have:kvs=[]:=by simpa using h1
  subst this;exact⟨λu h=>by cases us<;>simp[gf]at h,by simp[ft]⟩
 |k::ks,us,[],h1,h2=>by simp at h1
 |k::ks,[],p::kvs,h1,h2=>by simp[ai]at h2
 |k::ks,u0::us,p::kvs,h1,h2=>by
  obtain⟨v,r,e,h3,h4⟩:=h2;rw[OQ]at e;cases e;rw[OQ,OQ,Sh]at h1;obtain⟨i1,i2⟩:=d8 (x:=x) h1.2 h4;by_cases hk:k=x
  ·subst hk;refine⟨λu h=>?_,?_⟩
   ·simp[gf]at h;subst h;exact⟨p.2,dw h1.1,h3⟩
   ·rw[dw h1.1];simp
  ·have hp:¬p.1=Pq x:=by rw[h1.1];intro z;exact hk (UC z)
   refine⟨λu h=>?_,?_⟩
   ·simp[gf,hk]at h;obtain⟨v,e,q⟩:=i1 u h;exact⟨v,by rw[dy hp];exact e,q⟩
   ·rw[dy hp,i2];simp[Qa hk]
theorem yQ(hu:X.A.units+3<Qd):C5 X (Qv .In) (λx y H Q=>∃k d ks,dz X.K H x k/\y=.ref d/\dg X.prog X.w X.K H d ks/\Q (.bl (OI (k∈ks))) H):=by
 intro pins s σ H x y v u Q I rx ry h;obtain⟨k,d,ks,⟨a,b,rfl,h1,h2⟩,rfl,⟨xs,h3,h4,h5⟩,q⟩:=h;cases rx;cases ry;obtain⟨hd,dd⟩:=ij I h3 h5;refine wpAny_in_heap hu (gQ I ⟨a,b,rfl,h1,h2⟩) hd dd ?_;exact⟨.bl (OI (k∈ks)),H,I.tok _,by rw[eV,h4];rfl,q⟩
theorem Rep.row{S:OS->Prop}(h:Rep C S H (Ap r) v):dz C.K H v r:=by
 obtain⟨a,vs,e,h1,v1,r1,e1,h2,v2,r2,e2,h3,h4⟩:=h;cases h4;have e3:v1=.str r.1:=h2;obtain⟨b,ws,e4,h5,h6⟩:=h3;rw[ai.strs]at h6;subst e1 e2 e3 e4 h6;exact⟨a,b,e,h1,h5⟩
theorem Rep.jD{S:OS->Prop}(h:Rep C S H u v):OI (v=.BZ)=jD u:=by
 cases u with
 |BZ=>have:v=.BZ:=h;subst this;rfl
 |bl b=>have:v=.bl b:=h;subst this;rfl
 |int b=>have:v=.int b:=h;subst this;rfl
 |str b=>have:v=.str b:=h;subst this;rfl
 |CD ks us=>obtain⟨a,rfl,_⟩:=h;rfl
 |De ks=>obtain⟨a,rfl,_⟩:=h;rfl
 |_=>obtain⟨a,vs,rfl,_⟩:=h;rfl
theorem sM:C5 X (Qv .Is) (λx y H Q=>∃i j,x=.bl i/\y=.bl j/\Q (.bl (i==j)) H):=by
 intro pins s σ H x y v u Q I rx ry h;obtain⟨i,j,rfl,rfl,q⟩:=h;cases rx;cases ry;cases i<;>cases j<;>exact OF (j6 I q rfl)
theorem nN:C5 X (Qv .IsNot) (λx y H Q=>∃i j,x=.bl i/\y=.bl j/\Q (.bl (!(i==j))) H):=by
 intro pins s σ H x y v u Q I rx ry h;obtain⟨i,j,rfl,rfl,q⟩:=h;cases rx;cases ry;cases i<;>cases j<;>exact OF (j6 I q rfl)
theorem sN(hP:C.P=X.prog)(hw:C.w=X.w)(hK:C.K=X.K)(hu:X.A.units+60<Qd)(t:HQ C c0 c x y vx vy)(I:Inv X pins c.σ c.H s)(rx:RelV vx v)(ry:RelV vy u)(h:b7 op x.2 y.2=Od b):
  OK (OU X.prog X.w) X.A (Qv op.op v u) (yP X pins c b) X.xe s:=by
 obtain⟨hσ,ok,n,tx,ty,_⟩:=t;obtain⟨kx,ux⟩:=x;obtain⟨ky,uy⟩:=y
 dsimp only at h tx ty
 have has:∀neg:Bool,∀b',vN ux uy=Od b'->OK (OU X.prog X.w) X.A (Qv (if neg then .NotIn else .In) v u) (yP X pins c (if neg then !b' else b')) X.xe s:=by
  intro neg b' h;have mx:=tx.read ok;have my:=ty.read ok;unfold vN at h;split at h
  ·obtain⟨a,vs,rfl,h1,h2⟩:=my;cases ry;unfold Gq at h;split at h
   ·rename_i hh;cases h;exact Ao I hK hu mx rx h2 (.inl h1.sq) hh.1 hh.2 ⟨by cases neg<;>rfl,I⟩
   ·cases h
  ·obtain⟨a,vs,rfl,h1,h2⟩:=my;cases ry;unfold Gq at h;split at h
   ·rename_i hh;cases h;exact Ao I hK hu mx rx h2 (.inr h1) hh.1 hh.2 ⟨by cases neg<;>rfl,I⟩
   ·cases h
  ·cases h;have ex:vx=_:=mx;obtain⟨a,kvs,rfl,h1,h2,h3⟩:=ty.dict ok;cases ry;subst ex;have hs:=λz:Str=>(d8 (x:=z) h2 h3).2;cases neg with
   |false=>exact BK ⋯ I (jf.k (k:=Pq _) h1) rx λs' I'=>⟨by rw[hs];rfl,I'⟩
   |true=>exact vv ⋯ I (jf.k (k:=Pq _) h1) rx λs' I'=>⟨by rw[hs];rfl,I'⟩
  ·rw[OM]at h;obtain⟨r,h1,h2⟩:=h;have e:=iI h1;subst e;have hr:=mx.row;obtain⟨a,ea,h3⟩:=ty.pd ok;rw[hK]at hr h3;rw[hP,hw]at h3;subst h2;cases neg with
   |false=>exact cB (yQ ⋯) I rx ry ⟨r,a,_,hr,ea,h3,rfl,rfl⟩
   |true=>exact cB (qw ⋯) I rx ry ⟨r,a,_,hr,ea,h3,rfl,rfl⟩
  ·cases h
 unfold b7 at h;split at h
 ·split at h
  ·rename_i hh;cases h;exact(Am (n:=50) (.of I hK _ _ _ _ hh.1 (tx.read ok) rx) (.of I hK _ _ _ _ hh.2 (ty.read ok) ry) ⋯).1 _ _ _ _ ⟨rfl,I⟩
  ·cases h
 ·split at h
  ·rename_i hh;cases h;exact(Am (n:=50) (.of I hK _ _ _ _ hh.1 (tx.read ok) rx) (.of I hK _ _ _ _ hh.2 (ty.read ok) ry) ⋯).2 _ _ _ _ ⟨rfl,I⟩
  ·cases h
 ·cases h;exact cB zX I rx ry ⟨_,_,tx.int ok,ty.int ok,rfl,rfl⟩
 ·cases h;exact cB zY I rx ry ⟨_,_,tx.int ok,ty.int ok,rfl,rfl⟩
 ·cases h;exact cB zZ I rx ry ⟨_,_,tx.int ok,ty.int ok,rfl,rfl⟩
 ·exact has OE b h
 ·rw[OM]at h;obtain⟨b',h1,rfl⟩:=h;exact has OA b' h1
 ·cases h;have e:=ty.BZ ok;exact cB yc I rx ry ⟨e,by rw[(tx.read ok).jD],rfl⟩
 ·cases h;have e:=ty.BZ ok;exact cB vg I rx ry ⟨e,by rw[(tx.read ok).jD],rfl⟩
 ·cases h;exact cB sM I rx ry ⟨_,_,tx.bl ok,ty.bl ok,rfl,rfl⟩
 ·cases h;exact cB nN I rx ry ⟨_,_,tx.bl ok,ty.bl ok,rfl,rfl⟩
 ·cases h
theorem vW(hP:C.P=X.prog)(hw:C.w=X.w)(hK:C.K=X.K)(hu:X.A.units+60<Qd)(ha:PE X a (B3 C ma))(hb:PE X b (B3 C mb))(hm:Vf op.op b=OE):
  PE X (.Compare a [op.op] [b] pos) (B3 C (ma >>= λx=>mb >>= λy=>ar [x,y] >>= λ_=>M.Ca (b7 op x.2 y.2) >>= λc=>pure (.loc,.bl c))):=by
 rintro pins s σ H Q I ⟨c0,rfl,rfl,ok,h⟩;refine wpAny_Compare1 (two ha hb I ok h λx y c vx vy v u s2 t I2 rx ry w=>?_) hm;rw[af]at w;obtain⟨r,e,q⟩:=bQ.mp w;rw[aj]at q;refine B6 (sN hP hw hK hu t I2 rx ry e) λz s' ⟨e,I'⟩=>?_;subst e;exact⟨.bl r,c.H,by rw[<-t.hσ];exact I',rfl,q c (.bl r) t.hσ rfl t.ok t.nx rfl⟩
theorem vX(hP:C.P=X.prog)(hw:C.w=X.w)(hK:C.K=X.K)(hu:X.A.units+60<Qd)(ha:PE X a (B3 C ma))(hb:PE X b (B3 C mb))(hm:Vf op.op b=OE):
  PT X (.Compare a [op.op] [b] pos) (C0 C (ma >>= λx=>mb >>= λy=>ar [x,y] >>= λ_=>M.Ca (b7 op x.2 y.2))):=by
 rintro pins s σ H Q I ⟨c0,rfl,rfl,ok,h⟩;refine wpAny_isTrue_Compare1 (two (f:=λv u=>Qv op.op v u) (Q':=λ_ _ c s=>OK (OU X.prog X.w) X.A (Wg c) (TP X pins c0.σ Q) X.xe s) ha hb I ok h λx y c vx vy v u s2 t I2 rx ry w=>?_) hm;obtain⟨r,e,q⟩:=bQ.mp w;refine B6 (sN hP hw hK hu t I2 rx ry e) λz s' ⟨e,I'⟩=>?_;subst e;exact Ql ⟨c.H,by rw[<-t.hσ];exact I',q c t.hσ rfl t.ok t.nx⟩
end
section
def Aq(C:Ct)(c0:Cf)(Q:Bool->Hp->Prop)(b:Bool)(st':ay):Prop:=∀c,c.σ=c0.σ->c.st=st'->Ok C c->Nx c0 c->Q b c.H
theorem kL(hσ:c1.σ=c0.σ)(ok:Ok C c1)(n:Nx c0 c1)(h:W m c1.st (bG C c0 Q)):B3 C m c0.σ c1.H Q :=
 ⟨c1,hσ,rfl,ok,h.mono λr st h2 c2 v e3 e4 Cr n2 r2=>h2 c2 v e3 e4 Cr (n.trans n2) (r2.from n)⟩
theorem sO(hσ:c1.σ=c0.σ)(ok:Ok C c1)(n:Nx c0 c1)(h:W m c1.st (Aq C c0 Q)):C0 C m c0.σ c1.H Q :=
 ⟨c1,hσ,rfl,ok,h.mono λr st h2 c2 e3 e4 Cr n2=>h2 c2 e3 e4 Cr (n.trans n2)⟩
theorem aO(ok:Ok C c0)(h:W (ma >>= k) c0.st B7)
  (hz:∀x c v,HR C c0 c x v->W (k x) c.st B7->Z v c.H):B3 C ma c0.σ c0.H Z:=by
 rw[af]at h;exact⟨c0,rfl,rfl,ok,h.mono λx st1 h1 c1 vx e1 e2 B5 n1 r1=>hz x c1 vx ⟨e1,B5,n1,r1⟩ (by rw[e2];exact h1)⟩
theorem cV(ok:Ok C c0)(h:W (ta >>= k) c0.st B7)
  (hz:∀b c,c.σ=c0.σ->Ok C c->Nx c0 c->W (k b) c.st B7->Z b c.H):C0 C ta c0.σ c0.H Z:=by
 rw[af]at h;exact⟨c0,rfl,rfl,ok,h.mono λx st1 h1 c1 e1 e2 B5 n1=>hz x c1 e1 B5 n1 (by rw[e2];exact h1)⟩
def Ar(m:M (Kd×U))(x:Kd×U):M (Kd×U):=match x.2 with
 |.bl OA=>m
 |.bl OE=>pure (.loc,.bl OE)
 |_=>M.fail
def Lq(m:M (Kd×U))(x:Kd×U):M (Kd×U):=match x.2 with
 |.bl OA=>pure (.loc,.bl OA)
 |.bl OE=>m
 |_=>M.fail
def As(x:Kd×U):M (Kd×U):=match x.2 with
 |.bl c=>pure (.loc,.bl !c)
 |_=>M.fail
theorem snd_and(ha:PE X a (B3 C ma))(hb:PE X (.BoolOp .And (b::rest) pos) (B3 C mb)):PE X (.BoolOp .And (a::b::rest) pos) (B3 C (ma >>= Ar mb)):=by
 refine PE.weak (xX ha hb) ?_;rintro σ H Q ⟨c0,rfl,rfl,ok,h⟩;refine aO ok h λx c v t w=>?_;obtain⟨k,u⟩:=x;obtain⟨hσ,B5,n,r⟩:=t;unfold Ar at w;split at w
 ·rename_i e
  dsimp only at e r
  subst e;exact⟨OA,r.bl B5,by rw[Xs rfl];exact kL hσ B5 n w⟩
 ·rename_i e
  dsimp only at e r
  subst e;rw[aj]at w;exact⟨OE,r.bl B5,by rw[Xu O'];exact w c (.bl OE) hσ rfl B5 n rfl⟩
 ·exact(aq.mp w).elim
theorem yR(ha:PE X a (B3 C ma))(hb:PE X (.BoolOp .Or (b::rest) pos) (B3 C mb)):PE X (.BoolOp .Or (a::b::rest) pos) (B3 C (ma >>= Lq mb)):=by
 refine PE.weak (zN ha hb) ?_;rintro σ H Q ⟨c0,rfl,rfl,ok,h⟩;refine aO ok h λx c v t w=>?_;obtain⟨k,u⟩:=x;obtain⟨hσ,B5,n,r⟩:=t;unfold Lq at w;split at w
 ·rename_i e
  dsimp only at e r
  subst e;rw[aj]at w;exact⟨OA,r.bl B5,by rw[Xs rfl];exact w c (.bl OA) hσ rfl B5 n rfl⟩
 ·rename_i e
  dsimp only at e r
  subst e;exact⟨OE,r.bl B5,by rw[Xu O'];exact kL hσ B5 n w⟩
 ·exact(aq.mp w).elim
theorem vY(ha:PE X a (B3 C ma)):PE X (.UnaryOp .Not a pos) (B3 C (ma >>= As)):=by
 refine PE.weak (xY ha) ?_;rintro σ H Q ⟨c0,rfl,rfl,ok,h⟩;refine aO ok h λx c v t w=>?_;obtain⟨k,u⟩:=x;obtain⟨hσ,B5,n,r⟩:=t;unfold As at w;split at w
 ·rename_i e
  dsimp only at e r
  subst e;rw[aj]at w;exact⟨_,r.bl B5,w c (.bl _) hσ rfl B5 n rfl⟩
 ·exact(aq.mp w).elim
theorem vZ(hc:PT X d (C0 C ta))(ha:PE X a (B3 C ma))(hb:PE X b (B3 C mb)):PE X (.IfExp d a b pos) (B3 C (ta >>= λp=>if p=OA then ma else mb)):=by
 refine PE.weak (rB hc ha hb) ?_;rintro σ H Q ⟨c0,rfl,rfl,ok,h⟩;refine cV ok h λp c hσ B5 n w=>?_;cases p with
 |true=>rw[Xs rfl]at w ⊢;exact kL hσ B5 n w
 |false=>rw[Xu O']at w ⊢;exact kL hσ B5 n w
theorem v3(ha:PT X a (C0 C ta)):PT X (.UnaryOp .Not a pos) (C0 C (ta >>= λb=>pure !b)):=by
 refine PT.weak (xW ha) ?_;rintro σ H Q ⟨c0,rfl,rfl,ok,h⟩;refine cV ok h λp c hσ B5 n w=>?_;rw[aj]at w;exact w c hσ rfl B5 n
theorem v5(ha:PT X a (C0 C ta))(hb:PW X (.BoolOp .And (b::rest) pos) (C0 C tb)):PW X (.BoolOp .And (a::b::rest) pos) (C0 C (ta >>= λp=>if p=OA then tb else pure OE)):=by
 have h0:=xV ha hb;rintro wh pins s σ H Q I ⟨c0,rfl,rfl,ok,h⟩;refine h0 wh pins s c0.σ c0.H Q I (cV ok h λp c hσ B5 n w=>?_);cases p with
 |true=>rw[Xs rfl]at w ⊢;exact sO hσ B5 n w
 |false=>rw[Xu O']at w ⊢;rw[aj]at w;exact w c hσ rfl B5 n
theorem yS(ha:PT X a (C0 C ta))(hb:PW X (.BoolOp .Or (b::rest) pos) (C0 C tb)):PW X (.BoolOp .Or (a::b::rest) pos) (C0 C (ta >>= λp=>if p=OA then pure OA else tb)):=by
 have h0:=zK ha hb;rintro wh pins s σ H Q I ⟨c0,rfl,rfl,ok,h⟩;refine h0 wh pins s c0.σ c0.H Q I (cV ok h λp c hσ B5 n w=>?_);cases p with
 |true=>rw[Xs rfl]at w ⊢;rw[aj]at w;exact w c hσ rfl B5 n
 |false=>rw[Xu O']at w ⊢;exact sO hσ B5 n w
theorem pk{us:List α}{vs:List β}(h:us.length=vs.length):(!us.isEmpty)=!vs.isEmpty:=by
 cases us<;>cases vs<;>simp_all
theorem cJ(ha:PE X a (B3 C ma))(hK:C.K=X.K)(he:∀whole,isTrue a X.env whole=(do let v <-whole;UL a.pos;RH [v] (Wg v))):PT X a (C0 C (ma >>= λx=>M.Ca (jm x.2))):=by
 refine PT.weak (rL ha he) ?_;rintro σ H Q ⟨c0,rfl,rfl,ok,h⟩;refine aO ok h λx c v t w=>?_;obtain⟨k,u⟩:=x;obtain⟨hσ,B5,n,r⟩:=t;obtain⟨p,e,q⟩:=bQ.mp w
 dsimp only at e r
 refine⟨p,?_,q c hσ rfl B5 n⟩;unfold jm at e;split at e
 ·cases e;rw[r.bl B5];rfl
 ·cases e;obtain⟨a,vs,rfl,h1,h2⟩:=r.list B5;exact .inl ⟨vs,hK▸h1,pk h2.len⟩
 ·cases e;obtain⟨a,vs,rfl,h1,h2⟩:=r.tuple B5;rw[hK]at h1;exact .inr (.inl ⟨vs,h1,pk h2.len⟩)
 ·split at e
  ·cases e;rw[r.str B5];exact⟨by assumption,rfl⟩
  ·cases e
 ·cases e
end
section
theorem bL.from(n:Nx c0 c1):bL C c1 c rs vs->bL C c0 c rs vs:=by
 intro h;induction rs generalizing vs with
 |nil=>exact h
 |cons r rs ih=>obtain⟨v,t,e,h1,h2,h3⟩:=h;exact⟨v,t,e,h1.from n,ih h2,h3⟩
theorem bL.get{i:Nat}(h:bL C c0 c rs vs)(e:rs[i]?=Od r)(e':vs[i]?=Od v):dF C c0 c r.1 r.2 v:=by
 induction rs generalizing vs i with
 |nil=>simp at e
 |cons r' rs ih =>
  obtain⟨v',t,rfl,h1,h2,h3⟩:=h;cases i with
  |zero=>simp at e e';subst e e';exact h1
  |succ i=>exact ih h2 (by simpa using e) (by simpa using e')
theorem v7:PA X [] (C1 C (pure [])):=by
 rintro pos pins s σ H Q I ⟨c0,rfl,rfl,ok,h⟩;rw[aj]at h;exact hZ pos pins s c0.σ c0.H Q I (h c0 [] rfl rfl ok (Nx.refl c0) rfl)
theorem sQ(ha:PE X e (B3 C m))(hr:PA X es (C1 C ms))(hs:O4 (e::es) X.env=(OE,Qx e X.env)::O4 es X.env):PA X (e::es) (C1 C (m >>= λr=>ms >>= λrs=>pure (r::rs))):=by
 rintro pos pins s σ H Q I ⟨c0,rfl,rfl,ok,h⟩;refine d0 ha hr hs pos pins s c0.σ c0.H Q I (aO ok h λr c1 v t w=>?_);rw[af]at w;refine⟨c1,t.hσ,rfl,t.ok,w.mono λrs st2 h2 c2 vs e3 e4 Cr n2 r2=>?_⟩;rw[aj]at h2;refine h2 c2 (v::vs) e3 e4 Cr (t.nx.trans n2) ⟨v,vs,rfl,t.rx.w.on t.ok n2 (e3.trans t.hσ.symm),r2.from t.nx,λhk i r' v' e5 e6 Cv=>?_⟩;exact kK t.rx.w (r2.get e5 e6) hk Cv
structure DT(C:Ct)(c0 c:Cf)(rs:List (Kd×U))(vs:List V):Prop where
 hσ:c.σ=c0.σ
 ok:Ok C c
 nx:Nx c0 c
 rep:bL C c0 c rs vs
 Gv:aX rs c.st
theorem args{k:List (Kd×U)->M β}{B7:β->ay->Prop}(ha:PA X es (C1 C ms))(I:Inv X pins c0.σ c0.H s)(ok:Ok C c0)(h:W (ms >>= λrs=>ar rs >>= λ_=>k rs) c0.st B7)(pos:Pos):
  OK (OU X.prog X.w) X.A (Wx (QC pos (O4 es X.env))) (λus s1=>∃rs c vs,DT C c0 c rs vs/\Inv X pins c.σ c.H s1/\Vals vs us/\W (k rs) c.st B7) X.xe s:=by
 rw[af]at h;refine B6 (ha pos pins s c0.σ c0.H (λvs H1=>∃rs c,c.H=H1/\DT C c0 c rs vs/\W (k rs) c.st B7) I ⟨c0,rfl,rfl,ok,h.mono λrs st1 h1 c1 vs e1 e2 B5 n1 r1=>?_⟩) ?_
 ·rw[af,bE]at h1;subst e2;exact⟨rs,c1,rfl,⟨e1,B5,n1,r1,h1.1⟩,h1.2⟩
 ·rintro us s1 ⟨vs,H1,I1,rv,rs,c1,rfl,t,w⟩;exact⟨rs,c1,vs,t,by rw[t.hσ];exact I1,rv,w⟩
theorem DT.one(t:DT C c0 c [r] vs):∃v,vs=[v]/\aC C c0 c r.1 r.2 v:=by
 obtain⟨v,t',rfl,h1,h2,_⟩:=t.rep;cases h2;exact⟨v,rfl,h1.t t.Gv⟩
theorem Ok.share(ok:Ok C c)(h0:C.H₀ r=OB)(hH:∃o,c.H r=Od o)(hl:st'.length=c.st.length)
  (B_:∀(i:Nat) k u,st'[i]?=Od (Od (k,u))->(∃v,c.σ[i]?=Od (Od v)/\dC C (λa=>c.S a\/a=r) c.H k u v)/\(k.root=OA->c.st[i]?=Od (Od (k,u)))) (Fq:En C {c with S:=λa=>c.S a\/a=r,st:=st' }) :
  Ok C {c with S:=λa=>c.S a\/a=r,st:=st' }:=by
 refine⟨ok.same,λa z=>?_,ok.par,ok.io,by rw[show({c with S:=λa=>c.S a\/a=r,st:=st' }:Cf).st.length=st'.length from rfl,hl];exact ok.len,λi k u e=>(B_ i k u e).1,λi j k k' u u' r' hk Cv e1 e2 e3 e4=>?_,Fq⟩
 ·rcases z with z|rfl
  ·exact ok.DG a z
  ·exact⟨h0,hH⟩
 ·exact ok.inj i j k k' u u' r' hk Cv ((B_ i k u e1).2 hk) ((B_ j k' u' e2).2 Cv) e3 e4
theorem Ok.yT(C2:Ok C c0)(ok:Ok C c)(n:Nx c0 c)(h0:c0.H r=OB)(hR:¬c.R r)(hr:bW C c.S c.H r u):
  Ok C {c with S:=λa=>c.S a\/a=r}/\Nx c0 {c with S:=λa=>c.S a\/a=r}:=by
 obtain⟨o,ho,_⟩:=hr.some;refine⟨ok.share (st':=c.st) (C2.kJ h0).1 ⟨o,ho⟩ rfl (λi k u e=>⟨?_,λ_=>e⟩) (ok.dd.hs (.up λa=>.inl) λj a z=>⟨λq=>q.elim (ok.root (.inr ⟨j,z⟩)).1 λe=>hR (.inr ⟨j,e▸z⟩),λo q=>q⟩),⟨⟨n.keep,n.there,n.roots,λa z=>.inl (n.sub a z),λa z=>?_⟩⟩⟩
 ·obtain⟨v,e1,e2⟩:=ok.sl i k u e;have Nd:Mv c.S c.H (λa=>c.S a\/a=r) c.H:=.up λa=>.inl;refine⟨v,e1,e2.mv Nd (.up λa z=>z.imp id .inl) λhk r' er=>⟨?_,λo q=>q⟩⟩;obtain⟨Kh,Dx,q1,_⟩:=e2.rt hk;rw[er]at Dx;cases Dx;rintro(z|rfl)
  ·exact q1 z
  ·exact hR (.inl ⟨i,k,u,hk,e,by rw[e1,er]⟩)
 ·rcases z with z|rfl
  ·exact n.new a z
  ·exact .inr (.inr h0)
theorem Ok.sR(ok:Ok C c)(n:Nx c0 c)(hj:c.st[j]?=Od (Od (.own,u)))(hv:c.σ[j]?=Od (Od (.ref r))):
  Ok C {c with S:=λa=>c.S a\/a=r,st:=c.st.set j (Od (.loc,u))}/\Nx c0 {c with S:=λa=>c.S a\/a=r,st:=c.st.set j (Od (.loc,u))}/\Rep C (λa=>c.S a\/a=r) c.H u (.ref r):=by
 obtain⟨v',e1,r',er,q1,q2,q3,q4⟩:=ok.sl j _ _ hj;rw[hv]at e1;cases e1;cases er;have Dg:Rep C (λa=>c.S a\/a=r) c.H u (.ref r):=q4.rep (λa=>.inl) (.inr rfl);obtain⟨o,ho,_⟩:=q4.some;have EI:j<c.st.length:=(OT.mp hj).1;have CW:∀(i:Nat) k u',(c.st.set j (Od (.loc,u)))[i]?=Od (Od (k,u'))->i≠j->c.st[i]?=Od (Od (k,u')):=λi k u' e ne=>by rw[O5 (Qa ne)]at e;exact e
 have Fs:c.R1 r:=⟨j,.own,u,rfl,hj,hv⟩
 have dD:∀(i:Nat) (u':U),(c.st.set j (Od (.loc,u)))[i]?=Od (Od (.B1,u'))->c.st[i]?=Od (Od (.B1,u')):=λi u' e=>by
  by_cases CC:i=j
  ·subst CC;rw[O3 EI]at e;cases e
  ·exact CW i .B1 u' e CC
 have b1:∀a,({c with S:=λa=>c.S a\/a=r,st:=c.st.set j (Od (.loc,u))}:Cf).R1 a->c.R1 a:=λa Du=>by
  obtain⟨i,k,u',hk,e,e'⟩:=Du;by_cases CC:i=j
  ·subst CC;rw[O3 EI]at e;cases e;cases hk
  ·exact⟨i,k,u',hk,CW i k u' e CC,e'⟩
 have Fq:En C {c with S:=λa=>c.S a\/a=r,st:=c.st.set j (Od (.loc,u))}:=ok.dd.of rfl (λi u' e=>⟨dD i u' e,rfl⟩) (λa z=>.inl (b1 a z)) (.up λa=>.inl) λi a z=>⟨λq=>q.elim (ok.root (.inr ⟨i,z⟩)).1 λe=>ok.dd.d1 i a z (e▸Fs),λo q=>q⟩
 refine⟨ok.share (st':=c.st.set j (Od (.loc,u))) q3 ⟨o,ho⟩ (by simp) (λi k u' e=>?_) Fq,⟨⟨n.keep,n.there,λa z=>?_,λa z=>.inl (n.sub a z),λa z=>?_⟩⟩,Dg⟩
 ·by_cases CC:i=j
  ·subst CC;rw[O3 EI]at e;cases e;exact⟨⟨.ref r,hv,Dg⟩,λz=>nomatch z⟩
  ·have e0:=CW i k u' e CC;obtain⟨v,e1,e2⟩:=ok.sl i k u' e0;refine⟨⟨v,e1,e2.mv (.up λa=>.inl) (.up λa z=>z.imp id .inl) λhk r' er=>⟨?_,λo q=>q⟩⟩,λ_=>e0⟩;obtain⟨Kh,Dx,p1,_⟩:=e2.rt hk;rw[er]at Dx;cases Dx;rintro(z|rfl)
   ·exact p1 z
   ·exact CC (ok.inj i j k .own u' u r' hk rfl e0 hj (by rw[e1,er]) hv)
 ·rcases z with z|⟨i,u',r',e1,e2,e3⟩
  ·exact n.roots a (.inl (b1 a z))
  ·exact n.roots a (.inr ⟨i,u',r',dD i u' e1,e2,e3⟩)
 ·rcases z with z|rfl
  ·exact n.new a z
  ·rcases n.roots a (.inl ⟨j,.own,u,rfl,hj,hv⟩) with z|z
   ·exact .inr (.inl z)
   ·exact .inr (.inr z)
theorem kM(C2:Ok C c0)(ok:Ok C c)(n:Nx c0 c)(hr:dF C c0 c r.1 r.2 v)(h:W (lift r) c.st B7):
  ∃(S':OS->Prop) (st':ay) (u:U),(∀a,c.S a->S' a)/\Ok C {c with S:=S',st:=st' }/\Nx c0 {c with S:=S',st:=st' }/\Rep C S' c.H u v/\B7 u st' /\
   (∀a,S' a->c.S a\/v=.ref a/\(r.1=.own\/c.R a))/\∀a,({c with S:=S',st:=st' }:Cf).R a->c.R a:=by
 obtain⟨k,u⟩:=r;cases k with
 |own =>
  rw[show lift (.own,u)=pure u from rfl,aj]at h;obtain⟨r,e,h1,h2,h3,h4⟩:=hr;obtain⟨Cb,n'⟩:=Ok.yT C2 ok n h1 h3 h4;refine⟨_,c.st,u,λa=>.inl,Cb,n',by rw[e];exact h4.rep (λa=>.inl) (.inr rfl),h,λa z=>?_,λa z=>z⟩;rcases z with z|rfl
  ·exact .inl z
  ·exact .inr ⟨e,.inl rfl⟩
 |loc =>
  rw[show lift (.loc,u)=pure u from rfl,aj]at h;exact⟨c.S,c.st,u,λa=>id,ok,n,hr,h,λa z=>.inl z,λa z=>z⟩
 |any =>
  rw[show lift (.any,u)=if Co u=OA then pure u else M.fail from rfl]at h;split at h
  ·rw[aj]at h;exact⟨c.S,c.st,u,λa=>id,ok,n,Rep.Co (by assumption) hr,h,λa z=>.inl z,λa z=>z⟩
  ·exact(aq.mp h).elim
 |bor j =>
  obtain⟨x,st',e,hp⟩:=h;rw[show lift (.bor j,u) c.st=match c.st[j]? with|some (Od (.own,u))=>Od (Ex.ok u,c.st.set j (Od (.loc,u)))|_=>OB from rfl]at e;split at e
  ·rename_i w hj;cases e;obtain⟨v',e1,r,er,_⟩:=ok.sl j _ _ hj;have hv:c.σ[j]?=Od (Od v):=hr;rw[hv]at e1;cases e1;subst er;obtain⟨Cb,n',rep⟩:=ok.sR n hj hv;refine⟨_,_,_,λa=>.inl,Cb,n',rep,hp,λa z=>?_,λa z=>?_⟩
   ·rcases z with z|rfl
    ·exact .inl z
    ·exact .inr ⟨rfl,.inr (.inl ⟨j,.own,_,rfl,hj,hv⟩)⟩
   ·rcases z with⟨i,k,u',hk,e,e'⟩|⟨i,u',r',e,e',Nf⟩
    rotate_left 1
    ·by_cases CC:i=j
     ·subst CC;have EI:i<c.st.length:=(OT.mp hj).1;rw[O3 EI]at e;cases e
     ·rw[O5 (Qa CC)]at e;exact .inr ⟨i,u',r',e,e',Nf⟩
    by_cases CC:i=j
    ·subst CC;have EI:i<c.st.length:=(OT.mp hj).1;rw[O3 EI]at e;cases e;cases hk
    ·rw[O5 (Qa CC)]at e;exact .inl ⟨i,k,u',hk,e,e'⟩
  ·cases e
 |_=>exact hr.elim
theorem fI:∀{rs:List (Kd×U)}{vs:List V}{c:Cf}{B7:List U->ay->Prop},Ok C c0->Ok C c->Nx c0 c->bL C c0 c rs vs->W (cu rs) c.st B7 ->
  ∃(S':OS->Prop) (st':ay) (us:List U),(∀a,c.S a->S' a)/\Ok C {c with S:=S',st:=st' }/\Nx c0 {c with S:=S',st:=st' }/\ai C S' c.H us vs/\B7 us st'
 |[],vs,c,B7,C2,ok,n,hr,h=>by
  rw[show cu []=pure [] from rfl,aj]at h;exact⟨c.S,c.st,[],λa=>id,ok,n,hr,h⟩
 |r::rs,vs,c,B7,C2,ok,n,hr,h=>by
  obtain⟨v,t,rfl,h1,h2,h3⟩:=hr;rw[show cu (r::rs)=lift r >>= λu=>cu rs >>= λus=>pure (u::us) from rfl,af]at h;obtain⟨S1,st1,u,s1,B5,n1,rep1,h4,G0,Fs⟩:=kM C2 ok n h1 h;rw[af]at h4;have HU:bL C c0 {c with S:=S1,st:=st1} rs t:=by
   clear h h4;have aux:∀(l:List (Kd×U)) (w:List V),bL C c0 c l w->(r.1=.own->∀(i:Nat) r' v',l[i]?=Od r'->w[i]?=Od v'->r'.1=.own->v'≠v)->bL C c0 {c with S:=S1,st:=st1} l w:=by
    intro l;induction l with
    |nil=>intro w q _;exact q
    |cons r2 l ih =>
     intro w q C7;obtain⟨v2,t2,rfl,q1,q2,q3⟩:=q;refine⟨v2,t2,rfl,?_,ih t2 q2 (λhk i r' v' e1 e2 Cv=>C7 hk (i+1) r' v' (by simpa using e1) (by simpa using e2) Cv),q3⟩;obtain⟨k2,u2⟩:=r2;cases k2 with
     |own =>
      obtain⟨a,e,p1,p2,p3,p4⟩:=q1;refine⟨a,e,p1,λz=>?_,λz=>p3 (Fs a z),p4.mv (.up s1) λo q=>q⟩;rcases G0 a z with z|⟨z,z'|z'⟩
      ·exact p2 z
      ·exact C7 z' 0 _ v2 rfl rfl rfl (e.trans z.symm)
      ·exact p3 z'
     |loc=>exact Rep.mv (.up s1) q1
     |any=>exact Rep.mv (.up λa z=>z.imp id (s1 a)) q1
     |_=>exact q1
   exact aux rs t h2 h3
  obtain⟨S2,st2,us,s2,Cr,n2,rep2,h5⟩:=fI (c:={c with S:=S1,st:=st1}) C2 B5 n1 HU h4;rw[aj]at h5;exact⟨S2,st2,u::us,λa z=>s2 a (s1 a z),Cr,n2,⟨v,t,rfl,rep1.mv (.up s2),rep2⟩,h5⟩
theorem v8(ha:PA X es (C1 C ms)):PE X (.Tuple es x1 pos) (B3 C (ms >>= λrs=>ar rs >>= λ_=>cu rs >>= λus=>if us.length<=OG then pure (.loc,.tup us) else M.fail)):=by
 rintro pins s σ H Q I ⟨c0,rfl,rfl,ok,h⟩;refine wpAny_Tuple_spliced (B6 (args ha I ok h pos) λus s1 ⟨rs,c,vs,t,I1,rv,w⟩=>?_);rw[af]at w;obtain⟨S',st',ws,Ng,B5,n1,rep,w1⟩:=fI ok t.ok t.nx t.rep w;split at w1
 ·rename_i hz;rw[aj]at w1;have hl:vs.length<=OG:=by rw[<-rep.len];exact hz
  refine⟨by rw[<-rv.length];exact hl,?_⟩;have hf:c.H s1.heap.objs.size=OB:=I1.B0.fresh (ON _);have I2:Inv X pins c0.σ c.H s1:=by rw[<-t.hσ];exact I1
  refine⟨.ref s1.heap.objs.size,upd c.H s1.heap.objs.size (.tup vs),I2.laid (t':=s1.toks) (λb u e=>OC _ e) (ON _) ⟨hl,us,rv,TB _ _⟩,rfl,?_⟩;exact bG.tup (c:={c with S:=S',st:=st' }) w1 t.hσ B5 n1 rep _ hf
 ·exact(aq.mp w1).elim
theorem v9(ha:PA X es (C1 C ms)):PE X (.List es pos) (B3 C (ms >>= λrs=>ar rs >>= λ_=>cu rs >>= λus=>if us.length<=OG then pure (.own,.lst us) else M.fail)):=by
 rintro pins s σ H Q I ⟨c0,rfl,rfl,ok,h⟩;refine wpAny_List_spliced (B6 (args ha I ok h pos) λus s1 ⟨rs,c,vs,t,I1,rv,w⟩=>?_);rw[af]at w;obtain⟨S',st',ws,Ng,B5,n1,rep,w1⟩:=fI ok t.ok t.nx t.rep w;split at w1
 ·rename_i hz;rw[aj]at w1;have hl:vs.length<=OG:=by rw[<-rep.len];exact hz
  refine⟨by rw[<-rv.length];exact hl,?_⟩;have hf:c.H s1.heap.objs.size=OB:=I1.B0.fresh (ON _);have I2:Inv X pins c0.σ c.H s1:=by rw[<-t.hσ];exact I1
  refine⟨.ref s1.heap.objs.size,upd c.H s1.heap.objs.size (.lst vs),I2.laid (t':=s1.toks) (λb u e=>OC _ e) (ON _) ⟨hl,us,0,rv,OO _ rfl⟩,rfl,?_⟩;exact bG.list (c:={c with S:=S',st:=st' }) w1 t.hσ B5 n1 rep _ hf
 ·exact(aq.mp w1).elim
end
section
theorem pq(hN:X.N[i]?=Od x)(hv:EU X.env.scope x)(hd:(x==("__debug__":Str))=OE)(C_:(x==("__classdict__":Str))=OE):PE X (.Name x pos) (B3 C (dH i)):=by
 refine PE.weak (eS hN hv hd C_) ?_;rintro σ H Q ⟨c0,rfl,rfl,ok,r,st',e,h⟩;unfold dH at e;split at e
 ·cases e
 ·rename_i k u Ki hs;cases e;obtain⟨v,e1,e2⟩:=ok.sl i k u hs;refine⟨v,e1,h c0 v rfl rfl ok (Nx.refl c0) ?_⟩;by_cases hk:k.root=OA
  ·rw[Xs hk];exact⟨⟨k,hk,hs⟩,e1⟩
  ·rw[Xu hk];cases k with
   |loc=>exact e2
   |any=>exact e2
   |bor j=>exact e2.elim
   |B1=>exact(Ki rfl).elim
   |_=>exact absurd rfl hk
 ·cases e
theorem fJ(h:PE X e (tC v))(r:∀S H,Rep C S H u v):PE X e (B3 C (pure (.loc,u))):=by
 refine PE.weak h ?_;rintro σ H Q ⟨c0,rfl,rfl,ok,h⟩;rw[aj]at h;exact h c0 v rfl rfl ok (Nx.refl c0) (r _ _)
theorem bG.root(h:bG C c0 Q (.own,u) c.st)(hσ:c.σ=c0.σ)(ok:Ok C c)(n:Nx c0 c)(p:OS)(hp:c.H p=OB)(r:bW C c.S (upd c.H p o) p u):Q (.ref p) (upd c.H p o):=by
 obtain⟨Cb,n'⟩:=ok.lay (o:=o) hp;obtain⟨h0,h1,h2,h3,h4⟩:=ok.kJ hp;exact h {c with H:=upd c.H p o} _ hσ rfl Cb (n.trans n') ⟨p,rfl,n.none hp,h1,h4,r⟩
theorem sT(hP:C.P=X.prog)(hw:C.w=X.w)(r:Bool):PE X (.Dict [] [] pos) (B3 C (pure (.own,if r=OA then .De [] else .CD [] []))):=by
 cases r with
 |false =>
  refine PE.weak rY ?_;rintro σ H Q ⟨c0,rfl,rfl,ok,h⟩ p hp;rw[aj,Xu O']at h;exact bG.root h rfl ok (Nx.refl c0) p hp ⟨[],av,rfl,rfl⟩
 |true =>
  refine PE.weak vD ?_;rintro σ H Q ⟨c0,rfl,rfl,ok,h⟩ p hp;rw[aj,Xs rfl]at h;refine bG.root h rfl ok (Nx.refl c0) p hp ⟨[],?_,rfl,λx hx=>by cases hx⟩;rw[hP,hw];exact av
theorem ai.CS{S:OS->Prop}(h:ai C S H us vs)(e:CS us i=Od u):∃v,L2.CS vs i=Od v/\Rep C S H u v:=by
 unfold L2.CS at e ⊢;rw[h.len]at e;cases q:E8 vs.length i with
 |none=>rw[q]at e;cases e
 |some j =>
  rw[q]at e;exact h.get e
theorem yU(hK:C.K=X.K)(hu:X.A.units+60<Qd)(hs:j_ b)(t:HQ C c0 c x y vx vy)(I:Inv X pins c.σ c.H s)(rx:RelV vx v)(ry:RelV vy u)(h:dG x y.2=Od r)(q:bG C c0 Q r c.st):
  OK (OU X.prog X.w) X.A (Vi a b v u) (EP X pins c.σ Q) X.xe s:=by
 obtain⟨hσ,ok,n,tx,ty,-⟩:=t;obtain⟨ky,uy⟩:=y
 dsimp only at h ty
 unfold dG at h;split at h
 ·rename_i k xs i;rw[OM]at h;obtain⟨w,e,rfl⟩:=h;obtain⟨a',vs,ex,h1,h2⟩:=tx.list ok;obtain⟨vw,e1,e2⟩:=h2.CS e;exact vo a b pins s c.σ c.H vx vy v u Q I rx ry ⟨a',vs,i,vw,ex,ty.int ok,hK▸h1,e1,q c vw hσ rfl ok n (aC.item e2)⟩ (hs _ _)
 ·rename_i k xs i;rw[OM]at h;obtain⟨w,e,rfl⟩:=h;obtain⟨a',vs,ex,h1,h2⟩:=tx.tuple ok;obtain⟨vw,e1,e2⟩:=h2.CS e;rw[hK]at h1;exact m8 a b pins s c.σ c.H vx vy v u Q I rx ry ⟨a',vs,i,vw,ex,ty.int ok,h1,e1,q c vw hσ rfl ok n (aC.item e2)⟩ (hs _ _)
 ·split at h
  ·rw[OM]at h;obtain⟨w,e,rfl⟩:=h;exact ka a b pins s c.σ c.H vx vy v u Q I rx ry ⟨_,_,w,tx.str ok,ty.int ok,by assumption,e,q c _ hσ rfl ok n rfl⟩ (hs _ _)
  ·cases h
 ·rename_i k ks us x;rw[OM]at h;obtain⟨w,e,rfl⟩:=h;obtain⟨a',kvs,ex,h1,h2,h3⟩:=tx.dict ok;obtain⟨vw,e1,e2⟩:=(d8 (x:=x) h2 h3).1 w e;have ey:=ty.str ok;subst ex ey;cases rx;have g:jf c.H a' (.str x) (Od vw):=by rw[<-e1];exact jf.k (k:=Pq x) h1
  exact Xl (ops:=[.ref a',u]) (lH I g) PySem.F.slot_dict_getitem.lookup (qu ⋯ I g ry λw' s3 I3 Ew=>⟨vw,c.H,I3,Ew,q c vw hσ rfl ok n (aC.item e2)⟩) (hs _ _)
 ·cases h
theorem pv(hK:C.K=X.K)(hu:X.A.units+60<Qd)(hs:j_ b)(ha:PE X a (B3 C ma))(hb:PE X b (B3 C mb)):PE X (.Subscript a b pos) (B3 C (ma >>= λx=>mb >>= λy=>ar [x,y] >>= λ_=>M.Ca (dG x y.2))):=by
 rintro pins s σ H Q I ⟨c0,rfl,rfl,ok,h⟩;refine Subscript_ (two ha hb I ok h λx y c vx vy v u s2 t I2 rx ry w=>?_);obtain⟨r,e,q⟩:=bQ.mp w;exact B6 (yU hK hu hs t I2 rx ry e q) λ_ _ z=>by rw[t.hσ]at z;exact z
theorem ai.cut{S:OS->Prop}(h:ai C S H us vs)(lo hi:Option Int):ai C S H (TM.cut us lo hi) (lC vs lo hi):=by
 unfold TM.cut lC;rw[h.len];exact(h.drop _).take _
theorem qM{lo hi:Option Int}(h:HT.B4 xs.length 0 lo=0/\HT.B4 xs.length xs.length hi=xs.length):cut xs lo hi=xs:=by
 unfold cut;rw[h.1,h.2];simp
end
section
variable{prog:PC}{w:P4}{A:QW}{E:OH->OR->Prop}{s:OR}
theorem eF{lo hi:Option Int}(ht:V2 s.heap t items)(hs:s.heap.IsSliceOf sl vl vu .none)(pl:Tn vl lo)(pu:Tn vu hi)
  (hw:HT.B4 items.size 0 lo=0/\HT.B4 items.size items.size hi=items.size) (h:Q (.ref t) s):OK (OU prog w) A (Ts (.ref t) (.ref sl)) Q E s:=by
 obtain⟨os,Eu,IF,Hj⟩:=id hs;have JE:s.TypeIs (.ref sl) "slice":=⟨os,Eu,IF⟩
 unfold Ts
 try with_reducible refine PJ ?_
 first|refine Oz (OF ?_)|skip
 refine Oz (Wu ht.typeIs (by decide) ?_);refine Oz (Qm (name:=Q9 "__getitem__") ht.typeIs Pt
  (PK Pt ht.typeIs V_ ?_ (Wm _ _)))
 show OK _ _ (RB (.ref t) >>= _) _ _ s;refine Oz (tupleItemsOf_ ht ?_);refine Oz (Rg JE ?_);rw[Xs (by decide)];refine Oz (HT.cO hs pl pu ?_);have Kj:(((HT.B4 items.size 0 lo:Nat):Int)==0&&(1:Int)==1&&(HT.B4 items.size items.size hi - HT.B4 items.size 0 lo)==items.size)=OA:=by
  rw[hw.1,hw.2];simp
 show OK _ _ (if (((HT.B4 items.size 0 lo:Nat):Int)==0&&(1:Int)==1&&(HT.B4 items.size items.size hi - HT.B4 items.size 0 lo)==items.size)=OA then _ else _) _ _ s;rw[Xs Kj];show OK (OU prog w) A.in1 ((Vt (O0 t) >>= λx=>pure (x==.type "tuple")) >>= _) _ _ s;refine Oz (Oz (Rg ht.typeIs (OF ?_)));rw[Xs (by decide)];exact Oz (Ra (OF ⟨_,rfl,OF h⟩))
end
section
variable{X:Cx}{C:Ct}{pins:List (OS×Obj)}{s:OR}{c0 c c1:Cf}
variable{a b d e:Pw}{es:List Pw}{m ma mb md:M (Kd×U)}{ms:M (List (Kd×U))}{ta tb:M Bool}{pos p p2:Pos}
theorem v_:EW X (λx lo hi H Q=>∃a xs,x=.ref a/\Ci X.K H a xs/\(HT.B4 xs.length 0 lo=0/\HT.B4 xs.length xs.length hi=xs.length)/\Q (.ref a) H):=by
 intro pins s σ H x v vl vu lo hi sl Q I rx hs pl pu h;obtain⟨a,xs,rfl,hx,hw,q⟩:=h;cases rx;obtain⟨A',r,ht,hz⟩:=I.tuple hx;have hlen:A'.toArray.size=xs.length:=by rw[OL];exact r.length.symm
 exact⟨"tuple",_,Pt.lookup,ht.typeIs,eF ht hs pl pu (by rw[hlen];exact hw) ⟨.ref a,H,I,rfl,q⟩⟩
def tO(C:Ct)(m:M (Option Int)):TO:=λσ H Q=>∃c0:Cf,c0.σ=σ/\c0.H=H/\Ok C c0/\W m c0.st λi st'=>∀c,c.σ=σ->c.st=st'->Ok C c->Nx c0 c->Q i c.H
theorem qN:PO X OB (tO C (pure OB)):=by
 rintro pins s σ H Q I ⟨c0,rfl,rfl,ok,h⟩;rw[aj]at h;exact vk pins s c0.σ c0.H Q I (h c0 rfl rfl ok (Nx.refl c0))
theorem qO(ha:PE X a (B3 C ma)):PO X (Od a) (tO C (ma >>= yK)):=by
 rintro pins s σ H Q I ⟨c0,rfl,rfl,ok,h⟩;refine vm ha pins s c0.σ c0.H Q I (aO ok h λx c v t w=>?_);obtain⟨k,u⟩:=x;unfold yK at w;split at w
 ·rename_i i e
  dsimp only at e
  subst e;rw[aj]at w;exact⟨i,t.rx.int t.ok,w c t.hσ rfl t.ok t.nx⟩
 ·exact(aq.mp w).elim
theorem yV{lo hi:Option Int}(hK:C.K=X.K)(hσ:c.σ=c0.σ)(ok:Ok C c)(n:Nx c0 c)(tx:aC C c0 c x.1 x.2 vx)(h:l8 x lo hi=Od r)(q:bG C c0 Q r c.st):
  ((Af X.K vx lo hi c.H Q\/Ac X.K vx lo hi c.H Q)\/(∃a xs,vx=.ref a/\Ci X.K c.H a xs/\(HT.B4 xs.length 0 lo=0/\HT.B4 xs.length xs.length hi=xs.length)/\Q (.ref a) c.H))\/Ah vx lo hi c.H Q:=by
 unfold l8 at h;split at h
 ·split at h
  ·rename_i hh;cases h;obtain⟨a',vs,ex,h1,h2⟩:=tx.list ok;exact .inl (.inl (.inl ⟨a',vs,ex,hK▸h1,λp hp=>q.list hσ ok n ((bS hh h2).cut lo hi) p hp⟩))
  ·cases h
 ·cases h;obtain⟨a',vs,ex,h1,h2⟩:=tx.tuple ok;have DC:=h1;rw[hK]at DC;by_cases hw:HT.B4 vs.length 0 lo=0/\HT.B4 vs.length vs.length hi=vs.length
  ·refine .inl (.inr ⟨a',vs,ex,DC,hw,?_⟩);refine q c (.ref a') hσ rfl ok n (aC.item ⟨a',vs,rfl,h1,?_⟩);rw[qM (by rw[h2.len];exact hw)];exact h2
  ·exact .inl (.inl (.inr ⟨a',vs,ex,DC,hw,λp hp=>q.tupK hσ ok n (h2.cut lo hi) p hp⟩))
 ·split at h
  ·cases h;exact .inr ⟨_,tx.str ok,by assumption,q.flat hσ ok n rfl⟩
  ·cases h
 ·cases h
theorem wa{lo hi:Option Pw}(hK:C.K=X.K)(ha:PE X a (B3 C ma))(hl:PO X lo (tO C ml))(hh:PO X hi (tO C mh)):
  PE X (.Subscript a (.Slice lo hi OB p2) pos) (B3 C (ma >>= λx=>ml >>= λl=>mh >>= λh=>ar [x] >>= λ_=>M.Ca (l8 x l h))):=by
 refine PE.weak (rO (((EW.or vp yf).or v_).or yp) ha hl hh) ?_;rintro σ H Q ⟨c0,rfl,rfl,ok,h⟩;refine aO ok h λx c v t w=>?_;rw[af]at w;refine⟨c,t.hσ,rfl,t.ok,w.mono λl st2 h2 c2 e1 e2 Cr n2=>?_⟩;subst e2;rw[af]at h2;refine⟨c2,e1,rfl,Cr,h2.mono λl' CI h3 c3 e3 e4 EJ n3=>?_⟩;subst e4;rw[af,bE]at h3;obtain⟨r,e,q⟩:=bQ.mp h3.2;have Lr:Nx c c3:=n2.trans n3;exact yV hK e3 EJ (t.nx.trans Lr) ((t.rx.w.on t.ok Lr (e3.trans t.hσ.symm)).t h3.1) e q
end
section
variable{X:Cx}{C:Ct}{pins:List (OS×Obj)}{s:OR}{c0 c c1:Cf}
variable{a b d e:Pw}{es:List Pw}{m ma mb md:M (Kd×U)}{ms:M (List (Kd×U))}{ta tb:M Bool}{pos p p2:Pos}
def Bf.val:Bf->OH
 |.len=>.builtin "len"|.sorted=>.builtin "sorted"|.repr=>.builtin "repr"|.max=>.builtin "max"|.min=>.builtin "min"|.all=>.builtin "all"|.any=>.builtin "any"
 |.list=>.type "list"|.tuple=>.type "tuple"|.str=>.type "str"|.int=>.type "int"
 |.sum=>.builtin "sum"
def Bf.name:Bf->Str
 |.len=>"len"|.sorted=>"sorted"|.repr=>"repr"|.max=>"max"|.min=>"min"|.all=>"all"|.any=>"any"
 |.list=>"list"|.tuple=>"tuple"|.str=>"str"|.int=>"int"
 |.sum=>"sum"
theorem call_of(hc:eG X f r)(I:Inv X pins c.σ c.H s)(rv:Vals vs us)(h:r vs c.H Q):OK (OU X.prog X.w) X.A (Rm f us) (EP X pins c.σ Q) X.xe s:=hc pins s c.σ c.H vs us Q I rv h
theorem ai.pw{S:OS->Prop}{f:α->U}{g:α->V}:∀{l:List α},(∀x∈l,Rep C S H (f x) (g x))->ai C S H (l.map f) (l.map g)
 |[],_=>rfl
 |x::l,h=>⟨g x,l.map g,rfl,h x (by simp),ai.pw λy hy=>h y (by simp[hy])⟩
theorem ai.Ls{S:OS->Prop}(hK:C.K=X.K):∀{us:List U}{ks:List Str}{vs:List V},jE us=Od ks->ai C S H us vs->∃as:List OS,vs=as.map V.ref/\as.length=ks.length/\∀(j:Nat) a k,as[j]?=Od a->ks[j]?=Od k->∃b,Ci X.K H a [.str k,.int b]
 |[],ks,vs,e,h=>by
  cases e;cases h;exact⟨[],rfl,rfl,by simp⟩
 |u::us,ks,vs,e,h=>by
  obtain⟨v,r,rfl,h1,h2⟩:=h;unfold jE at e;split at e
  ·rename_i e0;cases e0
  ·rename_i x nn D_ e0;cases e0;rw[OM]at e;obtain⟨qs,e,rfl⟩:=e;obtain⟨as,rfl,g1,g2⟩:=ai.Ls hK e h2;obtain⟨a,ws,rfl,z1,z2⟩:=h1;obtain⟨w1,Lu,rfl,y1,y2⟩:=z2;obtain⟨w2,Nh,rfl,y3,y4⟩:=y2;cases y1;cases y4;cases y3;rw[hK]at z1;refine⟨a::as,rfl,by simp[g1],λj c p e1 e2=>?_⟩;cases j with
   |zero=>simp at e1 e2;subst e1 e2;exact⟨_,z1⟩
   |succ j=>exact g2 j c p (by simpa using e1) (by simpa using e2)
  ·cases e
theorem aV(h:dn f rs=Od r):∃x,rs=[x]/\f x=Od r:=by
 unfold dn at h;split at h
 ·exact⟨_,rfl,h⟩
 ·cases h
theorem xu(hc:X.calm=OA)(hK:C.K=X.K)(Ji:X.A.guards=Od [])(G5:X.A.units+60<Qd)(t:DT C c0 c rs vs)(I:Inv X pins c.σ c.H s)(rv:Vals vs us)(h:Ds f rs=Od r)(q:bG C c0 Q r c.st):
  OK (OU X.prog X.w) X.A (Rm f.val us) (EP X pins c.σ Q) X.xe s:=by
 have hσ:=t.hσ;have ok:=t.ok;have n:=t.nx;cases f with
 |len =>
  obtain⟨x,rfl,hz⟩:=aV (f:=λx=>(yA x.2).map λ(n:Nat)=>(Kd.loc,U.int (n:Int))) h;clear h;have h:=hz;clear hz;rw[OM]at h;obtain⟨k,e,rfl⟩:=h;obtain⟨v,rfl,tx⟩:=t.one;obtain⟨kx,ux⟩:=x;unfold yA at e;split at e
  ·rename_i xs hx;have hx:ux=.lst xs:=hx;subst hx;cases e;obtain⟨a',ws,ex,h1,h2⟩:=tx.list ok;rw[h2.len]at q;exact call_of fm I rv ⟨a',ws,by rw[ex],.inl (hK▸h1),q.flat hσ ok n rfl⟩
  ·rename_i xs hx;have hx:ux=.tup xs:=hx;subst hx;cases e;obtain⟨a',ws,ex,h1,h2⟩:=tx.tuple ok;rw[hK]at h1;rw[h2.len]at q;exact call_of fm I rv ⟨a',ws,by rw[ex],.inr h1,q.flat hσ ok n rfl⟩
  ·rename_i xs hx;have hx:ux=.str xs:=hx;subst hx;split at e
   ·cases e;exact call_of kf I rv ⟨_,by rw[tx.str ok],by assumption,q.flat hσ ok n rfl⟩
   ·cases e
  ·cases e
 |sorted =>
  obtain⟨x,rfl,hz⟩:=aV (f:=yB) h;clear h;have h:=hz;clear hz;obtain⟨v,rfl,tx⟩:=t.one;unfold yB at h;split at h
  ·obtain⟨a',ws,ex,h1,h2⟩:=tx.list ok;unfold vP at h;split at h
   ·rename_i ss e;have e':=bz e;subst e';rw[ai.strs]at h2;subst h2;split at h
    ·cases h;exact call_of gB I rv ⟨a',ss,by rw[ex],.inl (hK▸h1),by assumption,λp hp=>q.list hσ ok n (ai.strs.mpr rfl) p hp⟩
    ·cases h
   ·unfold vO at h;obtain⟨ks,e,h⟩:=Pk.mp h;split at h
    ·rename_i hh;cases h;subst ex;obtain⟨u,rfl,rr⟩:=vals1 rv;cases rr;obtain⟨as,rfl,hl,ht⟩:=ai.Ls hK e h2;have Ec:=bS hh.2.2 h2;refine nG I (hK▸h1) hl ht hh.2.1 ⋯ λp hp=>q.list hσ ok n (ai.pw λi hi=>?_) p hp;have C3:i<as.length:=by
      have:=Qs.mp ((cS _).mem_iff.mp hi);omega
     have JU:=Ec.len;rw[OJ]at JU;obtain⟨w,hw,rep⟩:=Ec.get (O7 (show i < _ by omega));have e1:w=V.ref (as.getD i 0):=by
      have:(as.map V.ref)[i]?=Od (V.ref (as.getD i 0)):=by simp[Rn,C3]
      rw[this]at hw;cases hw;rfl
     rw[<-e1,<-List.getElem_eq_getD];exact rep
    ·cases h
  ·obtain⟨a',kvs,ex,h1,h2,_⟩:=tx.dict ok;split at h
   ·cases h;exact call_of (gb hc) I rv ⟨a',kvs,_,by rw[ex],h1,h2,by assumption,λp hp=>q.list hσ ok n (ai.strs.mpr rfl) p hp⟩
   ·cases h
  ·rw[Pk]at h;obtain⟨ss,e,h⟩:=h;have e':=bz e;subst e';obtain⟨a',ws,ex,h1,h2⟩:=tx.tuple ok;rw[hK]at h1;rw[ai.strs]at h2;subst h2;split at h
   ·cases h;exact call_of gB I rv ⟨a',ss,by rw[ex],.inr h1,by assumption,λp hp=>q.list hσ ok n (ai.strs.mpr rfl) p hp⟩
   ·cases h
  ·cases h
 |list =>
  obtain⟨x,rfl,hz⟩:=aV (f:=yC) h;clear h;have h:=hz;clear hz;obtain⟨v,rfl,tx⟩:=t.one;unfold yC at h;split at h
  ·obtain⟨a',ws,ex,h1,h2⟩:=tx.list ok;split at h
   ·cases h;exact call_of fq I rv ⟨a',ws,by rw[ex],.inl (hK▸h1),λp hp=>q.list hσ ok n (bS (by assumption) h2) p hp⟩
   ·cases h
  ·obtain⟨a',ws,ex,h1,h2⟩:=tx.tuple ok;rw[hK]at h1;split at h
   ·cases h;exact call_of fq I rv ⟨a',ws,by rw[ex],.inr h1,λp hp=>q.list hσ ok n (bS (by assumption) h2) p hp⟩
   ·cases h
  ·cases h
 |tuple =>
  obtain⟨x,rfl,hz⟩:=aV (f:=yD) h;clear h;have h:=hz;clear hz;obtain⟨v,rfl,tx⟩:=t.one;unfold yD at h;split at h
  ·obtain⟨a',ws,ex,h1,h2⟩:=tx.list ok;cases h;exact call_of eI I rv ⟨a',ws,by rw[ex],.inl ⟨hK▸h1,λp hp=>q.tupK hσ ok n h2 p hp⟩⟩
  ·obtain⟨a',ws,ex,h1,h2⟩:=tx.tuple ok;have DC:=h1;rw[hK]at DC;cases h;exact call_of eI I rv ⟨a',ws,by rw[ex],.inr ⟨DC,q c (.ref a') hσ rfl ok n (aC.item ⟨a',ws,rfl,h1,h2⟩)⟩⟩
  ·cases h
 |str =>
  obtain⟨x,rfl,hz⟩:=aV (f:=vQ) h;clear h;have h:=hz;clear hz;obtain⟨v,rfl,tx⟩:=t.one;unfold vQ at h;split at h
  ·split at h
   ·cases h;exact call_of j7 I rv ⟨_,by rw[tx.int ok],by assumption,q.flat hσ ok n rfl⟩
   ·cases h
  ·cases h
 |all =>
  obtain⟨x,rfl,hz⟩:=aV (f:=yE) h;clear h;have h:=hz;clear hz;obtain⟨v,rfl,tx⟩:=t.one;unfold yE at h;split at h
  ·rw[OM]at h;obtain⟨bs,e,rfl⟩:=h;have e':=iH e;subst e';obtain⟨a',ws,ex,h1,h2⟩:=tx.list ok;have:=h2.Lp;subst this;exact call_of (sf hc) I rv ⟨a',bs,by rw[ex],hK▸h1,q.flat hσ ok n rfl⟩
  ·cases h
 |sum =>
  obtain⟨x,rfl,hz⟩:=aV (f:=yF) h;clear h;have h:=hz;clear hz;obtain⟨v,rfl,tx⟩:=t.one;unfold yF at h;split at h
  ·rw[OM]at h;obtain⟨ns,e,rfl⟩:=h;have e':=gD e;subst e';obtain⟨a',ws,ex,h1,h2⟩:=tx.list ok;have Ec:=ai.ints h2;subst Ec;exact call_of (sv hc) I rv ⟨a',ns,by rw[ex],hK▸h1,q.flat hσ ok n rfl⟩
  ·cases h
 |_=>cases h
theorem wb{id:String}(hc:X.calm=OA)(hK:C.K=X.K)(Ji:X.A.guards=Od [])(G5:X.A.units+60<Qd)(hf:f.val=.builtin id)(hg:Gl X x)(hm:X.mg x=OB)(hv:Qh x=Od (.builtin id))(hn:x≠"__name__")(Fd:(x==("__debug__":Str))=OE)
  (ha:PA X (e::es) (C1 C ms)) (he:O4 (e::es) X.env=(OE,Qx e X.env)::O4 es X.env) (Dv:(QC pos (O4 es X.env)).any (·.1)=OE) :
  PE X (.Call (.Name x p) (e::es) [] pos) (B3 C (ms >>= λrs=>ar rs >>= λ_=>M.Ca (Ds f rs))):=by
 rintro pins s σ H Q I ⟨c0,rfl,rfl,ok,h⟩;refine Qw (dv I hg hm hv ?_ hn Fd);refine SH (B6 (args ha I ok h pos) λus s1 ⟨rs,c,vs,t,I1,rv,w⟩=>?_) he Dv;obtain⟨r,e,q⟩:=bQ.mp w;have z:=xu hc hK Ji G5 t I1 rv e q;rw[hf,t.hσ]at z;exact z
theorem wc(hc:X.calm=OA)(hK:C.K=X.K)(Ji:X.A.guards=Od [])(G5:X.A.units+60<Qd)(hf:f.val=.type T)(hg:Gl X x)(hm:X.mg x=OB)(hv:Qh x=Od (.type T))(hn:x≠"__name__")(Fd:(x==("__debug__":Str))=OE)
  (ha:PA X (e::es) (C1 C ms)) (he:O4 (e::es) X.env=(OE,Qx e X.env)::O4 es X.env) (Dv:(QC pos (O4 es X.env)).any (·.1)=OE) :
  PE X (.Call (.Name x p) (e::es) [] pos) (B3 C (ms >>= λrs=>ar rs >>= λ_=>M.Ca (Ds f rs))):=by
 rintro pins s σ H Q I ⟨c0,rfl,rfl,ok,h⟩;refine Qw (dv I hg hm hv ?_ hn Fd);refine QG (B6 (args ha I ok h pos) λus s1 ⟨rs,c,vs,t,I1,rv,w⟩=>?_) he Dv;obtain⟨r,e,q⟩:=bQ.mp w;have z:=xu hc hK Ji G5 t I1 rv e q;rw[hf,t.hσ]at z;exact z
def Dy.name:Dy->Str
 |.str=>"str"|.list=>"list"|.tuple=>"tuple"|.int=>"int"|.bool=>"bool"
def Dy.nm:Dy->String
 |.str=>"str"|.list=>"list"|.tuple=>"tuple"|.int=>"int"|.bool=>"bool"
theorem wd(T:Dy):Qh T.name=Od (.type T.nm)/\T.name≠"__name__"/\(T.name==("__debug__":Str))=OE:=by
 cases T<;>exact⟨by decide +kernel,by decide +kernel,by decide +kernel⟩
theorem fK(T:Dy):Vt (.type T.nm)=pure (.type "type"):=by cases T<;>kernel_rfl
theorem pz(T:Dy):Rz (.type "str") (.type T.nm)=pure (OI (T=.str)):=by cases T<;>(rw[P'];kernel_rfl)
theorem sub_int(T:Dy):Rz (.type "int") (.type T.nm)=pure (OI (T=.int)):=by cases T<;>(rw[P'];kernel_rfl)
theorem ne_str{T:Dy}(h:¬T=.str):(Pj "str"==Pj T.nm)=OE:=by cases T<;>first|exact absurd rfl h|decide
theorem ne_int{T:Dy}(h:¬T=.int):(Pj "int"==Pj T.nm)=OE:=by cases T<;>first|exact absurd rfl h|decide
theorem mi(T:Dy):Rz (.type "list") (.type T.nm)=pure (OI (T=.list)):=by cases T<;>(rw[P'];kernel_rfl)
theorem pA(T:Dy):Rz (.type "tuple") (.type T.nm)=pure (OI (T=.tuple)):=by cases T<;>(rw[P'];kernel_rfl)
theorem we{T:Dy}(h:¬T=.list):(Pj "list"==Pj T.nm)=OE:=by cases T<;>first|exact absurd rfl h|decide
theorem yW{T:Dy}(h:¬T=.tuple):(Pj "tuple"==Pj T.nm)=OE:=by cases T<;>first|exact absurd rfl h|decide
theorem yX{b:Bool}(hK:C.K=X.K)(t:HR C c0 c x v)(I:Inv X pins c.σ c.H s)(rv:RelV v val)(h:mf x.2 T=Od b)(q:∀tk,Q (.bool b) {s with toks:=tk}):
  OK (OU X.prog X.w) X.A (Rm (.builtin "isinstance") [val,.type T.nm]) Q X.xe s:=by
 obtain⟨k,u⟩:=x;obtain⟨hσ,ok,n,r⟩:=t;have q0:Q (.bool b) s:=q s.toks
 dsimp only at h r
 have yes:∀{Tx:String},b=OA->s.TypeIs val Tx->Rz (.type Tx) (.type T.nm)=pure OA->OK (OU X.prog X.w) X.A (Rm (.builtin "isinstance") [val,.type T.nm]) Q X.xe s:=λe hx hs=>by
  subst e;exact W8 hx (fK T) hs q0
 unfold mf at h;split at h
 ·cases h;have e:v=_:=r.str ok;subst e;obtain⟨tk,rfl⟩:=rv;by_cases hT:T=.str
  ·subst hT;exact yes (by simp) (Sj s _ tk) (pz .str)
  ·rw[Xv hT]at q;exact S5 (isinstance_false_str (ne_str hT) (fK T) (by rw[pz,Xv hT])) (q _)
 ·cases h;have e:v=_:=r.int ok;subst e;obtain⟨tk,rfl⟩:=rv;by_cases hT:T=.int
  ·subst hT;exact yes (by simp) (typeIs_int s _ tk) (sub_int .int)
  ·rw[Xv hT]at q;exact S5 (isinstance_false_int (ne_int hT) (fK T) (by rw[sub_int,Xv hT])) (q _)
 ·cases h;have e:v=_:=r.bl ok;subst e;cases rv;exact yes rfl (PySem.typeIs_bool s _) (by rw[P'];kernel_rfl)
 ·cases h;have e:v=_:=r.bl ok;subst e;cases rv;exact yes rfl (PySem.typeIs_bool s _) (by rw[P'];kernel_rfl)
 ·cases h;obtain⟨a',ws,rfl,h1,h2⟩:=r.list ok;cases rv;rw[hK]at h1;obtain⟨A',_,pl,_⟩:=I.list h1;obtain⟨o,ho,hc,_⟩:=pl.isList;by_cases hT:T=.list
  ·subst hT;exact yes (by simp) ⟨o,ho,hc⟩ (mi .list)
  ·rw[Xv hT]at q;exact S5 (isinstance_false_list (we hT) (fK T) (by rw[mi,Xv hT])) ⟨⟨o,ho,hc⟩,q _⟩
 ·cases h;obtain⟨a',ws,rfl,h1,h2⟩:=r.tuple ok;cases rv;rw[hK]at h1;obtain⟨A',_,⟨o,ho,hc,_⟩,_⟩:=I.tuple h1;by_cases hT:T=.tuple
  ·subst hT;exact yes (by simp) ⟨o,ho,hc⟩ (pA .tuple)
  ·rw[Xv hT]at q;exact S5 (isinstance_false_tuple (yW hT) (fK T) (by rw[pA,Xv hT])) ⟨⟨o,ho,hc⟩,q _⟩
 ·cases h
theorem pB(hK:C.K=X.K)(hg:Gl X "isinstance")(hm:X.mg "isinstance"=OB)(Ga:Gl X T.name)(HV:X.mg T.name=OB)(ha:PE X a (B3 C ma))(hs:O4 [a,.Name T.name p2] X.env=(OE,Qx a X.env)::O4 [.Name T.name p2] X.env):
  PE X (.Call (.Name "isinstance" p) [a,.Name T.name p2] [] pos) (B3 C (ma >>= λx=>M.Ca (mf x.2 T) >>= λb=>pure (.loc,.bl b))):=by
 rintro pins s σ H Q I ⟨c0,rfl,rfl,ok,h⟩;obtain⟨t1,t2,t3⟩:=wd T;refine Qw (dv I hg hm (show Qh "isinstance"=Od (.builtin "isinstance") by decide +kernel) ?_ (by decide +kernel) (by decide +kernel));refine SH (B6 (d0 ha (d0 (uY (v:=.ty T.nm) Ga HV t1 rfl t2 t3) hZ) hs pos pins s c0.σ c0.H (λvs H'=>∃x c v b,HR C c0 c x v/\c.H=H'/\vs=[v,.ty T.nm]/\mf x.2 T=Od b/\bG C c0 Q (.loc,.bl b) c.st) I ?_) λus s1 ⟨vs,H1,I1,r1,x,c,v,b,t,e,e2,hb,w⟩=>?_) hs (by rfl)
 ·refine aO ok h λx c v t w=>?_;rw[af]at w;obtain⟨b,e,w⟩:=bQ.mp w;rw[aj]at w;exact⟨x,c,v,b,t,rfl,rfl,e,w⟩
 ·subst e e2;obtain⟨u1,u2,rfl,Ni,Nj⟩:=vals2 r1;cases Nj;have I2:Inv X pins c.σ c.H s1:=by rw[t.hσ];exact I1
  have z:=yX (Q:=EP X pins c0.σ Q) hK t I2 Ni hb λtk=>⟨.bl b,c.H,I1.tok tk,rfl,w c (.bl b) t.hσ rfl t.ok t.nx rfl⟩
  exact z
abbrev E2(P:PC)(w:P4)(K:PySem.W.Frag)(H:Hp)(Pr:OS->Prop):Ct:=⟨P,w,K,H,Pr,λ_=>False⟩
structure Back(C:Ct)(H H':Hp)(S':OS->Prop)(k:Kd)(u:U)(v:V):Prop where
 same:cX H H'
 new:∀a,S' a->H a=OB/\∃o,H' a=Od o
 own:k=.own->∃r,v=.ref r/\H r=OB/\¬S' r/\bW C S' H' r u
 loc:k=.loc->Rep C S' H' u v
 any:k=.any->Rep C (PS C S') H' u v
def spT(P:PC)(w:P4)(K:PySem.W.Frag)(F:List U->Option (Ex (Kd×U)))(np:Nat):Sp:=λvs H Q _=>vs.length=np/\∃us k u Pr,F us=Od (.ok (k,u))/\(k=.own\/k=.loc\/k=.any)/\(∀a,Pr a->DH H a) /\
 ai (E2 P w K H Pr) Pr H us vs/\∀v H' S',Back (E2 P w K H Pr) H H' S' k u v->Q v H'
theorem DT.read(t:DT C c0 c rs vs):ai C (DH c.H) c.H (rs.map (·.2)) vs:=by
 have aux:∀(l:List (Kd×U)) (w:List V),bL C c0 c l w->aX l c.st->ai C (DH c.H) c.H (l.map (·.2)) w:=by
  intro l;induction l with
  |nil=>intro w h _;exact h
  |cons r l ih =>
   intro w h hs;obtain⟨v,t',rfl,h1,h2,_⟩:=h;rw[d7]at hs;exact⟨v,t',rfl,(h1.t hs.1).read t.ok,ih t' h2 hs.2⟩
 exact aux rs vs t.rep t.Gv
theorem Back.here(hk:k=.own\/k=.loc)(hσ:c.σ=c0.σ)(ok:Ok C c)(n:Nx c0 c)(q:C'.Eqv C)(h:Back C' c.H H' S' k u v)(w:bG C c0 Q (k,u) c.st):Q v H':=by
 obtain⟨Cb,n'⟩:=ok.grow (S':=λa=>c.S a\/S' a) h.same (λa z=>z.imp id λz=>h.new a z) λa=>.inl;have hn:=n.trans n';refine w {c with H:=H',S:=λa=>c.S a\/S' a} v hσ rfl Cb hn ?_;rcases hk with rfl|rfl
 ·obtain⟨r,e,h1,h2,h3⟩:=h.own rfl;obtain⟨z0,z1,z2,z3,z4⟩:=ok.kJ h1;refine⟨r,e,n.none h1,λz=>z.elim z1 h2,z4,(h3.cg q).mv (.up λa=>.inr) λo q=>q⟩
 ·exact((h.loc rfl).cg q).mv (.up λa=>.inr)
theorem sU(hP:C.P=X.prog)(hw:C.w=X.w)(hK:C.K=X.K)(hF:Γ f=F)(hk:∀us k u,F us=Od (.ok (k,u))->(k=.own\/k=.loc\/k=.any)/\us.length=np)
  (G:h_ X.prog X.w X.K X.mg X.base Ek k fa fd ps (spT X.prog X.w X.K F np)) (hr:eB k X.A) (hg:Gl X f) (hm:X.mg f=Od (.ref fa)) (HL:PySem.W.keepIn X.K (.ref fa)=OA) (hb:Binds X.K fd ps [])
  (Fd:(f==("__debug__":Str))=OE) (ha:PA X (e::es) (C1 C ms)) (he:O4 (e::es) X.env=(OE,Qx e X.env)::O4 es X.env) (Dv:(QC pos (O4 es X.env)).any (·.1)=OE) :
  PE X (.Call (.Name f p) (e::es) [] pos) (B3 C (ms >>= λrs=>ar rs >>= λ_=>iG Γ f (rs.map (·.2)))):=by
 rintro pins s σ H Q I ⟨c0,rfl,rfl,ok,h⟩;refine Qw (oG I hg hm ?_ Fd);refine PySem.W.callWith_K (h₀:=X.base) I.ok.mod.Iy HL (B6 (args ha I ok h pos) λus s1 ⟨rs,c,vs,t,I1,rv,w⟩=>⟨I1.FY,?_⟩) he Dv;obtain⟨r,st',e1,q⟩:=w;unfold iG at e1;rw[hF]at e1;cases e2:F (rs.map (·.2)) with
 |none=>rw[e2]at e1;cases e1
 |some r' =>
  rw[e2]at e1;split at e1
  ·cases e1
  ·rename_i z;cases z
  rename_i Nk e3;cases e3;cases e1;obtain⟨kd,u⟩:=r;obtain⟨k0,k2⟩:=hk _ _ _ e2;have k1:kd=.own\/kd=.loc:=by
   rcases k0 with z|z|z
   ·exact .inl z
   ·exact .inr z
   ·subst z;exact(Nk u rfl).elim
  have eqv:C.Eqv (E2 X.prog X.w X.K c.H (DH c.H)):=⟨hP,hw,hK⟩
  have EK:(E2 X.prog X.w X.K c.H (DH c.H)).Eqv C:=⟨hP.symm,hw.symm,hK.symm⟩
  have rd:=t.read;have DE:spT X.prog X.w X.K F np vs c.H (λv H'=>Q v H') E0:=⟨by rw[<-rd.len];exact k2,rs.map (·.2),kd,u,DH c.H,e2,k0,λ_ z=>z,rd.cg eqv,λv H' S' hb=>hb.here k1 t.hσ t.ok t.nx EK q⟩
  have z:=rM (Q:=Q) G hr hb .nil xo I1 rv (by rw[P8];exact DE);rw[t.hσ]at z;exact z
end
section
def Mf.id:Mf->String
 |.split=>"str.split"|.join=>"str.join"|.partition=>"str.partition"|.endswith=>"str.endswith"
def Mf.name:Mf->Str
 |.split=>"split"|.join=>"join"|.partition=>"partition"|.endswith=>"endswith"
theorem sV(h:iF f u rs=Od r):∃x,u=.str x:=by
 unfold iF at h;split at h
 ·exact⟨_,rfl⟩
 ·exact⟨_,rfl⟩
 ·cases h
theorem yY(hK:C.K=X.K)(t:DT C c0 c (x::rs) (vx::vs))(I:Inv X pins c.σ c.H s)(rx:RelV vx v)(rv:Vals vs us)(h:iF f x.2 rs=Od r)(q:bG C c0 Q r c.st):
  OK (OU X.prog X.w) X.A (Rm (.builtin f.id) (v::us)) (EP X pins c.σ Q) X.xe s:=by
 have hσ:=t.hσ;have ok:=t.ok;have n:=t.nx;obtain⟨kx,ux⟩:=x;have hs:=d7.mp t.Gv;obtain⟨v0,G6,e0,h1,h2,-⟩:=t.rep;cases e0;have tx:aC C c0 c kx ux vx:=h1.t hs.1;have one:∀{r:Kd×U},bL C c0 c [r] vs->aX [r] c.st->∃v,vs=[v]/\aC C c0 c r.1 r.2 v:=λ{r} h s=>by
  obtain⟨v,t',rfl,h1,h2,_⟩:=h;cases h2;exact⟨v,rfl,h1.t s⟩
 dsimp only at h
 unfold iF at h;split at h
 ·obtain⟨w,rfl,ty⟩:=one h2 hs.2;split at h
  ·rename_i hh;cases h;exact se pins s c.σ c.H vx [w] v us Q I rx rv ⟨_,_,tx.str ok,by rw[ty.str ok],hh.1,hh.2,λp hp=>q.list hσ ok n (ai.strs.mpr rfl) p hp⟩
  ·cases h
 ·rw[Pk]at h;obtain⟨ss,e,h⟩:=h;have e':=bz e;subst e';obtain⟨w,rfl,ty⟩:=one h2 hs.2;obtain⟨a',ws,ex,h3,h4⟩:=ty.list ok;rw[ai.strs]at h4;subst h4;split at h
  ·cases h;exact vB pins s c.σ c.H vx [w] v us Q I rx rv ⟨_,a',ss,tx.str ok,by rw[ex],hK▸h3,by assumption,q.flat hσ ok n rfl⟩
  ·cases h
 ·cases h
theorem wg(hK:C.K=X.K)(slot:Slot "str" name f.id)(Hk:Vt (.builtin f.id)=pure (.type "method_descriptor"))(ho:PE X o (B3 C m))(ha:PA X (e::es) (C1 C ms))
  (CM:RV o name X.env (Qx o X.env)=Qx o X.env)
  (Dn:((QC BW (O4 (e::es) X.env)).all (λx=>!x.1)&&(Ub BW (Sw [] X.env)).all (λx=>x.1.isSome)
   && OI ((e::es).length+([]:List RX).length+(if ([]:List RX).isEmpty then 0 else 1)<30))=OA)
  (B9:(apos.endLine==BW.line)=OA) (hs:O4 (e::es) X.env=(OE,Qx e X.env)::O4 es X.env) (C6:(QC BW (O4 es X.env)).any (·.1)=OE) :
  PE X (.Call (.Attribute o name apos) (e::es) [] BW) (B3 C (m >>= λx=>ms >>= λrs=>ar (x::rs) >>= λ_=>M.Ca (iF f x.2 rs))):=by
 rintro pins s σ H Q I ⟨c0,rfl,rfl,ok,h⟩;refine Vs CM Dn B9 rfl (B6 (ho pins s c0.σ c0.H (λvx H1=>∃x c1,c1.H=H1/\HR C c0 c1 x vx/\W (ms >>= λrs=>ar (x::rs) >>= λ_=>M.Ca (iF f x.2 rs)) c1.st (bG C c0 Q)) I (aO ok h λx c v t w=>⟨x,c,rfl,t,w⟩)) ?_);rintro v s1 ⟨vx,H1,I1,rx,x,c1,rfl,t,w⟩;have Gw:∃z,x.2=.str z:=by
  rw[af]at w;obtain⟨rs,st2,_,w⟩:=w;rw[af]at w;obtain⟨_,CI,_,w⟩:=w;obtain⟨r,e,_⟩:=bQ.mp w;exact sV e
 obtain⟨z,hz⟩:=Gw;have tx:=t.rx;rw[hz]at tx;have ev:=tx.str t.ok;have ty:IH X.K "str" vx c1.H:=by rw[ev];rfl
 obtain⟨h1,h2⟩:=m_ I1 rx ty;refine⟨"str",f.id,PySem.F.plainAttrs_str,slot,Hk,h1,h2,?_⟩;rw[af]at w;have hA:=ha BW pins s1 c0.σ c1.H (λvs H2=>∃rs c2,c2.H=H2/\DT C c0 c2 (x::rs) (vx::vs)/\W (M.Ca (iF f x.2 rs)) c2.st (bG C c0 Q)) I1 ⟨c1,t.hσ,rfl,t.ok,w.mono λrs st2 h3 c2 vs e3 e4 Cr n2 r2=>by
  rw[af,bE]at h3;subst e4;exact⟨rs,c2,rfl,⟨e3,Cr,t.nx.trans n2,⟨vx,vs,rfl,t.rx.w.on t.ok n2 (e3.trans t.hσ.symm),r2.from t.nx,λhk i r' v' e5 e6 Cv=>kK t.rx.w (r2.get e5 e6) hk Cv⟩,h3.1⟩,h3.2⟩⟩
 rw[hs]at hA ⊢;refine QJ (by show(OE||(QC BW (O4 es X.env)).any (·.1))=OE;rw[C6]<;>rfl) (RJ ?_);refine B6 hA ?_;rintro us s2 ⟨vs,H2,I2,r2,rs,c2,rfl,t2,w2⟩;obtain⟨r,e,q⟩:=bQ.mp w2;have z:=yY hK t2 (by rw[t2.hσ];exact I2) rx r2 e q;rw[t2.hσ]at z;exact z
end
section
variable{X:Cx}{C:Ct}{pins:List (OS×Obj)}{s:OR}{c0 c c1:Cf}
variable{e:Pw}{es:List Pw}{ms:M (List (Kd×U))}{pos p p2 pos2:Pos}
def B2.out:B2->OH
 |.Eg=>.type "tuple"|.Dq=>.type "list"|.sset=>.builtin "sorted"|.gI=>.builtin "len"
def B2.Jj:B2->OH
 |.Eg=>.type "reversed"|.Dq=>.type "reversed"|.sset=>.type "set"|.gI=>.type "set"
def B2.kN:B2->Str
 |.Eg=>"tuple"|.Dq=>"list"|.sset=>"sorted"|.gI=>"len"
def B2.fL:B2->Str
 |.Eg=>"reversed"|.Dq=>"reversed"|.sset=>"set"|.gI=>"set"
theorem ai.rev{S:OS->Prop}:∀{us:List U}{vs:List V},ai C S H us vs->ai C S H us.reverse vs.reverse
 |[],vs,h=>by cases h;exact rfl
 |u::us,vs,h=>by
  obtain⟨v,r,rfl,h1,h2⟩:=h;rw[Sb,Sb];exact(ai.rev h2).append ⟨v,[],rfl,h1,rfl⟩
theorem jF(hK:C.K=X.K)(ok:Ok C c)(tx:aC C c0 c k u v)(h:qK u=Od ss):∃a ys,v=.ref a/\(Cn X.K c.H a (ys.map V.str)\/Ci X.K c.H a (ys.map V.str))/\ys.length+1<QP/\ss=bo ys:=by
 unfold qK at h;split at h
 ·rw[Pk]at h;obtain⟨ys,e,h⟩:=h;have e':=bz e;subst e';obtain⟨a',ws,ex,h1,h2⟩:=tx.list ok;rw[ai.strs]at h2;subst h2;split at h
  ·cases h;exact⟨a',ys,ex,.inl (hK▸h1),by assumption,rfl⟩
  ·cases h
 ·rw[Pk]at h;obtain⟨ys,e,h⟩:=h;have e':=bz e;subst e';obtain⟨a',ws,ex,h1,h2⟩:=tx.tuple ok;rw[ai.strs]at h2;subst h2;rw[hK]at h1;split at h
  ·cases h;exact⟨a',ys,ex,.inr h1,by assumption,rfl⟩
  ·cases h
 ·cases h
theorem yZ(hc:X.calm=OA)(hK:C.K=X.K)(t:DT C c0 c rs vs)(I:Inv X pins c.σ c.H s)(rv:Vals vs us)(h:nK f rs=Od r)(q:bG C c0 Q r c.st):
  OK (OU X.prog X.w) X.A (Rm f.Jj us) (λv s1=>OK (OU X.prog X.w) X.A (Rm f.out [v]) (EP X pins c.σ Q) X.xe s1) X.xe s:=by
 have hσ:=t.hσ;have ok:=t.ok;have n:=t.nx;cases f with
 |Eg =>
  obtain⟨x,rfl,hz⟩:=aV (f:=yG) h;clear h;have h:=hz;clear hz;obtain⟨v,rfl,tx⟩:=t.one;unfold yG at h;split at h
  ·cases h;obtain⟨a',ws,ex,h1,h2⟩:=tx.list ok;rw[hK]at h1;subst ex;obtain⟨u,rfl,rr⟩:=vals1 rv;cases rr;exact qA hc I h1 λl hl=>q.tupK hσ ok n h2.rev l hl
  ·cases h
 |Dq =>
  obtain⟨x,rfl,hz⟩:=aV (f:=yH) h;clear h;have h:=hz;clear hz;obtain⟨v,rfl,tx⟩:=t.one;unfold yH at h;split at h
  ·obtain⟨a',ws,ex,h1,h2⟩:=tx.list ok;rw[hK]at h1;subst ex;obtain⟨u,rfl,rr⟩:=vals1 rv;cases rr;split at h
   ·cases h;exact su hc I h1 λl hl=>q.list hσ ok n (bS (by assumption) h2).rev l hl
   ·cases h
  ·cases h
 |sset =>
  obtain⟨x,rfl,hz⟩:=aV (f:=λx=>(qK x.2).bind λss=>if ss.length<64 then Od (Kd.own,U.lst ((aF ss).map .str)) else OB) h;clear h;have h:=hz;clear hz;obtain⟨ss,e,h⟩:=Pk.mp h;obtain⟨v,rfl,tx⟩:=t.one;obtain⟨a',ys,rfl,h1,h2,rfl⟩:=jF hK ok tx e;obtain⟨u,rfl,rr⟩:=vals1 rv;cases rr;split at h
  ·cases h;exact fE hc I h1 h2 λS h' tk hS I1=>jk hc I1 hS (by assumption) λl hl=>q.list hσ ok n (ai.strs.mpr rfl) l hl
  ·cases h
 |gI =>
  obtain⟨x,rfl,hz⟩:=aV (f:=λx:Kd×U=>(qK x.2).map λss:List Str=>(Kd.loc,U.int (ss.length:Int))) h;clear h;have h:=hz;clear hz;obtain⟨ss,e,rfl⟩:=OM.mp h;obtain⟨v,rfl,tx⟩:=t.one;obtain⟨a',ys,rfl,h1,h2,rfl⟩:=jF hK ok tx e;obtain⟨u,rfl,rr⟩:=vals1 rv;cases rr;exact fE hc I h1 h2 λS h' tk hS I1=>nA I1 hS (q.flat hσ ok n rfl)
theorem pC:∀f:B2,Qh f.kN=Od f.out/\Qh f.fL=Od f.Jj/\f.kN≠"__name__"/\f.fL≠"__name__"/\(f.kN==("__debug__":Str))=OE/\(f.fL==("__debug__":Str))=OE:=by
 intro f;cases f<;>exact⟨by decide +kernel,by decide +kernel,by decide +kernel,by decide +kernel,by decide +kernel,by decide +kernel⟩
theorem y0(f:B2):∃T,f.Jj=.type T:=by cases f<;>exact⟨_,rfl⟩
theorem y6(f:B2):(∃T,f.out=.type T)\/∃T,f.out=.builtin T:=by cases f<;>first|exact .inl ⟨_,rfl⟩|exact .inr ⟨_,rfl⟩
theorem wj{M:Model}{E:OH->OR->Prop}(h:OK M A t (λv s₁=>OK M A (Rm (.type T) [v]) Q E s₁) E s):OK M A (callWith pos (.type T) [] [(OE,t)] []) Q E s :=
 PySem.callWith_type rfl (RJ (S7 (PR h (λ_ _ h₁=>To h₁) λ_ _ e=>e)))
theorem y7{M:Model}{E:OH->OR->Prop}(h:OK M A t (λv s₁=>OK M A (Rm (.builtin T) [v]) Q E s₁) E s):OK M A (callWith pos (.builtin T) [] [(OE,t)] []) Q E s :=
 QJ rfl (RJ (S7 (PR h (λ_ _ h₁=>To h₁) λ_ _ e=>e)))
theorem sW(hc:X.calm=OA)(hK:C.K=X.K)(Ga:Gl X f.fL)(HV:X.mg f.fL=OB)
  (ha:PA X (e::es) (C1 C ms)) (he:O4 (e::es) X.env=(OE,Qx e X.env)::O4 es X.env) (Dv:(QC pos2 (O4 es X.env)).any (·.1)=OE)
  (I:Inv X pins c0.σ c0.H s) (ok:Ok C c0) (h:W (ms >>= λrs=>ar rs >>= λ_=>M.Ca (nK f rs)) c0.st (bG C c0 Q)) :
  OK (OU X.prog X.w) X.A (Qx (.Call (.Name f.fL p2) (e::es) [] pos2) X.env) (λv s1=>OK (OU X.prog X.w) X.A (Rm f.out [v]) (EP X pins c0.σ Q) X.xe s1) X.xe s:=by
 obtain⟨b1,b2,b3,b4,b5,b6⟩:=pC f;refine Qw (dv I Ga HV b2 ?_ b4 b6);have fin:OK (OU X.prog X.w) X.A (Wx (QC pos2 (O4 (e::es) X.env))) (λus s1=>OK (OU X.prog X.w) X.A (Rm f.Jj us) (λv s1=>OK (OU X.prog X.w) X.A (Rm f.out [v]) (EP X pins c0.σ Q) X.xe s1) X.xe s1) X.xe s :=
  B6 (args ha I ok h pos2) λus s1 Du=>by
   obtain⟨rs,c,vs,t,I1,rv,w⟩:=Du;obtain⟨r,e,q⟩:=bQ.mp w;have z:=yZ hc hK t I1 rv e q;rw[t.hσ]at z;exact z
 obtain⟨T,hT⟩:=y0 f;rw[hT]at fin ⊢;exact QG fin he Dv
theorem wm(hc:X.calm=OA)(hK:C.K=X.K)(Hz:Gl X f.kN)(Kk:X.mg f.kN=OB)(Ga:Gl X f.fL)(HV:X.mg f.fL=OB)
  (ha:PA X (e::es) (C1 C ms)) (he:O4 (e::es) X.env=(OE,Qx e X.env)::O4 es X.env) (Dv:(QC pos2 (O4 es X.env)).any (·.1)=OE) :
  PE X (.Call (.Name f.kN p) [.Call (.Name f.fL p2) (e::es) [] pos2] [] pos) (B3 C (ms >>= λrs=>ar rs >>= λ_=>M.Ca (nK f rs))):=by
 rintro pins s σ H Q I ⟨c0,rfl,rfl,ok,h⟩;obtain⟨b1,b2,b3,b4,b5,b6⟩:=pC f;refine Qw (dv I Hz Kk b1 ?_ b3 b5);have inner:=sW (p2:=p2) (pos2:=pos2) hc hK Ga HV ha he Dv I ok h;have eb:QC pos (O4 [.Call (.Name f.fL p2) (e::es) [] pos2] X.env)=[(OE,Qx (.Call (.Name f.fL p2) (e::es) [] pos2) X.env)]:=rfl;have ek:Ub pos (Sw [] X.env)=[]:=rfl;rw[eb,ek];rcases y6 f with⟨T,hT⟩|⟨T,hT⟩
 ·rw[hT]at inner ⊢;exact wj inner
 ·rw[hT]at inner ⊢;exact y7 inner
end
section
variable{X:Cx}{C:Ct}{pins:List (OS×Obj)}{s:OR}{c0 c c1:Cf}
variable{a b d e o tg:Pw}{es:List Pw}{m ma mb md:M (Kd×U)}{ms:M (List (Kd×U))}{ta tb:M Bool}{pos p p2 apos BW:Pos}
def iJ(rs:List (Kd×U))(c c':Cf):Prop:=∀j u,(Kd.bor j,u)∈rs->c'.σ[j]?=c.σ[j]?
def Walk(C:Ct)(c:Cf)(rs:List (Kd×U))(xs:List (Kd×U))(J:It):Prop:=∀c',Ok C c'->Ns c c'->iJ rs c c'->aX rs c'.st ->
 (∀(i:Nat) r,xs[i]?=Od r->(r.1=.loc\/r.1=.any)/\J.go i c'.H/\∀x H',J.IB i c'.H x H'->∃Eo:Cf,Eo.H=H'/\Eo.σ=c'.σ/\Eo.st=c'.st/\Ok C Eo/\Nx c' Eo/\aC C c' Eo r.1 r.2 x) /\
 ∀i:Nat,xs.length<=i->J.stop i c'.H
def EL(C:Ct)(ik:Ik)(ms:M (List (Kd×U))):TI:=λσ H R=>∃c0:Cf,c0.σ=σ/\c0.H=H/\Ok C c0/\W (ms >>= λrs=>ar rs >>= λ_=>M.Ca (DB ik rs) >>= λxs=>pure (rs,xs)) c0.st λq st' =>
 ∀c J,c.σ=σ->c.st=st'->Ok C c->Nx c0 c->aX q.1 c.st->Walk C c q.1 q.2 J->R J c.H
theorem aC.walk(ok:Ok C c)(n:Ns c c')(hf:iJ [r] c c')(hs:aX [r] c'.st)(h:aC C c0 c r.1 r.2 v):aC C c0 c' r.1 r.2 v :=
 (h.w.Lo ok n λj e=>hf j r.2 (by rw[<-e];simp)).t hs
theorem sX(k:Kd):kE k=.loc\/kE k=.any:=by cases k<;>simp[kE]
theorem qQ(hK:C.K=X.K)(ok:Ok C c)(h:aC C c0 c k (.lst us) (.ref a')):Walk C c [(k,.lst us)] (us.map λu=>(kE k,u)) (Jy X.K a'):=by
 intro c' Cb n hf hs;have h':=aC.walk (r:=(k,.lst us)) ok n hf hs h;obtain⟨a2,vs,e,h1,h2⟩:=h'.list Cb;cases e;rw[hK]at h1;refine⟨λi r hr=>?_,λi hi=>⟨vs,h1,by rw[<-h2.len];simpa using hi⟩⟩;rw[OX,OM]at hr;obtain⟨u,hu,rfl⟩:=hr;obtain⟨v,hv,rep⟩:=h2.get hu;refine⟨sX k,⟨vs,v,h1,hv⟩,λx H' hy=>?_⟩;obtain⟨e,hy⟩:=hy;subst e;have:=hy vs h1;rw[hv]at this;cases this;exact⟨c',rfl,rfl,rfl,Cb,Nx.refl c',aC.item rep⟩
theorem nO(hK:C.K=X.K)(ok:Ok C c)(h:aC C c0 c k (.tup us) (.ref a')):Walk C c [(k,.tup us)] (us.map λu=>(kE k,u)) (Jz X.K a'):=by
 intro c' Cb n hf hs;have h':=aC.walk (r:=(k,.tup us)) ok n hf hs h;obtain⟨a2,vs,e,h1,h2⟩:=h'.tuple Cb;cases e;rw[hK]at h1;refine⟨λi r hr=>?_,λi hi=>⟨vs,h1,by rw[<-h2.len];simpa using hi⟩⟩;rw[OX,OM]at hr;obtain⟨u,hu,rfl⟩:=hr;obtain⟨v,hv,rep⟩:=h2.get hu;refine⟨sX k,⟨vs,v,h1,hv⟩,λx H' hy=>?_⟩;obtain⟨e,hy⟩:=hy;subst e;have:=hy vs h1;rw[hv]at this;cases this;exact⟨c',rfl,rfl,rfl,Cb,Nx.refl c',aC.item rep⟩
theorem nP{lo:Int}:Walk C c rs ((O2 n).map λi:Nat=>(Kd.loc,U.int (lo+(i:Int)))) (ID lo n):=by
 intro c' Cb nx hf hs;refine⟨λi r hr=>?_,λi hi=>by show n<=i;simpa using hi⟩;rw[OX,OM]at hr;obtain⟨j,hu,rfl⟩:=hr;have hi:i<n:=by simpa using(OT.mp hu).1
 rw[List.getElem?_range hi]at hu;cases hu;refine⟨.inl rfl,hi,λy H' hy=>?_⟩;obtain⟨e,rfl⟩:=hy;subst e;exact⟨c',rfl,rfl,rfl,Cb,Nx.refl c',rfl⟩
theorem y8(hK:C.K=X.K)(ha:PE X a (B3 C ma)):PI X tg a (EL C .seq (ma >>= λr=>pure [] >>= λrs=>pure (r::rs))):=by
 rintro pins s σ H R I ⟨c0,rfl,rfl,ok,h⟩;rw[af,af]at h;obtain⟨r,st1,e1,h⟩:=h;rw[af,aj,aj,af,bE,af]at h;obtain⟨B_,h⟩:=h;obtain⟨xs,e2,h⟩:=bQ.mp h;rw[aj]at h;obtain⟨k,u⟩:=r;cases u with
 |lst us =>
  cases e2;refine vd ha pins s c0.σ c0.H R I ⟨c0,rfl,rfl,ok,_,st1,e1,λc v hσ hs Cp n rep=>?_⟩;obtain⟨a',vs,rfl,h1,h2⟩:=rep.list Cp;subst hs;exact⟨a',rfl,⟨vs,hK▸h1⟩,h c _ hσ rfl Cp n B_ (qQ hK Cp rep)⟩
 |tup us =>
  cases e2;refine x9 ha pins s c0.σ c0.H R I ⟨c0,rfl,rfl,ok,_,st1,e1,λc v hσ hs Cp n rep=>?_⟩;obtain⟨a',vs,rfl,h1,h2⟩:=rep.tuple Cp;subst hs;have DC:=h1;rw[hK]at DC;exact⟨a',rfl,⟨vs,DC⟩,h c _ hσ rfl Cp n B_ (nO hK Cp rep)⟩
 |_=>cases e2
theorem sY{k:List (Kd×U)->M β}{B7:β->ay->Prop}(ok:Ok C c0)(h:W (ms >>= λrs=>ar rs >>= λ_=>k rs) c0.st B7)
  (hz:∀rs c vs,DT C c0 c rs vs->W (k rs) c.st B7->Z vs c.H):C1 C ms c0.σ c0.H Z:=by
 rw[af]at h;refine⟨c0,rfl,rfl,ok,h.mono λrs st1 h1 c1 vs e1 e2 B5 n1 r1=>?_⟩;rw[af,bE]at h1;subst e2;exact hz rs c1 vs ⟨e1,B5,n1,r1,h1.1⟩ h1.2
theorem wo(hg:Gl X "range")(hm:X.mg "range"=OB)(hs:O4 [a] X.env=[(OE,Qx a X.env)])(ha:PA X [a] (C1 C ms)):PI X tg (.Call (.Name "range" p) [a] [] pos) (EL C .Cq ms):=by
 rintro pins s σ H R I ⟨c0,rfl,rfl,ok,h⟩;refine ql hg hm ha hs pins s c0.σ c0.H R I (sY ok h λrs c vs t w=>?_);rw[af]at w;obtain⟨xs,e2,w⟩:=bQ.mp w;rw[aj]at w;obtain⟨x,rfl,hz⟩:=aV (f:=sG) e2;clear e2;have e2:=hz;clear hz;obtain⟨v,rfl,tx⟩:=t.one;unfold sG at e2;split at e2
 ·split at e2
  ·rename_i hh;cases e2;exact⟨_,by rw[tx.int t.ok],⋯,⋯,w c _ t.hσ rfl t.ok t.nx t.Gv nP⟩
  ·cases e2
 ·cases e2
theorem mj{k:Kd}{us:List U}{u0:U}{a':OS}{Sq:Hp->List V->Prop}(IU:∀c',Ok C c'->Ns c c'->iJ [(k,u0)] c c'->aX [(k,u0)] c'.st->∃vs,Sq c'.H vs/\ai C (SK C c' k) c'.H us vs):Walk C c [(k,u0)] (us.zipIdx.map λp=>(kE k,.tup [.int p.2,p.1])) (G2 Sq):=by
 intro c' Cb n hf hs;obtain⟨vs,h1,h2⟩:=IU c' Cb n hf hs;refine⟨λi r hr=>?_,λi hi=>⟨vs,h1,by rw[<-h2.len];simpa using hi⟩⟩;rw[OX,OM]at hr;obtain⟨p,hp,rfl⟩:=hr;rw[U',OM]at hp;obtain⟨u,hu,rfl⟩:=hp;obtain⟨v,hv,rep⟩:=h2.get hu;refine⟨sX k,⟨vs,v,h1,hv⟩,λx H' hy=>?_⟩;obtain⟨p,Nl,rfl,hy⟩:=hy;have F5:=hy vs v h1 hv;subst F5;obtain⟨Cr,n2⟩:=Cb.lay (o:=.tup [.int i,v]) Nl;refine⟨{c' with H:=upd c'.H p (.tup [.int i,v])},rfl,rfl,rfl,Cr,n2,aC.item ?_⟩;have r2:ai C (SK C c' k) c'.H [.int ((0+i:Nat):Int),u] [.int (i:Int),v]:=by
  rw[TC];exact⟨_,_,rfl,rfl,_,_,rfl,rep,rfl⟩
 cases k<;>exact⟨p,_,rfl,Ci.of av,by first|exact r2.mv (Cb.Gm n2)|exact r2.mv (Cb.mv n2)⟩
theorem y9{es:List Pw}{kx:Nat}{ps:Pos}(hK:C.K=X.K)(hg:Gl X "enumerate")(hm:X.mg "enumerate"=OB)(hs:O4 [a] X.env=[(OE,Qx a X.env)])(ha:PA X [a] (C1 C ms)):PI X (.Tuple es kx ps) (.Call (.Name "enumerate" p) [a] [] pos) (EL C .G4 ms):=by
 rintro pins s σ H R I ⟨c0,rfl,rfl,ok,h⟩;refine vG hg hm ha hs pins s c0.σ c0.H R I (sY ok h λrs c vs t w=>?_);rw[af]at w;obtain⟨xs,e2,w⟩:=bQ.mp w;rw[aj]at w;obtain⟨x,rfl,hz⟩:=aV (f:=yI) e2;clear e2;have e2:=hz;clear hz;obtain⟨v,rfl,tx⟩:=t.one;unfold yI at e2;split at e2
 ·cases e2;obtain⟨a',ws,e1,h1,h2⟩:=tx.list t.ok;subst e1;refine⟨a',rfl,.inl ⟨⟨ws,hK▸h1⟩,w c _ t.hσ rfl t.ok t.nx t.Gv ?_⟩⟩;refine mj (a':=a') λc' Cb n hf G1=>?_;obtain⟨a2,vs,e,h1,h2⟩:=(aC.walk t.ok n hf G1 tx).list Cb;cases e;exact⟨vs,hK▸h1,h2⟩
 ·cases e2;obtain⟨a',ws,e1,h1,h2⟩:=tx.tuple t.ok;subst e1;rw[hK]at h1;refine⟨a',rfl,.inr ⟨⟨ws,h1⟩,w c _ t.hσ rfl t.ok t.nx t.Gv ?_⟩⟩;refine mj (a':=a') λc' Cb n hf G1=>?_;obtain⟨a2,vs,e,h1,h2⟩:=(aC.walk t.ok n hf G1 tx).tuple Cb;cases e;rw[hK]at h1;exact⟨vs,h1,h2⟩
 ·cases e2
theorem Ok.put(ok:Ok C c)(n:Nx c0 c)(hi:i<c.σ.length)(hk:k=.own\/k=.loc\/k=.any)(C2:Ok C c0)(h:aC C c0 c k u v):
  Ok C {c with σ:=c.σ.set i (Od v),st:=c.st.set i (Od (k,u))}/\Nx c0 {c with σ:=c.σ.set i (Od v),st:=c.st.set i (Od (k,u))}:=by
 have C3:i<c.st.length:=by rw[ok.len];exact hi
 have CW:∀(j:Nat) k' u',(c.st.set i (Od (k,u)))[j]?=Od (Od (k',u'))->j≠i->c.st[j]?=Od (Od (k',u')):=λj k' u' e ne=>by rw[O5 (Qa ne)]at e;exact e
 have Kl:∀(j:Nat) v',(c.σ.set i (Od v))[j]?=Od (Od v')->j≠i->c.σ[j]?=Od (Od v'):=λj v' e ne=>by rw[O5 (Qa ne)]at e;exact e
 have sl:dC C c.S c.H k u v:=by
  rcases hk with rfl|rfl|rfl
  ·obtain⟨r,e,h1,h2,h3,h4⟩:=h;obtain⟨z0,z1,z2,z3,z4⟩:=C2.kJ h1;exact⟨r,e,h2,z2,z0,h4⟩
  ·exact h
  ·exact h
 have Gx:∀(j:Nat) k' u' r,k'.root=OA->(c.st.set i (Od (k,u)))[j]?=Od (Od (k',u'))->(c.σ.set i (Od v))[j]?=Od (Od (.ref r))->j=i/\k=.own/\v=.ref r\/j≠i/\c.st[j]?=Od (Od (k',u'))/\c.σ[j]?=Od (Od (.ref r)):=λj k' u' r hr e1 e2=>by
  by_cases hj:j=i
  ·subst hj;rw[O3 C3]at e1;rw[O3 hi]at e2;cases e1;cases e2;rcases hk with rfl|rfl|rfl
   ·exact .inl ⟨rfl,rfl,rfl⟩
   ·cases hr
   ·cases hr
  ·exact .inr ⟨hj,CW j k' u' e1 hj,Kl j _ e2 hj⟩
 have dD:∀(j:Nat) (u':U),(c.st.set i (Od (k,u)))[j]?=Od (Od (.B1,u'))->c.st[j]?=Od (Od (.B1,u'))/\(c.σ.set i (Od v))[j]?=c.σ[j]?:=λj u' e=>by
  by_cases hj:j=i
  ·subst hj;rw[O3 C3]at e;cases e;rcases hk with hk|hk|hk<;>cases hk
  ·exact⟨CW j .B1 u' e hj,O5 (Qa hj)⟩
 have b1:∀a,({c with σ:=c.σ.set i (Od v),st:=c.st.set i (Od (k,u))}:Cf).R1 a->c.R1 a\/k=.own/\v=.ref a:=λa Du=>by
  obtain⟨j,k',u',hr,e1,e2⟩:=Du;rcases Gx j k' u' a hr e1 e2 with⟨a1,a2,a3⟩|⟨a1,a2,a3⟩
  ·exact .inr ⟨a2,a3⟩
  ·exact .inl ⟨j,k',u',hr,a2,a3⟩
 have Fq:En C {c with σ:=c.σ.set i (Od v),st:=c.st.set i (Od (k,u))}:=ok.dd.of rfl dD (λa z=>(b1 a z).imp id λ⟨q1,q2⟩ j z'=>by
  subst q1;obtain⟨r',e,_,_,h3,_⟩:=h;rw[q2]at e;cases e;exact h3 (.inr ⟨j,z'⟩)) (.up λ_ z=>z) λj a z=>⟨(ok.root (.inr ⟨j,z⟩)).1,λo q=>q⟩
 refine⟨⟨ok.same,ok.DG,ok.par,ok.io,by simp[ok.len],λj k' u' e=>?_,λj1 j2 k1 k2 u1 u2 r Km HU e1 e2 e3 e4=>?_,Fq⟩,⟨⟨n.keep,n.there,λa z=>?_,n.sub,n.new⟩⟩⟩
 ·by_cases hj:j=i
  ·subst hj;rw[O3 C3]at e;cases e;exact⟨v,by rw[O3 hi],sl⟩
  ·obtain⟨v',e1,e2⟩:=ok.sl j k' u' (CW j k' u' e hj);exact⟨v',by rw[O5 (Qa hj)];exact e1,e2⟩
 ·have z1:=Gx j1 k1 u1 r Km e1 e3;have z2:=Gx j2 k2 u2 r HU e2 e4;rcases z1 with⟨a1,a2,a3⟩|⟨a1,a2,a3⟩
  ·rcases z2 with⟨b1,b2,b3⟩|⟨b1,b2,b3⟩
   ·exact a1.trans b1.symm
   ·subst a2;obtain⟨r',e,h1,h2,h3,h4⟩:=h;rw[a3]at e;cases e;exact(h3 (.inl ⟨j2,k2,u2,HU,b2,b3⟩)).elim
  ·rcases z2 with⟨b1,b2,b3⟩|⟨b1,b2,b3⟩
   ·subst b2;obtain⟨r',e,h1,h2,h3,h4⟩:=h;rw[b3]at e;cases e;exact(h3 (.inl ⟨j1,k1,u1,Km,a2,a3⟩)).elim
   ·exact ok.inj j1 j2 k1 k2 u1 u2 r Km HU a2 b2 a3 b3
 ·rcases z with z|⟨j,u',r',e1,e2,e3⟩
  ·rcases b1 a z with z|⟨a2,a3⟩
   ·exact n.roots a (.inl z)
   ·subst a2;obtain⟨r',e,h1,h2,h3,h4⟩:=h;rw[a3]at e;cases e;exact .inr h1
  ·obtain⟨q1,q2⟩:=dD j u' e1;exact n.roots a (.inr ⟨j,u',r',q1,q2▸e2,e3⟩)
theorem pE(C2:Ok C c0)(ok:Ok C c)(n:Nx c0 c)(hi:i<c.σ.length)(hr:aC C c0 c r.1 r.2 v)(h:W (dq i r) c.st B7):
  ∃c',c'.σ=c.σ.set i (Od v)/\c'.H=c.H/\Ok C c'/\Nx c0 c'/\B7 () c'.st:=by
 obtain⟨k,u⟩:=r;cases k with
 |own =>
  obtain⟨x,st',e,hp⟩:=h;cases e;obtain⟨a1,a2⟩:=ok.put n hi (.inl rfl) C2 hr;exact⟨{c with σ:=c.σ.set i (Od v),st:=c.st.set i (Od (.own,u))},rfl,rfl,a1,a2,hp⟩
 |loc =>
  obtain⟨x,st',e,hp⟩:=h;cases e;obtain⟨a1,a2⟩:=ok.put n hi (.inr (.inl rfl)) C2 hr;exact⟨{c with σ:=c.σ.set i (Od v),st:=c.st.set i (Od (.loc,u))},rfl,rfl,a1,a2,hp⟩
 |any =>
  obtain⟨x,st',e,hp⟩:=h;cases e;obtain⟨a1,a2⟩:=ok.put n hi (.inr (.inr rfl)) C2 hr;exact⟨{c with σ:=c.σ.set i (Od v),st:=c.st.set i (Od (.any,u))},rfl,rfl,a1,a2,hp⟩
 |bor j =>
  obtain⟨x,st',e,hp⟩:=h;rw[show dq i (.bor j,u) c.st=match c.st[j]? with|some (Od (.own,u))=>Od (Ex.ok (),(c.st.set j (Od (.loc,u))).set i (Od (.loc,u)))|_=>OB from rfl]at e;split at e
  ·rename_i w hj;cases e;obtain⟨v',e1,r,er,_⟩:=ok.sl j _ _ hj;have hv:c.σ[j]?=Od (Od v):=hr.2;rw[hv]at e1;cases e1;subst er;obtain⟨Cb,n',rep⟩:=ok.sR n hj hv;obtain⟨a1,a2⟩:=Ok.put (c:={c with S:=λa=>c.S a\/a=r,st:=c.st.set j (Od (.loc,w))}) Cb n' (k:=.loc) (u:=w) (v:=.ref r) hi (.inr (.inl rfl)) C2 rep;exact⟨{S:=λa=>c.S a\/a=r,H:=c.H,σ:=c.σ.set i (Od (.ref r)),st:=(c.st.set j (Od (.loc,w))).set i (Od (.loc,w)),kid:=c.kid},rfl,rfl,a1,a2,hp⟩
  ·cases e
 |_=>exact hr.elim
end
section
theorem Ok.BQ(C2:Ok C c0)(ok:Ok C c)(n:Nx c0 c)(h0:c0.H r=OB)(hS:¬c.S r)(hR:¬c.R r)(hH:∃o,c.H r=Od o/\¬Tp o):
  Ok C {c with H:=upd c.H r o' }/\Nx c0 {c with H:=upd c.H r o' }:=by
 obtain⟨o,ho,hT⟩:=hH;obtain⟨q0,_,qP,qI,_⟩:=C2.kJ h0;have hP:¬PS C c.S r:=λz=>z.elim qP hS;have kp:∀a o2,a≠r->c.H a=Od o2->(upd c.H r o') a=Od o2:=λa o2 ne e=>by rw[ao ne];exact e
 have mv:∀S:OS->Prop,¬S r->Mv S c.H S (upd c.H r o'):=λS hS=>⟨λa z=>z,λa ob e tp=>kp a ob (λz=>by subst z;rw[ho]at e;cases e;exact hT tp) e,λa ob z e=>kp a ob (λy=>by subst y;exact hS z) e⟩
 have Nm:∀{a:OS} {o2:HO},c0.H a=Od o2->a≠r:=λe z=>by subst z;rw[h0]at e;cases e
 have th:∀a,(∃o2,c.H a=Od o2)->∃o2,(upd c.H r o') a=Od o2:=λa Du=>by
  obtain⟨o2,e⟩:=Du;by_cases ha:a=r
  ·subst ha;exact⟨o',av⟩
  ·exact⟨o2,kp a o2 ha e⟩
 refine⟨⟨λa o2 e z=>kp a o2 (λy=>by subst y;rw[q0]at e;cases e) (ok.same a o2 e z),λa z=>⟨(ok.DG a z).1,th a (ok.DG a z).2⟩,ok.par,λa z=>⟨(ok.io a z).1,th a (ok.io a z).2⟩,ok.len,λi k u e=>?_,ok.inj,ok.dd.hs (mv _ hS) λj a z=>⟨(ok.root (.inr ⟨j,z⟩)).1,λo2 e=>kp a o2 (λy=>by subst y;exact hR (.inr ⟨j,z⟩)) e⟩⟩,?_⟩
 ·obtain⟨v,e1,e2⟩:=ok.sl i k u e;refine⟨v,e1,e2.mv (mv _ hS) (mv _ hP) λhk r' er=>?_⟩;obtain⟨Kh,Dx,q1,_⟩:=e2.rt hk;rw[er]at Dx;cases Dx;exact⟨q1,λo2 e2=>kp r' o2 (λy=>by subst y;exact hR (.inl ⟨i,k,u,hk,e,by rw[e1,er]⟩)) e2⟩
 ·exact⟨⟨λa o2 e z=>kp a o2 (Nm e) (n.keep a o2 e z),λa o2 e=>th a (n.there a o2 e),n.roots,n.sub,n.new⟩⟩
theorem sZ(hH:c.H r=Od (.CY o (.dK kvs)))(hR:¬c.R r)(ok:Ok C c)(hk:kvs.map (·.1)=ks.map Pq)(hr:ai C c.S c.H us (kvs.map (·.2))):Walk C c [(.own,.CD ks us)] (nL (ks,us)) (Kc r o kvs):=by
 intro c' Cb n hf hs;have h1:=n.keep r _ hH hR;have h2:=hr.mv (ok.mv n);have l1:kvs.length=ks.length:=by rw[<-OJ (f:=(·.1)),hk,OJ]
 have l2:us.length=kvs.length:=by rw[h2.len,OJ]
 have l3:(nL (ks,us)).length=kvs.length:=by
  unfold nL;rw[OJ,V5];show min ks.length us.length=_;omega
 refine⟨λi q hq=>?_,λi hi=>⟨h1,⋯⟩⟩;unfold nL at hq;rw[OX,OM]at hq;obtain⟨p,hp,rfl⟩:=hq;obtain⟨hu,hw⟩:=List.getElem?_zip_eq_some.mp hp;obtain⟨v,hv,rep⟩:=h2.get hw;have hi:i<kvs.length:=by
  have:i<ks.length:=(OT.mp hu).1;omega
 have IX:kvs[i]?=Od (Pq p.1,v):=by
  rw[OX,O7 hi]at hv;have e1:(kvs.map (·.1))[i]?=(ks.map Pq)[i]?:=by rw[hk]
  rw[OX,OX,O7 hi,hu]at e1;rw[O7 hi];simp only[Sv,RO]at e1 hv;rw[<-e1,<-hv]
 refine⟨.inl rfl,⟨h1,hi⟩,λx H' hy=>?_⟩;obtain⟨q,Nn,rfl,hy⟩:=hy;have F5:=hy _ _ IX;subst F5;obtain⟨Cr,n2⟩:=Cb.lay (o:=.tup [kV (Pq p.1),v]) Nn;refine⟨{c' with H:=upd c'.H q (.tup [kV (Pq p.1),v])},rfl,rfl,rfl,Cr,n2,?_⟩;have r2:ai C c'.S c'.H [.str p.1,p.2] [kV (Pq p.1),v]:=⟨_,_,rfl,rfl,_,_,rfl,rep,rfl⟩
 exact⟨q,_,rfl,Ci.of av,r2.mv (Cb.mv n2)⟩
theorem y_(CM:RV a "items" X.env (Qx a X.env)=Qx a X.env)(B9:(apos.endLine==BW.line)=OA)(ha:PE X a (B3 C ma)):
  PI X (.Tuple es kx ps) (.Call (.Attribute a "items" apos) [] [] BW) (EL C .HP (ma >>= λr=>pure [] >>= λrs=>pure (r::rs))):=by
 rintro pins s σ H R I ⟨c0,rfl,rfl,ok,h⟩;rw[af,af]at h;obtain⟨r,st1,e1,h⟩:=h;rw[af,aj,aj,af,bE,af]at h;obtain⟨B_,h⟩:=h;obtain⟨xs,e2,h⟩:=bQ.mp h;rw[aj]at h;have hz:yJ r=Od xs:=e2;unfold yJ at hz;split at hz
 rotate_left
 ·cases hz
 rename_i ks us;cases hz;refine qH ha CM B9 pins s c0.σ c0.H R I ⟨c0,rfl,rfl,ok,_,st1,e1,λc v hσ hs Cp n rep=>?_⟩;obtain⟨a',f0,fS,fR,fv⟩:∃a',v=.ref a'/\c0.H a'=OB/\¬c.S a'/\¬c.R a':=by
  obtain⟨r,z1,z2,z3,z4,_⟩:=rep;exact⟨r,z1,z2,z3,z4⟩
 obtain⟨a2,kvs,z1,h1,h2,h3⟩:=rep.dict Cp;subst z1;cases f0;subst hs;refine⟨a',kvs,rfl,h1,λo=>?_⟩;obtain⟨Cr,n2⟩:=Ok.BQ (o':=.CY o (.dK kvs)) ok Cp n fS fR fv ⟨_,h1,λz=>z⟩;refine h {c with H:=upd c.H a' (.CY o (.dK kvs))} _ hσ rfl Cr n2 B_ (sZ (r:=a') (o:=o) (kvs:=kvs) av fv Cr h2 ?_);refine ai.mv ⟨λa z=>z,λa ob e tp=>?_,λa ob z e=>?_⟩ h3
 ·have:a≠a':=λy=>by subst y;rw[h1]at e;cases e;exact tp
  show upd c.H a' _ a=_;rw[ao this];exact e
 ·have:a≠a':=λy=>by subst y;exact fR z
  show upd c.H a' _ a=_;rw[ao this];exact e
end
section
def tG(C:Ct)(t:Bool)(is:List Nat):TG:=λv σ H Q=>∃c0 c r,c.σ=σ/\c.H=H/\Ok C c0/\Ok C c/\Nx c0 c/\aC C c0 c r.1 r.2 v/\W (cT t is r) c.st λ_ st' =>
 ∀c',c'.st=st'->Ok C c'->Nx c0 c'->(∀j,j∉is->c'.σ[j]?=c.σ[j]?)->c'.σ.length=c.σ.length->Q c'.σ c'.H
structure nQ(X:Cx)(e:Pw)(i:Nat):Prop where
 is:∃x pos,e=.Name x pos/\X.N[i]?=Od x/\Loc X.env.scope x/\(X.fn x=OA\/X.env.scope.names.lookup x=Od .local)
theorem za(hN:X.N.Nodup)(h:nQ X e i):PG X e (tG C OE [i]):=by
 obtain⟨x,pos,rfl,h1,h2,h3⟩:=h.is;rintro pins s σ H v u Q I rv ⟨c0,c,r,rfl,rfl,C2,ok,n,rep,w⟩;have hi:i<c.σ.length:=by rw[I.len];exact(OT.mp h1).1
 obtain⟨c',e1,e2,Cb,n',q⟩:=pE (r:=r) C2 ok n hi rep w;refine oI hN h1 h2 h3 pins s c.σ c.H v u Q I rv ?_;have z:=q c' rfl Cb n' (λj hj=>by rw[e1,O5 (by intro z;exact hj (by simp[z]))]) (by rw[e1];simp);rw[e1,e2]at z;exact z
def Kn:List Nat->GP
 |[]=>zT
 |i::is=>xn (oH i) (Kn is)
inductive c9(X:Cx):List Pw->List Nat->Prop where
 |nil:c9 X [] []
 |cons {e:Pw} {es:List Pw} {i:Nat} {is:List Nat} (h:nQ X e i) (t:c9 X es is):c9 X (e::es) (i::is)
theorem qR(hN:X.N.Nodup)(h:c9 X es is):Hc X es (Kn is):=by
 induction h with
 |nil=>exact vc
 |cons h t ih =>
  obtain⟨x,pos,rfl,h1,h2,h3⟩:=h.is;exact rE (oI hN h1 h2 h3) ih rfl
theorem nR(h:c9 X es is):(Ru es X.env).length=is.length/\(Ru es X.env).findIdx? (·.1)=OB:=by
 induction h with
 |nil=>exact⟨rfl,rfl⟩
 |cons h t ih =>
  obtain⟨x,pos,rfl,h1,h2,h3⟩:=h.is;refine⟨?_,?_⟩
  ·show(_::_).length=_;simp[ih.1]
  ·show Wr _ (_::_)=OB;rw[List.findIdx?_cons,Xu (by simp),ih.2];rfl
theorem pF(hk:kE k=k)(C2:Ok C c0):∀{is:List Nat}{us:List U}{vs:List V}{c:Cf}{B7:Unit->ay->Prop}{Q:L2.St->Hp->Prop},Ok C c->Nx c0 c->(∀i∈is,i<c.σ.length)->ai C (SK C c k) c.H us vs->W (sets is (us.map λu=>(k,u))) c.st B7 ->
  (∀c',B7 () c'.st->Ok C c'->Nx c0 c'->(∀j,j∉is->c'.σ[j]?=c.σ[j]?)->c'.σ.length=c.σ.length->Q c'.σ c'.H)->Kn is vs c.σ c.H Q
 |[],[],vs,c,B7,Q,ok,n,hi,rep,w,q=>by
  rw[show sets [] (List.map (λu=>(k,u)) [])=pure () from rfl,aj]at w;exact⟨rep,q c w ok n (λ_ _=>rfl) rfl⟩
 |[],u::us,vs,c,B7,Q,ok,n,hi,rep,w,q=>(aq.mp w).elim
 |i::is,[],vs,c,B7,Q,ok,n,hi,rep,w,q=>(aq.mp w).elim
 |i::is,u::us,vs,c,B7,Q,ok,n,hi,rep,w,q=>by
  rw[show sets (i::is) (List.map (λu=>(k,u)) (u::us))=dq i (k,u) >>= λ_=>sets is (us.map λu=>(k,u)) from rfl,af]at w;obtain⟨v,r,rfl,h1,h2⟩:=rep;have Cv:k=.own\/k=.loc\/k=.any:=by cases k<;>simp[kE]at hk<;>simp
  have Og:k≠.own:=by cases k<;>simp[kE]at hk<;>simp
  have rt:aC C c0 c k u v:=by rw[<-hk];exact aC.item h1
  obtain⟨a1,a2⟩:=ok.put n (hi i (by simp)) Cv C2 rt;have es:dq i (k,u)=λst=>Od (.ok (),st.set i (Od (k,u))):=by cases k<;>simp[kE]at hk<;>rfl
  obtain⟨_,st',e,w'⟩:=w;rw[es]at e;cases e;refine⟨v,r,rfl,pF (c:={c with σ:=c.σ.set i (Od v),st:=c.st.set i (Od (k,u))}) hk C2 a1 a2 (λj hj=>by simpa using hi j (by simp[hj])) (by cases k<;>exact h2) w' λc' p Cb n' hf hl=>?_⟩;refine q c' p Cb n' (λj hj=>?_) (by rw[hl];simp);rw[hf j (λz=>hj (by simp[z])),O5 (λz=>hj (by simp[z]))]
theorem Au(hc:X.calm=OA)(hK:C.K=X.K)(hN:X.N.Nodup)(h:c9 X es is)(hl:∀i∈is,i<X.N.length):PG X (.Tuple es kk pos) (tG C OA is):=by
 rintro pins s σ H v u Q I rv ⟨c0,c,r,rfl,rfl,C2,ok,n,rep,w⟩;obtain⟨e1,e2⟩:=nR h;refine x3 hc (qR hN h) e1 e2 pins s c.σ c.H v u Q I rv ?_;obtain⟨k,ux⟩:=r;cases ux with
 |tup us =>
  rw[show cT OA is (k,.tup us)=sets is (us.map λu=>(kE k,u)) from by cases is<;>rfl]at w;obtain⟨a',vs,rfl,h1,h2⟩:=rep.tuple ok;rw[hK]at h1;have hlen:us.length=is.length:=by
   have aux:∀(is:List Nat) (l:List (Kd×U)) (st:ay) (P:Unit->ay->Prop),W (sets is l) st P->l.length=is.length:=by
    intro is;induction is with
    |nil=>intro l st P w;cases l with
     |nil=>rfl
     |cons _ _=>exact(aq.mp w).elim
    |cons i is ih=>intro l st P w;cases l with
     |nil=>exact(aq.mp w).elim
     |cons x l =>
      rw[show sets (i::is) (x::l)=dq i x >>= λ_=>sets is l from rfl,af]at w;obtain⟨_,_,_,w⟩:=w;rw[Pb,Pb,ih l _ _ w]
   simpa using aux _ _ _ _ w
  refine⟨a',vs,rfl,h1,by rw[<-h2.len,hlen],?_⟩;refine pF (k:=kE k) (by cases k<;>rfl) C2 ok n (λi hi=>by rw[I.len];exact hl i hi) (by cases k<;>exact h2) w λc' p Cb n' hf Fx=>p c' rfl Cb n' hf Fx
 |_=>cases is<;>exact(aq.mp w).elim
end
section
variable{X:Cx}{C:Ct}{pins:List (OS×Obj)}{s:OR}{c0 c c1:Cf}
variable{a b d e o tg iter elt:Pw}{es ifs:List Pw}{m ma mb md me:M (Kd×U)}{ms:M (List (Kd×U))}{ta tb tc:M Bool}{pos p p2 apos BW:Pos}
theorem qS{m:M α}{st:ay}{Q:α->ay->Prop}:W (inScope k m) st Q↔W m (OZ k OB++st) λa st'=>Q a (st'.drop k):=by
 constructor
 ·rintro⟨a,st',e,h⟩;unfold inScope at e;cases q:m (OZ k OB++st) with
  |none=>rw[q]at e;cases e
  |some r=>obtain⟨r1,r2⟩:=r;rw[q]at e;cases e;exact⟨a,r2,q,h⟩
 ·rintro⟨a,st',e,h⟩;exact⟨a,st'.drop k,by unfold inScope;rw[e],h⟩
def Cf.ext(k:Nat)(c:Cf):Cf:={c with σ:=OZ k OB++c.σ,st:=OZ k OB++c.st,kid:=λj=>c.kid (j - k)}
def Cf.cut(k:Nat)(c:Cf):Cf:={c with σ:=c.σ.drop k,st:=c.st.drop k,kid:=λj=>c.kid (k+j)}
theorem d9(h:(OZ k OB++l)[j]?=Od (Od x)):∃i,j=k+i/\l[i]?=Od (Od x):=by
 by_cases hj:j<k
 ·rw[Pz (by simpa using hj)]at h;rw[Qi]at h;rw[Xs hj]at h;cases h
 ·refine⟨j - k,⋯,?_⟩;rw[Pf (by simp;omega)]at h;simpa using h
theorem c_:(OZ k OB++l)[k+i]?=l[i]?:=by
 rw[Pf (by simp)];simp
theorem s9:(c.ext k).R1 r↔c.R1 r:=by
 constructor
 ·rintro⟨j,kd,u,h1,h2,h3⟩;obtain⟨i,rfl,e⟩:=d9 h2;rw[Cf.ext,c_]at h3;exact⟨i,kd,u,h1,e,h3⟩
 ·rintro⟨i,kd,u,h1,h2,h3⟩;exact⟨k+i,kd,u,h1,by rw[Cf.ext,c_];exact h2,by rw[Cf.ext,c_];exact h3⟩
theorem kO{a:OS}(h:(c.ext k).RD j a):∃i,j=k+i/\c.RD i a:=by
 obtain⟨u,r,e1,e2,e3⟩:=h;obtain⟨i,rfl,e⟩:=d9 e1;rw[Cf.ext,c_]at e2;refine⟨i,rfl,u,r,e,e2,?_⟩;have:(c.ext k).kid (k+i)=c.kid i:=by show c.kid (k+i - k)=_;rw[UQ]
 rw[this]at e3;exact e3
theorem Av(h:(c.ext k).R r):c.R r:=by
 rcases h with h|⟨j,h⟩
 ·exact .inl (s9.mp h)
 ·obtain⟨i,_,h⟩:=kO h;exact .inr ⟨i,h⟩
theorem Ok.ext(k:Nat)(ok:Ok C c):Ok C (c.ext k)/\Nx c (c.ext k):=by
 refine⟨⟨ok.same,ok.DG,ok.par,ok.io,by simp[Cf.ext,ok.len],λj kd u e=>?_,λi j k1 k2 u u' r h1 h2 e1 e2 e3 e4=>?_,⟨λj u r e1 e2=>?_,λi j a z1 z2=>?_,λj a z1 z2=>?_⟩⟩,⟨⟨λ_ _ h _=>h,λ_ o h=>⟨o,h⟩,λa h=>.inl (Av h),λ_ h=>h,λ_ h=>.inl h⟩⟩⟩
 ·obtain⟨i,rfl,e'⟩:=d9 e;obtain⟨v,e1,e2⟩:=ok.sl i kd u e';exact⟨v,by rw[Cf.ext,c_];exact e1,e2⟩
 ·obtain⟨i',rfl,Em⟩:=d9 e1;obtain⟨j',rfl,HJ⟩:=d9 e2;rw[Cf.ext,c_]at e3 e4;rw[ok.inj i' j' k1 k2 u u' r h1 h2 Em HJ e3 e4]
 ·obtain⟨i,rfl,e⟩:=d9 e1;rw[Cf.ext,c_]at e2;have:(c.ext k).kid (k+i)=c.kid i:=by show c.kid (k+i - k)=_;rw[UQ]
  rw[this];exact ok.dd.kd i u r e e2
 ·obtain⟨i',rfl,y1⟩:=kO z1;obtain⟨j',rfl,y2⟩:=kO z2;rw[ok.dd.dj i' j' a y1 y2]
 ·obtain⟨i,rfl,y1⟩:=kO z1;exact ok.dd.d1 i a y1 (s9.mp z2)
theorem s_{a:OS}(h:(c.cut k).R1 a):c.R1 a:=by
 obtain⟨j,kd,u,h1,h2,h3⟩:=h;rw[Cf.cut,Qt]at h2 h3;exact⟨k+j,kd,u,h1,h2,h3⟩
theorem kP{a:OS}(h:(c.cut k).RD j a):c.RD (k+j) a:=by
 obtain⟨u,r,h1,h2,h3⟩:=h;rw[Cf.cut,Qt]at h1 h2;exact⟨u,r,h1,h2,h3⟩
theorem Ok.cut(k:Nat)(ok:Ok C c):Ok C (c.cut k)/\Nx c (c.cut k):=by
 refine⟨⟨ok.same,ok.DG,ok.par,ok.io,by simp[Cf.cut,ok.len],λj kd u e=>?_,λi j k1 k2 u u' r h1 h2 e1 e2 e3 e4=>?_,⟨λj u r e1 e2=>?_,λi j a z1 z2=>?_,λj a z1 z2=>ok.dd.d1 _ a (kP z1) (s_ z2)⟩⟩,⟨⟨λ_ _ h _=>h,λ_ o h=>⟨o,h⟩,λa h=>.inl (h.elim (λz=>.inl (s_ z)) λ⟨j,z⟩=>.inr ⟨k+j,kP z⟩),λ_ h=>h,λ_ h=>.inl h⟩⟩⟩
 ·rw[Cf.cut,Qt]at e;obtain⟨v,e1,e2⟩:=ok.sl _ kd u e;exact⟨v,by rw[Cf.cut,Qt];exact e1,e2⟩
 ·rw[Cf.cut,Qt]at e1 e2 e3 e4;have:=ok.inj _ _ k1 k2 u u' r h1 h2 e1 e2 e3 e4;omega
 ·rw[Cf.cut,Qt]at e1 e2;exact ok.dd.kd _ u r e1 e2
 ·have:=ok.dd.dj _ _ a (kP z1) (kP z2);omega
theorem wq(h:∀j,j∉O2 k->σ'[j]?=(OZ k OB++σ)[j]?)(hl:σ'.length=(OZ k (OB:Option V)++σ).length):∃own:L2.St,own.length=k/\σ'=own++σ:=by
 refine⟨σ'.take k,by rw[PQ,hl];simp,?_⟩;apply VH;intro j;by_cases hj:j<k
 ·rw[Pz (by rw[PQ,hl];simp;omega),List.getElem?_take,Xs hj]
 ·rw[h j (by simpa using hj),Pf (by simp;omega),Pf (by rw[PQ,hl];simp;omega)];congr 1
  rw[PQ,hl];simp
theorem qT(e1:c1.σ=c0.σ)(B5:Ok C c1)(n1:Nx c0 c1)(hw:Walk C c1 rs xs J)(h3:W (bw k t tc me rs xs []) c1.st λus st'=>W (pure (Kd.own,U.lst us)) st' (bG C c0 Q)):
  oP k J (tG C t (O2 k)) (C0 C tc) (B3 C me) Q c0.σ c1.H:=by
 refine⟨λi m ys H=>∃c acc,c.H=H/\c.σ=c0.σ/\Ok C c/\Nx c1 c/\m=xs.length - i/\i<=xs.length/\ai C c.S c.H acc ys/\acc.length<=OG/\W (bw k t tc me rs (xs.drop i) acc) c.st λus st'=>W (pure (Kd.own,U.lst us)) st' (bG C c0 Q),⟨xs.length,c1,[],rfl,e1,B5,Nx.refl c1,by simp,O_ _,rfl,O_ _,by simpa using h3⟩,?_⟩;rintro i m ys H ⟨c,acc,rfl,e3,Cp,nc,rfl,hi,rep,hlen,w⟩;refine⟨by rw[<-rep.len];exact hlen,?_⟩;have fixed:iJ rs c1 c:=λj u _=>by rw[e3,e1]
 by_cases Ce:i<xs.length
 ·right
  rw[Uz Ce]at w;rw[show bw k t tc me rs (xs[i]::xs.drop (i+1)) acc=ar rs >>= λ_=>inScope k (cT t (O2 k) xs[i] >>= λ_=>tc >>= λb=>if b=OA then(me >>= λr=>lift r >>= λu=>pure (Od u)) else pure OB) >>= λr=>match r with|some u=>if acc.length<OG then bw k t tc me rs (xs.drop (i+1)) (acc++[u]) else M.fail|none=>bw k t tc me rs (xs.drop (i+1)) acc from rfl,af,bE]at w;obtain⟨EM,w⟩:=w;obtain⟨wk,_⟩:=hw c Cp nc fixed EM;obtain⟨Ko,Kp,Kq⟩:=wk i xs[i] (by simp[Ce]);refine⟨Kp,λEX H'=>∃c acc,c.H=H'/\c.σ=c0.σ/\Ok C c/\Nx c1 c/\ai C c.S c.H acc EX/\acc.length<=OG/\W (bw k t tc me rs (xs.drop (i+1)) acc) c.st λus st'=>W (pure (Kd.own,U.lst us)) st' (bG C c0 Q),λEX H' ⟨c',Cw,z1,z2,z3,z4,z5,z6,z7⟩=>⟨xs.length - (i+1),⋯,c',Cw,z1,z2,z3,z4,rfl,Ce,z5,z6,z7⟩,λx H' hy=>?_⟩;obtain⟨c2,rfl,e4,e5,Cr,n2,rt⟩:=Kq x H' hy;rw[af,qS,af]at w;obtain⟨Lv,nx⟩:=Cr.ext k;have Np:aC C (c2.ext k) (c2.ext k) xs[i].1 xs[i].2 x:=by
   rcases Ko with z|z
   ·rw[z]at rt ⊢;exact rt
   ·rw[z]at rt ⊢;exact rt
  have eσ:(c2.ext k).σ=OZ k OB++c0.σ:=by rw[Cf.ext];show OZ k OB++c2.σ=_;rw[e4,e3]
  refine⟨c2.ext k,c2.ext k,xs[i],eσ,rfl,Lv,Lv,Nx.refl _,Np,?_⟩;have Nq:(c2.ext k).st=OZ k OB++c.st:=by rw[Cf.ext];show OZ k OB++c2.st=_;rw[e5]
  rw[Nq];refine w.mono λ_ CI w3 c3 e6 EJ n3 HW Jk=>?_;subst e6;rw[eσ]at HW Jk;obtain⟨own,Ef,D0⟩:=wq HW Jk;refine⟨own,Ef,D0,?_⟩;have Lw:Nx c c3:=(n2.trans nx).trans n3;rw[af]at w3;refine⟨c3,rfl,rfl,EJ,w3.mono λb GX w4 c4 e7 e8 Gy n4=>?_⟩;subst e8;cases b with
  |false =>
   rw[Xu O']at w4 ⊢;rw[aj]at w4;obtain⟨Kr,nk⟩:=Gy.cut k;have nn:Nx c (c4.cut k):=(Lw.trans n4).trans nk;refine⟨c4.cut k,acc,rfl,?_,Kr,nc.trans nn,rep.mv (Cp.mv nn),hlen,w4⟩;show c4.σ.drop k=_;rw[e7,D0,TZ Ef]
  |true =>
   rw[Xs rfl]at w4 ⊢;rw[af]at w4;refine⟨c4,e7,rfl,Gy,w4.mono λr FA w5 c5 v e9 Nr Nt n5 Nu=>?_⟩;subst Nr;rw[af]at w5;obtain⟨S',st',u,sS,Nv,n6,Ks,w6,_,_⟩:=kM Gy Nt n5 Nu.w w5;rw[aj]at w6
   dsimp only at w6
   split at w6
   ·rename_i hz;obtain⟨Kr,nk⟩:=Nv.cut k;have nn:Nx c (Cf.cut k {c5 with S:=S',st:=st' }):=((Lw.trans n4).trans n6).trans nk;refine⟨Cf.cut k {c5 with S:=S',st:=st' },acc++[u],rfl,?_,Kr,nc.trans nn,(rep.mv (Cp.mv nn)).snoc Ks,by rw[O8];exact hz,w6⟩;show c5.σ.drop k=_;rw[e9,D0,TZ Ef]
   ·exact(aq.mp w6).elim
 ·left
  have C3:i=xs.length:=by omega
  subst C3;rw[VN,show bw k t tc me rs [] acc=ar rs >>= λ_=>pure acc from rfl,af,bE,aj,aj]at w;obtain⟨_,wk⟩:=hw c Cp nc fixed w.1;exact⟨wk _ (ON _),λp hp=>bG.list w.2 e3 Cp (n1.trans nc) rep p hp⟩
theorem jG(ok:Ok C c0)
  (h:W (ms >>= λrs=>ar rs >>= λ_=>M.Ca (DB ik rs) >>= λxs=>bw k t tc me rs xs [] >>= λus=>pure (Kd.own,U.lst us)) c0.st (bG C c0 Q)) :
  r_ k (EL C ik ms) (tG C t (O2 k)) (C0 C tc) (B3 C me) c0.σ c0.H Q:=by
 rw[af]at h;refine⟨c0,rfl,rfl,ok,?_⟩;rw[af];refine h.mono λrs st1 h1=>?_;rw[af,bE]at h1 ⊢;refine⟨h1.1,?_⟩;have h2:=h1.2;rw[af]at h2 ⊢;refine h2.mono λxs st2 h3=>?_;rw[aj];intro c1 J e1 e2 B5 n1 B_ hw;rw[af]at h3;subst e2
 dsimp only at B_ hw
 exact qT e1 B5 n1 hw h3
theorem td(S:cN X N own scope)(hc:X.calm=OA)(hi:PI X tg iter (EL C ik ms))
  (hg:∀D s H ex,PG (CN X N scope D s H ex) tg (tG C t (O2 own.length))) (hf:∀D s H ex,E_ (CN X N scope D s H ex) ifs (C0 C tc)) (he:∀D s H ex,PE (CN X N scope D s H ex) elt (B3 C me))
  (hs:∀x,QD iter X.env x=pure x) :
  PE X (.ListComp elt [⟨tg,iter,ifs,0⟩] scope pos) (B3 C (ms >>= λrs=>ar rs >>= λ_=>M.Ca (DB ik rs) >>= λxs=>bw own.length t tc me rs xs [] >>= λus=>pure (.own,.lst us))):=by
 refine PE.weak (vz S hc hi hg hf he hs) ?_;rintro σ H Q ⟨c0,rfl,rfl,ok,h⟩;exact jG ok h
end
section
variable{a b d e o tg iter elt:Pw}{es ifs:List Pw}{m ma mb md me:M (Kd×U)}{ms:M (List (Kd×U))}{ta tb tc:M Bool}{pos p p2 apos BW:Pos}{st:RI}{rest body:List RI}{f g mm:M Fl}{ns CT:Nat->Bool}
def zb(C:Ct)(c:Cf):Kd->U->V->Prop
 |.own,u,v=>∃r,v=.ref r/\C.H₀ r=OB/\¬c.S r/\¬c.R r/\bW C c.S c.H r u
 |.loc,u,v=>Rep C c.S c.H u v
 |.any,u,v=>Rep C (PS C c.S) c.H u v
 |_,_,_=>False
def Fin(C:Ct)(D:Ends)(f:Fl)(c:Cf):Prop:=match f with
 |.nx=>D.nx c.σ c.H
 |.bk=>D.bk c.σ c.H
 |.ct=>D.ct c.σ c.H
 |.rt k u=>∀v,zb C c k u v->D.rt v c.H
def Kept(ns:Nat->Bool)(c c':Cf):Prop:=(∀j,ns j=OA->c'.σ[j]?=c.σ[j]?)/\c'.σ.length=c.σ.length
theorem Kept.refl:Kept ns c c:=⟨λ_ _=>rfl,rfl⟩
theorem Kept.trans(h:Kept ns c c')(h':Kept ns c' Eo):Kept ns c Eo:=⟨λj z=>(h'.1 j z).trans (h.1 j z),h'.2.trans h.2⟩
theorem Kept.le(i:∀j,CT j=OA->ns j=OA)(h:Kept ns c c'):Kept CT c c':=⟨λj z=>h.1 j (i j z),h.2⟩
theorem Kept.of(h:c'.σ=c.σ):Kept ns c c':=⟨λj z=>by rw[h],by rw[h]⟩
def iK(C:Ct)(c0:Cf)(ns:Nat->Bool)(D:Ends)(f:Fl)(st':ay):Prop:=∀c,c.st=st'->Ok C c->Ns c0 c->Kept ns c0 c->Fin C D f c
def CK(C:Ct)(ns:Nat->Bool)(m:M Fl):TS:=λD σ H=>∃c0:Cf,c0.σ=σ/\c0.H=H/\Ok C c0/\W m c0.st (iK C c0 ns D)
theorem nS(ok:Ok C c1)(n:Ns c0 c1)(k:Kept ns c0 c1)(h:W mm c1.st (iK C c0 ns D)):CK C ns mm D c1.σ c1.H :=
 ⟨c1,rfl,rfl,ok,h.mono λf st h2 c2 e Cr n2 k2=>h2 c2 e Cr (n.trans n2) (k.trans k2)⟩
theorem PS.weak(h:L2.PS X st t)(i:∀D σ H,t' D σ H->t D σ H):L2.PS X st t':=λpins s σ H D I q=>h pins s σ H D I (i D σ H q)
theorem CP.weak(h:CP X rest t)(i:∀D σ H,t' D σ H->t D σ H):CP X rest t':=λpins s σ H D I q=>h pins s σ H D I (i D σ H q)
theorem kQ(i:∀j,CT j=OA->ns j=OA)(h:CK C CT mm D σ H):CK C ns mm D σ H :=
 let ⟨c0,e1,e2,ok,w⟩:=h;⟨c0,e1,e2,ok,w.mono λf st h2 c2 e Cr n2 k2=>h2 c2 e Cr n2 (k2.le i)⟩
theorem Aw:CP X [] (CK C ns (pure .nx)):=by
 refine CP.weak u9 ?_;rintro D σ H ⟨c0,rfl,rfl,ok,h⟩;rw[aj]at h;exact h c0 rfl ok (Ns.refl c0) Kept.refl
def wt(m:M Fl)(f:Fl):M Fl:=match f with
 |.nx=>m
 |f=>pure f
theorem zc(h1:L2.PS X st (CK C ns f))(h2:CP X rest (CK C ns g)):CP X (st::rest) (CK C ns (f >>= wt g)):=by
 refine CP.weak (rC h1 h2) ?_;rintro D σ H ⟨c0,rfl,rfl,ok,h⟩;rw[af]at h;refine⟨c0,rfl,rfl,ok,h.mono λfl st1 w c1 e B5 n1 k1=>?_⟩;subst e;cases fl with
 |nx=>exact nS B5 n1 k1 w
 |bk=>rw[show wt g .bk=pure .bk from rfl,aj]at w;exact w c1 rfl B5 n1 k1
 |ct=>rw[show wt g .ct=pure .ct from rfl,aj]at w;exact w c1 rfl B5 n1 k1
 |rt k u=>rw[show wt g (.rt k u)=pure (.rt k u) from rfl,aj]at w;exact w c1 rfl B5 n1 k1
theorem Ax:L2.PS X (.Break pos) (CK C ns (pure .bk)):=by
 refine PS.weak rD ?_;rintro D σ H ⟨c0,rfl,rfl,ok,h⟩;rw[aj]at h;exact h c0 rfl ok (Ns.refl c0) Kept.refl
theorem Ay:L2.PS X (.Continue pos) (CK C ns (pure .ct)):=by
 refine PS.weak lz ?_;rintro D σ H ⟨c0,rfl,rfl,ok,h⟩;rw[aj]at h;exact h c0 rfl ok (Ns.refl c0) Kept.refl
theorem Az:L2.PS X (.Pass pos) (CK C ns (pure .nx)):=by
 refine PS.weak u_ ?_;rintro D σ H ⟨c0,rfl,rfl,ok,h⟩;rw[aj]at h;exact h c0 rfl ok (Ns.refl c0) Kept.refl
theorem AA(ha:PE X a (B3 C ma))(hs:Se a OB pos.line X.env=pure OE):L2.PS X (.Expr a pos) (CK C ns (ma >>= λ_=>pure .nx)):=by
 refine PS.weak (gO ha hs) ?_;rintro D σ H ⟨c0,rfl,rfl,ok,h⟩;refine aO ok h λx c v t w=>?_;rw[aj]at w;have:=w c rfl t.ok t.nx (Kept.of t.hσ);rw[<-t.hσ];exact this
theorem zd:L2.PS X (.Return OB pos) (CK C ns (pure (.rt .loc .BZ))):=by
 refine PS.weak vb ?_;rintro D σ H ⟨c0,rfl,rfl,ok,h⟩;rw[aj]at h;exact h c0 rfl ok (Ns.refl c0) Kept.refl .BZ rfl
theorem AB(ha:PE X a (B3 C ma)):L2.PS X (.Return (Od a) pos) (CK C ns (ma >>= retS)):=by
 refine PS.weak (x2 ha) ?_;rintro D σ H ⟨c0,rfl,rfl,ok,h⟩;refine aO ok h λx c v t w=>?_;obtain⟨k,u⟩:=x;obtain⟨hσ,Cp,n,r⟩:=t;cases k with
 |own =>
  rw[show retS (.own,u)=pure (.rt .own u) from rfl,aj]at w;obtain⟨r0,e,h1,h2,h3,h4⟩:=r;exact w c rfl Cp n (Kept.of hσ) v ⟨r0,e,(ok.kJ h1).1,h2,h3,h4⟩
 |loc =>
  rw[show retS (.loc,u)=pure (.rt .loc u) from rfl,aj]at w;exact w c rfl Cp n (Kept.of hσ) v r
 |any =>
  rw[show retS (.any,u)=if Co u=OA then pure (.rt .loc u) else pure (.rt .any u) from rfl]at w;split at w
  ·rw[aj]at w;exact w c rfl Cp n (Kept.of hσ) v (Rep.Co (by assumption) r)
  ·rw[aj]at w;exact w c rfl Cp n (Kept.of hσ) v r
 |bor j =>
  obtain⟨fl,st',e,w⟩:=w;rw[show retS (.bor j,u) c.st=match c.st[j]? with|some (Od (.own,u))=>Od (Ex.ok (Fl.rt .own u),c.st.set j OB)|_=>OB from rfl]at e;split at e
  ·rename_i u' hj;cases e;have EI:j<c.st.length:=(OT.mp hj).1;have CW:∀(i:Nat) k u',(c.st.set j OB)[i]?=Od (Od (k,u'))->i≠j/\c.st[i]?=Od (Od (k,u')):=λi k u' e=>by
    by_cases CC:i=j
    ·subst CC;rw[O3 EI]at e;cases e
    ·rw[O5 (Qa CC)]at e;exact⟨CC,e⟩
   obtain⟨v',e1,r0,er,q1,q2,q3,q4⟩:=Cp.sl j _ _ hj;have hv:c.σ[j]?=Od (Od v):=r.2;rw[hv]at e1;cases e1;subst er;have Fs:∀a,({c with st:=c.st.set j OB}:Cf).R1 a->c.R1 a:=λa ⟨i,k,u2,hk,e1,e2⟩=>⟨i,k,u2,hk,(CW i k u2 e1).2,e2⟩
   have hR:∀a,({c with st:=c.st.set j OB}:Cf).R a->c.R a:=λa z=>z.elim (λz=>.inl (Fs a z)) λ⟨i,u2,r2,e1,e2,e3⟩=>.inr ⟨i,u2,r2,(CW i .B1 u2 e1).2,e2,e3⟩;have Fq:En C {c with st:=c.st.set j OB}:=Cp.dd.of rfl (λi u2 e=>⟨(CW i .B1 u2 e).2,rfl⟩) (λa z=>.inl (Fs a z)) (.up λ_ z=>z) λi a z=>⟨(Cp.root (.inr ⟨i,z⟩)).1,λo q=>q⟩
   have Nw:Ok C {c with st:=c.st.set j OB}:=⟨Cp.same,Cp.DG,Cp.par,Cp.io,by simp[Cp.len],λi k u2 e=>Cp.sl i k u2 (CW i k u2 e).2,λi i' k k' u1 u2 r hk Cv e1 e2 e3 e4=>Cp.inj i i' k k' u1 u2 r hk Cv (CW i k u1 e1).2 (CW i' k' u2 e2).2 e3 e4,Fq⟩
   have nn:Ns c0 {c with st:=c.st.set j OB}:=⟨n.keep,n.there,λa z=>n.roots a (hR a z),n.sub,n.new⟩
   refine w {c with st:=c.st.set j OB} rfl Nw nn (Kept.of hσ) (.ref r0) ⟨r0,rfl,q3,q1,λz=>?_,q4⟩
   ·rcases z with⟨i,k,u2,hk,e1,e2⟩|⟨i,u2,r2,e1,e2,e3⟩
    ·obtain⟨ne,Em⟩:=CW i k u2 e1;exact ne (Cp.inj i j k .own u2 _ r0 hk rfl Em hj e2 hv)
    ·exact Cp.dd.d1 i r0 ⟨u2,r2,(CW i .B1 u2 e1).2,e2,e3⟩ ⟨j,.own,_,rfl,hj,hv⟩
  ·cases e
 |_=>exact r.elim
end
section
theorem mn(Dc:∀j,ns j=OA->j≠i)(C2:Ok C c0)(t:HR C c0 c r v)(hi:i<c.σ.length)(w:W (dq i r >>= λ_=>(pure .nx:M Fl)) c.st (iK C c0 ns D)):D.nx (c0.σ.set i (Od v)) c.H:=by
 rw[af]at w;obtain⟨c',e1,e2,Cb,n',q⟩:=pE (r:=r) C2 t.ok t.nx hi t.rx w;rw[aj]at q;have z:=q c' rfl Cb n' ⟨λj hj=>by rw[e1,t.hσ,O5 (Qa (Dc j hj))],by rw[e1,t.hσ];simp⟩;have z':D.nx c'.σ c'.H:=z;rw[e1,e2,t.hσ]at z';exact z'
theorem xv(Dc:∀j,ns j=OA->j≠i)(hN:X.N.Nodup)(hi:X.N[i]?=Od x)(hx:Loc X.env.scope x)(hf:X.fn x=OA\/X.env.scope.names.lookup x=Od .local)(ha:PE X a (B3 C ma))
  (hs:Se a (Od (.Name x pos')) pos.line X.env=pure OE):L2.PS X (.Assign [.Name x pos'] a pos) (CK C ns (ma >>= λr=>dq i r >>= λ_=>pure .nx)):=by
 rintro pins s σ H D I ⟨c0,rfl,rfl,ok,h⟩;have EN:i<c0.σ.length:=by rw[I.len];exact(OT.mp hi).1
 exact x6 hN hi hx ha hs hf pins s c0.σ c0.H D I (aO ok h λr c v t w=>mn Dc ok t (by rw[t.hσ];exact EN) w)
theorem ze(Dc:∀j,ns j=OA->j≠i)(S:cN X N own scope)(hc:X.calm=OA)(hN:X.N.Nodup)(IQ:X.N[i]?=Od y)(hy:X.env.scope.names.lookup y=Od .local)
  (hi:PI X tg iter (EL C ik ms)) (hg:∀D s H ex,PG (CN X N scope D s H ex) tg (tG C t (O2 own.length))) (hf:∀D s H ex,E_ (CN X N scope D s H ex) ifs (C0 C tc)) (he:∀D s H ex,PE (CN X N scope D s H ex) elt (B3 C me))
  (FF:Se (.ListComp elt [⟨tg,iter,ifs,0⟩] scope pos) (Od (.Name y py)) Eb.line X.env=pure OA) (hs:∀x,QD iter X.env x=pure x) :
  L2.PS X (.Assign [.Name y py] (.ListComp elt [⟨tg,iter,ifs,0⟩] scope pos) Eb)
   (CK C ns ((ms >>= λrs=>ar rs >>= λ_=>M.Ca (DB ik rs) >>= λxs=>bw own.length t tc me rs xs [] >>= λus=>pure (.own,.lst us)) >>= λr=>dq i r >>= λ_=>pure .nx)):=by
 rintro pins s σ H D I ⟨c0,rfl,rfl,ok,h⟩;have EN:i<c0.σ.length:=by rw[I.len];exact(OT.mp IQ).1
 refine vA S hc hN IQ hy hi hg hf he FF hs pins s c0.σ c0.H D I ?_;rw[af]at h;refine jG ok (h.mono λr st1 w c v e1 e2 Cp n rt=>?_);subst e2;exact mn Dc ok ⟨e1,Cp,n,rt⟩ (by rw[e1];exact EN) w
theorem zf(Dc:∀j,ns j=OA->j∉is)(ha:PE X a (B3 C ma))(hg:PG X tg (tG C OA is))(hs:Sx [tg] a pos.line X.env=pure OE)(hw:Vd [tg] a X.env=pure OB)(h1:(Ru [tg] X.env).map (·.2)=[Sy tg X.env]):
  L2.PS X (.Assign [tg] a pos) (CK C ns (ma >>= λr=>cT OA is r >>= λ_=>pure .nx)):=by
 refine PS.weak (rF ha hg hs hw h1) ?_;rintro D σ H ⟨c0,rfl,rfl,ok,h⟩;refine aO ok h λr c v t w=>?_;rw[af]at w;refine⟨c0,c,r,t.hσ,rfl,ok,t.ok,t.nx,t.rx,w.mono λ_ st1 w1 c' e Cb n' hf hl=>?_⟩;subst e;rw[aj]at w1;exact w1 c' rfl Cb n' ⟨λj hj=>by rw[hf j (Dc j hj),t.hσ],by rw[hl,t.hσ]⟩
theorem AD(hc:PT X a (C0 C ta))(h1:CP X ca (CK C ns f))(h2:CP X cb (CK C ns g)):L2.PS X (.If a ca cb pos) (CK C ns (ta >>= λp=>if p=OA then f else g)):=by
 refine PS.weak (zR hc h1 h2) ?_;rintro D σ H ⟨c0,rfl,rfl,ok,h⟩;refine cV ok h λp c hσ Cp n w=>?_;have e:c0.σ=c.σ:=hσ.symm;rw[e];cases p with
 |true=>rw[Xs rfl]at w ⊢;exact nS Cp n (Kept.of hσ) w
 |false=>rw[Xu O']at w ⊢;exact nS Cp n (Kept.of hσ) w
theorem AE(hp:Ux (OU X.prog X.w) X.A X.env X.xe)(hc:PT X a (C0 C ta))(hb:CP X body (CK C ns f)):L2.PS X (.While a body [] pos) (CK C ns (eD ta f n)):=by
 refine PS.weak (rG hp hc hb) ?_;rintro D σ H ⟨c0,rfl,rfl,ok,h⟩;refine⟨λm σ' H'=>∃c,c.H=H'/\c.σ=σ'/\Ok C c/\Ns c0 c/\Kept ns c0 c/\W (eD ta f m) c.st (iK C c0 ns D),⟨n,c0,rfl,rfl,ok,Ns.refl c0,Kept.refl,h⟩,?_⟩;rintro m σ' H' ⟨c,rfl,rfl,Cp,nc,kc,w⟩;cases m with
 |zero=>exact(aq.mp w).elim
 |succ m =>
  rw[show eD ta f (m+1)=ta >>= λb=>if b=OA then(f >>= λf'=>match f' with|.nx=>eD ta f m|.ct=>eD ta f m|.bk=>pure .nx|.rt k u=>pure (.rt k u)) else pure .nx from rfl]at w;refine cV Cp w λp c2 hσ Cr n2 w2=>?_;have k2:Kept ns c c2:=Kept.of hσ;rw[<-hσ];cases p with
  |false =>
   rw[Xu O']at w2 ⊢;rw[aj]at w2;exact w2 c2 rfl Cr (nc.trans n2) (kc.trans k2)
  |true =>
   rw[Xs rfl]at w2 ⊢;refine⟨λLx Ly=>∃c,c.H=Ly/\c.σ=Lx/\Ok C c/\Ns c0 c/\Kept ns c0 c/\W (eD ta f m) c.st (iK C c0 ns D),λLx Ly z=>⟨m,QH m,z⟩,?_⟩;rw[af]at w2;refine⟨c2,rfl,rfl,Cr,w2.mono λfl CI w3 c3 e EJ n3 k3=>?_⟩;subst e;have Kt:=(nc.trans n2).trans n3;have Ku:=(kc.trans k2).trans k3;cases fl with
   |nx=>exact⟨c3,rfl,rfl,EJ,Kt,Ku,w3⟩
   |ct=>exact⟨c3,rfl,rfl,EJ,Kt,Ku,w3⟩
   |_=>rw[aj]at w3;exact w3 c3 rfl EJ Kt Ku
theorem AF(hp:Ux (OU X.prog X.w) X.A X.env X.xe)(hc:X.calm=OA)(hi:PI X tg iter (EL C ik ms))(hg:PG X tg (tG C t is))(hb:CP X body (CK C (DS sb) f))(hs:∀x,QD iter X.env x=pure x)
  (Dc:∀j,ns j=OA->j∉is/\DS sb j=OA) :
  L2.PS X (.For tg iter body [] pos) (CK C ns (ms >>= λrs=>ar rs >>= λ_=>M.Ca (DB ik rs) >>= λxs=>if pf rs is sb=OA then forM t is f rs xs else M.fail)):=by
 refine PS.weak (x_ hp hc hi hg hb hs) ?_;rintro D σ H ⟨c0,rfl,rfl,ok,h⟩;rw[af]at h;refine⟨c0,rfl,rfl,ok,?_⟩;rw[af];refine h.mono λrs st1 h1=>?_;rw[af,bE]at h1 ⊢;refine⟨h1.1,?_⟩;have h2:=h1.2;rw[af]at h2 ⊢;refine h2.mono λxs st2 h3=>?_;rw[aj];intro c1 J e1 e2 B5 n1 B_ hw;subst e2
 dsimp only at B_ hw
 split at h3
 ·rename_i Kv;have Kw:∀j u,(Kd.bor j,u)∈rs->j∉is/\DS sb j=OA:=λj u hm=>by
   have:=O6.mp Kv _ hm;simpa using this
  refine⟨λi m σ' H'=>∃c,c.H=H'/\c.σ=σ'/\Ok C c/\Ns c1 c/\Kept ns c0 c/\iJ rs c1 c/\m=xs.length - i/\i<=xs.length/\W (forM t is f rs (xs.drop i)) c.st (iK C c0 ns D),
   ⟨xs.length,c1,rfl,e1,B5,Ns.refl c1,Kept.of e1,λ_ _ _=>rfl,by simp,O_ _,by simpa using h3⟩,?_⟩
  rintro i m σ' H' ⟨c,rfl,rfl,Cp,nc,kc,fx,rfl,C3,w⟩;by_cases Ce:i<xs.length
  ·right
   rw[Uz Ce,show forM t is f rs (xs[i]::xs.drop (i+1))=ar rs >>= λ_=>cT t is xs[i] >>= λ_=>f >>= λf'=>match f' with|.nx=>forM t is f rs (xs.drop (i+1))|.ct=>forM t is f rs (xs.drop (i+1))|.bk=>pure .nx|.rt k u=>pure (.rt k u) from rfl,af,bE]at w;obtain⟨EM,w⟩:=w;obtain⟨wk,_⟩:=hw c Cp nc fx EM;obtain⟨Ko,Kp,Kq⟩:=wk i xs[i] (by simp[Ce]);refine⟨Kp,λσ' H'=>∃c,c.H=H'/\c.σ=σ'/\Ok C c/\Ns c1 c/\Kept ns c0 c/\iJ rs c1 c/\W (forM t is f rs (xs.drop (i+1))) c.st (iK C c0 ns D),λσ' H' ⟨c',z1,z2,z3,z4,z5,z6,z7⟩=>⟨xs.length - (i+1),⋯,c',z1,z2,z3,z4,z5,z6,rfl,Ce,z7⟩,λx H' hy=>?_⟩;obtain⟨c2,rfl,e4,e5,Cr,n2,rt⟩:=Kq x H' hy;rw[af]at w;have Ny:aC C c2 c2 xs[i].1 xs[i].2 x:=by
    rcases Ko with z|z
    ·rw[z]at rt ⊢;exact rt
    ·rw[z]at rt ⊢;exact rt
   refine⟨c2,c2,xs[i],e4,rfl,Cr,Cr,Nx.refl c2,Ny,?_⟩;rw[e5];refine w.mono λ_ CI w3 c3 e6 EJ n3 Lz Jk=>?_;subst e6;rw[af]at w3;refine⟨c3,rfl,rfl,EJ,w3.mono λfl GX w4 c4 e Gy n4 k4=>?_⟩;subst e;have Kx:Ns c1 c4:=((nc.trans n2.toNs).trans n3.toNs).trans n4;have Ky:Kept ns c0 c4:=by
    refine kc.trans ⟨λj hj=>?_,by rw[k4.2,Jk,e4]⟩;obtain⟨j1,j2⟩:=Dc j hj;rw[k4.1 j j2,Lz j j1,e4]
   have LA:iJ rs c1 c4:=λj u hm=>by
    obtain⟨j1,j2⟩:=Kw j u hm;rw[k4.1 j j2,Lz j j1,e4];exact fx j u hm
   cases fl with
   |nx=>exact⟨c4,rfl,rfl,Gy,Kx,Ky,LA,w4⟩
   |ct=>exact⟨c4,rfl,rfl,Gy,Kx,Ky,LA,w4⟩
   |_=>rw[aj]at w4;exact w4 c4 rfl Gy (n1.toNs.trans Kx) Ky
  ·left
   have Nz:i=xs.length:=by omega
   subst Nz;rw[VN,show forM t is f rs []=ar rs >>= λ_=>pure .nx from rfl,af,bE,aj]at w;obtain⟨_,wk⟩:=hw c Cp nc fx w.1;exact⟨wk _ (ON _),w.2 c rfl Cp (n1.toNs.trans nc) kc⟩
 ·exact(aq.mp h3).elim
end
section
theorem Ok.mod(ok:Ok C c)(n:Ns c0 c)(hk:k.root=OA)(hi:c.st[i]?=Od (Od (k,u)))(hv:c.σ[i]?=Od (Od (.ref r)))(C7:∀a,a≠r->H' a=c.H a)(hr:∃o,H' r=Od o)
  (new:Mv c.S c.H c.S H'->bW C c.S H' r u'):Ok C {c with H:=H',st:=c.st.set i (Od (k,u'))}/\Ns c0 {c with H:=H',st:=c.st.set i (Od (k,u'))}:=by
 have Fs:c.R1 r:=⟨i,k,u,hk,hi,hv⟩
 have hR:c.R r:=.inl Fs;obtain⟨q1,q2,q3,o,ho,Gz⟩:=ok.root hR;have EN:i<c.st.length:=(OT.mp hi).1;have kp:∀{a:OS} {o':HO},a≠r->c.H a=Od o'->H' a=Od o':=λne e=>by rw[C7 _ ne];exact e
 have mv:Mv c.S c.H c.S H':=⟨λ_ z=>z,λa o' e t=>kp (λz=>by subst z;rw[ho]at e;cases e;exact Gz t) e,λa o' z e=>kp (λz'=>q1 (z'▸z)) e⟩
 have Gm:Mv (PS C c.S) c.H (PS C c.S) H':=⟨λ_ z=>z,mv.IZ,λa o' z e=>kp (λz'=>by subst z';exact z.elim q2 q1) e⟩
 have CW:∀(j:Nat) k' w,(c.st.set i (Od (k,u')))[j]?=Od (Od (k',w))->j≠i->c.st[j]?=Od (Od (k',w)):=λj k' w e ne=>by rw[O5 (Qa ne)]at e;exact e
 have back:∀(j:Nat) k' w,k'.root=OA->(c.st.set i (Od (k,u')))[j]?=Od (Od (k',w))->∃w',c.st[j]?=Od (Od (k',w')):=λj k' w _ e=>by
  by_cases hj:j=i
  ·subst hj;rw[O3 EN]at e;cases e;exact⟨u,hi⟩
  ·exact⟨w,CW j k' w e hj⟩
 have b1:∀a,({c with H:=H',st:=c.st.set i (Od (k,u'))}:Cf).R1 a->c.R1 a:=λa Du=>by
  obtain⟨j,k',w,h1,e1,e2⟩:=Du;obtain⟨w',a1⟩:=back j k' w h1 e1;exact⟨j,k',w',h1,a1,e2⟩
 have dD:∀(j:Nat) (w:U),(c.st.set i (Od (k,u')))[j]?=Od (Od (.B1,w))->c.st[j]?=Od (Od (.B1,w)):=λj w e=>by
  by_cases hj:j=i
  ·subst hj;rw[O3 EN]at e;cases e;cases hk
  ·exact CW j .B1 w e hj
 have Fq:En C {c with H:=H',st:=c.st.set i (Od (k,u'))}:=ok.dd.of rfl (λj w e=>⟨dD j w e,rfl⟩) (λa z=>.inl (b1 a z)) mv λj a z=>⟨(ok.root (.inr ⟨j,z⟩)).1,λo' e=>kp (λz'=>ok.dd.d1 j a z (z'▸Fs)) e⟩
 refine⟨⟨λa o' e z=>?_,λa z=>?_,ok.par,λa z=>?_,by simp[ok.len],λj k' w e=>?_,λj1 j2 k1 k2 w1 w2 r' h1 h2 e1 e2 e3 e4=>?_,Fq⟩,n.trans ⟨λa o' e z=>kp (λz'=>z (z'▸hR)) e,λa o' e=>?_,λa z=>?_,λ_ z=>z,λ_ z=>.inl z⟩⟩
 ·have h1:=ok.same a o' e z;refine kp (λz'=>?_) h1;subst z';rcases q3 with q3|q3
  ·rw[e]at q3;cases q3
  ·exact z q3
 ·obtain⟨h1,o',h2⟩:=ok.DG a z;exact⟨h1,o',kp (λz'=>q1 (z'▸z)) h2⟩
 ·obtain⟨h1,o',h2⟩:=ok.io a z;refine⟨h1,?_⟩;by_cases ha:a=r
  ·subst ha;exact hr
  ·exact⟨o',kp ha h2⟩
 ·by_cases hj:j=i
  ·subst hj;rw[O3 EN]at e;cases e;obtain⟨v,e1,e2⟩:=ok.sl j _ _ hi;rw[hv]at e1;cases e1;refine⟨.ref r,hv,?_⟩;have nr:=new mv;cases k with
   |own=>obtain⟨r',er,z1,z2,z3,_⟩:=e2;cases er;exact⟨r,rfl,z1,z2,z3,nr⟩
   |io=>obtain⟨r',er,z1,z2,z3,_⟩:=e2;cases er;exact⟨r,rfl,z1,z2,z3,nr⟩
   |_=>cases hk
  ·have e0:=CW j k' w e hj;obtain⟨v,e1,e2⟩:=ok.sl j k' w e0;refine⟨v,e1,e2.mv mv Gm λCv r' er=>?_⟩;obtain⟨Kh,Dx,z1,_⟩:=e2.rt Cv;rw[er]at Dx;cases Dx;refine⟨z1,λo' e=>kp (λz=>?_) e⟩;subst z;exact hj (ok.inj j i k' k w u r' Cv hk e0 hi (by rw[e1,er]) hv)
 ·obtain⟨Jl,a1⟩:=back j1 k1 w1 h1 e1;obtain⟨LB,a2⟩:=back j2 k2 w2 h2 e2;exact ok.inj j1 j2 k1 k2 Jl LB r' h1 h2 a1 a2 e3 e4
 ·by_cases ha:a=r
  ·subst ha;exact hr
  ·exact⟨o',kp ha e⟩
 ·rcases z with z|⟨j,w,r',e1,e2,e3⟩
  ·exact .inl (.inl (b1 a z))
  ·exact .inl (.inr ⟨j,w,r',dD j w e1,e2,e3⟩)
theorem d_{f:U->Option U}{st:ay}(h:W (modS i f) st Q):∃k u u',k.root=OA/\st[i]?=Od (Od (k,u))/\f u=Od u'/\Q () (st.set i (Od (k,u'))):=by
 obtain⟨_,st',e,q⟩:=h;unfold modS at e;split at e
 ·rename_i k u hs;split at e
  ·rename_i hk;cases e2:f u with
   |none=>rw[e2]at e;cases e
   |some u'=>rw[e2]at e;cases e;exact⟨k,u,u',hk,hs,e2,q⟩
  ·cases e
 ·cases e
theorem ef{st:ay}(h:W (dH i) st Q):∃k u,k≠.B1/\st[i]?=Od (Od (k,u))/\Q (if k.root=OA then .bor i else k,u) st:=by
 obtain⟨r,st',e,q⟩:=h;unfold dH at e;split at e
 ·cases e
 ·rename_i k u Ki hs;cases e;exact⟨k,u,λz=>Ki z,hs,q⟩
 ·cases e
theorem AG(hK:C.K=X.K)(hN:X.N[i]?=Od x)(hv:EU X.env.scope x)(hd:(x==("__debug__":Str))=OE)(C_:(x==("__classdict__":Str))=OE)(ha:PE X a (B3 C ma))
  (Dn:((QC BW (O4 [a] X.env)).all (λx=>!x.1)&&(Ub BW (Sw [] X.env)).all (λx=>x.1.isSome)
   && OI ([a].length+([]:List RX).length+(if ([]:List RX).isEmpty then 0 else 1)<30))=OA)
  (B9:(apos.endLine==BW.line)=OA) (B_:O4 [a] X.env=[(OE,Qx a X.env)]) :
  L2.PS X (.Expr (.Call (.Attribute (.Name x px) "append" apos) [a] [] BW) pos) (CK C ns (dH i >>= λx=>Fp x.2 >>= λ_=>ma >>= λr=>lift r >>= λu=>modS i (sJ u) >>= λ_=>pure .nx)):=by
 refine PS.weak (gO (rQ PySem.F.plainAttrs_list PySem.F.slot_list_append PySem.F.type_list_append qp (eS hN hv hd C_) (d0 ha hZ B_) rfl Dn B9 B_ rfl)) ?_;rintro D σ H ⟨c0,rfl,rfl,ok,h⟩;rw[af]at h;obtain⟨k0,u0,Ei,EE,h⟩:=ef h;obtain⟨v0,e0,Ep⟩:=ok.sl i k0 u0 EE;refine⟨v0,e0,?_⟩;cases u0 with
 |lst GA =>
  rw[af,show Fp (U.lst GA)=pure () from rfl,aj]at h;have HX:aC C c0 c0 (if k0.root=OA then .bor i else k0) (.lst GA) v0:=by
   by_cases hk:k0.root=OA
   ·rw[Xs hk];exact⟨⟨k0,hk,EE⟩,e0⟩
   ·rw[Xu hk];cases k0 with
    |loc=>exact Ep
    |any=>exact Ep
    |bor j=>exact Ep.elim
    |B1=>exact(Ei rfl).elim
    |_=>exact absurd rfl hk
  obtain⟨a0,G6,ea,GU,_⟩:=HX.list ok;refine⟨by rw[ea];exact .inl ⟨rfl,G6,hK▸GU⟩,?_⟩;refine aO ok h λr c v t w=>?_;rw[af]at w;obtain⟨S',st',u,sS,B5,n1,rep1,w1,_,_⟩:=kM ok t.ok t.nx t.rx.w w;rw[af]at w1;obtain⟨k,u1,u2,hk,hs,hf,q⟩:=d_ w1;have hσ:c.σ[i]?=Od (Od (.ref a0)):=by rw[t.hσ,e0,ea]
  cases u1 with
  |lst ys =>
   simp only[sJ]at hf;split at hf
   ·rename_i hz;cases hf;obtain⟨v',e1,e2⟩:=B5.sl i k (.lst ys) hs;have Em:c.σ[i]?=Od (Od v'):=e1;rw[hσ]at Em;cases Em;obtain⟨r',er,_,_,_,ws,hw,Dg⟩:=e2.rt hk;cases er;have NA:c.H a0=Od (.lst ws):=hw;refine⟨a0,ws,v,ea,rfl,NA,by rw[<-Dg.len];exact hz,?_⟩;rw[aj]at q;obtain⟨Cr,n2⟩:=Ok.mod (c:={c with S:=S',st:=st' }) (H':=upd c.H a0 (.lst (ws++[v]))) (u':=.lst (ys++[u])) B5 n1.toNs hk hs hσ (λa ne=>ao ne) ⟨_,av⟩ λmv=>⟨ws++[v],av,(Dg.mv mv).snoc (rep1.mv mv)⟩
    have z:=q _ rfl Cr n2 (Kept.of t.hσ);rw[<-t.hσ];exact z
   ·cases hf
  |_=>cases hf
 |_=>rw[af]at h;exact(aq.mp h).elim
theorem AH(hK:C.K=X.K)(hN:X.N[i]?=Od x)(hv:EU X.env.scope x)(hd:(x==("__debug__":Str))=OE)(C_:(x==("__classdict__":Str))=OE)(ha:PE X a (B3 C ma))
  (Dn:((QC BW (O4 [a] X.env)).all (λx=>!x.1)&&(Ub BW (Sw [] X.env)).all (λx=>x.1.isSome)
   && OI ([a].length+([]:List RX).length+(if ([]:List RX).isEmpty then 0 else 1)<30))=OA)
  (B9:(apos.endLine==BW.line)=OA) (B_:O4 [a] X.env=[(OE,Qx a X.env)]) :
  L2.PS X (.Expr (.Call (.Attribute (.Name x px) "extend" apos) [a] [] BW) pos) (CK C ns (dH i >>= λx=>Fp x.2 >>= λ_=>ma >>= λr=>modS i (nM r) >>= λ_=>pure .nx)):=by
 refine PS.weak (gO (rQ PySem.F.plainAttrs_list PySem.F.slot_list_extend PySem.F.type_list_extend nE (eS hN hv hd C_) (d0 ha hZ B_) rfl Dn B9 B_ rfl)) ?_;rintro D σ H ⟨c0,rfl,rfl,ok,h⟩;rw[af]at h;obtain⟨k0,u0,Ei,EE,h⟩:=ef h;obtain⟨v0,e0,Ep⟩:=ok.sl i k0 u0 EE;refine⟨v0,e0,?_⟩;cases u0 with
 |lst GA =>
  rw[af,show Fp (U.lst GA)=pure () from rfl,aj]at h;have HX:aC C c0 c0 (if k0.root=OA then .bor i else k0) (.lst GA) v0:=by
   by_cases hk:k0.root=OA
   ·rw[Xs hk];exact⟨⟨k0,hk,EE⟩,e0⟩
   ·rw[Xu hk];cases k0 with
    |loc=>exact Ep
    |any=>exact Ep
    |bor j=>exact Ep.elim
    |B1=>exact(Ei rfl).elim
    |_=>exact absurd rfl hk
  obtain⟨a0,G6,ea,GU,_⟩:=HX.list ok;refine⟨by rw[ea];exact .inl ⟨rfl,G6,hK▸GU⟩,?_⟩;refine aO ok h λr c v t w=>?_;rw[af]at w;obtain⟨k,u1,u2,hk,hs,hf,q⟩:=d_ w;have hσ:c.σ[i]?=Od (Od (.ref a0)):=by rw[t.hσ,e0,ea]
  obtain⟨rk,ru⟩:=r;have key:∃ys zs b vs,u1=.lst ys/\v=.ref b/\(Cn C.K c.H b vs\/Ci C.K c.H b vs)/\ai C c.S c.H zs vs/\ys.length+zs.length<=OG/\u2=.lst (ys++zs):=by
   cases ru with
   |lst zs =>
    cases u1 with
    |lst ys =>
     simp only[nM]at hf;split at hf
     ·rename_i hz;cases hf;obtain⟨b,vs,ev,h1,h2⟩:=t.rx.list t.ok;exact⟨_,_,b,vs,rfl,ev,.inl h1,bS hz.2 h2,hz.1,rfl⟩
     ·cases hf
    |_=>simp[nM]at hf
   |tup zs =>
    cases u1 with
    |lst ys =>
     simp only[nM]at hf;split at hf
     ·rename_i hz;cases hf;obtain⟨b,vs,ev,h1,h2⟩:=t.rx.tuple t.ok;exact⟨_,_,b,vs,rfl,ev,.inr h1,bS hz.2 h2,hz.1,rfl⟩
     ·cases hf
    |_=>simp[nM]at hf
   |_=>simp[nM]at hf
  obtain⟨ys,zs,b,vs,rfl,rfl,hB,hz,hl,rfl⟩:=key;obtain⟨v',e1,e2⟩:=t.ok.sl i k (.lst ys) hs;rw[hσ]at e1;cases e1;obtain⟨r',er,_,_,_,ws,hw,Dg⟩:=e2.rt hk;cases er;refine⟨a0,b,ws,vs,ea,rfl,hw,hK▸hB,by rw[<-Dg.len,<-hz.len];exact hl,?_⟩;rw[aj]at q;obtain⟨Cr,n2⟩:=Ok.mod (c:=c) (H':=upd c.H a0 (.lst (ws++vs))) (u':=.lst (ys++zs)) t.ok t.nx.toNs hk hs hσ (λa ne=>ao ne) ⟨_,av⟩ λmv=>⟨ws++vs,av,(Dg.mv mv).append (hz.mv mv)⟩
  have z:=q _ rfl Cr n2 (Kept.of t.hσ);rw[<-t.hσ];exact z
 |_=>rw[af]at h;exact(aq.mp h).elim
theorem jd.or(h:jd X t)(h':jd X t'):jd X (λo i v H Q=>t o i v H Q\/t' o i v H Q):=λpins s σ H o i v ov iv u Q I r1 r2 r3 q =>
 q.elim (h pins s σ H o i v ov iv u Q I r1 r2 r3) (h' pins s σ H o i v ov iv u Q I r1 r2 r3)
theorem set_dict(hu:X.A.units+1<Qd):jd X (λo i v H Q=>∃a H',o=.ref a/\rW H a i v H'/\Q H'):=by
 rintro pins s σ H o i v ov iv u Q I ro ri rv ⟨a,H',rfl,g,q⟩;cases ro;exact qv hu I g ri rv λs' I'=>⟨H',I',q⟩
theorem tf{S:OS->Prop}{kvs:List (Key×V)}(h1:kvs.map (·.1)=ks.map Pq)(h2:ai C S H us (kvs.map (·.2)))(hv:Rep C S H u v):
  (putK kvs (Pq y) v).map (·.1)=(dput ks us y u).1.map Pq/\ai C S H (dput ks us y u).2 ((putK kvs (Pq y) v).map (·.2)):=by
 have HY:(kvs.any λkv=>OI (kv.1=(Pq y:Key)))=OI (y∈ks):=by
  rw[ib];exact(d8 (x:=y) h1 h2).2
 unfold putK dput;rw[HY];by_cases hm:y∈ks
 ·rw[Xs (by simpa using hm),Xs hm];constructor
  ·rw[Pp];rw[<-h1];apply QE;intro p _;show(if p.1=Pq y then(p.1,v) else p).1=p.1;split<;>rfl
  ·clear HY hm;induction kvs generalizing ks us with
   |nil =>
    have:ks=[]:=by simpa using h1.symm
    subst this;simp[ai]
   |cons p kvs ih =>
    cases ks with
    |nil=>simp at h1
    |cons k ks =>
     cases us with
     |nil=>simp[ai]at h2
     |cons u0 us =>
      rw[OQ,OQ,Sh]at h1;obtain⟨v0,r0,e0,q1,q2⟩:=h2;rw[OQ]at e0;cases e0;rw[OQ,Rk,OQ,OQ];refine⟨_,_,rfl,?_,ih h1.2 q2⟩;by_cases hk:k=y
      ·rw[Xs (by exact hk),Xs (by rw[h1.1,hk])];exact hv
      ·rw[Xu (by exact hk),Xu (by rw[h1.1];intro z;exact hk (UC z))];exact q1
 ·rw[Xu (by simpa using hm),Xu hm];exact⟨by rw[PZ,h1,PZ];rfl,by rw[PZ];exact h2.snoc hv⟩
theorem AI(hP:C.P=X.prog)(hw:C.w=X.w)(hK:C.K=X.K)(hu:X.A.units+60<Qd)(hN:X.N[i]?=Od x)(hv:EU X.env.scope x)(hd:(x==("__debug__":Str))=OE)(C_:(x==("__classdict__":Str))=OE)
  (ha:PE X a (B3 C ma)) (hb:PE X b (B3 C mb)) (hs:Sx [.Subscript (.Name x px) b p] a pos.line X.env=pure OE) (NB:Vd [.Subscript (.Name x px) b p] a X.env=pure OB)
  (has:∀v,Sy (.Subscript (.Name x px) b p) X.env v=(do
   let ov <-RH [v] (Qx (.Name x px) X.env)
   let iv <-RH [v,ov] (Qx b X.env)
   UL p
   RH [v,ov,iv] (Vv ov iv v)
   release [v,ov,iv] [])) :
  L2.PS X (.Assign [.Subscript (.Name x px) b p] a pos) (CK C ns (ma >>= λr=>dH i >>= λ_=>mb >>= λx=>cu [r,x] >>= λus=>modS i (pe us) >>= λ_=>pure .nx)):=by
 refine PS.weak (rF ha (x4 (eS hN hv hd C_) hb (jd.or (jd.or set_list (set_dict (X:=X) ⋯)) (vE (X:=X) ⋯)) has) hs NB rfl) ?_;rintro D σ H ⟨c0,rfl,rfl,ok,h⟩;refine aO ok h λr c v t w=>?_;rw[af]at w;obtain⟨k0,u0,Ei,EE,w⟩:=ef w;obtain⟨v0,e0,Ep⟩:=t.ok.sl i k0 u0 EE;refine⟨v0,by rw[<-t.hσ];exact e0,?_⟩;rw[af]at w;refine⟨c,t.hσ,rfl,t.ok,w.mono λy st2 w2 c2 vy e3 e4 Cr n2 r2=>?_⟩;subst e4;rw[af]at w2;have NC:=t.nx.trans n2;have rws:bL C c0 c2 [r,y] [v,vy]:=⟨v,[vy],rfl,t.rx.w.on t.ok n2 (e3.trans t.hσ.symm),⟨vy,[],rfl,(r2.w).from t.nx,rfl,λ_ i r' v' e _=>by simp at e⟩,λhk i r' v' e5 e6 Cv=>by
  cases i with
  |zero=>simp at e5 e6;subst e5 e6;exact kK t.rx.w r2.w hk Cv
  |succ i=>simp at e5⟩
 obtain⟨S',st',us,sS,B5,n1,rep1,w1⟩:=fI ok Cr NC rws w2;rw[af]at w1;obtain⟨k,u1,u2,hk,FG,hf,q⟩:=d_ w1;rw[aj]at q;have hσ:c2.σ[i]?=Od (Od v0):=by rw[e3,<-t.hσ];exact e0
 obtain⟨v',e1,e2⟩:=B5.sl i k u1 FG;have Em:c2.σ[i]?=Od (Od v'):=e1;rw[hσ]at Em;cases Em;obtain⟨a0,er,z1,z2,z3,root⟩:=e2.rt hk;subst er;have ND:({c2 with S:=S',st:=st' }:Cf).σ[i]?=Od (Od (.ref a0)):=hσ;obtain⟨Jl,ws,ew,LC,LB,Oh,Oi,Kz,NF⟩:∃u ws,us=[u,ws]/\Rep C S' c2.H u v/\∃(_:Unit) (_:Unit),True/\Rep C S' c2.H ws vy/\True:=by
  cases us with
  |nil=>simp[ai]at rep1
  |cons u us =>
   obtain⟨_,_,e,q1,q2⟩:=rep1;cases e;cases us with
   |nil=>simp[ai]at q2
   |cons u' us =>
    obtain⟨_,_,e,q3,q4⟩:=q2;cases e;cases us with
    |nil=>exact⟨u,u',rfl,q1,(),(),trivial,q3,trivial⟩
    |cons _ _=>obtain⟨_,_,e,_⟩:=q4;cases e
 subst ew;rw[show pe [Jl,ws] u1=dJ ws Jl u1 from rfl]at hf;have fin:∀{H':Hp} ,(∀a,a≠a0->H' a=c2.H a)->(∃o,H' a0=Od o)->(Mv S' c2.H S' H'->bW C S' H' a0 u2)->D.nx c0.σ H':=λ{H'} C7 hr new=>by
  obtain⟨EJ,n3⟩:=Ok.mod (c:={c2 with S:=S',st:=st' }) (H':=H') (u':=u2) B5 n1.toNs hk FG ND C7 hr new;have z:=q _ rfl EJ n3 (Kept.of e3);rw[<-e3];exact z
 cases u1 with
 |lst xs =>
  cases ws with
  |int j =>
   simp only[dJ,OM]at hf;obtain⟨j',hj,rfl⟩:=hf;obtain⟨vs,h1,h2⟩:=root;have ey:vy=.int j:=Kz;refine .inl (.inl ⟨a0,vs,j,j',rfl,ey,h1,by rw[<-h2.len];exact hj,?_⟩);exact fin (λa ne=>ao ne) ⟨_,av⟩ λmv=>⟨vs.set j' v,av,(h2.mv mv).set j' (LC.mv mv)⟩
  |_=>simp[dJ]at hf
 |CD ks vs =>
  cases ws with
  |str y' =>
   simp only[dJ]at hf;split at hf
   ·rename_i hz;cases hf;obtain⟨kvs,h1,h2,h3⟩:=root;have ey:vy=.str y':=Kz;subst ey;have hl:kvs.length=ks.length:=by have:=congrArg SJ h2;simpa using this
    refine .inl (.inr ⟨a0,_,rfl,rW.k (k:=Pq y') h1 (by rw[hl];exact hz),?_⟩);refine fin (λa ne=>ao ne) ⟨_,av⟩ λmv=>?_;obtain⟨g1,g2⟩:=tf (y:=y') h2 h3 LC;exact⟨_,av,g1,g2.mv mv⟩
   ·cases hf
  |_=>simp[dJ]at hf
 |De ks =>
  simp only[dJ]at hf;split at hf
  ·rename_i r0 IY;split at hf
   ·rename_i hh;cases hf;have er:=iI IY;subst er;have HZ:=Kz.row;have FQ:dg C.P C.w C.K c2.H a0 ks:=root;rw[hK]at HZ;rw[hP,hw,hK]at FQ;refine .inr ⟨a0,r0,ks,rfl,HZ,FQ,hh.1,hh.2,λH' hR C7=>?_⟩;obtain⟨xs,hx,_⟩:=id hR;refine fin C7 ⟨_,hx⟩ λmv=>?_;show dg C.P C.w C.K H' a0 _;rw[hP,hw,hK];exact hR
   ·cases hf
  ·cases hf
 |_=>simp[dJ]at hf
theorem Ok.slot(ok:Ok C c)(hn:k≠.B1)(hs:c.st[i]?=Od (Od (k,u))):∃v,c.σ[i]?=Od (Od v)/\aC C c c (if k.root=OA then .bor i else k) u v:=by
 obtain⟨v0,e0,Ep⟩:=ok.sl i k u hs;refine⟨v0,e0,?_⟩;by_cases hk:k.root=OA
 ·rw[Xs hk];exact⟨⟨k,hk,hs⟩,e0⟩
 ·rw[Xu hk];cases k with
  |loc=>exact Ep
  |any=>exact Ep
  |bor j=>exact Ep.elim
  |B1=>exact(hn rfl).elim
  |_=>exact absurd rfl hk
end
section
theorem AJ(hK:C.K=X.K)(hN:X.N[i]?=Od x)(hv:EU X.env.scope x)(hd:(x==("__debug__":Str))=OE)(C_:(x==("__classdict__":Str))=OE)(B9:(apos.endLine==BW.line)=OA):
  L2.PS X (.Expr (.Call (.Attribute (.Name x px) "clear" apos) [] [] BW) pos) (CK C ns (modS i yM >>= λ_=>pure .nx)):=by
 refine PS.weak (gO (rP PySem.F.plainAttrs_list PySem.F.slot_list_clear PySem.F.type_list_clear rU (eS hN hv hd C_) rfl B9)) ?_;rintro D σ H ⟨c0,rfl,rfl,ok,h⟩;rw[af]at h;obtain⟨k,u1,u2,hk,hs,hf,q⟩:=d_ h;cases u1 with
 |lst us =>
  cases hf;obtain⟨v,e1,e2⟩:=ok.sl i k _ hs;obtain⟨r,rfl,_,_,_,vs,h1,h2⟩:=e2.rt hk;refine⟨_,e1,.inl ⟨rfl,vs,hK▸Cn.of h1⟩,r,vs,rfl,rfl,h1,?_⟩;rw[aj]at q;obtain⟨Cr,n2⟩:=ok.mod (H':=upd c0.H r (.lst [])) (u':=.lst []) (Ns.refl c0) hk hs e1 (λa ne=>ao ne) ⟨_,av⟩ λmv=>⟨[],av,rfl⟩
  exact q _ rfl Cr n2 Kept.refl
 |_=>cases hf
end
section
variable{X:Cx}{C:Ct}{a:Pw}{ma:M (Kd×U)}{apos BW:Pos}{i:Nat}{x:Str}{px:Pos}
theorem Ok.xw(ok:Ok C c)(hk:k.root=OA)(hs:c.st[i]?=Od (Od (k,.lst us))):∃a vs,c.σ[i]?=Od (Od (.ref a))/\c.H a=Od (.lst vs)/\ai C c.S c.H us vs:=by
 obtain⟨v,e1,e2⟩:=ok.sl i k _ hs;obtain⟨r,rfl,_,_,_,vs,h1,h2⟩:=e2.rt hk;exact⟨r,vs,e1,h1,h2⟩
theorem ai.eraseIdx{S:OS->Prop}:∀{us:List U}{vs:List V} (n:Nat),ai C S H us vs->ai C S H (us.eraseIdx n) (vs.eraseIdx n)
 |[],_,n,h=>by cases h;simp[ai]
 |u::us,vs,0,h=>by
  obtain⟨v,r,rfl,h1,h2⟩:=h;exact h2
 |u::us,vs,n+1,h=>by
  obtain⟨v,r,rfl,h1,h2⟩:=h;exact⟨v,_,rfl,h1,h2.eraseIdx n⟩
theorem Ok.out(ok:Ok C c)(n:Nx c0 c)(hσ:c.σ=c0.σ)(hk:k.root=OA)(hs:c.st[i]?=Od (Od (k,.lst us)))(hr:c.σ[i]?=Od (Od (.ref r)))(Dg:ai C c.S c.H D_ CV)(hu:Rep C c.S c.H u v)(w:bG C c0 Q (.loc,u) (c.st.set i (Od (k,.lst D_)))):Q v (upd c.H r (.lst CV)):=by
 have NG:Mv c.S c.H c.S (upd c.H r (.lst CV)):=by
  obtain⟨v',e1,e2⟩:=ok.sl i k _ hs;rw[hr]at e1;cases e1;obtain⟨r',er,h1,_,_,h4⟩:=e2.rt hk;cases er;obtain⟨o,ho,Gz⟩:=h4.some;exact⟨λ_ z=>z,λa o' e t=>by rw[ao (λz=>by subst z;rw[ho]at e;cases e;exact Gz t)];exact e,λa o' z e=>by rw[ao (λz'=>by subst z';exact h1 z)];exact e⟩
 obtain⟨Cr,n2⟩:=ok.mod (H':=upd c.H r (.lst CV)) (u':=.lst D_) n.toNs hk hs hr (λa ne=>ao ne) ⟨_,av⟩ λmv=>⟨CV,av,Dg.mv mv⟩
 exact w {c with H:=upd c.H r (.lst CV),st:=c.st.set i (Od (k,.lst D_))} v hσ rfl Cr ⟨n2⟩ (hu.mv NG)
theorem wu(hN:X.N[i]?=Od x)(hv:EU X.env.scope x)(hd:(x==("__debug__":Str))=OE)(C_:(x==("__classdict__":Str))=OE)(B9:(apos.endLine==BW.line)=OA)(hK:C.K=X.K):
  PE X (.Call (.Attribute (.Name x px) "pop" apos) [] [] BW) (B3 C (sI i)):=by
 refine PE.weak (rP PySem.F.plainAttrs_list PySem.F.slot_list_pop PySem.F.type_list_pop yh (eS hN hv hd C_) rfl B9) ?_;rintro σ H Q ⟨c0,rfl,rfl,ok,h⟩;obtain⟨r,st',e,w⟩:=h;unfold sI at e;split at e
 ·rename_i k us hs;split at e
  ·rename_i hk;split at e
   ·rename_i u hu;cases e;obtain⟨p,vs,h1,h2,h3⟩:=ok.xw hk hs;obtain⟨v,g1,g2⟩:=h3.get hu;have hl:=h3.len;refine⟨_,h1,.inl ⟨rfl,vs,hK▸Cn.of h2⟩,p,vs,v,rfl,rfl,h2,by rw[<-hl];exact g1,?_⟩;refine ok.out (Nx.refl c0) rfl hk hs h1 ?_ g2 w;rw[U5,U5,hl];exact h3.take _
   ·cases e
  ·cases e
 ·cases e
theorem AK(h0:0<=j)(h:j.toNat<n):Uu j n=Od j.toNat:=by
 simp only[Uu];rw[Xu (show ¬j<0 by omega),Xs (by rw[OD,Xt,Xt];omega)]
theorem qU{st:ay}(h:W (qL i u) st Q):∃(j:Int) (k:Kd) (us:List U) (y:U),u=.int j/\k.root=OA/\0<=j/\j<1000000/\st[i]?=Od (Od (k,.lst us))/\us[j.toNat]?=Od y/\Q (.loc,y) (st.set i (Od (k,.lst (us.eraseIdx j.toNat)))):=by
 obtain⟨r,st',e,w⟩:=h;cases u with
 |int j =>
  unfold qL at e
  dsimp only at e
  split at e
  ·rename_i k us hs;split at e
   ·rename_i hk;split at e
    ·rename_i y hy;cases e;exact⟨j,k,us,y,rfl,hk.1,hk.2.1,hk.2.2,hs,hy,w⟩
    ·cases e
   ·cases e
  ·cases e
 |_=>cases e
theorem tm(hK:C.K=X.K)(hN:X.N[i]?=Od x)(hv:EU X.env.scope x)(hd:(x==("__debug__":Str))=OE)(C_:(x==("__classdict__":Str))=OE)(ha:PE X a (B3 C ma))
  (Dn:((QC BW (O4 [a] X.env)).all (λx=>!x.1)&&(Ub BW (Sw [] X.env)).all (λx=>x.1.isSome)
   && OI ([a].length+([]:List RX).length+(if ([]:List RX).isEmpty then 0 else 1)<30))=OA)
  (B9:(apos.endLine==BW.line)=OA) (B_:O4 [a] X.env=[(OE,Qx a X.env)]) :
  PE X (.Call (.Attribute (.Name x px) "pop" apos) [a] [] BW) (B3 C (dH i >>= λx=>Fp x.2 >>= λ_=>ma >>= λy=>qL i y.2)):=by
 refine PE.weak (rQ PySem.F.plainAttrs_list PySem.F.slot_list_pop PySem.F.type_list_pop rT (eS hN hv hd C_) (d0 ha hZ B_) rfl Dn B9 B_ rfl) ?_;rintro σ H Q ⟨c0,rfl,rfl,ok,h⟩;rw[af]at h;obtain⟨k0,u0,Ei,EE,h⟩:=ef h;obtain⟨v0,e0,HX⟩:=ok.slot Ei EE;refine⟨v0,e0,?_⟩;cases u0 with
 |lst GA =>
  rw[af,show Fp (U.lst GA)=pure () from rfl,aj]at h;obtain⟨a0,G6,ea,GU,_⟩:=HX.list ok;refine⟨by rw[ea];exact .inl ⟨rfl,G6,hK▸GU⟩,?_⟩;refine aO ok h λr c v t w=>?_;obtain⟨j,k,us,y,ej,hk,j0,j1,hs,hu,w⟩:=qU w;obtain⟨p,vs,h1,h2,h3⟩:=t.ok.xw hk hs;have hp:p=a0:=by
   have:=h1;rw[t.hσ,e0,ea]at this;cases this;rfl
  subst hp;obtain⟨z,g1,g2⟩:=h3.get hu;have EI:j.toNat<vs.length:=(OT.mp g1).1;have rx:=t.rx;rw[ej]at rx;have ev:=rx.int t.ok;exact⟨p,vs,j,j.toNat,z,ea,by rw[ev],h2,SD (by decide) j0,Int.lt_trans j1 (by decide),AK j0 EI,g1,t.ok.out t.nx t.hσ hk hs h1 (h3.eraseIdx _) g2 w⟩
 |_=>rw[af]at h;exact(aq.mp h).elim
end
abbrev EO(P:PC)(w:P4)(K:PySem.W.Frag)(H:Hp)(Pr IO:OS->Prop):Ct:=⟨P,w,K,H,Pr,IO⟩
structure xx(C:Ct)(H H':Hp)(S':OS->Prop)(is:List Nat)(vs:List V)(ws:List U)(k:Kd)(u:U)(v:V):Prop where
 same:∀a o,H a=Od o->¬C.IO a->H' a=Od o
 new:∀a,S' a->H a=OB/\∃o,H' a=Od o
 own:k=.own->∃r,v=.ref r/\H r=OB/\¬S' r/\bW C S' H' r u
 loc:k=.loc->Rep C S' H' u v
 len:ws.length=is.length
 Dt:∀(n i:Nat) (r:OS) (w:U),is[n]?=Od i->vs[i]?=Od (.ref r)->ws[n]?=Od w->bW C S' H' r w
structure zg(C:Ct)(H:Hp)(is:List Nat)(us:List U)(vs:List V):Prop where
 len:us.length=vs.length
 par:∀a,C.D9 a->DH H a/\¬C.IO a
 LD:∀a,C.IO a->DH H a
 io:∀(i:Nat) (u:U),i∈is->us[i]?=Od u->∃r,vs[i]?=Od (.ref r)/\C.IO r/\bW C (λ_=>False) H r u
 any:∀(i:Nat) (u:U),i∉is->us[i]?=Od u->∃v,vs[i]?=Od v/\Rep C C.D9 H u v
 inj:∀(i j:Nat) (r:OS),i∈is->j∈is->vs[i]?=Od (.ref r)->vs[j]?=Od (.ref r)->i=j
 Dt:∀a,C.IO a->∃i∈is,vs[i]?=Od (.ref a)
def Jm(P:PC)(w:P4)(K:PySem.W.Frag)(F:List U->Option (Ex (Kd×U)))(np:Nat)(is:List Nat):Sp:=λvs H Q _=>vs.length=np/\∃us k u ws Pr IO,F us=Od (.ok (k,.tup (u::ws)))/\(k=.own\/k=.loc)/\zg (EO P w K H Pr IO) H is us vs /\
 ∀v H' S',xx (EO P w K H Pr IO) H H' S' is vs ws k u v->Q v H'
theorem map_inj:∀{l:List α},(l.map f).Nodup->∀x∈l,∀y∈l,f x=f y->x=y
 |[],_,_,h,_,_,_=>by cases h
 |a::l,h,x,hx,y,hy,e=>by
  rw[OQ,PX]at h;rcases OV.mp hx with e1|h1
  ·rcases OV.mp hy with e2|h2
   ·rw[e1,e2]
   ·exact absurd (PY.mpr ⟨y,h2,by rw[<-e,e1]⟩) h.1
  ·rcases OV.mp hy with e2|h2
   ·exact absurd (PY.mpr ⟨x,h1,by rw[e,e2]⟩) h.1
   ·exact map_inj h.2 x h1 y h2 e
section
theorem qV(h:eZ rs p=Od j):∃us,rs[p]?=Od (.bor j,.lst us)/\bD us=OA:=by
 unfold eZ at h;split at h
 ·split at h
  ·cases h;exact⟨_,by assumption,by assumption⟩
  ·cases h
 ·cases h
theorem DT.LF(t:DT C c0 c rs vs){i:Nat}(h:rs[i]?=Od r):∃v,vs[i]?=Od v/\aC C c0 c r.1 r.2 v:=by
 have aux:∀(l:List (Kd×U)) (w:List V),bL C c0 c l w->aX l c.st->∀(i:Nat) (r:Kd×U),l[i]?=Od r->∃v,w[i]?=Od v/\aC C c0 c r.1 r.2 v:=by
  intro l;induction l with
  |nil=>intro w _ _ i r e;simp at e
  |cons x l ih =>
   intro w h hs i r e;obtain⟨v,t',rfl,h1,h2,_⟩:=h;rw[d7]at hs;cases i with
   |zero=>simp at e;subst e;exact⟨v,rfl,h1.t hs.1⟩
   |succ i=>obtain⟨v',a,b⟩:=ih t' h2 hs.2 i r (by simpa using e);exact⟨v',by simpa using a,b⟩
 exact aux rs vs t.rep t.Gv i r h
theorem DT.len(t:DT C c0 c rs vs):rs.length=vs.length:=by
 have:=t.read.len;rw[OJ]at this;exact this
theorem pG(q:C'.Eqv C){vs:List V}(hs:∀a,S' a->S1 a){IO:OS->Prop}(H9:∀a,S' a->¬IO a)(Gz:∀a o,IO a->H' a=Od o->¬Tp o):
  ∀(ps:List Nat) (ws:List U) (cc:Cf) (st':ay),Ok C cc->Ns c1 cc->cc.S=S1->eM rs ps ws cc.st=Od st'->(ps.map (eZ rs)).Nodup->(∀p∈ps,∀a,vs[p]?=Od (.ref a)->IO a) ->
  (∀p∈ps,∀j,eZ rs p=Od j->∃k u r,k.root=OA/\cc.st[j]?=Od (Od (k,u))/\cc.σ[j]?=Od (Od (.ref r))/\vs[p]?=Od (.ref r)) ->
  (∀(n p:Nat) (r:OS) (w:U),ps[n]?=Od p->vs[p]?=Od (.ref r)->ws[n]?=Od w->bW C' S' H' r w)->(∀a,(∀p∈ps,vs[p]?≠Od (.ref a))->cc.H a=H' a)->(∀a,¬IO a->cc.H a=H' a) ->
  ∃cf:Cf,Ok C cf/\Ns c1 cf/\cf.σ=cc.σ/\cf.S=S1/\cf.st=st'/\cf.H=H'/\cf.kid=cc.kid/\∀(j:Nat) (k:Kd) (u:U),cf.st[j]?=Od (Od (k,u))->∃u0,cc.st[j]?=Od (Od (k,u0))
 |[],ws,cc,st',ok,n,hS,e,_,_,_,_,ag,_=>by
  cases ws with
  |nil=>cases e;exact⟨cc,ok,n,rfl,hS,rfl,funext λa=>ag a λp hp=>(by cases hp),rfl,λj k u e=>⟨u,e⟩⟩
  |cons _ _=>cases e
 |p::ps,ws,cc,st',ok,n,hS,e,nd,CO,sl,rt,ag,KA=>by
  cases ws with
  |nil=>cases e
  |cons w ws =>
   simp only[eM]at e;split at e
   ·rename_i j hj;split at e
    ·rename_i us k0 Oj B_;obtain⟨k,u,r,hk,e1,e2,e3⟩:=sl p (by simp) j hj;rw[B_]at e1;cases e1;have e1:=B_;have hr:=rt 0 p r _ rfl e3 rfl;obtain⟨xs,g1,g2⟩:=hr;have KC:IO r:=CO p (by simp) r e3;rw[OQ,PX]at nd;obtain⟨Cb,n'⟩:=ok.mod (H':=upd cc.H r (.lst xs)) (u':=.lst us) n hk e1 e2 (λa ne=>ao ne) ⟨_,av⟩ (λ_=>⟨xs,av,by
      refine(g2.cg q).mv ⟨λa z=>by rw[hS];exact hs a z,λa o h tp=>?_,λa o z h=>?_⟩
      ·by_cases ha:a=r
       ·subst ha;exact absurd tp (Gz a o KC h)
       ·rw[ao ha];by_cases hI:IO a
        ·exact absurd tp (Gz a o hI h)
        ·rw[KA a hI];exact h
      ·have hI:=H9 a z;have ha:a≠r:=λe=>hI (e▸KC);rw[ao ha,KA a hI];exact h⟩)
     have EN:j<cc.st.length:=(OT.mp e1).1;have A1:∀p'∈ps,∀j',eZ rs p'=Od j'->∃k u r,Kd.root k=OA/\(cc.st.set j (Od (k0,.lst us)))[j']?=Od (Od (k,u))/\cc.σ[j']?=Od (Od (.ref r))/\vs[p']?=Od (.ref r):=λp' hp j' FE=>by
      obtain⟨k',u',r',a1,a2,a3,a4⟩:=sl p' (by simp[hp]) j' FE;have ne:j≠j':=λz=>nd.1 (PY.mpr ⟨p',hp,by rw[FE,hj,z]⟩);exact⟨k',u',r',a1,by rw[O5 ne];exact a2,a3,a4⟩
     have A2:∀a,(∀p'∈ps,vs[p']?≠Od (.ref a))->upd cc.H r (.lst xs) a=H' a:=λa ha=>by
      by_cases h:a=r
      ·subst h;rw[av,g1]
      ·rw[ao h];refine ag a λp' hp z=>?_;rcases OV.mp hp with rfl|hp
       ·rw[e3]at z;cases z;exact h rfl
       ·exact ha p' hp z
     have A3:∀a,¬IO a->upd cc.H r (.lst xs) a=H' a:=λa ha=>by
      have ne:a≠r:=λz=>ha (by rw[z];exact KC);rw[ao ne];exact KA a ha
     obtain⟨cf,f1,f2,f3,f4,f5,f6,f7,f8⟩:=pG q hs H9 Gz ps ws {cc with H:=upd cc.H r (.lst xs),st:=cc.st.set j (Od (k0,.lst us))} st' Cb n' hS e nd.2 (λp' hp=>CO p' (by simp[hp])) A1 (λm p' r' w' a b d=>rt (m+1) p' r' w' (by simpa using a) b (by simpa using d)) A2 A3;refine⟨cf,f1,f2,f3,f4,f5,f6,f7,λi k' u' z=>?_⟩;obtain⟨u0,z⟩:=f8 i k' u' z;by_cases hi:i=j
     ·subst hi;have z:(cc.st.set i (Od (k0,.lst us)))[i]?=_:=z;rw[O3 EN]at z;cases z;exact⟨_,e1⟩
     ·have z:(cc.st.set j (Od (k0,.lst us)))[i]?=_:=z;rw[O5 (Qa hi)]at z;exact⟨u0,z⟩
    ·cases e
   ·cases e
end
section
theorem wx(st:ay)(r:Kd×U):(cH st r).1=r.1:=by
 unfold cH;split<;>rfl
theorem bL.LG{st:ay}:∀{rs:List (Kd×U)}{vs:List V},bL C c0 c rs vs->bL C c0 c (rs.map (cH st)) vs
 |[],_,h=>h
 |r::rs,vs,h=>by
  obtain⟨v,t,rfl,h1,h2,h3⟩:=h;refine⟨v,t,rfl,?_,bL.LG h2,λhk i r' v' e1 e2 Cv=>?_⟩
  ·obtain⟨k,u⟩:=r;cases k<;>exact h1
  ·rw[OX,OM]at e1;obtain⟨r0,e1,rfl⟩:=e1;rw[wx]at hk Cv;exact h3 hk i r0 v' e1 e2 Cv
theorem wy(h:PA X es (C1 C ms)):PA X es (C1 C (ms >>= vR)):=by
 rintro pos pins s σ H Q I ⟨c0,rfl,rfl,ok,w⟩;refine h pos pins s c0.σ c0.H Q I ⟨c0,rfl,rfl,ok,?_⟩;rw[af]at w;refine w.mono λrs st ⟨CA,st',e,q⟩ c vs e1 e2 B5 n r=>?_;cases e;exact q c vs e1 e2 B5 n r.LG
theorem tq(h:Kf r=Od (k,u,ws)):r=(k,.tup (u::ws))/\(k=.own\/k=.loc):=by
 unfold Kf at h;split at h
 ·cases h;exact⟨rfl,.inl rfl⟩
 ·cases h;exact⟨rfl,.inr rfl⟩
 ·cases h
theorem tu(hP:C.P=X.prog)(hw:C.w=X.w)(hK:C.K=X.K)(hF:Γ f=F)(hk:∀us r,F us=Od (.ok r)->us.length=np)
  (G:h_ X.prog X.w X.K X.mg X.base Ek k fa fd ps (Jm X.prog X.w X.K F np is)) (hr:eB k X.A) (hg:Gl X f) (hm:X.mg f=Od (.ref fa)) (HL:PySem.W.keepIn X.K (.ref fa)=OA) (hb:Binds X.K fd ps [])
  (Fd:(f==("__debug__":Str))=OE) (ha:PA X (e::es) (C1 C ms)) (he:O4 (e::es) X.env=(OE,Qx e X.env)::O4 es X.env) (Dv:(QC pos (O4 es X.env)).any (·.1)=OE) :
  PE X (.Call (.Name f p) (e::es) [] pos) (B3 C (ms >>= λrs=>ar rs >>= λ_=>l_ Γ f rs is)):=by
 rintro pins s σ H Q I ⟨c0,rfl,rfl,ok,h⟩;refine Qw (oG I hg hm ?_ Fd);refine PySem.W.callWith_K (h₀:=X.base) I.ok.mod.Iy HL (B6 (args ha I ok h pos) λus s1 ⟨rs,c,vs,t,I1,rv,w⟩=>⟨I1.FY,?_⟩) he Dv;obtain⟨r,st',e1,q⟩:=w;unfold l_ at e1;rw[hF]at e1;split at e1
 ·rename_i r0 e2;split at e1
  ·rename_i kd u ws eu;split at e1
   ·rename_i CO;split at e1
    ·rename_i st2 KD;cases e1;obtain⟨rfl,k1⟩:=tq eu;have k2:=hk _ _ e2;unfold l9 at CO;simp only[OD,O6,Xt,Qj,Qs]at CO;obtain⟨⟨h1,h2⟩,h3⟩:=CO;have Dk:∀p∈is,∃j xs k r,eZ rs p=Od j/\rs[p]?=Od (.bor j,.lst xs)/\bD xs=OA/\Kd.root k=OA/\c.st[j]?=Od (Od (k,.lst xs))/\c.σ[j]?=Od (Od (.ref r))/\vs[p]?=Od (.ref r)/\¬c.S r/\¬C.D9 r/\bW C c.S c.H r (.lst xs):=λp hp=>by
      obtain⟨j,hj⟩:=Up.mp (h1 p hp);obtain⟨xs,a1,a2⟩:=qV hj;obtain⟨v,b1,b2⟩:=t.LF a1;obtain⟨r,rfl,d1,d2,_,d3⟩:=t.ok.rootOf b2.1 b2.2;obtain⟨k,g1,g2⟩:=b2.1;exact⟨j,xs,k,r,hj,a1,a2,g1,g2,b2.2,b1,d1,d2,d3⟩
     let IO:OS->Prop:=λa=>∃p∈is,vs[p]?=Od (.ref a);have H_:∀a,IO a->c.R a/\¬c.S a/\¬C.D9 a/\DH c.H a:=λa Du=>by
      obtain⟨p,hp,e⟩:=Du;obtain⟨j,xs,k,r,_,_,_,g1,g2,g3,g4,g5,g6,g7⟩:=Dk p hp;rw[e]at g4;cases g4;obtain⟨o,ho,_⟩:=g7.some;exact⟨.inl ⟨j,k,_,g1,g2,g3⟩,g5,g6,o,ho⟩
     let Pr:OS->Prop:=λa=>DH c.H a/\¬IO a;have eqv:C.Eqv (EO X.prog X.w X.K c.H Pr IO):=⟨hP,hw,hK⟩
     have EK:(EO X.prog X.w X.K c.H Pr IO).Eqv C:=⟨hP.symm,hw.symm,hK.symm⟩
     have sP:∀a,c.S a->Pr a:=λa z=>⟨t.ok.sF a z,λz'=>(H_ a z').2.1 z⟩
     have gi:∀{i:Nat} {u:U},(rs.map (·.2))[i]?=Od u->∃k,rs[i]?=Od (k,u):=λ{i u} e=>by
      rw[OX,OM]at e;obtain⟨⟨k,u'⟩,e,rfl⟩:=e;exact⟨k,e⟩
     have arg:zg (EO X.prog X.w X.K c.H Pr IO) c.H is (rs.map (·.2)) vs:=by
      refine⟨by rw[OJ];exact t.len,λa z=>z,λa z=>(H_ a z).2.2.2,λi u hi e=>?_,λi u hi e=>?_,λi j r hi hj e3 e4=>?_,λa z=>z⟩
      ·obtain⟨j,xs,k,r,_,g0,gm,g1,g2,g3,g4,g5,g6,zs,g7,g8⟩:=Dk i hi;obtain⟨k',e⟩:=gi e;rw[g0]at e;cases e;exact⟨r,g4,⟨i,hi,g4⟩,zs,g7,(ai.Co gm g8).cg eqv⟩
      ·obtain⟨k',e⟩:=gi e;obtain⟨v,b1,b2⟩:=t.LF e;refine⟨v,b1,?_⟩;have EN:i<rs.length:=(OT.mp e).1;have LH:=(h3 i EN).resolve_left hi;rw[R3,e]at LH;refine Rep.cg eqv (u:=u) ?_;cases k' with
       |own =>
        obtain⟨r,rfl,_,d1,d2,d3⟩:=b2;obtain⟨o,ho,_⟩:=d3.some;exact d3.rep sP ⟨⟨o,ho⟩,λz=>d2 (H_ r z).1⟩
       |loc=>exact Rep.mv (.up sP) b2
       |any=>exact Rep.mv (.up λa z=>z.elim (λz=>⟨t.ok.Aj a (.inl z),λz'=>(H_ a z').2.2.1 z⟩) (sP a)) b2
       |bor j =>
        obtain⟨r,rfl,d1,d2,_,d3⟩:=t.ok.rootOf b2.1 b2.2;obtain⟨o,ho,_⟩:=d3.some;refine d3.rep sP ⟨⟨o,ho⟩,λ⟨p',LI,e'⟩=>?_⟩;obtain⟨j',xs,k2,r2,g,_,_,g1,g2,g3,g4,_⟩:=Dk p' LI;rw[e']at g4;cases g4;obtain⟨k3,z1,z2⟩:=b2.1;have:=t.ok.inj j j' k3 k2 _ _ r z1 g1 z2 g2 b2.2 g3;subst this;have:Od j∉is.map (eZ rs):=by simpa[sH] using LH
        exact this (PY.mpr ⟨p',LI,g⟩)
       |_=>exact b2.elim
      ·obtain⟨j1,_,k1,r1,a0,_,_,a1,a2,a3,a4,_⟩:=Dk i hi;obtain⟨j2,_,k2,r2,b0,_,_,b1,b2,b3,b4,_⟩:=Dk j hj;rw[e3]at a4;cases a4;rw[e4]at b4;cases b4;have:=t.ok.inj j1 j2 k1 k2 _ _ r a1 b1 a2 b2 a3 b3;subst this;exact map_inj h2 i hi j hj (by rw[a0,b0])
     have DE:Jm X.prog X.w X.K F np is vs c.H (λv H'=>Q v H') E0:=⟨by rw[<-t.len,<-k2,OJ],rs.map (·.2),kd,u,ws,Pr,IO,e2,k1,arg,λv H' S' hb=>by
      classical
      let H1:Hp:=λa=>if IO a then c.H a else H' a
      have Jn:∀a,¬IO a->H1 a=H' a:=λa z=>Xu z;have H9:∀a,S' a->¬IO a:=λa z z'=>by
       obtain⟨o,ho⟩:=(H_ a z').2.2.2;rw[(hb.new a z).1]at ho;cases ho
      have Ia:cX c.H H1:=λa o e=>by
       by_cases z:IO a
       ·show(if IO a then _ else _)=_;rw[Xs z];exact e
       ·rw[Jn a z];exact hb.same a o e z
      obtain⟨B5,n1⟩:=t.ok.grow (H':=H1) (S':=λa=>c.S a\/S' a) Ia (λa z=>z.imp id λz=>⟨(hb.new a z).1,by rw[Jn a (H9 a z)];exact(hb.new a z).2⟩) λa=>.inl;have Ib:∀(n i:Nat) (r:OS),is[n]?=Od i->vs[i]?=Od (.ref r)->∃w,ws[n]?=Od w/\bW (EO X.prog X.w X.K c.H Pr IO) S' H' r w:=λn i r a b=>by
       have hn:n<ws.length:=by rw[hb.len];exact(OT.mp a).1
       exact⟨_,O7 hn,hb.Dt n i r _ a b (O7 hn)⟩
      obtain⟨cf,f1,f2,f3,f4,f5,f6,f7,f8⟩:=pG (C:=C) EK (rs:=rs) (vs:=vs) (H':=H') (S':=S') (S1:=λa=>c.S a\/S' a) (λa=>.inr) (IO:=IO) H9 (λa o ⟨i,hi,z⟩ e=>by
        obtain⟨n,hn⟩:=List.getElem?_of_mem hi;obtain⟨w,_,g⟩:=Ib n i a hn z;obtain⟨o',g1,g2⟩:=g.some;rw[e]at g1;cases g1;exact g2) is ws {c with H:=H1,S:=λa=>c.S a\/S' a} st' B5 n1.toNs rfl KD h2 (λp hp a z=>⟨p,hp,z⟩) (λp hp j hj=>by
        obtain⟨j',xs,k,r,g0,_,_,g1,g2,g3,g4,_⟩:=Dk p hp;rw[hj]at g0;cases g0;exact⟨k,_,r,g1,g2,g3,g4⟩) (λn i r w a b d=>hb.Dt n i r w a b d) (λa ha=>Jn a λ⟨p,hp,z⟩=>ha p hp z) Jn
      subst f6;have NH:∀a,cf.R a->c.R a:=λa z=>by
       rcases z with⟨j,k,u,g1,g2,g3⟩|⟨j,u,r,g1,g2,g3⟩
       ·obtain⟨u0,g⟩:=f8 j k u g2;rw[f3]at g3;exact .inl ⟨j,k,u0,g1,g,g3⟩
       ·obtain⟨u0,g⟩:=f8 j .B1 u g1;rw[f3]at g2;rw[f7]at g3;exact .inr ⟨j,u0,r,g,g2,g3⟩
      refine q cf v (f3.trans t.hσ) f5 f1 ⟨t.nx.toNs.trans f2⟩ ?_;rcases k1 with rfl|rfl
      ·obtain⟨r,rfl,d1,d2,d3⟩:=hb.own rfl;obtain⟨_,z1,_,_,z4⟩:=t.ok.kJ d1;exact⟨r,rfl,t.nx.none d1,by rw[f4];exact λz=>z.elim z1 d2,λz=>z4 (NH r z),(d3.cg EK).mv (.up λa z=>by rw[f4];exact .inr z) λo q=>q⟩
      ·exact((hb.loc rfl).cg EK).mv (.up λa z=>by rw[f4];exact .inr z)⟩
     have z:=rM (Q:=Q) G hr hb .nil xo I1 rv (by rw[P8];exact DE);rw[t.hσ]at z;exact z
    ·cases e1
   ·cases e1
  ·cases e1
 ·cases e1
end
structure Ck where
 fns:List Str
 gl:List (Str×U)
 Dt:List (Str×List Nat)
def gn:U->U->Bool
 |.int i,.int j=>OI (i=j)
 |.str x,.str y=>OI (x=y)
 |.bl a,.bl b=>a==b
 |.BZ,.BZ=>OA
 |_,_=>OE
theorem bM(h:gn u v=OA):u=v:=by
 cases u<;>cases v<;>simp[gn]at h<;>subst_vars<;>rfl
def noStar:Pw->Bool
 |.Starred _ _=>OE
 |_=>OA
def gS:Pw->Bool
 |.Slice _ _ _ _=>OE
 |_=>OA
def nU:Pw->Bool
 |.Set _ _ _=>OE
 |_=>OA
def kR:Pw->Bool
 |.Call (.Name _ _) [] [] _=>OE
 |_=>OA
def cK:Pw->Bool
 |.ListComp _ _ _ _=>OE
 |.SetComp _ _ _ _=>OE
 |.DictComp _ _ _ _ _=>OE
 |_=>OA
def zh:Pw->Bool
 |.Tuple _ _ _=>OE
 |_=>OA
def DI(sc:Q0)(x:Str):Bool:=OI (sc.names.lookup x=Od .globalImplicit)
def kS(sc:Q0)(x:Str):Bool:=OI (sc.names.lookup x=Od .local)||decide (sc.names.lookup x=Od .cell)||decide (sc.names.lookup x=Od .free)
def mq(sc:Q0)(x:Str):Bool:=OI (sc.names.lookup x=Od .local)||decide (sc.names.lookup x=Od .cell)
def AL(sc:Q0)(x:Str):Bool:=OI (sc.names.lookup x=Od .local)
def b8(x:Str):Bool:=!(x==("__debug__":Str))&&!(x==("__classdict__":Str))
def pH(N:List Str)(sc:Q0)(fa:Bool)(i:Nat):Pw->Bool
 |.Name x _=>OI (N[i]?=Od x)&&mq sc x&&(fa||AL sc x)
 |_=>OE
def kU(N:List Str)(sc:Q0)(fa:Bool):List Nat->List Pw->Bool
 |[],[]=>OA
 |i::is,e::es=>pH N sc fa i e&&kU N sc fa is es
 |_,_=>OE
def eN:Pw->List Str
 |.Name x _=>[x]
 |.Tuple es _ _=>es.filterMap fun|.Name x _=>Od x|_=>OB
 |_=>[]
def hide(own N:List Str):List Str:=match own.filter λx=>OI (x∈N) with
 |[]=>N
 |[x]=>N.set (N.idxOf x) "."
 |x::y::_=>(N.set (N.idxOf x) ".").set (N.idxOf y) ".."
def G7(t:Bool)(N:List Str)(sc:Q0)(fa:Bool)(is:List Nat):Pw->Bool
 |.Name x p=>!t&&(match is with|[i]=>pH N sc fa i (.Name x p)|_=>OE)
 |.Tuple es _ _=>t&&kU N sc fa is es&&is.all λi=>OI (i<N.length)
 |_=>OE
def isTup:Pw->Bool
 |.Tuple _ _ _=>OA
 |_=>OE
def gp(e:Pw):Option (Str×List Pw):=match e with
 |.Call f as kw _=>match f with
  |.Name x _=>if kw.isEmpty=OA then Od (x,as) else OB
  |_=>OB
 |_=>OB
theorem dN(h:gp e=Od (x,as)):∃p q,e=.Call (.Name x p) as [] q:=by
 unfold gp at h;split at h
 ·split at h
  ·split at h
   ·rename_i hk;rw[Q6]at hk;cases h;subst hk;exact⟨_,_,rfl⟩
   ·cases h
  ·cases h
 ·cases h
def tv(e:Pw):Option Pw:=match e with
 |.Call f as kw q=>match f with
  |.Attribute a m p=>if kw.isEmpty=OA/\as.isEmpty=OA/\m="items"/\(p.endLine==q.line)=OA/\((gp a).any λz=>!z.2.isEmpty)=OA then Od a else OB
  |_=>OB
 |_=>OB
theorem nV(h:tv e=Od a):∃x p b as q p2 q2,a=.Call (.Name x p) (b::as) [] q/\e=.Call (.Attribute a "items" p2) [] [] q2/\(p2.endLine==q2.line)=OA:=by
 unfold tv at h;split at h
 ·split at h
  ·split at h
   ·rename_i hk;obtain⟨h1,h2,h3,h4,h5⟩:=hk;rw[Q6]at h1 h2;cases h;subst h1 h2 h3;cases hc:gp a with
    |none=>rw[hc]at h5;cases h5
    |some z =>
     rw[hc]at h5;obtain⟨x,as⟩:=z;obtain⟨p,q,rfl⟩:=dN hc;cases as with
     |nil=>cases h5
     |cons b as=>exact⟨_,_,_,_,_,_,_,rfl,rfl,h4⟩
   ·cases h
  ·cases h
 ·cases h
def dO(sc:Q0)(tg:Pw)(ik:Ik)(e:Pw):Option (List Pw):=match ik with
 |.seq=>Od [e]
 |.Cq=>(gp e).bind λp=>if p.1="range"/\DI sc p.1=OA/\p.2.length=1 then Od p.2 else OB
 |.G4=>(gp e).bind λp=>if p.1="enumerate"/\DI sc p.1=OA/\p.2.length=1/\isTup tg=OA then Od p.2 else OB
 |.HP=>(tv e).bind λa=>if isTup tg=OA then Od [a] else OB
 |_=>OB
def simple:Bf->Bool:=λ_=>OA
def zi(scope sc:Q0):Q0:={scope with names:=scope.names.map λ(n,k)=>if (k==QI&&sc.kind==.function&&sc.names.lookup n==Od .cell)=OA then(n,.cell) else(n,k)}
def bK(e:Pw)(k:Str->Bool):Bool:=match e with|.Name x _=>k x|_=>OE
theorem aw(h:bK e k=OA):∃x p,e=.Name x p/\k x=OA:=by
 unfold bK at h;split at h
 ·exact⟨_,_,rfl,h⟩
 ·cases h
def fM{α:Type}(l:List α)(k:α->Bool):Bool:=match l with|[a]=>k a|_=>OE
theorem bA(h:fM l k=OA):∃a,l=[a]/\k a=OA:=by
 unfold fM at h;split at h
 ·exact⟨_,rfl,h⟩
 ·cases h
def da(e:Pw)(k:Pw->List Pw->Pos->Bool):Bool:=match e with|.Call f as kw p=>kw.isEmpty&&k f as p|_=>OE
theorem aI(h:da e k=OA):∃f as p,e=.Call f as [] p/\k f as p=OA:=by
 unfold da at h;split at h
 ·rename_i f as kw p;rw[OD,Q6]at h;obtain⟨rfl,h⟩:=h;exact⟨_,_,_,rfl,h⟩
 ·cases h
def nW(e:Pw)(k:Pw->Str->Pos->Bool):Bool:=match e with|.Attribute o m p=>k o m p|_=>OE
theorem mr(h:nW e k=OA):∃o m p,e=.Attribute o m p/\k o m p=OA:=by
 unfold nW at h;split at h
 ·exact⟨_,_,_,rfl,h⟩
 ·cases h
def tw(e:Pw)(k:Pw->CmpOp->Pw->Bool):Bool:=match e with|.Compare a ops bs _=>fM ops λop=>fM bs λb=>k a op b|_=>OE
theorem iL(h:tw e k=OA):∃a op b p,e=.Compare a [op] [b] p/\k a op b=OA:=by
 unfold tw at h;split at h
 ·obtain⟨op,rfl,z1⟩:=bA h;obtain⟨b,rfl,z2⟩:=bA z1;exact⟨_,_,_,_,rfl,z2⟩
 ·cases h
def e_(e:Pw)(k:Pw->Str->Pos->List Pw->Pos->Bool):Bool:=da e λf as BW=>nW f λo m apos=>k o m apos as BW
theorem bB(h:e_ e k=OA):∃o m apos as BW,e=.Call (.Attribute o m apos) as [] BW/\k o m apos as BW=OA:=by
 obtain⟨f,as,p,rfl,h⟩:=aI h;obtain⟨o,m,q,rfl,h⟩:=mr h;exact⟨_,_,_,_,_,rfl,h⟩
def tB(e:Pw)(k:Pw->Pw->Bool):Bool:=match e with|.Subscript a b _=>k a b|_=>OE
theorem nX(h:tB e k=OA):∃a b p,e=.Subscript a b p/\k a b=OA:=by
 unfold tB at h;split at h
 ·exact⟨_,_,_,rfl,h⟩
 ·cases h
mutual
def aA(k:Ck):E->List Str->Q0->Pw->Bool
 |.var i,N,sc,e'=>match e' with
  |.Name x _=>OI (N[i]?=Od x)&&kS sc x&&b8 x
  |_=>OE
 |.cst u,N,sc,e'=>match e' with
  |.Constant (.int j) _ _=>gn u (.int j)
  |.Constant (.str y) _ _=>gn u (.str y)
  |.Constant (.bool y) _ _=>gn u (.bl y)
  |.Constant .none _ _=>gn u .BZ
  |_=>OE
 |.Jb _ _,_,_,_=>OE
 |.bin op a b,N,sc,e'=>match e' with
  |.BinOp a' G8 b' _=>OI (op.op=G8)&&aA k a N sc a'&&aA k b N sc b'
  |_=>OE
 |.cmp op a b,N,sc,e'=>tw e' λa' G8 b'=>OI (op.op=G8)&&!Vf G8 b'&&aA k a N sc a'&&aA k b N sc b'
 |.EF _ _ _ _ _,_,_,_=>OE
 |.and es,N,sc,e'=>match e' with
  |.BoolOp .And BY _=>aB k es N sc BY
  |_=>OE
 |.or es,N,sc,e'=>match e' with
  |.BoolOp .Or BY _=>aB k es N sc BY
  |_=>OE
 |.not a,N,sc,e'=>match e' with
  |.UnaryOp .Not a' _=>aA k a N sc a'
  |_=>OE
 |.ite c a b,N,sc,e'=>match e' with
  |.IfExp c' a' b' _=>aA k c N sc c'&&aA k a N sc a'&&aA k b N sc b'
  |_=>OE
 |.neg _,_,_,_=>OE
 |.bad,_,_,_=>OA
 |.pop i,N,sc,e'=>e_ e' λo m apos as BW=>bK o λx=>as.isEmpty&&OI (m="pop")&&OI (N[i]?=Od x)&&kS sc x&&b8 x&&(apos.endLine==BW.line)
 |.Dz i a,N,sc,e'=>e_ e' λo m apos as BW=>bK o λx=>fM as λa'=>OI (m="pop")&&OI (N[i]?=Od x)&&kS sc x&&b8 x&&(apos.endLine==BW.line)&&noStar a'&&aA k a N sc a'
 |.BV f es is,N,sc,e'=>da e' λf' BY _=>bK f' λx=>OI (x=f)&&OI ((f,is)∈k.Dt)&&DI sc x&&b8 x&&!BY.isEmpty&&aB k es N sc BY
 |.Jd _,_,_,_=>OE
 |.inD _ _ _,_,_,_=>OE
 |.Fj _ _ _,_,_,_=>OE
 |.Jc _,_,_,_=>OE
 |.Je _ _ _,_,_,_=>OE
 |.fst es,N,sc,e'=>OE
 |.DQ a T,N,sc,e'=>da e' λf' as _=>bK f' λx=>match as with
  |[a',b']=>bK b' λy=>OI (x="isinstance")&&OI (y=T.name)&&DI sc x&&DI sc y&&noStar a'&&aA k a N sc a'
  |_=>OE
 |.tup es,N,sc,e'=>match e' with
  |.Tuple BY _ _=>aB k es N sc BY
  |_=>OE
 |.lst es,N,sc,e'=>match e' with
  |.List BY _=>aB k es N sc BY
  |_=>OE
 |.C8 _,N,sc,e'=>match e' with
  |.Dict [] [] _=>OA
  |_=>OE
 |.idx a b,N,sc,e'=>match e' with
  |.Subscript a' b' _=>gS b'&&aA k a N sc a'&&aA k b N sc b'
  |_=>OE
 |.Eh a lo hi,N,sc,e'=>match e' with
  |.Subscript a' (.Slice NI C3 OB _) _=>aA k a N sc a'&&nY k lo N sc NI&&nY k hi N sc C3
  |_=>OE
 |.bi f es,N,sc,e'=>da e' λf' BY _=>bK f' λx=>OI (x=f.name)&&simple f&&DI sc x&&!BY.isEmpty&&aB k es N sc BY
 |.Fi f es,N,sc,e'=>da e' λf' as _=>bK f' λx=>fM as λc=>da c λg' BY _=>bK g' λy=>OI (x=f.kN)&&OI (y=f.fL)&&DI sc x&&DI sc y&&!BY.isEmpty&&aB k es N sc BY
 |.E1 m a es,N,sc,e'=>e_ e' λo name apos BY BW=>OI (name=m.name)&&kR o&&(apos.endLine==BW.line)&&!BY.isEmpty&&OI (BY.length<20)&&aA k a N sc o&&aB k es N sc BY
 |.call f es,N,sc,e'=>da e' λf' BY _=>bK f' λx=>OI (x=f)&&OI (f∈k.fns)&&DI sc x&&b8 x&&!BY.isEmpty&&aB k es N sc BY
 |.comp n t ik src cond e,N,sc,e'=>match e' with
  |.ListComp elt [⟨tg,iter,ifs,0⟩] scope _ =>
   OI ((eN tg).length=n)&&yq (eN tg++hide (eN tg) N) (eN tg) scope sc.names&&G7 t (eN tg++hide (eN tg) N) (zi scope sc) OE (O2 n) tg&&nU iter &&
   (match dO sc tg ik iter with
    |some as=>aB k src N sc as
    |none=>OE) &&
   OI (ifs.length<=1)&&aB k cond (eN tg++hide (eN tg) N) (zi scope sc) ifs&&aA k e (eN tg++hide (eN tg) N) (zi scope sc) elt
  |_=>OE
def aB(k:Ck):List E->List Str->Q0->List Pw->Bool
 |[],_,_,BY=>BY.isEmpty
 |e::es,N,sc,BY=>match BY with
  |e'::BY=>noStar e'&&aA k e N sc e'&&aB k es N sc BY
  |[]=>OE
def nY(k:Ck):List E->List Str->Q0->Option Pw->Bool
 |[],_,_,o=>o.isNone
 |[e],N,sc,o=>match o with
  |some e'=>aA k e N sc e'
  |none=>OE
 |_::_::_,_,_,_=>OE
end
def bg:List Str:=["len","sorted","repr","max","min","all","any","list","tuple","str","int","range","enumerate","zip","reversed","set","dict","sum","isinstance","bool"]
structure wz(P:PC)(w:P4)(K:PySem.W.Frag)(mg:Str->Option OH)(base:Qk)(d:Nat)(F:List U->Option (Ex (Kd×U)))(f:Str):Prop where
 ex:∃(np:Nat) (fa:OS) (fd:Sm) (ps:List Str),h_ P w K mg base Ek d fa fd ps (spT P w K F np)/\mg f=Od (.ref fa)/\PySem.W.keepIn K (.ref fa)=OA/\Binds K fd ps []/\∀us k u,F us=Od (.ok (k,u))->(k=.own\/k=.loc\/k=.any)/\us.length=np
structure wA(P:PC)(w:P4)(K:PySem.W.Frag)(mg:Str->Option OH)(base:Qk)(d:Nat)(F:List U->Option (Ex (Kd×U)))(f:Str)(is:List Nat):Prop where
 ex:∃(np:Nat) (fa:OS) (fd:Sm) (ps:List Str),h_ P w K mg base Ek d fa fd ps (Jm P w K F np is)/\mg f=Od (.ref fa)/\PySem.W.keepIn K (.ref fa)=OA/\Binds K fd ps []/\∀us r,F us=Od (.ok r)->us.length=np
structure Gd(ck:Ck)(Γ:Tab)(C:Ct)(d:Nat)(X:Cx):Prop where
 P:C.P=X.prog
 w:C.w=X.w
 K:C.K=X.K
 u:X.A.units+60<Qd
 calm:X.calm=OA
 room:eB d X.A
 blt:∀x∈bg,X.mg x=OB
 fns:∀f∈ck.fns,wz X.prog X.w X.K X.mg X.base d (Γ f) f
 Er:∀p∈ck.gl,∃val v,X.mg p.1=Od val/\RelV v val/\∀S H,Rep C S H p.2 v
 Dt:∀p∈ck.Dt,wA X.prog X.w X.K X.mg X.base d (Γ p.1) p.1 p.2
theorem Gd.cx(g:Gd ck Γ C d X)(N:List Str)(sc:Q0)(D:OS)(s:OR)(H:Hp)(ex:List OS):Gd ck Γ C d (CN X N sc D s H ex) :=
 ⟨g.P,g.w,g.K,g.u,g.calm,g.room,g.blt,g.fns,g.Er,g.Dt⟩
theorem dP(h:kS sc x=OA):EU sc x:=by
 unfold kS at h;simp only[Qj,Xt]at h;rcases h with(h|h)|h
 ·exact .inl h
 ·exact .inr (.inl h)
 ·exact .inr (.inr h)
theorem br(h:b8 x=OA):(x==("__debug__":Str))=OE/\(x==("__classdict__":Str))=OE:=by
 unfold b8 at h;simpa using h
theorem bx(h:noStar e=OA):O4 (e::es) env=(OE,Qx e env)::O4 es env:=by
 cases e<;>first|rfl|cases h
theorem mw(h:gS e=OA):j_ e:=by
 intro o i;cases e<;>first|rfl|cases h
theorem nZ(h:nU e=OA):∀x,QD e env x=pure x:=by
 intro x;cases e<;>first|rfl|cases h
theorem gT(h:kR o=OA):RV o name env wh=wh:=by
 cases o with
 |Call f as ks p =>
  cases f with
  |Name x q=>cases as with
   |nil=>cases ks with
    |nil=>cases h
    |cons _ _=>rfl
   |cons _ _=>rfl
  |_=>rfl
 |_=>rfl
theorem bp(h:∀e∈es,noStar e=OA):(QC pos (O4 es env)).any (·.1)=OE/\(QC pos (O4 es env)).all (λx=>!x.1)=OA:=by
 induction es with
 |nil=>exact⟨rfl,rfl⟩
 |cons e es ih =>
  rw[bx (h e (by simp))];have:=ih λe' he=>h e' (by simp[he]);constructor
  ·show(OE||(QC pos (O4 es env)).any (·.1))=OE;rw[this.1];rfl
  ·show(!OE&&(QC pos (O4 es env)).all (λx=>!x.1))=OA;rw[this.2];rfl
theorem b9(h:aB k es N sc BY=OA):∀e∈BY,noStar e=OA:=by
 induction es generalizing BY with
 |nil =>
  cases BY with
  |nil=>intro e he;cases he
  |cons _ _=>simp[aB]at h
 |cons x es ih =>
  cases BY with
  |nil=>intro e he;cases he
  |cons e' BY =>
   simp only[aB,OD]at h;intro e he;rcases OV.mp he with rfl|he
   ·exact h.1.1
   ·exact ih h.2 e he
theorem jH(E3:fa=OA->∀x,X.fn x=OA)(h:pH X.N X.env.scope fa i e=OA):nQ X e i:=by
 cases e with
 |Name x p =>
  simp only[pH,OD,Xt,mq,Qj,AL]at h;refine⟨x,p,rfl,h.1.1,?_,?_⟩
  ·rcases h.1.2 with z|z
   ·exact .inl z
   ·exact .inr z
  ·rcases h.2 with z|z
   ·exact .inl (E3 z x)
   ·exact .inr z
 |_=>cases h
theorem iM(E3:fa=OA->∀x,X.fn x=OA):∀{is:List Nat}{es:List Pw},kU X.N X.env.scope fa is es=OA->c9 X es is
 |[],[],_=>.nil
 |[],_::_,h=>by cases h
 |_::_,[],h=>by cases h
 |i::is,e::es,h=>by
  simp only[kU,OD]at h;exact .cons (jH E3 h.1) (iM E3 h.2)
theorem pI(hc:X.calm=OA)(hK:C.K=X.K)(hN:X.N.Nodup)(E3:fa=OA->∀x,X.fn x=OA)(h:G7 t X.N X.env.scope fa is tg=OA):PG X tg (tG C t is):=by
 cases tg with
 |Name x p =>
  simp only[G7,OD,P6]at h;obtain⟨rfl,h⟩:=h;cases is with
  |nil=>cases h
  |cons i is=>cases is with
   |nil=>exact za hN (jH E3 h)
   |cons _ _=>cases h
 |Tuple es k p =>
  simp only[G7,OD,O6,Xt]at h;obtain⟨⟨rfl,h1⟩,h2⟩:=h;exact Au hc hK hN (iM E3 h1) h2
 |_=>cases h
theorem jI(own N:List Str):cM ((own++hide own N).drop own.length) N:=by
 rw[TZ rfl];unfold hide;split
 ·exact .refl N
 ·exact(cM.refl N).set _ (.inl rfl)
 ·exact((cM.refl N).set _ (.inl rfl)).set _ (.inr rfl)
def Bf.Ol:Bf->Bool
 |.sum=>OA
 |.len=>OA|.sorted=>OA|.repr=>OA|.max=>OA|.min=>OA|.all=>OA|.any=>OA|_=>OE
def Bf.id:Bf->String
 |.len=>"len"|.sorted=>"sorted"|.repr=>"repr"|.max=>"max"|.min=>"min"|.all=>"all"|.any=>"any"
 |.list=>"list"|.tuple=>"tuple"|.str=>"str"|.int=>"int"
 |.sum=>"sum"
theorem wB:∀f:Bf,simple f=OA->Qh f.name=Od f.val/\f.name∈bg/\f.name≠"__name__"/\(f.name==("__debug__":Str))=OE:=by
 intro f h;cases f<;>first|exact⟨by decide +kernel,by decide +kernel,by decide +kernel,by decide +kernel⟩|(cases h;done)
theorem zj:∀f:Bf,simple f=OA->(f.val=.builtin f.id\/f.val=.type f.id):=by
 intro f h;cases f<;>first|exact .inl rfl|exact .inr rfl|(cases h;done)
theorem zk:∀f:B2,f.kN∈bg/\f.fL∈bg:=by
 intro f;cases f<;>exact⟨by decide +kernel,by decide +kernel⟩
theorem wC:∀f:Mf,Slot "str" f.name f.id/\Vt (.builtin f.id)=pure (.type "method_descriptor"):=by
 intro f;cases f with
 |split=>exact⟨PySem.F.slot_str_split,PySem.F.type_str_split⟩
 |join=>exact⟨PySem.F.slot_str_join,PySem.F.type_str_join⟩
 |partition=>exact⟨PySem.F.slot_str_partition,PySem.F.type_str_partition⟩
 |endswith=>exact⟨PySem.F.slot_str_endswith,PySem.F.type_str_endswith⟩
section
theorem di(h:DI X.env.scope x=OA):Gl X x:=by
 unfold DI at h;show X.env.kindOf x=Od .globalImplicit;exact of_decide_eq_true h
theorem wD:("enumerate":Str)∈bg:=by decide +kernel
theorem mz:("isinstance":Str)∈bg:=by decide +kernel
theorem tD(T:Dy):T.name∈bg:=by cases T<;>decide +kernel
theorem wF:("range":Str)∈bg:=by decide +kernel
theorem xy(g:Gd ck Γ C d X)(h:dO X.env.scope tg ik iter=Od as)(hL:PA X as (C1 C (ba Γ src)))(h1:∀a,as=[a]->∃e,src=[e]/\PE X a (B3 C (ev Γ e)))(B_:∀e∈as,noStar e=OA):PI X tg iter (EL C ik (ba Γ src)):=by
 unfold dO at h;split at h
 ·cases h;obtain⟨e,rfl,he⟩:=h1 _ rfl;exact y8 g.K he
 ·rw[Pk]at h;obtain⟨⟨x,bs⟩,hc,h⟩:=h;split at h
  ·rename_i hh;cases h;obtain⟨e1,hg,hl⟩:=hh
   dsimp only at e1 hg hl
   subst e1;obtain⟨p,q,rfl⟩:=dN hc;obtain⟨b,rfl⟩:=US.mp hl;exact wo (di hg) (g.blt _ wF) (bx (B_ _ (by simp))) hL
  ·cases h
 ·rw[Pk]at h;obtain⟨⟨x,bs⟩,hc,h⟩:=h;split at h
  ·rename_i hh;cases h;obtain⟨e1,hg,hl,ht⟩:=hh
   dsimp only at e1 hg hl
   subst e1;obtain⟨p,q,rfl⟩:=dN hc;obtain⟨b,rfl⟩:=US.mp hl;cases tg with
   |Tuple es kx ps=>exact y9 g.K (di hg) (g.blt _ wD) (bx (B_ _ (by simp))) hL
   |_=>cases ht
  ·cases h
 ·rw[Pk]at h;obtain⟨a,hc,h⟩:=h;split at h
  ·rename_i ht;cases h;obtain⟨e,rfl,he⟩:=h1 _ rfl;obtain⟨x,p,b,bs,q,p2,q2,rfl,rfl,hl⟩:=nV hc;cases tg with
   |Tuple es kx ps=>exact y_ rfl hl he
   |_=>cases ht
  ·cases h
 ·cases h
theorem PT.eqv(h:PT X e (C0 C m))(i:∀st Q,W m' st Q->W m st Q):PT X e (C0 C m'):=PT.weak h λσ H Q ⟨c0,e1,e2,ok,w⟩=>⟨c0,e1,e2,ok,i _ _ w⟩
theorem AM(g:Gd ck Γ C d X)(hL:PA X BY (C1 C (ba Γ es)))
  (h:(OI (x=f.name)&&simple f&&DI X.env.scope x&&!BY.isEmpty&&aB ck es X.N X.env.scope BY)=OA):PE X (.Call (.Name x p) BY [] pos) (B3 C (ev Γ (.bi f es))):=by
 simp only[OD,Xt,P6]at h;obtain⟨⟨⟨⟨rfl,h1⟩,h2⟩,h3⟩,h4⟩:=h;obtain⟨b1,b2,b3,b4⟩:=wB f h1;have hS:=b9 h4;cases BY with
 |nil=>cases h3
 |cons e0 DJ =>
  have st:=bx (env:=X.env) (es:=DJ) (hS e0 (by simp));have sn:=(bp (pos:=pos) (env:=X.env) (es:=DJ) λe he=>hS e (by simp[he])).1;rcases zj f h1 with hv|hv
  ·exact wb g.calm g.K g.room.gd g.u hv (di h2) (g.blt _ b2) (by rw[b1,hv]) b3 b4 hL st sn
  ·exact wc g.calm g.K g.room.gd g.u hv (di h2) (g.blt _ b2) (by rw[b1,hv]) b3 b4 hL st sn
theorem xA(g:Gd ck Γ C d X)(hL:PA X BY (C1 C (ba Γ es)))
  (h:(OI (x=f.kN)&&OI (y=f.fL)&&DI X.env.scope x&&DI X.env.scope y&&!BY.isEmpty&&aB ck es X.N X.env.scope BY)=OA):PE X (.Call (.Name x p) [.Call (.Name y p2) BY [] pos2] [] pos) (B3 C (ev Γ (.Fi f es))):=by
 simp only[OD,Xt,P6]at h;obtain⟨⟨⟨⟨⟨rfl,rfl⟩,h1⟩,h2⟩,h3⟩,h4⟩:=h;obtain⟨b1,b2⟩:=zk f;have hS:=b9 h4;cases BY with
 |nil=>cases h3
 |cons e0 DJ =>
  have st:=bx (env:=X.env) (es:=DJ) (hS e0 (by simp));have sn:=(bp (pos:=pos2) (env:=X.env) (es:=DJ) λe he=>hS e (by simp[he])).1;exact wm g.calm g.K (di h1) (g.blt _ b1) (di h2) (g.blt _ b2) hL st sn
theorem xB(g:Gd ck Γ C d X)(ha:PE X o (B3 C (ev Γ a)))(hL:PA X BY (C1 C (ba Γ es)))
  (h:(OI (name=m.name)&&kR o&&(apos.endLine==BW.line)&&!BY.isEmpty&&OI (BY.length<20)&&aA ck a X.N X.env.scope o&&aB ck es X.N X.env.scope BY)=OA):PE X (.Call (.Attribute o name apos) BY [] BW) (B3 C (ev Γ (.E1 m a es))):=by
 simp only[OD,Xt,P6]at h;obtain⟨⟨⟨⟨⟨⟨rfl,h1⟩,h2⟩,h3⟩,h4⟩,h5⟩,h6⟩:=h;have hS:=b9 h6;obtain⟨s1,s2⟩:=wC m;cases BY with
 |nil=>cases h3
 |cons e0 DJ =>
  have st:=bx (env:=X.env) (es:=DJ) (hS e0 (by simp));have sn:=(bp (pos:=BW) (env:=X.env) (es:=DJ) λe he=>hS e (by simp[he])).1;have sa:=(bp (pos:=BW) (env:=X.env) (es:=e0::DJ) hS).2;refine wg g.K s1 s2 ha hL (gT h1) ?_ h2 st sn;rw[sa];have:(e0::DJ).length+([]:List RX).length+(if ([]:List RX).isEmpty=OA then 0 else 1)<30:=by simp at h4 ⊢;omega
  simp only[Xw this];rfl
theorem tE(g:Gd ck Γ C d X)(hL:PA X BY (C1 C (ba Γ es)))
  (h:(OI (x=f)&&OI (f∈ck.fns)&&DI X.env.scope x&&b8 x&&!BY.isEmpty&&aB ck es X.N X.env.scope BY)=OA):PE X (.Call (.Name x p) BY [] pos) (B3 C (ev Γ (.call f es))):=by
 simp only[OD,Xt,P6]at h;obtain⟨⟨⟨⟨⟨rfl,h1⟩,h2⟩,h3⟩,h4⟩,h5⟩:=h;have hS:=b9 h5;obtain⟨np,fa,fd,ps,q1,q2,q3,q4,q5⟩:=(g.fns _ h1).ex;cases BY with
 |nil=>cases h4
 |cons e0 DJ =>
  have st:=bx (env:=X.env) (es:=DJ) (hS e0 (by simp));have sn:=(bp (pos:=pos) (env:=X.env) (es:=DJ) λe he=>hS e (by simp[he])).1;exact sU g.P g.w g.K rfl q5 q1 g.room (di h2) q2 q3 q4 (br h3).1 hL st sn
theorem zl(g:Gd ck Γ C d X)(hL:PA X BY (C1 C (ba Γ es)))
  (h:(OI (x=f)&&OI ((f,is)∈ck.Dt)&&DI X.env.scope x&&b8 x&&!BY.isEmpty&&aB ck es X.N X.env.scope BY)=OA):PE X (.Call (.Name x p) BY [] pos) (B3 C (ev Γ (.BV f es is))):=by
 simp only[OD,Xt,P6]at h;obtain⟨⟨⟨⟨⟨rfl,h1⟩,h2⟩,h3⟩,h4⟩,h5⟩:=h;have hS:=b9 h5;obtain⟨np,fa,fd,ps,q1,q2,q3,q4,q5⟩:=(g.Dt _ h1).ex;cases BY with
 |nil=>cases h4
 |cons e0 DJ =>
  have st:=bx (env:=X.env) (es:=DJ) (hS e0 (by simp));have sn:=(bp (pos:=pos) (env:=X.env) (es:=DJ) λe he=>hS e (by simp[he])).1;exact tu g.P g.w g.K rfl q5 q1 g.room (di h2) q2 q3 q4 (br h3).1 (wy hL) st sn
theorem bT(h:(b&&aB k es N sc BY)=OA):aB k es N sc BY=OA:=(Qz.mp h).2
mutual
theorem bq:∀(e:E) (X:Cx) (e':Pw),Gd ck Γ C d X->aA ck e X.N X.env.scope e'=OA->PE X e' (B3 C (ev Γ e))
 |.var i,X,e',g,h=>by
  simp only[aA]at h;split at h
  ·simp only[OD,Xt]at h;obtain⟨h3,h4⟩:=br h.2;exact pq h.1.1 (dP h.1.2) h3 h4
  ·cases h
 |.cst u,X,e',g,h=>by
  simp only[aA]at h;split at h
  ·have:=bM h;subst this;exact fJ rp λ_ _=>rfl
  ·have:=bM h;subst this;exact fJ rz λ_ _=>rfl
  ·have:=bM h;subst this;exact fJ xl λ_ _=>rfl
  ·have:=bM h;subst this;exact fJ rq λ_ _=>rfl
  ·cases h
 |.Jb x u,X,e',g,h=>absurd h (by simp[aA])
 |.bin op a b,X,e',g,h=>by
  simp only[aA]at h;split at h
  ·simp only[OD,Xt]at h;obtain⟨⟨rfl,h1⟩,h2⟩:=h;exact vV g.K (bq a X _ g h1) (bq b X _ g h2)
  ·cases h
 |.cmp op a b,X,e',g,h=>by
  simp only[aA]at h;obtain⟨a',G8,b',p0,rfl,z1⟩:=iL h;have h:=z1;simp only[OD,Xt,P6]at h;obtain⟨⟨⟨rfl,h0⟩,h1⟩,h2⟩:=h;exact vW g.P g.w g.K g.u (bq a X _ g h1) (bq b X _ g h2) h0
 |.EF o1 o2 a b c,X,e',g,h=>absurd h (by simp[aA])
 |.and es,X,e',g,h=>by
  simp only[aA]at h;split at h
  ·exact tF es X _ g h
  ·cases h
 |.or es,X,e',g,h=>by
  simp only[aA]at h;split at h
  ·exact xC es X _ g h
  ·cases h
 |.not a,X,e',g,h=>by
  simp only[aA]at h;split at h
  ·exact vY (bq a X _ g h)
  ·cases h
 |.neg a,X,e',g,h=>absurd h (by simp[aA])
 |.bad,X,e',g,h=>λpins s σ H Q I ⟨_,_,_,_,w⟩=>(aq.mp w).elim
 |.pop i,X,e',g,h=>by
  simp only[aA]at h;obtain⟨o,m,apos,as,BW,rfl,z1⟩:=bB h;obtain⟨x,px,rfl,z2⟩:=aw z1;simp only[OD,Xt,Q6]at z2;obtain⟨⟨⟨⟨⟨rfl,rfl⟩,h1⟩,h2⟩,h3⟩,h4⟩:=z2;obtain⟨q1,q2⟩:=br h3;exact wu h1 (dP h2) q1 q2 h4 g.K
 |.Dz i a,X,e',g,h=>by
  simp only[aA]at h;obtain⟨o,m,apos,as,BW,rfl,z1⟩:=bB h;obtain⟨x,px,rfl,z2⟩:=aw z1;obtain⟨a',rfl,z3⟩:=bA z2;simp only[OD,Xt]at z3;obtain⟨⟨⟨⟨⟨⟨rfl,h1⟩,h2⟩,h3⟩,h4⟩,h5⟩,h6⟩:=z3;obtain⟨q1,q2⟩:=br h3;have sa:=bp (pos:=BW) (env:=X.env) (es:=[a']) λe he=>by rw[O1.mp he];exact h5
  exact tm g.K h1 (dP h2) q1 q2 (bq a X _ g h6) (by rw[sa.2];rfl) h4 (bx h5)
 |.BV f es is,X,e',g,h=>by
  simp only[aA]at h;obtain⟨f',as,p0,rfl,z1⟩:=aI h;obtain⟨x,p1,rfl,z2⟩:=aw z1;exact zl g (fN es X _ g (bT z2)) z2
 |.Jd i,X,e',g,h=>λpins s σ H Q I ⟨_,_,_,_,w⟩=>(aq.mp w).elim
 |.inD neg a i,X,e',g,h=>λpins s σ H Q I ⟨_,_,_,_,w⟩=>(aq.mp w).elim
 |.Jc i,X,e',g,h=>λpins s σ H Q I ⟨_,_,_,_,w⟩=>(aq.mp w).elim
 |.Fj i a b,X,e',g,h=>λpins s σ H Q I ⟨_,_,_,_,w⟩=>(aq.mp w).elim
 |.Je ln a b,X,e',g,h=>λpins s σ H Q I ⟨_,_,_,_,w⟩=>(aq.mp w).elim
 |.fst es,X,e',g,h=>λpins s σ H Q I ⟨_,_,_,_,w⟩=>(aq.mp w).elim
 |.DQ a T,X,e',g,h=>by
  simp only[aA]at h;obtain⟨f',as,p0,rfl,z1⟩:=aI h;obtain⟨x,p1,rfl,z2⟩:=aw z1;clear h z1;split at z2
  ·obtain⟨y,p2,rfl,z3⟩:=aw z2;have h:=z3;simp only[OD,Xt]at h;obtain⟨⟨⟨⟨⟨rfl,rfl⟩,h1⟩,h2⟩,h3⟩,h4⟩:=h;exact pB g.K (di h1) (g.blt _ mz) (di h2) (g.blt _ (tD T)) (bq a X _ g h4) (bx h3)
  ·cases z2
 |.ite c a b,X,e',g,h=>by
  simp only[aA]at h;split at h
  ·simp only[OD]at h;exact vZ (jn c X _ g h.1.1) (bq a X _ g h.1.2) (bq b X _ g h.2)
  ·cases h
 |.tup es,X,e',g,h=>by
  simp only[aA]at h;split at h
  ·exact v8 (fN es X _ g h)
  ·cases h
 |.lst es,X,e',g,h=>by
  simp only[aA]at h;split at h
  ·exact v9 (fN es X _ g h)
  ·cases h
 |.C8 r,X,e',g,h=>by
  simp only[aA]at h;split at h
  ·exact sT g.P g.w r
  ·cases h
 |.idx a b,X,e',g,h=>by
  simp only[aA]at h;split at h
  ·simp only[OD]at h;exact pv g.K g.u (mw h.1.1) (bq a X _ g h.1.2) (bq b X _ g h.2)
  ·cases h
 |.Eh a lo hi,X,e',g,h=>by
  simp only[aA]at h;split at h
  ·simp only[OD]at h;exact wa g.K (bq a X _ g h.1.1) (AN lo X _ g h.1.2) (AN hi X _ g h.2)
  ·cases h
 |.bi f es,X,e',g,h=>by
  simp only[aA]at h;obtain⟨f',as,p0,rfl,z1⟩:=aI h;obtain⟨x,p1,rfl,z2⟩:=aw z1;have h:=z2;exact AM g (fN es X _ g (bT h)) h
 |.Fi f es,X,e',g,h=>by
  simp only[aA]at h;obtain⟨f',as,p0,rfl,z1⟩:=aI h;obtain⟨x,p1,rfl,z2⟩:=aw z1;obtain⟨c,rfl,z3⟩:=bA z2;obtain⟨g',Gk,p2,rfl,z4⟩:=aI z3;obtain⟨y,p3,rfl,z5⟩:=aw z4;have h:=z5;exact xA g (fN es X _ g (bT h)) h
 |.E1 m a es,X,e',g,h=>by
  simp only[aA]at h;obtain⟨o,name,apos,as,BW,rfl,z1⟩:=bB h;have h:=z1;have h':=h;simp only[OD]at h';exact xB g (bq a X _ g h'.1.2) (fN es X _ g (bT h)) h
 |.call f es,X,e',g,h=>by
  simp only[aA]at h;obtain⟨f',as,p0,rfl,z1⟩:=aI h;obtain⟨x,p1,rfl,z2⟩:=aw z1;have h:=z2;exact tE g (fN es X _ g (bT h)) h
 |.comp n t ik src cond e,X,e',g,h=>by
  simp only[aA]at h;split at h
  ·rename_i elt tg iter ifs scope _;simp only[OD,Xt]at h;obtain⟨⟨⟨⟨⟨⟨⟨h1,h2⟩,h3⟩,h4⟩,h5⟩,h6⟩,h7⟩,h8⟩:=h;subst h1;have S:=sg (X:=X) rfl (jI _ _) h2;split at h5
   ·rename_i as has;have B_:=b9 h5;have hI:PI X tg iter (EL C ik (ba Γ src)):=xy g has (fN src X _ g h5) (λa e=>by
     subst e;cases src with
     |nil=>simp[aB]at h5
     |cons e1 CG =>
      cases CG with
      |nil =>
       simp only[aB,OD]at h5;exact⟨e1,rfl,bq e1 X _ g h5.1.2⟩
      |cons _ _=>simp[aB]at h5) B_
    exact td S g.calm hI (λD s H ex=>pI (fa:=OE) g.calm g.K S.nd (λz=>nomatch z) h3)
     (λD s H ex=>by
      cases ifs with
      |nil =>
       cases cond with
       |nil=>exact λpins s σ H Q I ⟨c0,e1,e2,ok,w⟩=>oN pins s σ H Q I (by subst e1 e2;rw[show aS Γ []=pure OA from rfl,aj]at w;exact w c0 rfl rfl ok (Nx.refl c0))
       |cons _ _=>simp[aB]at h7
      |cons c1 cs =>
       cases cs with
       |nil =>
        cases cond with
        |nil=>simp[aB]at h7
        |cons e1 CG =>
         cases CG with
         |nil =>
          simp only[aB,OD]at h7;exact oO (jn e1 (CN X _ scope D s H ex) c1 (g.cx _ _ _ _ _ _) h7.1.2)
         |cons _ _=>simp[aB]at h7
       |cons _ _=>simp at h6)
     (λD s H ex=>bq e (CN X _ scope D s H ex) elt (g.cx _ _ _ _ _ _) h8) (nZ h4)
   ·cases h5
  ·cases h
theorem fN:∀(es:List E) (X:Cx) (BY:List Pw),Gd ck Γ C d X->aB ck es X.N X.env.scope BY=OA->PA X BY (C1 C (ba Γ es))
 |[],X,BY,g,h=>by
  cases BY with
  |nil=>exact v7
  |cons _ _=>simp[aB]at h
 |e::es,X,BY,g,h=>by
  cases BY with
  |nil=>simp[aB]at h
  |cons e' BY =>
   simp only[aB,OD]at h;exact sQ (bq e X e' g h.1.2) (fN es X BY g h.2) (bx h.1.1)
theorem AN:∀(es:List E) (X:Cx) (o:Option Pw),Gd ck Γ C d X->nY ck es X.N X.env.scope o=OA->PO X o (tO C (Gr Γ es))
 |[],X,o,g,h=>by
  cases o with
  |none=>exact qN
  |some _=>simp[nY]at h
 |[e],X,o,g,h=>by
  cases o with
  |none=>simp[nY]at h
  |some e'=>simp only[nY]at h;exact qO (bq e X e' g h)
 |_::_::_,X,o,g,h=>by simp[nY]at h
theorem tF:∀(es:List E) (X:Cx) (BY:List Pw),Gd ck Γ C d X->aB ck es X.N X.env.scope BY=OA->∀{pos},PE X (.BoolOp .And BY pos) (B3 C (fH Γ es))
 |[],X,BY,g,h,pos=>λpins s σ H Q I ⟨_,_,_,_,w⟩=>(aq.mp w).elim
 |[e],X,BY,g,h,pos=>by
  cases BY with
  |nil=>simp[aB]at h
  |cons e' BY =>
   cases BY with
   |nil=>simp only[aB,OD]at h;exact rA (bq e X e' g h.1.2)
   |cons _ _=>simp[aB]at h
 |e::e1::es,X,BY,g,h,pos=>by
  cases BY with
  |nil=>simp[aB]at h
  |cons e' BY =>
   have h':noStar e'=OA/\aA ck e X.N X.env.scope e'=OA/\aB ck (e1::es) X.N X.env.scope BY=OA:=by
    rw[aB]at h;simp only[OD]at h;exact⟨h.1.1,h.1.2,h.2⟩
   cases BY with
   |nil=>have:=h'.2.2;simp[aB]at this
   |cons e2 Fh=>exact snd_and (bq e X e' g h'.2.1) (tF (e1::es) X _ g h'.2.2)
theorem xC:∀(es:List E) (X:Cx) (BY:List Pw),Gd ck Γ C d X->aB ck es X.N X.env.scope BY=OA->∀{pos},PE X (.BoolOp .Or BY pos) (B3 C (yL Γ es))
 |[],X,BY,g,h,pos=>λpins s σ H Q I ⟨_,_,_,_,w⟩=>(aq.mp w).elim
 |[e],X,BY,g,h,pos=>by
  cases BY with
  |nil=>simp[aB]at h
  |cons e' BY =>
   cases BY with
   |nil=>simp only[aB,OD]at h;exact rA (bq e X e' g h.1.2)
   |cons _ _=>simp[aB]at h
 |e::e1::es,X,BY,g,h,pos=>by
  cases BY with
  |nil=>simp[aB]at h
  |cons e' BY =>
   have h':noStar e'=OA/\aA ck e X.N X.env.scope e'=OA/\aB ck (e1::es) X.N X.env.scope BY=OA:=by
    rw[aB]at h;simp only[OD]at h;exact⟨h.1.1,h.1.2,h.2⟩
   cases BY with
   |nil=>have:=h'.2.2;simp[aB]at this
   |cons e2 Fh=>exact yR (bq e X e' g h'.2.1) (xC (e1::es) X _ g h'.2.2)
theorem jn:∀(e:E) (X:Cx) (e':Pw),Gd ck Γ C d X->aA ck e X.N X.env.scope e'=OA->PT X e' (C0 C (Cc Γ e))
 |.and es,X,e',g,h=>by
  simp only[aA]at h;split at h
  ·exact(pJ es X _ g h).pt
  ·cases h
 |.or es,X,e',g,h=>by
  simp only[aA]at h;split at h
  ·exact(tH es X _ g h).pt
  ·cases h
 |.not a,X,e',g,h=>by
  simp only[aA]at h;split at h
  ·exact v3 (jn a X _ g h)
  ·cases h
 |.cmp op a b,X,e',g,h=>by
  simp only[aA]at h;obtain⟨a',G8,b',p0,rfl,z1⟩:=iL h;have h:=z1;simp only[OD,Xt,P6]at h;obtain⟨⟨⟨rfl,h0⟩,h1⟩,h2⟩:=h;exact vX g.P g.w g.K g.u (bq a X _ g h1) (bq b X _ g h2) h0
 |.EF o1 o2 a b c,X,e',g,h=>absurd h (by simp[aA])
 |.var i,X,e',g,h=>by
  have hE:PE X e' (B3 C (ev Γ (.var i))):=by
   have h':=h;simp only[aA]at h';split at h'
   ·simp only[OD,Xt]at h';obtain⟨h3,h4⟩:=br h'.2;exact pq h'.1.1 (dP h'.1.2) h3 h4
   ·cases h'
  simp only[aA]at h;split at h
  ·exact cJ hE g.K λ_=>rfl
  ·cases h
 |.idx a b,X,e',g,h=>by
  simp only[aA]at h;split at h
  ·simp only[OD]at h;have hE:=pv (pos:=by assumption) g.K g.u (mw h.1.1) (bq a X _ g h.1.2) (bq b X _ g h.2);refine PT.eqv (cJ hE g.K λ_=>rfl) λst Q w=>?_;simp only[Cc,af]at w ⊢;exact w
  ·cases h
 |.bi f es,X,e',g,h=>by
  simp only[aA]at h;obtain⟨f',as,p0,rfl,z1⟩:=aI h;obtain⟨x,p1,rfl,z2⟩:=aw z1;have h:=z2;refine PT.eqv (cJ (AM g (fN es X _ g (bT h)) h) g.K λ_=>rfl) λst Q w=>?_;simp only[Cc,ev,af]at w ⊢;exact w
 |.Fi f es,X,e',g,h=>by
  simp only[aA]at h;obtain⟨f',as,p0,rfl,z1⟩:=aI h;obtain⟨x,p1,rfl,z2⟩:=aw z1;obtain⟨c,rfl,z3⟩:=bA z2;obtain⟨g',Gk,p2,rfl,z4⟩:=aI z3;obtain⟨y,p3,rfl,z5⟩:=aw z4;have h:=z5;refine PT.eqv (cJ (xA g (fN es X _ g (bT h)) h) g.K λ_=>rfl) λst Q w=>?_;simp only[Cc,ev,af]at w ⊢;exact w
 |.E1 m a es,X,e',g,h=>by
  simp only[aA]at h;obtain⟨o,name,apos,as,BW,rfl,z1⟩:=bB h;have h:=z1;have h':=h;simp only[OD]at h';refine PT.eqv (cJ (xB g (bq a X _ g h'.1.2) (fN es X _ g (bT h)) h) g.K λ_=>rfl) λst Q w=>?_;simp only[Cc,ev,af]at w ⊢;exact w
 |.call f es,X,e',g,h=>by
  simp only[aA]at h;obtain⟨f',as,p0,rfl,z1⟩:=aI h;obtain⟨x,p1,rfl,z2⟩:=aw z1;have h:=z2;refine PT.eqv (cJ (tE g (fN es X _ g (bT h)) h) g.K λ_=>rfl) λst Q w=>?_;simp only[Cc,ev,af]at w ⊢;exact w
 |.cst u,X,e',g,h=>by
  have go:∀{v:V},PE X e' (tC v)->(∀S H,Rep C S H u v)->(∀whole,isTrue e' X.env whole=(do let v <-whole;UL e'.pos;RH [v] (Wg v)))->PT X e' (C0 C (Cc Γ (.cst u))):=λ{v} h1 h2 h3=>by
   refine PT.eqv (cJ (fJ h1 h2) g.K h3) λst Q w=>?_;rw[af,aj];exact w
  simp only[aA]at h;split at h
  ·have:=bM h;subst this;exact go rp (λ_ _=>rfl) λ_=>rfl
  ·have:=bM h;subst this;exact go rz (λ_ _=>rfl) λ_=>rfl
  ·have:=bM h;subst this;exact go xl (λ_ _=>rfl) λ_=>rfl
  ·have:=bM h;subst this;exact go rq (λ_ _=>rfl) λ_=>rfl
  ·cases h
 |.fst es,X,e',g,h=>λpins s σ H Q I ⟨_,_,_,_,w⟩=>(aq.mp w).elim
 |.Jb x u,X,e',g,h=>λpins s σ H Q I ⟨_,_,_,_,w⟩=>(aq.mp w).elim
 |.neg a,X,e',g,h=>λpins s σ H Q I ⟨_,_,_,_,w⟩=>(aq.mp w).elim
 |.DQ a T,X,e',g,h=>by
  simp only[aA]at h;obtain⟨f',as,p0,rfl,z1⟩:=aI h;obtain⟨x,p1,rfl,z2⟩:=aw z1;clear h z1;split at z2
  ·obtain⟨y,p2,rfl,z3⟩:=aw z2;have h:=z3;simp only[OD,Xt]at h;obtain⟨⟨⟨⟨⟨rfl,rfl⟩,h1⟩,h2⟩,h3⟩,h4⟩:=h;refine PT.eqv (cJ (pB g.K (di h1) (g.blt _ mz) (di h2) (g.blt _ (tD T)) (bq a X _ g h4) (bx h3)) g.K λ_=>rfl) λst Q w=>?_;simp only[Cc,af]at w ⊢;refine W.mono w λx s1 w1=>?_;obtain⟨b,e,w2⟩:=bQ.mp w1;exact bQ.mpr ⟨b,e,aj.mpr (bQ.mpr ⟨b,rfl,w2⟩)⟩
  ·cases z2
 |.bad,X,e',g,h=>λpins s σ H Q I ⟨_,_,_,_,w⟩=>(aq.mp w).elim
 |.pop i,X,e',g,h=>λpins s σ H Q I ⟨_,_,_,_,w⟩=>(aq.mp w).elim
 |.Dz i a,X,e',g,h=>λpins s σ H Q I ⟨_,_,_,_,w⟩=>(aq.mp w).elim
 |.BV f es is,X,e',g,h=>λpins s σ H Q I ⟨_,_,_,_,w⟩=>(aq.mp w).elim
 |.inD neg a i,X,e',g,h=>λpins s σ H Q I ⟨_,_,_,_,w⟩=>(aq.mp w).elim
 |.Jc i,X,e',g,h=>λpins s σ H Q I ⟨_,_,_,_,w⟩=>(aq.mp w).elim
 |.Je ln a b,X,e',g,h=>λpins s σ H Q I ⟨_,_,_,_,w⟩=>(aq.mp w).elim
 |.Jd i,X,e',g,h=>λpins s σ H Q I ⟨_,_,_,_,w⟩=>(aq.mp w).elim
 |.Fj i a b,X,e',g,h=>λpins s σ H Q I ⟨_,_,_,_,w⟩=>(aq.mp w).elim
 |.bin op a b,X,e',g,h=>λpins s σ H Q I ⟨_,_,_,_,w⟩=>(aq.mp w).elim
 |.ite c a b,X,e',g,h=>λpins s σ H Q I ⟨_,_,_,_,w⟩=>(aq.mp w).elim
 |.tup es,X,e',g,h=>λpins s σ H Q I ⟨_,_,_,_,w⟩=>(aq.mp w).elim
 |.lst es,X,e',g,h=>λpins s σ H Q I ⟨_,_,_,_,w⟩=>(aq.mp w).elim
 |.C8 r,X,e',g,h=>λpins s σ H Q I ⟨_,_,_,_,w⟩=>(aq.mp w).elim
 |.Eh a lo hi,X,e',g,h=>λpins s σ H Q I ⟨_,_,_,_,w⟩=>(aq.mp w).elim
 |.comp n t ik src cond e,X,e',g,h=>λpins s σ H Q I ⟨_,_,_,_,w⟩=>(aq.mp w).elim
theorem pJ:∀(es:List E) (X:Cx) (BY:List Pw),Gd ck Γ C d X->aB ck es X.N X.env.scope BY=OA->∀{pos},PW X (.BoolOp .And BY pos) (C0 C (aS Γ es))
 |[],X,BY,g,h,pos=>by
  cases BY with
  |nil =>
   rintro wh pins s σ H Q I ⟨c0,rfl,rfl,ok,w⟩;rw[show aS Γ []=pure OA from rfl,aj]at w;exact Xp ⟨c0.H,I,w c0 rfl rfl ok (Nx.refl c0)⟩
  |cons _ _=>simp[aB]at h
 |[e],X,BY,g,h,pos=>by
  cases BY with
  |nil=>simp[aB]at h
  |cons e' BY =>
   cases BY with
   |nil=>simp only[aB,OD]at h;exact uZ (jn e X e' g h.1.2)
   |cons _ _=>simp[aB]at h
 |e::e1::es,X,BY,g,h,pos=>by
  cases BY with
  |nil=>simp[aB]at h
  |cons e' BY =>
   have h':noStar e'=OA/\aA ck e X.N X.env.scope e'=OA/\aB ck (e1::es) X.N X.env.scope BY=OA:=by
    rw[aB]at h;simp only[OD]at h;exact⟨h.1.1,h.1.2,h.2⟩
   cases BY with
   |nil=>have:=h'.2.2;simp[aB]at this
   |cons e2 Fh=>exact v5 (jn e X e' g h'.2.1) (pJ (e1::es) X _ g h'.2.2)
theorem tH:∀(es:List E) (X:Cx) (BY:List Pw),Gd ck Γ C d X->aB ck es X.N X.env.scope BY=OA->∀{pos},PW X (.BoolOp .Or BY pos) (C0 C (dI Γ es))
 |[],X,BY,g,h,pos=>by
  cases BY with
  |nil =>
   rintro wh pins s σ H Q I ⟨c0,rfl,rfl,ok,w⟩;rw[show dI Γ []=pure OE from rfl,aj]at w;exact isTrue_or_nil ⟨c0.H,I,w c0 rfl rfl ok (Nx.refl c0)⟩
  |cons _ _=>simp[aB]at h
 |[e],X,BY,g,h,pos=>by
  cases BY with
  |nil=>simp[aB]at h
  |cons e' BY =>
   cases BY with
   |nil=>simp only[aB,OD]at h;exact xU (jn e X e' g h.1.2)
   |cons _ _=>simp[aB]at h
 |e::e1::es,X,BY,g,h,pos=>by
  cases BY with
  |nil=>simp[aB]at h
  |cons e' BY =>
   have h':noStar e'=OA/\aA ck e X.N X.env.scope e'=OA/\aB ck (e1::es) X.N X.env.scope BY=OA:=by
    rw[aB]at h;simp only[OD]at h;exact⟨h.1.1,h.1.2,h.2⟩
   cases BY with
   |nil=>have:=h'.2.2;simp[aB]at this
   |cons e2 Fh=>exact yS (jn e X e' g h'.2.1) (tH (e1::es) X _ g h'.2.2)
end
end
def Ic(sc:Q0)(x:Str)(line:Nat):Pw->Bool
 |.ListComp elt gens s pos=>OI (sc.names.lookup x=Od .local)&&(line==pos.line)&&!(s.names.any λ(n,k)=>n==x&&(k==.local||k==.cell))
 |_=>OE
def mB(s:RI)(k:Pw->Bool):Bool:=match s with|.Expr e _=>k e|_=>OE
theorem fb(h:mB s k=OA):∃e p,s=.Expr e p/\k e=OA:=by
 unfold mB at h;split at h
 ·exact⟨_,_,rfl,h⟩
 ·cases h
def tI(s:RI)(k:Pw->Pw->Bool):Bool:=match s with|.Assign ts v _=>fM ts λt=>k t v|_=>OE
theorem n9(h:tI s k=OA):∃t v p,s=.Assign [t] v p/\k t v=OA:=by
 unfold tI at h;split at h
 ·obtain⟨t,rfl,z1⟩:=bA h;exact⟨_,_,_,rfl,h⟩
 ·cases h
mutual
def dr(k:Ck):S->List Str->Q0->RI->Bool
 |.set i e,N,sc,s=>match s with
  |.Assign [.Name x p] v _=>OI (N[i]?=Od x)&&mq sc x&&OI (sc.kind=.function)&&aA k e N sc v&&(cK v||Ic sc x p.line v||(match v with|.ListComp _ _ _ _=>OA|_=>OE))&&(match e with|.comp _ _ _ _ _ _=>OA|_=>cK v)
  |_=>OE
 |.Fm is e,N,sc,s=>match s with
  |.Assign [.Tuple es kk p] v _=>G7 OA N sc OA is (.Tuple es kk p)&&cK v&&zh v&&aA k e N sc v
  |_=>OE
 |.put i a b,N,sc,s=>tI s λt b'=>tB t λo a'=>bK o λx=>OI (N[i]?=Od x)&&kS sc x&&b8 x&&cK b'&&gS a'&&aA k a N sc a'&&aA k b N sc b'
 |.app i e,N,sc,s=>mB s λc=>e_ c λo m apos as BW=>bK o λx=>fM as λa=>OI (m="append")&&OI (N[i]?=Od x)&&kS sc x&&b8 x&&(apos.endLine==BW.line)&&noStar a&&aA k e N sc a
 |.ext i e,N,sc,s=>mB s λc=>e_ c λo m apos as BW=>bK o λx=>fM as λa=>OI (m="extend")&&OI (N[i]?=Od x)&&kS sc x&&b8 x&&(apos.endLine==BW.line)&&noStar a&&aA k e N sc a
 |.bad,_,_,_=>OA
 |.newD _,_,_,_=>OE
 |.aug _ _ _ _,_,_,_=>OE
 |.Jf _,_,_,_=>OE
 |.putD _ _ _,_,_,_=>OE
 |.Fo _ _ _,_,_,_=>OE
 |.exp e,N,sc,s=>match s with
  |.Expr e' _=>cK e'&&aA k e N sc e'
  |_=>OE
 |.ret e,N,sc,s=>match s with
  |.Return (Od e') _=>aA k e N sc e'
  |_=>OE
 |.DR,N,sc,s=>match s with
  |.Return OB _=>OA
  |_=>OE
 |.ite c a b,N,sc,s=>match s with
  |.If c' a' b' _=>aA k c N sc c'&&cE k a N sc a'&&cE k b N sc b'
  |_=>OE
 |.B' t is ik src body,N,sc,s=>match s with
  |.For tg iter D' [] _=>G7 t N sc OA is tg&&nU iter&&(match dO sc tg ik iter with
    |some as=>aB k src N sc as
    |none=>OE)&&cE k body N sc D'
  |_=>OE
 |.EG c body,N,sc,s=>match s with
  |.While c' D' [] _=>aA k c N sc c'&&cE k body N sc D'
  |_=>OE
 |.brk,_,_,s=>match s with
  |.Break _=>OA
  |_=>OE
 |.cnt,_,_,s=>match s with
  |.Continue _=>OA
  |_=>OE
 |.Gp i,N,sc,s=>mB s λe=>e_ e λo m apos as BW=>bK o λx=>as.isEmpty&&OI (m="clear")&&OI (N[i]?=Od x)&&kS sc x&&b8 x&&(apos.endLine==BW.line)
 |.Dr _,_,_,_=>OE
 |.Jg,_,_,s=>match s with
  |.Pass _=>OA
  |_=>OE
def cE(k:Ck):List S->List Str->Q0->List RI->Bool
 |[],_,_,DN=>DN.isEmpty
 |s::ss,N,sc,DN=>match DN with
  |s'::DN=>dr k s N sc s'&&cE k ss N sc DN
  |[]=>OE
end
section
variable{ck:Ck}{Γ:Tab}{C:Ct}{d:Nat}{X:Cx}
theorem tJ(h:mq sc x=OA):Loc sc x:=by
 unfold mq at h;simp only[Qj,Xt]at h;exact h
theorem iN(h:cK v=OA):Se v t line env=pure OE:=by
 cases v<;>first|rfl|cases h
theorem pK(h:cK v=OA):Sx [t] v line env=pure OE:=by
 rw[Sx];exact iN h
theorem wG(h:gS i=OA):∀v,Sy (.Subscript o i p) env v=(do
   let ov <-RH [v] (Qx o env)
   let iv <-RH [v,ov] (Qx i env)
   UL p
   RH [v,ov,iv] (Vv ov iv v)
   release [v,ov,iv] []):=by
 intro v;cases i<;>first|rfl|cases h
structure Gs(ck:Ck)(Γ:Tab)(C:Ct)(d:Nat)(X:Cx):Prop where
 gd:Gd ck Γ C d X
 nd:X.N.Nodup
 fn:∀x,X.fn x=OA
 po:Ux (OU X.prog X.w) X.A X.env X.xe
 kd:X.env.scope.kind=.function
theorem pL(g:Gd ck Γ C d X)(h:(match dO X.env.scope tg ik iter with|some as=>aB ck src X.N X.env.scope as|none=>OE)=OA):PI X tg iter (EL C ik (ba Γ src)):=by
 split at h
 ·rename_i as has;exact xy g has (fN src X _ g h) (λa e=>by
   subst e;cases src with
   |nil=>simp[aB]at h
   |cons e1 CG =>
    cases CG with
    |nil =>
     simp only[aB,OD]at h;exact⟨e1,rfl,bq e1 X _ g h.1.2⟩
    |cons _ _=>simp[aB]at h) (b9 h)
 ·cases h
theorem iO{pos p Eb:Pos}(hk:X.env.scope.kind=.function):Se (.ListComp elt gens s pos) (Od (.Name x p)) Eb.line X.env=pure (Ic X.env.scope x p.line (.ListComp elt gens s pos)):=by
 have hb:X.env.blockKind=.function:=by
  unfold Env.blockKind;rw[hk];rfl
 show(pure (X.env.blockKind==.function&&X.env.kindOf x==Od .local&&p.line==pos.line&&!(s.names.any λ(n,k)=>n==x&&(k==.local||k==.cell))):Sem Bool)=_;rw[hb];unfold Ic;congr 1
 have:(X.env.kindOf x==Od NameKind.local)=OI (X.env.scope.names.lookup x=Od .local):=by
  unfold Env.kindOf;rw[Rj];simp
 rw[this];rfl
theorem zm{src cond:List E}(G:Gs ck Γ C d X)(hi:X.N[i]?=Od x)(hx:mq X.env.scope x=OA)
  (h:aA ck (.comp n t ik src cond e) X.N X.env.scope (.ListComp elt [⟨tg,iter,ifs,0⟩] scope pos)=OA) (ns:Nat->Bool) (Dc:∀j,ns j=OA->j≠i) :
  L2.PS X (.Assign [.Name x p] (.ListComp elt [⟨tg,iter,ifs,0⟩] scope pos) Eb) (CK C ns (ev Γ (.comp n t ik src cond e) >>= λr=>dq i r >>= λ_=>pure .nx)):=by
 have g:=G.gd;have hE:=bq (.comp n t ik src cond e) X _ g h;cases FF:Ic X.env.scope x p.line (.ListComp elt [⟨tg,iter,ifs,0⟩] scope pos) with
 |false=>exact xv Dc G.nd hi (tJ hx) (.inl (G.fn x)) hE (by rw[iO G.kd,FF])
 |true =>
  have hl:X.env.scope.names.lookup x=Od .local:=by
   simp only[Ic,OD,Xt]at FF;exact FF.1.1
  simp only[aA,OD,Xt]at h;obtain⟨⟨⟨⟨⟨⟨⟨h1,h2⟩,h3⟩,h4⟩,h5⟩,h6⟩,h7⟩,h8⟩:=h;subst h1;have S:=sg (X:=X) rfl (jI _ _) h2;exact ze Dc S g.calm G.nd hi hl (pL g h5) (λD s H ex=>pI (fa:=OE) g.calm g.K S.nd (λz=>nomatch z) h3)
   (λD s H ex=>by
    cases ifs with
    |nil =>
     cases cond with
     |nil=>exact λpins s σ H Q I ⟨c0,e1,e2,ok,w⟩=>oN pins s σ H Q I (by subst e1 e2;rw[show aS Γ []=pure OA from rfl,aj]at w;exact w c0 rfl rfl ok (Nx.refl c0))
     |cons _ _=>simp[aB]at h7
    |cons c1 cs =>
     cases cs with
     |nil =>
      cases cond with
      |nil=>simp[aB]at h7
      |cons e1 CG =>
       cases CG with
       |nil =>
        simp only[aB,OD]at h7;exact oO (jn e1 (CN X _ scope D s H ex) c1 (g.cx _ _ _ _ _ _) h7.1.2)
       |cons _ _=>simp[aB]at h7
     |cons _ _=>simp at h6)
   (λD s H ex=>bq e (CN X _ scope D s H ex) elt (g.cx _ _ _ _ _ _) h8) (by rw[iO G.kd,FF]) (nZ h4)
mutual
theorem BR:∀(s:S) (X:Cx) (s':RI),Gs ck Γ C d X->dr ck s X.N X.env.scope s'=OA->L2.PS X s' (CK C (FP s) (exec Γ s))
 |.set i e,X,s',G,h=>by
  simp only[dr]at h;split at h
  ·rename_i x p v _;simp only[OD,Xt]at h;obtain⟨⟨⟨⟨⟨h1,h2⟩,h3⟩,h4⟩,h5⟩,h6⟩:=h;have Dc:∀j,FP (.set i e) j=OA->j≠i:=λj hj=>by simpa[FP] using hj
   by_cases hc:cK v=OA
   ·exact xv Dc G.nd h1 (tJ h2) (.inl (G.fn x)) (bq e X v G.gd h4) (iN hc)
   ·cases e with
    |comp n t ik src cond e =>
     have KG:=h4;simp only[aA]at KG;split at KG
     ·exact zm G h1 h2 h4 _ Dc
     ·cases KG
    |_=>exact absurd h6 hc
  ·cases h
 |.Fm is e,X,s',G,h=>by
  simp only[dr]at h;split at h
  ·simp only[OD]at h;obtain⟨⟨⟨h1,h2⟩,h3⟩,h4⟩:=h;rename_i es kk p v _;refine zf (λj hj=>by simpa[FP] using hj) (bq e X v G.gd h4) (pI (fa:=OA) G.gd.calm G.gd.K G.nd (λ_=>G.fn) h1) (pK h2) ?_ rfl;cases v<;>first|rfl|cases h3
  ·cases h
 |.put i a b,X,s',G,h=>by
  simp only[dr]at h;obtain⟨t,v,p,rfl,z1⟩:=n9 h;obtain⟨o,a',p1,rfl,z2⟩:=nX z1;obtain⟨x,px,rfl,z3⟩:=aw z2;simp only[OD,Xt]at z3;obtain⟨⟨⟨⟨⟨⟨h1,h2⟩,h3⟩,h4⟩,h5⟩,h6⟩,h7⟩:=z3;obtain⟨q1,q2⟩:=br h3;exact AI G.gd.P G.gd.w G.gd.K G.gd.u h1 (dP h2) q1 q2 (bq b X _ G.gd h7) (bq a X _ G.gd h6) (pK h4) rfl (wG h5)
 |.app i e,X,s',G,h=>by
  simp only[dr]at h;obtain⟨c,p0,rfl,z1⟩:=fb h;obtain⟨o,m,apos,as,BW,rfl,z2⟩:=bB z1;obtain⟨x,px,rfl,z3⟩:=aw z2;obtain⟨a,rfl,z4⟩:=bA z3;simp only[OD,Xt]at z4;obtain⟨⟨⟨⟨⟨⟨rfl,h1⟩,h2⟩,h3⟩,h4⟩,h5⟩,h6⟩:=z4;obtain⟨q1,q2⟩:=br h3;have st:=bx (env:=X.env) (es:=[]) h5;have sa:=(bp (pos:=BW) (env:=X.env) (es:=[a]) λe he=>by simp at he;subst he;exact h5).2;refine AG G.gd.K h1 (dP h2) q1 q2 (bq e X _ G.gd h6) ?_ h4 st;rw[sa];rfl
 |.ext i e,X,s',G,h=>by
  simp only[dr]at h;obtain⟨c,p0,rfl,z1⟩:=fb h;obtain⟨o,m,apos,as,BW,rfl,z2⟩:=bB z1;obtain⟨x,px,rfl,z3⟩:=aw z2;obtain⟨a,rfl,z4⟩:=bA z3;simp only[OD,Xt]at z4;obtain⟨⟨⟨⟨⟨⟨rfl,h1⟩,h2⟩,h3⟩,h4⟩,h5⟩,h6⟩:=z4;obtain⟨q1,q2⟩:=br h3;have st:=bx (env:=X.env) (es:=[]) h5;have sa:=(bp (pos:=BW) (env:=X.env) (es:=[a]) λe he=>by simp at he;subst he;exact h5).2;refine AH G.gd.K h1 (dP h2) q1 q2 (bq e X _ G.gd h6) ?_ h4 st;rw[sa];rfl
 |.bad,X,s',G,h=>λpins sh σ H D I ⟨_,_,_,_,w⟩=>(aq.mp w).elim
 |.aug sub i a e,X,s',G,h=>λpins sh σ H D I ⟨_,_,_,_,w⟩=>(aq.mp w).elim
 |.Jf i,X,s',G,h=>λpins sh σ H D I ⟨_,_,_,_,w⟩=>(aq.mp w).elim
 |.newD i,X,s',G,h=>λpins sh σ H D I ⟨_,_,_,_,w⟩=>(aq.mp w).elim
 |.putD i a b,X,s',G,h=>λpins sh σ H D I ⟨_,_,_,_,w⟩=>(aq.mp w).elim
 |.Fo i a e,X,s',G,h=>λpins sh σ H D I ⟨_,_,_,_,w⟩=>(aq.mp w).elim
 |.exp e,X,s',G,h=>by
  simp only[dr]at h;split at h
  ·simp only[OD]at h;exact AA (bq e X _ G.gd h.2) (iN h.1)
  ·cases h
 |.ret e,X,s',G,h=>by
  simp only[dr]at h;split at h
  ·exact AB (bq e X _ G.gd h)
  ·cases h
 |.DR,X,s',G,h=>by
  simp only[dr]at h;split at h
  ·exact zd
  ·cases h
 |.ite c a b,X,s',G,h=>by
  simp only[dr]at h;split at h
  ·simp only[OD]at h;have ha:=iP a X _ G h.1.2;have hb:=iP b X _ G h.2;exact AD (jn c X _ G.gd h.1.1) (CP.weak ha λD σ H z=>kQ (λj hj=>by simp only[FP,OD]at hj;exact hj.1) z) (CP.weak hb λD σ H z=>kQ (λj hj=>by simp only[FP,OD]at hj;exact hj.2) z)
  ·cases h
 |.B' t is ik src body,X,s',G,h=>by
  simp only[dr]at h;split at h
  ·rename_i tg iter D' _;rw[OD,OD,OD]at h;exact AF G.po G.gd.calm (pL G.gd h.1.2) (pI (fa:=OA) G.gd.calm G.gd.K G.nd (λ_=>G.fn) h.1.1.1) (iP body X _ G h.2) (nZ h.1.1.2) λj hj=>by simpa[FP] using hj
  ·cases h
 |.EG c body,X,s',G,h=>by
  simp only[dr]at h;split at h
  ·simp only[OD]at h;exact AE G.po (jn c X _ G.gd h.1) (iP body X _ G h.2)
  ·cases h
 |.brk,X,s',G,h=>by
  simp only[dr]at h;split at h
  ·exact Ax
  ·cases h
 |.cnt,X,s',G,h=>by
  simp only[dr]at h;split at h
  ·exact Ay
  ·cases h
 |.Gp i,X,s',G,h=>by
  simp only[dr]at h;obtain⟨e,p,rfl,z0⟩:=fb h;obtain⟨o,m,apos,as,BW,rfl,z1⟩:=bB z0;obtain⟨x,px,rfl,z2⟩:=aw z1;simp only[OD,Xt,Q6]at z2;obtain⟨⟨⟨⟨⟨rfl,rfl⟩,h1⟩,h2⟩,h3⟩,h4⟩:=z2;obtain⟨q1,q2⟩:=br h3;exact AJ G.gd.K h1 (dP h2) q1 q2 h4
 |.Dr is,X,s',G,h=>by simp[dr]at h
 |.Jg,X,s',G,h=>by
  simp only[dr]at h;split at h
  ·exact Az
  ·cases h
theorem iP:∀(ss:List S) (X:Cx) (DN:List RI),Gs ck Γ C d X->cE ck ss X.N X.env.scope DN=OA->CP X DN (CK C (DS ss) (execs Γ ss))
 |[],X,DN,G,h=>by
  cases DN with
  |nil=>exact Aw
  |cons _ _=>simp[cE]at h
 |s::ss,X,DN,G,h=>by
  cases DN with
  |nil=>simp[cE]at h
  |cons s' DN =>
   simp only[cE,OD]at h;have h1:=BR s X s' G h.1;have h2:=iP ss X DN G h.2;exact zc (PS.weak h1 λD σ H z=>kQ (λj hj=>by simp only[DS,OD]at hj;exact hj.1) z) (CP.weak h2 λD σ H z=>kQ (λj hj=>by simp only[DS,OD]at hj;exact hj.2) z)
end
end
section
variable{ck:Ck}{Γ:Tab}{d:Nat}{P:PC}{w:P4}{K:PySem.W.Frag}{mg:Str->Option OH}{base:Qk}
theorem gq{n i:Nat}(h:(start us n)[i]?=Od (Od (k,u))):us[i]?=Od u/\k=if Co u=OA then .loc else .any:=by
 unfold start at h;by_cases hi:i<us.length
 ·rw[Pz (by simpa using hi),OX]at h;rw[O7 hi]at h ⊢;simp only[Sv,RO,Ui]at h;obtain⟨h1,h2⟩:=h;subst h2;exact⟨rfl,h1.symm⟩
 ·rw[Pf (by simp;omega),Qi]at h;split at h<;>cases h
theorem b_{i:Nat}(h:vs[i]?=Od v):(L2.start N vs)[i]?=Od (Od v):=by
 unfold L2.start;have hi:i<vs.length:=(OT.mp h).1;rw[Pz (by simpa using hi),OX,h];rfl
theorem tK(hP:∀a,Pr a->DH H a)(h:ai (E2 P w K H Pr) Pr H us vs)(hn:N.length=n):Ok (E2 P w K H Pr) ⟨λ_=>False,H,L2.start N vs,start us n,λ_=>[]⟩:=by
 have GB:∀(j:Nat) (u:U),(start us n)[j]?≠Od (Od (.B1,u)):=λj u e=>by
  have:=(gq e).2;split at this<;>cases this
 refine⟨λa o e _=>e,λa z=>z.elim,λa z=>⟨hP a z,λz=>z⟩,λa z=>z.elim,?_,λi k u e=>?_,λi j k k' u u' r hk Cv e1 e2 e3 e4=>?_,⟨λj u r e _=>(GB j u e).elim,λi j a ⟨u,_,e,_⟩=>(GB i u e).elim,λj a ⟨u,_,e,_⟩=>(GB j u e).elim⟩⟩
 ·have:=h.len;simp[start,L2.start,hn];omega
 ·obtain⟨e1,e2⟩:=gq e;obtain⟨v,ev,rep⟩:=h.get e1;refine⟨v,b_ ev,?_⟩;subst e2;by_cases hu:Co u=OA
  ·rw[Xs hu];exact Rep.Co hu rep
  ·rw[Xu hu];exact Rep.mv (.up λa z=>.inl z) rep
 ·obtain⟨_,e5⟩:=gq e1;subst e5;split at hk<;>cases hk
theorem kW(h:c8 Γ fn us=Od (.ok (k,u))):us.length=fn.np/\((k=.own\/k=.loc\/k=.any)/\(∃st',execs Γ fn.body (start us fn.ns)=Od (.ok (.rt k u),st'))\/(k=.loc/\u=.BZ/\∃st',execs Γ fn.body (start us fn.ns)=Od (.ok .nx,st'))):=by
 unfold c8 at h;split at h
 ·rename_i hl;refine⟨hl,?_⟩;split at h
  ·rename_i e;cases h;exact .inl ⟨.inl rfl,_,e⟩
  ·rename_i e;cases h;exact .inl ⟨.inr (.inl rfl),_,e⟩
  ·rename_i e;cases h;exact .inl ⟨.inr (.inr rfl),_,e⟩
  ·rename_i e;cases h;exact .inr ⟨rfl,rfl,_,e⟩
  ·cases h
  ·cases h
 ·cases h
theorem xD{st:RI}(F:FD K fn.name qual st f fd)(S:cI N ps (aE st))(hN:N.length=fn.ns)(DF:ps.length=fn.np)
  (GC:cE ck fn.body N (aE st) (bO st)=OA) (blt:∀x∈bg,mg x=OB) (fns:∀g∈ck.fns,wz P w K mg base d (Γ g) g)
  (Er:∀p∈ck.gl,∃val v,mg p.1=Od val/\RelV v val/\∀(C:Ct) S H,Rep C S H p.2 v) (Dt:∀p∈ck.Dt,wA P w K mg base d (Γ p.1) p.1 p.2):h_ P w K mg base Ek (d+1) f fd ps (spT P w K (c8 Γ fn) fn.np):=by
 refine F.ok S (λvs H Q E h=>h.1.trans DF.symm) (λCQ A outer s H vs Q E hr h=>?_);obtain⟨hl,us,k,u,Pr,GD,hk,NJ,rep,cont⟩:=h;have G5:=hr.un;have G:Gs ck Γ (E2 P w K H Pr) d (lA Ek P w K mg base N qual (aE st) f CQ A outer s H E).GO :=
  ⟨⟨rfl,rfl,rfl,by show(A.deeper (SV qual (aE st) s.heap.objs.size f CQ)).units+60<Qd;omega,rfl,hr,blt,fns,λp hp=>let ⟨val,v,q1,q2,q3⟩:=Er p hp;⟨val,v,q1,q2,q3 _⟩,Dt⟩,S.nd,λ_=>rfl,U6,S.kind⟩
 refine⟨_,iP fn.body _ _ G GC,⟨λ_=>False,H,L2.start N vs,start us fn.ns,λ_=>[]⟩,rfl,rfl,tK NJ rep hN,?_⟩;obtain⟨_,KH⟩:=kW GD;have mk:∀(c:Cf),Ok (E2 P w K H Pr) c->∀v,zb (E2 P w K H Pr) c k u v->Back (E2 P w K H Pr) H c.H c.S k u v:=λc ok v r=>by
  refine⟨λa o e=>ok.same a o e λz=>z,λa z=>ok.DG a z,λe=>?_,λe=>?_,λe=>?_⟩
  ·subst e;obtain⟨r0,e,h1,h2,h3,h4⟩:=r;exact⟨r0,e,h1,h2,h4⟩
  ·subst e;exact r
  ·subst e;exact r
 rcases KH with⟨_,st',e⟩|⟨rfl,rfl,st',e⟩
 ·exact⟨_,st',e,λc ec ok n kp v r=>cont v c.H c.S (mk c ok v r)⟩
 ·exact⟨_,st',e,λc ec ok n kp=>cont .BZ c.H c.S (mk c ok .BZ rfl)⟩
theorem fc(h:(bR is us n)[i]?=Od (Od (k,u))):us[i]?=Od u/\k=if i∈is then .io else if Co u=OA then .loc else .any:=by
 unfold bR at h;by_cases hi:i<us.length
 ·rw[Pz (by simpa using hi),OX,U']at h;rw[O7 hi]at h ⊢;simp only[Sv,RO,Ui,TC]at h;obtain⟨h1,h2⟩:=h;subst h2;exact⟨rfl,h1.symm⟩
 ·rw[Pf (by simp;omega),Qi]at h;split at h<;>cases h
theorem qW(a:zg C C.H₀ is us vs)(hn:N.length=n):Ok C ⟨λ_=>False,C.H₀,L2.start N vs,bR is us n,λ_=>[]⟩:=by
 have GB:∀(j:Nat) (u:U),(bR is us n)[j]?≠Od (Od (.B1,u)):=λj u e=>by
  have:=(fc e).2;split at this
  ·cases this
  ·split at this<;>cases this
 have rt:∀(j:Nat) (k:Kd) (u:U),k.root=OA->(bR is us n)[j]?=Od (Od (k,u))->j∈is/\us[j]?=Od u:=λj k u hk e=>by
  obtain⟨e1,e2⟩:=fc e;refine⟨?_,e1⟩;by_cases z:j∈is
  ·exact z
  ·rw[Xu z]at e2;subst e2;split at hk<;>cases hk
 refine⟨λa o e _=>e,λa z=>z.elim,λx z=>a.par x z,λx z=>⟨a.LD x z,a.LD x z⟩,?_,λi k u e=>?_,λi j k k' u u' r hk Cv e1 e2 e3 e4=>?_,⟨λj u r e _=>(GB j u e).elim,λi j a ⟨u,_,e,_⟩=>(GB i u e).elim,λj a ⟨u,_,e,_⟩=>(GB j u e).elim⟩⟩
 ·have:=a.len;simp[bR,L2.start,hn];omega
 ·obtain⟨e1,e2⟩:=fc e;by_cases z:i∈is
  ·rw[Xs z]at e2;subst e2;obtain⟨r,b1,b2,b3⟩:=a.io i u z e1;exact⟨_,b_ b1,r,rfl,λz=>z,λz=>(a.par r z).2 b2,b2,b3⟩
  ·rw[Xu z]at e2;obtain⟨v,b1,b2⟩:=a.any i u z e1;refine⟨v,b_ b1,?_⟩;subst e2;by_cases hu:Co u=OA
   ·rw[Xs hu];exact Rep.Co hu b2
   ·rw[Xu hu];exact Rep.mv (.up λa z=>.inl z) b2
 ·obtain⟨i1,i2⟩:=rt i k u hk e1;obtain⟨j1,j2⟩:=rt j k' u' Cv e2;obtain⟨r1,b1,_⟩:=a.io i u i1 i2;obtain⟨r2,b2,_⟩:=a.io j u' j1 j2;rw[b_ b1]at e3;rw[b_ b2]at e4;cases e3;cases e4;exact a.inj i j _ i1 j1 b1 b2
theorem pM:∀{is:List Nat}{st:ay}{ws:List U},Gu is st=Od ws->ws.length=is.length/\∀(n i:Nat),is[n]?=Od i->∃w,ws[n]?=Od w/\st[i]?=Od (Od (.io,w))
 |[],_,_,h=>by cases h;exact⟨rfl,λn i e=>by simp at e⟩
 |i::is,st,ws,h=>by
  unfold Gu at h;split at h
  ·rename_i u hu;rw[OM]at h;obtain⟨Lu,h,rfl⟩:=h;obtain⟨a,b⟩:=pM h;refine⟨by simp[a],λn j e=>?_⟩;cases n with
   |zero=>simp at e;subst e;exact⟨u,rfl,hu⟩
   |succ n=>obtain⟨w,g1,g2⟩:=b n j (by simpa using e);exact⟨w,by simpa using g1,g2⟩
  ·cases h
theorem pN(h:eE Γ fn is body us=Od (.ok r)):us.length=fn.np/\∃f st k u ws,execs Γ body (bR is us fn.ns)=Od (.ok f,st)/\Jh f=Od (k,u)/\Gu is st=Od ws/\r=(k,.tup (u::ws)):=by
 unfold eE at h;split at h
 ·rename_i hl;refine⟨hl,?_⟩;split at h
  ·rename_i f st e;obtain⟨⟨k,u⟩,h1,h⟩:=Pk.mp h;rw[OM]at h;obtain⟨ws,h2,h3⟩:=h;cases h3;exact⟨f,st,k,u,ws,e,h1,h2,rfl⟩
  ·cases h
 ·cases h
theorem zo{st:RI}(F:FD K fn.name qual st f fd)(S:cI N ps (aE st))(hN:N.length=fn.ns)(DF:ps.length=fn.np)(Dc:∀i∈is,DS body i=OA)
  (GC:cE ck body N (aE st) (bO st)=OA) (blt:∀x∈bg,mg x=OB) (fns:∀g∈ck.fns,wz P w K mg base d (Γ g) g)
  (Er:∀p∈ck.gl,∃val v,mg p.1=Od val/\RelV v val/\∀(C:Ct) S H,Rep C S H p.2 v) (Dt:∀p∈ck.Dt,wA P w K mg base d (Γ p.1) p.1 p.2):h_ P w K mg base Ek (d+1) f fd ps (Jm P w K (eE Γ fn is body) fn.np is):=by
 refine F.ok S (λvs H Q E h=>h.1.trans DF.symm) (λCQ A outer s H vs Q E hr h=>?_);obtain⟨hl,us,k,u,ws,Pr,IO,GD,hk,arg,cont⟩:=h;have G5:=hr.un;have G:Gs ck Γ (EO P w K H Pr IO) d (lA Ek P w K mg base N qual (aE st) f CQ A outer s H E).GO :=
  ⟨⟨rfl,rfl,rfl,by show(A.deeper (SV qual (aE st) s.heap.objs.size f CQ)).units+60<Qd;omega,rfl,hr,blt,fns,λp hp=>let ⟨val,v,q1,q2,q3⟩:=Er p hp;⟨val,v,q1,q2,q3 _⟩,Dt⟩,S.nd,λ_=>rfl,U6,S.kind⟩
 refine⟨_,iP body _ _ G GC,⟨λ_=>False,H,L2.start N vs,bR is us fn.ns,λ_=>[]⟩,rfl,rfl,qW (C:=EO P w K H Pr IO) arg hN,?_⟩;obtain⟨_,fl,st',k',u',Lu,e,e1,e2,e3⟩:=pN GD;cases e3;obtain⟨l1,l2⟩:=pM e2;have mk:∀(c:Cf),c.st=st'->Ok (EO P w K H Pr IO) c->Kept (DS body) ⟨λ_=>False,H,L2.start N vs,bR is us fn.ns,λ_=>[]⟩ c->∀v,zb (EO P w K H Pr IO) c k u v->xx (EO P w K H Pr IO) H c.H c.S is vs ws k u v:=λc ec ok kp v r=>by
  refine⟨ok.same,λa z=>ok.DG a z,λe=>?_,λe=>?_,l1,λn i r w g1 g2 g3=>?_⟩
  ·subst e;obtain⟨r0,e,h1,h2,h3,h4⟩:=r;exact⟨r0,e,h1,h2,h4⟩
  ·subst e;exact r
  ·obtain⟨w',z1,z2⟩:=l2 n i g1;rw[g3]at z1;cases z1;rw[<-ec]at z2;obtain⟨v',y1,r',y2,_,_,_,y3⟩:=ok.sl i _ _ z2;have hi:i∈is:=Qf g1;rw[kp.1 i (Dc i hi)]at y1;rw[show(L2.start N vs)[i]?=Od (Od (.ref r)) from b_ g2]at y1;cases y1;cases y2;exact y3
 refine⟨fl,st',e,λc ec ok n kp=>?_⟩;cases fl with
 |nx=>cases e1;exact cont .BZ c.H c.S (mk c ec ok kp .BZ rfl)
 |rt k0 u0=>cases k0<;>first|(cases e1;done)|(cases e1;exact λv r=>cont v c.H c.S (mk c ec ok kp v r))
 |_=>cases e1
def Fn.bd(fn:Fn):List S:=match fn.io with|some (_,b)=>b|none=>fn.body
def Jo(fn:Fn):Bool:=match fn.io with|some (is,b)=>is.all λi=>DS b i|none=>OA
def Jp(ck:Ck)(Pg:List Fn):Bool:=ck.fns.all (λg=>Pg.any λfn=>OI (fn.name=g)&&fn.io.isNone)&&ck.Dt.all λp=>Pg.any λfn=>OI (fn.name=p.1)&&OI (fn.io.map (·.1)=Od p.2)
structure Ld(ck:Ck)(K:PySem.W.Frag)(mg:Str->Option OH)(fn:Fn):Prop where
 ex:∃(qual:Str) (st:RI) (f:OS) (fd:Sm) (N ps:List Str),FD K fn.name qual st f fd/\mg fn.name=Od (.ref f)/\Binds K fd ps []/\cI N ps (aE st)/\N.length=fn.ns/\ps.length=fn.np/\cE ck fn.bd N (aE st) (bO st)=OA/\Jo fn=OA
theorem wH{Pg:List Fn}(CZ:(Pg.map (·.name)).Nodup)(h:fn∈Pg):Pg.find? (λg=>OI (g.name=fn.name))=Od fn:=by
 induction Pg with
 |nil=>cases h
 |cons g Pg ih =>
  rw[OQ,PX]at CZ;rcases OV.mp h with rfl|h
  ·simp
  ·rw[QV];have:OI (g.name=fn.name)=OE:=by
    apply Xv;intro z;exact CZ.1 (z▸List.mem_map_of_mem h)
   rw[this];exact ih CZ.2 h
theorem n_(CZ:(Pg.map (·.name)).Nodup)(h:fn∈Pg):Cg Pg (d+1) fn.name=gh (Cg Pg d) fn:=by
 funext us
 show(match Pg.find? λg=>OI (g.name=fn.name) with|some fn=>gh (Cg Pg d) fn us|none=>OB)=_;rw[wH CZ h]
theorem jJ(h:fn.io=OB):gh Γ fn=c8 Γ fn:=by funext us;unfold gh;rw[h]
theorem qX(h:fn.io=Od (is,b)):gh Γ fn=eE Γ fn is b:=by funext us;unfold gh;rw[h]
theorem pO(CZ:(Pg.map (·.name)).Nodup)(E4:Jp ck Pg=OA)(blt:∀x∈bg,mg x=OB)(Er:∀p∈ck.gl,∃val v,mg p.1=Od val/\RelV v val/\∀(C:Ct) S H,Rep C S H p.2 v)
  (ld:∀fn∈Pg,Ld ck K mg fn):∀d,(∀g∈ck.fns,wz P w K mg base d (Cg Pg d g) g)/\∀p∈ck.Dt,wA P w K mg base d (Cg Pg d p.1) p.1 p.2:=by
 simp only[Jp,OD,O6,VO,Xt]at E4;intro d;induction d with
 |zero =>
  refine⟨λg hg=>?_,λp hp=>?_⟩
  ·obtain⟨fn,DK,rfl,_⟩:=E4.1 g hg;obtain⟨qual,st,f,fd,N,ps,F,hm,hb,S,hN,DF,_⟩:=(ld fn DK).ex;exact⟨fn.np,f,fd,ps,⟨λvs H Q E h=>h.1.trans DF.symm,λA outer s H args us vs Q E _ _ _ _ h=>by obtain⟨_,us,k,u,_,e,_⟩:=h;cases e⟩,hm,F.kp,hb,λus k u e=>by cases e⟩
  ·obtain⟨fn,DK,e,_⟩:=E4.2 p hp;obtain⟨qual,st,f,fd,N,ps,F,hm,hb,S,hN,DF,_⟩:=(ld fn DK).ex;exact⟨fn.np,f,fd,ps,⟨λvs H Q E h=>h.1.trans DF.symm,λA outer s H args us vs Q E _ _ _ _ h=>by obtain⟨_,us,k,u,_,_,_,e,_⟩:=h;cases e⟩,e▸hm,F.kp,hb,λus k e=>by cases e⟩
 |succ d ih =>
  refine⟨λg hg=>?_,λp hp=>?_⟩
  ·obtain⟨fn,DK,rfl,CO⟩:=E4.1 g hg;rw[Uj]at CO;obtain⟨qual,st,f,fd,N,ps,F,hm,hb,S,hN,DF,hc,_⟩:=(ld fn DK).ex;rw[n_ CZ DK,jJ CO];rw[show fn.bd=fn.body by unfold Fn.bd;rw[CO]]at hc;refine⟨fn.np,f,fd,ps,xD F S hN DF hc blt ih.1 Er ih.2,hm,F.kp,hb,λus k u e=>?_⟩;obtain⟨h1,h2⟩:=kW e;refine⟨?_,h1⟩;rcases h2 with⟨z,_⟩|⟨z,_⟩
   ·exact z
   ·exact .inr (.inl z)
  ·obtain⟨fn,DK,e,CO⟩:=E4.2 p hp;rw[OM]at CO;obtain⟨⟨is,b⟩,CO,GV⟩:=CO;obtain⟨x,y⟩:=p
   dsimp only at e GV
   subst e GV;obtain⟨qual,st,f,fd,N,ps,F,hm,hb,S,hN,DF,hc,hB⟩:=(ld fn DK).ex;rw[n_ CZ DK,qX CO];rw[show fn.bd=b by unfold Fn.bd;rw[CO]]at hc;unfold Jo at hB;rw[CO]at hB;exact⟨fn.np,f,fd,ps,zo F S hN DF (O6.mp hB) hc blt ih.1 Er ih.2,hm,F.kp,hb,λus r e=>(pN e).1⟩
end
def oe(ns:List Int):U:=.lst (ns.map .int)
theorem jK{S:OS->Prop}:∀(ns:List Int),ai C S H (ns.map .int) (ns.map V.int)
 |[]=>rfl
 |n::ns=>⟨_,_,rfl,rfl,jK ns⟩
theorem og(h:Cn C.K H a (ns.map V.int)):Rep C (DH H) H (oe ns) (.ref a):=by
 refine⟨a,_,rfl,?_,jK ns⟩;rcases h with(h|⟨o,h⟩)|h
 ·exact .inl ⟨⟨_,h⟩,.inl h⟩
 ·exact .inl ⟨⟨_,h⟩,.inr ⟨o,h⟩⟩
 ·exact .inr h
theorem mC:∀{l:List α},(∀a∈l,f a=g a)->l.filterMap f=l.filterMap g
 |[],_=>rfl
 |a::l,h=>by rw[QF,QF,h a (by simp),mC λb hb=>h b (by simp[hb])]
theorem pP:∀(l:List Str) (us:List OH),l.Nodup->us.length=l.length->l.filterMap (λn=>((l.zip us).lookup n).map (n,·))=l.zip us
 |[],_,_,_=>rfl
 |a::l,[],_,h=>nomatch h
 |a::l,u::us,nd,h=>by
  rw[PX]at nd;have ih:=pP l us nd.2 (by simpa using h);simp only[Rk,QF,Pl,beq_self_eq_true,Sv];congr 1
  conv=>rhs;rw[<-ih]
  refine mC λn hn=>?_;have:(n==a)=OE:=by
   rw[beq_eq_false_iff_ne];rintro rfl;exact nd.1 hn
  rw[this]
theorem tL(l:List Str)(us:List OH)(h:us.length=l.length):l.filter (λn=>((l.zip us).lookup n).isNone)=[]:=by
 rw[List.filter_eq_nil_iff];intro n hn;induction l generalizing us with
 |nil=>cases hn
 |cons a l ih =>
  cases us with
  |nil=>cases h
  |cons u us =>
   simp only[Rk,Pl];cases e:n==a with
   |true=>simp
   |false =>
    rcases OV.mp hn with rfl|hn
    ·simp at e
    ·exact ih us (by simpa using h) hn
theorem tM{kV doc pm CQ ct:OH}(nd:(as.map (·.arg)).Nodup)(hl:us.length=(as.map (·.arg)).length):
  VS (PySem.W.fnOf x q ⟨[],as,OB,[],[],OB,[]⟩ body scope .none kV doc pm an CQ ct) ⟨us,[]⟩=pure ((as.map (·.arg)).zip us):=by
 have h1:=pP _ us nd hl;have h2:=tL _ us hl;have hs:Ut Pa=pure OB:=rfl;simp only[VS,PySem.W.fnOf,QM,Pu,P8,hs,pure_bind,Tt,SA,Nat.sub_zero,List.drop_nil,List.zip_nil_right,List.forIn_nil,h1];rw[Xu (by simp[hl])];rw[OJ,QL (by simp),h2];rfl
structure Me where
 fn:Fn
 i:Nat
 N:List Str
 a:OS
 c:OS
 m:OH
 cr:Obj
def Me.fd(top:Nat->RI)(m:Me):Sm:=PySem.W.fnOf m.fn.name m.fn.name (d4 (top m.i)) (bO (top m.i)) (aE (top m.i)) .none .none .none m.m OB (.ref m.c) .none
def Me.fo(top:Nat->RI)(m:Me):Obj:=⟨.type "function",OB,.func (m.fd top),#[]⟩
def adr(ms:List Me):List OS:=3::ms.flatMap λm=>[m.c,m.a]
def DU(top:Nat->RI)(g:Obj)(ms:List Me):PySem.W.Frag:=(3,g)::ms.flatMap λm=>[(m.c,m.cr),(m.a,m.fo top)]
theorem pQ(top:Nat->RI)(g:Obj)(ms:List Me):adr ms=(DU top g ms).map (·.1):=by
 unfold adr DU;rw[OQ,List.map_flatMap];rfl
def zp(v:Option (Option OH))(a:OS):Bool:=match v with|some (Od (.ref b))=>OI (b=a)|_=>OE
theorem wI(h:zp v a=OA):v=Od (Od (.ref a)):=by
 unfold zp at h;split at h
 ·rw[of_decide_eq_true h]
 ·cases h
def nn(o:Option (Option OH)):Bool:=match o with|some OB=>OA|_=>OE
theorem AO(h:nn o=OA):o=Od OB:=by
 unfold nn at h;split at h
 ·rfl
 ·cases h
def AQ(p:Arguments)(ps:List Str):Bool:=p.posonlyargs.isEmpty&&p.vararg.isNone&&p.kwonlyargs.isEmpty&&p.kw_defaults.isEmpty&&p.kwarg.isNone&&p.defaults.isEmpty&&OI (p.args.map (·.arg)=ps)
def LJ(N:List Str)(np:Nat)(sc:Q0):Bool:=OI (sc.kind=.function)&&OI (sc.isCoroutine=OE)&&OI (sc.isGenerator=OE)&&decide N.Nodup&&(N.take np).all (mq sc)&&sc.names.all (λy=>OI (y.2≠.free))
def LK(ck:Ck)(top:Nat->RI)(K:PySem.W.Frag)(m:Me):Bool:=PySem.W.codeIn K (.ref m.c) m.fn.name&&PySem.W.keepIn K (.ref m.a)&&zp (PySem.W.nsIn K PU m.fn.name) m.a&&AQ (d4 (top m.i)) (m.N.take m.fn.np) &&
 LJ m.N m.fn.np (aE (top m.i))&&OI (m.N.length=m.fn.ns)&&OI (m.fn.np<=m.fn.ns)&&(cE ck m.fn.bd m.N (aE (top m.i)) (bO (top m.i))&&Jo m.fn)
def LL(K:PySem.W.Frag)(p:Str×U):Bool:=match p.2,PySem.W.nsIn K PU p.1 with
 |.int i,Od (Od (.int j _))=>OI (i=j)
 |.str i,Od (Od (.str j _))=>OI (i=j)
 |_,_=>OE
def FR(ck:Ck)(top:Nat->RI)(K:PySem.W.Frag)(ms:List Me):Bool:=ms.all (LK ck top K)&&bg.all (λy=>nn (PySem.W.nsIn K PU y))&&ck.gl.all (LL K)&&OI (K.map (·.1)).Nodup
theorem AR{K:PySem.W.Frag}(nd:(K.map (·.1)).Nodup)(h:(a,o)∈K):K.lookup a=Od o:=by
 induction K with
 |nil=>cases h
 |cons p K ih =>
  rw[OQ,PX]at nd;rw[Pl];rcases OV.mp h with rfl|h
  ·simp
  ·have:(a==p.1)=OE:=by
    rw[beq_eq_false_iff_ne];rintro rfl;exact nd.1 (PY.mpr ⟨_,h,rfl⟩)
   rw[this];exact ih nd.2 h
section
theorem xE(hm:FR ck top (DU top g ms) ms=OA)(h:m∈ms):FD (DU top g ms) m.fn.name m.fn.name (top m.i) m.a (m.fd top)/\PySem.W.nsIn (DU top g ms) PU m.fn.name=Od (Od (.ref m.a)) /\
  (∀us:List OH,us.length=(m.N.take m.fn.np).length->VS (m.fd top) ⟨us,[]⟩=pure ((m.N.take m.fn.np).zip us))/\cI m.N (m.N.take m.fn.np) (aE (top m.i))/\m.N.length=m.fn.ns/\(m.N.take m.fn.np).length=m.fn.np/\(cE ck m.fn.bd m.N (aE (top m.i)) (bO (top m.i))=OA/\Jo m.fn=OA):=by
 simp only[FR,OD,Xt]at hm;have z:=O6.mp hm.1.1.1 m h;simp only[LK,OD,Xt]at z;obtain⟨⟨⟨⟨⟨⟨⟨z1,z2⟩,z3⟩,z4⟩,z5⟩,z6⟩,z7⟩,z8⟩:=z;simp only[LJ,OD,Xt]at z5;obtain⟨⟨⟨⟨⟨s1,s2⟩,s3⟩,s4⟩,s5⟩,s6⟩:=z5;have NK:(DU top g ms).lookup m.a=Od (m.fo top):=AR hm.2 (OV.mpr (.inr (List.mem_flatMap.mpr ⟨m,h,by simp⟩)));have hl:(m.N.take m.fn.np).length=m.fn.np:=by rw[PQ];omega
 refine⟨yl NK z1 z2,wI z3,λus hu=>?_,⟨s1,s2,s3,s4,by rw[hl],λx hx=>?_,λy hy=>?_⟩,z6,hl,z8⟩
 ·unfold Me.fd;revert z4;cases d4 (top m.i) with
  |mk po as va ko kd kw df =>
   intro z4;simp only[AQ,OD,Q6,Uj,Xt]at z4;obtain⟨⟨⟨⟨⟨⟨rfl,rfl⟩,rfl⟩,rfl⟩,rfl⟩,rfl⟩,e⟩:=z4;rw[<-e]at hu ⊢;exact tM (by rw[e];exact(VG _ _).nodup s4) hu
 ·have:=O6.mp s5 x hx;simpa[mq] using this
 ·have:=O6.mp s6 y hy;simpa using this
theorem AS(hm:FR ck top (DU top g ms) ms=OA)(X:(DU top g ms).In h)(G:h.Ns PU mg)(hi:m∈ms):Ld ck (DU top g ms) mg m.fn :=
 let ⟨a,b,c,d,e,f,k⟩:=xE hm hi
 ⟨_,_,_,_,_,_,a,PySem.W.mg_of X G b,.all c,d,e,f,k⟩
theorem zq(hm:FR ck top (DU top g ms) ms=OA)(X:(DU top g ms).In h)(G:h.Ns PU mg):∀p∈ck.gl,∃val v,mg p.1=Od val/\RelV v val/\∀(C:Ct) S H,Rep C S H p.2 v:=by
 intro p hp;simp only[FR,OD,Xt]at hm;have z:=O6.mp hm.1.2 p hp;unfold LL at z;split at z
 ·rename_i i j k e1 e2;obtain rfl:=of_decide_eq_true z;exact⟨_,.int i,PySem.W.mg_of X G e2,⟨_,rfl⟩,λ_ _ _=>by rw[e1];rfl⟩
 ·rename_i i j k e1 e2;obtain rfl:=of_decide_eq_true z;exact⟨_,.str i,PySem.W.mg_of X G e2,⟨_,rfl⟩,λ_ _ _=>by rw[e1];rfl⟩
 ·cases z
end
theorem walk{l:PySem.W.OpenLaw}{K:Vz->PySem.W.Frag}
  (hn:l.most=Od 63) (F6:d.params.defaults=[]) (hr:eB (dp+1) SR) (hY:∀(w:P4) (h:Qk),YP w h->(K w.params).In h)
  (CZ:(Pg.map (·.name)).Nodup) (E4:Jp ck Pg=OA) (CO:fn.io=OB) (DK:fn∈Pg) (ER:fn.name=d.name)
  (F:∀(w:P4) (mg:Str->Option OH) (fa:OS) (h:Qk),(K w.params).In h->h.Ns PU mg->mg d.name=Od (.ref fa) ->
   (∀y∈bg,mg y=OB)/\(∀p∈ck.gl,∃val v,mg p.1=Od val/\RelV v val/\∀(C:Ct) S H,Rep C S H p.2 v)/\(∀g∈Pg,Ld ck (K w.params) mg g) /\
   ∃(qual:Str) (st:RI) (fd:Sm) (N:List Str),FD (K w.params) fn.name qual st fa fd/\cI N [x] (aE st)/\N.length=fn.ns/\1=fn.np/\cE ck fn.body N (aE st) (bO st)=OA/\∀(s:OR) (u:OH),VC s fd ⟨[u],[]⟩ [(x,u)])
  (T:∀ns:List Int,ns.length<=63->Cg Pg (dp+1) fn.name [oe ns]=Od (.ok (.loc,.bl OA))) :
  PySem.W.WalkO q loose XP YP l.row.toRowW d [] (λf vs=>PySem.call f vs) :=
 L2.vt (n:=63) (k:=dp+1) (x:=x) (CX:=λ_=>Ek) (sp:=λw=>spT l.prog w (K w.params) (c8 (Cg Pg dp) fn) fn.np) hn (by decide) F6 hr hY
  (λw mg fa h KX G Hn=>by
   obtain⟨blt,Er,ld,qual,st,fd,N,F1,S,hN,DF,hc,hb⟩:=F w mg fa h KX G Hn;exact⟨fd,hb,λbase _ _=>xD F1 S hN DF hc blt (pO CZ E4 blt Er ld dp).1 Er (pO CZ E4 blt Er ld dp).2⟩)
  (λw H a ns hl _ hS=>by
   have t:=T ns hl;rw[n_ CZ DK,jJ CO]at t;have NM:fn.np=1:=(kW t).1.symm;exact⟨NM.symm,[oe ns],.loc,.bl OA,DH H,t,.inr (.inl rfl),λ_ z=>z,⟨_,_,rfl,og hS,rfl⟩,λv H' S' b=>b.loc rfl⟩)
  λ_ _ _ _ _ z=>z
theorem walk2{l:PySem.W.OpenLaw}{g:Vz->Obj}
  (hn:l.most=Od 63) (F6:d.params.defaults=[]) (hr:eB (dp+1) SR) (hP:ms.map (·.fn)=Pg) (CZ:(Pg.map (·.name)).Nodup) (E4:Jp ck Pg=OA) (CO:m.fn.io=OB) (hm:m∈ms) (ER:m.fn.name=d.name) (hx:m.N.take m.fn.np=[x])
  (ok:∀P,FR ck top (DU top (g P) ms) ms=OA) (T:∀ns:List Int,ns.length<=63->Cg Pg (dp+1) m.fn.name [oe ns]=Od (.ok (.loc,.bl OA))) :
  PySem.W.WalkO q loose XP (PySem.W.kHook (λP=>DU top (g P) ms) (adr ms) λP=>pQ top (g P) ms).says l.row.toRowW d [] (λf vs=>PySem.call f vs) :=
 walk hn F6 hr (λw h Y=>PySem.W.kIn_of Y) CZ E4 CO (hP▸PY.mpr ⟨m,hm,rfl⟩) ER (λw mg fa h X G E3=>by
  have hk:=ok w.params;obtain⟨a,b,c,e,f,k,n⟩:=xE hk hm;rw[<-ER,PySem.W.mg_of X G b]at E3;cases E3;rw[hx]at c e k;refine⟨λy hy=>PySem.W.mg_none_of X G (AO ?_),zq hk X G,λy hy=>?_,_,_,_,_,a,e,f,k,by have:=n.1;rw[show m.fn.bd=m.fn.body by unfold Fn.bd;rw[CO]]at this;exact this,λs u=>.of_eq (c [u] rfl)⟩
  ·simp only[FR,OD]at hk;exact O6.mp hk.1.1.2 y hy
  ·rw[<-hP]at hy;obtain⟨m',h1,rfl⟩:=PY.mp hy;exact AS hk X G h1) T
def co(n:Str)(k l np:Nat)(r s:OS)(x y z:OH)(a b t:Nat):Obj:=⟨.type "code",OB,.fields #[.str n k,.str n (k+1),.str "/claim/cut.py" (k+2),.int l 0,.int np 0,.int 0 0,.int 0 0,.int 3 0,.ref r,.bool OA,.int t 0,.ref s,.none,x,y,z,.int a 0,.int l 0,.str "/claim/cut.py" b],#[]⟩
def ge(P:Vz)(x:Str)(k:Nat)(v:OH):DictEntry:=⟨PyData.keyHash P x,.str x k,v⟩
end TM
namespace TM
open PySem L2
section
def Run(m:M α)(st:ay)(a:α)(st':ay):Prop:=m st=Od (.ok a,st')
theorem ab(h1:Run m st a st1)(h2:Run (f a) st1 b st2):Run (m >>= f) st b st2:=by
 show M.bind m f st=_;unfold M.bind;rw[show m st=_ from h1];exact h2
theorem a9:Run (pure a:M α) st a st:=rfl
theorem cF(h:o=Od a):Run (M.Ca o) st a st:=by subst h;rfl
theorem aM(h:aX rs st):Run (ar rs) st () st:=by show ar rs st=_;unfold ar;rw[Xs h]
def kv(i:Nat)(k:Kd):Kd:=if k.root=OA then .bor i else k
theorem dQ(h:st[i]?=Od (Od (k,u)))(hk:k≠.B1:=by intro z;cases z):Run (dH i) st (kv i k,u) st:=by
 show dH i st=_;unfold dH;rw[h];cases k<;>first|rfl|exact absurd rfl hk
theorem aa(h:st[i]?=Od (Od (.loc,u))):Run (ev Γ (.var i)) st (.loc,u) st:=dQ h
theorem aU(h:st[i]?=Od (Od (.any,u))):Run (ev Γ (.var i)) st (.any,u) st:=dQ h
theorem aP(h:st[i]?=Od (Od (.own,u))):Run (ev Γ (.var i)) st (.bor i,u) st:=dQ h
theorem ah:Run (ev Γ (.cst u)) st (.loc,u) st:=rfl
theorem bb(h1:Run (ev Γ a) st x st1)(h2:Run (ev Γ b) st1 y st2)(h3:aX [x,y] st2)(h4:EH op x y=Od r):Run (ev Γ (.bin op a b)) st r st2 :=
 ab h1 (ab h2 (ab (aM h3) (cF h4)))
theorem fO(h1:Run (ev Γ a) st x st1)(h2:Run (ev Γ b) st1 y st2)(h3:aX [x,y] st2)(h4:b7 op x.2 y.2=Od c):Run (ev Γ (.cmp op a b)) st (.loc,.bl c) st2 :=
 ab h1 (ab h2 (ab (aM h3) (ab (cF h4) a9)))
theorem aL(h1:Run (ev Γ a) st x st1)(h2:Run (ev Γ b) st1 y st2)(h3:aX [x,y] st2)(h4:dG x y.2=Od r):Run (ev Γ (.idx a b)) st r st2 :=
 ab h1 (ab h2 (ab (aM h3) (cF h4)))
theorem pR:Run (Gr Γ []) st OB st:=rfl
theorem jL(h:Run (ev Γ e) st (k,.int i) st1):Run (Gr Γ [e]) st (Od i) st1:=ab h rfl
theorem mD(h1:Run (ev Γ a) st x st1)(h2:Run (Gr Γ lo) st1 l st2)(h3:Run (Gr Γ hi) st2 h CI)(h4:aX [x] CI)(h5:l8 x l h=Od r):Run (ev Γ (.Eh a lo hi)) st r CI :=
 ab h1 (ab h2 (ab h3 (ab (aM h4) (cF h5))))
theorem ak:Run (ba Γ []) st [] st:=rfl
theorem ae(h1:Run (ev Γ e) st r st1)(h2:Run (ba Γ es) st1 rs st2):Run (ba Γ (e::es)) st (r::rs) st2:=ab h1 (ab h2 a9)
theorem bX(h1:Run (ba Γ es) st rs st1)(h2:aX rs st1)(h3:Ds f rs=Od r):Run (ev Γ (.bi f es)) st r st1:=ab h1 (ab (aM h2) (cF h3))
theorem AU(h1:Run (ba Γ es) st rs st1)(h2:aX rs st1)(h3:nK f rs=Od r):Run (ev Γ (.Fi f es)) st r st1:=ab h1 (ab (aM h2) (cF h3))
theorem tN(h0:Run (ev Γ a) st x st1)(h1:Run (ba Γ es) st1 rs st2)(h2:aX (x::rs) st2)(h3:iF m x.2 rs=Od r):Run (ev Γ (.E1 m a es)) st r st2:=ab h0 (ab h1 (ab (aM h2) (cF h3)))
theorem pS(h:Γ f us=Od (.ok r))(hr:isAny r.1=OE):Run (iG Γ f us) st r st:=by
 obtain⟨k,u⟩:=r;show iG Γ f us st=_;unfold iG;rw[h];cases k<;>first|rfl|cases hr
theorem dc(h1:Run (ba Γ es) st rs st1)(h2:aX rs st1)(h3:Γ f (rs.map (·.2))=Od (.ok r))(hr:isAny r.1=OE:=by exact rfl):Run (ev Γ (.call f es)) st r st1:=ab h1 (ab (aM h2) (pS h3 hr))
theorem fP(h1:Run (ba Γ es) st rs st1)(h2:aX rs st1)(h3:Run (cu rs) st1 us st2)(h4:us.length<=OG):Run (ev Γ (.tup es)) st (.loc,.tup us) st2:=by
 refine ab h1 (ab (aM h2) (ab h3 ?_));rw[Xs h4];exact a9
theorem gE(h1:Run (ba Γ es) st rs st1)(h2:aX rs st1)(h3:Run (cu rs) st1 us st2)(h4:us.length<=OG):Run (ev Γ (.lst es)) st (.own,.lst us) st2:=by
 refine ab h1 (ab (aM h2) (ab h3 ?_));rw[Xs h4];exact a9
theorem oh:Run (ev Γ (.C8 r)) st (.own,if r=OA then .De [] else .CD [] []) st:=rfl
theorem aH:Run (lift (.loc,u)) st u st:=rfl
theorem tP(h:Co u=OA):Run (lift (.any,u)) st u st:=by
 show(if Co u=OA then(pure u:M U) else M.fail) st=_;rw[Xs h];rfl
theorem a_:Run (cu []) st [] st:=rfl
theorem az(h1:Run (lift r) st u st1)(h2:Run (cu rs) st1 us st2):Run (cu (r::rs)) st (u::us) st2:=ab h1 (ab h2 a9)
theorem zr(h1:Run (Cc Γ c) st OA st1)(h2:Run (ev Γ a) st1 r st2):Run (ev Γ (.ite c a b)) st r st2:=ab h1 h2
theorem zt(h1:Run (Cc Γ c) st OE st1)(h2:Run (ev Γ b) st1 r st2):Run (ev Γ (.ite c a b)) st r st2:=ab h1 h2
theorem tQ(h:Run (ev Γ e) st r st1):Run (fH Γ [e]) st r st1:=h
theorem zu(h:Run (ev Γ e) st (k,.bl p) st1)(h2:if p=OA then Run (fH Γ (e2::es)) st1 r st2 else st2=st1/\r=(.loc,.bl OE)):Run (fH Γ (e::e2::es)) st r st2:=by
 refine ab h ?_;cases p with
 |true=>exact h2
 |false=>obtain⟨rfl,rfl⟩:=h2;exact a9
theorem xF(h:Run (fH Γ es) st r st1):Run (ev Γ (.and es)) st r st1:=h
theorem aQ(h1:Run (ev Γ a) st x st1)(h2:Run (ev Γ b) st1 y st2)(h3:aX [x,y] st2)(h4:b7 op x.2 y.2=Od c):Run (Cc Γ (.cmp op a b)) st c st2:=ab h1 (ab h2 (ab (aM h3) (cF h4)))
theorem tR(h:Run (Cc Γ a) st c st1):Run (Cc Γ (.not a)) st (!c) st1:=ab h a9
theorem iQ(h:Run (aS Γ es) st c st1):Run (Cc Γ (.and es)) st c st1:=h
theorem wJ(h:Run (dI Γ es) st c st1):Run (Cc Γ (.or es)) st c st1:=h
theorem iR:Run (aS Γ []) st OA st:=rfl
theorem fe(h:Run (Cc Γ e) st c st1):Run (aS Γ [e]) st c st1:=h
theorem iS(h:Run (Cc Γ e) st OA st1)(h2:Run (aS Γ (e2::es)) st1 c st2):Run (aS Γ (e::e2::es)) st c st2:=ab h h2
theorem oi(h:Run (Cc Γ e) st OE st1):Run (aS Γ (e::e2::es)) st OE st1:=ab h a9
theorem pT(h:Run (Cc Γ e) st c st1):Run (dI Γ [e]) st c st1:=h
theorem AV(h:Run (Cc Γ e) st OA st1):Run (dI Γ (e::e2::es)) st OA st1:=ab h a9
theorem tS(h:Run (Cc Γ e) st OE st1)(h2:Run (dI Γ (e2::es)) st1 c st2):Run (dI Γ (e::e2::es)) st c st2:=ab h h2
theorem cv:Run (dq i (.own,u)) st () (st.set i (Od (.own,u))):=rfl
theorem aD:Run (dq i (.loc,u)) st () (st.set i (Od (.loc,u))):=rfl
theorem iT:Run (dq i (.any,u)) st () (st.set i (Od (.any,u))):=rfl
theorem AW(h1:Run (ev Γ e) st r st1)(h2:Run (dq i r) st1 () st2):Run (exec Γ (.set i e)) st .nx st2:=ab h1 (ab h2 a9)
theorem AX(h0:∃k' D_,st[i]?=Od (Od (k',.lst D_))/\k'≠.B1)(h1:Run (ev Γ e) st r st1)(h2:Run (lift r) st1 u st2)(h3:st2[i]?=Od (Od (k,.lst us)))(hk:k.root=OA)(hl:us.length<OG):
  Run (exec Γ (.app i e)) st .nx (st2.set i (Od (k,.lst (us++[u])))):=by
 obtain⟨k',D_,h0,hn⟩:=h0;refine ab (dQ h0 hn) (ab (a:=()) (st1:=st) rfl (ab h1 (ab h2 (ab (a:=()) ?_ a9))));show modS i (sJ u) st2=_;unfold modS;rw[h3];simp only[hk,if_true];have e:sJ u (.lst us)=Od (.lst (us++[u])):=by show(if us.length<OG then _ else _)=_;rw[Xs hl]
 rw[e]
theorem AY(h1:Run (ev Γ e) st r st1)(h2:Run (retS r) st1 f st2):Run (exec Γ (.ret e)) st f st2:=ab h1 h2
theorem pU:Run (retS (.own,u)) st (.rt .own u) st:=rfl
theorem dk:Run (retS (.loc,u)) st (.rt .loc u) st:=rfl
theorem mE(h:st[j]?=Od (Od (.own,u))):Run (retS (.bor j,u0)) st (.rt .own u) (st.set j OB):=by
 show(match st[j]? with|some (Od (.own,u))=>Od (Ex.ok (Fl.rt .own u),st.set j OB)|_=>OB)=_;rw[h]
theorem tT(h1:Run (Cc Γ c) st OA st1)(h2:Run (execs Γ a) st1 f st2):Run (exec Γ (.ite c a b)) st f st2:=ab h1 h2
theorem zv(h1:Run (Cc Γ c) st OE st1)(h2:Run (execs Γ b) st1 f st2):Run (exec Γ (.ite c a b)) st f st2:=ab h1 h2
theorem au:Run (execs Γ []) st .nx st:=rfl
theorem kX(h1:Run (exec Γ s) st .nx st1)(h2:Run (execs Γ ss) st1 f st2):Run (execs Γ (s::ss)) st f st2:=ab h1 h2
theorem wK(h1:Run (exec Γ s) st (.rt k u) st1):Run (execs Γ (s::ss)) st (.rt k u) st1:=ab h1 a9
theorem ax(h1:Run (ev Γ e) st r st1)(h2:Run (dq i r) st1 () st2)(h3:Run (execs Γ ss) st2 f CI):Run (execs Γ (.set i e::ss)) st f CI:=kX (AW h1 h2) h3
theorem iU(h0:st[i]?=Od (Od (k',.lst D_)))(h1:Run (ev Γ e) st r st1)(h2:Run (lift r) st1 u st2)(h3:st2[i]?=Od (Od (k,.lst us)))(hk:k.root=OA)(hl:us.length<OG)
  (h4:Run (execs Γ ss) (st2.set i (Od (k,.lst (us++[u])))) f CI) (hn:k'≠.B1:=by intro z;cases z):Run (execs Γ (.app i e::ss)) st f CI:=kX (AX ⟨_,_,h0,hn⟩ h1 h2 h3 hk hl) h4
theorem cw(h1:Run (ev Γ e) st r st1)(h2:Run (retS r) st1 (.rt k u) st2):Run (execs Γ (.ret e::ss)) st (.rt k u) st2:=wK (AY h1 h2)
theorem cj(h1:Run (Cc Γ c) st OA st1)(h2:Run (execs Γ a) st1 .nx st2)(h3:Run (execs Γ ss) st2 f CI):Run (execs Γ (.ite c a b::ss)) st f CI:=kX (tT h1 h2) h3
theorem aK(h1:Run (Cc Γ c) st OE st1)(h2:Run (execs Γ b) st1 .nx st2)(h3:Run (execs Γ ss) st2 f CI):Run (execs Γ (.ite c a b::ss)) st f CI:=kX (zv h1 h2) h3
theorem ff(h1:Run (Cc Γ c) st OA st1)(h2:Run (execs Γ a) st1 (.rt k u) st2):Run (execs Γ (.ite c a b::ss)) st (.rt k u) st2:=wK (tT h1 h2)
theorem xG(h1:Run (ba Γ src) st rs st1)(h2:aX rs st1)(h3:DB ik rs=Od xs)(h4:pf rs is body=OA)(h5:Run (forM t is (execs Γ body) rs xs) st1 f st2):
  Run (exec Γ (.B' t is ik src body)) st f st2:=by
 refine ab h1 (ab (aM h2) (ab (cF h3) ?_));rw[Xs h4];exact h5
theorem eO(h1:Run (ba Γ src) st rs st1)(h2:aX rs st1)(h3:DB ik rs=Od xs)(h4:pf rs is body=OA)(h5:Run (forM t is (execs Γ body) rs xs) st1 .nx st2)(h6:Run (execs Γ ss) st2 f CI):
  Run (execs Γ (.B' t is ik src body::ss)) st f CI:=kX (xG h1 h2 h3 h4 h5) h6
theorem pV(h:aX rs st):Run (forM t is body rs []) st .nx st:=ab (aM h) a9
theorem wL(h:aX rs st)(h1:Run (cT t is x) st () st1)(h2:Run body st1 .nx st2)(h3:Run (forM t is body rs xs) st2 f CI):Run (forM t is body rs (x::xs)) st f CI:=ab (aM h) (ab h1 (ab h2 h3))
theorem BS(h:aX rs st)(h1:Run (cT t is x) st () st1)(h2:Run body st1 (.rt k u) st2):Run (forM t is body rs (x::xs)) st (.rt k u) st2:=ab (aM h) (ab h1 (ab h2 a9))
theorem iV(h:Run (dq i r) st () st1):Run (cT OE [i] r) st () st1:=h
theorem cp(hn:us.length=fn.np)(hk:k=.own\/k=.loc)(hs:start us fn.ns=st0)(h:Run (execs Γ fn.body) st0 (.rt k u) st):c8 Γ fn us=Od (.ok (k,u)):=by
 subst hs;unfold c8;rw[Xs hn,show execs Γ fn.body (start us fn.ns)=_ from h];rcases hk with rfl|rfl<;>rfl
theorem pW{cond:M Bool}(h:aX src st):Run (bw k t cond elt src [] acc) st acc st:=ab (aM h) a9
theorem kY{cond:M Bool}(h:aX src st)(h1:Run (cT t (O2 k) x) (OZ k OB++st) () s1)(h2:Run cond s1 OA s2)(h3:Run elt s2 r s3)(h4:Run (lift r) s3 u s4)
  (hl:acc.length<OG) (h5:Run (bw k t cond elt src xs (acc++[u])) (s4.drop k) us st2):Run (bw k t cond elt src (x::xs) acc) st us st2:=by
 refine ab (aM h) (ab (a:=Od u) (st1:=s4.drop k) ?_ ?_)
 ·show inScope k _ st=_;unfold inScope;have hh:Run (cT t (O2 k) x >>= λ_=>cond >>= λb=>if b=OA then(elt >>= λr=>lift r >>= λu=>pure (Od u)) else pure OB) (OZ k OB++st) (Od u) s4 :=
   ab h1 (ab h2 (show Run (elt >>= λr=>lift r >>= λu=>pure (Od u)) s2 (Od u) s4 from ab h3 (ab (f:=λu=>pure (Od u)) h4 rfl)))
  rw[show _=_ from hh]
 ·show Run (if acc.length<OG then bw k t cond elt src xs (acc++[u]) else M.fail) _ _ _;rw[Xs hl];exact h5
theorem tU{cond:M Bool}(h:aX src st)(h1:Run (cT t (O2 k) x) (OZ k OB++st) () s1)(h2:Run cond s1 OE s2)
  (h5:Run (bw k t cond elt src xs acc) (s2.drop k) us st2):Run (bw k t cond elt src (x::xs) acc) st us st2:=by
 refine ab (aM h) (ab (a:=OB) (st1:=s2.drop k) ?_ h5);show inScope k _ st=_;unfold inScope;have hh:Run (cT t (O2 k) x >>= λ_=>cond >>= λb=>if b=OA then(elt >>= λr=>lift r >>= λu=>pure (Od u)) else pure OB) (OZ k OB++st) OB s2 :=
  ab h1 (ab h2 (show Run (pure OB:M (Option U)) s2 OB s2 from rfl))
 rw[show _=_ from hh]
theorem dR{src cond:List E}(h1:Run (ba Γ src) st rs st1)(h2:aX rs st1)(h3:DB ik rs=Od xs)(h4:Run (bw k t (aS Γ cond) (ev Γ e) rs xs []) st1 us st2):Run (ev Γ (.comp k t ik src cond e)) st (.own,.lst us) st2 :=
 ab h1 (ab (aM h2) (ab (cF h3) (ab h4 a9)))
end
section
theorem oj(h1:Run (ba Γ es) st rs st1)(h2:aX (rs.map (cH st1)) st1)(h3:Γ f ((rs.map (cH st1)).map (·.2))=Od (.ok (k,.tup (u::ws))))(hk:k=.own\/k=.loc)(h4:l9 (rs.map (cH st1)) is=OA)(h5:eM (rs.map (cH st1)) is ws st1=Od st2):
  Run (ev Γ (.BV f es is)) st (k,u) st2:=by
 have hF:Run (ba Γ es >>= vR) st (rs.map (cH st1)) st1:=ab h1 (show Run (vR rs) st1 (rs.map (cH st1)) st1 from rfl);refine ab hF (ab (aM h2) ?_);show l_ Γ f _ is st1=_;unfold l_;rw[h3];rcases hk with rfl|rfl
 ·show(if _ then _ else _)=_;rw[Xs h4,h5]
 ·show(if _ then _ else _)=_;rw[Xs h4,h5]
theorem AZ(h:st[i]?=Od (Od (k,.lst us)))(hk:k.root=OA)(hu:us[us.length - 1]?=Od u):Run (ev Γ (.pop i)) st (.loc,u) (st.set i (Od (k,.lst us.dropLast))):=by
 show sI i st=_;unfold sI;rw[h];show(if _ then _ else _)=_;rw[Xs hk,hu]
theorem zw(h0:st[i]?=Od (Od (k0,.lst us0)))(Dh:k0≠.B1)(h1:Run (ev Γ e) st (ky,.int j) st1)(h:st1[i]?=Od (Od (k,.lst us)))(hk:k.root=OA)(j0:0<=j)(j1:j<1000000)(hu:us[j.toNat]?=Od u):Run (ev Γ (.Dz i e)) st (.loc,u) (st1.set i (Od (k,.lst (us.eraseIdx j.toNat)))):=by
 refine ab (dQ h0 Dh) (ab (a:=()) (st1:=st) rfl (ab h1 ?_));show qL i (.int j) st1=_;unfold qL
 dsimp only
 rw[h];show(if _ then _ else _)=_;rw[Xs ⟨hk,j0,j1⟩,hu]
theorem bC(hn:us.length=fn.np)(hs:bR is us fn.ns=st0)(h:Run (execs Γ body) st0 f st)(hf:Jh f=Od (k,u))(hw:Gu is st=Od ws):eE Γ fn is body us=Od (.ok (k,.tup (u::ws))):=by
 subst hs;unfold eE;rw[Xs hn,show execs Γ body (bR is us fn.ns)=_ from h];show(Jh f).bind _=_;rw[hf];show(Gu is st).map _=_;rw[hw];rfl
end
def C9(Pg:List Fn)(f:Str)(fn:Fn):Prop:=(Pg.find? λg=>OI (g.name=f))=Od fn
section
theorem bI(h:C9 Pg f fn)(us:List U)(CO:fn.io=OB:=by rfl):Cg Pg (d+1) f us=c8 (Cg Pg d) fn us:=by
 show(match Pg.find? λg=>OI (g.name=f) with|some fn=>gh (Cg Pg d) fn us|none=>OB)=_;rw[show _=Od fn from h];show gh _ _ _=_;unfold gh;rw[CO]
theorem bN(h:C9 Pg f fn)(us:List U)(CO:fn.io=Od (is,b)):Cg Pg (d+1) f us=eE (Cg Pg d) fn is b us:=by
 show(match Pg.find? λg=>OI (g.name=f) with|some fn=>gh (Cg Pg d) fn us|none=>OB)=_;rw[show _=Od fn from h];show gh _ _ _=_;unfold gh;rw[CO]
end
theorem cL(h:0<j):EH .mod (k,.int i) (k',.int j)=Od (.loc,.int (i % j)):=by show(vL i j).map _=_;rw[vL,Xs h];rfl
theorem iW(h:0<j/\j<1073741824):EH .EZ (k,.int i) (k',.int j)=Od (.loc,.int (i / j)):=by show(vK i j).map _=_;rw[vK,Xs h];rfl
theorem g_(h:(-(2 ^ 64)<i/\i<2 ^ 64)\/(-(2 ^ 64)<j/\j<2 ^ 64)):EH .mul (k,.int i) (k',.int j)=Od (.loc,.int (i * j)):=by show(vJ i j).map _=_;rw[vJ,Xs h];rfl
theorem j5(h:0<=j/\j<=1000000/\i.natAbs<2 ^ 64):EH .pow (k,.int i) (k',.int j)=Od (.loc,.int (i ^ j.toNat)):=by show(vM i j).map _=_;rw[vM,Xs h];rfl
theorem bt:EH .add (k,.int i) (k',.int j)=Od (.loc,.int (i+j)):=rfl
theorem bU(h:CS xs i=Od u):dG (k,.lst xs) (.int i)=Od (kE k,u):=by show(CS xs i).map _=_;rw[h];rfl
theorem m8(h:CS xs i=Od u):dG (k,.tup xs) (.int i)=Od (kE k,u):=by show(CS xs i).map _=_;rw[h];rfl
local macro_rules
 |`(tactic| sizeOf_list_dec)=>`(tactic| first|exact au|apply ax|apply iU|apply cw|exact ah|exact aa rfl|exact aU rfl|exact aP rfl|apply bb|apply fO|apply aL|apply bX|apply dc|apply tN|apply aQ|exact ak|apply ae|apply fP|apply gE|exact a_|apply az|exact aH|exact Ie|(first|exact trivial|exact⟨⟨_,rfl,rfl⟩,trivial⟩|exact⟨⟨_,rfl,rfl⟩,⟨_,rfl,rfl⟩,trivial⟩)|exact bt|exact mX|exact cL (by first|omega|decide)|exact iW (by first|omega|decide)|exact g_ (by first|omega|decide)|exact j5 (by decide)|exact aD|exact cv|exact iT|exact dk|exact pU|exact mE rfl|exact O_ _|exact rfl|exact Ft)
theorem tV(h:OI (i<j)=c):b7 .lt (.int i) (.int j)=Od c:=by subst h;rfl
theorem jM(h:OI (j<i)=c):b7 .gt (.int i) (.int j)=Od c:=by subst h;rfl
theorem bH(h:(i==j)=c):b7 .eq (.int i) (.int j)=Od c:=by subst h;rfl
theorem bF:Ds .len [(k,.lst xs)]=Od (.loc,.int (xs.length:Nat)):=rfl
theorem kZ:Ds .len [(k,.tup xs)]=Od (.loc,.int (xs.length:Nat)):=rfl
theorem tW(x:Kd×U):DB .Cq [x]=sG x:=rfl
theorem fg(h:n<2 ^ 62):DB .Cq [(k,.int (n:Nat))]=Od ((O2 n).map λi:Nat=>(Kd.loc,U.int (0+(i:Int)))):=by
 rw[tW,sG,Xs ⋯,Si]
end TM
local macro_rules
 |`(tactic| sizeOf_list_dec)=>`(tactic| first|exact TM.au|apply TM.ax|apply TM.iU|apply TM.cw|exact TM.ah|exact TM.aa rfl|exact TM.aU rfl|exact TM.aP rfl|apply TM.bb|apply TM.fO|apply TM.aL|apply TM.bX|apply TM.dc|apply TM.tN|apply TM.aQ|exact TM.ak|apply TM.ae|apply TM.fP|apply TM.gE|exact TM.a_|apply TM.az|exact TM.aH|exact TM.Ie|(first|exact trivial|exact⟨⟨_,rfl,rfl⟩,trivial⟩|exact⟨⟨_,rfl,rfl⟩,⟨_,rfl,rfl⟩,trivial⟩)|exact TM.bt|exact TM.mX|exact TM.cL (by first|omega|decide)|exact TM.iW (by first|omega|decide)|exact TM.g_ (by first|omega|decide)|exact TM.j5 (by decide)|exact TM.aD|exact TM.cv|exact TM.iT|exact TM.dk|exact TM.pU|exact TM.mE rfl|exact O_ _|exact rfl|exact TM.Ft)
namespace CB
open PySem L2
theorem len_list(x:Str):x.length=x.cps.toList.length:=by simp[Xj]
theorem qY(h0:0<=k)(h1:k<=99):(rZ k).length<=2:=by
 obtain⟨m,rfl⟩:=PN h0;have hm:m<100:=by omega
 clear h0 h1;revert m;decide +kernel
theorem dm:∀(ps:List Str) (acc:Array Nat),(ps.foldl (λacc p=>acc++Pn.cps++p.cps) acc).toList=acc.toList++(ps.map λp=>p.cps.toList).flatten
 |[],acc=>by simp
 |p::ps,acc=>by
  rw[TY,dm ps];have:Pn.cps=#[]:=rfl;simp[this]
theorem join_list(ts:List Str):(SU Pn ts).cps.toList=(ts.map λp=>p.cps.toList).flatten:=by
 cases ts with
 |nil=>rfl
 |cons t ts =>
  show(ts.foldl (λacc p=>acc++Pn.cps++p.cps) t.cps).toList=_;rw[dm];simp
def one(c:Nat):Str:=⟨#[c]⟩
theorem join_ones(cs:List Nat):(SU Pn (cs.map one)).cps.toList=cs:=by
 rw[join_list,Pp];induction cs with
 |nil=>rfl
 |cons c cs ih=>rw[OQ,List.flatten_cons,ih];rfl
theorem mF(cs:List Nat)(h:cs.length<=100):Wj Pn (cs.map one)=OA:=by
 unfold Wj;have e:=PySem.StrLaws.joinTotal Pn (cs.map one);have e0:Pn.length=0:=rfl;have es:((cs.map one).map (·.length)).sum=cs.length:=by
  rw[Pp];clear h e;induction cs with
  |nil=>rfl
  |cons c cs ih=>rw[OQ,Rc,ih];show 1+cs.length=cs.length+1;omega
 rw[e,e0,es];have hm:cs.length+(cs.map one).length * 0<=100:=by omega
 revert hm;generalize cs.length+(cs.map one).length * 0=m;revert m;decide
theorem zx(x:Str)(j:Nat):(PySem.StrLaws.sliceText x OB (Od (j:Int))).cps.toList=x.cps.toList.take j:=by
 by_cases h:j<=x.cps.toList.length
 ·rw[PySem.StrLaws.sliceText_to (x:=x) ⟨⋯,⋯⟩];simp
 ·have e:PySem.StrLaws.sliceText x OB (Od (j:Int))=PySem.StrLaws.sliceText x OB (Od (x.length:Int)):=by
   unfold PySem.StrLaws.sliceText;have hl:=len_list x;have:PySem.Builtin.Str.strSliceIndices OB (Od (j:Int)) 1 x.length=PySem.Builtin.Str.strSliceIndices OB (Od (x.length:Int)) 1 x.length:=by
    have h1:¬((j:Int)<0):=by omega
    have h2:¬((x.length:Int)<0):=by omega
    have e1:min (j:Int) (x.length:Int)=x.length:=by omega
    simp[PySem.Builtin.Str.strSliceIndices,h1,h2,e1]
   rw[this]
  have hl:=len_list x;rw[e,PySem.StrLaws.sliceText_to (x:=x) ⟨⋯,⋯⟩,List.drop_zero,QL (l:=x.cps.toList) (i:=j) ⋯];show(x.cps.toList.take ((x.length:Int) - 0).toNat).toArray.toList=_;rw[QL ⋯]
def small:Str:="abcdefghijklmnopqrstuvwxyz"
theorem mG [DecidableEq α]:∀{l m:List α},l.Nodup->(∀x∈l,x∈m)->l.length<=m.length
 |[],_,_,_=>O_ _
 |x::l,m,hn,h=>by
  obtain⟨h1,h2⟩:=PX.mp hn;have hx:=h x PB;have ih:=mG (l:=l) (m:=m.erase x) h2 λy hy=>(U9 (by rintro rfl;exact h1 hy)).mpr (h y (Py _ hy));rw[List.length_erase_of_mem hx]at ih;have:0<m.length:=List.length_pos_of_mem hx;rw[Pb];omega
end CB
namespace TM
open PySem L2 CB
theorem ka(hx:x.length<=OG)(h:CS x.cps.toList i=Od c):dG (k,.str x) (.int i)=Od (.loc,.str (CB.one c)):=by
 simp only[dG];rw[Xs hx,h];rfl
theorem mH:small.length<=OG:=by decide
theorem gr:∀(ss:List Str),strsOf (ss.map U.str)=Od ss
 |[]=>rfl
 |s::ss=>by show(strsOf (ss.map U.str)).map (s::·)=_;rw[gr ss];rfl
section
theorem k5(h:x.length+y.length<=OG):EH .add (k,.str x) (k',.str y)=Od (.loc,.str (x++y)):=by
 simp only[EH,vI];rw[Xs h]
theorem eh:∀(ss:List Str) (n:Nat),iD n (ss.map U.str)=OA
 |[],n=>by simp[iD]
 |s::ss,n=>by simp only[OQ,iD,eh ss n,Ta];cases n<;>rfl
theorem mI(x:Str):∀(ss:List Str),((ss.map U.str).any λy=>bJ y (.str x))=OI (x∈ss)
 |[]=>by simp
 |s::ss=>by
  rw[OQ,S_,mI x ss];have:bJ (.str s) (.str x)=OI (x=s):=by
   simp only[bJ];by_cases h:x=s
   ·subst h;simp
   ·have h':s≠x:=λz=>h z.symm;simp[h,h']
  rw[this,Rj];simp
theorem wM(x:Str)(ss:List Str):Gq (.str x) (ss.map U.str)=Od (OI (x∈ss)):=by
 unfold Gq;rw[Xs ⟨by rfl,eh ss 50⟩,mI]
theorem iX{ss:List Str}:b7 .Cd (.str x) (.lst (ss.map U.str))=Od (OI (x∉ss)):=by
 show(Gq (.str x) (ss.map U.str)).map (!·)=_;rw[wM];simp
end
section
end
theorem iY(h1:Run (ev Γ ve) st rv st1)(h2:st1[i]?=Od (Od (k',u')))(h3:Run (ev Γ ke) st1 rk st2)(h4:Run (cu [rv,rk]) st2 [uv,uk] CI)(h5:CI[i]?=Od (Od (k,u0)))(hk:k.root=OA)(h6:dJ uk uv u0=Od u1)
  (h7:Run (execs Γ ss) (CI.set i (Od (k,u1))) f GX) (hn:k'≠.B1:=by intro z;cases z):Run (execs Γ (.put i ke ve::ss)) st f GX:=by
 refine kX (ab h1 (ab (dQ h2 hn) (ab h3 (ab h4 (ab (a:=()) (st1:=CI.set i (Od (k,u1))) ?_ a9))))) h7;show modS i (pe [uv,uk]) CI=_;unfold modS;rw[h5];simp only[hk,if_true];show(match dJ uk uv u0 with|some u'=>_|none=>OB)=_;rw[h6]
abbrev Row:=Str×List Str
def BX(r:Row):U:=.tup [.str r.1,.tup (r.2.map .str)]
def keyOf(r:Row):Row:=(r.1,aF r.2)
theorem sorted_strs(h:ss.length<64):Ds .sorted [(k,.tup (ss.map .str))]=Od (.own,.lst ((aF ss).map .str)):=by
 show(strsOf (ss.map U.str)).bind _=_;rw[gr];show(if ss.length<64 then _ else _)=_;rw[Xs h]
section
theorem om(h:Run (ev Γ e) st (k,.bl p) st)(h2:p=OA->Run (fH Γ (e2::es)) st (.loc,.bl q) st):Run (fH Γ (e::e2::es)) st (.loc,.bl (p&&q)) st:=by
 refine zu h ?_;cases p with
 |true=>rw[Xs rfl];exact h2 rfl
 |false=>rw[Xu O'];exact⟨rfl,rfl⟩
theorem xH(h:Run (Cc Γ e) st p st)(h2:p=OE->Run (dI Γ (e2::es)) st q st):Run (dI Γ (e::e2::es)) st (p||q) st:=by
 cases p with
 |true=>exact AV h
 |false=>exact tS h (h2 rfl)
theorem tX(h:Run (Cc Γ e) st p st)(h2:p=OA->Run (aS Γ (e2::es)) st q st):Run (aS Γ (e::e2::es)) st (p&&q) st:=by
 cases p with
 |true=>exact iS h (h2 rfl)
 |false=>exact oi h
theorem gs{cond:M Bool}(h:aX src st)(k:Kd)(hk:k=.loc\/k=.any)(enc g:α->U)(kd:Kd)(hc:∀y,Run cond (Od (k,enc y)::st) OA (Od (k,enc y)::st)):∀(ys:List α) (acc:List U),acc.length+ys.length<=OG ->
  (∀y∈ys,Run elt (Od (k,enc y)::st) (kd,g y) (Od (k,enc y)::st)/\Run (lift (kd,g y)) (Od (k,enc y)::st) (g y) (Od (k,enc y)::st))->Run (bw 1 OE cond elt src (ys.map λy=>(k,enc y)) acc) st (acc++ys.map g) st
 |[],acc,_,_=>by rw[QM,QM,P8];exact pW h
 |y::ys,acc,hl,hx=>by
  obtain⟨h2,h3⟩:=hx y (by simp);rw[Pb]at hl;refine kY (s1:=Od (k,enc y)::st) (s2:=Od (k,enc y)::st) (s3:=Od (k,enc y)::st) (s4:=Od (k,enc y)::st) h ?_ (hc y) h2 h3 ⋯ ?_
  ·rcases hk with rfl|rfl
   ·exact iV aD
   ·exact iV iT
  ·have:=gs h k hk enc g kd hc ys (acc++[g y]) (by simp;omega) λz hz=>hx z (by simp[hz]);rw[OQ];simpa using this
theorem oo{cond:M Bool}(h:aX src st)(k:Kd)(hk:k=.loc\/k=.any)(enc g:α->U)(p:α->Bool)(kd:Kd):∀(ys:List α) (acc:List U),acc.length+ys.length<=OG ->
  (∀y∈ys,Run cond (Od (k,enc y)::st) (p y) (Od (k,enc y)::st)/\(p y=OA->Run elt (Od (k,enc y)::st) (kd,g y) (Od (k,enc y)::st)/\Run (lift (kd,g y)) (Od (k,enc y)::st) (g y) (Od (k,enc y)::st)))->Run (bw 1 OE cond elt src (ys.map λy=>(k,enc y)) acc) st (acc++(ys.filter p).map g) st
 |[],acc,_,_=>by rw[QM,V7,QM,P8];exact pW h
 |y::ys,acc,hl,hx=>by
  obtain⟨h1,NO⟩:=hx y (by simp);rw[Pb]at hl;have ht:Run (cT OE (O2 1) (k,enc y)) (OZ 1 OB++st) () (Od (k,enc y)::st):=by
   rcases hk with rfl|rfl
   ·exact iV aD
   ·exact iV iT
  cases hp:p y with
  |true =>
   rw[hp]at h1;obtain⟨h2,h3⟩:=NO hp;refine kY (s1:=Od (k,enc y)::st) (s2:=Od (k,enc y)::st) (s3:=Od (k,enc y)::st) (s4:=Od (k,enc y)::st) h ht h1 h2 h3 ⋯ ?_;have:=oo h k hk enc g p kd ys (acc++[g y]) (by simp;omega) λz hz=>hx z (by simp[hz]);rw[Ss,Xs hp,OQ];simpa using this
  |false =>
   rw[hp]at h1;refine tU (s1:=Od (k,enc y)::st) (s2:=Od (k,enc y)::st) h ht h1 ?_;have:=oo h k hk enc g p kd ys acc ⋯ λz hz=>hx z (by simp[hz]);rw[Ss,Xu (by simp[hp])];exact this
theorem dS(it:α->Kd×U)(I:List α->List α->ay->Prop)(hs:∀d r st,I d r st->aX rs st)
  (VP:∀d y r st,I d (y::r) st->∃st1 st2,Run (cT t is (it y)) st () st1/\Run body st1 .nx st2/\I (d++[y]) r st2):∀(r d:List α) (st:ay),I d r st->∃st',Run (forM t is body rs (r.map it)) st .nx st'/\I (d++r) [] st'
 |[],d,st,h=>⟨st,pV (hs _ _ _ h),by rw[P8];exact h⟩
 |y::r,d,st,h=>by
  obtain⟨s1,s2,h1,h2,h3⟩:=VP d y r st h;obtain⟨s3,h4,h5⟩:=dS it I hs VP r (d++[y]) s2 h3;exact⟨s3,wL (hs _ _ _ h) h1 h2 h4,by simpa using h5⟩
theorem zy(h1:Run (ba Γ es) st rs st1)(h2:aX rs st1)(h3:Γ f (rs.map (·.2))=Od (.ok r))(h4:jm r.2=Od b)(hr:isAny r.1=OE:=by exact rfl):Run (Cc Γ (.call f es)) st b st1:=ab h1 (ab (aM h2) (ab (pS h3 hr) (cF h4)))
theorem tY(h:Run (ev Γ (.bi f es)) st (k,.bl b) st1):Run (Cc Γ (.bi f es)) st b st1:=by
 have h':(ba Γ es >>= λrs=>ar rs >>= λ_=>M.Ca (Ds f rs)) st=Od (.ok (k,.bl b),st1):=h;obtain⟨rs,s1,e1,e2,s2,e3,r,s3,e4,e5⟩:∃rs s1,ba Γ es st=Od (.ok rs,s1)/\∃(a:Unit) (s2:ay),ar rs s1=Od (.ok a,s2)/\∃r s3,M.Ca (Ds f rs) s2=Od (.ok r,s3)/\(r,s3)=((k,U.bl b),st1):=by
  have w:W (ba Γ es >>= λrs=>ar rs >>= λ_=>M.Ca (Ds f rs)) st λr s=>(r,s)=((k,U.bl b),st1):=⟨_,_,h',rfl⟩
  rw[af]at w;obtain⟨rs,s1,e1,w⟩:=w;rw[af]at w;obtain⟨a,s2,e2,w⟩:=w;obtain⟨r,s3,e3,w⟩:=w;exact⟨rs,s1,e1,a,s2,e2,r,s3,e3,w⟩
 cases e5;exact ab e1 (ab (a:=e2) e3 (ab e4 (cF rfl)))
end
theorem jN:∀ss:List Str,bD (ss.map U.str)=OA
 |[]=>by simp[bD]
 |s::ss=>by simp[bD,Co,jN ss]
theorem k6(r:Row):Co (BX r)=OA:=by simp[BX,Co,bD,jN]
theorem cm:∀rs:List Row,bD (rs.map BX)=OA
 |[]=>by simp[bD]
 |r::rs=>by simp[bD,k6,cm rs]
theorem iZ:∀(a b:List Str),bY (a.map U.str) (b.map U.str)=OI (a=b)
 |[],[]=>by simp[bY]
 |[],_::_=>by simp[bY]
 |_::_,[]=>by simp[bY]
 |x::a,y::b=>by
  rw[OQ,OQ,bY,iZ a b];simp only[bJ];by_cases h:x=y
  ·subst h;simp
  ·simp[h]
theorem i5(ss:List Str)(n:Nat):DA (n+1) (.lst (ss.map U.str))=OA:=by simp[DA,eh]
theorem tZ{a b:List Str}:b7 .eq (.lst (a.map U.str)) (.lst (b.map U.str))=Od (OI (a=b)):=by
 simp only[b7];rw[Xs ⟨i5 a 49,i5 b 49⟩];simp only[bJ,iZ]
theorem pX:b7 .eq (.str a) (.str b)=Od (OI (a=b)):=by
 simp only[b7];rw[Xs ⟨rfl,rfl⟩];simp only[bJ];by_cases h:a=b
 ·subst h;simp
 ·simp[h]
theorem wN(f:α->β)(xs:List α)(lo hi:Option Int):cut (xs.map f) lo hi=(cut xs lo hi).map f:=by simp[cut,Wo,Wq]
theorem wO(xs:List α)(lo hi:Option Int):(cut xs lo hi).length<=xs.length:=by simp[cut];omega
theorem t5(h:fG k (ds.map U.int)=OA):l8 (k,.lst (ds.map .int)) lo hi=Od (.own,.lst ((cut ds lo hi).map .int)):=by
 simp only[l8];rw[Xs h,wN]
section
end
section
theorem t6(h1:Run (ev Γ a) st x st1)(h2:mf x.2 T=Od b):Run (ev Γ (.DQ a T)) st (.loc,.bl b) st1:=ab h1 (ab (cF h2) a9)
theorem dU(h1:Run (ev Γ a) st x st1)(h2:mf x.2 T=Od b):Run (Cc Γ (.DQ a T)) st b st1:=ab h1 (cF h2)
end
theorem wQ(h:ks.length<1000):dJ (.str x) u (.CD ks us)=Od (.CD (dput ks us x u).1 (dput ks us x u).2):=by
 have hsz:(1000:Nat)<=OG:=by decide
 show(if ks.length<OG then _ else _)=_;rw[Xs ⋯]
end TM
namespace Od
section
variable{W:Type}[DecidableEq W]{rows:List (W×List W)}
end
end Od
namespace TM
open PySem L2 CB
section
theorem pY(h:Run c st OE st1):Run (eD c body (n+1)) st .nx st1:=ab h a9
theorem t7(h:Run c st OA st1)(h2:Run body st1 .nx st2)(h3:Run (eD c body n) st2 f CI):Run (eD c body (n+1)) st f CI:=ab h (ab h2 h3)
theorem t8(h:Run (eD (Cc Γ c) (execs Γ body) fuel) st .nx st1)(h2:Run (execs Γ ss) st1 f st2):Run (execs Γ (.EG c body::ss)) st f st2:=kX h h2
theorem pZ(hk:k=.loc\/k=.any):Run (cT OA [i,j] (k,.tup [a,b])) st () ((st.set i (Od (k,a))).set j (Od (k,b))):=by
 rcases hk with rfl|rfl<;>rfl
end
theorem t9:b7 .isin (.str x) (.CD ks vs)=Od (OI (x∈ks)):=rfl
theorem jO:b7 .Cd (.str x) (.CD ks vs)=Od (!OI (x∈ks)):=rfl
theorem p5(bs:List Bool):Ds .all [(k,.lst (bs.map .bl))]=Od (.loc,.bl (bs.all id)):=by
 show(iE (bs.map U.bl)).map _=_;have:∀bs:List Bool,iE (bs.map U.bl)=Od bs:=λbs=>by
  induction bs with
  |nil=>rfl
  |cons b bs ih=>show(iE (bs.map U.bl)).map _=_;rw[ih];rfl
 rw[this];rfl
section
theorem jP{told known:List Str}(hk:k=.loc\/k=.any)(hl:told.length<=1000)(hs:Run (ev Γ src) st (.loc,.tup (told.map .str)) st)(hj:st[j]?=Od (Od (k,w))\/st[j]?=Od (Od (.own,w)))(hw:∀x:Str,b7 .isin (.str x) w=Od (OI (x∈known))):
  Run (ev Γ (.bi .all [.comp 1 OE .seq [src] [] (.cmp .isin (.var 0) (.var (j+1)))])) st (.loc,.bl (told.all λx=>OI (x∈known))) st:=by
 have hsz:(1000:Nat)<=OG:=by decide
 have hx:=gs (cond:=aS Γ []) (elt:=ev Γ (.cmp .isin (.var 0) (.var (j+1)))) (src:=[(.loc,.tup (told.map .str))]) (st:=st) trivial .loc (.inl rfl) U.str (λx=>.bl (OI (x∈known))) .loc (λ_=>iR) told [] (by simp;omega)
  (λy _=>⟨by
   rcases hj with hj|hj
   ·rcases hk with rfl|rfl
    ·exact fO (aa rfl) (aa (by simpa using hj)) trivial (hw y)
    ·exact fO (aa rfl) (aU (by simpa using hj)) trivial (hw y)
   ·exact fO (aa rfl) (aP (by simpa using hj)) ⟨⟨.own,rfl,by simpa using hj⟩,trivial⟩ (hw y),aH⟩)
 rw[Pu]at hx;have e:(told.map U.str).map (λu=>(kE .loc,u))=told.map λr=>(Kd.loc,U.str r):=by rw[Pp];rfl
 have e2:(told.map λx=>U.bl (OI (x∈known)))=(told.map λx=>OI (x∈known)).map U.bl:=by rw[Pp];rfl
 rw[e2]at hx;have e3:(told.all λx=>OI (x∈known))=((told.map λx=>OI (x∈known)).all id):=by rw[UT];rfl
 rw[e3];exact bX (ae (dR (rs:=[(.loc,.tup (told.map .str))]) (ae hs ak) trivial (by show Od _=_;rw[e]) hx) ak) trivial (p5 _)
end
theorem wR:b7 .eq (.tup (ss.map U.str)) (.tup [])=Od (OI (ss=[])):=by
 simp only[b7];rw[Xs ⟨by simp[DA,eh],by simp[DA,iD]⟩];cases ss with
 |_=>simp[bJ,bY]
theorem oq{cond:M Bool}(h:aX src st)(a b g:α->U)(p:α->Bool):∀(ys:List α) (acc:List U),acc.length+ys.length<=OG ->
  (∀y∈ys,Run cond (Od (.loc,a y)::Od (.loc,b y)::st) (p y) (Od (.loc,a y)::Od (.loc,b y)::st)/\Run elt (Od (.loc,a y)::Od (.loc,b y)::st) (.loc,g y) (Od (.loc,a y)::Od (.loc,b y)::st)) ->
  Run (bw 2 OA cond elt src (ys.map λy=>(Kd.loc,U.tup [a y,b y])) acc) st (acc++(ys.filter p).map g) st
 |[],acc,_,_=>by rw[QM,V7,QM,P8];exact pW h
 |y::ys,acc,hl,hx=>by
  obtain⟨h1,h2⟩:=hx y (by simp);rw[Pb]at hl;have ht:Run (cT OA (O2 2) (.loc,.tup [a y,b y])) (OZ 2 OB++st) () (Od (.loc,a y)::Od (.loc,b y)::st):=pZ (.inl rfl);cases hp:p y with
  |true =>
   rw[hp]at h1;refine kY (s1:=Od (.loc,a y)::Od (.loc,b y)::st) (s2:=Od (.loc,a y)::Od (.loc,b y)::st) (s3:=Od (.loc,a y)::Od (.loc,b y)::st) (s4:=Od (.loc,a y)::Od (.loc,b y)::st) h ht h1 h2 aH ⋯ ?_;have:=oq h a b g p ys (acc++[g y]) (by simp;omega) λz hz=>hx z (by simp[hz]);rw[Ss,Xs hp,OQ];simpa using this
  |false =>
   rw[hp]at h1;refine tU (s1:=Od (.loc,a y)::Od (.loc,b y)::st) (s2:=Od (.loc,a y)::Od (.loc,b y)::st) h ht h1 ?_;have:=oq h a b g p ys acc ⋯ λz hz=>hx z (by simp[hz]);rw[Ss,Xu (by simp[hp])];exact this
end TM
namespace TM
open PySem L2
section
theorem cy(h:st[i]?=Od (Od (.io,u))):Run (ev Γ (.var i)) st (.bor i,u) st:=dQ h
end
def zA:List S :=
   [.ite (.cmp .eq (.bi .len [.var 0]) (.cst (.int 0)))
      [.ret (.lst [.var 1,.cst (.int 0),.cst (.int 1)])]
      [],
    .set 2 (.pop 0),
    .ret (.lst [(.bin .EZ (.var 2) (.cst (.int 2))),(.cst (.int 0)),(.bin .mod (.var 2) (.cst (.int 2)))])]
def wU:Fn:=⟨"_law_source",2,3,.Dr [0]::zA⟩
theorem LM:(3:Nat)<=OG:=by decide
theorem t_:eE Γ wU [0] zA [.lst [],.int k]=Od (.ok (.own,.tup [.lst [.int k,.int 0,.int 1],.lst []])):=by
 refine bC (st0:=[Od (.io,.lst []),Od (.loc,.int k),OB]) (f:=.rt .own (.lst [.int k,.int 0,.int 1])) (st:=[Od (.io,.lst []),Od (.loc,.int k),OB]) rfl rfl ?_ rfl rfl;apply ff
 all_goals repeat' (first|exact cy rfl|exact bH (by simp)|exact bF|exact LM|sizeOf_list_dec)
theorem ua:eE Γ wU [0] zA [.lst ((ns++[c]).map .int),.int k]=Od (.ok (.own,.tup [.lst [.int (c / 2),.int 0,.int (c % 2)],.lst (ns.map .int)])):=by
 have hl:b7 .eq (.int (((ns++[c]).map U.int).length:Nat)) (.int 0)=Od OE:=bH (by simp;omega);have hd:((ns++[c]).map U.int).dropLast=ns.map .int:=by simp
 have hp:Run (ev Γ (.pop 0)) [Od (.io,.lst ((ns++[c]).map .int)),Od (.loc,.int k),OB] (.loc,.int c) [Od (.io,.lst (ns.map .int)),Od (.loc,.int k),OB]:=by
  have:=AZ (Γ:=Γ) (st:=[Od (.io,.lst ((ns++[c]).map .int)),Od (.loc,.int k),OB]) (i:=0) (u:=.int c) (us:=(ns++[c]).map .int) (k:=.io) rfl rfl (by simp);rw[hd]at this;exact this
 refine bC (st0:=[Od (.io,.lst ((ns++[c]).map .int)),Od (.loc,.int k),OB]) (f:=.rt .own (.lst [.int (c / 2),.int 0,.int (c % 2)])) (st:=[Od (.io,.lst (ns.map .int)),Od (.loc,.int k),Od (.loc,.int c)]) rfl rfl ?_ rfl rfl;refine aK (st1:=[Od (.io,.lst ((ns++[c]).map .int)),Od (.loc,.int k),OB]) ?_ au (ax (st2:=[Od (.io,.lst (ns.map .int)),Od (.loc,.int k),Od (.loc,.int c)]) hp aD ?_)
 all_goals repeat' (first|exact cy rfl|exact hl|exact bF|exact LM|sizeOf_list_dec)
def du(a t w:Int):U:=.lst [.int a,.int t,.int w]
def jQ(a t w m:Int):Int:=if w=0 then a % m else((a % 10 ^ 15+1) * 48271+(t+1) * (t+1) * 16807+(t+1) * 7919) % 2147483647 * 69621 % 2147483629 % m
def ub(a w m:Int):Int:=if w=0 then a / m else a
def xI:List S :=
   [.put 0 (.cst (.int 1)) (.bin .add (.idx (.var 0) (.cst (.int 1))) (.cst (.int 1))),
    .ite (.cmp .eq (.idx (.var 0) (.cst (.int 2))) (.cst (.int 0)))
      [.set 2 (.bin .mod (.idx (.var 0) (.cst (.int 0))) (.var 1)),
      .put 0 (.cst (.int 0)) (.bin .EZ (.idx (.var 0) (.cst (.int 0))) (.var 1)),
      .ret (.var 2)]
      [],
    .set 3 (.idx (.var 0) (.cst (.int 1))),
    .set 4 (.bin .add (.bin .add (.bin .mul (.bin .add (.bin .mod (.idx (.var 0) (.cst (.int 0))) (.bin .pow (.cst (.int 10)) (.cst (.int 15)))) (.cst (.int 1))) (.cst (.int 48271))) (.bin .mul (.bin .mul (.var 3) (.var 3)) (.cst (.int 16807)))) (.bin .mul (.var 3) (.cst (.int 7919)))),
    .ret (.bin .mod (.bin .mod (.bin .mul (.bin .mod (.var 4) (.cst (.int 2147483647))) (.cst (.int 69621))) (.cst (.int 2147483629))) (.var 1))]
def uc:Fn:=⟨"_law_draw",2,5,.Dr [0]::xI⟩
theorem ud(t0:0<=t)(t1:t<2 ^ 62)(m0:0<m)(m1:m<1073741824):eE Γ uc [0] xI [du a t w,.int m]=Od (.ok (.loc,.tup [.int (jQ a t w m),du (ub a w m) (t+1) w])):=by
 unfold jQ ub du;have i0:∀a t w:Int,CS [U.int a,.int t,.int w] 0=Od (.int a):=λa t w=>rfl;have i1:∀a t w:Int,CS [U.int a,.int t,.int w] 1=Od (.int t):=λa t w=>rfl;have i2:∀a t w:Int,CS [U.int a,.int t,.int w] 2=Od (.int w):=λa t w=>rfl;have p1:∀a t w x:Int,dJ (.int 1) (.int x) (.lst [.int a,.int t,.int w])=Od (.lst [.int a,.int x,.int w]):=λa t w x=>rfl;have p0:∀a t w x:Int,dJ (.int 0) (.int x) (.lst [.int a,.int t,.int w])=Od (.lst [.int x,.int t,.int w]):=λa t w x=>rfl;by_cases hw:w=0
 ·subst hw;rw[Xs rfl,Xs rfl];refine bC (st0:=[Od (.io,.lst [.int a,.int t,.int 0]),Od (.loc,.int m),OB,OB,OB]) (f:=.rt .loc (.int (a % m))) (st:=[Od (.io,.lst [.int (a / m),.int (t+1),.int 0]),Od (.loc,.int m),Od (.loc,.int (a % m)),OB,OB]) rfl rfl ?_ rfl rfl;refine iY (rv:=(.loc,.int (t+1))) (rk:=(.loc,.int 1)) (k:=.io) (k':=.io) (bb (aL (cy rfl) ah (by(first|exact trivial|exact⟨⟨_,rfl,rfl⟩,trivial⟩|exact⟨⟨_,rfl,rfl⟩,⟨_,rfl,rfl⟩,trivial⟩)) (bU (i1 _ _ _))) ah (by(first|exact trivial|exact⟨⟨_,rfl,rfl⟩,trivial⟩|exact⟨⟨_,rfl,rfl⟩,⟨_,rfl,rfl⟩,trivial⟩)) bt) rfl ah (az aH (az aH a_)) rfl rfl (p1 _ _ _ _) ?_;apply ff
  ·repeat' (first|exact cy rfl|exact bU (i2 _ _ _)|exact bH (show((0:Int)==0)=OA from rfl)|sizeOf_list_dec)
  ·refine ax (st2:=[Od (.io,.lst [.int a,.int (t+1),.int 0]),Od (.loc,.int m),Od (.loc,.int (a % m)),OB,OB]) (bb (aL (cy rfl) ah (by(first|exact trivial|exact⟨⟨_,rfl,rfl⟩,trivial⟩|exact⟨⟨_,rfl,rfl⟩,⟨_,rfl,rfl⟩,trivial⟩)) (bU (i0 _ _ _))) (aa rfl) (by(first|exact trivial|exact⟨⟨_,rfl,rfl⟩,trivial⟩|exact⟨⟨_,rfl,rfl⟩,⟨_,rfl,rfl⟩,trivial⟩)) (cL m0)) aD ?_;refine iY (rv:=(.loc,.int (a / m))) (rk:=(.loc,.int 0)) (k:=.io) (k':=.io) (bb (aL (cy rfl) ah (by(first|exact trivial|exact⟨⟨_,rfl,rfl⟩,trivial⟩|exact⟨⟨_,rfl,rfl⟩,⟨_,rfl,rfl⟩,trivial⟩)) (bU (i0 _ _ _))) (aa rfl) (by(first|exact trivial|exact⟨⟨_,rfl,rfl⟩,trivial⟩|exact⟨⟨_,rfl,rfl⟩,⟨_,rfl,rfl⟩,trivial⟩)) (iW ⟨m0,m1⟩)) rfl ah (az aH (az aH a_)) rfl rfl (p0 _ _ _ _) ?_
   repeat' sizeOf_list_dec
 ·rw[Xu hw,Xu hw];refine bC (st0:=[Od (.io,.lst [.int a,.int t,.int w]),Od (.loc,.int m),OB,OB,OB]) (f:=.rt .loc (.int (((a % 10 ^ 15+1) * 48271+(t+1) * (t+1) * 16807+(t+1) * 7919) % 2147483647 * 69621 % 2147483629 % m))) (st:=[Od (.io,.lst [.int a,.int (t+1),.int w]),Od (.loc,.int m),OB,Od (.loc,.int (t+1)),Od (.loc,.int ((a % 10 ^ 15+1) * 48271+(t+1) * (t+1) * 16807+(t+1) * 7919))]) rfl rfl ?_ rfl rfl;refine iY (rv:=(.loc,.int (t+1))) (rk:=(.loc,.int 1)) (k:=.io) (k':=.io) (bb (aL (cy rfl) ah (by(first|exact trivial|exact⟨⟨_,rfl,rfl⟩,trivial⟩|exact⟨⟨_,rfl,rfl⟩,⟨_,rfl,rfl⟩,trivial⟩)) (bU (i1 _ _ _))) ah (by(first|exact trivial|exact⟨⟨_,rfl,rfl⟩,trivial⟩|exact⟨⟨_,rfl,rfl⟩,⟨_,rfl,rfl⟩,trivial⟩)) bt) rfl ah (az aH (az aH a_)) rfl rfl (p1 _ _ _ _) ?_;apply aK
  ·repeat' (first|exact cy rfl|exact bU (i2 _ _ _)|exact bH (show(w==0)=OE by simp[hw])|sizeOf_list_dec)
  ·exact au
  ·repeat' (first|exact cy rfl|exact bU (i0 _ _ _)|exact bU (i1 _ _ _)|exact cL m0|sizeOf_list_dec)
def Src(T:Int)(u:U):Prop:=∃a t w,u=du a t w/\0<=t/\t<=T
theorem Src.up(h:Src T u)(l:T<=T'):Src T' u:=let ⟨a,t,w,e,h0,h1⟩:=h;⟨a,t,w,e,h0,SD h1 l⟩
def bf(Γ:Tab):Prop:=∀(T m:Int) (u:U),Src T u->T<2 ^ 62->0<m->m<1073741824->∃n u',Γ "_law_draw" [u,.int m]=Od (.ok (.loc,.tup [.int n,u']))/\0<=n/\n<m/\Src (T+1) u'
theorem mJ(m0:0<m):0<=jQ a t w m/\jQ a t w m<m:=by
 unfold jQ;split
 ·exact⟨RT _ ⋯,R8 _ m0⟩
 ·exact⟨RT _ ⋯,R8 _ m0⟩
theorem ue(h:C9 Pg "_law_draw" uc):bf (Cg Pg (d+1)):=by
 rintro T m u ⟨a,t,w,rfl,t0,t1⟩ hT m0 m1;refine⟨jQ a t w m,du (ub a w m) (t+1) w,?_,(mJ m0).1,(mJ m0).2,⟨_,_,_,rfl,⋯,⋯⟩⟩;rw[bN h _ rfl];exact ud t0 ⋯ m0 m1
section
theorem bu(hΓ:bf Γ)(h0:st[i]?=Od (Od (k0,u0)))(Dh:k0.root=OA)(he:Run (ev Γ e) st (.loc,.int m) st1)(h1:st1[i]?=Od (Od (k,u)))(hk:k.root=OA)(hu:Src T u)(hT:T<2 ^ 62)(m0:0<m)(m1:m<1073741824):
  ∃n u',Run (ev Γ (.BV "_law_draw" [.var i,e] [0])) st (.loc,.int n) (st1.set i (Od (k,u')))/\0<=n/\n<m/\Src (T+1) u':=by
 obtain⟨n,u',e1,n0,n1,hs⟩:=hΓ T m u hu hT m0 m1;refine⟨n,u',?_,n0,n1,hs⟩;obtain⟨a,t,w,rfl,_,_⟩:=hs;obtain⟨a0,t0,w0,rfl,_,_⟩:=hu;have hg:Run (ev Γ (.var i)) st (.bor i,u0) st:=by
  have:=dQ h0 (by rintro rfl;cases Dh);unfold kv at this;rw[Xs Dh]at this;exact this
 have hf:[((Kd.bor i,u0):Kd×U),(.loc,.int m)].map (cH st1)=[(.bor i,du a0 t0 w0),(.loc,.int m)]:=by
  show [cH st1 (.bor i,u0),(.loc,.int m)]=_;unfold cH
  dsimp only
  rw[h1];simp[hk]
 refine oj (rs:=[(.bor i,u0),(.loc,.int m)]) (ws:=[du a t w]) (st1:=st1) (ae hg (ae he ak)) ?_ ?_ (.inr rfl) ?_ ?_
 ·rw[hf];exact⟨⟨k,hk,h1⟩,trivial⟩
 ·rw[hf];exact e1
 ·rw[hf];show((OA&&OI ([Od i].Nodup))&&(OA&&(OA&&OA)))=OA;simp
 ·rw[hf];show(match eZ [(Kd.bor i,du a0 t0 w0),(.loc,.int m)] 0 with|some j=>(match du a t w,st1[j]? with|.lst us,Od (Od (k,_))=>eM _ [] [] (st1.set j (Od (k,.lst us)))|_,_=>OB)|none=>OB)=_;show(match du a t w,st1[i]? with|.lst us,Od (Od (k,_))=>eM _ [] [] (st1.set i (Od (k,.lst us)))|_,_=>OB)=_;rw[h1];rfl
end
section
theorem de(h:st[i]?=Od (Od (.loc,.bl b))):Run (Cc Γ (.var i)) st b st:=ab (dQ h) (cF rfl)
end
def uf:List S :=
   [.set 6 (.idx (.var 1) (.BV "_law_draw" [.var 0,.bi .len [.var 1]] [0])),
   .ite (.and [.var 3,.cmp .gt (.var 2) (.cst (.int 0))])
    [.set 6 (.idx (.var 1) (.BV "_law_draw" [.var 0,.var 2] [0]))]
    [],
   .ite (.cmp .Cd (.var 6) (.var 4))
    [.app 4 (.var 6)]
    []]
def A0:List U:=[.int 0,.int 1,.int 1,.int 2,.int 2,.int 3,.int 8,.int 2]
def A4:List S :=
   [.set 4 (.lst []),
    .B' OE [5] .Cq [.idx (.lst [.cst (.int 0),.cst (.int 1),.cst (.int 1),.cst (.int 2),.cst (.int 2),.cst (.int 3),.cst (.int 8),.cst (.int 2)]) (.BV "_law_draw" [.var 0,.cst (.int 8)] [0])] uf,
    .ret (.tup [(.idx (.var 1) (.var 2)),(.bi .tuple [(.var 4)])])]
def A5:Fn:=⟨"_law_row",4,7,.Dr [0]::A4⟩
def bZ(u:U)(ws:List Str)(at_:Int)(b:Bool)(told:List Str)(o5 o6:Option (Kd×U)):ay:=[Od (.io,u),Od (.any,.lst (ws.map .str)),Od (.loc,.int at_),Od (.loc,.bl b),Od (.own,.lst (told.map .str)),o5,o6]
theorem k7{ws:List Str}{n:Int}(h0:0<=n)(h1:n<ws.length):∃x,x∈ws/\ws[n.toNat]?=Od x/\CS (ws.map U.str) n=Od (.str x):=by
 obtain⟨k,rfl⟩:=PN h0;have hn:k<ws.length:=by omega
 exact⟨ws[k],Qp hn,by simp[hn],gP (by simp[hn])⟩
theorem ug(hΓ:bf Γ)(hu:Src T u)(hT:T+1<2 ^ 62)(hw:ws.length<1000000)(a0:0<=at_)(a1:at_<ws.length)(ht:told.length<=8):
  ∃u' x Cu,Run (execs Γ uf) (bZ u ws at_ b told o5 o6) .nx (bZ u' ws at_ b Cu o5 (Od (.any,.str x)))/\Src (T+2) u'/\(Cu=told\/(x∈ws/\x∉told/\Cu=told++[x])):=by
 have big:(8:Nat)<OG:=by decide
 obtain⟨n,u1,r1,n0,n1,s1⟩:=bu (st:=bZ u ws at_ b told o5 o6) (st1:=bZ u ws at_ b told o5 o6) hΓ (i:=0) (k:=.io) (k0:=.io) (e:=.bi .len [.var 1]) (m:=((ws.map U.str).length:Nat)) rfl rfl (bX (ae (aU rfl) ak) trivial bF) rfl rfl hu ⋯ (by simp;omega) (by simp;omega);rw[OJ]at n1;obtain⟨x,hx,_,ex⟩:=k7 n0 n1;have q1:Run (ev Γ (.idx (.var 1) (.BV "_law_draw" [.var 0,.bi .len [.var 1]] [0]))) (bZ u ws at_ b told o5 o6) (.any,.str x) (bZ u1 ws at_ b told o5 o6):=aL (aU rfl) r1 trivial (bU (k:=.any) ex);have fin:∀(u2:U) (y:Str),y∈ws->Src (T+2) u2->∃u' x Cu,Run (execs Γ [.ite (.cmp .Cd (.var 6) (.var 4)) [.app 4 (.var 6)] []]) (bZ u2 ws at_ b told o5 (Od (.any,.str y))) .nx (bZ u' ws at_ b Cu o5 (Od (.any,.str x)))/\Src (T+2) u'/\(Cu=told\/(x∈ws/\x∉told/\Cu=told++[x])):=by
  intro u2 y hy hs;by_cases hn:y∈told
  ·refine⟨u2,y,told,?_,hs,.inl rfl⟩;refine aK (aQ (aU rfl) (aP rfl) (by(first|exact trivial|exact⟨⟨_,rfl,rfl⟩,trivial⟩|exact⟨⟨_,rfl,rfl⟩,⟨_,rfl,rfl⟩,trivial⟩)) (iX.trans (by simp[hn]))) au au
  ·refine⟨u2,y,told++[y],?_,hs,.inr ⟨hy,hn,rfl⟩⟩;refine cj (aQ (aU rfl) (aP rfl) (by(first|exact trivial|exact⟨⟨_,rfl,rfl⟩,trivial⟩|exact⟨⟨_,rfl,rfl⟩,⟨_,rfl,rfl⟩,trivial⟩)) (iX.trans (by simp[hn]))) (iU (k:=.own) (k':=.own) rfl (aU rfl) (tP rfl) rfl rfl (by simp;omega) au) ?_;rw[show told.map U.str++[U.str y]=(told++[y]).map U.str by simp];exact au
 by_cases hc:b=OA/\0<at_
 ·obtain⟨rfl,hp⟩:=hc;obtain⟨n',u2,r2,NP,Om,s2⟩:=bu (st:=bZ u1 ws at_ OA told o5 (Od (.any,.str x))) (st1:=bZ u1 ws at_ OA told o5 (Od (.any,.str x))) hΓ (i:=0) (k:=.io) (k0:=.io) (e:=.var 2) (m:=at_) rfl rfl (aa rfl) rfl rfl s1 ⋯ hp ⋯;obtain⟨y,hy,_,ey⟩:=k7 (ws:=ws) NP ⋯;obtain⟨u',z,Cu,q,hs,ho⟩:=fin u2 y hy (s2.up ⋯);refine⟨u',z,Cu,ax q1 iT (cj (iQ (iS (de rfl) (fe (aQ (aa rfl) ah trivial (jM (by simp[hp])))))) (ax (aL (aU rfl) r2 trivial (bU (k:=.any) ey)) iT au) q),hs,ho⟩
 ·obtain⟨u',z,Cu,q,hs,ho⟩:=fin u1 x hx (s1.up ⋯);refine⟨u',z,Cu,ax q1 iT (aK (st1:=bZ u1 ws at_ b told o5 (Od (.any,.str x))) (iQ ?_) au q),hs,ho⟩;cases b with
  |false=>exact oi (de rfl)
  |true=>exact iS (de rfl) (fe (aQ (aa rfl) ah trivial (jM (by simp at hc ⊢;omega))))
def i6(Γ:Tab):Prop:=∀(T at_:Int) (u:U) (ws:List Str) (b:Bool),Src T u->T+17<2 ^ 62->ws.length<1000000->0<=at_->at_<ws.length->∃(x:Str) (told:List Str) (u':U),Γ "_law_row" [u,.lst (ws.map .str),.int at_,.bl b]=Od (.ok (.loc,.tup [.tup [.str x,.tup (told.map .str)],u']))/\ws[at_.toNat]?=Od x/\told.Nodup/\(∀y∈told,y∈ws)/\told.length<=8/\Src (T+17) u'
theorem wV(h0:0<=n)(h1:n<8):∃m:Nat,m<=8/\CS A0 n=Od (.int (m:Nat)):=by
 obtain⟨k,rfl⟩:=PN h0;have:k=0\/k=1\/k=2\/k=3\/k=4\/k=5\/k=6\/k=7:=by omega
 rcases this with rfl|rfl|rfl|rfl|rfl|rfl|rfl|rfl
 ·exact⟨0,⋯,rfl⟩
 ·exact⟨1,⋯,rfl⟩
 ·exact⟨1,⋯,rfl⟩
 ·exact⟨2,⋯,rfl⟩
 ·exact⟨2,⋯,rfl⟩
 ·exact⟨3,⋯,rfl⟩
 ·exact⟨8,⋯,rfl⟩
 ·exact⟨2,⋯,rfl⟩
theorem wW(hΓ:bf Γ){ws:List Str}{T at_:Int}(hu:Src T u)(hT:T+17<2 ^ 62)(hw:ws.length<1000000)(a0:0<=at_)(a1:at_<ws.length):
  ∃(x:Str) (told:List Str) (u':U),eE Γ A5 [0] A4 [u,.lst (ws.map .str),.int at_,.bl b]=Od (.ok (.loc,.tup [.tup [.str x,.tup (told.map .str)],u']))/\ws[at_.toNat]?=Od x/\told.Nodup/\(∀y∈told,y∈ws)/\told.length<=8/\Src (T+17) u':=by
 have big:(8:Nat)<OG:=by decide
 obtain⟨x,_,hx,ex⟩:=k7 a0 a1;obtain⟨n,u1,r1,n0,n1,s1⟩:=bu (st:=bZ u ws at_ b [] OB OB) (st1:=bZ u ws at_ b [] OB OB) hΓ (i:=0) (k:=.io) (k0:=.io) (e:=.cst (.int 8)) (m:=8) rfl rfl ah rfl rfl hu ⋯ ⋯ ⋯;obtain⟨m,hm,em⟩:=wV n0 n1;obtain⟨st',hf,u2,told,o5,o6,rfl,s2,t1,t2,t3,_⟩:=dS (rs:=[(.loc,.int (m:Nat))]) (t:=OE) (is:=[5]) (body:=execs Γ uf) (λi:Nat=>(Kd.loc,U.int (0+(i:Int)))) (λd r st=>∃(u2:U) (told:List Str) (o5 o6:Option (Kd×U)),st=bZ u2 ws at_ b told o5 o6/\Src (T+1+2 * (d.length:Nat)) u2/\told.Nodup/\(∀y∈told,y∈ws)/\told.length<=d.length/\d.length+r.length=m)
  (λd r st _=>trivial) (λd y r st h=>by
   obtain⟨u2,told,o5,o6,rfl,s2,t1,t2,t3,t4⟩:=h;simp only[Pb]at t4;obtain⟨u3,z,Cu,q,s3,ho⟩:=ug hΓ (u:=u2) (ws:=ws) (told:=told) (b:=b) (at_:=at_) (o5:=Od (.loc,.int (0+(y:Int)))) (o6:=o6) s2 ⋯ hw a0 a1 ⋯;refine⟨bZ u2 ws at_ b told (Od (.loc,.int (0+(y:Int)))) o6,_,aD,q,u3,Cu,_,_,rfl,s3.up (by simp;omega),?_⟩;rw[O8,Qu];rcases ho with rfl|⟨h1,h2,rfl⟩
   ·exact⟨t1,t2,⋯,⋯⟩
   ·refine⟨Rq.mpr ⟨t1,by simp,λa ha c hc=>by rw[O1]at hc;subst hc;exact λe=>h2 (e▸ha)⟩,λy hy=>?_,by simp;omega,⋯⟩;rcases QU.mp hy with hy|hy
    ·exact t2 y hy
    ·rw[O1]at hy;subst hy;exact h1) (O2 m) [] (bZ u1 ws at_ b [] OB OB) ⟨u1,[],OB,OB,rfl,by simpa using s1,by simp,by simp,by simp,by simp⟩
 rw[Pu,P5]at s2 t3;refine⟨x,told,u2,?_,hx,t1,t2,⋯,s2.up ⋯⟩;refine bC (st0:=[Od (.io,u),Od (.any,.lst (ws.map .str)),Od (.loc,.int at_),Od (.loc,.bl b),OB,OB,OB]) (f:=.rt .loc (.tup [.str x,.tup (told.map .str)])) (st:=bZ u2 ws at_ b told o5 o6) rfl ?_ ?_ rfl rfl
 ·obtain⟨_,_,_,rfl,_⟩:=hu;rfl
 refine ax (st2:=bZ u ws at_ b [] OB OB) (gE ak trivial a_ (O_ _)) cv ?_;refine eO (rs:=[(.loc,.int (m:Nat))]) (ae (aL (x:=(.own,.lst A0)) (gE (by repeat (first|exact ak|exact ae ah (by assumption)|apply ae ah)) (by exact trivial) (by repeat (first|exact a_|apply az aH)) (by decide)) r1 trivial (bU em)) ak) trivial (fg ⋯) rfl hf ?_;exact cw (fP (ae (aL (aU rfl) (aa rfl) trivial (bU (k:=.any) ex)) (ae (bX (ae (aP rfl) ak) (by(first|exact trivial|exact⟨⟨_,rfl,rfl⟩,trivial⟩|exact⟨⟨_,rfl,rfl⟩,⟨_,rfl,rfl⟩,trivial⟩)) rfl) ak)) trivial (az (tP rfl) (az aH a_)) (by show 2<=OG;omega)) dk
theorem A6(hD:bf (Cg Pg d))(h:C9 Pg "_law_row" A5):i6 (Cg Pg (d+1)):=by
 intro T at_ u ws b hu hT hw a0 a1;obtain⟨x,told,u',e,r⟩:=wW hD (b:=b) hu hT hw a0 a1;exact⟨x,told,u',by rw[bN h _ rfl];exact e,r⟩
def xJ:List S :=
   [.ite (.and [.cmp .eq (.idx (.var 2) (.cst (.int 0))) (.idx (.var 1) (.cst (.int 0))),.cmp .eq (.bi .sorted [.idx (.var 2) (.cst (.int 1))]) (.bi .sorted [.idx (.var 1) (.cst (.int 1))])])
    [.DR]
    []]
def A7:List S:=[.B' OE [2] .seq [.var 0] xJ,.app 0 (.var 1)]
def zB:Fn:=⟨"_law_lay",2,3,.Dr [0]::A7⟩
def eQ(rs:List Row)(r:Row)(o:Option (Kd×U)):ay:=[Od (.io,.lst (rs.map BX)),Od (.loc,BX r),o]
def layR(rs:List Row)(r:Row):List Row:=if keyOf r∈rs.map keyOf then rs else rs++[r]
theorem uh(hx:x.2.length<64)(hr:r.2.length<64):Run (Cc Γ (.and [.cmp .eq (.idx (.var 2) (.cst (.int 0))) (.idx (.var 1) (.cst (.int 0))),.cmp .eq (.bi .sorted [.idx (.var 2) (.cst (.int 1))]) (.bi .sorted [.idx (.var 1) (.cst (.int 1))])])) (eQ rs r (Od (.loc,BX x))) (OI (keyOf x=keyOf r)) (eQ rs r (Od (.loc,BX x))):=by
 have i0:∀y:Row,dG (.loc,BX y) (.int 0)=Od (.loc,.str y.1):=λy=>rfl;have i1:∀y:Row,dG (.loc,BX y) (.int 1)=Od (.loc,.tup (y.2.map .str)):=λy=>rfl;have h1:Run (Cc Γ (.cmp .eq (.idx (.var 2) (.cst (.int 0))) (.idx (.var 1) (.cst (.int 0))))) (eQ rs r (Od (.loc,BX x))) (OI (x.1=r.1)) (eQ rs r (Od (.loc,BX x))):=aQ (aL (aa rfl) ah trivial (i0 x)) (aL (aa rfl) ah trivial (i0 r)) trivial pX;have h2:Run (Cc Γ (.cmp .eq (.bi .sorted [.idx (.var 2) (.cst (.int 1))]) (.bi .sorted [.idx (.var 1) (.cst (.int 1))]))) (eQ rs r (Od (.loc,BX x))) (OI (aF x.2=aF r.2)) (eQ rs r (Od (.loc,BX x))):=aQ (bX (ae (aL (aa rfl) ah trivial (i1 x)) ak) trivial (sorted_strs hx)) (bX (ae (aL (aa rfl) ah trivial (i1 r)) ak) trivial (sorted_strs hr)) trivial tZ;have e:OI (keyOf x=keyOf r)=(OI (x.1=r.1)&&OI (aF x.2=aF r.2)):=by
  rw[<-Bool.decide_and];exact decide_eq_decide.mpr (by unfold keyOf;exact Ui ..▸Iff.rfl)
 rw[e];exact iQ (tX h1 λ_=>fe h2)
theorem zC:Run (execs Γ (.DR::ss)) st (.rt .loc .BZ) st:=wK (a9)
theorem mK(hr:r.2.length<64):∀(xs:List Row) (o:Option (Kd×U)),(∀x∈xs,x.2.length<64) ->
  ∃o',Run (forM OE [2] (execs Γ xJ) [(.bor 0,.lst (rs.map BX))] (xs.map λx=>(Kd.loc,BX x))) (eQ rs r o) (if keyOf r∈xs.map keyOf then .rt .loc .BZ else .nx) (eQ rs r o')
 |[],o,_=>⟨o,by rw[Xu (by simp)];exact pV ⟨⟨_,rfl,rfl⟩,trivial⟩⟩
 |x::xs,o,h=>by
  have ht:=uh (Γ:=Γ) (rs:=rs) (h x (by simp)) hr;by_cases hk:keyOf x=keyOf r
  ·refine⟨Od (.loc,BX x),?_⟩;rw[Xs (by simp[hk])];rw[Xw hk]at ht;exact BS ⟨⟨_,rfl,rfl⟩,trivial⟩ aD (ff ht zC)
  ·rw[Xv hk]at ht;obtain⟨o',q⟩:=mK (Γ:=Γ) (rs:=rs) hr xs (Od (.loc,BX x)) λy hy=>h y (by simp[hy]);refine⟨o',?_⟩;have hm:(keyOf r∈(x::xs).map keyOf)↔(keyOf r∈xs.map keyOf):=by
    rw[OQ,OV];exact⟨λz=>z.resolve_left λe=>hk e.symm,.inr⟩
   rw[show(if keyOf r∈(x::xs).map keyOf then Fl.rt .loc .BZ else Fl.nx)=(if keyOf r∈xs.map keyOf then Fl.rt .loc .BZ else Fl.nx) by simp only[hm]];exact wL ⟨⟨_,rfl,rfl⟩,trivial⟩ aD (aK ht au au) q
theorem wX(hr:r.2.length<64)(h:∀x∈rs,x.2.length<64)(hl:rs.length<1000):eE Γ zB [0] A7 [.lst (rs.map BX),BX r]=Od (.ok (.loc,.tup [.BZ,.lst ((layR rs r).map BX)])):=by
 have big:(1000:Nat)<OG:=by decide
 obtain⟨o',q⟩:=mK (Γ:=Γ) hr rs OB h;have hs:bR [0] [.lst (rs.map BX),BX r] zB.ns=eQ rs r OB:=by
  show [Od (Kd.io,U.lst (rs.map BX)),Od (if Co (BX r)=OA then Kd.loc else Kd.any,BX r),OB]=_;rw[Xs (k6 r)];rfl
 have hi:DB .seq [(Kd.bor 0,U.lst (rs.map BX))]=Od (rs.map λx=>(Kd.loc,BX x)):=by
  show Od ((rs.map BX).map λu=>(kE (.bor 0),u))=_;rw[Pp];rfl
 unfold layR;by_cases hk:keyOf r∈rs.map keyOf
 ·rw[Xs hk]at q ⊢;exact bC (f:=.rt .loc .BZ) rfl hs (wK (xG (ae (cy rfl) ak) ⟨⟨_,rfl,rfl⟩,trivial⟩ hi rfl q)) rfl rfl
 ·rw[Xu hk]at q ⊢;refine bC (f:=.nx) (st:=eQ (rs++[r]) r o') rfl hs (eO (ae (cy rfl) ak) ⟨⟨_,rfl,rfl⟩,trivial⟩ hi rfl q (iU (k:=.io) (k':=.io) rfl (aa rfl) aH rfl rfl (by simp;omega) ?_)) rfl rfl;rw[show rs.map BX++[BX r]=(rs++[r]).map BX by simp];exact au
def i7(Γ:Tab):Prop:=∀(rs:List Row) (r:Row),r.2.length<64->(∀x∈rs,x.2.length<64)->rs.length<1000->Γ "_law_lay" [.lst (rs.map BX),BX r]=Od (.ok (.loc,.tup [.BZ,.lst ((layR rs r).map BX)]))
theorem A8(h:C9 Pg "_law_lay" zB):i7 (Cg Pg (d+1)):=λrs r hr hx hl=>by
 rw[bN h _ rfl];exact wX hr hx hl
def Ig:Kd×U->Bool
 |(.bor _,_)=>OE
 |_=>OA
section
theorem mL(h:Ig r=OA):cH st r=r:=by
 obtain⟨k,u⟩:=r;cases k<;>first|rfl|cases h
theorem jR(h:Ig r=OA):sH js r=OA:=by
 obtain⟨k,u⟩:=r;cases k<;>first|rfl|cases h
theorem mM(h:rs.all Ig=OA):aX rs st:=by
 induction rs with
 |nil=>trivial
 |cons r rs ih =>
  obtain⟨k,u⟩:=r;rw[Ws,OD]at h;have:=ih h.2;cases k<;>first|exact this|cases h.1
theorem fh(h0:st[i]?=Od (Od (k0,u0)))(Dh:k0.root=OA)(he:Run (ba Γ es) st rs st1)(h1:st1[i]?=Od (Od (k,.lst us)))(hk:k.root=OA)(GF:bD us=OA)(GG:rs.all Ig=OA)
  (h3:Γ f (.lst us::rs.map (·.2))=Od (.ok (kr,.tup [v,.lst D_]))) (KI:kr=.own\/kr=.loc):Run (ev Γ (.BV f (.var i::es) [0])) st (kr,v) (st1.set i (Od (k,.lst D_))):=by
 have hg:Run (ev Γ (.var i)) st (.bor i,u0) st:=by
  have:=dQ h0 (by rintro rfl;cases Dh);unfold kv at this;rw[Xs Dh]at this;exact this
 have hb:cH st1 (.bor i,u0)=(.bor i,.lst us):=by
  unfold cH
  dsimp only
  rw[h1];simp[hk]
 have hm:rs.map (cH st1)=rs:=by
  conv=>rhs;rw[<-TU rs]
  exact QE λr hr=>mL (O6.mp GG r hr)
 have hf:((Kd.bor i,u0)::rs).map (cH st1)=(.bor i,.lst us)::rs:=by rw[OQ,hb,hm]
 have hj:eZ ((Kd.bor i,U.lst us)::rs) 0=Od i:=by
  show(if bD us=OA then Od i else OB)=_;rw[Xs GF]
 refine oj (rs:=(.bor i,u0)::rs) (ws:=[.lst D_]) (st1:=st1) (ae hg he) ?_ ?_ KI ?_ ?_
 ·rw[hf];exact⟨⟨k,hk,h1⟩,mM GG⟩
 ·rw[hf];exact h3
 ·rw[hf];unfold l9;rw[OD,OD];refine⟨⟨by simp[hj],by simp⟩,O6.mpr λq hq=>?_⟩;cases q with
  |zero=>simp
  |succ q =>
   have hl:q<rs.length:=by have:=Qs.mp hq;simpa using this
   rw[Qj];refine .inr (jR ?_);rw[show((Kd.bor i,U.lst us)::rs).getD (q+1) (.loc,.BZ)=rs[q] by simp[Rn,hl]];exact O6.mp GG _ (Qp hl)
 ·rw[hf];unfold eM;rw[hj]
  dsimp only
  rw[h1];rfl
end
section
theorem ui(hR:i6 Γ){ws:List Str}(h0:st[i]?=Od (Od (k0,u0)))(Dh:k0.root=OA)(hj:st[j]?=Od (Od (kw,.lst (ws.map .str))))(NQ:kw=.loc\/kw=.any)(he:Run (ev Γ e) st (.loc,.int at_) st1)(ht:Run (ev Γ t) st1 (.loc,.bl b) st2)
  (h1:st2[i]?=Od (Od (k,u))) (hk:k.root=OA) (hu:Src T u) (hT:T+17<2 ^ 62) (hw:ws.length<1000000) (a0:0<=at_) (a1:at_<ws.length) :
  ∃(r:Row) (u':U),Run (ev Γ (.BV "_law_row" [.var i,.var j,e,t] [0])) st (.loc,BX r) (st2.set i (Od (k,u')))/\ws[at_.toNat]?=Od r.1/\r.2.Nodup/\(∀y∈r.2,y∈ws)/\r.2.length<=8/\Src (T+17) u':=by
 obtain⟨x,told,u',e1,g1,g2,g3,g4,g5⟩:=hR T at_ u ws b hu hT hw a0 a1;refine⟨(x,told),u',?_,g1,g2,g3,g4,g5⟩;obtain⟨a,t',w,rfl,_,_⟩:=hu;obtain⟨a2,t2,w2,rfl,_,_⟩:=g5;rcases NQ with rfl|rfl
 ·exact fh (rs:=[(.loc,.lst (ws.map .str)),(.loc,.int at_),(.loc,.bl b)]) h0 Dh (ae (aa hj) (ae he (ae ht ak))) h1 hk rfl rfl e1 (.inr rfl)
 ·exact fh (rs:=[(.any,.lst (ws.map .str)),(.loc,.int at_),(.loc,.bl b)]) h0 Dh (ae (aU hj) (ae he (ae ht ak))) h1 hk rfl rfl e1 (.inr rfl)
theorem uj(hL:i7 Γ)(h0:st[i]?=Od (Od (k0,u0)))(Dh:k0.root=OA)(he:Run (ev Γ e) st (.loc,BX r) st1)(h1:st1[i]?=Od (Od (k,.lst (rs.map BX))))(hk:k.root=OA)(hr:r.2.length<64)(hx:∀x∈rs,x.2.length<64)(hl:rs.length<1000):
  Run (ev Γ (.BV "_law_lay" [.var i,e] [0])) st (.loc,.BZ) (st1.set i (Od (k,.lst ((layR rs r).map BX)))) :=
 fh (rs:=[(.loc,BX r)]) h0 Dh (ae he ak) h1 hk (cm rs) rfl (hL rs r hr hx hl) (.inr rfl)
theorem xK(h1:Run (ev Γ e) st r st1)(h2:Run (execs Γ ss) st1 f st2):Run (execs Γ (.exp e::ss)) st f st2:=kX (ab h1 a9) h2
def fQ(Γ:Tab):Prop:=(∀k:Int,Γ "_law_source" [.lst [],.int k]=Od (.ok (.own,.tup [du k 0 1,.lst []])))/\∀(ns:List Int) (c k:Int),Γ "_law_source" [.lst ((ns++[c]).map .int),.int k]=Od (.ok (.own,.tup [du (c / 2) 0 (c % 2),.lst (ns.map .int)]))
theorem um(h:C9 Pg "_law_source" wU):fQ (Cg Pg (d+1)):=⟨λk=>by rw[bN h _ rfl];exact t_,λns c k=>by rw[bN h _ rfl];exact ua⟩
theorem ei:∀ns:List Int,bD (ns.map U.int)=OA
 |[]=>rfl
 |n::ns=>by show(OA&&bD (ns.map U.int))=OA;rw[ei ns];rfl
theorem uo(hS:fQ Γ)(h0:st[i]?=Od (Od (k0,u0)))(Dh:k0.root=OA)(he:Run (ev Γ e) st (.loc,.int m) st1)(h1:st1[i]?=Od (Od (k,.lst ((ns++[c]).map .int))))(hk:k.root=OA):
  Run (ev Γ (.BV "_law_source" [.var i,e] [0])) st (.own,du (c / 2) 0 (c % 2)) (st1.set i (Od (k,.lst (ns.map .int)))) :=
 fh (rs:=[(.loc,.int m)]) h0 Dh (ae he ak) h1 hk (ei _) rfl (hS.2 ns c m) (.inl rfl)
theorem zD(hS:fQ Γ)(h0:st[i]?=Od (Od (k0,u0)))(Dh:k0.root=OA)(he:Run (ev Γ e) st (.loc,.int m) st1)(h1:st1[i]?=Od (Od (k,.lst [])))(hk:k.root=OA):
  Run (ev Γ (.BV "_law_source" [.var i,e] [0])) st (.own,du m 0 1) (st1.set i (Od (k,.lst []))) :=
 fh (rs:=[(.loc,.int m)]) h0 Dh (ae he ak) h1 hk rfl rfl (hS.1 m) (.inl rfl)
end
def ot:List S :=
   [.set 6 (.BV "_law_draw" [.var 1,.bi .len [.var 2]] [0]),
   .ite (.cmp .eq (.var 4) (.cst (.int 3)))
    [.set 6 (.bin .mod (.var 5) (.bi .len [.var 2]))]
    [],
   .exp (.BV "_law_lay" [(.var 3),(.BV "_law_row" [(.var 1),(.var 2),(.var 6),(.cmp .gt (.var 4) (.cst (.int 1)))] [0])] [0])]
def ou:List S :=
   [.set 7 (.BV "_law_source" [.var 0,.cst (.int 0)] [0]),
   .exp (.BV "_law_lay" [(.var 3),(.BV "_law_row" [(.var 7),(.var 2),(.BV "_law_draw" [(.var 7),(.bi .len [(.var 2)])] [0]),(.cmp .eq (.var 4) (.cst (.int 2)))] [0])] [0])]
def bV(ns:List Int)(u:U)(ws:List Str)(rs:List Row)(way:Int)(o5 o6 o7:Option (Kd×U)):ay:=[Od (.io,.lst (ns.map .int)),Od (.io,u),Od (.any,.lst (ws.map .str)),Od (.own,.lst (rs.map BX)),Od (.loc,.int way),o5,o6,o7]
def aW(ws:List Str)(r:Row):Prop:=r.1∈ws/\r.2.Nodup/\(∀y∈r.2,y∈ws)/\r.2.length<=8
def cn(ws:List Str)(rs:List Row):Prop:=(∀r∈rs,aW ws r)/\(rs.map keyOf).Nodup
theorem cn.lay(h:cn ws rs)(hr:aW ws r):cn ws (layR rs r):=by
 unfold layR;split
 ·exact h
 ·rename_i hk;refine⟨λx hx=>?_,?_⟩
  ·rcases QU.mp hx with hx|hx
   ·exact h.1 x hx
   ·rw[O1]at hx;subst hx;exact hr
  ·rw[PZ];exact Rq.mpr ⟨h.2,by simp,λa ha c hc=>by rw[Te,O1]at hc;subst hc;exact λe=>hk (e▸ha)⟩
theorem mN:(layR rs r).length<=rs.length+1:=by
 unfold layR;split
 ·omega
 ·simp
theorem qZ(hD:bf Γ)(hR:i6 Γ)(hL:i7 Γ){k:Nat}(hu:Src T u)(hT:T+18<2 ^ 62)(w0:0<ws.length)(hw:ws.length<1000000)(hb:cn ws rs)(hl:rs.length<1000):
  ∃u' CA FT,Run (execs Γ ot) (bV ns u ws rs way (Od (.loc,.int (0+(k:Int)))) o6 o7) .nx (bV ns u' ws CA way (Od (.loc,.int (0+(k:Int)))) FT o7)/\Src (T+18) u'/\cn ws CA/\CA.length<=rs.length+1:=by
 obtain⟨n,u1,r1,n0,n1,s1⟩:=bu (st:=bV ns u ws rs way (Od (.loc,.int (0+(k:Int)))) o6 o7) (st1:=bV ns u ws rs way (Od (.loc,.int (0+(k:Int)))) o6 o7) hD (i:=1) (k:=.io) (k0:=.io) (e:=.bi .len [.var 2]) (m:=((ws.map U.str).length:Nat)) rfl rfl (bX (ae (aU rfl) ak) trivial bF) rfl rfl hu ⋯ (by simp;omega) (by simp;omega);rw[OJ]at n1;have fin:∀at_:Int,0<=at_->at_<ws.length->∃u' CA FT,Run (execs Γ [.exp (.BV "_law_lay" [.var 3,.BV "_law_row" [.var 1,.var 2,.var 6,.cmp .gt (.var 4) (.cst (.int 1))] [0]] [0])]) (bV ns u1 ws rs way (Od (.loc,.int (0+(k:Int)))) (Od (.loc,.int at_)) o7) .nx (bV ns u' ws CA way (Od (.loc,.int (0+(k:Int)))) FT o7)/\Src (T+18) u'/\cn ws CA/\CA.length<=rs.length+1:=by
  intro at_ a0 a1;obtain⟨r,u2,q,g1,g2,g3,g4,g5⟩:=ui (st:=bV ns u1 ws rs way (Od (.loc,.int (0+(k:Int)))) (Od (.loc,.int at_)) o7) (st1:=bV ns u1 ws rs way (Od (.loc,.int (0+(k:Int)))) (Od (.loc,.int at_)) o7) (st2:=bV ns u1 ws rs way (Od (.loc,.int (0+(k:Int)))) (Od (.loc,.int at_)) o7) hR (i:=1) (j:=2) (e:=.var 6) (t:=.cmp .gt (.var 4) (.cst (.int 1))) (k0:=.io) (k:=.io) (kw:=.any) (b:=OI (1<way)) rfl rfl rfl (.inr rfl) (aa rfl) (fO (aa rfl) ah trivial (jM rfl)) rfl rfl s1 ⋯ hw a0 a1;have hr:aW ws r:=⟨Qf g1,g2,g3,g4⟩
  exact⟨u2,layR rs r,_,xK (uj hL (k0:=.own) (k:=.own) (rs:=rs) rfl rfl q rfl rfl ⋯ (λx hx=>by have:=(hb.1 x hx).2.2.2;omega) hl) au,g5.up ⋯,hb.lay hr,mN⟩
 by_cases h3:way=3
 ·subst h3;obtain⟨u',CA,FT,q,g⟩:=fin ((0+(k:Int)) % (ws.length:Nat)) (RT _ ⋯) (R8 _ ⋯);refine⟨u',CA,FT,ax r1 aD (cj (aQ (aa rfl) ah trivial (bH rfl)) (ax (bb (aa rfl) (bX (ae (aU rfl) ak) trivial bF) trivial (cL (by simp;omega))) aD au) ?_),g⟩;rw[OJ];exact q
 ·obtain⟨u',CA,FT,q,g⟩:=fin n n0 n1;exact⟨u',CA,FT,ax r1 aD (aK (aQ (aa rfl) ah trivial (bH (by simp[h3]))) au q),g⟩
theorem q9(hS:fQ Γ)(hD:bf Γ)(hR:i6 Γ)(hL:i7 Γ)(w0:0<ws.length)(hw:ws.length<1000000)(hb:cn ws rs)(hl:rs.length<1000):
  ∃CA E5,Run (execs Γ ou) (bV (ns++[c]) u ws rs way o5 o6 o7) .nx (bV ns u ws CA way o5 o6 E5)/\cn ws CA/\CA.length<=rs.length+1:=by
 have q0:=uo (st:=bV (ns++[c]) u ws rs way o5 o6 o7) (st1:=bV (ns++[c]) u ws rs way o5 o6 o7) hS (i:=0) (k0:=.io) (k:=.io) (e:=.cst (.int 0)) (m:=0) rfl rfl ah rfl rfl;have s0:Src 0 (du (c / 2) 0 (c % 2)):=⟨_,_,_,rfl,⋯,⋯⟩
 generalize du (c / 2) 0 (c % 2)=v at q0 s0;obtain⟨n,u1,r1,n0,n1,s1⟩:=bu (st:=bV ns u ws rs way o5 o6 (Od (.own,v))) (st1:=bV ns u ws rs way o5 o6 (Od (.own,v))) hD (i:=7) (k:=.own) (k0:=.own) (e:=.bi .len [.var 2]) (m:=((ws.map U.str).length:Nat)) rfl rfl (bX (ae (aU rfl) ak) trivial bF) rfl rfl s0 ⋯ (by simp;omega) (by simp;omega);rw[OJ]at n1;obtain⟨r,u2,q,g1,g2,g3,g4,g5⟩:=ui (st:=bV ns u ws rs way o5 o6 (Od (.own,v))) (st1:=bV ns u ws rs way o5 o6 (Od (.own,u1))) (st2:=bV ns u ws rs way o5 o6 (Od (.own,u1))) hR (i:=7) (j:=2) (t:=.cmp .eq (.var 4) (.cst (.int 2))) (k0:=.own) (k:=.own) (kw:=.any) (b:=(way==2)) rfl rfl rfl (.inr rfl) r1 (fO (aa rfl) ah trivial (bH rfl)) rfl rfl s1 ⋯ hw n0 n1;have hr:aW ws r:=⟨Qf g1,g2,g3,g4⟩
 exact⟨layR rs r,Od (.own,u2),ax (st2:=bV ns u ws rs way o5 o6 (Od (.own,v))) q0 cv (xK (uj hL (k0:=.own) (k:=.own) (rs:=rs) rfl rfl q rfl rfl ⋯ (λx hx=>by have:=(hb.1 x hx).2.2.2;omega) hl) au),hb.lay hr,mN⟩
def ox:E:=.and [.cmp .gt (.bi .len [.var 0]) (.cst (.int 0)),.cmp .lt (.bi .len [.var 3]) (.cst (.int 60))]
theorem jS:Run (Cc Γ ox) (bV ns u ws rs way o5 o6 o7) (OI (0<ns.length)&&OI (rs.length<60)) (bV ns u ws rs way o5 o6 o7):=by
 refine iQ (tX (aQ (bX (ae (cy rfl) ak) (by(first|exact trivial|exact⟨⟨_,rfl,rfl⟩,trivial⟩|exact⟨⟨_,rfl,rfl⟩,⟨_,rfl,rfl⟩,trivial⟩)) bF) ah trivial (jM ?_)) λ_=>fe (aQ (bX (ae (aP rfl) ak) (by(first|exact trivial|exact⟨⟨_,rfl,rfl⟩,trivial⟩|exact⟨⟨_,rfl,rfl⟩,⟨_,rfl,rfl⟩,trivial⟩)) bF) ah trivial (tV ?_)))
 ·rw[OJ];exact decide_eq_decide.mpr ⋯
 ·rw[OJ];exact decide_eq_decide.mpr ⋯
theorem oy(hS:fQ Γ)(hD:bf Γ)(hR:i6 Γ)(hL:i7 Γ)(w0:0<ws.length)(hw:ws.length<1000000):
  ∀(k f:Nat) (ns:List Int) (rs:List Row) (o7:Option (Kd×U)),ns.length=k->k<f->cn ws rs->rs.length<=60->∃CT CA E5,Run (eD (Cc Γ ox) (execs Γ ou) f) (bV ns u ws rs way o5 o6 o7) .nx (bV CT u ws CA way o5 o6 E5)/\cn ws CA/\CA.length<=60/\CT.length<=ns.length:=by
 intro k;induction k with
 |zero =>
  intro f ns rs o7 hk hf hb hl;obtain⟨f,rfl⟩:∃g,f=g+1:=⟨f - 1,⋯⟩
  have ht:=jS (Γ:=Γ) (ns:=ns) (u:=u) (ws:=ws) (rs:=rs) (way:=way) (o5:=o5) (o6:=o6) (o7:=o7);rw[Xv (show ¬0<ns.length by omega)]at ht;exact⟨ns,rs,o7,pY ht,hb,hl,ON _⟩
 |succ k ih =>
  intro f ns rs o7 hk hf hb hl;obtain⟨f,rfl⟩:∃g,f=g+1:=⟨f - 1,⋯⟩
  have ht:=jS (Γ:=Γ) (ns:=ns) (u:=u) (ws:=ws) (rs:=rs) (way:=way) (o5:=o5) (o6:=o6) (o7:=o7);rw[Xw (show 0<ns.length by omega)]at ht;by_cases h6:rs.length<60
  ·rw[Xw h6]at ht;obtain⟨ms,c,rfl⟩:∃ms c,ns=ms++[c]:=by
    have C7:ns≠[]:=λe=>by rw[e]at hk;cases hk
    exact⟨ns.dropLast,ns.getLast C7,(T1 C7).symm⟩
   have hm:ms.length=k:=by simpa using hk
   obtain⟨NR,NS,q1,b1,l1⟩:=q9 (u:=u) (ws:=ws) (way:=way) (o5:=o5) (o6:=o6) (o7:=o7) (ns:=ms) (c:=c) hS hD hR hL w0 hw hb ⋯;obtain⟨CT,CA,E5,q2,b2,l2,l3⟩:=ih f ms NR NS hm ⋯ b1 ⋯;exact⟨CT,CA,E5,t7 ht q1 q2,b2,l2,by simp;omega⟩
  ·rw[Xv h6]at ht;exact⟨ns,rs,o7,pY ht,hb,hl,ON _⟩
def xM:List S :=
   [.set 3 (.lst []),
    .set 4 (.BV "_law_draw" [.var 1,.cst (.int 4)] [0]),
    .B' OE [5] .Cq [.BV "_law_draw" [.var 1,.cst (.int 25)] [0]] ot,
    .EG ox ou,
    .ret (.bi .tuple [(.var 3)])]
def p6:Fn:=⟨"_law_book",3,8,.Dr [0,1]::xM⟩
theorem oz(hS:fQ Γ)(hD:bf Γ)(hR:i6 Γ)(hL:i7 Γ){ns:List Int}(hu:Src T u)(hT:T+500<2 ^ 62)(hn:ns.length<1000)(w0:0<ws.length)(hw:ws.length<1000000):
  ∃(rs:List Row) (CT:List Int) (u':U),eE Γ p6 [0,1] xM [.lst (ns.map .int),u,.lst (ws.map .str)]=Od (.ok (.loc,.tup [.tup (rs.map BX),.lst (CT.map .int),u']))/\cn ws rs/\rs.length<=60/\CT.length<=ns.length/\Src (T+500) u':=by
 have big:(60:Nat)<OG:=by decide
 obtain⟨way,u1,r1,_,_,s1⟩:=bu (st:=[Od (.io,.lst (ns.map .int)),Od (.io,u),Od (.any,.lst (ws.map .str)),Od (.own,.lst []),OB,OB,OB,OB]) (st1:=[Od (.io,.lst (ns.map .int)),Od (.io,u),Od (.any,.lst (ws.map .str)),Od (.own,.lst []),OB,OB,OB,OB]) hD (i:=1) (k:=.io) (k0:=.io) (e:=.cst (.int 4)) (m:=4) rfl rfl ah rfl rfl hu ⋯ ⋯ ⋯;obtain⟨m,u2,r2,m0,m1,s2⟩:=bu (st:=bV ns u1 ws [] way OB OB OB) (st1:=bV ns u1 ws [] way OB OB OB) hD (i:=1) (k:=.io) (k0:=.io) (e:=.cst (.int 25)) (m:=25) rfl rfl ah rfl rfl s1 ⋯ ⋯ ⋯;obtain⟨m,rfl⟩:=PN m0;obtain⟨st',hf,u3,GH,o5,o6,rfl,s3,b3,l3,_⟩:=dS (rs:=[(.loc,.int (m:Nat))]) (t:=OE) (is:=[5]) (body:=execs Γ ot) (λi:Nat=>(Kd.loc,U.int (0+(i:Int)))) (λd r st=>∃(u3:U) (GH:List Row) (o5 o6:Option (Kd×U)),st=bV ns u3 ws GH way o5 o6 OB/\Src (T+2+18 * (d.length:Nat)) u3/\cn ws GH/\GH.length<=d.length/\d.length+r.length=m)
  (λd r st _=>trivial) (λd y r st h=>by
   obtain⟨u3,GH,o5,o6,rfl,s3,b3,l3,t4⟩:=h;simp only[Pb]at t4;obtain⟨u4,NT,FT,q,s4,b4,l4⟩:=qZ (ns:=ns) (way:=way) (k:=y) (o6:=o6) (o7:=OB) hD hR hL s3 ⋯ w0 hw b3 ⋯;refine⟨bV ns u3 ws GH way (Od (.loc,.int (0+(y:Int)))) o6 OB,_,aD,q,u4,NT,_,_,rfl,s4.up (by simp;omega),b4,?_,?_⟩
   ·simp;omega
   ·simp;omega) (O2 m) [] (bV ns u2 ws [] way OB OB OB) ⟨u2,[],OB,OB,rfl,s2.up (by simp;omega),⟨by simp,by simp⟩,by simp,by simp⟩
 rw[Pu,P5]at s3 l3;obtain⟨CT,CA,E5,q4,b4,l4,l5⟩:=oy hS hD hR hL (u:=u3) (way:=way) (o5:=o5) (o6:=o6) w0 hw ns.length fuel ns GH OB rfl (by unfold fuel;omega) b3 ⋯;refine⟨CA,CT,u3,?_,b4,l4,l5,s3.up ⋯⟩;refine bC (st0:=[Od (.io,.lst (ns.map .int)),Od (.io,u),Od (.any,.lst (ws.map .str)),OB,OB,OB,OB,OB]) (f:=.rt .loc (.tup (CA.map BX))) (st:=bV CT u3 ws CA way o5 o6 E5) rfl ?_ ?_ rfl rfl
 ·obtain⟨_,_,_,rfl,_⟩:=hu;rfl
 refine ax (gE ak trivial a_ (O_ _)) cv (ax r1 aD ?_);refine eO (rs:=[(.loc,.int (m:Nat))]) (ae r2 ak) trivial (fg ⋯) rfl hf (t8 q4 ?_);exact cw (bX (ae (aP rfl) ak) (by(first|exact trivial|exact⟨⟨_,rfl,rfl⟩,trivial⟩|exact⟨⟨_,rfl,rfl⟩,⟨_,rfl,rfl⟩,trivial⟩)) rfl) dk
end TM
namespace TM
open PySem L2 CB
theorem uq{cond:M Bool}(it:α->Kd×U)(I:List α->List α->List U->ay->Prop)(hs:∀d r a st,I d r a st->aX src st)
  (VP:∀d y q a st,I d (y::q) a st->∃s1 s2 s3 s4 r u,Run (cT t (O2 k) (it y)) (OZ k OB++st) () s1/\Run cond s1 OA s2/\Run elt s2 r s3/\Run (lift r) s3 u s4/\I (d++[y]) q (a++[u]) (s4.drop k)) :
  ∀(ys d:List α) (acc:List U) (st:ay),I d ys acc st->acc.length+ys.length<=OG->∃us st',Run (bw k t cond elt src (ys.map it) acc) st us st'/\I (d++ys) [] us st'
 |[],d,acc,st,h,_=>⟨acc,st,pW (hs _ _ _ _ h),by rw[P8];exact h⟩
 |y::ys,d,acc,st,h,hl=>by
  rw[Pb]at hl;obtain⟨s1,s2,s3,s4,r,u,h1,h2,h3,h4,h5⟩:=VP d y ys acc st h;obtain⟨us,st',h6,h7⟩:=uq it I hs VP ys (d++[y]) (acc++[u]) _ h5 (by simp;omega);exact⟨us,st',kY (hs _ _ _ _ h) h1 h2 h3 h4 ⋯ h6,by simpa using h7⟩
theorem mO(h0:0<=n)(h1:n<26):∃c,CS small.cps.toList n=Od c:=by
 obtain⟨k,rfl⟩:=PN h0;have hl:small.cps.toList.length=26:=by decide
 exact⟨small.cps.toList[k]'⋯,gP (by simp)⟩
theorem ur(hD:bf Γ)(hu:Src T u)(hT:T+8<2 ^ 62):
  ∃x u',Run (ev Γ (.E1 .join (.cst (.str "")) [.comp 1 OE .Cq [.cst (.int 8)] [] (.idx (.var 2) (.BV "_law_draw" [.var 1,.cst (.int 26)] [0]))])) (Od (.io,u)::Od (.loc,.str small)::rest) (.loc,.str x) (Od (.io,u')::Od (.loc,.str small)::rest)/\x.length=8/\Src (T+8) u':=by
 have big:(100:Nat)<=OG:=by decide
 obtain⟨us,st',hc,u',cs,rfl,rfl,hl,hs,_⟩:=uq (k:=1) (t:=OE) (cond:=aS Γ []) (elt:=ev Γ (.idx (.var 2) (.BV "_law_draw" [.var 1,.cst (.int 26)] [0]))) (src:=[(.loc,.int (8:Nat))]) (λi:Nat=>(Kd.loc,U.int (0+(i:Int))))
  (λd r a st=>∃(u':U) (cs:List Nat),st=Od (.io,u')::Od (.loc,.str small)::rest/\a=(cs.map CB.one).map U.str/\cs.length=d.length/\Src (T+(d.length:Nat)) u'/\d.length+r.length=8) (λ_ _ _ _ _=>trivial)
  (λd y q a st h=>by
   obtain⟨u',cs,rfl,rfl,hl,hs,h8⟩:=h;rw[Pb]at h8;obtain⟨n,u2,r,n0,n1,s2⟩:=bu (st:=Od (.loc,.int (0+(y:Int)))::Od (.io,u')::Od (.loc,.str small)::rest) (st1:=Od (.loc,.int (0+(y:Int)))::Od (.io,u')::Od (.loc,.str small)::rest) hD (i:=1) (k:=.io) (k0:=.io) (e:=.cst (.int 26)) (m:=26) rfl rfl ah rfl rfl hs ⋯ ⋯ ⋯;obtain⟨c,hc⟩:=mO n0 n1;refine⟨_,_,_,_,_,_,iV aD,iR,aL (aa rfl) r trivial (ka mH hc),aH,u2,cs++[c],rfl,by simp,by simp[hl],s2.up (by simp;omega),by simp;omega⟩)
  (O2 8) [] [] (Od (.io,u)::Od (.loc,.str small)::rest) ⟨u,[],rfl,rfl,rfl,by simpa using hu,by simp⟩ (by simp;omega)
 rw[Pu,P5]at hl hs;have Ih:iF .join (.str "") [(.own,.lst ((cs.map CB.one).map U.str))]=Od (.loc,.str (SU Pn (cs.map CB.one))):=by
  show(strsOf ((cs.map CB.one).map U.str)).bind _=_;rw[gr];show(if Wj Pn (cs.map CB.one)=OA then _ else _)=_;rw[Xs (CB.mF cs ⋯)];rfl
 refine⟨SU Pn (cs.map CB.one),u',tN ah (ae (dR (ae ah ak) trivial (fg (n:=8) ⋯) hc) ak) trivial Ih,?_,hs⟩;show(SU Pn (cs.map CB.one)).cps.size=8;rw[<-O9,CB.join_ones,hl]
def uu:List S:=[.app 7 (.ite (.cmp .eq (.var 10) (.cst (.int 1))) (.var 9) (.bin .add (.bin .add (.var 9) (.cst (.str "/"))) (.bi .str [.var 10])))]
def uw:List S :=
   .ite (.cmp .eq (.var 4) (.cst (.int 3)))
    [.set 10 (.bin .add (.cst (.int 1)) (.BV "_law_draw" [.var 0,.cst (.int 99)] [0]))]
    []::uu
def uz:List S :=
   .ite (.cmp .gt (.var 4) (.cst (.int 1)))
    [.set 9 (.bin .add (.idx (.var 1) (.bin .mod (.bin .add (.var 6) (.bin .mul (.cst (.int 7)) (.var 8))) (.cst (.int 26)))) (.Eh (.var 3) [.cst (.int 1)] [.var 5])),
    .set 10 (.cst (.int 1))]
    []::uw
def oA:List S :=
   .set 9 (.Eh (.var 3) [] [.bin .add (.cst (.int 1)) (.bin .mod (.var 8) (.cst (.int 8)))]) ::
   .set 10 (.bin .add (.cst (.int 1)) (.bin .EZ (.var 8) (.cst (.int 8)))) ::
   .ite (.cmp .eq (.var 4) (.cst (.int 1)))
    [.set 9 (.Eh (.var 3) [] [.var 5]),
    .set 10 (.bin .add (.cst (.int 1)) (.var 8))]
    []::uz
def uA:List S :=
   [.set 1 (.cst (.str "abcdefghijklmnopqrstuvwxyz")),
    .set 2 (.bin .add (.cst (.int 1)) (.BV "_law_draw" [.var 0,.idx (.lst [.cst (.int 8),.cst (.int 16),.cst (.int 24)]) (.BV "_law_draw" [.var 0,.cst (.int 3)] [0])] [0])),
    .set 3 (.E1 .join (.cst (.str "")) [.comp 1 OE .Cq [.cst (.int 8)] [] (.idx (.var 2) (.BV "_law_draw" [.var 1,.cst (.int 26)] [0]))]),
    .set 4 (.BV "_law_draw" [.var 0,.cst (.int 4)] [0]),
    .set 5 (.bin .add (.cst (.int 1)) (.BV "_law_draw" [.var 0,.cst (.int 8)] [0])),
    .set 6 (.BV "_law_draw" [.var 0,.cst (.int 26)] [0]),
    .set 7 (.lst []),
    .B' OE [8] .Cq [.var 2] oA,
    .ret (.var 7)]
def mP:Fn:=⟨"_law_words",1,11,.Dr [0]::uA⟩
def fT(u:U)(many:Int)(base:Str)(way size first:Int)(acc:List Str)(o8 o9 o10:Option (Kd×U)):ay:=[Od (.io,u),Od (.loc,.str small),Od (.loc,.int many),Od (.loc,.str base),Od (.loc,.int way),Od (.loc,.int size),Od (.loc,.int first),Od (.own,.lst (acc.map .str)),o8,o9,o10]
theorem gU(h:x.length<=OG):l8 (k,.str x) lo hi=Od (.loc,.str (PySem.StrLaws.sliceText x lo hi)):=by
 show(if x.length<=OG then _ else _)=_;rw[Xs h]
theorem jT(ha:acc.length<1000)(hw:w.length<=9)(s0:1<=s)(s1:s<=99):
  ∃x,Run (execs Γ uu) (fT u many base way size first acc o8 (Od (.loc,.str w)) (Od (.loc,.int s))) .nx (fT u many base way size first (acc++[x]) o8 (Od (.loc,.str w)) (Od (.loc,.int s))):=by
 have big:(1000:Nat)<=OG:=by decide
 by_cases h:s=1
 ·subst h;refine⟨w,iU (k:=.own) (k':=.own) rfl (zr (aQ (aa rfl) ah trivial (bH rfl)) (aa rfl)) aH rfl rfl (by simp;omega) ?_⟩;rw[show acc.map U.str++[U.str w]=(acc++[w]).map U.str by simp];exact au
 ·have Oo:=qY (k:=s) ⋯ s1;have Gw:Ds .str [(.loc,.int s)]=Od (.loc,.str (rZ s)):=by
   simp only[Ds,dn,vQ];rw[Xs (by
    have:s.natAbs<2 ^ 7:=by omega
    have h2:s.natAbs≠0:=by omega
    have:=(Nat.log2_lt h2).mpr this;omega)]
   rfl
  have KJ:(w++("/":Str)).length=w.length+1:=by rw[len_list,len_list,app_list,O8];rfl
  refine⟨w++("/":Str)++rZ s,iU (k:=.own) (k':=.own) rfl (zt (aQ (aa rfl) ah trivial (bH (by simp[h]))) (bb (bb (aa rfl) ah trivial (k5 (by show w.length+1<=OG;omega))) (bX (ae (aa rfl) ak) trivial Gw) trivial (k5 (by rw[KJ];omega)))) aH rfl rfl (by simp;omega) ?_⟩;rw[show acc.map U.str++[U.str (w++("/":Str)++rZ s)]=(acc++[w++("/":Str)++rZ s]).map U.str by simp];exact au
theorem jU(hD:bf Γ)(hu:Src T u)(hT:T+1<2 ^ 62)(ha:acc.length<1000)(hw:w.length<=9)(s0:1<=s)(s1:s<=99):
  ∃u' x o9 o10,Run (execs Γ uw) (fT u many base way size first acc o8 (Od (.loc,.str w)) (Od (.loc,.int s))) .nx (fT u' many base way size first (acc++[x]) o8 o9 o10)/\Src (T+1) u':=by
 by_cases h:way=3
 ·subst h;obtain⟨n,u1,r1,n0,n1,h1⟩:=bu (st:=fT u many base 3 size first acc o8 (Od (.loc,.str w)) (Od (.loc,.int s))) (st1:=fT u many base 3 size first acc o8 (Od (.loc,.str w)) (Od (.loc,.int s))) hD (i:=0) (k:=.io) (k0:=.io) (e:=.cst (.int 99)) (m:=99) rfl rfl ah rfl rfl hu ⋯ ⋯ ⋯;obtain⟨x,q⟩:=jT (Γ:=Γ) (u:=u1) (many:=many) (base:=base) (way:=3) (size:=size) (first:=first) (acc:=acc) (o8:=o8) (w:=w) (s:=1+n) ha hw ⋯ ⋯;exact⟨u1,x,_,_,cj (aQ (aa rfl) ah trivial (bH rfl)) (ax (bb ah r1 trivial bt) aD au) q,h1⟩
 ·obtain⟨x,q⟩:=jT (Γ:=Γ) (u:=u) (many:=many) (base:=base) (way:=way) (size:=size) (first:=first) (acc:=acc) (o8:=o8) (w:=w) (s:=s) ha hw s0 s1;exact⟨u,x,_,_,aK (aQ (aa rfl) ah trivial (bH (by simp[h]))) au q,hu.up ⋯⟩
theorem jV(hD:bf Γ){k:Nat}(hu:Src T u)(hT:T+1<2 ^ 62)(ha:acc.length<1000)(hw:w.length<=9)(s0:1<=s)(s1:s<=99)(hb:base.length=8)(z0:1<=size)(z1:size<=8)(f0:0<=first)(f1:first<26)(hk:k<1000):
  ∃u' x o9 o10,Run (execs Γ uz) (fT u many base way size first acc (Od (.loc,.int (0+(k:Int)))) (Od (.loc,.str w)) (Od (.loc,.int s))) .nx (fT u' many base way size first (acc++[x]) (Od (.loc,.int (0+(k:Int)))) o9 o10)/\Src (T+1) u':=by
 have big:(1000:Nat)<=OG:=by decide
 by_cases h:1<way
 ·have IK:0<=(first+7 * (0+(k:Int))) % 26:=RT _ ⋯;have Kk:(first+7 * (0+(k:Int))) % 26<26:=R8 _ ⋯;obtain⟨c,hc⟩:=mO IK Kk;have Oq:=len_list base;have Ot:(PySem.StrLaws.sliceText base (Od 1) (Od size)).length<=8:=by
   rw[PySem.StrLaws.sliceText_plain ⟨⋯,z0,⋯⟩,len_list];simp;omega
  have EB:(CB.one c).length=1:=rfl;have Hm:(CB.one c++PySem.StrLaws.sliceText base (Od 1) (Od size)).length<=9:=by rw[len_list,app_list,O8,<-len_list,<-len_list];omega
  obtain⟨u',x,o9,o10,q,hs⟩:=jU (Γ:=Γ) hD (u:=u) (many:=many) (base:=base) (way:=way) (size:=size) (first:=first) (acc:=acc) (o8:=Od (.loc,.int (0+(k:Int)))) (w:=CB.one c++PySem.StrLaws.sliceText base (Od 1) (Od size)) (s:=1) hu hT ha Hm ⋯ ⋯;refine⟨u',x,o9,o10,cj (aQ (aa rfl) ah trivial (jM (by simp[h]))) (ax (bb (aL (aa rfl) (bb (bb (aa rfl) (bb ah (aa rfl) trivial (g_ ⋯)) trivial bt) ah trivial (cL ⋯)) trivial (ka mH hc)) (mD (aa rfl) (jL ah) (jL (aa rfl)) trivial (gU ⋯)) trivial (k5 ⋯)) aD (ax ah aD au)) q,hs⟩
 ·obtain⟨u',x,o9,o10,q,hs⟩:=jU (Γ:=Γ) hD (u:=u) (many:=many) (base:=base) (way:=way) (size:=size) (first:=first) (acc:=acc) (o8:=Od (.loc,.int (0+(k:Int)))) (w:=w) (s:=s) hu hT ha hw s0 s1;exact⟨u',x,o9,o10,aK (aQ (aa rfl) ah trivial (jM (by simp[h]))) au q,hs⟩
theorem uB(h0:0<=j)(hx:x.length=8):(PySem.StrLaws.sliceText x OB (Od j)).length<=9:=by
 obtain⟨j,rfl⟩:=PN h0;have h:=len_list (PySem.StrLaws.sliceText x OB (Od (j:Int)));have hl:=len_list x;rw[zx]at h;rw[h,PQ];omega
theorem q_(hD:bf Γ){k:Nat}(hu:Src T u)(hT:T+1<2 ^ 62)(ha:acc.length<1000)(hb:base.length=8)(z0:1<=size)(z1:size<=8)(f0:0<=first)(f1:first<26)(hk:k<98):
  ∃u' x LN Ii,Run (execs Γ oA) (fT u many base way size first acc (Od (.loc,.int (0+(k:Int)))) o9 o10) .nx (fT u' many base way size first (acc++[x]) (Od (.loc,.int (0+(k:Int)))) LN Ii)/\Src (T+1) u':=by
 have big:(1000:Nat)<=OG:=by decide
 have IK:0<=(0+(k:Int)) % 8:=RT _ ⋯;by_cases h:way=1
 ·obtain⟨u',x,o9,o10,q,hs⟩:=jV (Γ:=Γ) hD (u:=u) (many:=many) (base:=base) (way:=way) (size:=size) (first:=first) (acc:=acc) (k:=k) (w:=PySem.StrLaws.sliceText base OB (Od size)) (s:=1+(0+(k:Int))) hu hT ha (uB ⋯ hb) ⋯ ⋯ hb z0 z1 f0 f1 ⋯;exact⟨u',x,o9,o10,ax (mD (aa rfl) pR (jL (bb ah (bb (aa rfl) ah trivial (cL ⋯)) trivial bt)) trivial (gU ⋯)) aD (ax (bb ah (bb (aa rfl) ah trivial (iW ⋯)) trivial bt) aD (cj (aQ (aa rfl) ah trivial (bH (by simp[h]))) (ax (mD (aa rfl) pR (jL (aa rfl)) trivial (gU ⋯)) aD (ax (bb ah (aa rfl) trivial bt) aD au)) q)),hs⟩
 ·obtain⟨u',x,o9,o10,q,hs⟩:=jV (Γ:=Γ) hD (u:=u) (many:=many) (base:=base) (way:=way) (size:=size) (first:=first) (acc:=acc) (k:=k) (w:=PySem.StrLaws.sliceText base OB (Od (1+(0+(k:Int)) % 8))) (s:=1+(0+(k:Int)) / 8) hu hT ha (uB ⋯ hb) ⋯ ⋯ hb z0 z1 f0 f1 ⋯;exact⟨u',x,o9,o10,ax (mD (aa rfl) pR (jL (bb ah (bb (aa rfl) ah trivial (cL ⋯)) trivial bt)) trivial (gU ⋯)) aD (ax (bb ah (bb (aa rfl) ah trivial (iW ⋯)) trivial bt) aD (aK (aQ (aa rfl) ah trivial (bH (by simp[h]))) au q)),hs⟩
theorem BU(h0:0<=n)(h1:n<3):∃m:Int,8<=m/\m<=24/\CS [U.int 8,.int 16,.int 24] n=Od (.int m):=by
 obtain⟨k,rfl⟩:=PN h0;have:k=0\/k=1\/k=2:=by omega
 rcases this with rfl|rfl|rfl
 ·exact⟨8,⋯,⋯,rfl⟩
 ·exact⟨16,⋯,⋯,rfl⟩
 ·exact⟨24,⋯,⋯,rfl⟩
theorem ra(hD:bf Γ)(hu:Src T u)(hT:T+100<2 ^ 62):
  ∃(ws:List Str) (u':U),eE Γ mP [0] uA [u]=Od (.ok (.own,.tup [.lst (ws.map .str),u']))/\1<=ws.length/\ws.length<=24/\Src (T+100) u':=by
 have big:(1000:Nat)<=OG:=by decide
 let S1:U->ay:=λv=>[Od (.io,v),Od (.loc,.str small),OB,OB,OB,OB,OB,OB,OB,OB,OB]
 obtain⟨i,u1,r1,i0,i1,s1⟩:=bu (st:=S1 u) (st1:=S1 u) hD (i:=0) (k:=.io) (k0:=.io) (e:=.cst (.int 3)) (m:=3) rfl rfl ah rfl rfl hu ⋯ ⋯ ⋯;obtain⟨m,m0,m1,em⟩:=BU i0 i1;obtain⟨n,u2,r2,n0,n1,s2⟩:=bu (st:=S1 u) (st1:=S1 u1) hD (i:=0) (k:=.io) (k0:=.io) (e:=.idx (.lst [.cst (.int 8),.cst (.int 16),.cst (.int 24)]) (.BV "_law_draw" [.var 0,.cst (.int 3)] [0])) (m:=m) rfl rfl (aL (x:=(.own,.lst [U.int 8,.int 16,.int 24])) (gE (ae ah (ae ah (ae ah ak))) trivial (az aH (az aH (az aH a_))) (by show 3<=OG;omega)) r1 trivial (bU em)) rfl rfl s1 ⋯ ⋯ ⋯;obtain⟨base,u3,r3,hb,s3⟩:=ur (rest:=[Od (.loc,.int (1+n)),OB,OB,OB,OB,OB,OB,OB,OB]) hD s2 ⋯;obtain⟨way,u4,r4,_,_,s4⟩:=bu (st:=[Od (.io,u3),Od (.loc,.str small),Od (.loc,.int (1+n)),Od (.loc,.str base),OB,OB,OB,OB,OB,OB,OB]) (st1:=[Od (.io,u3),Od (.loc,.str small),Od (.loc,.int (1+n)),Od (.loc,.str base),OB,OB,OB,OB,OB,OB,OB]) hD (i:=0) (k:=.io) (k0:=.io) (e:=.cst (.int 4)) (m:=4) rfl rfl ah rfl rfl s3 ⋯ ⋯ ⋯;obtain⟨size,u5,r5,z0,z1,s5⟩:=bu (st:=[Od (.io,u4),Od (.loc,.str small),Od (.loc,.int (1+n)),Od (.loc,.str base),Od (.loc,.int way),OB,OB,OB,OB,OB,OB]) (st1:=[Od (.io,u4),Od (.loc,.str small),Od (.loc,.int (1+n)),Od (.loc,.str base),Od (.loc,.int way),OB,OB,OB,OB,OB,OB]) hD (i:=0) (k:=.io) (k0:=.io) (e:=.cst (.int 8)) (m:=8) rfl rfl ah rfl rfl s4 ⋯ ⋯ ⋯;obtain⟨first,u6,r6,f0,f1,s6⟩:=bu (st:=[Od (.io,u5),Od (.loc,.str small),Od (.loc,.int (1+n)),Od (.loc,.str base),Od (.loc,.int way),Od (.loc,.int (1+size)),OB,OB,OB,OB,OB]) (st1:=[Od (.io,u5),Od (.loc,.str small),Od (.loc,.int (1+n)),Od (.loc,.str base),Od (.loc,.int way),Od (.loc,.int (1+size)),OB,OB,OB,OB,OB]) hD (i:=0) (k:=.io) (k0:=.io) (e:=.cst (.int 26)) (m:=26) rfl rfl ah rfl rfl s5 ⋯ ⋯ ⋯;obtain⟨many,Ij⟩:=PN (show 0<=1+n by omega);obtain⟨st',hf,u7,ws,o8,o9,o10,rfl,s7,l7,_⟩:=dS (rs:=[(.loc,.int (1+n))]) (t:=OE) (is:=[8]) (body:=execs Γ oA) (λi:Nat=>(Kd.loc,U.int (0+(i:Int)))) (λd r st=>∃(u3:U) (ws:List Str) (o8 o9 o10:Option (Kd×U)),st=fT u3 (1+n) base way (1+size) first ws o8 o9 o10/\Src (T+13+(d.length:Nat)) u3/\ws.length=d.length/\∃j,d=W0 0 j/\r=W0 j (many - j)/\j<=many)
  (λd r st _=>trivial) (λd y r st h=>by
   obtain⟨u3,ws,o8,o9,o10,rfl,s3,l3,j,rfl,er,hj⟩:=h;have Ou:j<many:=by
    rcases Nat.lt_or_ge j many with z|z
    ·exact z
    ·rw[show many - j=0 by omega]at er;cases er
   rw[show many - j=(many - (j+1))+1 by omega,List.range'_succ]at er;cases er;rw[List.length_range']at s3 l3;obtain⟨u4,x,LN,Ii,q,s4⟩:=q_ (Γ:=Γ) hD (u:=u3) (many:=1+n) (base:=base) (way:=way) (size:=1+size) (first:=first) (acc:=ws) (k:=y) (o9:=o9) (o10:=o10) s3 ⋯ ⋯ hb ⋯ ⋯ f0 f1 ⋯;refine⟨fT u3 (1+n) base way (1+size) first ws (Od (.loc,.int (0+(y:Int)))) o9 o10,_,aD,q,u4,ws++[x],_,_,_,rfl,s4.up (by simp;omega),by simp[l3],y+1,by have:=@List.range'_1_concat 0 y;simpa using this.symm,rfl,⋯⟩) (O2 many) [] (fT u6 (1+n) base way (1+size) first [] OB OB OB) ⟨u6,[],OB,OB,OB,rfl,s6.up (by simp;omega),by simp,0,rfl,by rw[List.range_eq_range'];simp,⋯⟩
 rw[Pu,P5]at s7 l7;refine⟨ws,u7,?_,⋯,⋯,s7.up ⋯⟩;refine bC (st0:=[Od (.io,u),OB,OB,OB,OB,OB,OB,OB,OB,OB,OB]) (f:=.rt .own (.lst (ws.map .str))) (st:=(fT u7 (1+n) base way (1+size) first ws o8 o9 o10).set 7 OB) rfl ?_ ?_ rfl rfl
 ·obtain⟨_,_,_,rfl,_⟩:=hu;rfl
 refine ax (st2:=S1 u) ah aD (ax (bb ah r2 trivial bt) aD (ax r3 aD (ax r4 aD (ax (bb ah r5 trivial bt) aD (ax r6 aD (ax (gE ak trivial a_ (O_ _)) cv ?_))))));refine eO (rs:=[(.loc,.int (1+n))]) (xs:=(O2 many).map λi:Nat=>(Kd.loc,U.int (0+(i:Int)))) (ae (aa rfl) ak) trivial (by rw[Ij];exact fg ⋯) rfl hf (cw (aP rfl) (mE rfl))
def k8(Γ:Tab):Prop:=∀(T:Int) (u:U),Src T u->T+100<2 ^ 62->∃(ws:List Str) (u':U),Γ "_law_words" [u]=Od (.ok (.own,.tup [.lst (ws.map .str),u']))/\1<=ws.length/\ws.length<=24/\Src (T+100) u'
theorem wY(hD:bf (Cg Pg d))(h:C9 Pg "_law_words" mP):k8 (Cg Pg (d+1)):=by
 intro T u hu hT;obtain⟨ws,u',e,r⟩:=ra hD hu hT;exact⟨ws,u',by rw[bN h _ rfl];exact e,r⟩
def cG(ks:List Str)(x:Str):List Str:=if x∈ks then ks else ks++[x]
theorem uC:dput ks (ks.map f) x u=(cG ks x,(cG ks x).map λk=>if k=x then u else f k):=by
 unfold dput cG;by_cases h:x∈ks
 ·rw[Xs h,Xs h];congr 1
  clear h;induction ks with
  |nil=>rfl
  |cons k ks ih=>rw[OQ,Rk,OQ,OQ,ih]
 ·rw[Xu h,Xu h];congr 1
  rw[PZ,Te,Xs rfl];congr 1
  refine QE λk hk=>?_;rw[Xu (λe:k=x=>h (e▸hk))]
theorem oB(h:ks.Nodup):(cG ks x).Nodup:=by
 unfold cG;split
 ·exact h
 ·rename_i hx;exact Rq.mpr ⟨h,by simp,λa ha c hc=>by rw[O1]at hc;subst hc;exact λe=>hx (e▸ha)⟩
theorem dW:y∈cG ks x↔y∈ks\/y=x:=by
 unfold cG;split
 ·rename_i h;exact⟨.inl,λz=>z.elim id λe=>e▸h⟩
 ·simp
theorem k9(h:ks.length<1000):dJ (.str x) u (.CD ks (ks.map f))=Od (.CD (cG ks x) ((cG ks x).map λk=>if k=x then u else f k)):=by
 rw[wQ h,uC]
theorem dX(h:x∈ks):gf ks (ks.map f) x=Od (f x):=by
 induction ks with
 |nil=>cases h
 |cons k ks ih =>
  rw[OQ];unfold gf;by_cases e:k=x
  ·rw[Xs e,e]
  ·rw[Xu e];exact ih ((OV.mp h).resolve_left λz=>e z.symm)
def xN:List S:=[.put 1 (.var 4) (.cst (.bl OA))]
def uD:List S:=[.put 1 (.var 2) (.cst (.bl OA)),.B' OE [4] .seq [.var 3] xN]
def A9:Fn:=⟨"_law_all",1,5,[.set 1 (.C8 OE),.B' OA [2,3] .seq [.var 0] uD,.ret (.bi .sorted [.var 1])]⟩
def wZ(ks:List Str):U:=.CD ks (ks.map λ_=>.bl OA)
theorem p7(h:ks.length<1000):dJ (.str x) (.bl OA) (wZ ks)=Od (wZ (cG ks x)):=by
 unfold wZ;rw[k9 h];congr 3
 funext k
 split<;>rfl
def gN(ws ks:List Str):Prop:=ks.Nodup/\∀x∈ks,x∈ws
theorem gN.ins(h:gN ws ks)(hx:x∈ws):gN ws (cG ks x):=⟨oB h.1,λy hy=>(dW.mp hy).elim (h.2 y) λe=>e▸hx⟩
theorem gN.len(h:gN ws ks):ks.length<=ws.length:=mG h.1 h.2
def k_(rs:List Row)(ks:List Str)(o2 o3 o4:Option (Kd×U)):ay:=[Od (.loc,.tup (rs.map BX)),Od (.own,wZ ks),o2,o3,o4]
theorem w9(hw:ws.length<1000)(hk:gN ws ks)(hr:aW ws r):
  ∃GI DV,Run (execs Γ uD) (k_ rs ks (Od (.loc,.str r.1)) (Od (.loc,.tup (r.2.map .str))) o4) .nx (k_ rs GI (Od (.loc,.str r.1)) (Od (.loc,.tup (r.2.map .str))) DV)/\gN ws GI:=by
 have l0:=hk.len;obtain⟨st',hf,GI,DV,rfl,Cv,_⟩:=dS (rs:=[(.loc,.tup (r.2.map .str))]) (t:=OE) (is:=[4]) (body:=execs Γ xN) (λx:Str=>(Kd.loc,U.str x)) (λd q st=>∃GI DV,st=k_ rs GI (Od (.loc,.str r.1)) (Od (.loc,.tup (r.2.map .str))) DV/\gN ws GI/\∀x∈q,x∈ws)
  (λ_ _ _ _=>trivial) (λd y q st h=>by
   obtain⟨Jq,DV,rfl,h1,h2⟩:=h;have l1:=h1.len;exact⟨k_ rs Jq (Od (.loc,.str r.1)) (Od (.loc,.tup (r.2.map .str))) (Od (.loc,.str y)),_,aD,iY (k:=.own) (k':=.own) ah rfl (aa rfl) (az aH (az aH a_)) rfl rfl (p7 ⋯) au,cG Jq y,_,rfl,h1.ins (h2 y (by simp)),λx hx=>h2 x (by simp[hx])⟩) r.2 [] (k_ rs (cG ks r.1) (Od (.loc,.str r.1)) (Od (.loc,.tup (r.2.map .str))) o4) ⟨_,_,rfl,hk.ins hr.1,hr.2.2.1⟩
 refine⟨GI,DV,?_,Cv⟩;exact iY (k:=.own) (k':=.own) ah rfl (aa rfl) (az aH (az aH a_)) rfl rfl (p7 ⋯) (eO (rs:=[(.loc,.tup (r.2.map .str))]) (ae (aa rfl) ak) trivial (by show Od ((r.2.map U.str).map λu=>(kE .loc,u))=_;rw[Pp];rfl) rfl hf au)
theorem la{rs:List Row}:DB .seq [(k,.tup (rs.map BX))]=Od (rs.map λr=>(kE k,BX r)):=by
 show Od ((rs.map BX).map λu=>(kE k,u))=_;rw[Pp];rfl
def uE(Γ:Tab):Prop:=∀(ws:List Str) (rs:List Row),ws.length<=24->(∀r∈rs,aW ws r)->∃ts,Γ "_law_all" [.tup (rs.map BX)]=Od (.ok (.own,.lst (ts.map .str)))/\gN ws ts
theorem w_{rs:List Row}(hw:ws.length<=24)(hr:∀r∈rs,aW ws r):∃ts,c8 Γ A9 [.tup (rs.map BX)]=Od (.ok (.own,.lst (ts.map .str)))/\gN ws ts:=by
 obtain⟨st',hf,ks,o2,o3,o4,rfl,hk,_⟩:=dS (rs:=[(.loc,.tup (rs.map BX))]) (t:=OA) (is:=[2,3]) (body:=execs Γ uD) (λr:Row=>(Kd.loc,BX r)) (λd q st=>∃ks o2 o3 o4,st=k_ rs ks o2 o3 o4/\gN ws ks/\∀r∈q,aW ws r)
  (λ_ _ _ _=>trivial) (λd y q st h=>by
   obtain⟨Jq,o2,o3,o4,rfl,h1,h2⟩:=h;obtain⟨NU,DV,q1,h3⟩:=w9 (Γ:=Γ) (rs:=rs) (o4:=o4) ⋯ h1 (h2 y (by simp));exact⟨k_ rs Jq (Od (.loc,.str y.1)) (Od (.loc,.tup (y.2.map .str))) o4,_,pZ (.inl rfl),q1,NU,_,_,_,rfl,h3,λr hr=>h2 r (by simp[hr])⟩) rs [] (k_ rs [] OB OB OB) ⟨[],OB,OB,OB,rfl,⟨by simp,by simp⟩,hr⟩
 have hl:=hk.len;refine⟨aF ks,?_,⟨(bj _).nodup_iff.mpr hk.1,λx hx=>hk.2 x ((bj _).mem_iff.mp hx)⟩⟩;refine cp (st0:=[Od (.loc,.tup (rs.map BX)),OB,OB,OB,OB]) rfl (.inl rfl) ?_ (ax (st2:=k_ rs [] OB OB OB) oh cv (eO (rs:=[(.loc,.tup (rs.map BX))]) (ae (aa rfl) ak) trivial la rfl hf (cw (bX (ae (aP rfl) ak) (by(first|exact trivial|exact⟨⟨_,rfl,rfl⟩,trivial⟩|exact⟨⟨_,rfl,rfl⟩,⟨_,rfl,rfl⟩,trivial⟩)) ?_) pU)))
 ·show [Od (if Co (.tup (rs.map BX))=OA then Kd.loc else Kd.any,U.tup (rs.map BX)),OB,OB,OB,OB]=_;rw[Xs (by show bD (rs.map BX)=OA;exact cm rs)]
 ·show(if ks.length<64 then Od (Kd.own,U.lst ((aF ks).map .str)) else OB)=_;rw[Xs ⋯]
theorem A_(h:C9 Pg "_law_all" A9):uE (Cg Pg (d+1)):=λws rs hw hr=>by
 obtain⟨ts,e,k⟩:=w_ (Γ:=Cg Pg d) hw hr;exact⟨ts,by rw[bI h];exact e,k⟩
def uF:List S :=
   [.set 7 (.Dz 4 (.BV "_law_draw" [.var 0,.bi .len [.var 4]] [0])),
   .ite (.and [.cmp .Cd (.var 7) (.var 3),.cmp .eq (.BV "_law_draw" [.var 0,.var 2] [0]) (.cst (.int 0))])
    [.app 5 (.tup [.var 7,.tup []])]
    []]
def Ba:List S :=
   [.ite (.cmp .ne (.BV "_law_draw" [.var 0,.cst (.int 8)] [0]) (.cst (.int 1)))
      [.ret (.var 1)]
      [],
    .set 2 (.bin .add (.cst (.int 1)) (.BV "_law_draw" [.var 0,.cst (.int 2)] [0])),
    .set 3 (.comp 1 OE .seq [.var 1] [.cmp .eq (.idx (.var 0) (.cst (.int 1))) (.tup [])] (.idx (.var 0) (.cst (.int 0)))),
    .set 4 (.call "_law_all" [.var 1]),
    .set 5 (.lst []),
    .B' OE [6] .Cq [.bi .len [.var 4]] uF,
    .ret (.bin .add (.var 1) (.bi .tuple [(.var 5)]))]
def zE:Fn:=⟨"_law_widened",2,8,.Dr [0]::Ba⟩
theorem lb(h:(!(i==j))=c):b7 .ne (.int i) (.int j)=Od c:=by subst h;rfl
def fU(u:U)(rs:List Row)(share:Int)(hs ts:List Str)(more:List Row)(o6 o7:Option (Kd×U)):ay:=[Od (.io,u),Od (.loc,.tup (rs.map BX)),Od (.loc,.int share),Od (.own,.lst (hs.map .str)),Od (.own,.lst (ts.map .str)),Od (.own,.lst (more.map BX)),o6,o7]
theorem uG(hD:bf Γ)(hu:Src T u)(hT:T+2<2 ^ 62)(p0:0<share)(p1:share<=2)(ht:0<ts.length)(Ov:ts.length<=24)(FJ:∀x∈ts,x∈ws)(hm:∀r∈more,aW ws r)(Ow:more.length<1000):
  ∃u' ES ET E5,Run (execs Γ uF) (fU u rs share hs ts more o6 o7) .nx (fU u' rs share hs ES ET o6 E5)/\Src (T+2) u'/\ES.length+1=ts.length/\(∀x∈ES,x∈ws)/\(∀r∈ET,aW ws r)/\ET.length<=more.length+1:=by
 have big:(1000:Nat)<=OG:=by decide
 obtain⟨n,u1,r1,n0,n1,s1⟩:=bu (st:=fU u rs share hs ts more o6 o7) (st1:=fU u rs share hs ts more o6 o7) hD (i:=0) (k:=.io) (k0:=.io) (e:=.bi .len [.var 4]) (m:=((ts.map U.str).length:Nat)) rfl rfl (bX (ae (aP rfl) ak) (by(first|exact trivial|exact⟨⟨_,rfl,rfl⟩,trivial⟩|exact⟨⟨_,rfl,rfl⟩,⟨_,rfl,rfl⟩,trivial⟩)) bF) rfl rfl hu ⋯ (by simp;omega) (by simp;omega);rw[OJ]at n1;have hn:n.toNat<ts.length:=by omega
 have hx:(ts.map U.str)[n.toNat]?=Od (.str ts[n.toNat]):=by simp[hn]
 have Il:ts[n.toNat]∈ws:=FJ _ (Qp hn);generalize ts[n.toNat]=x at hx Il;have he:(ts.map U.str).eraseIdx n.toNat=(ts.eraseIdx n.toNat).map U.str:=by
  rw[TF,TF,PZ,Wo,Wq]
 have hl:(ts.eraseIdx n.toNat).length+1=ts.length:=by rw[List.length_eraseIdx_of_lt hn];omega
 have Fu:∀y∈ts.eraseIdx n.toNat,y∈ws:=λy hy=>FJ y (List.mem_of_mem_eraseIdx hy);have q1:Run (ev Γ (.Dz 4 (.BV "_law_draw" [.var 0,.bi .len [.var 4]] [0]))) (fU u rs share hs ts more o6 o7) (.loc,.str x) (fU u1 rs share hs (ts.eraseIdx n.toNat) more o6 o7):=by
  have:=zw (i:=4) (k0:=.own) (k:=.own) (us0:=ts.map U.str) (us:=ts.map U.str) rfl (by intro z;cases z) r1 rfl rfl n0 ⋯ hx;rw[he]at this;exact this
 generalize ts.eraseIdx n.toNat=ES at q1 hl Fu;have t1:Run (Cc Γ (.cmp .Cd (.var 7) (.var 3))) (fU u1 rs share hs ES more o6 (Od (.loc,.str x))) (OI (x∉hs)) (fU u1 rs share hs ES more o6 (Od (.loc,.str x))):=aQ (aa rfl) (aP rfl) (by(first|exact trivial|exact⟨⟨_,rfl,rfl⟩,trivial⟩|exact⟨⟨_,rfl,rfl⟩,⟨_,rfl,rfl⟩,trivial⟩)) iX;by_cases hh:x∈hs
 ·rw[Xv (by simp[hh])]at t1;exact⟨u1,ES,more,_,ax q1 aD (aK (iQ (oi t1)) au au),s1.up ⋯,hl,Fu,hm,⋯⟩
 ·rw[Xw hh]at t1;obtain⟨m,u2,r2,m0,m1,s2⟩:=bu (st:=fU u1 rs share hs ES more o6 (Od (.loc,.str x))) (st1:=fU u1 rs share hs ES more o6 (Od (.loc,.str x))) hD (i:=0) (k:=.io) (k0:=.io) (e:=.var 2) (m:=share) rfl rfl (aa rfl) rfl rfl s1 ⋯ p0 ⋯;by_cases hz:m=0
  ·refine⟨u2,ES,more++[(x,[])],Od (.loc,.str x),ax q1 aD (cj (iQ (iS t1 (fe (aQ r2 ah trivial (bH (c:=OA) (by simp[hz])))))) (iU (k:=.own) (k':=.own) rfl (fP (ae (aa rfl) (ae (fP ak trivial a_ (O_ _)) ak)) trivial (az aH (az aH a_)) (by show 2<=OG;omega)) aH rfl rfl (by simp;omega) au) ?_),s2.up ⋯,hl,Fu,?_,by simp⟩
   ·rw[show more.map BX++[U.tup [.str x,.tup []]]=(more++[(x,[])]).map BX by simp[BX]];exact au
   ·intro r hr;rcases QU.mp hr with hr|hr
    ·exact hm r hr
    ·rw[O1]at hr;subst hr;exact⟨Il,by simp,by simp,by simp⟩
  ·exact⟨u2,ES,more,_,ax q1 aD (aK (iQ (iS t1 (fe (aQ r2 ah trivial (bH (c:=OE) (by simp[hz])))))) au au),s2.up ⋯,hl,Fu,hm,⋯⟩
theorem uH{rs:List Row}(hl:rs.length<=1000)(h:st[i]?=Od (Od (.loc,.tup (rs.map BX)))):Run (ev Γ (.comp 1 OE .seq [.var i] [.cmp .eq (.idx (.var 0) (.cst (.int 1))) (.tup [])] (.idx (.var 0) (.cst (.int 0))))) st (.own,.lst (((rs.filter λr=>OI (r.2=[])).map (·.1)).map .str)) st:=by
 have big:(1000:Nat)<=OG:=by decide
 have i0:∀y:Row,dG (.loc,BX y) (.int 0)=Od (.loc,.str y.1):=λy=>rfl;have i1:∀y:Row,dG (.loc,BX y) (.int 1)=Od (.loc,.tup (y.2.map .str)):=λy=>rfl;have hx:=oo (cond:=aS Γ [.cmp .eq (.idx (.var 0) (.cst (.int 1))) (.tup [])]) (elt:=ev Γ (.idx (.var 0) (.cst (.int 0)))) (src:=[(.loc,.tup (rs.map BX))]) (st:=st) trivial .loc (.inl rfl) BX (λr:Row=>.str r.1) (λr=>OI (r.2=[])) .loc rs [] (by simp;omega)
  (λr _=>⟨fe (aQ (aL (aa rfl) ah trivial (i1 r)) (fP ak trivial a_ (O_ _)) trivial wR),λ_=>⟨aL (aa rfl) ah trivial (i0 r),aH⟩⟩)
 rw[Pu]at hx;rw[Pp];exact dR (rs:=[(.loc,.tup (rs.map BX))]) (ae (aa h) ak) trivial la hx
def uI(Γ:Tab):Prop:=∀(T:Int) (u:U) (ws:List Str) (rs:List Row),Src T u->T+60<2 ^ 62->ws.length<=24->(∀r∈rs,aW ws r)->rs.length<=60->∃(CA:List Row) (u':U),Γ "_law_widened" [u,.tup (rs.map BX)]=Od (.ok (.loc,.tup [.tup (CA.map BX),u']))/\(∀r∈CA,aW ws r)/\CA.length<=84/\Src (T+60) u'
theorem xa(hD:bf Γ)(hA:uE Γ){rs:List Row}(hu:Src T u)(hT:T+60<2 ^ 62)(hw:ws.length<=24)(hr:∀r∈rs,aW ws r)(hl:rs.length<=60):
  ∃(CA:List Row) (u':U),eE Γ zE [0] Ba [u,.tup (rs.map BX)]=Od (.ok (.loc,.tup [.tup (CA.map BX),u']))/\(∀r∈CA,aW ws r)/\CA.length<=84/\Src (T+60) u':=by
 have big:(1000:Nat)<=OG:=by decide
 let S0:U->ay:=λv=>[Od (.io,v),Od (.loc,.tup (rs.map BX)),OB,OB,OB,OB,OB,OB]
 have B_:bR [0] [u,.tup (rs.map BX)] zE.ns=S0 u:=by
  obtain⟨_,_,_,rfl,_⟩:=hu;show [Od (Kd.io,_),Od (if Co (.tup (rs.map BX))=OA then Kd.loc else Kd.any,U.tup (rs.map BX)),OB,OB,OB,OB,OB,OB]=_;rw[Xs (by show bD (rs.map BX)=OA;exact cm rs)]
 obtain⟨n,u1,r1,n0,n1,s1⟩:=bu (st:=S0 u) (st1:=S0 u) hD (i:=0) (k:=.io) (k0:=.io) (e:=.cst (.int 8)) (m:=8) rfl rfl ah rfl rfl hu ⋯ ⋯ ⋯;by_cases h1:n=1
 ·obtain⟨p,u2,r2,p0,p1,s2⟩:=bu (st:=S0 u1) (st1:=S0 u1) hD (i:=0) (k:=.io) (k0:=.io) (e:=.cst (.int 2)) (m:=2) rfl rfl ah rfl rfl s1 ⋯ ⋯ ⋯;obtain⟨ts,ea,LO⟩:=hA ws rs hw hr;have Ox:=LO.len;generalize NV:((rs.filter λr=>OI (r.2=[])).map (·.1))=hs;have hh:=uH (Γ:=Γ) (st:=[Od (.io,u2),Od (.loc,.tup (rs.map BX)),Od (.loc,.int (1+p)),OB,OB,OB,OB,OB]) (rs:=rs) (i:=1) ⋯ rfl;rw[NV]at hh;obtain⟨st',hf,u3,FU,more,o6,o7,rfl,s3,l3,m3,i3,g3,_⟩:=dS (rs:=[(.loc,.int (ts.length:Nat))]) (t:=OE) (is:=[6]) (body:=execs Γ uF) (λi:Nat=>(Kd.loc,U.int (0+(i:Int)))) (λd r st=>∃(u3:U) (FU:List Str) (more:List Row) (o6 o7:Option (Kd×U)),st=fU u3 rs (1+p) hs FU more o6 o7/\Src (T+2+2 * (d.length:Nat)) u3/\FU.length=r.length/\more.length<=d.length/\(∀x∈FU,x∈ws)/\(∀r∈more,aW ws r)/\d.length+r.length=ts.length)
   (λd r st _=>trivial) (λd y r st h=>by
    obtain⟨u3,FU,more,o6,o7,rfl,s3,l3,m3,i3,g3,t3⟩:=h;simp only[Pb]at l3 t3;obtain⟨u4,NW,Im,E5,q,s4,l4,i4,g4,m4⟩:=uG (Γ:=Γ) hD (u:=u3) (share:=1+p) (rs:=rs) (more:=more) (ws:=ws) (hs:=hs) (ts:=FU) (o6:=Od (.loc,.int (0+(y:Int)))) (o7:=o7) s3 ⋯ ⋯ ⋯ ⋯ ⋯ i3 g3 ⋯;refine⟨fU u3 rs (1+p) hs FU more (Od (.loc,.int (0+(y:Int)))) o7,_,aD,q,u4,NW,Im,_,_,rfl,s4.up (by simp;omega),⋯,by simp;omega,i4,g4,by simp;omega⟩) (O2 ts.length) [] (fU u2 rs (1+p) hs ts [] OB OB) ⟨u2,ts,[],OB,OB,rfl,s2.up (by simp;omega),by simp,by simp,LO.2,by simp,by simp⟩
  rw[Pu,P5]at m3 s3;refine⟨rs++more,u3,?_,?_,by simp;omega,s3.up ⋯⟩
  ·refine bC (f:=.rt .loc (.tup ((rs++more).map BX))) (st:=fU u3 rs (1+p) hs FU more o6 o7) rfl B_ ?_ rfl rfl;refine aK (aQ r1 ah trivial (lb (by simp[h1]))) au (ax (bb ah r2 trivial bt) aD (ax hh cv (ax (dc (ae (aa rfl) ak) trivial ea) cv (ax (gE ak trivial a_ (O_ _)) cv ?_))));refine eO (rs:=[(.loc,.int (ts.length:Nat))]) (ae (bX (ae (aP rfl) ak) (by(first|exact trivial|exact⟨⟨_,rfl,rfl⟩,trivial⟩|exact⟨⟨_,rfl,rfl⟩,⟨_,rfl,rfl⟩,trivial⟩)) (by rw[bF,OJ])) ak) trivial (fg ⋯) rfl hf (cw (bb (aa rfl) (bX (ae (aP rfl) ak) (by(first|exact trivial|exact⟨⟨_,rfl,rfl⟩,trivial⟩|exact⟨⟨_,rfl,rfl⟩,⟨_,rfl,rfl⟩,trivial⟩)) rfl) trivial ?_) dk);show(if (rs.map BX).length+(more.map BX).length<=OG then Od (kT .loc .loc,U.tup (rs.map BX++more.map BX)) else OB)=_;rw[Xs (by simp;omega),PZ];rfl
  ·intro r hm;rcases QU.mp hm with hm|hm
   ·exact hr r hm
   ·exact g3 r hm
 ·exact⟨rs,u1,bC (f:=.rt .loc (.tup (rs.map BX))) (st:=S0 u1) rfl B_ (ff (aQ r1 ah trivial (lb (by simp[h1]))) (cw (aa rfl) dk)) rfl rfl,hr,⋯,s1.up ⋯⟩
theorem Bb(hD:bf (Cg Pg d))(hA:uE (Cg Pg d))(h:C9 Pg "_law_widened" zE):uI (Cg Pg (d+1)):=by
 intro T u ws rs hu hT hw hr hl;obtain⟨CA,u',e,r⟩:=xa hD hA hu hT hw hr hl;exact⟨CA,u',by rw[bN h _ rfl];exact e,r⟩
section
variable{α:Type}[DecidableEq α]{c:α->Int}
theorem ez:∀{ks:List α},x∈ks->(ks.map c).sum=c x+((ks.erase x).map c).sum
 |k::ks,h=>by
  by_cases e:k=x
  ·subst e;simp
  ·rw[List.erase_cons_tail (by simp[e]),OQ,OQ,Rc,Rc,ez ((OV.mp h).resolve_left λz=>e z.symm)];omega
theorem lh:∀{ks:List α},(∀k∈ks,0<=c k)->0<=(ks.map c).sum
 |[],_=>by simp
 |k::ks,h=>by
  have h1:=h k (by simp);have h2:=lh (ks:=ks) λy hy=>h y (by simp[hy]);rw[OQ,Rc];omega
theorem p8:∀{ts ks:List α},ts.Nodup->(∀x∈ts,x∈ks)->(∀k∈ks,0<=c k)->(ts.map c).sum<=(ks.map c).sum
 |[],ks,_,_,h=>by simpa using lh h
 |x::ts,ks,hn,hs,h=>by
  rw[PX]at hn;have ih:=p8 (ts:=ts) (ks:=ks.erase x) hn.2 (λy hy=>(U9 (λe=>hn.1 (by subst e;exact hy))).mpr (hs y (by simp[hy]))) λk hk=>h k (List.mem_of_mem_erase hk);rw[ez (hs x (by simp)),OQ,Rc];omega
def upd(c:α->Int)(x:α)(p:Int):α->Int:=λk=>if k=x then p else c k
theorem p9{ks:List α}(h:x∉ks):(ks.map (upd c x p)).sum=(ks.map c).sum:=by
 congr 1
 refine QE λk hk=>?_;unfold upd;rw[Xu (λe:k=x=>h (e▸hk))]
theorem xb{ks:List α}(hn:ks.Nodup)(h:x∈ks):(ks.map (upd c x p)).sum+c x=(ks.map c).sum+p:=by
 rw[ez (c:=upd c x p) h,ez (c:=c) h,p9 hn.not_mem_erase];unfold upd;rw[Xs rfl];omega
end
abbrev C4:=List Str×(Str->Int)
def Cs(s:C4)(r:Row):Int:=1+(r.2.map s.2).sum
def may(s:C4)(r:Row):Bool:=r.2.all λx=>OI (x∈s.1)
def DW(s:C4)(r:Row):Bool:=!OI (r.1∈s.1)||decide (Cs s r<s.2 r.1)
def Ej(s:C4)(r:Row):C4:=if (may s r&&DW s r)=OA then(cG s.1 r.1,upd s.2 r.1 (Cs s r)) else s
def Di:List Row->C4×Bool->C4×Bool
 |[],s=>s
 |r::rs,(s,b)=>Di rs (Ej s r,b||(may s r&&DW s r))
def lim(rs:List Row):Nat->C4->C4
 |0,s=>s
 |n+1,s=>if (Di rs (s,OE)).2=OA then lim rs n (Di rs (s,OE)).1 else(Di rs (s,OE)).1
def fV(ws:List Str)(s:C4):Prop:=gN ws s.1/\(∀k∈s.1,1<=s.2 k)/\(s.1.map s.2).sum<2 ^ s.1.length
def mu(s:C4):Int:=(24 - (s.1.length:Nat)) * 2 ^ 24+(s.1.map s.2).sum
theorem p_(hw:ws.length<=24)(h:fV ws s):0<=mu s:=by
 have h1:=h.1.len;have h2:=lh (c:=s.2) (ks:=s.1) λk hk=>by have:=h.2.1 k hk;omega
 unfold mu;omega
theorem lj(hw:ws.length<=24)(h:fV ws s)(hr:aW ws r):fV ws (Ej s r)/\mu (Ej s r)<=mu s/\((may s r&&DW s r)=OA->mu (Ej s r)<mu s):=by
 unfold Ej;split
 ·rename_i hc;rw[OD]at hc;obtain⟨hm,hb⟩:=hc;obtain⟨hk,h1,hs⟩:=h;have ht:∀x∈r.2,x∈s.1:=λx hx=>by have:=O6.mp hm x hx;simpa using this
  have LP:∀k∈s.1,0<=s.2 k:=λk hk=>by have:=h1 k hk;omega
  have p1:Cs s r<=1+(s.1.map s.2).sum:=by
   have:=p8 (c:=s.2) hr.2.1 ht LP;unfold Cs;omega
  have p0:1<=Cs s r:=by
   have:=lh (c:=s.2) (ks:=r.2) λk hk=>LP k (ht k hk);unfold Cs;omega
  have Cv:=hk.ins hr.1;have hv:∀k∈cG s.1 r.1,1<=upd s.2 r.1 (Cs s r) k:=λk hk=>by
   unfold upd;split
   ·exact p0
   ·rename_i C7;exact h1 k ((dW.mp hk).resolve_right C7)
  have Fx:=Cv.len;by_cases hx:r.1∈s.1
  ·have e:cG s.1 r.1=s.1:=by unfold cG;rw[Xs hx]
   have Ce:Cs s r<s.2 r.1:=by
    unfold DW at hb;simpa[hx] using hb
   have Fv:=xb (c:=s.2) (p:=Cs s r) hk.1 hx;rw[e]at Cv hv ⊢;have NX:(s.1.map (upd s.2 r.1 (Cs s r))).sum<(s.1.map s.2).sum:=by omega
   refine⟨⟨Cv,hv,by show(s.1.map (upd s.2 r.1 (Cs s r))).sum<2 ^ s.1.length;omega⟩,?_,λ_=>?_⟩<;>(unfold mu;dsimp only;omega)
  ·have e:cG s.1 r.1=s.1++[r.1]:=by unfold cG;rw[Xu hx]
   have Fv:((s.1++[r.1]).map (upd s.2 r.1 (Cs s r))).sum=(s.1.map s.2).sum+Cs s r:=by
    rw[PZ,List.sum_append,p9 hx,Te,List.sum_singleton];unfold upd;rw[Xs rfl]
   rw[e]at Cv hv Fx ⊢;rw[O8,Qu]at Fx;have KN:(2:Int) ^ (s.1.length+1)=2 * 2 ^ s.1.length:=by rw[Int.pow_succ];omega
   have hle:(2:Int) ^ s.1.length<=2 ^ 23:=by
    have h3:(2:Nat) ^ s.1.length<=2 ^ 23:=Nat.pow_le_pow_right ⋯ ⋯;have h4:=Int.ofNat_le.mpr h3;rw[Wc,Wc]at h4;exact h4
   refine⟨⟨Cv,hv,?_⟩,?_,λ_=>?_⟩
   ·show((s.1++[r.1]).map (upd s.2 r.1 (Cs s r))).sum<2 ^ (s.1++[r.1]).length;rw[Fv,O8,Qu,KN];omega
   ·unfold mu
    dsimp only
    rw[Fv,O8,Qu];omega
   ·unfold mu
    dsimp only
    rw[Fv,O8,Qu];omega
 ·rename_i hc;exact⟨h,SX _,λz=>absurd z hc⟩
theorem gV(hw:ws.length<=24):∀(rs:List Row) (s:C4) (b:Bool),(∀r∈rs,aW ws r)->fV ws s->fV ws (Di rs (s,b)).1/\mu (Di rs (s,b)).1<=mu s/\((Di rs (s,b)).2=OA->b=OA\/mu (Di rs (s,b)).1<mu s)
 |[],s,b,_,h=>⟨h,SX _,.inl⟩
 |r::rs,s,b,hr,h=>by
  obtain⟨a1,a2,a3⟩:=lj hw h (hr r (by simp));obtain⟨b1,b2,b3⟩:=gV hw rs (Ej s r) (b||(may s r&&DW s r)) (λy hy=>hr y (by simp[hy])) a1;refine⟨b1,SD b2 a2,λz=>?_⟩;rcases b3 z with z|z
  ·rw[Qj]at z;rcases z with z|z
   ·exact .inl z
   ·exact .inr (Int.lt_of_le_of_lt b2 (a3 z))
  ·exact .inr (Int.lt_of_lt_of_le z a2)
theorem ll(hw:ws.length<=24)(hr:∀r∈rs,aW ws r):∀(n:Nat) (s:C4),fV ws s->fV ws (lim rs n s)
 |0,s,h=>h
 |n+1,s,h=>by
  unfold lim;have:=(gV hw rs s OE hr h).1;split
  ·exact ll hw hr n _ this
  ·exact this
def oC : List S :=
        [.ite (.bi .all [.comp 1 OE .seq [.var 4] [] (.cmp .isin (.var 0) (.var 2))])
          [.set 5 (.bin .add (.cst (.int 1)) (.bi .sum [.comp 1 OE .seq [.var 4] [] (.idx (.var 2) (.var 0))])),
          .ite (.or [.cmp .Cd (.var 3) (.var 1),.cmp .lt (.var 5) (.idx (.var 1) (.var 3))])
            [.put 1 (.var 3) (.var 5),
            .set 2 (.cst (.bl true))]
            []]
          []]
def oD:List S :=
   [.set 2 (.cst (.bl OE)),
   .B' OA [3,4] .seq [(.var 0)] oC]
def uJ:Fn:=⟨"_law_costs",1,6,[.set 1 (.C8 OE),.set 2 (.cst (.bl OA)),.EG (.var 2) oD,.ret (.var 1)]⟩
def cD(s:C4):U:=.CD s.1 (s.1.map λk=>.int (s.2 k))
def fi(rs:List Row)(s:C4)(b:Bool)(o3 o4 o5:Option (Kd×U)):ay:=[Od (.loc,.tup (rs.map BX)),Od (.own,cD s),Od (.loc,.bl b),o3,o4,o5]
theorem qa{ss:List Str}:DB .seq [(k,.tup (ss.map .str))]=Od (ss.map λx=>(kE k,U.str x)):=by
 show Od ((ss.map U.str).map λu=>(kE k,u))=_;rw[Pp];rfl
theorem qc(f:α->Int):∀(ns:List α),intsOf (ns.map λa=>U.int (f a))=Od (ns.map f)
 |[]=>rfl
 |n::ns=>by show(intsOf (ns.map λa=>U.int (f a))).map _=_;rw[qc f ns];rfl
theorem sum_ints(f:α->Int)(l:List α):Ds .sum [(k,.lst (l.map λa=>U.int (f a)))]=Od (.loc,.int (l.map f).sum):=by
 show(intsOf (l.map λa=>U.int (f a))).map _=_;rw[qc];rfl
theorem uK{told:List Str}(hl:told.length<=1000)(ht:∀x∈told,x∈s.1)(h4:st[4]?=Od (Od (.loc,.tup (told.map .str))))(h1:st[1]?=Od (Od (.own,cD s))):
  Run (ev Γ (.bi .sum [.comp 1 OE .seq [.var 4] [] (.idx (.var 2) (.var 0))])) st (.loc,.int (told.map s.2).sum) st:=by
 have big:(1000:Nat)<=OG:=by decide
 have hx:=gs (cond:=aS Γ []) (elt:=ev Γ (.idx (.var 2) (.var 0))) (src:=[(.loc,.tup (told.map .str))]) (st:=st) trivial .loc (.inl rfl) U.str (λx=>.int (s.2 x)) .loc (λ_=>iR) told [] (by simp;omega)
  (λy hy=>⟨aL (aP (u:=cD s) (by simpa using h1)) (aa rfl) ⟨⟨.own,rfl,by simpa using h1⟩,trivial⟩ (by show(gf s.1 (s.1.map λk=>U.int (s.2 k)) y).map _=_;rw[dX (ht y hy)];rfl),aH⟩)
 rw[Pu]at hx;exact bX (ae (dR (rs:=[(.loc,.tup (told.map .str))]) (ae (aa h4) ak) trivial qa hx) ak) trivial (sum_ints _ _)
theorem uL(hw:ws.length<=24)(hs:fV ws s)(hr:aW ws r):
  ∃DX,Run (execs Γ oC) (fi rs s b (Od (.loc,.str r.1)) (Od (.loc,.tup (r.2.map .str))) o5) .nx (fi rs (Ej s r) (b||(may s r&&DW s r)) (Od (.loc,.str r.1)) (Od (.loc,.tup (r.2.map .str))) DX):=by
 have h8:=hr.2.2.2;have hl:=hs.1.len;have t1:=tY (jP (Γ:=Γ) (st:=fi rs s b (Od (.loc,.str r.1)) (Od (.loc,.tup (r.2.map .str))) o5) (src:=.var 4) (j:=1) (told:=r.2) (known:=s.1) (k:=.loc) (w:=cD s) (.inl rfl) ⋯ (aa rfl) (.inr rfl) λx=>t9);unfold Ej;cases hm:may s r with
 |false =>
  rw[show(r.2.all λx=>OI (x∈s.1))=OE from hm]at t1;rw[Xu (by simp),SM,Rf];exact⟨o5,aK t1 au au⟩
 |true =>
  rw[show(r.2.all λx=>OI (x∈s.1))=OA from hm]at t1;have ht:∀x∈r.2,x∈s.1:=λx hx=>by have:=O6.mp hm x hx;simpa using this
  have q1:=uK (Γ:=Γ) (st:=fi rs s b (Od (.loc,.str r.1)) (Od (.loc,.tup (r.2.map .str))) o5) (s:=s) (told:=r.2) ⋯ ht rfl rfl;have q2:Run (ev Γ (.bin .add (.cst (.int 1)) (.bi .sum [.comp 1 OE .seq [.var 4] [] (.idx (.var 2) (.var 0))]))) (fi rs s b (Od (.loc,.str r.1)) (Od (.loc,.tup (r.2.map .str))) o5) (.loc,.int (Cs s r)) (fi rs s b (Od (.loc,.str r.1)) (Od (.loc,.tup (r.2.map .str))) o5):=bb ah q1 trivial bt;have t2:Run (Cc Γ (.or [.cmp .Cd (.var 3) (.var 1),.cmp .lt (.var 5) (.idx (.var 1) (.var 3))])) (fi rs s b (Od (.loc,.str r.1)) (Od (.loc,.tup (r.2.map .str))) (Od (.loc,.int (Cs s r)))) (DW s r) (fi rs s b (Od (.loc,.str r.1)) (Od (.loc,.tup (r.2.map .str))) (Od (.loc,.int (Cs s r)))) :=
   wJ (xH (aQ (aa rfl) (aP rfl) (by(first|exact trivial|exact⟨⟨_,rfl,rfl⟩,trivial⟩|exact⟨⟨_,rfl,rfl⟩,⟨_,rfl,rfl⟩,trivial⟩)) jO) λhp=>pT (aQ (y:=(.loc,.int (s.2 r.1))) (aa rfl) (aL (aP rfl) (aa rfl) (by(first|exact trivial|exact⟨⟨_,rfl,rfl⟩,trivial⟩|exact⟨⟨_,rfl,rfl⟩,⟨_,rfl,rfl⟩,trivial⟩)) (by show(gf s.1 (s.1.map λk=>U.int (s.2 k)) r.1).map _=_;rw[dX (by simpa using hp)];rfl)) trivial (tV rfl)))
  cases hb:DW s r with
  |false =>
   rw[hb]at t2;rw[Xu (by simp),R4,Rf];exact⟨_,cj t1 (ax q2 aD (aK t2 au au)) au⟩
  |true =>
   rw[hb]at t2;rw[Xs (by simp),Ta,WL];have e:dJ (.str r.1) (.int (Cs s r)) (cD s)=Od (cD (cG s.1 r.1,upd s.2 r.1 (Cs s r))):=by
    unfold cD;rw[k9 ⋯];congr 3
    funext k
    show _=U.int (upd s.2 r.1 (Cs s r) k);unfold upd;split<;>rfl
   exact⟨Od (.loc,.int (Cs s r)),cj t1 (ax q2 aD (cj t2 (iY (k:=.own) (k':=.own) (aa rfl) rfl (aa rfl) (az aH (az aH a_)) rfl rfl e (ax ah aD au)) au)) au⟩
theorem mQ(hw:ws.length<=24):∀(ys:List Row) (s:C4) (b:Bool) (o3 o4 o5:Option (Kd×U)),(∀r∈ys,aW ws r)->fV ws s ->
  ∃GJ DV DX,Run (forM OA [3,4] (execs Γ oC) [(.loc,.tup (rs.map BX))] (ys.map λr=>(Kd.loc,BX r))) (fi rs s b o3 o4 o5) .nx (fi rs (Di ys (s,b)).1 (Di ys (s,b)).2 GJ DV DX)
 |[],s,b,o3,o4,o5,_,_=>⟨o3,o4,o5,pV trivial⟩
 |r::ys,s,b,o3,o4,o5,hr,hs=>by
  obtain⟨DX,q⟩:=uL (Γ:=Γ) (rs:=rs) (b:=b) (o5:=o5) hw hs (hr r (by simp));obtain⟨a,c,d,q2⟩:=mQ hw ys (Ej s r) (b||(may s r&&DW s r)) (Od (.loc,.str r.1)) (Od (.loc,.tup (r.2.map .str))) DX (λy hy=>hr y (by simp[hy])) (lj hw hs (hr r (by simp))).1;exact⟨a,c,d,wL trivial (pZ (.inl rfl)) q q2⟩
theorem mR(hw:ws.length<=24)(hr:∀r∈rs,aW ws r):∀(f:Nat) (s:C4) (o3 o4 o5:Option (Kd×U)),fV ws s->mu s+1<f ->
  ∃GJ DV DX,Run (eD (Cc Γ (.var 2)) (execs Γ oD) f) (fi rs s OA o3 o4 o5) .nx (fi rs (lim rs f s) OE GJ DV DX)
 |0,s,_,_,_,hs,hf=>by have:=p_ hw hs;omega
 |f+1,s,o3,o4,o5,hs,hf=>by
  obtain⟨a,c,d,q⟩:=mQ (Γ:=Γ) (rs:=rs) hw rs s OE o3 o4 o5 hr hs;obtain⟨i1,i2,i3⟩:=gV hw rs s OE hr hs;have qb:Run (execs Γ oD) (fi rs s OA o3 o4 o5) .nx (fi rs (Di rs (s,OE)).1 (Di rs (s,OE)).2 a c d):=ax ah aD (eO (rs:=[(.loc,.tup (rs.map BX))]) (ae (aa rfl) ak) trivial la rfl q au);unfold lim;have m0:=p_ hw hs;cases hb:(Di rs (s,OE)).2 with
  |true =>
   rw[hb]at qb;rw[Xs rfl];have Ce:=(i3 hb).resolve_left (by simp);obtain⟨a',c',d',q2⟩:=mR hw hr f (Di rs (s,OE)).1 a c d i1 ⋯;exact⟨a',c',d',t7 (de rfl) qb q2⟩
  |false =>
   rw[hb]at qb;rw[Xu (by simp)];obtain⟨f,rfl⟩:∃g,f=g+1:=⟨f - 1,⋯⟩
   exact⟨a,c,d,t7 (de rfl) qb (pY (de rfl))⟩
def s0:C4:=([],λ_=>0)
theorem lp(ws:List Str):fV ws s0:=⟨⟨Uq,λx h=>(by cases h)⟩,λk h=>(by cases h),by decide⟩
def uM(Γ:Tab):Prop:=∀(ws:List Str) (rs:List Row),ws.length<=24->(∀r∈rs,aW ws r)->Γ "_law_costs" [.tup (rs.map BX)]=Od (.ok (.own,cD (lim rs fuel s0)))
theorem rb(hw:ws.length<=24)(hr:∀r∈rs,aW ws r):c8 Γ uJ [.tup (rs.map BX)]=Od (.ok (.own,cD (lim rs fuel s0))):=by
 obtain⟨a,c,d,q⟩:=mR (Γ:=Γ) hw hr fuel s0 OB OB OB (lp ws) (by unfold fuel;decide);refine cp (st0:=[Od (.loc,.tup (rs.map BX)),OB,OB,OB,OB,OB]) rfl (.inl rfl) ?_ (ax (oh) cv (ax (st2:=fi rs s0 OA OB OB OB) ah aD (t8 q (cw (aP rfl) (mE rfl)))));show [Od (if Co (.tup (rs.map BX))=OA then Kd.loc else Kd.any,U.tup (rs.map BX)),OB,OB,OB,OB,OB]=_;rw[Xs (by show bD (rs.map BX)=OA;exact cm rs)]
theorem zF(h:C9 Pg "_law_costs" uJ):uM (Cg Pg (d+1)):=λws rs hw hr=>by
 rw[bI h];exact rb hw hr
def uN:Fn:=⟨"row_price",2,2,[.ret (.bin .add (.cst (.int 1)) (.bi .sum [.comp 1 OE .seq [.idx (.var 0) (.cst (.int 1))] [] (.idx (.idx (.var 2) (.var 0)) (.cst (.int 0)))]))]⟩
def uO : List S :=
        [.ite (.bi .all [.comp 1 OE .seq [.idx (.var 4) (.cst (.int 1))] [] (.cmp .isin (.var 0) (.var 2))])
          [.set 5 (.call "row_price" [.var 4,.var 1]),
          .ite (.or [.cmp .Cd (.idx (.var 4) (.cst (.int 0))) (.var 1),.cmp .lt (.var 5) (.idx (.idx (.var 1) (.idx (.var 4) (.cst (.int 0)))) (.cst (.int 0)))])
            [.put 1 (.idx (.var 4) (.cst (.int 0))) (.tup [.var 5,.var 3]),
            .set 2 (.cst (.bl true))]
            []]
          []]
def uP:List S :=
   [.set 2 (.cst (.bl OE)),
   .B' OA [3,4] .G4 [(.var 0)] uO]
def Bc:Fn:=⟨"prices_and_places",1,6,[.set 1 (.C8 OE),.set 2 (.cst (.bl OA)),.EG (.var 2) uP,.ret (.var 1)]⟩
def pD(s:C4)(pl:Str->Int):U:=.CD s.1 (s.1.map λk=>.tup [.int (s.2 k),.int (pl k)])
def gu(Γ:Tab):Prop:=∀(s:C4) (pl:Str->Int) (r:Row),(∀x∈r.2,x∈s.1)->r.2.length<=8->Γ "row_price" [BX r,pD s pl]=Od (.ok (.loc,.int (Cs s r)))
theorem uQ(ht:∀x∈r.2,x∈s.1)(h8:r.2.length<=8):c8 Γ uN [BX r,pD s pl]=Od (.ok (.loc,.int (Cs s r))):=by
 have big:(1000:Nat)<=OG:=by decide
 have hx:=gs (cond:=aS Γ []) (elt:=ev Γ (.idx (.idx (.var 2) (.var 0)) (.cst (.int 0)))) (src:=[(.loc,.tup (r.2.map .str))]) (st:=[Od (.loc,BX r),Od (.any,pD s pl)]) trivial .loc (.inl rfl) U.str (λx=>.int (s.2 x)) .any (λ_=>iR) r.2 [] (by simp;omega)
  (λy hy=>⟨aL (x:=(.any,.tup [.int (s.2 y),.int (pl y)])) (aL (aU rfl) (aa rfl) trivial (by show(gf s.1 (s.1.map λk=>U.tup [.int (s.2 k),.int (pl k)]) y).map _=_;rw[dX (ht y hy)];rfl)) ah trivial rfl,tP rfl⟩)
 rw[Pu]at hx;refine cp (st0:=[Od (.loc,BX r),Od (.any,pD s pl)]) rfl (.inr rfl) ?_ (cw (bb ah (bX (ae (dR (rs:=[(.loc,.tup (r.2.map .str))]) (ae (aL (aa rfl) ah trivial rfl) ak) trivial qa hx) ak) trivial (sum_ints _ _)) trivial bt) dk);show [Od (if Co (BX r)=OA then Kd.loc else Kd.any,BX r),Od (if Co (pD s pl)=OA then Kd.loc else Kd.any,pD s pl)]=_;rw[Xs (k6 r),Xu (by show ¬(OE=OA);decide)]
theorem zG(h:C9 Pg "row_price" uN):gu (Cg Pg (d+1)):=λs pl r ht h8=>by
 rw[bI h];exact uQ ht h8
def Ea(rs:List Row)(s:C4)(pl:Str->Int):Prop:=∀k∈s.1,∃(i:Nat) (r:Row),pl k=(i:Int)/\rs[i]?=Od r/\r.1=k/\(∀x∈r.2,x∈s.1)/\Cs s r<=s.2 k
theorem uR{c c':α->Int}:∀{ts:List α},(∀x∈ts,c' x<=c x)->(ts.map c').sum<=(ts.map c).sum
 |[],_=>SX _
 |x::ts,h=>by
  have h1:=h x (by simp);have h2:=uR (ts:=ts) λy hy=>h y (by simp[hy]);rw[OQ,OQ,Rc,Rc];omega
theorem Ea.step{i:Nat}(h:Ea rs s pl)(hi:rs[i]?=Od r)(hm:may s r=OA)(hb:DW s r=OA):Ea rs (cG s.1 r.1,upd s.2 r.1 (Cs s r)) (upd pl r.1 (i:Int)):=by
 have ht:∀x∈r.2,x∈s.1:=λx hx=>by have:=O6.mp hm x hx;simpa using this
 have hc:∀x∈s.1,upd s.2 r.1 (Cs s r) x<=s.2 x:=λx hx=>by
  unfold upd;split
  ·rename_i e;subst e;unfold DW at hb;have:Cs s r<s.2 r.1:=by simpa[hx] using hb
   omega
  ·exact SX _
 have hp:∀q:Row,(∀x∈q.2,x∈s.1)->Cs (cG s.1 r.1,upd s.2 r.1 (Cs s r)) q<=Cs s q:=λq hq=>by
  have:=uR (ts:=q.2) λx hx=>hc x (hq x hx);unfold Cs at this ⊢
  dsimp only
  omega
 intro k hk;by_cases e:k=r.1
 ·subst e;refine⟨i,r,by unfold upd;rw[Xs rfl],hi,rfl,λx hx=>dW.mpr (.inl (ht x hx)),SD (hp r ht) ?_⟩;show Cs s r<=upd s.2 r.1 (Cs s r) r.1;unfold upd;rw[Xs rfl];exact SX _
 ·obtain⟨j,q,a1,a2,a3,a4,a5⟩:=h k ((dW.mp hk).resolve_right e);refine⟨j,q,by unfold upd;rw[Xu e];exact a1,a2,a3,λx hx=>dW.mpr (.inl (a4 x hx)),SD (hp q a4) ?_⟩;show Cs s q<=upd s.2 r.1 (Cs s r) k;unfold upd;rw[Xu e];exact a5
theorem Ea.start(rs:List Row)(pl:Str->Int):Ea rs s0 pl:=λk hk=>by cases hk
def fW(rs:List Row)(s:C4)(pl:Str->Int)(b:Bool)(o3 o4 o5:Option (Kd×U)):ay:=[Od (.loc,.tup (rs.map BX)),Od (.own,pD s pl),Od (.loc,.bl b),o3,o4,o5]
theorem xc(hP:gu Γ){n:Nat}(hw:ws.length<=24)(hs:fV ws s)(hr:aW ws r)(hn:rs[n]?=Od r)(hI:Ea rs s pl):
  ∃FV DX,Run (execs Γ uO) (fW rs s pl b (Od (.loc,.int (n:Int))) (Od (.loc,BX r)) o5) .nx (fW rs (Ej s r) FV (b||(may s r&&DW s r)) (Od (.loc,.int (n:Int))) (Od (.loc,BX r)) DX)/\Ea rs (Ej s r) FV:=by
 generalize NY:(n:Int)=p;have big:(1000:Nat)<=OG:=by decide
 have h8:=hr.2.2.2;have hl:=hs.1.len;have i0:dG (.loc,BX r) (.int 0)=Od (.loc,.str r.1):=rfl;have i1:dG (.loc,BX r) (.int 1)=Od (.loc,.tup (r.2.map .str)):=rfl;have t1:=tY (jP (Γ:=Γ) (st:=fW rs s pl b (Od (.loc,.int p)) (Od (.loc,BX r)) o5) (src:=.idx (.var 4) (.cst (.int 1))) (j:=1) (told:=r.2) (known:=s.1) (k:=.loc) (w:=pD s pl) (.inl rfl) ⋯ (aL (aa rfl) ah trivial i1) (.inr rfl) λx=>t9);unfold Ej;cases hm:may s r with
 |false =>
  rw[show(r.2.all λx=>OI (x∈s.1))=OE from hm]at t1;rw[Xu (by simp),SM,Rf];exact⟨pl,o5,aK t1 au au,hI⟩
 |true =>
  rw[show(r.2.all λx=>OI (x∈s.1))=OA from hm]at t1;have ht:∀x∈r.2,x∈s.1:=λx hx=>by have:=O6.mp hm x hx;simpa using this
  have q2:Run (ev Γ (.call "row_price" [.var 4,.var 1])) (fW rs s pl b (Od (.loc,.int p)) (Od (.loc,BX r)) o5) (.loc,.int (Cs s r)) (fW rs s pl b (Od (.loc,.int p)) (Od (.loc,BX r)) o5):=dc (ae (aa rfl) (ae (aP rfl) ak)) (by(first|exact trivial|exact⟨⟨_,rfl,rfl⟩,trivial⟩|exact⟨⟨_,rfl,rfl⟩,⟨_,rfl,rfl⟩,trivial⟩)) (hP s pl r ht h8);have t2:Run (Cc Γ (.or [.cmp .Cd (.idx (.var 4) (.cst (.int 0))) (.var 1),.cmp .lt (.var 5) (.idx (.idx (.var 1) (.idx (.var 4) (.cst (.int 0)))) (.cst (.int 0)))])) (fW rs s pl b (Od (.loc,.int p)) (Od (.loc,BX r)) (Od (.loc,.int (Cs s r)))) (DW s r) (fW rs s pl b (Od (.loc,.int p)) (Od (.loc,BX r)) (Od (.loc,.int (Cs s r)))) :=
   wJ (xH (aQ (aL (aa rfl) ah trivial i0) (aP rfl) (by(first|exact trivial|exact⟨⟨_,rfl,rfl⟩,trivial⟩|exact⟨⟨_,rfl,rfl⟩,⟨_,rfl,rfl⟩,trivial⟩)) jO) λhp=>pT (aQ (y:=(.loc,.int (s.2 r.1))) (aa rfl) (aL (x:=(.loc,.tup [.int (s.2 r.1),.int (pl r.1)])) (aL (aP rfl) (aL (aa rfl) ah trivial i0) (by(first|exact trivial|exact⟨⟨_,rfl,rfl⟩,trivial⟩|exact⟨⟨_,rfl,rfl⟩,⟨_,rfl,rfl⟩,trivial⟩)) (by show(gf s.1 (s.1.map λk=>U.tup [.int (s.2 k),.int (pl k)]) r.1).map _=_;rw[dX (by simpa using hp)];rfl)) ah trivial rfl) trivial (tV rfl)))
  cases hb:DW s r with
  |false =>
   rw[hb]at t2;rw[Xu (by simp),R4,Rf];exact⟨pl,_,cj t1 (ax q2 aD (aK t2 au au)) au,hI⟩
  |true =>
   rw[hb]at t2;rw[Xs (by simp),Ta,WL];have e:dJ (.str r.1) (.tup [.int (Cs s r),.int p]) (pD s pl)=Od (pD (cG s.1 r.1,upd s.2 r.1 (Cs s r)) (upd pl r.1 p)):=by
    unfold pD;rw[k9 ⋯];congr 3
    funext k
    show _=U.tup [.int (upd s.2 r.1 (Cs s r) k),.int (upd pl r.1 p k)];unfold upd;split<;>rfl
   exact⟨upd pl r.1 p,Od (.loc,.int (Cs s r)),cj t1 (ax q2 aD (cj t2 (iY (k:=.own) (k':=.own) (fP (ae (aa rfl) (ae (aa rfl) ak)) trivial (az aH (az aH a_)) (by show 2<=OG;omega)) rfl (aL (aa rfl) ah trivial i0) (az aH (az aH a_)) rfl rfl e (ax ah aD au)) au)) au,NY▸hI.step hn hm hb⟩
theorem xf{rs:List Row}:DB .G4 [(.loc,.tup (rs.map BX))]=Od (rs.zipIdx.map λp:Row×Nat=>(Kd.loc,U.tup [.int (p.2:Nat),BX p.1])):=by
 show Od ((rs.map BX).zipIdx.map λp=>(kE .loc,U.tup [.int p.2,p.1]))=_;rw[List.zipIdx_map,Pp];rfl
theorem qd(hP:gu Γ)(hw:ws.length<=24):∀(ys:List Row) (n:Nat) (s:C4) (pl:Str->Int) (b:Bool) (o3 o4 o5:Option (Kd×U)),(∀r∈ys,aW ws r)->(∀(i:Nat) (r:Row),ys[i]?=Od r->rs[n+i]?=Od r)->fV ws s->Ea rs s pl ->
  ∃FV GJ DV DX,Run (forM OA [3,4] (execs Γ uO) [(.loc,.tup (rs.map BX))] ((ys.zipIdx n).map λp:Row×Nat=>(Kd.loc,U.tup [.int (p.2:Nat),BX p.1]))) (fW rs s pl b o3 o4 o5) .nx (fW rs (Di ys (s,b)).1 FV (Di ys (s,b)).2 GJ DV DX)/\Ea rs (Di ys (s,b)).1 FV
 |[],n,s,pl,b,o3,o4,o5,_,_,_,hI=>⟨pl,o3,o4,o5,pV trivial,hI⟩
 |r::ys,n,s,pl,b,o3,o4,o5,hr,hn,hs,hI=>by
  obtain⟨Io,DX,q,Jr⟩:=xc hP (rs:=rs) (pl:=pl) (b:=b) (n:=n) (o5:=o5) hw hs (hr r (by simp)) (by simpa using hn 0 r rfl) hI;obtain⟨HS,a,c,d,q2,KO⟩:=qd hP hw ys (n+1) (Ej s r) Io (b||(may s r&&DW s r)) (Od (.loc,.int (n:Int))) (Od (.loc,BX r)) DX (λy hy=>hr y (by simp[hy])) (λi y hy=>by rw[Nat.add_assoc,Nat.add_comm 1 i];exact hn (i+1) y (by simpa using hy)) (lj hw hs (hr r (by simp))).1 Jr;exact⟨HS,a,c,d,wL trivial (pZ (.inl rfl)) q q2,KO⟩
theorem qe(hP:gu Γ)(hw:ws.length<=24)(hr:∀r∈rs,aW ws r):∀(f:Nat) (s:C4) (pl:Str->Int) (o3 o4 o5:Option (Kd×U)),fV ws s->Ea rs s pl->mu s+1<f ->
  ∃FV GJ DV DX,Run (eD (Cc Γ (.var 2)) (execs Γ uP) f) (fW rs s pl OA o3 o4 o5) .nx (fW rs (lim rs f s) FV OE GJ DV DX)/\Ea rs (lim rs f s) FV
 |0,s,_,_,_,_,hs,_,hf=>by have:=p_ hw hs;omega
 |f+1,s,pl,o3,o4,o5,hs,hI,hf=>by
  obtain⟨Io,a,c,d,q,Jr⟩:=qd hP (rs:=rs) hw rs 0 s pl OE o3 o4 o5 hr (λi r h=>by rw[TC];exact h) hs hI;obtain⟨i1,i2,i3⟩:=gV hw rs s OE hr hs;have qb:Run (execs Γ uP) (fW rs s pl OA o3 o4 o5) .nx (fW rs (Di rs (s,OE)).1 Io (Di rs (s,OE)).2 a c d):=ax ah aD (eO (rs:=[(.loc,.tup (rs.map BX))]) (ae (aa rfl) ak) trivial xf rfl q au);unfold lim;have m0:=p_ hw hs;cases hb:(Di rs (s,OE)).2 with
  |true =>
   rw[hb]at qb;rw[Xs rfl];have Ce:=(i3 hb).resolve_left (by simp);obtain⟨HS,a',c',d',q2,KO⟩:=qe hP hw hr f (Di rs (s,OE)).1 Io a c d i1 Jr ⋯;exact⟨HS,a',c',d',t7 (de rfl) qb q2,KO⟩
  |false =>
   rw[hb]at qb;rw[Xu (by simp)];obtain⟨f,rfl⟩:∃g,f=g+1:=⟨f - 1,⋯⟩
   exact⟨Io,a,c,d,t7 (de rfl) qb (pY (de rfl)),Jr⟩
def uS(Γ:Tab):Prop:=∀(ws:List Str) (rs:List Row),ws.length<=24->(∀r∈rs,aW ws r)->∃pl,Γ "prices_and_places" [.tup (rs.map BX)]=Od (.ok (.own,pD (lim rs fuel s0) pl))/\Ea rs (lim rs fuel s0) pl
theorem xg(hP:gu Γ)(hw:ws.length<=24)(hr:∀r∈rs,aW ws r):∃pl,c8 Γ Bc [.tup (rs.map BX)]=Od (.ok (.own,pD (lim rs fuel s0) pl))/\Ea rs (lim rs fuel s0) pl:=by
 obtain⟨pl,a,c,d,q,hI⟩:=qe hP hw hr fuel s0 (λ_=>0) OB OB OB (lp ws) (Ea.start rs _) (by unfold fuel;decide);refine⟨pl,cp (st0:=[Od (.loc,.tup (rs.map BX)),OB,OB,OB,OB,OB]) rfl (.inl rfl) ?_ (ax (oh) cv (ax (st2:=fW rs s0 (λ_=>0) OA OB OB OB) ah aD (t8 q (cw (aP rfl) (mE rfl))))),hI⟩;show [Od (if Co (.tup (rs.map BX))=OA then Kd.loc else Kd.any,U.tup (rs.map BX)),OB,OB,OB,OB,OB]=_;rw[Xs (by show bD (rs.map BX)=OA;exact cm rs)]
theorem Bd(hP:gu (Cg Pg d))(h:C9 Pg "prices_and_places" Bc):uS (Cg Pg (d+1)):=λws rs hw hr=>by
 obtain⟨pl,e,hI⟩:=xg hP hw hr;exact⟨pl,by rw[bI h];exact e,hI⟩
def lq:Fn:=⟨"prices",1,1,[.ret (.bi .sorted [.comp 2 OA .HP [.call "prices_and_places" [.var 0]] [] (.tup [.var 0,.idx (.var 1) (.cst (.int 0))])])]⟩
def DY(c:Str->Int)(x:Str):U:=.tup [.str x,.int (c x)]
theorem qf(c:Str->Int):∀ks:List Str,jE (ks.map (DY c))=Od ks
 |[]=>rfl
 |k::ks=>by
  show(jE (ks.map (DY c))).map _=_;rw[qf c ks];rfl
theorem xh(c:Str->Int)(hl:ks.length<64)(hn:ks.Nodup):Ds .sorted [(.own,.lst (ks.map (DY c)))]=Od (.own,.lst ((aF ks).map (DY c))):=by
 show vP .own (ks.map (DY c))=_;cases ks with
 |nil =>
  have e:aF []=[]:=Wn.mp (bj []);show(if ([]:List Str).length<64 then Od (Kd.own,U.lst ((aF []).map U.str)) else OB)=_;rw[e];rfl
 |cons k0 NZ =>
  generalize F':k0::NZ=ks at hl hn;have e1:strsOf (ks.map (DY c))=OB:=by subst F';rfl
  unfold vP;rw[e1];show vO .own (ks.map (DY c))=_;unfold vO;rw[qf];show(if _ then _ else _)=_;rw[Xs ⟨hl,hn,rfl⟩,<-qG hn,Pp];congr 3
  apply QE;intro i hi;have C3:i<ks.length:=Qs.mp ((cS _).mem_iff.mp hi);simp[Rn,C3]
theorem xi:DB .HP [(.own,pD s pl)]=Od (s.1.map λk=>(Kd.loc,U.tup [.str k,.tup [.int (s.2 k),.int (pl k)]])):=by
 show Od (nL (s.1,s.1.map λk=>U.tup [.int (s.2 k),.int (pl k)]))=_;unfold nL;congr 1
 dsimp only
 generalize s.1=l;induction l with
 |nil=>rfl
 |cons k l ih=>rw[OQ,Rk,OQ,ih,OQ]
def mS(Γ:Tab):Prop:=∀(ws:List Str) (rs:List Row),ws.length<=24->(∀r∈rs,aW ws r)->Γ "prices" [.tup (rs.map BX)]=Od (.ok (.own,.lst ((aF (lim rs fuel s0).1).map (DY (lim rs fuel s0).2))))
theorem oE(hP:uS Γ)(hw:ws.length<=24)(hr:∀r∈rs,aW ws r):c8 Γ lq [.tup (rs.map BX)]=Od (.ok (.own,.lst ((aF (lim rs fuel s0).1).map (DY (lim rs fuel s0).2)))):=by
 have big:(1000:Nat)<=OG:=by decide
 obtain⟨pl,e,_⟩:=hP ws rs hw hr;have hI:=ll hw hr fuel s0 (lp ws);generalize lim rs fuel s0=s at e hI;have hl:=hI.1.len;have hx:=oq (st:=[Od (.loc,.tup (rs.map BX))]) (cond:=aS Γ []) (elt:=ev Γ (.tup [.var 0,.idx (.var 1) (.cst (.int 0))])) (src:=[(.own,pD s pl)]) trivial (λk:Str=>U.str k) (λk=>.tup [.int (s.2 k),.int (pl k)]) (DY s.2) (λ_=>OA) s.1 [] (by simp;omega)
  (λy _=>⟨iR,fP (ae (aa rfl) (ae (aL (aa rfl) ah trivial rfl) ak)) trivial (az aH (az aH a_)) (by show 2<=OG;omega)⟩)
 rw[Pu,show s.1.filter (λ_=>OA)=s.1 from List.filter_eq_self.mpr λ_ _=>rfl]at hx;refine cp (st0:=[Od (.loc,.tup (rs.map BX))]) rfl (.inl rfl) ?_ (cw (bX (ae (dR (rs:=[(.own,pD s pl)]) (ae (dc (ae (aa rfl) ak) trivial e) ak) trivial xi hx) ak) trivial (xh s.2 ⋯ hI.1.1)) pU);show [Od (if Co (.tup (rs.map BX))=OA then Kd.loc else Kd.any,U.tup (rs.map BX))]=_;rw[Xs (by show bD (rs.map BX)=OA;exact cm rs)]
theorem uT(hP:uS (Cg Pg d))(h:C9 Pg "prices" lq):mS (Cg Pg (d+1)):=λws rs hw hr=>by
 rw[bI h];exact oE hP hw hr
def dY:Fn:=⟨"_law_same",2,2,[.ite (.DQ (.var 1) .tuple) [.ite (.or [.not (.DQ (.var 0) .tuple),.cmp .ne (.bi .len [.var 0]) (.bi .len [.var 1])]) [.ret (.cst (.bl OE))] [],.ret (.bi .all [.comp 1 OE .Cq [.bi .len [.var 1]] [] (.call "_law_same" [.idx (.var 1) (.var 0),.idx (.var 2) (.var 0)])])] [],.ite (.DQ (.var 1) .list) [.ite (.or [.not (.DQ (.var 0) .list),.cmp .ne (.bi .len [.var 0]) (.bi .len [.var 1])]) [.ret (.cst (.bl OE))] [],.ret (.bi .all [.comp 1 OE .Cq [.bi .len [.var 1]] [] (.call "_law_same" [.idx (.var 1) (.var 0),.idx (.var 2) (.var 0)])])] [],.ite (.cmp .is (.var 1) (.cst .BZ)) [.ret (.cmp .is (.var 0) (.cst .BZ))] [],.ite (.DQ (.var 1) .str) [.ret (.and [.DQ (.var 0) .str,.cmp .eq (.var 0) (.var 1)])] [],.ret (.and [.DQ (.var 0) .int,.not (.DQ (.var 0) .bool),.cmp .eq (.var 0) (.var 1)])]⟩
def cX(Γ:Tab)(u:U):Prop:=Γ "_law_same" [u,u]=Od (.ok (.loc,.bl OA))
theorem Be(h:Run (ev Γ a) st (k,.bl c) st1):Run (ev Γ (.not a)) st (.loc,.bl !c) st1:=ab h rfl
theorem rf:c8 Γ dY [.str x,.str x]=Od (.ok (.loc,.bl OA)):=by
 exact cp (st0:=[Od (.loc,.str x),Od (.loc,.str x)]) rfl (.inr rfl) rfl (aK (dU (aa rfl) rfl) au (aK (dU (aa rfl) rfl) au (aK (aQ (aa rfl) ah trivial rfl) au (ff (dU (aa rfl) rfl) (cw (xF (om (p:=OA) (q:=OA) (t6 (aa rfl) rfl) λ_=>tQ (fO (aa rfl) (aa rfl) trivial (by rw[pX];simp)))) dk)))))
theorem rg:c8 Γ dY [.int n,.int n]=Od (.ok (.loc,.bl OA)):=by
 exact cp (st0:=[Od (.loc,.int n),Od (.loc,.int n)]) rfl (.inr rfl) rfl (aK (dU (aa rfl) rfl) au (aK (dU (aa rfl) rfl) au (aK (aQ (aa rfl) ah trivial rfl) au (aK (dU (aa rfl) rfl) au (cw (xF (om (p:=OA) (q:=OA) (t6 (aa rfl) rfl) λ_=>om (p:=OA) (q:=OA) (Be (c:=OE) (t6 (aa rfl) rfl)) λ_=>tQ (fO (aa rfl) (aa rfl) trivial (bH (by simp))))) dk)))))
theorem jW{xs:List U}(hk:k=.loc\/k=.any)(hw:∀i u,xs[i]?=Od u->dG (k,w) (.int (i:Nat))=Od (k,u))(N0:Ds .len [(k,w)]=Od (.loc,.int (xs.length:Nat)))(hl:xs.length<=1000)(hx:∀u∈xs,cX Γ u):
  Run (ev Γ (.bi .all [.comp 1 OE .Cq [.bi .len [.var 1]] [] (.call "_law_same" [.idx (.var 1) (.var 0),.idx (.var 2) (.var 0)])])) [Od (k,w),Od (k,w)] (.loc,.bl OA) [Od (k,w),Od (k,w)]:=by
 have big:(1000:Nat)<=OG:=by decide
 have hv:∀(i:Nat) (st:ay),st[i]?=Od (Od (k,w))->Run (ev Γ (.var i)) st (k,w) st:=λi st h=>by
  rcases hk with rfl|rfl
  ·exact aa h
  ·exact aU h
 have hc:=gs (cond:=aS Γ []) (elt:=ev Γ (.call "_law_same" [.idx (.var 1) (.var 0),.idx (.var 2) (.var 0)])) (src:=[(.loc,.int (xs.length:Nat))]) (st:=[Od (k,w),Od (k,w)]) trivial .loc (.inl rfl) (λi:Nat=>U.int (0+(i:Int))) (λ_=>.bl OA) .loc (λ_=>iR) (O2 xs.length) [] (by simp;omega)
  (λi hi=>by
   have C3:=Qs.mp hi;have e:=hw i xs[i] (by simp[C3]);have Ip:=hx xs[i] (Qp C3);rw[show(0:Int)+(i:Int)=(i:Nat) by omega];refine⟨?_,aH⟩;rcases hk with rfl|rfl
   ·exact dc (ae (aL (aa rfl) (aa rfl) trivial e) (ae (aL (aa rfl) (aa rfl) trivial e) ak)) trivial Ip
   ·exact dc (ae (aL (aU rfl) (aa rfl) trivial e) (ae (aL (aU rfl) (aa rfl) trivial e) ak)) trivial Ip)
 rw[Pu]at hc;have hb:Ds .all [(.own,.lst ((O2 xs.length).map λ_=>U.bl OA))]=Od (.loc,.bl OA):=by
  have:=p5 (k:=.own) ((O2 xs.length).map λ_=>OA);rw[Pp]at this;refine Eq.trans this ?_;congr 3
  rw[UT];exact O6.mpr λ_ _=>rfl
 refine bX (ae (dR (rs:=[(.loc,.int (xs.length:Nat))]) (ae (bX (ae (hv 1 _ rfl) ak) ?_ N0) ak) trivial (fg ⋯) hc) ak) trivial hb;rcases hk with rfl|rfl<;>exact trivial
theorem rh(hl:xs.length<=1000)(hi:bD xs=OA)(hx:∀u∈xs,cX Γ u):c8 Γ dY [.tup xs,.tup xs]=Od (.ok (.loc,.bl OA)):=by
 have q:=jW (Γ:=Γ) (k:=.loc) (w:=.tup xs) (xs:=xs) (.inl rfl) (λi u h=>m8 (gP h)) kZ hl hx;refine cp (st0:=[Od (.loc,.tup xs),Od (.loc,.tup xs)]) rfl (.inr rfl) ?_ (ff (dU (aa rfl) rfl) (aK (wJ (tS (tR (dU (b:=OA) (aa rfl) rfl)) (pT (aQ (bX (ae (aa rfl) ak) trivial kZ) (bX (ae (aa rfl) ak) trivial kZ) trivial (lb (c:=OE) (by simp)))))) au (cw q dk)));show [Od (if Co (.tup xs)=OA then Kd.loc else Kd.any,U.tup xs),Od (if Co (.tup xs)=OA then Kd.loc else Kd.any,U.tup xs)]=_;rw[Xs (show Co (.tup xs)=OA from hi)]
theorem rj(hl:xs.length<=1000)(hx:∀u∈xs,cX Γ u):c8 Γ dY [.lst xs,.lst xs]=Od (.ok (.loc,.bl OA)):=by
 have q:=jW (Γ:=Γ) (k:=.any) (w:=.lst xs) (xs:=xs) (.inr rfl) (λi u h=>bU (gP h)) bF hl hx;refine cp (st0:=[Od (.any,.lst xs),Od (.any,.lst xs)]) rfl (.inr rfl) rfl (aK (dU (aU rfl) rfl) au (ff (dU (aU rfl) rfl) (aK (wJ (tS (tR (dU (b:=OA) (aU rfl) rfl)) (pT (aQ (bX (ae (aU rfl) ak) trivial bF) (bX (ae (aU rfl) ak) trivial bF) trivial (lb (c:=OE) (by simp)))))) au (cw q dk))))
theorem Bg(h:C9 Pg "_law_same" dY)(x:Str):cX (Cg Pg (d+1)) (.str x):=by unfold cX;rw[bI h];exact rf
theorem Bh(h:C9 Pg "_law_same" dY)(n:Int):cX (Cg Pg (d+1)) (.int n):=by unfold cX;rw[bI h];exact rg
theorem Bi(h:C9 Pg "_law_same" dY)(hl:xs.length<=1000)(hi:bD xs=OA)(hx:∀u∈xs,cX (Cg Pg d) u):cX (Cg Pg (d+1)) (.tup xs):=by unfold cX;rw[bI h];exact rh hl hi hx
theorem Bj(h:C9 Pg "_law_same" dY)(hl:xs.length<=1000)(hx:∀u∈xs,cX (Cg Pg d) u):cX (Cg Pg (d+1)) (.lst xs):=by unfold cX;rw[bI h];exact rj hl hx
theorem zH(h:C9 Pg "_law_same" dY)(c:Str->Int){ks:List Str}(hl:ks.length<=1000):cX (Cg Pg (d+3)) (.lst (ks.map (DY c))):=by
 refine Bj h (by simpa using hl) λu hu=>?_;obtain⟨k,_,rfl⟩:=PY.mp hu;refine Bi h (by simp) rfl λv hv=>?_;rcases OV.mp hv with rfl|hv
 ·exact Bg h _
 ·rw[O1]at hv;subst hv;exact Bh h _
section
theorem xj(CC:i≠j)(h0:st[i]?=Od (Od (k0,u0)))(Dh:k0.root=OA)(N1:st[j]?=Od (Od (k0',v0)))(KP:k0'.root=OA)(he:Run (ba Γ es) st rs st1)
  (h1:st1[i]?=Od (Od (k,.lst us))) (hk:k.root=OA) (GF:bD us=OA) (DC:st1[j]?=Od (Od (k',.lst vs))) (Cv:k'.root=OA) (Iq:bD vs=OA) (GG:rs.all Ig=OA)
  (h3:Γ f (.lst us::.lst vs::rs.map (·.2))=Od (.ok (kr,.tup [v,.lst D_,.lst CV]))) (KI:kr=.own\/kr=.loc):Run (ev Γ (.BV f (.var i::.var j::es) [0,1])) st (kr,v) ((st1.set i (Od (k,.lst D_))).set j (Od (k',.lst CV))):=by
 have hg:∀(i:Nat) (k0:Kd) (u0:U),st[i]?=Od (Od (k0,u0))->k0.root=OA->Run (ev Γ (.var i)) st (.bor i,u0) st:=λi k0 u0 h0 Dh=>by
  have:=dQ h0 (by rintro rfl;cases Dh);unfold kv at this;rw[Xs Dh]at this;exact this
 have hb:∀(i:Nat) (k:Kd) (u0 u:U),st1[i]?=Od (Od (k,u))->k.root=OA->cH st1 (.bor i,u0)=(.bor i,u):=λi k u0 u h1 hk=>by
  unfold cH
  dsimp only
  rw[h1];simp[hk]
 have hm:rs.map (cH st1)=rs:=by
  conv=>rhs;rw[<-TU rs]
  exact QE λr hr=>mL (O6.mp GG r hr)
 have hf:((Kd.bor i,u0)::(Kd.bor j,v0)::rs).map (cH st1)=(.bor i,.lst us)::(.bor j,.lst vs)::rs:=by rw[OQ,OQ,hb i k u0 _ h1 hk,hb j k' v0 _ DC Cv,hm]
 have hj:eZ ((Kd.bor i,U.lst us)::(Kd.bor j,U.lst vs)::rs) 0=Od i:=by
  show(if bD us=OA then Od i else OB)=_;rw[Xs GF]
 have FE:eZ ((Kd.bor i,U.lst us)::(Kd.bor j,U.lst vs)::rs) 1=Od j:=by
  show(if bD vs=OA then Od j else OB)=_;rw[Xs Iq]
 refine oj (rs:=(.bor i,u0)::(.bor j,v0)::rs) (ws:=[.lst D_,.lst CV]) (st1:=st1) (ae (hg i k0 u0 h0 Dh) (ae (hg j k0' v0 N1 KP) he)) ?_ ?_ KI ?_ ?_
 ·rw[hf];exact⟨⟨k,hk,h1⟩,⟨k',Cv,DC⟩,mM GG⟩
 ·rw[hf];exact h3
 ·rw[hf];unfold l9;rw[OD,OD];refine⟨⟨by simp[hj,FE],by simp[hj,FE,CC]⟩,O6.mpr λq hq=>?_⟩
  match q with
  |0=>simp
  |1=>simp
  |q+2 =>
   have hl:q<rs.length:=by have:=Qs.mp hq;simpa using this
   rw[Qj];refine .inr (jR ?_);rw[show((Kd.bor i,U.lst us)::(Kd.bor j,U.lst vs)::rs).getD (q+2) (.loc,.BZ)=rs[q] by simp[Rn,hl]];exact O6.mp GG _ (Qp hl)
 ·rw[hf];unfold eM;rw[hj]
  dsimp only
  rw[h1]
  dsimp only
  unfold eM;rw[FE]
  dsimp only
  rw[O5 CC,DC];rfl
theorem Bk(h:st[i]?=Od (Od (k,.lst us)))(hk:k.root=OA)(h2:Run (execs Γ ss) (st.set i (Od (k,.lst []))) f st2):Run (execs Γ (.Gp i::ss)) st f st2:=by
 refine kX (ab (a:=()) (st1:=st.set i (Od (k,.lst []))) ?_ a9) h2;show modS i yM st=_;unfold modS;rw[h];simp only[hk,if_true];rfl
end
def i8(Γ:Tab):Prop:=∀(ns:List Int) (u:U) (ws:List Str) (T:Int),Src T u->T+500<2 ^ 62->ns.length<1000->0<ws.length->ws.length<1000000 ->
  ∃(rs:List Row) (CT:List Int) (u':U),Γ "_law_book" [.lst (ns.map .int),u,.lst (ws.map .str)]=Od (.ok (.loc,.tup [.tup (rs.map BX),.lst (CT.map .int),u']))/\cn ws rs/\rs.length<=60/\CT.length<=ns.length/\Src (T+500) u'
theorem uU(hS:fQ (Cg Pg d))(hD:bf (Cg Pg d))(hR:i6 (Cg Pg d))(hL:i7 (Cg Pg d))(h:C9 Pg "_law_book" p6):i8 (Cg Pg (d+1)):=by
 intro ns u ws T hu hT hn w0 hw;obtain⟨rs,CT,u',e,r⟩:=oz hS hD hR hL hu hT hn w0 hw;exact⟨rs,CT,u',by rw[bN h _ rfl];exact e,r⟩
theorem uV(hS:fQ Γ){ns:List Int}:∃(CT:List Int) (u:U),Run (ev Γ (.BV "_law_source" [.var 1,.cst (.int k)] [0])) (o0::Od (.own,.lst (ns.map .int))::rest) (.own,u) (o0::Od (.own,.lst (CT.map .int))::rest)/\CT.length<=ns.length/\Src 0 u:=by
 by_cases h:ns=[]
 ·subst h;exact⟨[],du k 0 1,zD (k0:=.own) (k:=.own) hS rfl rfl ah rfl rfl,ON _,⟨_,_,_,rfl,⋯,⋯⟩⟩
 ·have e:=T1 h;generalize ns.dropLast=l at e;generalize ns.getLast h=c at e;subst e;exact⟨l,du (c / 2) 0 (c % 2),uo (k0:=.own) (k:=.own) hS rfl rfl ah rfl rfl,by simp,⟨_,_,_,rfl,⋯,⋯⟩⟩
theorem Src.lst(h:Src T u):∃us,u=.lst us/\bD us=OA:=by
 obtain⟨a,t,w,rfl,_,_⟩:=h;exact⟨_,rfl,rfl⟩
theorem mT(hW:k8 Γ)(hB:i8 Γ)(hV:uI Γ){ns:List Int}(hn:ns.length<1000)(hu:Src 0 u):
  ∃(ws:List Str) (rs:List Row) (CT:List Int) (u':U),Run (ev Γ (.BV "_law_widened" [.var 2,.BV "_law_book" [.var 1,.var 2,.BV "_law_words" [.var 2] [0]] [0,1]] [0])) (o0::Od (.own,.lst (ns.map .int))::Od (.own,u)::rest) (.loc,.tup (rs.map BX)) (o0::Od (.own,.lst (CT.map .int))::Od (.own,u')::rest)/\ws.length<=24/\(∀r∈rs,aW ws r)/\rs.length<=84:=by
 obtain⟨ws,u1,e1,w0,w1,s1⟩:=hW 0 u hu ⋯;obtain⟨us,rfl,im⟩:=hu.lst;obtain⟨LQ,rfl,N2⟩:=s1.lst;have q1:=fh (Γ:=Γ) (st:=o0::Od (.own,.lst (ns.map .int))::Od (.own,.lst us)::rest) (i:=2) (es:=[]) (k0:=.own) (k:=.own) rfl rfl ak rfl rfl im rfl e1 (.inl rfl);obtain⟨rs,CT,u2,e2,b2,l2,n2,s2⟩:=hB ns (.lst LQ) ws _ s1 ⋯ hn ⋯ ⋯;obtain⟨LR,rfl,N3⟩:=s2.lst;have q2:=xj (Γ:=Γ) (st:=o0::Od (.own,.lst (ns.map .int))::Od (.own,.lst us)::rest) (st1:=o0::Od (.own,.lst (ns.map .int))::Od (.own,.lst LQ)::rest) (i:=1) (j:=2) (k0:=.own) (k:=.own) (k0':=.own) (k':=.own) (rs:=[(.own,.lst (ws.map .str))]) ⋯ rfl rfl rfl rfl (ae q1 ak) rfl rfl (ei ns) rfl rfl N2 rfl e2 (.inr rfl);obtain⟨CA,u3,e3,b3,l3,s3⟩:=hV _ (.lst LR) ws rs s2 ⋯ w1 b2.1 l2;obtain⟨N4,rfl,Oy⟩:=s3.lst;exact⟨ws,CA,CT,.lst N4,fh (Γ:=Γ) (st:=o0::Od (.own,.lst (ns.map .int))::Od (.own,.lst us)::rest) (st1:=o0::Od (.own,.lst (CT.map .int))::Od (.own,.lst LR)::rest) (i:=2) (k0:=.own) (k:=.own) (rs:=[(.loc,.tup (rs.map BX))]) rfl rfl (ae q2 ak) rfl rfl N3 rfl e3 (.inr rfl),w1,b3,l3⟩
def qg:List S :=
   [.set 7 (.call "prices" [.var 3]),
   .ite (.not (.call "_law_same" [.var 7,.var 5]))
    [.ret (.cst (.bl OE))]
    [],
   .Gp 7]
def uW:Fn:=⟨"law",1,8,[.set 1 (.Fi .Dq [.Eh (.var 0) [] [.cst (.int 200)]]),.set 2 (.BV "_law_source" [.var 1,.cst (.int 1)] [0]),.set 3 (.BV "_law_widened" [.var 2,.BV "_law_book" [.var 1,.var 2,.BV "_law_words" [.var 2] [0]] [0,1]] [0]),.set 4 (.call "_law_costs" [.var 3]),.set 5 (.comp 1 OE .seq [.bi .sorted [.var 4]] [] (.tup [.var 0,.idx (.var 5) (.var 0)])),.B' OE [6] .Cq [.cst (.int 2)] qg,.ret (.cst (.bl OA))]⟩
theorem xk(hl:s.1.length<64)(h4:st[4]?=Od (Od (.own,cD s))):Run (ev Γ (.comp 1 OE .seq [.bi .sorted [.var 4]] [] (.tup [.var 0,.idx (.var 5) (.var 0)]))) st (.own,.lst ((aF s.1).map (DY s.2))) st:=by
 have big:(1000:Nat)<=OG:=by decide
 have hx:=gs (cond:=aS Γ []) (elt:=ev Γ (.tup [.var 0,.idx (.var 5) (.var 0)])) (src:=[(.own,.lst ((aF s.1).map .str))]) (st:=st) trivial .loc (.inl rfl) U.str (DY s.2) .loc (λ_=>iR) (aF s.1) [] (by rw[bP];simp;omega)
  (λy hy=>⟨fP (rs:=[(.loc,.str y),(.loc,.int (s.2 y))]) (ae (aa rfl) (ae (aL (aP (u:=cD s) (by simpa using h4)) (aa rfl) ⟨⟨.own,rfl,by simpa using h4⟩,trivial⟩ (by show(gf s.1 (s.1.map λk=>U.int (s.2 k)) y).map _=_;rw[dX ((bj _).mem_iff.mp hy)];rfl)) ak)) trivial (az aH (az aH a_)) (by show 2<=OG;omega),aH⟩)
 rw[Pu]at hx;refine dR (rs:=[(.own,.lst ((aF s.1).map .str))]) (ae (bX (ae (aP h4) ak) ⟨⟨.own,rfl,h4⟩,trivial⟩ ?_) ak) trivial (by show Od (((aF s.1).map U.str).map λu=>(kE .own,u))=_;rw[Pp];rfl) hx;show(if s.1.length<64 then Od (Kd.own,U.lst ((aF s.1).map .str)) else OB)=_;rw[Xs hl]
theorem rl(hS:fQ Γ)(hW:k8 Γ)(hB:i8 Γ)(hV:uI Γ)(hC:uM Γ)(hP:mS Γ)(hM:∀(c:Str->Int) (ks:List Str),ks.length<=1000->cX Γ (.lst (ks.map (DY c)))){ns:List Int}(hn:ns.length<=63):c8 Γ uW [.lst (ns.map .int)]=Od (.ok (.loc,.bl OA)):=by
 have Ir:nK .Dq [(.own,.lst ((cut ns OB (Od 200)).map .int))]=Od (.own,.lst ((cut ns OB (Od 200)).reverse.map .int)):=by
  show(if fG .own ((cut ns OB (Od 200)).map U.int)=OA then Od (Kd.own,U.lst ((cut ns OB (Od 200)).map U.int).reverse) else OB)=_;rw[Xs (show fG .own ((cut ns OB (Od 200)).map U.int)=OA from rfl),List.map_reverse]
 have hlen:(cut ns OB (Od 200)).reverse.length<=63:=by rw[RQ];have:=wO ns OB (Od 200);omega
 generalize (cut ns OB (Od 200)).reverse=N5 at Ir hlen;obtain⟨N6,u2,q2,l2,s2⟩:=uV (Γ:=Γ) hS (ns:=N5) (rest:=[OB,OB,OB,OB,OB,OB]) (o0:=Od (.any,.lst (ns.map .int))) (k:=1);obtain⟨ws,rs,Js,u3,q3,w3,r3,_⟩:=mT (Γ:=Γ) hW hB hV (ns:=N6) (rest:=[OB,OB,OB,OB,OB]) (o0:=Od (.any,.lst (ns.map .int))) ⋯ s2;have e4:=hC ws rs w3 r3;have e7:=hP ws rs w3 r3;have hI:=ll w3 r3 fuel s0 (lp ws);generalize lim rs fuel s0=s at e4 e7 hI;have hl:=hI.1.len;have Ip:=hM s.2 (aF s.1) (by rw[bP];omega);have q5:=xk (Γ:=Γ) (st:=[Od (.any,.lst (ns.map .int)),Od (.own,.lst (Js.map .int)),Od (.own,u3),Od (.loc,.tup (rs.map BX)),Od (.own,cD s),OB,OB,OB]) (s:=s) ⋯ rfl;generalize (aF s.1).map (DY s.2)=KQ at e7 Ip q5;obtain⟨st',hf,o6,o7,rfl⟩:=dS (rs:=[(.loc,.int (2:Nat))]) (t:=OE) (is:=[6]) (body:=execs Γ qg) (λi:Nat=>(Kd.loc,U.int (0+(i:Int)))) (λd r st=>∃o6 o7,st=[Od (.any,.lst (ns.map .int)),Od (.own,.lst (Js.map .int)),Od (.own,u3),Od (.loc,.tup (rs.map BX)),Od (.own,cD s),Od (.own,.lst KQ),o6,o7])
  (λd r st _=>trivial) (λd y r st h=>by
   obtain⟨o6,o7,rfl⟩:=h;refine⟨[Od (.any,.lst (ns.map .int)),Od (.own,.lst (Js.map .int)),Od (.own,u3),Od (.loc,.tup (rs.map BX)),Od (.own,cD s),Od (.own,.lst KQ),Od (.loc,.int (0+(y:Int))),o7],_,aD,ax (dc (ae (aa rfl) ak) trivial e7) cv (aK (tR (c:=OA) (zy (ae (aP rfl) (ae (aP rfl) ak)) (by(first|exact trivial|exact⟨⟨_,rfl,rfl⟩,trivial⟩|exact⟨⟨_,rfl,rfl⟩,⟨_,rfl,rfl⟩,trivial⟩)) Ip rfl)) au (Bk (k:=.own) rfl rfl au)),_,_,rfl⟩) (O2 2) [] [Od (.any,.lst (ns.map .int)),Od (.own,.lst (Js.map .int)),Od (.own,u3),Od (.loc,.tup (rs.map BX)),Od (.own,cD s),Od (.own,.lst KQ),OB,OB] ⟨OB,OB,rfl⟩
 refine cp (st0:=[Od (.any,.lst (ns.map .int)),OB,OB,OB,OB,OB,OB,OB]) rfl (.inr rfl) rfl (ax (AU (ae (mD (aU rfl) pR (jL ah) trivial (t5 (by show bD _=OA;exact ei ns))) ak) trivial Ir) cv (ax q2 cv (ax q3 aD (ax (dc (ae (aa rfl) ak) trivial e4) cv (ax q5 cv (eO (rs:=[(.loc,.int (2:Nat))]) (ae ah ak) trivial (fg ⋯) rfl hf (cw ah dk)))))))
end TM
namespace K
open PySem L2 TM
def top(i:Nat):RI:=PySem.Challenge.pw_primer_k21_prices.main.body.getD i (.Pass ⟨0,0,0,0⟩)
def gF:Fn:=TM.uN
def cz:Fn:=⟨"prices_and_places",1,6,[.set 1 (.C8 OE),.set 2 (.cst (.bl OA)),.EG (.var 2) [.set 2 (.cst (.bl OE)),.B' OA [3,4] .G4 [.var 0] [.ite (.bi .all [.comp 1 OE .seq [.idx (.var 4) (.cst (.int 1))] [] (.cmp .isin (.var 0) (.var 2))]) [.set 5 (.call "row_price" [.var 4,.var 1]),.ite (.or [.cmp .Cd (.idx (.var 4) (.cst (.int 0))) (.var 1),.cmp .lt (.var 5) (.idx (.idx (.var 1) (.idx (.var 4) (.cst (.int 0)))) (.cst (.int 0)))]) [.put 1 (.idx (.var 4) (.cst (.int 0))) (.tup [.var 5,.var 3]),.set 2 (.cst (.bl OA))] []] []]],.ret (.var 1)]⟩
def mU:Fn:=TM.lq
def fX:Fn:=⟨"_law_source",2,3,[.Dr [0],.ite (.cmp .eq (.bi .len [.var 0]) (.cst (.int 0))) [.ret (.lst [.var 1,.cst (.int 0),.cst (.int 1)])] [],.set 2 (.pop 0),.ret (.lst [.bin .EZ (.var 2) (.cst (.int 2)),.cst (.int 0),.bin .mod (.var 2) (.cst (.int 2))])]⟩
def i9:Fn:=⟨"_law_draw",2,5,[.Dr [0],.put 0 (.cst (.int 1)) (.bin .add (.idx (.var 0) (.cst (.int 1))) (.cst (.int 1))),.ite (.cmp .eq (.idx (.var 0) (.cst (.int 2))) (.cst (.int 0))) [.set 2 (.bin .mod (.idx (.var 0) (.cst (.int 0))) (.var 1)),.put 0 (.cst (.int 0)) (.bin .EZ (.idx (.var 0) (.cst (.int 0))) (.var 1)),.ret (.var 2)] [],.set 3 (.idx (.var 0) (.cst (.int 1))),.set 4 (.bin .add (.bin .add (.bin .mul (.bin .add (.bin .mod (.idx (.var 0) (.cst (.int 0))) (.bin .pow (.cst (.int 10)) (.cst (.int 15)))) (.cst (.int 1))) (.cst (.int 48271))) (.bin .mul (.bin .mul (.var 3) (.var 3)) (.cst (.int 16807)))) (.bin .mul (.var 3) (.cst (.int 7919)))),.ret (.bin .mod (.bin .mod (.bin .mul (.bin .mod (.var 4) (.cst (.int 2147483647))) (.cst (.int 69621))) (.cst (.int 2147483629))) (.var 1))]⟩
def gG:Fn:=⟨"_law_words",1,11,[.Dr [0],.set 1 (.cst (.str "abcdefghijklmnopqrstuvwxyz")),.set 2 (.bin .add (.cst (.int 1)) (.BV "_law_draw" [.var 0,.idx (.lst [.cst (.int 8),.cst (.int 16),.cst (.int 24)]) (.BV "_law_draw" [.var 0,.cst (.int 3)] [0])] [0])),.set 3 (.E1 .join (.cst (.str "")) [.comp 1 OE .Cq [.cst (.int 8)] [] (.idx (.var 2) (.BV "_law_draw" [.var 1,.cst (.int 26)] [0]))]),.set 4 (.BV "_law_draw" [.var 0,.cst (.int 4)] [0]),.set 5 (.bin .add (.cst (.int 1)) (.BV "_law_draw" [.var 0,.cst (.int 8)] [0])),.set 6 (.BV "_law_draw" [.var 0,.cst (.int 26)] [0]),.set 7 (.lst []),.B' OE [8] .Cq [.var 2] [.set 9 (.Eh (.var 3) [] [.bin .add (.cst (.int 1)) (.bin .mod (.var 8) (.cst (.int 8)))]),.set 10 (.bin .add (.cst (.int 1)) (.bin .EZ (.var 8) (.cst (.int 8)))),.ite (.cmp .eq (.var 4) (.cst (.int 1))) [.set 9 (.Eh (.var 3) [] [.var 5]),.set 10 (.bin .add (.cst (.int 1)) (.var 8))] [],.ite (.cmp .gt (.var 4) (.cst (.int 1))) [.set 9 (.bin .add (.idx (.var 1) (.bin .mod (.bin .add (.var 6) (.bin .mul (.cst (.int 7)) (.var 8))) (.cst (.int 26)))) (.Eh (.var 3) [.cst (.int 1)] [.var 5])),.set 10 (.cst (.int 1))] [],.ite (.cmp .eq (.var 4) (.cst (.int 3))) [.set 10 (.bin .add (.cst (.int 1)) (.BV "_law_draw" [.var 0,.cst (.int 99)] [0]))] [],.app 7 (.ite (.cmp .eq (.var 10) (.cst (.int 1))) (.var 9) (.bin .add (.bin .add (.var 9) (.cst (.str "/"))) (.bi .str [.var 10])))],.ret (.var 7)]⟩
def jX:Fn:=⟨"_law_row",4,7,[.Dr [0],.set 4 (.lst []),.B' OE [5] .Cq [.idx (.lst [.cst (.int 0),.cst (.int 1),.cst (.int 1),.cst (.int 2),.cst (.int 2),.cst (.int 3),.cst (.int 8),.cst (.int 2)]) (.BV "_law_draw" [.var 0,.cst (.int 8)] [0])] [.set 6 (.idx (.var 1) (.BV "_law_draw" [.var 0,.bi .len [.var 1]] [0])),.ite (.and [.var 3,.cmp .gt (.var 2) (.cst (.int 0))]) [.set 6 (.idx (.var 1) (.BV "_law_draw" [.var 0,.var 2] [0]))] [],.ite (.cmp .Cd (.var 6) (.var 4)) [.app 4 (.var 6)] []],.ret (.tup [.idx (.var 1) (.var 2),.bi .tuple [.var 4]])]⟩
def jY:Fn:=⟨"_law_lay",2,3,[.Dr [0],.B' OE [2] .seq [.var 0] [.ite (.and [.cmp .eq (.idx (.var 2) (.cst (.int 0))) (.idx (.var 1) (.cst (.int 0))),.cmp .eq (.bi .sorted [.idx (.var 2) (.cst (.int 1))]) (.bi .sorted [.idx (.var 1) (.cst (.int 1))])]) [.DR] []],.app 0 (.var 1)]⟩
def i_:Fn:=⟨"_law_book",3,8,[.Dr [0,1],.set 3 (.lst []),.set 4 (.BV "_law_draw" [.var 1,.cst (.int 4)] [0]),.B' OE [5] .Cq [.BV "_law_draw" [.var 1,.cst (.int 25)] [0]] [.set 6 (.BV "_law_draw" [.var 1,.bi .len [.var 2]] [0]),.ite (.cmp .eq (.var 4) (.cst (.int 3))) [.set 6 (.bin .mod (.var 5) (.bi .len [.var 2]))] [],.exp (.BV "_law_lay" [.var 3,.BV "_law_row" [.var 1,.var 2,.var 6,.cmp .gt (.var 4) (.cst (.int 1))] [0]] [0])],.EG (.and [.cmp .gt (.bi .len [.var 0]) (.cst (.int 0)),.cmp .lt (.bi .len [.var 3]) (.cst (.int 60))]) [.set 7 (.BV "_law_source" [.var 0,.cst (.int 0)] [0]),.exp (.BV "_law_lay" [.var 3,.BV "_law_row" [.var 7,.var 2,.BV "_law_draw" [.var 7,.bi .len [.var 2]] [0],.cmp .eq (.var 4) (.cst (.int 2))] [0]] [0])],.ret (.bi .tuple [.var 3])]⟩
def gH:Fn:=⟨"_law_costs",1,6,[.set 1 (.C8 OE),.set 2 (.cst (.bl OA)),.EG (.var 2) [.set 2 (.cst (.bl OE)),.B' OA [3,4] .seq [.var 0] [.ite (.bi .all [.comp 1 OE .seq [.var 4] [] (.cmp .isin (.var 0) (.var 2))]) [.set 5 (.bin .add (.cst (.int 1)) (.bi .sum [.comp 1 OE .seq [.var 4] [] (.idx (.var 2) (.var 0))])),.ite (.or [.cmp .Cd (.var 3) (.var 1),.cmp .lt (.var 5) (.idx (.var 1) (.var 3))]) [.put 1 (.var 3) (.var 5),.set 2 (.cst (.bl OA))] []] []]],.ret (.var 1)]⟩
def ja:Fn:=TM.dY
def jZ:Fn:=⟨"_law_all",1,5,[.set 1 (.C8 OE),.B' OA [2,3] .seq [.var 0] [.put 1 (.var 2) (.cst (.bl OA)),.B' OE [4] .seq [.var 3] [.put 1 (.var 4) (.cst (.bl OA))]],.ret (.bi .sorted [.var 1])]⟩
def eR:Fn:=⟨"_law_widened",2,8,[.Dr [0],.ite (.cmp .ne (.BV "_law_draw" [.var 0,.cst (.int 8)] [0]) (.cst (.int 1))) [.ret (.var 1)] [],.set 2 (.bin .add (.cst (.int 1)) (.BV "_law_draw" [.var 0,.cst (.int 2)] [0])),.set 3 (.comp 1 OE .seq [.var 1] [.cmp .eq (.idx (.var 0) (.cst (.int 1))) (.tup [])] (.idx (.var 0) (.cst (.int 0)))),.set 4 (.call "_law_all" [.var 1]),.set 5 (.lst []),.B' OE [6] .Cq [.bi .len [.var 4]] [.set 7 (.Dz 4 (.BV "_law_draw" [.var 0,.bi .len [.var 4]] [0])),.ite (.and [.cmp .Cd (.var 7) (.var 3),.cmp .eq (.BV "_law_draw" [.var 0,.var 2] [0]) (.cst (.int 0))]) [.app 5 (.tup [.var 7,.tup []])] []],.ret (.bin .add (.var 1) (.bi .tuple [.var 5]))]⟩
def xO:Fn:=⟨"law",1,8,[.set 1 (.Fi .Dq [.Eh (.var 0) [] [.cst (.int 200)]]),.set 2 (.BV "_law_source" [.var 1,.cst (.int 1)] [0]),.set 3 (.BV "_law_widened" [.var 2,.BV "_law_book" [.var 1,.var 2,.BV "_law_words" [.var 2] [0]] [0,1]] [0]),.set 4 (.call "_law_costs" [.var 3]),.set 5 (.comp 1 OE .seq [.bi .sorted [.var 4]] [] (.tup [.var 0,.idx (.var 5) (.var 0)])),.B' OE [6] .Cq [.cst (.int 2)] [.set 7 (.call "prices" [.var 3]),.ite (.not (.call "_law_same" [.var 7,.var 5])) [.ret (.cst (.bl OE))] [],.Gp 7],.ret (.cst (.bl OA))]⟩
def prog:List Fn:=[gF,cz,mU,fX,i9,gG,jX,jY,i_,gH,ja,jZ,eR,xO]
def ck:Ck:=⟨(prog.filter λf=>f.io.isNone).map (·.name),[],prog.filterMap λf=>f.io.map λp=>(f.name,p.1)⟩
theorem pure(ns:List Int)(Dc:ns.length<=63):Cg prog 4 "law" [oe ns]=Od (.ok (.loc,.bl OA)):=by
 have hd:C9 prog "_law_draw" uc:=rfl;have hs:C9 prog "_law_source" wU:=rfl;have hm:C9 prog "_law_same" dY:=rfl;have D1:bf (Cg prog 1):=ue hd;have D2:bf (Cg prog 2):=ue hd;have hl:C9 prog "law" uW:=rfl;rw[show Cg prog 4 "law" [oe ns]=_ from bI hl [oe ns]];exact rl (um hs) (wY D2 rfl) (uU (um hs) D2 (A6 D1 rfl) (A8 rfl) rfl) (Bb D2 (A_ rfl) rfl) (zF rfl) (uT (Bd (zG rfl) rfl) rfl) (λc ks hl=>zH hm c hl) Dc
end K
namespace K
open PySem L2 TM PySem.W PyProof.Rows
def m0:OH:=.str "primer.prices" 187
def m1:OH:=.str "law_primer_k21_prices" 207
def ml:Me:=⟨xO,15,["_law_script","_law_left","_law_source_here","_law_book_here","_law_costs_here","_law_due","_law_turn","_law_found"],96,95,m1,co "law" 300 125 1 92 93 .none .none (.ref 94) 303 304 181⟩
def ms:List Me:=[⟨gF,1,["row","found"],19,18,m0,co "row_price" 189 2 2 15 16 .none .none (.ref 17) 192 193 181⟩,
 ⟨cz,2,["book","found","fallen","place","row","price"],24,23,m0,co "prices_and_places" 195 4 1 20 21 .none .none (.ref 22) 198 199 181⟩,
 ⟨mU,3,["book"],29,28,m0,co "prices" 201 16 1 25 26 .none .none (.ref 27) 204 205 181⟩,
 ⟨fX,5,["_law_left","_law_k","_law_cell"],36,35,m1,co "_law_source" 209 19 2 30 31 (.ref 32) (.ref 33) (.ref 34) 215 216 181⟩,
 ⟨i9,6,["_law_source_here","_law_many","_law_number","_law_turn","_law_mixed"],43,42,m1,co "_law_draw" 218 24 2 37 38 (.ref 39) (.ref 40) (.ref 41) 226 227 181⟩,
 ⟨gG,7,["_law_source_here","_law_letters","_law_many","_law_base","_law_way","_law_size","_law_first","_law_words_here","_law_k","_law_word","_law_sense"],48,47,m1,co "_law_words" 229 33 1 44 45 .none .none (.ref 46) 232 233 181⟩,
 ⟨jX,8,["_law_source_here","_law_words_here","_law_at","_law_below","_law_told","_law_k","_law_one"],55,54,m1,co "_law_row" 235 54 4 49 50 (.ref 51) (.ref 52) (.ref 53) 245 246 181⟩,
 ⟨jY,9,["_law_rows","_law_row_here","_law_other"],62,61,m1,co "_law_lay" 248 63 2 56 57 (.ref 58) (.ref 59) (.ref 60) 254 255 181⟩,
 ⟨i_,10,["_law_left","_law_source_here","_law_words_here","_law_rows","_law_way","_law_k","_law_at","_law_more"],69,68,m1,co "_law_book" 257 68 3 63 64 (.ref 65) (.ref 66) (.ref 67) 268 269 181⟩,
 ⟨gH,11,["_law_book_here","_law_costs_here","_law_fell","_law_word","_law_told","_law_length"],74,73,m1,co "_law_costs" 271 80 1 70 71 .none .none (.ref 72) 274 275 181⟩,
 ⟨ja,12,["_law_found","_law_due"],79,78,m1,co "_law_same" 277 92 2 75 76 .none .none (.ref 77) 280 281 181⟩,
 ⟨jZ,13,["_law_book_here","_law_met","_law_word","_law_told","_law_one"],86,85,m1,co "_law_all" 283 106 1 80 81 (.ref 82) (.ref 83) (.ref 84) 291 292 181⟩,
 ⟨eR,14,["_law_source_here","_law_book_here","_law_share","_law_heads","_law_pool","_law_more","_law_k","_law_word"],91,90,m1,co "_law_widened" 294 113 2 87 88 .none .none (.ref 89) 297 298 181⟩,
 ml]
def gg(P:Vz):Obj:=⟨.type "dict",OB,.dict #[ge P "__name__" 165 (.str "law_primer_k21_prices" 207),ge P "__doc__" 166 .none,ge P "__package__" 167 .none,ge P "__loader__" 168 (.builtin "__main__.__loader__#opaque"),ge P "__spec__" 169 .none,ge P "__annotations__" 170 (.ref 6),ge P "__builtins__" 171 (.ref 4),ge P "__file__" 173 (.str "/claim/cut.py" 172),ge P "__cached__" 174 .none,ge P "row_price" 194 (.ref 19),ge P "prices_and_places" 200 (.ref 24),ge P "prices" 206 (.ref 29),ge P "_law_source" 217 (.ref 36),ge P "_law_draw" 228 (.ref 43),ge P "_law_words" 234 (.ref 48),ge P "_law_row" 247 (.ref 55),ge P "_law_lay" 256 (.ref 62),ge P "_law_book" 270 (.ref 69),ge P "_law_costs" 276 (.ref 74),ge P "_law_same" 282 (.ref 79),ge P "_law_all" 293 (.ref 86),ge P "_law_widened" 299 (.ref 91),ge P "law" 305 (.ref 96)] 23,#[]⟩
def vw:PC:=view PySem.Challenge.pw_primer_k21_prices [1,2,3,5,6,7,8,9,10,11,12,13,14,15]
def hk:Hook:=kHook (λP=>DU top (gg P) ms) (adr ms) λP=>pQ top (gg P) ms
theorem hl:LeftO PySem.Challenge.rw_primer_k21_prices.row.prog vw [] (λs=>xlAt vw [] s&&recOk (RowW.records PySem.Challenge.rw_primer_k21_prices.row.toRowW) s) hk.obs hk.val 4000:=λw=>by kernel_rfl
theorem hs:PySem.Challenge.rw_primer_k21_prices.wellSaid=OA:=by kernel_rfl
theorem ho(P:Vz):FR ck top (DU top (gg P) ms) ms=OA:=by kernel_rfl
end K
open PySem PySem.W PyProof.Rows K
theorem PySem.Challenge.cw_primer_k21_prices_holds : PySem.Challenge.rw_primer_k21_prices.Holds := by
 w_on
 refine holds_law hs λz => ?_;refine holds_open hl hk.of hk.keeps (λs e => xl_of s (Qz.mp e).1) XL.keeps rfl rfl rfl (λs e => recFacts_of (Qz.mp e).2) rfl z (by kernel_rfl) ⟨rfl, rfl, rfl, rfl, rfl, by decide +kernel⟩ ?hw ?hc
 (case hw => w_witness2)
 exact TM.walk2 (l := PySem.Challenge.rw_primer_k21_prices) (Pg := prog) (ck := ck) (dp := 3) (x := "_law_script") (m := ml) rfl rfl ⟨rfl, by decide, by decide, rfl⟩ rfl (by decide +kernel) (by decide +kernel) rfl (by simp [ms]) rfl rfl ho K.pure
