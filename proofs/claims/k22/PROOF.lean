import PyProof.Rows.All
import Wide.All
import OpenK.AllK
import Wide.FinOn
import Lean
import PyProof.EqAt
import PyProof.EqKinds
import PyProof.TupleCall
import PyProof.StrLawsChain
import PyProof.StrLawsFirst
import PyProof.Rows.StrNews2
import OpenK.AllK
import PyProof.DictItems
import OpenK.AllK
import PySem.Challenge.RW_primer_k22_best_rows
set_option Elab.async false
set_option linter.all false
set_option maxRecDepth 100000
set_option maxHeartbeats 4000000
set_option genInjectivity false
set_option genSizeOf false
set_option autoImplicit true
set_option relaxedAutoImplicit true
open Option renaming some->Od,none->OQ,map_eq_some_iff->O1,bind_eq_some_iff->PF,isSome_map->Sm,map_eq_none_iff->SH,map_some->SQ,getD_none->TU,isNone_iff_eq_none->Uz,isSome_iff_exists->UE
open PySem renaming wpAny_bind->OO,wpAny_pure->OU,sizeLine->OV,Value->OW,wpAny->OZ,Shared->O7,Addr->O8,model->O9,starEach->Pj,wpAny_newObj_type->Pz,Expr->PR,Program->PZ,wpAny_holding->P5,wpAny_call_entry->P6,rawInt->P8,wpAny_truthy_bool->P_,wpAny_mono->Qb,mainGlobals->Qc,codeAny_builtin->Qh,World->Qj,wpAny_setState_of->Qo,sysModules->Qp,isSubtype_type->Qq,cLine->Qr,bootBuiltins->Qx,Heap->QA,wpAny_callSpecial?_slot->QB,compareOp->QC,wpAny_Call_Name_kw->QJ,eval->QK,backTo->QP,foldedSetIterable->QQ,wpAny_setField->Q2,wpAny_isInstance->Q3,scanBound->Q4,Around->Ra,wpAny_specialOf->Rc,wpAny_passesOwn->Rf,Scope->Rg,builtinLookup_eq_fast->Rj,wpAny_rule->Rt,NameKind->Ru,wpAny_typeOf->Rx,Builtin->Rz,call->RC,plainId_quiet->RF,binaryOp->RG,wpAny_pyIter_tuple->RI,call_meets->RJ,assignEach->RK,wpAny_getItem_str_slice->RN,wpAny_field->RO,isSubtype->RP,wpAny_seqItems->RV,tupleKeyHash->RW,holding->RX,Stmt->RY,codeAny->Sa,attributeBase->Sb,Keyword->Se,sliceBounds->Sf,wpAny_updateSeq->Sk,typeLookup_type->Sl,swapsWith->Sw,typeIs_str->SD,tupleKind_room_in1->SE,SetTable->SF,FuncData->SG,keywordEach->SR,swapsWithSole->SS,assign->SU,wpAny_forIn_list->SY,relabel->S8,pyNext->S9,codeAny_mono->S_,callerA->Ta,builtinsNs->Tb,wpAny_loadPart'->Tg,post_val_or_str->Th,letOwnedTupleGo->Ti,call_isinstance->Tj,isSubtype_tuple_tuple->Tn,wpAny_runValue->TB,wpAny_of_eq->TC,firstArgMember->TF,atKey->TH,IsPart->TK,notedBy->TQ,getItem->TR,wpAny_tupleItemsOf->T9,wpAny_pyIter_list->Ui,wpAny_pyIter_enum->Uj,valueAt->Uk,setNext->Ul,setField->Um,concat_meets->Up,compEnvC->Uq,collect->Ur,backToKw->Us,wpAny_askSetting->UH,tupleKind->UI,seqItems?->UJ,seqIndex?->UK,pickOrder->UL,noFill_tuple_add->UM,PassesOwn->UN,unsupported->UQ,wpAny_execs_nil->UT,codeAny_of_tree->UU,standAt->U1,ItemsOf->U5,wpAny_load->U_,typeLookup->U',relayAll->Va,raiseNew->Vb,pyIter->Vc,WalksS->Vd,IsTupleKey->Vf,wpAny_standAt->Vp,wpAny_newList->Vq,wpAny_comprehension_free->Vr,swappedStores->Vs,seq_tuple_add->Vt,behindInMarks->Vu,wpAny_Call_method0_late->Vy,strValues->Vz,eqIsQuiet->VA,bindL->VB,bindC->VC,wpAny_Call_method_late->VH,typeOf->VI,setNextDrawn->VJ,setItem->VL,newList->VM,newExc->VN,Params->VP,IsEnum->VQ,BindsTo->VS,step->V4,seqIndex_of->V5,codeAny_extend_loopS->V6,bindArgs->V7,again->V8,GenState->V9,wpAny_setEntries_of->Wl,wpAny_setItem_heap->Wu,wpAny_Name->Wv,truthy->Ww,isInstance->Wx,JoinOk->Wz,wpAny_storeSet_of->WJ,wpAny_sequenceKey->WK,wpAny_pyIter_slot->WL,wpAny_assign_Name->WM,spliced->WN,slot_list_getitem->WO,fits_of_scanBound->WQ,eqIsQuiet_byValue->WR,Moved->WX,wpAny_eqBool_str->W3,wpAny_eqBool_int->W4,wpAny_Dict_empty->W5,updateSeq->W6,lastMarks->W7,checkBuiltinCall->W8,cellsFrom->W9,rule->Xo,recursionLimit->Xp,numbered_texts->Xq,newTuple->Xr,isSubtype_stop->Xs,field->Xt,entryFor_alias->Xu,entryFor->Xv,callType_codes->Xw,argsOk->Xx
open Bool renaming true->OP,false->OR,and_eq_true->OS,false_ne_true->Po,false_eq_true->Px,not_eq_true'->P4,or_eq_true->Qz,not_true->QD,and_eq_true_iff->QM,or_false->Rw,eq_iff_iff->RA,and_false->Sj,eq_false_iff->Sv,false_and->S7,and_true->Tt,not_false->Wt,or_true->W2
open PySem.Heap renaming get?_push_of_some->OT,get?_push_size->O3,lt_size->O4,get?_update_self->P2,SameBut->Qu,get?_update_other->QZ,get?_update_ne->Rr,size_push->UA,size_update->VY,ExtBut->W'
open Decidable renaming decide->OX
open List renaming length_map->OY,size_toArray->O0,map_cons->O5,getElem?_eq_some_iff->O6,mem_cons->O_,getElem?_map->Pa,replicate->Pc,all_eq_true->Pe,mem_singleton->Pf,getElem?_set_self->Ph,getElem?_set_ne->Pk,range->Pl,getElem?_eq_getElem->Pn,length_append->Pp,length_cons->Pw,getElem?_append_right->PB,nil_append->PH,lookup_cons->PJ,map_map->PK,mem_append_right->PM,mem_cons_of_mem->PV,getElem?_append_left->PX,mem_cons_self->PY,mem_of_getElem?->P',length_take->Qa,nodup_cons->Qe,map_append->Qf,mem_map->Qk,length_range->Ql,append_nil->Qn,getElem?_replicate->Qy,getElem?_drop->QH,length_singleton->QI,map_congr_left->QR,filterMap_cons->QS,mem_range->QT,getElem_mem->QU,take_of_length_le->Q0,map_nil->Q1,mem_append->Q9,find?_cons->Q_,isEmpty_iff->Rn,sum_cons->Rv,zip_cons_cons->RB,getD->RE,nodup_append->RH,length_replicate->RT,getElem?_eq_none->RU,length_reverse->R8,getElem_of_mem->R9,pairwise_cons->Sh,getD_eq_getElem?_getD->Si,pairwise_iff_getElem->Sr,reverse_cons->Su,not_mem_nil->SJ,getElem?_cons_succ->SM,filter_cons->SN,length_nil->SW,length->S6,any_cons->Ts,map_singleton->Tz,eraseIdx_eq_take_drop_succ->T3,eraseIdxIfInBounds_toArray->T4,length_drop->T7,ext_getElem->T8,map_id->Ua,of_mem_zip->Uc,foldl_cons->Ud,drop_left'->Ue,dropLast_concat_getLast->Ug,nodup_nil->UG,drop_eq_getElem_cons->UP,getElem?_take_of_lt->UR,length_eq_zero_iff->UY,eraseIdx_cons_succ->UZ,toArray->U7,length_eq_one_iff->U8,all_map->U9,dropLast_eq_take->Vi,not_lt->Vl,mem_erase_of_ne->Vm,mem_append_left->Vn,getElem?_zipIdx->Vo,mem_filterMap->VE,take_sublist->VW,ext_getElem?->VX,le_antisymm->V0,getElem_inj->V1,drop_length->V2,any_eq_true->V3,mem_filter->Wh,length_zip->Wi,length_set->Wj,filter_nil->Wk,perm_nil->WD,map_take->WE,map_drop->WG,findIdx?->WH,all_cons->WI,range'->Xf
open Nat renaming le_refl->O2,ne_of_lt->O',lt_of_lt_of_le->Pb,zero_le->Pt,lt_irrefl->P0,le_trans->Qv,le_succ->QE,ne_of_gt->QN,lt_succ_self->QW,lt_succ_of_lt->RL,le_of_lt->RM,zero_add->T2,add_sub_cancel_left->U6,lt_trans->Vg,le_of_eq->Vh,not_lt_of_lt->Wg,mod_lt->XH
open PySem.Value renaming ref->Pd,none->Pu,type->PD,str->P7,isStrOf->Q6,bool->Sg,int->TX,isInt->WU
open Array renaming length_toList->Pq,getElem?_toList->P1,toArray_toList->R4,getD->Tu,forIn_toList->Tv,size_append->TN,getD_eq_getD_getElem?->Uh,toList->U0,toList_push->VG
open PySem.Obj renaming mapSeq->Py,data_mapFields->Q5,putSet->SV,isFreed_of_fields->S3,cls_mapFields->TY,mapFields->WV
open PySem.Builtin.List renaming listExtendWith->PC,listTooLong->QG,listSameRef->Rb,listLengthHint->Tr,listItems->T5,listUpdate->Xj
open PySem.Str renaming empty->PL,ofString->Rq,length->Xz
open Sum renaming inr->PN,inl->TV
open PyProof.Rows renaming slot_tuple_getitem->PQ,seqObj->Qd,size_push'->QL,callWith_type1->QV,StrsAre->R3,callWith_builtin1->S5,envOfC->Td,AllBare->Te,listUpdate_at->T6,subscriptTail->Vx,subscriptTail_builtinR->VT,listItems_at->VU,IntsAre->VV,seqEpoch_at->We,IsTup->Wf,entry_tuple_getitem->Wn,sortedHeap->WB,args_tuple_getitem->WC,wpAny_notIn_heap->Xd,slot_str_getitem->Xe,get?_update_seq->Xk,entry_list_sort->Xl,call_isinstance_yes->Xm,tail_any->XB,sortedHeap_old->XC,slot_list_sort->XD,slicePart_none->XE,isTrue_and_nil->XF,args_list_sort->XG
open Option.some renaming inj->PU,injEq->R6
open Int renaming eq_ofNat_of_zero_le->P9,emod_nonneg->R_,emod_lt_of_pos->Sn,toNat_natCast->SA,le_trans->SX,le_refl->Tf,natCast_pow->Ws
open PySem.Around renaming under_plainId->Qg
open PySem.Builtin.Tuple renaming tupleHashOf->Qi,tupleExact->Qm,tupleItemsOf->RS
open Ne renaming symm->Qs
open PySem.Heap.SameBut renaming update->Qt,refl->UO
open PySem.Builtin.SmallTypes renaming nextOf->Qw
open PySem.W renaming kas_sort->QF,kas_descPart->Ry,kas_place->RQ,kas_count->R7,kas_asc->Sd,kas_rev->Ss,kas_tail3->Sx,kas_desc->TJ,kas_ask->WS,KasT->Xy
open PySem.SetTable renaming below->QO,grown->R5,sizeAbove->U3,orStandIn->U4,layClean->Ve,relaid->Vv,laid->VO
open PySem.NameKind renaming free->QX
open PySem.Calls renaming callWith_builtin->QY,evalArgs_plain->RZ,spliced_cons->To,spliced_nil->TL,Name_function_global->Uv,call_function_entry->UB
open PySem.Builtin.Slice renaming slicePlaces->Q7,sliceAdjust->R0,sliceApplied->Tq,slicePartIndex->Xa,sliceFields->Xb
open PyProof.Rows.F renaming plain_set_update_loop->Q8,entry_set_update_loop->Sy
open PySem.Builtin.Str renaming partsBetween->Rh,occurrences->Rk,strKind->UC
open False renaming elim->Ri
open PySem.AutoSeq1 renaming wpAny_loadPart'->Rm,sub_tuple_tuple->Ub,sub_tuple_list->Uw,sub_list_tuple->Ux,sub_list_list->UD,idx_int->Vk
open LT renaming lt->Ro
open ForInStep renaming yield->Rp
open PySem.Shared renaming TypeIs->So
open List.cons renaming injEq->Sz
open PySem.SeqAt renaming EqAt->SO,ne_of_list_tuple->UW,RcAt->Vw,RcNeAt->Wy
open PySem.Data renaming fields->S4,cell->UX
open PySem.Txt renaming join->Tc,split->U2
open True renaming intro->Tw
open PySem.F renaming args_str_split_2->TZ,entry_str_split->T_,slot_str_split->Uu,args_list_extend_2->VR,entry_list_extend->VZ,slot_list_extend->V_,entry_list_pop->WA,slot_list_pop->WZ
open PyProof.Rows.IsTup renaming new->T1
open PySem.pickOrder renaming go->Uo
open PySem.SetTable.below renaming go->Ut
open Prod.mk renaming injEq->Uy
open Sum.inr renaming inj->US
open PySem.PassesOwn renaming never->Vj
open PySem.Code renaming quiet_builtin->VD
open LawfulBEq renaming eq_of_beq->VF
open PySem.Builtin.Frozenset renaming updateFrom->V',slot0->Wa,sizeOf->Wb,newClass->Wc,addrOf->Wd
open PySem.ItemsOf renaming nil->Wm
open PyProof.Rows.LSm renaming range_all->Wo,kept_iter->Wq
open Prod renaming ext->Wr
open PySem.W.WShape renaming has->WT
open PySem.Moved renaming trans->WW
open PySem.Heap.IsSliceOf renaming new->WY
open LE renaming le->W0
open PySem.Walks renaming list->W_
open PySem.Builtin.Range renaming rangeSize->Xc
open List.Pairwise renaming nil->Xg
open PySem.W.WData renaming int->Xh
open PySem.Heap.DictOfH renaming new->Xi
open ToString renaming toString->Xn
open PySem.Heap.DictOf renaming new->XA
abbrev XI:=@if_pos
abbrev XJ:=@decide_eq_true_eq
abbrev XM:=@if_neg
abbrev XN:=@decide_eq_false
abbrev XO:=@decide_eq_true
abbrev XQ:=@if_false
local macro_rules|`(⋯)=>`(by omega)
namespace L2
open PySem PySem.Spec PyProof.Rows
abbrev Key:=Sum Int Str
def gy:Key->OW->Bool
 |.inl k,v=>WU k v
 |.inr x,v=>Q6 x v
def BB(w:Qj):Key->Int
 |.inl k=>hashInt k
 |.inr x=>hashStr w x
theorem aN:∀{k:Key}{v:OW},gy k v=OP->(∃i t,k=TV i/\v=TX i t)\/(∃x t,k=PN x/\v=P7 x t)
 |.inl i,v,h=>by
  obtain⟨t,e⟩:=Value.isInt_shape (k:=i) (v:=v) h;exact .inl ⟨i,t,rfl,e⟩
 |.inr x,v,h=>by
  obtain⟨t,e⟩:=Value.isStrOf_shape (x:=x) (v:=v) h;exact .inr ⟨x,t,rfl,e⟩
theorem qv(i:Int)(t:Tok):gy (.inl i) (.int i t)=OP:=by simp[gy,WU]
theorem qw(x:Str)(t:Tok):gy (.inr x) (.str x t)=OP:=by simp[gy,Q6]
theorem x8(a b:Int):OX ((TV a:Key)=TV b)=(a==b):=by
 by_cases e:a=b
 ·subst e;simp
 ·have h:¬(TV a:Key)=TV b:=λq=>e (Sum.inl.inj q);rw[XN h];exact(beq_eq_false_iff_ne.mpr e).symm
theorem x9(a b:Str):OX ((PN a:Key)=PN b)=OX (a=b):=by
 by_cases e:a=b
 ·subst e;simp
 ·have h:¬(PN a:Key)=PN b:=λq=>e (US q);rw[XN h,XN e]
theorem x_(a:Int)(b:Str):OX ((TV a:Key)=PN b)=OR:=XN (λq=>nomatch q)
theorem ya(a:Str)(b:Int):OX ((PN a:Key)=TV b)=OR:=XN (λq=>nomatch q)
def aL(prog:PZ)(w:Qj):PySem.KeyKind prog w Key where
 is:=gy
 hash:=BB w
 inj:=λv a b ha hb=>by
  rcases aN ha with⟨i,t,rfl,rfl⟩|⟨x,t,rfl,rfl⟩
  ·rcases aN hb with⟨j,u,rfl,e⟩|⟨y,u,rfl,e⟩
   ·injection e with e1 _;rw[e1]
   ·exact nomatch e
  ·rcases aN hb with⟨j,u,rfl,e⟩|⟨y,u,rfl,e⟩
   ·exact nomatch e
   ·injection e with e1 _;rw[e1]
 byValue:=λk v h=>by
  rcases aN h with⟨i,t,rfl,rfl⟩|⟨x,t,rfl,rfl⟩<;>rfl
 pyHash:=λhv h=>by
  rcases aN hv with⟨i,t,rfl,rfl⟩|⟨x,t,rfl,rfl⟩
  ·exact wpAny_pyHash_int h
  ·exact wpAny_pyHash_str h
 eqBool:=λhu hv h=>by
  rcases aN hu with⟨i,t,rfl,rfl⟩|⟨x,t,rfl,rfl⟩
  ·rcases aN hv with⟨j,u,rfl,rfl⟩|⟨y,u,rfl,rfl⟩
   ·rw[x8]at h;exact W4 h
   ·rw[x_]at h;exact SeqAt.EqAt.int_str i t y u _ _ _ _ h
  ·rcases aN hv with⟨j,u,rfl,rfl⟩|⟨y,u,rfl,rfl⟩
   ·rw[ya]at h;exact SeqAt.EqAt.str_int x t j u _ _ _ _ h
   ·rw[x9]at h;exact W3 h
 «strs»:=λk x t v h=>by
  rcases aN h with⟨i,u,rfl,e⟩|⟨y,u,rfl,e⟩
  ·exact nomatch e
  ·injection e with e1 _
   subst e1;cases v<;>rfl
theorem lx(prog:PZ)(w:Qj)(i:Int)(t:Tok):(aL prog w).is (.inl i) (.int i t)=OP:=qv i t
theorem ly(prog:PZ)(w:Qj)(x:Str)(t:Tok):(aL prog w).is (.inr x) (.str x t)=OP:=qw x t
inductive V where
 |Ce|bl (b:Bool)|int (i:Int)|str (x:Str)|IJ (b:Array UInt8)|IK (b:UInt64)|ref (a:O8)|ty (n:String)
 deriving DecidableEq
def RelV:V->OW->Prop
 |.Ce,u=>u=Pu
 |.bl b,u=>u=Sg b
 |.int i,u=>∃t,u=TX i t
 |.str x,u=>∃t,u=P7 x t
 |.IJ b,u=>∃t,u=Value.bytes b t
 |.IK b,u=>∃t,u=Value.float b t
 |.ref a,u=>u=Pd a
 |.ty n,u=>u=PD n
abbrev Vals:List V->List OW->Prop:=Paired RelV
theorem Vals.length(r:Vals xs us):xs.length=us.length:=Paired.length r
theorem Vals.get:∀{xs:List V}{us:List OW}{i:Nat}{x:V},Vals xs us->xs[i]?=Od x->∃u,us[i]?=Od u/\RelV x u
 |_,_,_,_,.nil,e=>by simp at e
 |_,_,0,_,.cons r _,e=>by simp at e;subst e;exact⟨_,rfl,r⟩
 |_,_,i+1,x,.cons _ t,e=>by
  obtain⟨u,h1,h2⟩:=Vals.get (i:=i) (x:=x) t (by simpa using e);exact⟨u,by simpa using h1,h2⟩
theorem Vals.set(r:RelV x u):∀{xs:List V}{us:List OW} (i:Nat),Vals xs us->Vals (xs.set i x) (us.set i u)
 |_,_,_,.nil=>.nil
 |_,_,0,.cons _ t=>.cons r t
 |_,_,i+1,.cons q t=>.cons q (Vals.set r i t)
theorem Vals.append:∀{xs ys:List V}{us ws:List OW},Vals xs us->Vals ys ws->Vals (xs++ys) (us++ws)
 |_,_,_,_,.nil,s=>s
 |_,_,_,_,.cons r t,s=>.cons r (Vals.append t s)
theorem Vals.take:∀{xs:List V}{us:List OW} (n:Nat),Vals xs us->Vals (xs.take n) (us.take n)
 |_,_,0,_=>.nil
 |_,_,_+1,.nil=>.nil
 |_,_,n+1,.cons r t=>.cons r (Vals.take n t)
theorem Vals.drop:∀{xs:List V}{us:List OW} (n:Nat),Vals xs us->Vals (xs.drop n) (us.drop n)
 |_,_,0,r=>r
 |_,_,_+1,.nil=>.nil
 |_,_,n+1,.cons _ t=>Vals.drop n t
def jd:Option V->Option OW->Prop
 |some v,Od u=>RelV v u
 |none,OQ=>True
 |_,_=>False
def KV{κ:Type}:List (κ×V)->List (κ×OW)->Prop:=Paired λ(p:κ×V) (q:κ×OW)=>p.1=q.1/\RelV p.2 q.2
def kV:Key->V
 |.inl i=>.int i
 |.inr x=>.str x
inductive HO where
 |lst (xs:List V)
 |tup (xs:List V)
 |dK (kvs:List (Key×V))|dT (kvs:List (List Key×V))
 |set (S:Int->Bool) (n:Nat)
 |ins (C dx:O8) (fs:List (Str×V))
 |own (x:O8)
 |xd (fs:List (Str×V))
 |met (f x:O8)
 |JI (lo hi:Int)
 |Di (o:Obj) (u:HO)
 |Gf (ps:Array OW)
 |ext (φ:QA->Prop)
abbrev Hp:=O8->Option HO
def upd(H:Hp)(a:O8)(o:HO):Hp:=λb=>if b=a then Od o else H b
theorem au:upd H a o a=Od o:=by unfold upd;rw[XI rfl]
theorem ao(h:b≠a):upd H a o b=H b:=by unfold upd;rw[XM h]
theorem rH{H:Hp}(h:H a=Od o)(h':H b=Od u)(d:o≠u):a≠b:=by
 intro e;subst e;rw[h]at h';exact d (PU h')
theorem ba{H:Hp}(h:H a=Od o)(h':H b=OQ):a≠b:=by
 intro e;subst e;rw[h]at h';cases h'
section
variable(P:PZ)(w:Qj)
def aW(H:Hp)(h:QA)(a:O8):HO->Prop
 |.lst xs=>xs.length<=OV/\∃(A':List OW) (n:Nat),Vals xs A'/\h.get? a=Od {cls:=.type "list",data:=.seq A'.toArray n}
 |.tup xs=>xs.length<=OV/\∃A':List OW,Vals xs A'/\Wf h a A'.toArray
 |.dK kvs=>kvs.length<=OV/\(a==Qp)=OR/\∃vs,KV kvs vs/\h.DictOf (aL P w) a vs
 |.dT kvs=>kvs.length<=OV/\(a==Qp)=OR/\∃xs:List (List Key×O8×OW),
   Paired (λ(p:List Key×V) (q:List Key×O8×OW)=>p.1=q.1/\H q.2.1=Od (.tup (p.1.map kV))/\RelV p.2 q.2.2) kvs xs /\
   ∃o es ep,h.get? a=Od o/\o.ExactDict/\o.data=.dict es ep/\es.toList=xs.map (entryOfKey (UI (aL P w)))/\(xs.map (·.1)).Nodup
 |.set S n=>h.SetOf (intKind P w) a S n
 |.ins C dx fs=>H dx=Od (.own a)/\fs.length<=1000/\dx≠a/\h.get? a=Od (PySem.W.instObj C dx) /\
   ∃mA,h.Ns1 dx mA/\(∀f,jd (fs.lookup f) (mA f))/\PySem.Within mA (fs.map (·.1))
 |.own _=>∃o,h.get? a=Od o
 |.xd fs=>∃mA,h.Ns1 a mA/\∀f,jd (fs.lookup f) (mA f)
 |.JI lo hi=>∃t u v,h.get? a=Od {cls:=.type "range",data:=.fields #[.int lo t,.int hi u,.int 1 v]}
 |.Di o u=>h.get? a=Od o/\aW H h a u
 |.Gf ps=>h.get? a=Od {cls:=.none,data:=.fields ps}
 |.met f x=>h.get? a=Od (PySem.W.methodObj (.ref f) (.ref x))
 |.ext φ=>φ h/\(∃o,h.get? a=Od o)/\∀h1 h2:QA,φ h1->(∀o,h1.get? a=Od o->h2.get? a=Od o)->φ h2
def C3(H:Hp)(h:QA):Prop:=∀a o,H a=Od o->aW P w H h a o
end
section
theorem aW.lt(x:aW P w H h a o):a<h.objs.size:=by
 cases o with
 |lst xs=>obtain⟨_,_,_,_,e⟩:=x;exact O4 e
 |tup xs=>obtain⟨_,_,_,p⟩:=x;exact p.lt
 |set S n=>obtain⟨o,_,_,_,e,_⟩:=x;exact O4 e
 |ins C dx fs=>obtain⟨_,_,_,e,_⟩:=x;exact O4 e
 |own y=>obtain⟨_,e⟩:=x;exact O4 e
 |xd fs=>obtain⟨_,⟨_,_,_,e,_⟩,_⟩:=x;exact O4 e
 |JI lo hi=>obtain⟨_,_,_,e⟩:=x;exact O4 e
 |Di ob u=>obtain⟨e,_⟩:=x;exact O4 e
 |Gf ps=>exact O4 (show h.get? a=Od _ from x)
 |met f y=>exact O4 (show h.get? a=Od _ from x)
 |ext φ=>obtain⟨_,⟨_,e⟩,_⟩:=x;exact O4 e
 |_=>obtain⟨_,_,_,_,o,_,_,e,_⟩:=x;exact O4 e
theorem Paired.yb:∀{l₁:List α}{l₂:List β},Paired F l₁ l₂->(∀a b,F a b->G a b)->Paired G l₁ l₂
 |_,_,.nil,_=>.nil
 |_,_,.cons r t,f=>.cons (f _ _ r) (Paired.yb t f)
theorem aW.j5(x:aW P w H h a o)(k:∀b u,(b=a\/H b=Od (.own a))->h.get? b=Od u->h'.get? b=Od u)
  (ho:∀b,H b=Od (.own a)->H' b=Od (.own a)) (ht:∀b xs,H b=Od (.tup xs)->H' b=Od (.tup xs)):aW P w H' h' a o:=by
 induction o with
 |lst xs=>obtain⟨z,A',n,r,e⟩:=x;exact⟨z,A',n,r,k _ _ (.inl rfl) e⟩
 |tup xs=>obtain⟨z,A',r,ob,e,c⟩:=x;exact⟨z,A',r,ob,k _ _ (.inl rfl) e,c⟩
 |dK kvs=>obtain⟨z,y,vs,r,ob,es,ep,e,c⟩:=x;exact⟨z,y,vs,r,ob,es,ep,k _ _ (.inl rfl) e,c⟩
 |dT kvs =>
  obtain⟨z,y,xs,r,ob,es,ep,e,c⟩:=x;exact⟨z,y,xs,Paired.yb r λp q z=>⟨z.1,ht _ _ z.2.1,z.2.2⟩,ob,es,ep,k _ _ (.inl rfl) e,c⟩
 |set S n=>obtain⟨ob,es,ep,t,e,c⟩:=x;exact⟨ob,es,ep,t,k _ _ (.inl rfl) e,c⟩
 |ins C dx fs =>
  obtain⟨d,z,ne,e,mA,⟨od,es,ep,e2,c⟩,r⟩:=x;exact⟨ho _ d,z,ne,k _ _ (.inl rfl) e,mA,⟨od,es,ep,k _ _ (.inr d) e2,c⟩,r⟩
 |own y=>obtain⟨ob,e⟩:=x;exact⟨ob,k _ _ (.inl rfl) e⟩
 |xd fs=>obtain⟨mA,⟨od,es,ep,e,c⟩,r⟩:=x;exact⟨mA,⟨od,es,ep,k _ _ (.inl rfl) e,c⟩,r⟩
 |JI lo hi=>obtain⟨t,u,v,e⟩:=x;exact⟨t,u,v,k _ _ (.inl rfl) e⟩
 |Di ob u ih=>obtain⟨e,q⟩:=x;exact⟨k _ _ (.inl rfl) e,ih q⟩
 |Gf ps =>
  have e:h.get? a=Od {cls:=.none,data:=.fields ps}:=x;show h'.get? a=Od {cls:=.none,data:=.fields ps};exact k a _ (.inl rfl) e
 |met f y =>
  have e:h.get? a=Od (PySem.W.methodObj (.ref f) (.ref y)):=x;show h'.get? a=Od (PySem.W.methodObj (.ref f) (.ref y));exact k a _ (.inl rfl) e
 |ext φ=>obtain⟨p,⟨o,e⟩,st⟩:=x;exact⟨st _ _ p λo q=>k _ _ (.inl rfl) q,⟨o,k _ _ (.inl rfl) e⟩,st⟩
theorem C3.lt(x:C3 P w H h)(e:H a=Od o):a<h.objs.size:=(x a o e).lt
theorem C3.fresh(x:C3 P w H h)(e:h.objs.size<=a):H a=OQ:=by
 cases q:H a with
 |none=>rfl
 |some u=>exact absurd (Pb (x.lt q) e) (P0 _)
theorem C3.kept(x:C3 P w H h)(k:∀b u,h.get? b=Od u->h'.get? b=Od u):C3 P w H h':=λa o e =>
 (x a o e).j5 (λb u _ q=>k b u q) (λ_ q=>q) λ_ _ q=>q
theorem C3.laid(x:C3 P w H h)(k:∀b u,h.get? b=Od u->h'.get? b=Od u)(hp:h.objs.size<=a)(new:aW P w (upd H a o) h' a o):C3 P w (upd H a o) h':=λb u e=>by
 have hn:=x.fresh hp;by_cases hb:b=a
 ·subst hb;rw[au]at e;cases e;exact new
 ·rw[ao hb]at e;exact(x b u e).j5 (λc v _ q=>k c v q) (λc q=>by rw[ao (ba q hn)];exact q) λc xs q=>by rw[ao (ba q hn)];exact q
end
def Rd(H:Hp)(a:O8)(u:HO):Prop:=H a=Od u\/∃o,H a=Od (.Di o u)
theorem Rd.ok(r:Rd H a u)(x:C3 P w H h):aW P w H h a u:=by
 rcases r with r|⟨o,r⟩
 ·exact x a u r
 ·obtain⟨_,q⟩:=x a _ r;exact q
def Hn:Option HO->Prop
 |some (.lst _)=>True
 |some (.dK _)=>True
 |some (.dT _)=>True
 |some (.set _ _)=>True
 |some (.ins _ _ _)=>True
 |some (.ext _)=>True
 |_=>False
section
theorem C3.write(ok:C3 P w H h)(mu:Hn (H x))(he:e=x\/H e=Od (.own x))(k:∀b u,b≠e->h.get? b=Od u->h'.get? b=Od u)(G2:∃u,h'.get? e=Od u)
  (new:aW P w (upd H x o') h' x o'):C3 P w (upd H x o') h':=λb u q=>by
 have Ho:∀c y,H c=Od (.own y)->c≠x:=λc y r z=>by subst z;rw[r]at mu;exact mu
 have JJ:∀c xs,H c=Od (.tup xs)->c≠x:=λc xs r z=>by subst z;rw[r]at mu;exact mu
 by_cases hb:b=x
 ·subst hb;rw[au]at q;cases q;exact new
 ·rw[ao hb]at q;by_cases Gg:b=e
  ·have q':H b=Od (.own x):=by
    rcases he with z|z
    ·exact absurd (Gg.trans z) hb
    ·rw[Gg];exact z
   rw[q]at q';cases q';obtain⟨v,hv⟩:=G2;exact⟨v,by rw[Gg];exact hv⟩
  ·refine(ok b u q).j5 (λc v hc r=>k c v ?_ r) (λc r=>by rw[ao (Ho c b r)];exact r) λc xs r=>by rw[ao (JJ c xs r)];exact r
   rcases hc with rfl|hc
   ·exact Gg
   ·rintro rfl;rcases he with z|z
    ·exact Ho c b hc z
    ·rw[hc]at z;cases z;exact hb rfl
end
structure Un(fs ex:List O8)(H H':Hp)(h h':QA):Prop where
 keep:∀b o,h.get? b=Od o->H b=OQ->b∉fs->b∉ex->h'.get? b=Od o
 slot:∀b o,h.get? b=Od o->H b=OQ->b∈fs->b∉ex->∃sl,h'.get? b=Od {o with slots:=sl}
 free:∀b o,h.get? b=Od o->H b=OQ->b∉ex->H' b=OQ
 there:∀b o,h.get? b=Od o->b∉ex->∃o',h'.get? b=Od o'
 gT:∀b xs,H b=Od (.tup xs)->H' b=Od (.tup xs)
 Dy:∀b o u,H b=Od (.Di o u)->H' b=Od (.Di o u)
 DF:∀b ps,H b=Od (.Gf ps)->∃more,H' b=Od (.Gf (ps++more))
section
theorem Un.any(u:Un fs ex H H1 h h1)(q:h.get? b=Od ob)(n:H b=OQ)(hx:b∉ex):∃sl,h1.get? b=Od {ob with slots:=sl}:=by
 by_cases hb:b∈fs
 ·exact u.slot b ob q n hb hx
 ·exact⟨ob.slots,u.keep b ob q n hb hx⟩
theorem Un.kept(k:∀b u,h.get? b=Od u->h'.get? b=Od u):Un fs ex H H h h' :=
 ⟨λb ob q _ _ _=>k b ob q,λb ob q _ _ _=>⟨ob.slots,k b ob q⟩,λ_ _ _ n _=>n,λb ob q _=>⟨ob,k b ob q⟩,λ_ _ q=>q,λ_ _ _ q=>q,λ_ ps q=>⟨#[],by rw[q];simp⟩⟩
theorem Un.refl:Un fs ex H H h h:=Un.kept λ_ _ q=>q
theorem Un.laid(k:∀b u,h.get? b=Od u->h'.get? b=Od u)(hp:h.objs.size<=a)(hn:H a=OQ):Un fs ex H (upd H a o) h h' where
 keep:=λb u q _ _ _=>k b u q
 slot:=λb u q _ _ _=>⟨u.slots,k b u q⟩
 free:=λb u q n _=>by rw[ao (O' (Pb (O4 q) hp))];exact n
 there:=λb u q _=>⟨u,k b u q⟩
 gT:=λb xs q=>by rw[ao (ba q hn)];exact q
 Dy:=λb u xs q=>by rw[ao (ba q hn)];exact q
 DF:=λb ps q=>⟨#[],by rw[ao (ba q hn),q];simp⟩
theorem Un.write(mu:Hn (H x))(he:e=x\/H e=Od (.own x))(k:∀b u,b≠e->h.get? b=Od u->h'.get? b=Od u)(G2:∃u,h'.get? e=Od u):Un fs ex H (upd H x o) h h':=by
 have hx:∀b,H b=OQ->b≠x:=λb n z=>by subst z;rw[n]at mu;exact mu
 have hb:∀b,H b=OQ->b≠e:=λb n z=>by
  subst z;rcases he with r|r
  ·exact hx b n r
  ·rw[n]at r;cases r
 have hm:∀b u,H b=Od u->¬Hn (Od u)->b≠x:=λb u q nm z=>by subst z;rw[q]at mu;exact nm mu
 refine⟨λb u q n _ _=>k b u (hb b n) q,λb u q n _ _=>⟨u.slots,k b u (hb b n) q⟩,λb u q n _=>by rw[ao (hx b n)];exact n,λb u q _=>?_,
  λb xs q=>by rw[ao (hm b _ q λz=>z)];exact q,λb u xs q=>by rw[ao (hm b _ q λz=>z)];exact q,λb ps q=>⟨#[],by rw[ao (hm b _ q λz=>z),q];simp⟩⟩
 by_cases Gg:b=e
 ·subst Gg;exact G2
 ·exact⟨u,k b u Gg q⟩
end
def IL(h:QA)(H:Hp):List O8:=(Pl h.objs.size).filter λa=>(H a).isSome
def j6(h:QA)(H:Hp):QA:=PySem.W.hideAll h (IL h H)
theorem qx(h:QA)(H:Hp):(j6 h H).objs.size=h.objs.size:=PySem.W.hideAll_size _ _
theorem rJ(e:h.get? b=Od o)(n:H b=OQ):(j6 h H).get? b=Od o :=
 PySem.W.hideAll_get _ e λhm=>by
  have q:(H b).isSome=OP:=(Wh.mp hm).2;rw[n]at q;simp at q
theorem vi(e:(j6 h H).get? b=Od o):h.get? b=Od o/\H b=OQ:=by
 have e':h.get? b=Od o:=PySem.W.of_hideAll (IL h H) e;refine⟨e',?_⟩;cases q:H b with
 |none=>rfl
 |some x =>
  have hm:b∈IL h H:=Wh.mpr ⟨QT.mpr (O4 e'),by simp[q]⟩;have z:(j6 h H).get? b=OQ:=PySem.W.hideAll_none (IL h H) hm;rw[z]at e;cases e
structure Mod(K:PySem.W.Frag)(mg:Str->Option OW)(base:QA):Prop where
 IM:K.In base
 glob:base.Ns Qc mg
 blt:∃mb,base.Ns Tb mb/\∀x:Str,x≠"__name__"->mb x=Qx x
 nolimit:base.NoLimit
structure Cx where
 prog:PZ
 w:Qj
 K:PySem.W.Frag
 mg:Str->Option OW
 base:QA
 A:Ra
 N:List Str
 s₀:O7
 H₀:Hp
 env:Env
 outer:List Env
 stack:List Env
 ex:List O8
 fn:Str->Bool
 calm:Bool
 pn:List (O8×Obj)
 xe:OW->O7->Prop
def Eh(l:List Env):List O8:=l.filterMap (·.frame)
abbrev Cx.fs(X:Cx):List O8:=Eh X.outer
def Fd(sc:Rg)(x:Str):Prop:=sc.names.lookup x=Od .local\/sc.names.lookup x=Od .cell\/sc.names.lookup x=Od .free
def Loc(sc:Rg)(x:Str):Prop:=sc.names.lookup x=Od .local\/sc.names.lookup x=Od .cell
def Look(env:Env)(h:QA)(m:Str->Option OW)(x:Str)(u:OW):Prop :=
 (env.kindOf x=Od .local/\m x=Od u)\/((env.kindOf x=Od .cell\/env.kindOf x=Od .free)/\∃c,env.cells.lookup x=Od c/\h.IsCell c (Od u))
structure Cx.Ok(X:Cx):Prop where
 mod:Mod X.K X.mg X.base
 kind:X.env.scope.kind=.function
 glob:X.env.globals=Qc
 blt:X.env.builtins=Tb
 above:X.s₀.heap.objs.size<=X.env.locals
 inj:∀x y c,X.env.cells.lookup x=Od c->X.env.cells.lookup y=Od c->x=y
 has:∀x,(X.env.kindOf x=Od .cell\/X.env.kindOf x=Od .free)->∃c,X.env.cells.lookup x=Od c
 Hq:∀x c,X.fn x=OP->X.env.cells.lookup x=Od c->X.s₀.heap.objs.size<=c
 hd:X.calm=OP->X.A.handled=OQ
 frames:X.A.frames=Od X.stack
 IQ:X.stack=X.outer\/(X.stack=X.env::X.outer/\X.env.frame=Od X.env.locals)
 K9:∀b∈X.ex,b≠X.env.locals/\∀x c,X.env.cells.lookup x=Od c->c≠b
 bs:∀b o,X.base.get? b=Od o->X.s₀.heap.get? b=Od o/\X.H₀ b=OQ
 FQ:X.base.objs.size<=X.s₀.heap.objs.size
 EL:∀b o,X.base.get? b=Od o->b∉X.ex
 Fs:∀b∈X.ex,b∉X.fs
 g_:X.s₀.heap.FunFrames X.base X.outer
 G3:∀b∈X.fs,X.H₀ b=OQ
structure Inv(X:Cx)(pins:List (O8×Obj))(σ:List (Option V))(H:Hp)(s:O7):Prop where
 ok:X.Ok
 os:s.os=X.s₀.os
 bare:Te s.gens
 base:Un X.fs X.ex X.H₀ H X.s₀.heap s.heap
 loc:∃m,s.heap.Ns X.env.locals m/\∀(i:Nat) (x:Str) (v:V),X.N[i]?=Od x->σ[i]?=Od (Od v)->Fd X.env.scope x->∃u,RelV v u/\Look X.env s.heap m x u
 cell:∀x c,X.env.cells.lookup x=Od c->∃v,s.heap.IsCell c v
 free:H X.env.locals=OQ
 CP:∀x c,X.env.cells.lookup x=Od c->H c=OQ
 pin:∀p∈X.pn++pins,s.heap.get? p.1=Od p.2/\H p.1=OQ/\p.1≠X.env.locals/\p.1∉X.fs/\∀v,p.2.data≠.cell v
 Cg:C3 X.prog X.w H s.heap
 len:σ.length=X.N.length
section
variable{X:Cx}{pins:List (O8×Obj)}{σ:List (Option V)}{H H':Hp}{s:O7}{h':QA}
theorem Cx.Ok.BC(ok:X.Ok)(e:X.base.get? b=Od o):b∉X.fs:=λhb=>by
 have:=(ok.g_.mem hb).1;rw[e]at this;cases this
theorem Inv.bs(I:Inv X pins σ H s):∀b o,X.base.get? b=Od o->s.heap.get? b=Od o/\H b=OQ:=λb o e =>
 ⟨I.base.keep b o (I.ok.bs b o e).1 (I.ok.bs b o e).2 (I.ok.BC e) (I.ok.EL b o e),I.base.free b o (I.ok.bs b o e).1 (I.ok.bs b o e).2 (I.ok.EL b o e)⟩
theorem Inv.bk(I:Inv X pins σ H s):∀b o,X.base.get? b=Od o->s.heap.get? b=Od o:=λb o e=>(I.bs b o e).1
theorem Inv.mod(I:Inv X pins σ H s):Mod X.K X.mg X.base:=I.ok.mod
theorem Inv.Gh(I:Inv X pins σ H s):X.K.In s.heap:=I.ok.mod.IM.keeps I.bk
theorem Inv.lt(I:Inv X pins σ H s):X.env.locals<s.heap.objs.size:=let ⟨_,hn,_⟩:=I.loc;hn.lt
theorem Inv.sz(I:Inv X pins σ H s):X.s₀.heap.objs.size<=s.heap.objs.size:=Qv I.ok.above (RM I.lt)
theorem Inv.z9(I:Inv X pins σ H s)(h:s.heap.objs.size<=a):a∉X.fs:=λhb=>by
 obtain⟨_,o,ho,_⟩:=I.ok.g_.mem hb;exact absurd (Pb (O4 ho) (Qv I.sz h)) (P0 _)
theorem Inv.Gi(I:Inv X pins σ H s):∀x c,X.env.cells.lookup x=Od c->c≠X.env.locals:=λx c e z=>by
 obtain⟨v,o,ho,hd⟩:=I.cell x c e;obtain⟨m,⟨o',es,ep,C0,DG,_⟩,_⟩:=I.loc;rw[z,C0]at ho;cases ho;rw[DG]at hd;cases hd
theorem Inv.g_(I:Inv X pins σ H s):s.heap.FunFrames X.base X.outer:=by
 have all:∀(l:List Env),(∀b∈Eh l,b∈X.fs)->X.s₀.heap.FunFrames X.base l->s.heap.FunFrames X.base l:=by
  intro l;induction l with
  |nil=>intro _ _;trivial
  |cons env r ih =>
   intro hs hl;obtain⟨hk,⟨L,o,hf,hn,ho,hd⟩,hr⟩:=hl;have hL:L∈X.fs:=hs L (by unfold Eh;rw[QS,hf];exact PY);obtain⟨sl,e⟩:=I.base.slot L o ho (I.ok.G3 L hL) hL λz=>I.ok.Fs L z hL;exact⟨hk,⟨L,_,hf,hn,e,hd⟩,ih (λb hb=>hs b (by unfold Eh;rw[QS,hf];exact PV _ hb)) hr⟩
 exact all X.outer (λ_ hb=>hb) I.ok.g_
theorem Inv.stack(I:Inv X pins σ H s):s.heap.FunFrames X.base X.stack:=by
 rcases I.ok.IQ with e|⟨e,hf⟩
 ·rw[e];exact I.g_
 ·rw[e];obtain⟨m,hn,_⟩:=I.loc;refine .cons (by rw[I.ok.kind];decide) hf hn ?_ I.g_;exact Heap.get?_none_of_le (Qv I.ok.FQ I.ok.above)
theorem Inv.hJ(I:Inv X pins σ H s):∀b∈Eh X.stack,b∈X.env.locals::X.fs:=λb hb=>by
 rcases I.ok.IQ with e|⟨e,hf⟩
 ·rw[e]at hb;exact PV _ hb
 ·rw[e]at hb;unfold Eh at hb;rw[QS,hf]at hb;exact hb
theorem Inv.oK(I:Inv X pins σ H s):∀b∈Eh X.stack,H b=OQ:=λb hb=>by
 rcases O_.mp (I.hJ b hb) with e|hb
 ·rw[e];exact I.free
 ·obtain⟨_,o,ho,_⟩:=I.ok.g_.mem hb;exact I.base.free b o ho (I.ok.G3 b hb) λz=>I.ok.Fs b z hb
theorem Inv.step{ch:List O8}(I:Inv X pins σ H s)
  (Fe:∀b∈ch,(b∈X.ex\/X.s₀.heap.objs.size<=b)/\b≠X.env.locals/\(∀x c,X.env.cells.lookup x=Od c->c≠b)/\∀p∈X.pn++pins,p.1≠b)
  (keep:∀b o,b≠X.env.locals->b∉X.fs->b∉ch->s.heap.get? b=Od o->H b=OQ->h'.get? b=Od o)
  (slot:∀b o,b≠X.env.locals->b∈X.fs->b∉ch->s.heap.get? b=Od o->H b=OQ->∃sl,h'.get? b=Od {o with slots:=sl}) (free:∀b o,b∉ch->s.heap.get? b=Od o->H b=OQ->H' b=OQ)
  (there:∀b o,b∉ch->s.heap.get? b=Od o->∃o',h'.get? b=Od o')
  (gT:∀b xs,H b=Od (.tup xs)->H' b=Od (.tup xs)) (Dy:∀b o u,H b=Od (.Di o u)->H' b=Od (.Di o u)) (DF:∀b ps,H b=Od (.Gf ps)->∃more,H' b=Od (.Gf (ps++more)))
  (ns:∀m,s.heap.Ns X.env.locals m->h'.Ns X.env.locals m) (Cg:C3 X.prog X.w H' h') (hg:Te g') :
  Inv X pins σ H' {s with heap:=h',gens:=g',drawn:=d',toks:=t' }:=by
 have K_:∀b o,X.s₀.heap.get? b=Od o->b≠X.env.locals:=λb o e=>O' (Pb (O4 e) I.ok.above);have IS:∀b o,X.s₀.heap.get? b=Od o->b∉X.ex->b∉ch:=λb o e hx hb=>by
  rcases(Fe b hb).1 with z|z
  ·exact hx z
  ·exact absurd (Pb (O4 e) z) (P0 _)
 have cellK:∀x c,X.env.cells.lookup x=Od c->∀v,s.heap.IsCell c v->h'.IsCell c v:=λx c e v DQ=>by
  obtain⟨o,ho,hd⟩:=DQ;have Hr:c∉ch:=λz=>(Fe c z).2.2.1 x c e rfl;by_cases hc:c∈X.fs
  ·obtain⟨sl,q⟩:=slot c o (I.Gi x c e) hc Hr ho (I.CP x c e);exact⟨_,q,hd⟩
  ·exact⟨o,keep c o (I.Gi x c e) hc Hr ho (I.CP x c e),hd⟩
 refine⟨I.ok,I.os,hg,⟨λb o e n hb hx=>?_,λb o e n hb hx=>?_,λb o e n hx=>?_,λb o e hx=>?_,λb xs e=>gT b xs (I.base.gT b xs e),λb o xs e=>Dy b o xs (I.base.Dy b o xs e),λb ps e=>?_⟩,?_,λx c e=>?_,?_,λx c e=>?_,λp hp=>?_,Cg,I.len⟩
 ·exact keep b o (K_ b o e) hb (IS b o e hx) (I.base.keep b o e n hb hx) (I.base.free b o e n hx)
 ·obtain⟨sl,e1⟩:=I.base.slot b o e n hb hx;obtain⟨L_,e2⟩:=slot b _ (K_ b o e) hb (IS b o e hx) e1 (I.base.free b o e n hx);exact⟨L_,e2⟩
 ·obtain⟨o',e1⟩:=I.base.there b o e hx;exact free b o' (IS b o e hx) e1 (I.base.free b o e n hx)
 ·obtain⟨o',e1⟩:=I.base.there b o e hx;exact there b o' (IS b o e hx) e1
 ·obtain⟨m1,e1⟩:=I.base.DF b ps e;obtain⟨m2,e2⟩:=DF b _ e1;exact⟨m1++m2,by rw[e2,Array.append_assoc]⟩
 ·obtain⟨m,hn,hl⟩:=I.loc;refine⟨m,ns m hn,λi x v e1 e2 e3=>?_⟩;obtain⟨u,r,l⟩:=hl i x v e1 e2 e3;refine⟨u,r,?_⟩;rcases l with l|⟨k,c,e,z⟩
  ·exact .inl l
  ·exact .inr ⟨k,c,e,cellK x c e _ z⟩
 ·obtain⟨v,z⟩:=I.cell x c e;exact⟨v,cellK x c e v z⟩
 ·obtain⟨m,⟨o,_,_,ho,_⟩,_⟩:=I.loc;exact free _ o (λz=>(Fe _ z).2.1 rfl) ho I.free
 ·obtain⟨v,o,ho,hd⟩:=I.cell x c e;exact free c o (λz=>(Fe c z).2.2.1 x c e rfl) ho (I.CP x c e)
 ·obtain⟨e,n,ne,nf,d⟩:=I.pin p hp;have Hr:p.1∉ch:=λz=>(Fe p.1 z).2.2.2 p hp rfl;exact⟨keep p.1 p.2 ne nf Hr e n,free p.1 p.2 Hr e n,ne,nf,d⟩
theorem Inv.un(I:Inv X pins σ H s)(u:Un X.fs [] H H' s.heap h')(Cg:C3 X.prog X.w H' h'):Inv X pins σ H' {s with heap:=h',toks:=t' }:=by
 obtain⟨m,⟨o,es,ep,ho,r⟩,_⟩:=id I.loc;obtain⟨sl,hL⟩:=u.any ho I.free (by simp);exact I.step (g':=s.gens) (d':=s.drawn) (ch:=[]) (λ_ z=>nomatch z) (λb o _ hb _ e n=>u.keep b o e n hb (by simp)) (λb o _ hb _ e n=>u.slot b o e n hb (by simp)) (λb o _ e n=>u.free b o e n (by simp)) (λb o _ e=>u.there b o e (by simp)) u.gT u.Dy u.DF (λm' hm=>by
  obtain⟨o',Cd,Gj,C0,r'⟩:=hm;rw[ho]at C0;cases C0;exact⟨_,Cd,Gj,hL,r'⟩) Cg I.bare
theorem Inv.call(I:Inv X pins σ H s)(u:Un (Eh X.stack) ch H H' s.heap h')(Cg:C3 X.prog X.w H' h')(hg:Te g')
  (Fe:∀b∈ch,(b∈X.ex\/X.s₀.heap.objs.size<=b)/\b≠X.env.locals/\(∀x c,X.env.cells.lookup x=Od c->c≠b)/\∀p∈X.pn++pins,p.1≠b) :
  Inv X pins σ H' {s with heap:=h',gens:=g',drawn:=d',toks:=t' }:=by
 obtain⟨m,⟨o,es,ep,ho,r⟩,_⟩:=id I.loc;obtain⟨sl,hL⟩:=u.any ho I.free λz=>(Fe _ z).2.1 rfl;exact I.step (ch:=ch) Fe (λb o hL hb hc e n=>u.keep b o e n (λz=>(O_.mp (I.hJ b z)).elim hL hb) hc) (λb o _ _ hc e n=>u.any e n hc) (λb o hc e n=>u.free b o e n hc) (λb o hc e=>u.there b o e hc) u.gT u.Dy u.DF (λm' hm=>by
  obtain⟨o',Cd,Gj,C0,r'⟩:=hm;rw[ho]at C0;cases C0;exact⟨_,Cd,Gj,hL,r'⟩) Cg hg
theorem Inv.turned(I:Inv X pins σ H s)(k:∀b o,b≠it->s.heap.get? b=Od o->h'.get? b=Od o)(hn:H it=OQ)(hL:it≠X.env.locals)
  (h1:it∈X.ex\/X.s₀.heap.objs.size<=it) (h2:∀x c,X.env.cells.lookup x=Od c->c≠it) (h3:∀p∈X.pn++pins,p.1≠it):Inv X pins σ H {s with heap:=h',toks:=t' }:=by
 have Hs:∀b u,H b=Od u->b≠it:=λb u e z=>by rw[z,hn]at e;cases e
 refine I.step (g':=s.gens) (d':=s.drawn) (ch:=[it]) (λb hb=>?_) (λb o _ _ hc e _=>k b o (λz=>hc (by simp[z])) e) (λb o _ _ hc e _=>⟨o.slots,k b o (λz=>hc (by simp[z])) e⟩) (λ_ _ _ _ n=>n)
  (λb o hc e=>⟨o,k b o (λz=>hc (by simp[z])) e⟩) (λ_ _ e=>e) (λ_ _ _ e=>e) (λb ps e=>⟨#[],by rw[e];simp⟩) (λm hm=>?_) (λb u e=>?_) I.bare
 ·have e:b=it:=by simpa using hb
  subst e;exact⟨h1,hL,h2,h3⟩
 ·obtain⟨o,es,ep,ho,r⟩:=hm;exact⟨o,es,ep,k _ o (Qs hL) ho,r⟩
 ·refine(I.Cg b u e).j5 (λc v hc q=>k c v ?_ q) (λ_ q=>q) λ_ _ q=>q;rcases hc with z|z
  ·rw[z];exact Hs b u e
  ·exact Hs c _ z
theorem Inv.tok(I:Inv X pins σ H s)(t:Nat):Inv X pins σ H {s with toks:=t}:=I.un (h':=s.heap) (t':=t) Un.refl I.Cg
theorem Inv.kept(I:Inv X pins σ H s)(k:∀b u,s.heap.get? b=Od u->h'.get? b=Od u):Inv X pins σ H {s with heap:=h',toks:=t' }:=I.un (Un.kept k) (I.Cg.kept k)
theorem Inv.laid(I:Inv X pins σ H s)(k:∀b u,s.heap.get? b=Od u->h'.get? b=Od u)(hp:s.heap.objs.size<=a)(new:aW X.prog X.w (upd H a o) h' a o):
  Inv X pins σ (upd H a o) {s with heap:=h',toks:=t' }:=I.un (Un.laid k hp (I.Cg.fresh hp)) (I.Cg.laid k hp new)
theorem Inv.write(I:Inv X pins σ H s)(mu:Hn (H x))(he:e=x\/H e=Od (.own x))(k:∀b u,b≠e->s.heap.get? b=Od u->h'.get? b=Od u)(G2:∃u,h'.get? e=Od u)
  (new:aW X.prog X.w (upd H x o) h' x o):Inv X pins σ (upd H x o) {s with heap:=h',toks:=t' }:=I.un (Un.write mu he k G2) (I.Cg.write mu he k G2 new)
theorem Inv.weak(I:Inv X pins σ H s)(hl:σ'.length=σ.length)(w:∀(i:Nat) v,σ'[i]?=Od (Od v)->σ[i]?=Od (Od v)):Inv X pins σ' H s :=
 ⟨I.ok,I.os,I.bare,I.base,let ⟨m,hn,FR⟩:=I.loc;⟨m,hn,λi x v e1 e2 e3=>FR i x v e1 (w i v e2) e3⟩,I.cell,I.free,I.CP,I.pin,I.Cg,hl.trans I.len⟩
theorem Inv.dU(I:Inv X pins σ H s)(h:∀p∈FT,s.heap.get? p.1=Od p.2/\H p.1=OQ/\p.1≠X.env.locals/\p.1∉X.fs/\∀v,p.2.data≠.cell v):Inv X FT σ H s :=
 ⟨I.ok,I.os,I.bare,I.base,I.loc,I.cell,I.free,I.CP,λp hp=>(Q9.mp hp).elim (λz=>I.pin p (Vn _ z)) (h p),I.Cg,I.len⟩
theorem hU{N:List Str}(hN:N.Nodup){i j:Nat}(a:N[i]?=Od x)(b:N[j]?=Od x):i=j:=by
 obtain⟨h1,e1⟩:=O6.mp a;obtain⟨h2,e2⟩:=O6.mp b;exact(V1 hN).mp (e1.trans e2.symm)
theorem jr(I:Inv X pins σ H s)(hN:X.N.Nodup)(hi:X.N[i]?=Od x)(hx:Loc X.env.scope x)(r:RelV v u)
  (h:∀s',Inv X pins (σ.set i (Od v)) H s'->(∃a,Qu a s.heap s'.heap/\(a=X.env.locals\/X.env.cells.lookup x=Od a))->Q () s') (hf:X.fn x=OP\/X.env.scope.names.lookup x=Od .local:=by first|exact .inl rfl|exact .inr rfl|assumption):OZ M A (storeName X.env x u) Q E s:=by
 obtain⟨m,hn,hl⟩:=id I.loc;have JK:(X.env.scope.kind==.class||(X.env.scope.kind==.module&&X.env.locals != X.env.globals))=OR:=by rw[I.ok.kind];rfl
 have K':i < σ.length:=by rw[I.len];exact(O6.mp hi).1
 have Gi:=I.Gi;have tracked:∀{a:O8} {h':QA},(∃o,s.heap.get? a=Od o/\H a=OQ)->Qu a s.heap h'->C3 X.prog X.w H h':=λ{a h'} ha hs b ob e=>by
  obtain⟨_,_,CW⟩:=ha;refine(I.Cg b ob e).j5 (λc w' hc q=>(hs.2 c ?_).trans q) (λ_ q=>q) λ_ _ q=>q;rintro rfl;rcases hc with rfl|hc
  ·rw[CW]at e;cases e
  ·rw[CW]at hc;cases hc
 rcases hx with hk|hk
 ·refine wpAny_storeName_local hk hn (λh' Ma hs=>?_) JK;obtain⟨oL,_,_,Ft,_⟩:=id hn;refine h _ ⟨I.ok,I.os,I.bare,⟨λb o e n hb hx=>?_,λb o e n hb hx=>?_,I.base.free,λb o e hx=>?_,I.base.gT,I.base.Dy,I.base.DF⟩,⟨_,Ma,λj y v' e1 e2 e3=>?_⟩,λy c e=>?_,I.free,I.CP,λp hp=>?_,tracked ⟨oL,Ft,I.free⟩ hs,by simpa using I.len⟩ ⟨_,hs,.inl rfl⟩
  ·exact(hs.2 b (O' (Pb (O4 e) I.ok.above))).trans (I.base.keep b o e n hb hx)
  ·obtain⟨sl,e1⟩:=I.base.slot b o e n hb hx;exact⟨sl,(hs.2 b (O' (Pb (O4 e) I.ok.above))).trans e1⟩
  ·obtain⟨o',e1⟩:=I.base.there b o e hx;exact⟨o',(hs.2 b (O' (Pb (O4 e) I.ok.above))).trans e1⟩
  ·by_cases hj:j=i
   ·subst hj;rw[hi]at e1;cases e1;rw[Ph K']at e2;cases e2;exact⟨u,r,.inl ⟨hk,by simp⟩⟩
   ·rw[Pk (Qs hj)]at e2;obtain⟨u',r',q⟩:=hl j y v' e1 e2 e3;refine⟨u',r',?_⟩;rcases q with⟨k,e⟩|⟨k,c,e,z⟩
    ·refine .inl ⟨k,?_⟩;have:y≠x:=λe=>hj (hU hN e1 (e▸hi));simp[this,e]
    ·exact .inr ⟨k,c,e,z.sameBut hs (Gi y c e)⟩
  ·obtain⟨w',z⟩:=I.cell y c e;exact⟨w',z.sameBut hs (Gi y c e)⟩
  ·obtain⟨e,n,ne,nf,d⟩:=I.pin p hp;exact⟨(hs.2 p.1 ne).trans e,n,ne,nf,d⟩
 ·have D6:X.fn x=OP:=by
   rcases hf with z|z
   ·exact z
   ·rw[z]at hk;cases hk
  obtain⟨c,hc⟩:=I.ok.has x (.inl hk);obtain⟨w',z⟩:=I.cell x c hc;refine wpAny_storeName_cell I.ok.kind hk hc z (λh' G4 hs=>?_);obtain⟨oc,La,JL⟩:=id z;refine h {s with heap:=h' } ⟨I.ok,I.os,I.bare,⟨λb o e n hb hx=>?_,λb o e n hb hx=>?_,I.base.free,λb o e hx=>?_,I.base.gT,I.base.Dy,I.base.DF⟩,⟨m,hn.sameBut hs (Qs (Gi x c hc)),λj y v' e1 e2 e3=>?_⟩,λy c' e=>?_,I.free,I.CP,λp hp=>?_,tracked ⟨oc,La,I.CP x c hc⟩ hs,by simpa using I.len⟩ ⟨c,hs,.inr hc⟩
  ·exact(hs.2 b (O' (Pb (O4 e) (I.ok.Hq x c D6 hc)))).trans (I.base.keep b o e n hb hx)
  ·obtain⟨sl,e1⟩:=I.base.slot b o e n hb hx;exact⟨sl,(hs.2 b (O' (Pb (O4 e) (I.ok.Hq x c D6 hc)))).trans e1⟩
  ·obtain⟨o',e1⟩:=I.base.there b o e hx;exact⟨o',(hs.2 b (O' (Pb (O4 e) (I.ok.Hq x c D6 hc)))).trans e1⟩
  ·by_cases hj:j=i
   ·subst hj;rw[hi]at e1;cases e1;rw[Ph K']at e2;cases e2;exact⟨u,r,.inr ⟨.inl hk,c,hc,G4⟩⟩
   ·rw[Pk (Qs hj)]at e2;obtain⟨u',r',q⟩:=hl j y v' e1 e2 e3;refine⟨u',r',?_⟩;rcases q with q|⟨k,c',e,z'⟩
    ·exact .inl q
    ·refine .inr ⟨k,c',e,z'.sameBut hs ?_⟩;rintro rfl;exact hj (hU hN e1 (I.ok.inj _ _ _ e hc▸hi))
  ·by_cases Lb:c'=c
   ·subst Lb;exact⟨_,G4⟩
   ·obtain⟨w2,z2⟩:=I.cell y c' e;exact⟨w2,z2.sameBut hs Lb⟩
  ·obtain⟨e,n,ne,nf,d⟩:=I.pin p hp;refine⟨(hs.2 p.1 ?_).trans e,n,ne,nf,d⟩;intro q;rw[q,La]at e;have q':oc=p.2:=PU e;exact d w' (by rw[<-q'];exact JL)
theorem lz(I:Inv X pins σ H s)(hN:X.N.Nodup)(hi:X.N[i]?=Od x)(hx:Loc X.env.scope x)(r:RelV v u)
  (h:∀s',Inv X pins (σ.set i (Od v)) H s'->Q () s') (hf:X.fn x=OP\/X.env.scope.names.lookup x=Od .local:=by first|exact .inl rfl|exact .inr rfl|assumption):OZ M A (storeName X.env x u) Q E s :=
 jr I hN hi hx r (λs' I' _=>h s' I') hf
theorem Inv.z_(I:Inv X pins σ H s)(ho:s'.os=s.os)(u:Un (Eh X.stack) ch H H' s.heap s'.heap)(Cg:C3 X.prog X.w H' s'.heap)(hg:Te s'.gens)
  (Fe:∀b∈ch,(b∈X.ex\/X.s₀.heap.objs.size<=b)/\b≠X.env.locals/\(∀x c,X.env.cells.lookup x=Od c->c≠b)/\∀p∈X.pn++pins,p.1≠b):Inv X pins σ H' s':=by
 obtain⟨h',g',d',t',o'⟩:=s';have e:o'=s.os:=ho;subst e;exact I.call (g':=g') (t':=t') (d':=d') u Cg hg Fe
end
abbrev XK:=OW->Option O8->Hp->Prop
abbrev St:=List (Option V)
abbrev VK:=V->Hp->Prop
abbrev TE:=St->Hp->VK->Prop
abbrev TT:=St->Hp->(Bool->Hp->Prop)->Prop
abbrev TA:=St->Hp->(List V->Hp->Prop)->Prop
structure Ends where
 nx:St->Hp->Prop
 rt:VK
 bk:St->Hp->Prop:=λ_ _=>False
 ct:St->Hp->Prop:=λ_ _=>False
abbrev TS:=Ends->St->Hp->Prop
def EP(X:Cx)(pins:List (O8×Obj))(σ:St)(Q:VK)(u:OW)(s':O7):Prop:=∃v H',Inv X pins σ H' s'/\RelV v u/\Q v H'
def TP(X:Cx)(pins:List (O8×Obj))(σ:St)(Q:Bool->Hp->Prop)(b:Bool)(s':O7):Prop:=∃H',Inv X pins σ H' s'/\Q b H'
def AP(X:Cx)(pins:List (O8×Obj))(σ:St)(Q:List V->Hp->Prop)(us:List OW)(s':O7):Prop:=∃vs H',Inv X pins σ H' s'/\Vals vs us/\Q vs H'
def SP(X:Cx)(pins:List (O8×Obj))(D:Ends)(f:Flow)(s':O7):Prop :=
 match f with
 |.next=>∃σ' H',Inv X pins σ' H' s'/\D.nx σ' H'
 |.brk=>∃σ' H',Inv X pins σ' H' s'/\D.bk σ' H'
 |.cont=>∃σ' H',Inv X pins σ' H' s'/\D.ct σ' H'
 |.ret u=>∃v σ' H',Inv X pins σ' H' s'/\RelV v u/\D.rt v H'
def PE(X:Cx)(e:PR)(t:TE):Prop :=
 ∀(pins:List (O8×Obj)) (s:O7) (σ:St) (H:Hp) (Q:VK),Inv X pins σ H s->t σ H Q->OZ (O9 X.prog X.w) X.A (QK e X.env) (EP X pins σ Q) X.xe s
def PT(X:Cx)(e:PR)(t:TT):Prop :=
 ∀(pins:List (O8×Obj)) (s:O7) (σ:St) (H:Hp) (Q:Bool->Hp->Prop),Inv X pins σ H s->t σ H Q->OZ (O9 X.prog X.w) X.A (isTrue e X.env (QK e X.env)) (TP X pins σ Q) X.xe s
def PW(X:Cx)(e:PR)(t:TT):Prop :=
 ∀(whole:Sem OW) (pins:List (O8×Obj)) (s:O7) (σ:St) (H:Hp) (Q:Bool->Hp->Prop),Inv X pins σ H s->t σ H Q->OZ (O9 X.prog X.w) X.A (isTrue e X.env whole) (TP X pins σ Q) X.xe s
theorem PW.pt(h:PW X e t):PT X e t:=h _
def PA(X:Cx)(es:List PR)(t:TA):Prop :=
 ∀(pos:Pos) (pins:List (O8×Obj)) (s:O7) (σ:St) (H:Hp) (Q:List V->Hp->Prop),Inv X pins σ H s->t σ H Q->OZ (O9 X.prog X.w) X.A (WN (QP pos (Pj es X.env))) (AP X pins σ Q) X.xe s
def PS(X:Cx)(st:RY)(t:TS):Prop :=
 ∀(pins:List (O8×Obj)) (s:O7) (σ:St) (H:Hp) (D:Ends),Inv X pins σ H s->t D σ H->OZ (O9 X.prog X.w) X.A (exec st X.env) (SP X pins D) X.xe s
def C9(X:Cx)(st:List RY)(t:TS):Prop :=
 ∀(pins:List (O8×Obj)) (s:O7) (σ:St) (H:Hp) (D:Ends),Inv X pins σ H s->t D σ H->OZ (O9 X.prog X.w) X.A (execs st X.env) (SP X pins D) X.xe s
theorem Cm(h:OZ M A t Q E s)(hQ:∀a s,Q a s->Q' a s):OZ M A t Q' E s:=Qb h hQ λ_ _ x=>x
section
def BD(i:Nat):TE:=λσ H Q=>∃v,σ[i]?=Od (Od v)/\Q v H
def tC(v:V):TE:=λ_ H Q=>Q v H
theorem eO(hN:X.N[i]?=Od x)(hv:Fd X.env.scope x)(hd:(x==("__debug__":Str))=OR:=by decide)(Dv:(x==("__classdict__":Str))=OR:=by decide):PE X (.Name x pos) (BD i):=by
 intro pins s σ H Q I h;obtain⟨v,e,h⟩:=h;obtain⟨m,hn,hl⟩:=I.loc;obtain⟨u,r,l⟩:=hl i x v hN e hv;have fin:EP X pins σ Q u s:=⟨v,H,I,r,h⟩
 rcases l with⟨hk,hm⟩|⟨hk,c,hc,FU⟩
 ·exact Wv (wpAny_loadName_local I.ok.kind hk hn hm fin) hd
 ·rcases hk with hk|hk
  ·exact Wv (wpAny_loadName_cell I.ok.kind hk hc FU fin) hd
  ·exact Wv (wpAny_loadName_free I.ok.kind hk hc FU fin Dv) hd
theorem rK:PE X (.Constant (.int i) j pos) (tC (.int i)):=λ_ _ _ H _ I h=>wpAny_Constant_int ⟨.int i,H,I.tok _,⟨_,rfl⟩,h⟩
theorem xC:PE X (.Constant (.bool b) j pos) (tC (.bl b)):=λ_ _ _ H _ I h=>Constant_bool ⟨.bl b,H,I,rfl,h⟩
theorem rL:PE X (.Constant .none j pos) (tC .Ce):=λ_ _ _ H _ I h=>Constant_none ⟨.Ce,H,I,rfl,h⟩
theorem rM:PE X (.Constant (.str x) j pos) (tC (.str x)):=λ_ _ _ H _ I h=>Calls.Constant_str ⟨.str x,H,I.tok _,⟨_,rfl⟩,h⟩
def Gl(X:Cx)(x:Str):Prop:=X.env.kindOf x=Od .globalImplicit
theorem oM(I:Inv X pins σ H s)(hg:Gl X x)(hm:X.mg x=Od u)(h:Q u s)
  (hd:(x==("__debug__":Str))=OR:=by decide):OZ (O9 X.prog X.w) X.A (QK (.Name x pos) X.env) Q E s :=
 Uv I.ok.kind hg (Calls.loadGlobal_global (by rw[I.ok.glob];exact I.mod.glob.keeps I.bk) hm h) hd
theorem dv(I:Inv X pins σ H s)(hg:Gl X x)(hm:X.mg x=OQ)(hv:Qx x=Od u)(h:Q u s)
  (hn:x≠"__name__":=by decide) (hd:(x==("__debug__":Str))=OR:=by decide):OZ (O9 X.prog X.w) X.A (QK (.Name x pos) X.env) Q E s:=by
 obtain⟨mb,h1,h2⟩:=I.mod.blt;exact Uv I.ok.kind hg (Calls.loadGlobal_builtin (by rw[I.ok.glob];exact I.mod.glob.keeps I.bk) hm (by rw[I.ok.blt];exact h1.keeps I.bk) ((h2 x hn).trans hv) h) hd
theorem vj(hg:Gl X x)(hm:X.mg x=OQ)(hv:Qx x=Od u)(r:RelV v u)(hn:x≠"__name__":=by decide)(hd:(x==("__debug__":Str))=OR:=by decide):PE X (.Name x pos) (tC v) :=
 λ_ _ _ H _ I h=>dv I hg hm hv ⟨v,H,I,r,h⟩ hn hd
def BE(t u:TT):TT:=λσ H Q=>t σ H λc H1=>if c=OP then u σ H1 Q else Q OR H1
def Mb(t u:TT):TT:=λσ H Q=>t σ H λc H1=>if c=OP then Q OP H1 else u σ H1 Q
def BF(t:TT):TT:=λσ H Q=>t σ H λc H1=>Q (!c) H1
theorem vk(ha:PT X a tA):PW X (.BoolOp .And [a] pos) tA:=by
 intro wh pins s σ H Q I h;refine isTrue_and (Cm (ha pins s σ H Q I h) λc s1 e=>?_);cases c with
 |true=>exact XF e
 |false=>exact e
theorem yc(ha:PT X a tA):PW X (.BoolOp .Or [a] pos) tA:=by
 intro wh pins s σ H Q I h;refine isTrue_or (Cm (ha pins s σ H Q I h) λc s1 e=>?_);cases c with
 |false=>exact isTrue_or_nil e
 |true=>exact e
theorem yd(ha:PT X a tA)(hb:PW X (.BoolOp .And (b::rest) pos) JM):PW X (.BoolOp .And (a::b::rest) pos) (BE tA JM):=by
 intro wh pins s σ H Q I h;refine isTrue_and (Cm (ha pins s σ H _ I h) λc s1 ⟨H1,I1,q1⟩=>?_);cases c with
 |true=>exact hb wh pins s1 σ H1 Q I1 q1
 |false=>exact⟨H1,I1,q1⟩
theorem Aa(ha:PT X a tA)(hb:PW X (.BoolOp .Or (b::rest) pos) JM):PW X (.BoolOp .Or (a::b::rest) pos) (Mb tA JM):=by
 intro wh pins s σ H Q I h;refine isTrue_or (Cm (ha pins s σ H _ I h) λc s1 ⟨H1,I1,q1⟩=>?_);cases c with
 |true=>exact⟨H1,I1,q1⟩
 |false=>exact hb wh pins s1 σ H1 Q I1 q1
theorem ye(ha:PT X a tA):PT X (.UnaryOp .Not a pos) (BF tA):=by
 intro pins s σ H Q I h;exact isTrue_not (ha pins s σ H (λc H1=>Q (!c) H1) I h)
def Ab(ta tb:TE):TE:=λσ H Q=>ta σ H λx H1=>∃c,x=.bl c/\if c=OP then tb σ H1 Q else Q (.bl OR) H1
def BG(ta tb:TE):TE:=λσ H Q=>ta σ H λx H1=>∃c,x=.bl c/\if c=OP then Q (.bl OP) H1 else tb σ H1 Q
def Ac(ta:TE):TE:=λσ H Q=>ta σ H λx H1=>∃c,x=.bl c/\Q (.bl (!c)) H1
theorem rN(h:PE X a t):PE X (.BoolOp op [a] pos) t:=λpins s σ H Q I hw=>BoolOp_one (h pins s σ H Q I hw)
theorem yf(ha:PE X a ta)(hb:PE X (.BoolOp .And (b::rest) pos) tb):PE X (.BoolOp .And (a::b::rest) pos) (Ab ta tb):=by
 intro pins s σ H Q I h;refine BoolOp_and (Cm (ha pins s σ H _ I h) λv s1 ⟨x,H1,I1,r1,q1⟩=>?_);obtain⟨c,rfl,q1⟩:=q1;cases r1;refine P_ ?_;cases c with
 |true=>exact hb pins s1 σ H1 Q I1 q1
 |false=>exact⟨.bl OR,H1,I1,rfl,q1⟩
theorem Ad(ha:PE X a ta)(hb:PE X (.BoolOp .Or (b::rest) pos) tb):PE X (.BoolOp .Or (a::b::rest) pos) (BG ta tb):=by
 intro pins s σ H Q I h;refine BoolOp_or (Cm (ha pins s σ H _ I h) λv s1 ⟨x,H1,I1,r1,q1⟩=>?_);obtain⟨c,rfl,q1⟩:=q1;cases r1;refine P_ ?_;cases c with
 |false=>exact hb pins s1 σ H1 Q I1 q1
 |true=>exact⟨.bl OP,H1,I1,rfl,q1⟩
theorem yg(ha:PE X a ta):PE X (.UnaryOp .Not a pos) (Ac ta):=by
 intro pins s σ H Q I h;refine UnaryOp_ (Cm (ha pins s σ H _ I h) λv s1 ⟨x,H1,I1,r1,q1⟩=>?_);obtain⟨c,rfl,q1⟩:=q1;cases r1;exact not_of (P_ ⟨.bl (!c),H1,I1,rfl,q1⟩)
def Mc(t:TT)(ta tb:TE):TE:=λσ H Q=>t σ H λc H1=>if c=OP then ta σ H1 Q else tb σ H1 Q
theorem rO(hc:PT X c tA)(ha:PE X a ta)(hb:PE X b tb):PE X (.IfExp c a b pos) (Mc tA ta tb):=by
 intro pins s σ H Q I h;refine wpAny_IfExp (Cm (hc pins s σ H _ I h) λd s1 ⟨H1,I1,q1⟩=>?_);cases d with
 |true=>exact ha pins s1 σ H1 Q I1 q1
 |false=>exact hb pins s1 σ H1 Q I1 q1
end
def CF(K:PySem.W.Frag)(H:Hp)(a:O8)(xs:List V):Prop :=
 Rd H a (.lst xs) \/
  ∃(o:Obj) (A':Array OW) (n:Nat),K.lookup a=Od o/\o.cls=.type "list"/\o.dict=OQ/\o.data=.seq A' n/\A'.size<=OV/\Vals xs A'.toList
def CB(K:PySem.W.Frag)(H:Hp)(a:O8)(xs:List V):Prop :=
 Rd H a (.tup xs) \/
  ∃(o:Obj) (A':Array OW) (n:Nat),K.lookup a=Od o/\o.cls=.type "tuple"/\o.data=.seq A' n/\A'.size<=OV/\Vals xs A'.toList
def BH:OW->Option V
 |.none=>Od .Ce
 |.bool b=>Od (.bl b)
 |.int i _=>Od (.int i)
 |.str x _=>Od (.str x)
 |.bytes b _=>Od (.IJ b)
 |.float b _=>Od (.IK b)
 |.ref a=>Od (.ref a)
 |.type n=>Od (.ty n)
 |_=>OQ
theorem RelV.abs(r:RelV x u):BH u=Od x:=by
 cases x with
 |Ce=>cases r;rfl
 |bl _=>cases r;rfl
 |ref _=>cases r;rfl
 |ty _=>cases r;rfl
 |_=>obtain⟨t,rfl⟩:=r;rfl
theorem RelV.inj(r:RelV x u)(q:RelV y u):x=y:=PU (r.abs.symm.trans q.abs)
theorem Vals.inj:∀{xs ys:List V}{us:List OW},Vals xs us->Vals ys us->xs=ys
 |_,_,_,.nil,.nil=>rfl
 |_,_,_,.cons r t,.cons r' t'=>by rw[r.inj r',Vals.inj t t']
section
theorem CF.of{K:PySem.W.Frag}(h:H a=Od (.lst xs)):CF K H a xs:=.inl (.inl h)
theorem CB.of{K:PySem.W.Frag}(h:H a=Od (.tup xs)):CB K H a xs:=.inl (.inl h)
theorem Inv.list(I:Inv X pins σ H s)(h:CF X.K H a xs):∃A':List OW,Vals xs A'/\PlainL s.heap a A'.toArray/\xs.length<=OV:=by
 rcases h with h|⟨o,A',n,hk,hc,hd,hs,hz,r⟩
 ·obtain⟨z,A',n,r,e⟩:=h.ok I.Cg;exact⟨A',r,⟨_,n,e,rfl,rfl,rfl⟩,z⟩
 ·refine⟨A'.toList,r,⟨o,n,I.Gh a o hk,hc,hd,by simpa using hs⟩,?_⟩;have e:=r.length;simp only[Pq]at e;omega
theorem Inv.tuple(I:Inv X pins σ H s)(h:CB X.K H a xs):∃A':List OW,Vals xs A'/\Wf s.heap a A'.toArray/\xs.length<=OV:=by
 rcases h with h|⟨o,A',n,hk,hc,hs,hz,r⟩
 ·obtain⟨z,A',r,p⟩:=h.ok I.Cg;exact⟨A',r,p,z⟩
 ·refine⟨A'.toList,r,⟨o,I.Gh a o hk,hc,n,by simpa using hs⟩,?_⟩;have e:=r.length;simp only[Pq]at e;omega
theorem Inv.lA(I:Inv X pins σ H s)(h:CF X.K H a xs)(h':CF X.K H a ys):xs=ys:=by
 obtain⟨A',r,⟨o,n,e,_,_,d⟩,_⟩:=I.list h;obtain⟨its',r',⟨o',n',e',_,_,d'⟩,_⟩:=I.list h';rw[e]at e';cases e';rw[d]at d';injection d' with d1 _
 have:A'=its':=by simpa using congrArg U0 d1
 subst this;exact r.inj r'
theorem Inv.jt(I:Inv X pins σ H s)(h:CB X.K H a xs)(h':CB X.K H a ys):xs=ys:=by
 obtain⟨A',r,⟨o,e,_,n,d⟩,_⟩:=I.tuple h;obtain⟨its',r',⟨o',e',_,n',d'⟩,_⟩:=I.tuple h';rw[e]at e';cases e';rw[d]at d';injection d' with d1 _
 have:A'=its':=by simpa using congrArg U0 d1
 subst this;exact r.inj r'
end
abbrev Cx.je(X:Cx)(E:OW->O7->Prop):Cx:={X with xe:=E}
abbrev Cx.G5(X:Cx):Cx:=X.je λ_ _=>False
theorem Cx.Ok.je{X:Cx}(ok:X.Ok)(E:OW->O7->Prop):(X.je E).Ok :=
 ⟨ok.mod,ok.kind,ok.glob,ok.blt,ok.above,ok.inj,ok.has,ok.Hq,ok.hd,ok.frames,ok.IQ,ok.K9,ok.bs,ok.FQ,ok.EL,ok.Fs,ok.g_,ok.G3⟩
theorem Cx.Ok.fZ{X:Cx}(ok:(X.je E).Ok):X.Ok :=
 ⟨ok.mod,ok.kind,ok.glob,ok.blt,ok.above,ok.inj,ok.has,ok.Hq,ok.hd,ok.frames,ok.IQ,ok.K9,ok.bs,ok.FQ,ok.EL,ok.Fs,ok.g_,ok.G3⟩
section
theorem Inv.je(I:Inv X pins σ H s)(E:OW->O7->Prop):Inv (X.je E) pins σ H s:=⟨I.ok.je E,I.os,I.bare,I.base,I.loc,I.cell,I.free,I.CP,I.pin,I.Cg,I.len⟩
theorem Inv.fZ(I:Inv (X.je E) pins σ H s):Inv X pins σ H s:=⟨I.ok.fZ,I.os,I.bare,I.base,I.loc,I.cell,I.free,I.CP,I.pin,I.Cg,I.len⟩
theorem SP.fZ(h:SP (X.je E) pins D f s'):SP X pins D f s':=by
 cases f with
 |ret u=>obtain⟨v,σ',H',I,r,q⟩:=h;exact⟨v,σ',H',I.fZ,r,q⟩
 |_=>obtain⟨σ',H',I,q⟩:=h;exact⟨σ',H',I.fZ,q⟩
theorem C9.G5{st:List RY}(h:C9 X.G5 st t):C9 X st t:=λpins s σ H D I hw =>
 Qb (h pins s σ H D (I.je _) hw) (λ_ _ q=>q.fZ) λ_ _ z=>Ri z
end
section
variable{X:Cx}{st:RY}{rest:List RY}{t u:TS}{e:PR}{te:TE}{pos:Pos}
def xD:TS:=λD σ H=>D.nx σ H
def BI(t u:TS):TS:=λD σ H=>t {D with nx:=u D} σ H
theorem vm:C9 X [] xD:=λ_ _ σ H _ I h=>UT ⟨σ,H,I,h⟩
theorem rP(h1:PS X st t)(h2:C9 X rest u):C9 X (st::rest) (BI t u):=by
 intro pins s σ H D I h;refine wpAny_execs_cons (Cm (h1 pins s σ H {D with nx:=u D} I h) λf s1 q=>?_);cases f with
 |next =>
  obtain⟨σ',H',I',q⟩:=q;exact h2 pins s1 σ' H' D I' q
 |_=>exact q
def yh:TS:=λD σ H=>D.bk σ H
def Ae:TS:=λD σ H=>D.ct σ H
theorem vn:PS X (.Pass pos) xD:=λ_ _ σ H _ I h=>wpAny_Pass ⟨σ,H,I,h⟩
theorem rQ:PS X (.Break pos) yh:=λ_ _ σ H _ I h=>wpAny_Break ⟨σ,H,I,h⟩
theorem lB:PS X (.Continue pos) Ae:=λ_ _ σ H _ I h=>wpAny_Continue ⟨σ,H,I,h⟩
theorem Inv.quiet(I:Inv X pins σ H s):interactive X.env=OR:=by simp[interactive,I.ok.kind]
def Af(te:TE):TS:=λD σ H=>te σ H λ_ H1=>D.nx σ H1
theorem gV(he:PE X e te)(hs:Sw e OQ pos.line X.env=pure OR:=by rfl):PS X (.Expr e pos) (Af te):=by
 intro pins s σ H D I h;exact wpAny_Expr_any (Cm (he pins s σ H _ I h) λv s1 ⟨x,H1,I1,r1,q1⟩=>⟨σ,H1,I1,q1⟩) I.quiet hs
def BJ(te:TE):TS:=λD σ H=>te σ H D.rt
theorem yi(he:PE X e te):PS X (.Return (Od e) pos) (BJ te):=by
 intro pins s σ H D I h;exact wpAny_Return_some (Cm (he pins s σ H _ I h) λv s1 ⟨x,H1,I1,r1,q1⟩=>⟨x,σ,H1,I1,r1,q1⟩)
def Ag:TS:=λD _ H=>D.rt .Ce H
theorem vo:PS X (.Return OQ pos) Ag:=λ_ _ σ H _ I h=>wpAny_Return_none ⟨.Ce,σ,H,I,rfl,h⟩
def BK(c:TT)(t u:TS):TS:=λD σ H=>c σ H λb H1=>if b=OP then t D σ H1 else u D σ H1
theorem Ah(hc:PT X c tc)(ha:C9 X a t)(hb:C9 X b u):PS X (.If c a b pos) (BK tc t u):=by
 intro pins s σ H D I h;refine wpAny_If (Cm (hc pins s σ H _ I h) λd s1 ⟨H1,I1,q1⟩=>?_);cases d with
 |true=>exact ha pins s1 σ H1 D I1 q1
 |false=>exact hb pins s1 σ H1 D I1 q1
end
abbrev TG:=V->St->Hp->(St->Hp->Prop)->Prop
abbrev G6:=List V->St->Hp->(St->Hp->Prop)->Prop
def PG(X:Cx)(target:PR)(t:TG):Prop :=
 ∀(pins:List (O8×Obj)) (s:O7) (σ:St) (H:Hp) (v:V) (u:OW) (Q:St->Hp->Prop),Inv X pins σ H s->RelV v u->t v σ H Q ->
  OZ (O9 X.prog X.w) X.A (SU target X.env u) (λ_ s'=>∃σ' H',Inv X pins σ' H' s'/\Q σ' H') X.xe s
def Ht(X:Cx)(ts:List PR)(t:G6):Prop :=
 ∀(pins:List (O8×Obj)) (s:O7) (σ:St) (H:Hp) (vs:List V) (us:List OW) (Q:St->Hp->Prop),Inv X pins σ H s->Vals vs us->t vs σ H Q ->
  OZ (O9 X.prog X.w) X.A (assignInOrder ((RK ts X.env).map (·.2)) us) (λ_ s'=>∃σ' H',Inv X pins σ' H' s'/\Q σ' H') X.xe s
abbrev Ai:=V->V->V->Hp->(Hp->Prop)->Prop
def jf(X:Cx)(t:Ai):Prop :=
 ∀(pins:List (O8×Obj)) (s:O7) (σ:St) (H:Hp) (o i v:V) (ov iv u:OW) (Q:Hp->Prop),Inv X pins σ H s->RelV o ov->RelV i iv->RelV v u->t o i v H Q ->
  OZ (O9 X.prog X.w) X.A (VL ov iv u) (λ_ s'=>∃H',Inv X pins σ H' s'/\Q H') X.xe s
section
def oN(i:Nat):TG:=λv σ H Q=>Q (σ.set i (Od v)) H
theorem oO(hN:X.N.Nodup)(hi:X.N[i]?=Od x)(hx:Loc X.env.scope x)(hf:X.fn x=OP\/X.env.scope.names.lookup x=Od .local:=by first|exact .inl rfl|exact .inr rfl|assumption):PG X (.Name x pos) (oN i):=by
 intro pins s σ H v u Q I r h;exact WM (lz I hN hi hx r (λs' I'=>⟨_,H,I',h⟩) hf)
def Aj:G6:=λvs σ H Q=>vs=[]/\Q σ H
def xE(t:TG)(u:G6):G6:=λvs σ H Q=>∃v r,vs=v::r/\t v σ H λσ' H'=>u r σ' H' Q
theorem vp:Ht X [] Aj:=by
 intro pins s σ H vs us Q I r h;obtain⟨e,h⟩:=h;subst e;cases r;exact assignInOrder_nil ⟨σ,H,I,h⟩
theorem rR(h1:PG X e t)(h2:Ht X es u)
  (hs:(RK (e::es) X.env).map (·.2)=SU e X.env::(RK es X.env).map (·.2):=by rfl):Ht X (e::es) (xE t u):=by
 intro pins s σ H vs us Q I r h;obtain⟨v,vr,e1,h⟩:=h;subst e1;cases r with
 |cons r rr =>
  rw[hs];refine assignInOrder_cons (Cm (h1 pins s σ H _ _ _ I r h) λ_ s1 ⟨σ1,H1,I1,q1⟩=>?_);exact h2 pins s1 σ1 H1 _ _ Q I1 rr q1
def BL(K:PySem.W.Frag)(n:Nat)(t:G6):TG:=λv σ H Q=>∃a xs,v=.ref a/\CB K H a xs/\xs.length=n/\t xs σ H Q
theorem yj(hc:X.calm=OP)(h:Ht X es t)
  (hn:(RK es X.env).length=n:=by rfl) (Cp:(RK es X.env).findIdx? (·.1)=OQ:=by rfl):PG X (.Tuple es k pos) (BL X.K n t):=by
 intro pins s σ H v u Q I r hw;obtain⟨a,xs,e1,hq,hl,hw⟩:=hw;subst e1;cases r;obtain⟨A',rv,ht,hz⟩:=I.tuple hq;refine assign_Tuple_tuple (I.ok.hd hc) ht (by simp[hn,<-hl,rv.length]) Cp λh' hx=>?_;have I1:Inv X pins σ H {s with heap:=h' }:=I.kept (t':=s.toks) λb o e=>hx b o (O' (O4 e)) e;exact h pins _ σ H xs _ Q I1 (by simpa using rv) hw
def BM(to ti:TE)(t:Ai):TG:=λv σ H Q=>to σ H λo H1=>ti σ H1 λi H2=>t o i v H2 λH3=>Q σ H3
theorem yk(ho:PE X o to)(hi:PE X i ti)(hs:jf X t)
  (ha:∀v,SU (.Subscript o i pos) X.env v=(do
   let ov <-RX [v] (QK o X.env)
   let iv <-RX [v,ov] (QK i X.env)
   U1 pos
   RX [v,ov,iv] (VL ov iv v)
   release [v,ov,iv] []):=by intro _;rfl):PG X (.Subscript o i pos) (BM to ti t):=by
 intro pins s σ H v u Q I r h;rw[ha];refine OO (P5 (Cm (ho pins s σ H _ I h) λov s1 ⟨x,H1,I1,r1,q1⟩=>?_));refine OO (P5 (Cm (hi pins s1 σ H1 _ I1 q1) λiv s2 ⟨y,H2,I2,r2,q2⟩=>?_));refine OO (Vp (OO (P5 (Cm (hs pins s2 σ H2 x y v ov iv u _ I2 r1 r2 r q2) λ_ s3 ⟨H3,I3,q3⟩=>?_))));exact wpAny_release ⟨σ,H3,I3,q3⟩
def yl(te:TE)(g:TG):TS:=λD σ H=>te σ H λx H1=>g x σ H1 D.nx
theorem rS(he:PE X e te)(hg:PG X tg g)(hs:SS [tg] e pos.line X.env=pure OR:=by rfl)(hw:Vs [tg] e X.env=pure OQ:=by rfl)
  (h1:(RK [tg] X.env).map (·.2)=[SU tg X.env]:=by rfl):PS X (.Assign [tg] e pos) (yl te g):=by
 intro pins s σ H D I h;refine wpAny_Assign_stores (Cm (he pins s σ H _ I h) λv s1 ⟨x,H1,I1,r1,q1⟩=>?_) hs hw;rw[h1];exact Cm (hg pins s1 σ H1 x v _ I1 r1 q1) λ_ s2 q=>q
theorem ym(hN:X.N.Nodup)(hi:X.N[i]?=Od x)(hx:Loc X.env.scope x)(he:PE X e te)(hs:Sw e (Od (.Name x pos')) pos.line X.env=pure OR:=by rfl)(hf:X.fn x=OP\/X.env.scope.names.lookup x=Od .local:=by first|exact .inl rfl|exact .inr rfl|assumption):
  PS X (.Assign [.Name x pos'] e pos) (yl te (oN i)):=by
 intro pins s σ H D I h;refine wpAny_Assign_Name (Cm (he pins s σ H _ I h) λv s1 ⟨y,H1,I1,r1,q1⟩=>?_) hs;exact lz I1 hN hi hx r1 (λs2 I2=>⟨_,H1,I2,q1⟩) hf
end
section
def yn(c:TT)(tb:TS):TS:=λD σ H=>∃W:Nat->St->Hp->Prop,(∃m,W m σ H)/\∀m σ H,W m σ H ->
 c σ H λb H1=>if b=OP then ∃N:St->Hp->Prop,(∀σ' H',N σ' H'->∃m',m'<m/\W m' σ' H')/\tb {D with nx:=N,ct:=N,bk:=D.nx} σ H1 else D.nx σ H1
theorem rT(hp:UN (O9 X.prog X.w) X.A X.env X.xe)(hc:PT X c tc)(hb:C9 X body tb):PS X (.While c body [] pos) (yn tc tb):=by
 intro pins s σ H D I h;obtain⟨W,⟨m0,w0⟩,turn⟩:=h;refine wpAny_While (codeAny_whileLoop (λn s'=>∃σ' H',Inv X pins σ' H' s'/\W n σ' H') ?_ m0 ⟨σ,H,I,w0⟩);rintro n s1 ⟨σ1,H1,I1,w1⟩;refine Rf hp (Cm (hc pins s1 σ1 H1 _ I1 (turn n σ1 H1 w1)) λb s2 ⟨H2,I2,q2⟩=>?_);cases b with
 |true =>
  obtain⟨N,hN,q2⟩:=q2;rw[XI rfl];refine Rf hp (Cm (hb pins s2 σ1 H2 _ I2 q2) λf s3 q3=>?_);cases f with
  |next =>
   obtain⟨σ3,H3,I3,n3⟩:=q3;obtain⟨m',hm,w3⟩:=hN σ3 H3 n3;exact⟨m',hm,σ3,H3,I3,w3⟩
  |cont =>
   obtain⟨σ3,H3,I3,n3⟩:=q3;obtain⟨m',hm,w3⟩:=hN σ3 H3 n3;exact⟨m',hm,σ3,H3,I3,w3⟩
  |_=>exact q3
 |false =>
  rw[XM Po];exact UT ⟨σ1,H2,I2,q2⟩
end
structure It where
 go:Nat->Hp->Prop
 IT:Nat->Hp->V->Hp->Prop
 stop:Nat->Hp->Prop
def fi(X:Cx)(pins:List (O8×Obj))(H:Hp)(b:O8):Prop :=
 H b=OQ/\b≠X.env.locals/\b∉X.fs/\(b∈X.ex\/X.s₀.heap.objs.size<=b)/\(∀x c,X.env.cells.lookup x=Od c->c≠b)/\∀p∈X.pn++pins,p.1≠b
theorem Inv.rU(I:Inv X pins σ H s)(hb:s.heap.objs.size<=b)(hn:H' b=OQ):fi X pins H' b:=by
 refine⟨hn,QN (Pb I.lt hb),I.z9 hb,.inr (Qv I.sz hb),λx c e z=>?_,λp hp z=>?_⟩
 ·obtain⟨v,q⟩:=I.cell x c e;exact absurd (Pb q.lt (by rw[z];exact hb)) (P0 _)
 ·exact absurd (Pb (O4 (I.pin p hp).1) (by rw[z];exact hb)) (P0 _)
structure Turn(P:PZ)(w:Qj)(K:PySem.W.Frag)(tg:PR)(J:It)(fp:List O8)(it:O8)(tn:Nat->QA->Prop):Prop where
 mem:it∈fp
 obj:∀i h,tn i h->∀b∈fp,∃o,h.get? b=Od o/\∀v,o.data≠.cell v
 keep:∀i h h',tn i h->(∀b∈fp,∀o,h.get? b=Od o->h'.get? b=Od o)->tn i h'
 item:∀(X:Cx),X.prog=P->X.w=w->X.K=K->X.calm=OP->∀(i:Nat) (pins:List (O8×Obj)) (s:O7) (σ:St) (H:Hp) (E:OW->O7->Prop),Inv X pins σ H s->(∀b∈fp,fi X pins H b)->tn i s.heap->J.go i H ->
  OZ (O9 P w) X.A (S9 (.ref it)) (λr s1=>∃u,r=Od u /\
   OZ (O9 P w) X.A (Ti tg (.ref it) u) (λ_ s2=>∃x H',Inv X pins σ H' s2/\RelV x u/\J.IT i H x H'/\tn (i+1) s2.heap/\∀b∈fp,H' b=OQ) E s1) E s
 done:∀(X:Cx),X.prog=P->X.w=w->X.K=K->X.calm=OP->∀(i:Nat) (pins:List (O8×Obj)) (s:O7) (σ:St) (H:Hp) (E:OW->O7->Prop),Inv X pins σ H s->(∀b∈fp,fi X pins H b)->tn i s.heap->J.stop i H ->
  OZ (O9 P w) X.A (S9 (.ref it)) (λr s1=>r=OQ/\Inv X pins σ H s1) E s
 self:∀(A:Ra) (i:Nat) (s:O7) (Q:OW->O7->Prop) (E:OW->O7->Prop),tn i s.heap->Q (.ref it) s->OZ (O9 P w) A (Vc (.ref it)) Q E s
abbrev TI:=St->Hp->(It->Hp->Prop)->Prop
def Lc(X:Cx)(pins:List (O8×Obj))(σ:St)(tg:PR)(R:It->Hp->Prop)(IU:OW)(s2:O7):Prop :=
 ∃(it:O8) (fp:List O8) (tn:Nat->QA->Prop) (J:It) (H':Hp),IU=.ref it/\Inv X pins σ H' s2/\Turn X.prog X.w X.K tg J fp it tn/\tn 0 s2.heap/\(∀b∈fp,fi X pins H' b)/\R J H'
def PI(X:Cx)(tg iter:PR)(wi:TI):Prop :=
 ∀(pins:List (O8×Obj)) (s:O7) (σ:St) (H:Hp) (R:It->Hp->Prop),Inv X pins σ H s->wi σ H R ->
  OZ (O9 X.prog X.w) X.A (QK iter X.env) (λv s1=>OZ (O9 X.prog X.w) X.A (Vc v) (Lc X pins σ tg R) X.xe s1) X.xe s
theorem rV(ho:s.heap.get? it=Od o)(hc:o.cls=.type n)(hd:o.data=.fields vs)
    (hn:["enumerate","zip","dict_itemiterator","dict_reverseitemiterator","odict_iterator","itertools.zip_longest","itertools.pairwise"].contains n=OR) (hQ:Q () s):OZ M A (Ti tg (.ref it) u) Q E s:=by
  unfold Ti;cases tg<;>first
    | exact OU hQ
    | (cases u<;>first
        | exact OU hQ
        | (refine OO (U_ ho ?_)
           rw[hc,hd];show OZ M A (if (["enumerate","zip","dict_itemiterator","dict_reverseitemiterator","odict_iterator","itertools.zip_longest","itertools.pairwise"].contains n&&vs[0]?==Od (P8 _))=OP then _ else _) Q E s;rw[XM (by intro h;rw[hn,S7]at h;cases h)];exact OU hQ))
def JN(K:PySem.W.Frag)(a:O8):It :=
 ⟨λi H=>∃xs x,CF K H a xs/\xs[i]?=Od x,λi H x H'=>H'=H/\∀xs,CF K H a xs->xs[i]?=Od x,λi H=>∃xs,CF K H a xs/\xs.length<=i⟩
def JO(K:PySem.W.Frag)(a:O8):It :=
 ⟨λi H=>∃xs x,CB K H a xs/\xs[i]?=Od x,λi H x H'=>H'=H/\∀xs,CB K H a xs->xs[i]?=Od x,λi H=>∃xs,CB K H a xs/\xs.length<=i⟩
def IV(lo:Int)(n:Nat):It:=⟨λi _=>i<n,λi H x H'=>H'=H/\x=.int (lo+i),λi _=>n<=i⟩
theorem qy{K:PySem.W.Frag}(a it:O8):Turn P w K tg (JN K a) [it] it (λi h=>h.IsListIter it a i) where
 mem:=by simp
 obj:=λi h st b hb=>by
  have e:b=it:=by simpa using hb
  subst e;obtain⟨o,e,c,d⟩:=st;exact⟨o,e,λv z=>by rw[d]at z;cases z⟩
 keep:=λi h h' st k=>st.at λo e=>k it (by simp) o e
 item:=by
  intro X hP hw hK hc i pins s σ H E I hf st hg;subst hP hw hK;obtain⟨xs,x,hq,hx⟩:=hg;obtain⟨A',rv,p,hz⟩:=I.list hq;obtain⟨u,hu,ru⟩:=rv.get hx;obtain⟨f0,f1,f2,f3,f4,f5⟩:=hf it (by simp);refine wpAny_pyNext_list_item st p.isList (x:=u) (by simpa using hu) λh' st' sb=>?_;have I1:Inv X pins σ H {s with heap:=h' }:=I.turned (t':=s.toks) (λb o hb e=>(sb.2 b hb).trans e) f0 f1 f3 f4 f5;obtain⟨o,e,c,d⟩:=id st';exact⟨u,rfl,rV (s:={s with heap:=h' }) e c d (by decide) ⟨x,H,I1,ru,⟨rfl,λys hy=>by rw[I.lA hy hq];exact hx⟩,st',λb hb=>(hf b hb).1⟩⟩
 done:=by
  intro X hP hw hK hc i pins s σ H E I hf st hg;subst hP hw hK;obtain⟨xs,hq,hx⟩:=hg;obtain⟨A',rv,p,hz⟩:=I.list hq;obtain⟨f0,f1,f2,f3,f4,f5⟩:=hf it (by simp);have hl:=rv.length;exact wpAny_pyNext_list_end (I.ok.hd hc) st p.isList (by simp;omega) λh' eb=>⟨rfl,I.turned (t':=s.toks) (λb o hb e=>eb b o hb e) f0 f1 f3 f4 f5⟩
 self:=λ_ _ _ _ _ st h=>wpAny_pyIter_listiter st h
theorem mY{K:PySem.W.Frag}(a it:O8):Turn P w K tg (JO K a) [it] it (λi h=>h.IsTupleIter it a i) where
 mem:=by simp
 obj:=λi h st b hb=>by
  have e:b=it:=by simpa using hb
  subst e;obtain⟨o,e,c,d⟩:=st;exact⟨o,e,λv z=>by rw[d]at z;cases z⟩
 keep:=λi h h' st k=>st.at λo e=>k it (by simp) o e
 item:=by
  intro X hP hw hK hc i pins s σ H E I hf st hg;subst hP hw hK;obtain⟨xs,x,hq,hx⟩:=hg;obtain⟨A',rv,p,hz⟩:=I.tuple hq;obtain⟨u,hu,ru⟩:=rv.get hx;obtain⟨f0,f1,f2,f3,f4,f5⟩:=hf it (by simp);refine wpAny_pyNext_tuple_item st (show s.heap.IsTuple a A'.toArray from p) (x:=u) (by simpa using hu) λh' st' sb=>?_;have I1:Inv X pins σ H {s with heap:=h' }:=I.turned (t':=s.toks) (λb o hb e=>(sb.2 b hb).trans e) f0 f1 f3 f4 f5;obtain⟨o,e,c,d⟩:=id st';exact⟨u,rfl,rV (s:={s with heap:=h' }) e c d (by decide) ⟨x,H,I1,ru,⟨rfl,λys hy=>by rw[I.jt hy hq];exact hx⟩,st',λb hb=>(hf b hb).1⟩⟩
 done:=by
  intro X hP hw hK hc i pins s σ H E I hf st hg;subst hP hw hK;obtain⟨xs,hq,hx⟩:=hg;obtain⟨A',rv,p,hz⟩:=I.tuple hq;obtain⟨f0,f1,f2,f3,f4,f5⟩:=hf it (by simp);have hl:=rv.length;exact wpAny_pyNext_tuple_end (I.ok.hd hc) st (show s.heap.IsTuple a A'.toArray from p) (by simp;omega) λh' eb=>⟨rfl,I.turned (t':=s.toks) (λb o hb e=>eb b o hb e) f0 f1 f3 f4 f5⟩
 self:=λ_ _ _ _ _ st h=>wpAny_pyIter_tupleiter st h
theorem mZ{K:PySem.W.Frag}(it:O8)(lo:Int)(n:Nat):Turn P w K tg (IV lo n) [it] it (λi h=>IsRangeIter h it (lo+(i:Nat) * 1) ((n:Int) - (i:Nat)) 1) where
 mem:=by simp
 obj:=λi h st b hb=>by
  have e:b=it:=by simpa using hb
  subst e;exact⟨_,st,λv z=>by
   have z':S4 _=UX v:=z;cases z'⟩
 keep:=λi h h' st k=>k it (by simp) _ st
 item:=by
  intro X hP hw hK hc i pins s σ H E I hf st hg;subst hP hw hK;obtain⟨f0,f1,f2,f3,f4,f5⟩:=hf it (by simp);have W:=Walks.range (prog:=X.prog) (w:=X.w) (I.ok.hd hc) it lo 1 n;refine W.item i s _ _ hg st λv h' tk hv st' kk=>?_;obtain⟨t,rfl⟩:=hv;have I1:Inv X pins σ H {s with heap:=h',toks:=tk}:=I.turned (λb o hb e=>kk b o (by simpa using hb) e) f0 f1 f3 f4 f5;refine⟨_,rfl,rV (s:={s with heap:=h',toks:=tk}) (n:="range_iterator") st' rfl rfl (by decide) ⟨.int (lo+i),H,I1,⟨t,?_⟩,⟨rfl,rfl⟩,st',λb hb=>(hf b hb).1⟩⟩;rw[Int.mul_one]
 done:=by
  intro X hP hw hK hc i pins s σ H E I hf st hg;subst hP hw hK;obtain⟨f0,f1,f2,f3,f4,f5⟩:=hf it (by simp);exact wpAny_pyNext_range_end (I.ok.hd hc) st (by have:n<=i:=hg;omega) λh' eb=>⟨rfl,I.turned (t':=s.toks) (λb o hb e=>eb b o hb e) f0 f1 f3 f4 f5⟩
 self:=λ_ _ _ _ _ st h=>wpAny_pyIter_rangeiter st h
section
def Ak(K:PySem.W.Frag)(tl:TE):TI:=λσ H R=>tl σ H λx H1=>∃a,x=.ref a/\(∃xs,CF K H1 a xs)/\R (JN K a) H1
def BN(K:PySem.W.Frag)(tl:TE):TI:=λσ H R=>tl σ H λx H1=>∃a,x=.ref a/\(∃xs,CB K H1 a xs)/\R (JO K a) H1
theorem vq(hl:PE X l tl):PI X tg l (Ak X.K tl):=by
 intro pins s σ H R I h;refine Cm (hl pins s σ H _ I h) λv s1 ⟨x,H1,I1,r1,q1⟩=>?_;obtain⟨a,e,⟨xs,hq⟩,q⟩:=q1;subst e;cases r1;obtain⟨A',rv,p,hz⟩:=I1.list hq;refine Ui p.isList ?_;refine⟨s1.heap.objs.size,[s1.heap.objs.size],_,_,H1,rfl,I1.kept (t':=s1.toks) λb o e=>OT _ e,qy a _,⟨_,O3 _ rfl,rfl,rfl⟩,λb hb=>?_,q⟩;have e:b=s1.heap.objs.size:=by simpa using hb
 subst e;exact I1.rU (O2 _) (I1.Cg.fresh (O2 _))
theorem yo(hl:PE X l tl):PI X tg l (BN X.K tl):=by
 intro pins s σ H R I h;refine Cm (hl pins s σ H _ I h) λv s1 ⟨x,H1,I1,r1,q1⟩=>?_;obtain⟨a,e,⟨xs,hq⟩,q⟩:=q1;subst e;cases r1;obtain⟨A',rv,p,hz⟩:=I1.tuple hq;refine RI (show s1.heap.IsTuple a A'.toArray from p) ?_;refine⟨s1.heap.objs.size,[s1.heap.objs.size],_,_,H1,rfl,I1.kept (t':=s1.toks) λb o e=>OT _ e,mY a _,⟨_,O3 _ rfl,rfl,rfl⟩,λb hb=>?_,q⟩;have e:b=s1.heap.objs.size:=by simpa using hb
 subst e;exact I1.rU (O2 _) (I1.Cg.fresh (O2 _))
theorem rW{lo hi:Int}(I:Inv X pins σ H s)(h1:-(2 ^ 62)<=lo)(h2:lo<2 ^ 62)(h3:-(2 ^ 62)<=hi)(h4:hi<2 ^ 62)
  (q:R (IV lo (hi - lo).toNat) H):OZ (O9 X.prog X.w) X.A (Vc (.ref s.heap.objs.size)) (Lc X pins σ tg R) E {s with heap:=s.heap.push {cls:=.type "range",data:=.fields #[.int lo t,.int hi u,.int 1 v]},toks:=tk}:=by
 refine wpAny_pyIter_range (IsRange.new ..) (small_one h1 h2 h3 h4) ?_;have I1:Inv X pins σ H {s with heap:=s.heap.push {cls:=.type "range",data:=.fields #[.int lo t,.int hi u,.int 1 v]},toks:=tk}:=I.kept λb o e=>OT _ e;refine⟨(s.heap.push {cls:=.type "range",data:=.fields #[.int lo t,.int hi u,.int 1 v]}).objs.size,[(s.heap.push {cls:=.type "range",data:=.fields #[.int lo t,.int hi u,.int 1 v]}).objs.size],_,_,H,rfl,
  I1.kept (t':=tk) λb o e=>OT _ e,mZ _ lo (hi - lo).toNat,?_,λb hb=>?_,q⟩
 ·have e1:lo+((0:Nat):Int) * 1=lo:=by simp
  have e2:(((hi - lo).toNat:Nat):Int) - ((0:Nat):Int)=Xc lo hi 1:=by rw[rangeSize_one];split<;>omega
  show IsRangeIter _ _ (lo+((0:Nat):Int) * 1) ((((hi - lo).toNat:Nat):Int) - ((0:Nat):Int)) 1;rw[e1,e2];exact O3 _ rfl
 ·have e:b=(s.heap.push {cls:=.type "range",data:=.fields #[.int lo t,.int hi u,.int 1 v]}).objs.size:=by simpa using hb
  subst e;exact I1.rU (O2 _) (I1.Cg.fresh (O2 _))
def Al(ta:TA):TI:=λσ H R=>ta σ H λvs H1=>∃j:Int,vs=[.int j]/\-(2 ^ 62)<=j/\j<2 ^ 62/\R (IV 0 j.toNat) H1
theorem qz(hg:Gl X "range")(hm:X.mg "range"=OQ)(ha:PA X [a] ta)(hs:Pj [a] X.env=[(OR,QK a X.env)]:=by rfl):PI X tg (.Call (.Name "range" p) [a] [] pos) (Al ta):=by
 intro pins s σ H R I h;refine Call_ (dv I hg hm boot_range (QV (Cm (ha pos pins s σ H _ I h) λus s1 ⟨vs,H1,I1,r1,q1⟩=>?_) hs rfl));obtain⟨j,e,q1,q2,q⟩:=q1;subst e;cases r1 with
 |cons r rr =>
  cases rr;obtain⟨t,rfl⟩:=r;exact call_range_1 (rW I1 ⋯ ⋯ q1 q2 (by simpa using q))
def BO(wi:TI)(g:TG)(tb:TS):TS:=λD σ H=>wi σ H λJ H1=>∃W:Nat->Nat->St->Hp->Prop,(∃m,W 0 m σ H1)/\∀i m σ H,W i m σ H ->
 (J.stop i H/\D.nx σ H)\/(J.go i H/\∃N:St->Hp->Prop,(∀σ' H',N σ' H'->∃m',m'<m/\W (i+1) m' σ' H')/\∀x H',J.IT i H x H'->g x σ H' λσ2 H2=>tb {D with nx:=N,ct:=N,bk:=D.nx} σ2 H2)
def hZ(fp:List O8)(h:QA):List (O8×Obj):=fp.filterMap λb=>(h.get? b).map λo=>(b,o)
theorem cY(hb:b∈fp)(e:h.get? b=Od o):(b,o)∈hZ fp h:=VE.mpr ⟨b,hb,by rw[e];rfl⟩
theorem qA(hp:p∈hZ fp h):p.1∈fp/\h.get? p.1=Od p.2:=by
 obtain⟨b,hb,e⟩:=VE.mp hp;cases q:h.get? b with
 |none=>rw[q]at e;cases e
 |some o =>
  rw[q]at e;have e':(b,o)=p:=PU e;subst e';exact⟨hb,q⟩
theorem Inv.pinned(I:Inv X pins σ H s)(hf:∀b∈fp,fi X pins H b)(ho:∀b∈fp,∃o,s.heap.get? b=Od o/\∀v,o.data≠.cell v):Inv X (pins++hZ fp s.heap) σ H s :=
 I.dU λp hp=>(Q9.mp hp).elim (λz=>I.pin p (PM _ z)) λz=>by
  obtain⟨hb,e⟩:=qA z;obtain⟨f0,f1,f2,_⟩:=hf p.1 hb;obtain⟨o,e',d⟩:=ho p.1 hb;rw[e]at e';cases e';exact⟨e,f0,f1,f2,d⟩
theorem Inv.h_(I:Inv X (pins++pl) σ H s):Inv X pins σ H s:=I.dU λp hp=>I.pin p (PM _ (Vn _ hp))
theorem yp(hp:UN (O9 X.prog X.w) X.A X.env X.xe)(hc:X.calm=OP)(hi:PI X tg iter wi)(hg:PG X tg g)(hb:C9 X body tb)
  (hs:∀x,QQ iter X.env x=pure x:=by intro _;rfl):PS X (.For tg iter body [] pos) (BO wi g tb):=by
 intro pins s σ H D I h;refine wpAny_For (Cm (hi pins s σ H _ I h) λv s1 h1=>Cm h1 λIU s2 h2=>?_) hs;obtain⟨it,fp,tn,J,H2,e,I2,T,st2,f2,W,⟨m0,w0⟩,turn⟩:=h2;subst e;have Gk:∀{H':Hp},(∀b∈fp,H' b=OQ)->∀b∈fp,fi X pins H' b:=λhn b hb=>⟨hn b hb,(f2 b hb).2⟩
 refine codeAny_forLoop_any (λn s'=>∃i σ' H',Inv X pins σ' H' s'/\tn i s'.heap/\(∀b∈fp,H' b=OQ)/\W i n σ' H') ?_ m0 ⟨0,σ,H2,I2,st2,λb hb=>(f2 b hb).1,w0⟩;rintro n s3 ⟨i,σ3,H3,I3,CY,Hu,w3⟩;rcases turn i n σ3 H3 w3 with⟨stop,qn⟩|⟨go,N,hN,V4⟩
 ·refine Rf hp (Cm (T.done X rfl rfl rfl hc i pins s3 σ3 H3 X.xe I3 (Gk Hu) CY stop) λr s4 ⟨hr,I4⟩=>?_);subst hr;exact UT ⟨σ3,H3,I4,qn⟩
 ·refine Rf hp (Cm (T.item X rfl rfl rfl hc i pins s3 σ3 H3 X.xe I3 (Gk Hu) CY go) λr s4 ⟨u,hr,h4⟩=>?_);subst hr;refine Rf hp (Cm h4 λ_ s5 ⟨x,H5,I5,r5,y5,FV,JP⟩=>?_);have JQ:=I5.pinned (Gk JP) (T.obj _ _ FV);refine Rf hp (Cm (hg _ s5 σ3 H5 x u _ JQ r5 (V4 x H5 y5)) λ_ s6 ⟨σ6,H6,I6,q6⟩=>?_);refine Rf hp (Cm (hb _ s6 σ6 H6 _ I6 q6) λf s7 q7=>?_);have V8:∀{σ7:St} {H7:Hp},Inv X (pins++hZ fp s5.heap) σ7 H7 s7->N σ7 H7->∃m,m<n/\∃i σ' H',Inv X pins σ' H' s7/\tn i s7.heap/\(∀b∈fp,H' b=OQ)/\W i m σ' H':=λ{σ7 H7} I7 n7=>by
   obtain⟨m',hm,w7⟩:=hN σ7 H7 n7;refine⟨m',hm,i+1,σ7,H7,I7.h_,T.keep _ _ _ FV λb hb o e=>(I7.pin (b,o) (PM _ (PM _ (cY hb e)))).1,λb hb=>?_,w7⟩;obtain⟨o,e,d⟩:=T.obj _ _ FV b hb;exact(I7.pin (b,o) (PM _ (PM _ (cY hb e)))).2.1
  cases f with
  |brk=>obtain⟨σ7,H7,I7,q7⟩:=q7;exact⟨σ7,H7,I7.h_,q7⟩
  |ret v=>obtain⟨x7,σ7,H7,I7,r7,q7⟩:=q7;exact⟨x7,σ7,H7,I7.h_,r7,q7⟩
  |_=>obtain⟨σ7,H7,I7,n7⟩:=q7;exact V8 I7 n7
end
abbrev R2:=V->V->Hp->VK->Prop
def Dn(X:Cx)(f:OW->OW->Sem OW)(r:R2):Prop :=
 ∀(pins:List (O8×Obj)) (s:O7) (σ:St) (H:Hp) (x y:V) (v u:OW) (Q:VK),Inv X pins σ H s->RelV x v->RelV y u->r x y H Q ->
  OZ (O9 X.prog X.w) X.A (f v u) (EP X pins σ Q) X.xe s
def eC(X:Cx)(f:OW)(r:List V->Hp->VK->Prop):Prop :=
 ∀(pins:List (O8×Obj)) (s:O7) (σ:St) (H:Hp) (xs:List V) (us:List OW) (Q:VK),Inv X pins σ H s->Vals xs us->r xs H Q ->
  OZ (O9 X.prog X.w) X.A (RC f us) (EP X pins σ Q) X.xe s
def BP(X:Cx)(r:V->Hp->(Bool->Hp->Prop)->Prop):Prop :=
 ∀(pins:List (O8×Obj)) (s:O7) (σ:St) (H:Hp) (x:V) (v:OW) (Q:Bool->Hp->Prop),Inv X pins σ H s->RelV x v->r x H Q ->
  OZ (O9 X.prog X.w) X.A (Ww v) (TP X pins σ Q) X.xe s
def rI(C:Int->Int->Prop)(g:Int->Int->V):R2:=λx y H Q=>∃i j,x=.int i/\y=.int j/\C i j/\Q (g i j) H
def FW(g:Int->Int->V):R2:=λx y H Q=>∃i j,x=.int i/\y=.int j/\Q (g i j) H
section
theorem IW{g:Int->Int->Int}
  (Xo:∀(i j:Int) (t u:Tok) (s:O7) (Q:OW->O7->Prop) (E:OW->O7->Prop),C i j->Q (.int (g i j) s.toks) {s with toks:=s.toks+1}->OZ (O9 X.prog X.w) X.A (f (.int i t) (.int j u)) Q E s) :
  Dn X f (rI C λi j=>.int (g i j)):=by
 intro pins s σ H x y v u Q I rx ry h;obtain⟨i,j,rfl,rfl,hc,q⟩:=h;obtain⟨t,rfl⟩:=rx;obtain⟨t',rfl⟩:=ry;exact Xo i j t t' s _ _ hc ⟨.int (g i j),H,I.tok _,⟨_,rfl⟩,q⟩
theorem Am{g:Int->Int->Int}
  (Xo:∀(i j:Int) (t u:Tok) (s:O7) (Q:OW->O7->Prop) (E:OW->O7->Prop),Q (.int (g i j) s.toks) {s with toks:=s.toks+1}->OZ (O9 X.prog X.w) X.A (f (.int i t) (.int j u)) Q E s) :
  Dn X f (FW λi j=>.int (g i j)):=by
 intro pins s σ H x y v u Q I rx ry h;obtain⟨i,j,rfl,rfl,q⟩:=h;obtain⟨t,rfl⟩:=rx;obtain⟨t',rfl⟩:=ry;exact Xo i j t t' s _ _ ⟨.int (g i j),H,I.tok _,⟨_,rfl⟩,q⟩
theorem vt{g:Int->Int->Bool}
  (Xo:∀(i j:Int) (t u:Tok) (s:O7) (Q:OW->O7->Prop) (E:OW->O7->Prop),Q (.bool (g i j)) s->OZ (O9 X.prog X.w) X.A (f (.int i t) (.int j u)) Q E s) :
  Dn X f (FW λi j=>.bl (g i j)):=by
 intro pins s σ H x y v u Q I rx ry h;obtain⟨i,j,rfl,rfl,q⟩:=h;obtain⟨t,rfl⟩:=rx;obtain⟨t',rfl⟩:=ry;exact Xo i j t t' s _ _ ⟨.bl (g i j),H,I,rfl,q⟩
def BQ(i j:Int):Prop:=0<j/\j<1073741824
def BR(i j:Int):Prop:=0<=j/\j<=1000000/\i.natAbs<2 ^ 64
def yq(i j:Int):Prop:=(-(2 ^ 64)<i/\i<2 ^ 64)\/(-(2 ^ 64)<j/\j<2 ^ 64)
theorem yq.ok(h:yq i j):IntMulOk i j:=by
 rcases h with⟨h1,h2⟩|⟨h1,h2⟩
 ·exact .of_left (intBits_le_64 h1 h2)
 ·exact .of_right (intBits_le_64 h1 h2)
theorem bj:Dn X (RG .Add) (FW λi j=>.int (i+j)):=Am λ_ _ _ _ _ _ _ q=>add_int q
theorem m6:Dn X (RG .Sub) (FW λi j=>.int (i - j)):=Am λ_ _ _ _ _ _ _ q=>sub_int q
theorem ia:Dn X (RG .Mult) (rI yq λi j=>.int (i * j)):=IW λ_ _ _ _ _ _ _ hc q=>mul_int q hc.ok
theorem vv:Dn X (RG .FloorDiv) (rI BQ λi j=>.int (i / j)):=IW λi j _ _ _ _ _ hc q=>by
 have h1:(0:Int)<j:=hc.1;have h2:j<1073741824:=hc.2;exact floordiv_int ⋯ (by rw[Int.fdiv_eq_ediv_of_nonneg i ⋯];exact q) (.inl (PyProof.noPylong_small ⋯))
theorem cM:Dn X (RG .Mod) (rI (λ_ j=>0<j) λi j=>.int (i % j)):=IW λi j _ _ _ _ _ hc q=>by
 have h1:(0:Int)<j:=hc;exact mod_int' ⋯ (by rw[Int.fmod_eq_emod_of_nonneg i ⋯];exact q)
theorem j7:Dn X (RG .Pow) (rI BR λi j=>.int (i ^ j.toNat)):=IW λ_ _ _ _ _ _ _ hc q=>pow_int_small hc.1 hc.2.1 hc.2.2 q
end
section
theorem j8(I:Inv X pins σ H s)(q:Q (.bl k) H)(e:k=k'):EP X pins σ Q (.bool k') s:=by
 subst e;exact⟨.bl k,H,I,rfl,q⟩
theorem An:Dn X (QC .Lt) (FW λi j=>.bl (OX (i<j))):=vt λ_ _ _ _ _ _ _ q=>lt_int q
theorem Ao:Dn X (QC .LtE) (FW λi j=>.bl (OX (i<=j))):=vt λ_ _ _ _ _ _ _ q=>le_int q
theorem Ap:Dn X (QC .Gt) (FW λi j=>.bl (OX (j<i))):=vt λ_ _ _ _ _ _ _ q=>gt_int q
theorem Aq:Dn X (QC .GtE) (FW λi j=>.bl (OX (j<=i))):=vt λ_ _ _ _ _ _ _ q=>ge_int q
theorem yr:Dn X (QC .Is) (λx y H Q=>y=.Ce/\Q (.bl (OX (x=.Ce))) H):=by
 intro pins s σ H x y v u Q I rx ry h;obtain⟨rfl,q⟩:=h;cases ry;refine is_none_gen (j8 I q ?_);cases x<;>first
  |(cases rx;rfl)
  |(obtain⟨t,rfl⟩:=rx;rfl)
theorem vA:Dn X (QC .IsNot) (λx y H Q=>y=.Ce/\Q (.bl (!OX (x=.Ce))) H):=by
 intro pins s σ H x y v u Q I rx ry h;obtain⟨rfl,q⟩:=h;cases ry;refine isnot_none_gen (j8 I q ?_);cases x<;>first
  |(cases rx;rfl)
  |(obtain⟨t,rfl⟩:=rx;rfl)
def Ar(K:PySem.W.Frag)(x:V)(H:Hp)(k:Bool):Prop :=
 match x with
 |.Ce=>k=OR
 |.bl b=>k=b
 |.int i=>k=(i != 0)
 |.str y=>y.length<=OV/\k=((y.length:Int) != 0)
 |.IJ y=>y.size<=OV/\k=((y.size:Int) != 0)
 |.ref p=>(∃xs,CF K H p xs/\k=!xs.isEmpty)\/(∃xs,CB K H p xs/\k=!xs.isEmpty)\/∃kvs,H p=Od (.dK kvs)/\k=!kvs.isEmpty
 |_=>False
theorem m7(r:KV kvs vs):(!vs.isEmpty)=!kvs.isEmpty:=by
 cases r<;>rfl
theorem ib(r:Vals xs A'):(!A'.toArray.isEmpty)=!xs.isEmpty:=by
 cases r<;>simp
theorem eQ:(OV:Nat)<2 ^ 63:=by rw[sizeLine_eq];decide
theorem yt:BP X (λx H Q=>∃k,Ar X.K x H k/\Q k H):=by
 intro pins s σ H x v Q I rx h;obtain⟨k,e,q⟩:=h;have hl:=eQ;have hs:OV=16777216:=sizeLine_eq;cases x with
 |Ce =>
  cases rx;have e':k=OR:=e;subst e';exact truthy_none ⟨H,I,q⟩
 |bl b =>
  cases rx;have e':k=b:=e;subst e';exact P_ ⟨H,I,q⟩
 |int i =>
  obtain⟨t,rfl⟩:=rx;have e':k=(i != 0):=e;subst e';exact PySem.P.truthy_int ⟨H,I,q⟩
 |str y =>
  obtain⟨t,rfl⟩:=rx;obtain⟨hy,e'⟩:y.length<=OV/\k=((y.length:Int) != 0):=e;subst e';exact PySem.P.truthy_str ⋯ ⟨H,I.tok _,q⟩
 |IJ y =>
  obtain⟨t,rfl⟩:=rx;obtain⟨hy,e'⟩:y.size<=OV/\k=((y.size:Int) != 0):=e;subst e';exact PySem.W.truthy_bytes ⋯ ⟨H,I.tok _,q⟩
 |ref p =>
  cases rx;have e':(∃xs,CF X.K H p xs/\k=!xs.isEmpty)\/(∃xs,CB X.K H p xs/\k=!xs.isEmpty)\/∃kvs,H p=Od (.dK kvs)/\k=!kvs.isEmpty:=e;rcases e' with⟨xs,hx,e'⟩|⟨xs,hx,e'⟩|⟨kvs,hx,e'⟩
  ·subst e';obtain⟨A',r,pl,hz⟩:=I.list hx;have hlen:=r.length;exact wpAny_truthy_list pl.isList (by simp only[O0];omega) ⟨H,I.tok _,by rw[ib r];exact q⟩
  ·subst e';obtain⟨A',r,pl,hz⟩:=I.tuple hx;have hlen:=r.length;exact truthy_tuple pl (by simp only[O0];omega) ⟨H,I.tok _,by rw[ib r];exact q⟩
  ·subst e';obtain⟨hz,hS,vs,r,m⟩:kvs.length<=OV/\(p==Qp)=OR/\∃vs,KV kvs vs/\s.heap.DictOf (aL X.prog X.w) p vs:=I.Cg p _ hx;have hlen:kvs.length=vs.length:=Paired.length r;exact wpAny_truthy_dict hS m ⋯ ⟨H,I.tok _,by rw[m7 r];exact q⟩
 |_=>exact(show False from e).elim
theorem rX(ha:PE X a ta)(he:∀whole,isTrue a X.env whole=(do let v <-whole;U1 a.pos;RX [v] (Ww v))):
  PT X a (λσ H Q=>ta σ H λx H'=>∃k,Ar X.K x H' k/\Q k H'):=by
 intro pins s σ H Q I h;exact isTrue_plain (Cm (ha pins s σ H _ I h) λv s1 ⟨x,H1,I1,r1,q1⟩=>yt pins s1 σ H1 x v Q I1 r1 q1) (he _)
theorem m8:Dn X (RG .Add) (λx y H Q=>∃i j,x=.str i/\y=.str j/\i.length+j.length<=OV/\Q (.str (i++j)) H):=by
 intro pins s σ H x y v u Q I rx ry h;obtain⟨i,j,rfl,rfl,hz,q⟩:=h;obtain⟨t,rfl⟩:=rx;obtain⟨t',rfl⟩:=ry;exact add_str (λt' tk=>⟨.str (i++j),H,I.tok _,⟨_,rfl⟩,q⟩) hz
theorem vals1(r:Vals [x] us):∃u,us=[u]/\RelV x u:=by
 cases r with
 |cons r1 r2=>cases r2;exact⟨_,rfl,r1⟩
theorem vals2(r:Vals [x,y] us):∃u w',us=[u,w']/\RelV x u/\RelV y w':=by
 cases r with
 |cons r1 r2 =>
  cases r2 with
  |cons r3 r4=>cases r4;exact⟨_,_,rfl,r1,r3⟩
theorem j9:eC X (.type "str") (λxs H Q=>∃i,xs=[.int i]/\i.natAbs.log2<1920/\Q (.str (Xn i)) H):=by
 intro pins s σ H xs us Q I r h;obtain⟨i,rfl,hz,q⟩:=h;obtain⟨u,rfl,t,rfl⟩:=vals1 r;exact PySem.P.str_of_int hz ⟨.str _,H,I.tok _,⟨_,rfl⟩,q⟩
end
section
end
theorem jd.some_of(r:jd (Od v) o):∃u,o=Od u/\RelV v u:=by
 cases o with
 |none=>exact(show False from r).elim
 |some u=>exact⟨u,rfl,r⟩
section
end
structure Md(K:PySem.W.Frag)(C:O8):Prop where
 pg:PySem.W.plainGet K C PL=OP
 hd:PySem.W.hasDictIn K C=OP
 po:PySem.W.plainOver K C=OP
 sa:PySem.W.findIn K (.ref C) "__setattr__"=Od (Od (.builtin "object.__setattr__"))
section
end
section
end
section
inductive ic(K:PySem.W.Frag)(H:Hp):V->OW->Prop where
 |Ce:ic K H .Ce (.type "NoneType")
 |bl (x:Bool):ic K H (.bl x) (.type "bool")
 |int (i:Int):ic K H (.int i) (.type "int")
 |str (x:Str):ic K H (.str x) (.type "str")
 |IK (x:UInt64):ic K H (.IK x) (.type "float")
 |lst {a:O8} {xs:List V} (e:H a=Od (.lst xs)):ic K H (.ref a) (.type "list")
 |Di {a:O8} {o:Obj} {xs:List V} (e:H a=Od (.Di o (.lst xs))):ic K H (.ref a) (.type "list")
 |tup {a:O8} {xs:List V} (e:H a=Od (.tup xs)):ic K H (.ref a) (.type "tuple")
 |dK {a:O8} {kvs:List (Key×V)} (e:H a=Od (.dK kvs)):ic K H (.ref a) (.type "dict")
 |dT {a:O8} {kvs:List (List Key×V)} (e:H a=Od (.dT kvs)):ic K H (.ref a) (.type "dict")
 |ins {a C dx:O8} {fs:List (Str×V)} (e:H a=Od (.ins C dx fs)) (cl:Md K C) (ha:PySem.W.findIn K (.ref C) "__class__"=Od (Od (.builtin "object.__class__")))
   (hn:PySem.W.specialIn K (.builtin "object.__class__") "__get__"=Od (Od (.builtin "getset_descriptor.__get__"))) (Mg:PySem.W.takesIn K (.builtin "object.__class__")=Od OP)
   (hm:PySem.W.mroIn K C (.type "object")=Od OP):ic K H (.ref a) (.ref C)
end
structure d_(k:Nat)(A:Ra):Prop where
 hd:A.handled=OQ
 dp:A.depth+3 * k+5<Xp
 un:A.units+16 * k+200<Qr
 gd:A.guards=Od []
theorem d_.deeper(r:d_ (k+1) A)(env:Env):d_ k (A.deeper env) :=
 ⟨r.hd,by have:=r.dp;show A.depth+1+3 * k+5 < _;omega,by have:=r.un;show A.units+3+16 * k+200 < _;omega,r.gd⟩
theorem d_.depth(r:d_ k A):A.depth<Xp:=by have:=r.dp;omega
def BS:TA:=λ_ H Q=>Q [] H
def As(ta:TE)(tr:TA):TA:=λσ H Q=>ta σ H λx H1=>tr σ H1 λxs H2=>Q (x::xs) H2
section
theorem ie:PA X [] BS:=λ_ _ _ _ H Q I h=>TL ⟨[],H,I,.nil,h⟩
theorem dW(ha:PE X e te)(hr:PA X es t)(hs:Pj (e::es) X.env=(OR,QK e X.env)::Pj es X.env:=by rfl):PA X (e::es) (As te t):=by
 intro pos pins s σ H Q I h;rw[hs];show OZ _ _ (WN ((OR,QK e X.env)::QP pos (Pj es X.env))) _ _ s;refine To (Cm (ha pins s σ H _ I h) λu s1 ⟨x,H1,I1,r1,q1⟩=>?_);exact Cm (hr pos pins s1 σ H1 _ I1 q1) λus s2 ⟨xs,H2,I2,r2,q2⟩=>⟨x::xs,H2,I2,.cons r1 r2,q2⟩
end
abbrev Sp:=List V->Hp->VK->XK->Prop
abbrev G7:=List Env->Hp->O7->XK->OW->O7->Prop
structure vB(P:PZ)(w:Qj)(K:PySem.W.Frag)(mg:Str->Option OW)(base:QA)(A:Ra)(outer:List Env)(s:O7)(H:Hp):Prop where
 frames:A.frames=Od outer
 mod:Mod K mg base
 bs:∀b o,base.get? b=Od o->s.heap.get? b=Od o/\H b=OQ
 FQ:base.objs.size<=s.heap.objs.size
 g_:s.heap.FunFrames base outer
 G3:∀b∈Eh outer,H b=OQ
 Cg:C3 P w H s.heap
 bare:Te s.gens
def CE(outer:List Env)(P:PZ)(w:Qj)(H:Hp)(s:O7)(Q:VK)(u:OW)(s':O7):Prop :=
 ∃v H',s'.os=s.os/\Te s'.gens/\Un (Eh outer) [] H H' s.heap s'.heap/\C3 P w H' s'.heap/\RelV v u/\Q v H'
def CR(CX:G7)(outer:List Env)(P:PZ)(w:Qj)(H:Hp)(s:O7)(Q:VK)(E:XK)(r:Result)(s':O7):Prop :=
 match r with
 |.ok (.ret u)=>CE outer P w H s Q u s'
 |.ok _=>False
 |.error e=>CX outer H s E e s'
structure ig(P:PZ)(w:Qj)(K:PySem.W.Frag)(mg:Str->Option OW)(base:QA)(CX:G7)(k:Nat)(f:O8)(fd:SG)(ps:List Str)(sp:Sp):Prop where
 len:∀vs H Q E,sp vs H Q E->vs.length=ps.length
 run:∀(A:Ra) (outer:List Env) (s:O7) (H:Hp) (args:Args) (us:List OW) (vs:List V) (Q:VK) (E:XK),d_ k A->vB P w K mg base A outer s H->VS s fd args (ps.zip us)->Vals vs us->sp vs H Q E ->
  Sa (O9 P w) A (.call (.ref f) args) (CR CX outer P w H s Q E) s
section
theorem Inv.BU(I:Inv X pins σ H s):vB X.prog X.w X.K X.mg X.base X.A X.stack s H :=
 ⟨I.ok.frames,I.ok.mod,I.bs,Qv I.ok.FQ I.sz,I.stack,I.oK,I.Cg,I.bare⟩
theorem Inv.after(I:Inv X pins σ H s)(h:CE X.stack X.prog X.w H s Q u s'):EP X pins σ Q u s':=by
 obtain⟨v,H',os,bare,un,Cg,r,q⟩:=h;obtain⟨hh,g,d,t,JR⟩:=s';obtain rfl:JR=s.os:=os;exact⟨v,H',I.call (h':=hh) (g':=g) (d':=d) (t':=t) (ch:=[]) un Cg bare (λb z=>absurd z (by simp)),r,q⟩
end
def Binds(K:PySem.W.Frag)(fd:SG)(ps:List Str)(ds:List OW):Prop :=
 ∀(s:O7) (us:List OW),K.In s.heap->(us++ds).length=ps.length->VS s fd ⟨us,[]⟩ (ps.zip (us++ds))
theorem Binds.all{K:PySem.W.Frag}(h:∀us:List OW,us.length=ps.length->V7 fd ⟨us,[]⟩=pure (ps.zip us)):Binds K fd ps []:=λs us _ hl=>by
 rw[Qn]at hl ⊢;exact .of_eq (h us hl)
def Passes(CX:G7)(X:Cx)(E:XK):Prop:=∀(pins:List (O8×Obj)) (σ:St) (H:Hp) (s:O7) (e:OW) (s':O7),Inv X pins σ H s->CX X.stack H s E e s'->X.xe e s'
section
theorem rY(F:ig X.prog X.w X.K X.mg X.base CX k f fd ps sp)(hr:d_ k X.A)(hb:Binds X.K fd ps ds)(hd:Vals JS ds)(hx:Passes CX X E)
  (I:Inv X pins σ H s) (r:Vals vs us) (h:sp (vs++JS) H Q E):OZ (O9 X.prog X.w) X.A (RC (.ref f) us) (EP X pins σ Q) X.xe s:=by
 have r2:Vals (vs++JS) (us++ds):=r.append hd;have hl:(us++ds).length=ps.length:=by rw[<-r2.length];exact F.len _ _ _ _ h
 refine wpAny_call (S_ (F.run X.A X.stack s H ⟨us,[]⟩ (us++ds) (vs++JS) Q E hr I.BU (hb s us I.Gh hl) r2 h) λr s' hq=>?_);cases r with
 |error e=>exact hx pins σ H s e s' I hq
 |ok fl =>
  cases fl with
  |ret u=>exact I.after hq
  |_=>exact Ri hq
end
section
end
structure cI(N P:List Str)(sc:Rg):Prop where
 kind:sc.kind=.function
 co:sc.isCoroutine=OR
 gen:sc.isGenerator=OR
 nd:N.Nodup
 pre:N.take P.length=P
 par:∀x∈P,sc.names.lookup x=Od .local\/sc.names.lookup x=Od .cell
 Gm:∀y∈sc.names,y.2≠.free
theorem ju{kindOf:Str->Option Ru}:∀{binds:List (Str×OW)}{m:Str->Option OW},(∀v,(x,v)∉binds)->VB kindOf binds m x=m x
 |[],_,_=>rfl
 |(n,v)::r,m,h=>by
  unfold VB;rw[ju λw hw=>h w (PV _ hw)];split
  ·have:x≠n:=by rintro rfl;exact h v PY
   simp[this]
  ·rfl
theorem jv{kindOf:Str->Option Ru}:∀{binds:List (Str×OW)}{m:Str->Option OW},(∀v,(x,v)∉binds)->VC kindOf binds m x=m x
 |[],_,_=>rfl
 |(n,v)::r,m,h=>by
  unfold VC;rw[jv λw hw=>h w (PV _ hw)];split
  ·rfl
  ·have:x≠n:=by rintro rfl;exact h v PY
   simp[this]
theorem jw{kindOf:Str->Option Ru}:∀{P:List Str}{vs:List OW}{i:Nat}{m:Str->Option OW},P.Nodup->P[i]?=Od x->vs[i]?=Od v->kindOf x=Od .local ->
  VB kindOf (P.zip vs) m x=Od v
 |[],_,_,_,_,h,_,_=>by simp at h
 |_::_,[],_,_,_,_,h,_=>by simp at h
 |p::P,w::vs,0,m,nd,h1,h2,hk=>by
  simp at h1 h2;subst h1;subst h2;show VB kindOf ((p,w)::P.zip vs) m p=_;unfold VB;rw[ju λv hv=>(Qe.mp nd).1 (Uc hv).1,XI hk];simp
 |p::P,w::vs,i+1,m,nd,h1,h2,hk=>by
  show VB kindOf ((p,w)::P.zip vs) m x=_;unfold VB;exact jw (i:=i) (Qe.mp nd).2 (by simpa using h1) (by simpa using h2) hk
theorem jx{kindOf:Str->Option Ru}:∀{P:List Str}{vs:List OW}{i:Nat}{m:Str->Option OW},P.Nodup->P[i]?=Od x->vs[i]?=Od v->kindOf x≠Od .local ->
  VC kindOf (P.zip vs) m x=Od v
 |[],_,_,_,_,h,_,_=>by simp at h
 |_::_,[],_,_,_,_,h,_=>by simp at h
 |p::P,w::vs,0,m,nd,h1,h2,hk=>by
  simp at h1 h2;subst h1;subst h2;show VC kindOf ((p,w)::P.zip vs) m p=_;unfold VC;rw[jv λv hv=>(Qe.mp nd).1 (Uc hv).1,XM hk];simp
 |p::P,w::vs,i+1,m,nd,h1,h2,hk=>by
  show VC kindOf ((p,w)::P.zip vs) m x=_;unfold VC;exact jx (i:=i) (Qe.mp nd).2 (by simpa using h1) (by simpa using h2) hk
def start(N:List Str)(vs:List V):St:=vs.map Od++Pc (N.length - vs.length) OQ
def lC(CX:G7)(P:PZ)(w:Qj)(K:PySem.W.Frag)(mg:Str->Option OW)(base:QA)(N:List Str)(qual:Str)(scope:Rg)(f:O8)(cd:OW)(A:Ra)(outer:List Env)(s:O7)(H:Hp)(E:XK):Cx where
 prog:=P
 w:=w
 K:=K
 mg:=mg
 base:=base
 A:=A.deeper (Td qual scope s.heap.objs.size f cd)
 N:=N
 s₀:=s
 H₀:=H
 env:=Td qual scope s.heap.objs.size f cd
 outer:=outer
 stack:=Td qual scope s.heap.objs.size f cd::outer
 ex:=[]
 calm:=OP
 fn:=λ_=>OP
 pn:=[]
 xe:=λe s'=>OZ (O9 P w) (A.deeper (Td qual scope s.heap.objs.size f cd)) (leaving (Td qual scope s.heap.objs.size f cd) e) (λ_ Hv=>CX outer H s E e Hv) (λe' Hv=>CX outer H s E e' Hv) s'
theorem lD{sc:Rg}(h:sc.names.lookup x=Od .cell):∃c,(W9 n sc.names []).lookup x=Od c:=by
 have q:=PySem.W.cellsFrom_some sc.names n [] (.inl h);exact UE.mp q
theorem qB{K:PySem.W.Frag}
  (S:cI N ps scope) (hd:A.handled=OQ) (e0:vB P w K mg base A outer s H) (hl:vs.length=ps.length) (r:Vals vs us)
  (x:InCallC s s.heap.objs.size (VB (Td qual scope s.heap.objs.size f cd).kindOf (ps.zip us) λ_=>OQ) (W9 (s.heap.objs.size+1) scope.names []) (VC (Td qual scope s.heap.objs.size f cd).kindOf (ps.zip us) λ_=>OQ) s1) :
  Inv (lC CX P w K mg base N qual scope f cd A outer s H E) [] (start N vs) H s1:=by
 have Dp:ps.length<=N.length:=by have:=congrArg S6 S.pre;rw[Qa]at this;omega
 obtain⟨h1,tk,rfl,hk⟩:=x.done;have Hw:∀b:O8,b∉(lC CX P w K mg base N qual scope f cd A outer s H E).ex:=λb z=>absurd (show b∈([]:List O8) from z) (by simp);refine⟨⟨e0.mod,S.kind,rfl,rfl,O2 _,λy z c h1 h2=>?_,λy hy=>?_,λy c _ h=>?_,λ_=>hd,Around.frames_deeper e0.frames,.inr ⟨rfl,rfl⟩,λb z=>absurd z (Hw b),e0.bs,e0.FQ,λb _ _=>Hw b,λb z=>absurd z (Hw b),e0.g_,e0.G3⟩,
  rfl,e0.bare,Un.kept hk,⟨_,x.toInCall.ns,λi y v h1 h2 h3=>?_⟩,λy c h=>⟨_,x.cell y c h⟩,e0.Cg.fresh (O2 _),λy c h=>?_,λp hp=>absurd (show p∈([]:List (O8×Obj)) from hp) (by simp),e0.Cg.kept hk,?_⟩
 ·exact name_of_addr x.apart (PySem.mem_of_lookup h1) (PySem.mem_of_lookup h2)
 ·have hy:scope.names.lookup y=Od .cell\/scope.names.lookup y=Od .free:=hy;rcases hy with hy|hy
  ·exact lD hy
  ·exact absurd rfl (S.Gm _ (PySem.mem_of_lookup hy))
 ·exact RM (x.above y c (PySem.mem_of_lookup h))
 ·have hi:i<vs.length:=by
   unfold start at h2;by_cases hi:i<vs.length
   ·exact hi
   ·rw[PB (by simpa using hi)]at h2;rw[Qy]at h2;split at h2<;>cases h2
  have ha:vs[i]?=Od v:=by
   unfold start at h2;rw[PX (by simpa using hi),Pa]at h2;cases e:vs[i]? with
   |none=>rw[e]at h2;cases h2
   |some a=>rw[e]at h2;cases h2;rfl
  obtain⟨u,hu,rv⟩:=r.get ha;have hp:ps[i]?=Od y:=by
   rw[<-S.pre,UR ⋯];exact h1
  have Le:ps.Nodup:=by rw[<-S.pre];exact S.nd.sublist (VW _ _)
  refine⟨u,rv,?_⟩;rcases S.par y (P' hp) with k|k
  ·exact .inl ⟨k,jw Le hp hu k⟩
  ·obtain⟨c,e⟩:=lD (n:=s.heap.objs.size+1) k;refine .inr ⟨.inl k,c,e,?_⟩;have q:=x.cell y c e;rw[jx Le hp hu (by show scope.names.lookup y≠_;rw[k];decide)]at q;exact q
 ·exact e0.Cg.fresh (RM (x.above y c (PySem.mem_of_lookup h)))
 ·unfold start;show _=N.length;rw[Pp,OY,RT];omega
theorem Au{K:PySem.W.Frag}{dV kV doc pm C_ ct oc:OW}
 (lk:K.lookup f=Od ⟨oc,od,.func (PySem.W.fnOf name qual params body scope dV kV doc pm an C_ ct),Hx⟩) (Dv:PySem.W.codeIn K C_ qual=OP) (S:cI N ps scope)
    (len:∀vs H Q E,sp vs H Q E->vs.length=ps.length)
    (EM:∀(A:Ra) (outer:List Env) (s:O7) (H:Hp) (vs:List V) (Q:VK) (E:XK),d_ k (A.deeper (Td qual scope s.heap.objs.size f C_))->sp vs H Q E ->
      ∃t,C9 (lC CX P w K mg base N qual scope f C_ A outer s H E) body t/\t {nx:=λ_ H'=>Q .Ce H',rt:=Q} (start N vs) H) :
    ig P w K mg base CX (k+1) f (PySem.W.fnOf name qual params body scope dV kV doc pm an C_ ct) ps sp:=by
  refine⟨len,λA outer s H args us vs Q E hr e0 hb r DY=>?_⟩;have hl:=len _ _ _ _ DY;have KX:K.In s.heap:=e0.mod.IM.keeps λb o e=>(e0.bs b o e).1;have lim:s.heap.NoLimit:=e0.mod.nolimit.keeps λb o e=>(e0.bs b o e).1;have Hy:∀y∈ps.zip us,scope.names.lookup y.1=Od .local\/(scope.names.lookup y.1=Od .cell/\((W9 (s.heap.objs.size+1) scope.names []).lookup y.1).isSome=OP):=λ⟨n,v⟩ hy=>by
    rcases S.par n (Uc hy).1 with q|q
    · exact .inl q
    · exact .inr ⟨q,PySem.W.cellsFrom_some _ _ _ (.inl q)⟩
  refine codeAny_call_function hr.depth (KX _ _ lk) rfl S.co S.gen rfl (PySem.W.codeRec_of KX Dv) (hb _ _ _ _ ?_);refine wpAny_newFunctionEnv_cells S.kind Hy λenv he s1 x=>?_;subst he;refine⟨lim.keeps x.toInCall.keep,codeAny_func ?_⟩;obtain⟨t,ht,hq⟩:=EM A outer s H vs Q E (hr.deeper _) DY;have I:Inv (lC CX P w K mg base N qual scope f C_ A outer s H E) [] (start N vs) H s1:=qB S hr.hd e0 hl r x;refine Qb (ht [] s1 (start N vs) H _ I hq) (λfl s' hs=>?_) λe s' hs=>hs;have fin:∀{σ':St} {H':Hp} {v:V} {u:OW},Inv (lC CX P w K mg base N qual scope f C_ A outer s H E) [] σ' H' s'->RelV v u->Q v H'->CE outer P w H s Q u s' :=
    λ{σ' H' v u} J rv q=>⟨v,H',J.os,J.bare,J.base,J.Cg,rv,q⟩
  cases fl with
  | ret u =>
    obtain⟨v,σ',H',J,rv,q⟩:=hs;exact fin J rv q
  | next =>
    obtain⟨σ',H',J,q⟩:=hs;exact fin (v:=V.Ce) (u:=Pu) J rfl q
  | brk =>
    obtain⟨_,_,_,q⟩:=hs;exact Ri q
  | cont =>
    obtain⟨_,_,_,q⟩:=hs;exact Ri q
section
end
end L2
namespace HT
open PySem PyProof.Rows
section
open PySem.SeqAt
open PySem.AutoSeq1 (wpAny_loadPart')
open PySem.MeetsSeq PySem.MeetsSeq2 PySem.MeetsSeq3
end
section
theorem vC(ht:Wf s.heap t vs.toArray)(hb:Wf s.heap b ws.toArray)(hv:vs≠[])
  (h1:ws=[]->Q (.ref t) s) (h2:ws≠[]->Q (.ref s.heap.objs.size) {s with heap:=s.heap.push {cls:=.type "tuple",data:=.seq (vs++ws).toArray}})
  (hsz:vs.length+ws.length<=OV):OZ (O9 prog w) A (RG .Add (.ref t) (.ref b)) Q E s:=by
 obtain⟨⟨cls,dd,data,sl⟩,ho,hc,n,hd⟩:=id ht;obtain⟨⟨Hz,G8,data2,G9⟩,Ei,FX,n2,hd2⟩:=id hb;simp only at hc hd FX hd2;subst hc hd FX hd2;have e:vs.toArray++ws.toArray=(vs++ws).toArray:=by simp
 by_cases hw:ws=[]
 ·exact Up ⟨_,ho,rfl⟩ ⟨_,Ei,rfl⟩ UM Vt PySem.F.slot_tuple_add PySem.F.entry_tuple_add (PySem.F.args_tuple_add_2 _ _)
   (tuple_addW1 t b vs.toArray ws.toArray n n2 dd G8 sl G9 (by simpa using hv) (by simp[hw])) ⟨ho,Ei,h1 hw⟩
 ·refine Up ⟨_,ho,rfl⟩ ⟨_,Ei,rfl⟩ UM Vt PySem.F.slot_tuple_add PySem.F.entry_tuple_add (PySem.F.args_tuple_add_2 _ _)
   (tuple_addW2 t b vs.toArray ws.toArray n n2 dd G8 sl G9 (by simpa using hv) (by simpa using hw) (by rw[O0,O0];exact hsz)) ⟨ho,Ei,?_⟩
  rw[e];exact h2 hw
def Cn(n d:Nat):Option Int->Nat
 |none=>d
 |some v=>if v<0 then(v+(n:Int)).toNat else min v.toNat n
theorem yu(n d:Nat)(hd:d<=n)(o:Option Int):Cn n d o<=n:=by
 cases o with
 |none=>exact hd
 |some v =>
  show(if v<0 then(v+(n:Int)).toNat else min v.toNat n)<=n;by_cases hv:v<0
  ·rw[XI hv];omega
  ·rw[XM hv];exact Nat.min_le_right _ _
theorem oP(v:Int)(n d:Nat):(if v<0 then max (v+(n:Int)) 0 else min v (n:Int))=((Cn n d (Od v):Nat):Int):=by
 show(if v<0 then max (v+(n:Int)) 0 else min v (n:Int))=(((if v<0 then(v+(n:Int)).toNat else min v.toNat n):Nat):Int)
 by_cases hv:v<0
 ·simp only[XI hv];omega
 ·simp only[XM hv];omega
theorem m9(lo hi:Option Int)(n:Nat):R0 lo hi 1 (n:Int)=(((Cn n 0 lo:Nat):Int),((Cn n n hi:Nat):Int)):=by
 have h1:¬((1:Int)<0):=by omega
 unfold R0;simp only[h1,XQ];refine Wr ?_ ?_
 ·cases lo with
  |none=>rfl
  |some v=>exact oP v n 0
 ·cases hi with
  |none=>rfl
  |some v=>exact oP v n n
theorem m_(i j:Nat):Q7 (i:Int) (j:Int) 1=j - i:=by
 unfold Q7;have h1:(1:Int)>0:=by omega
 simp only[h1,if_true,Int.ediv_one];split<;>omega
theorem ij(p:TK v o)(h:Q o s):OZ (O9 prog w) A (Xa v) Q E s:=by
 cases p with
 |none=>exact XE h
 |int i t=>exact slicePart_int h
theorem cP{lo hi:Option Int}{n:Nat}(hs:s.heap.IsSliceOf sl vl vu .none)(pl:TK vl lo)(pu:TK vu hi)
  (h:Q (((Cn n 0 lo:Nat):Int),1,Cn n n hi - Cn n 0 lo) s):OZ (O9 prog w) A (Tq (.ref sl) (pure (n:Int))) Q E s:=by
 obtain⟨os,EN,IX,HA⟩:=id hs;unfold Tq Xb;refine OO (OO (RO EN HA (x:=vl) rfl (OO (RO EN HA (x:=vu) rfl (OO (RO EN HA (x:=.none) rfl (OU ?_)))))));refine OO (XE ?_);show OZ _ _ (if ((1:Int)==0)=OP then _ else _) _ _ s;rw[XM (by decide)];refine OO (ij pl (OO (ij pu (OO (OU ?_)))));show OZ _ _ (match R0 lo hi 1 (n:Int) with|(lo,hi)=>pure (lo,(1:Int),Q7 lo hi 1)) _ _ s;rw[m9 lo hi n];show OZ _ _ (pure (((Cn n 0 lo:Nat):Int),(1:Int),Q7 ((Cn n 0 lo:Nat):Int) ((Cn n n hi:Nat):Int) 1)) _ _ s;rw[m_];exact OU h
theorem rZ(xs:Array OW)(i k:Nat):((Pl k).filterMap λ(m:Nat)=>xs[((i:Int)+(m:Int) * 1).toNat]?).toArray=((xs.toList.drop i).take k).toArray:=by
 have e:(λ(m:Nat)=>xs[((i:Int)+(m:Int) * 1).toNat]?)=λm=>xs[i+m]?:=by
  funext m
  have:((i:Int)+(m:Int) * 1).toNat=i+m:=by omega
  rw[this]
 rw[e];have:=pick_run xs i k;rw[List.filterMap_map]at this;have e2:((λx=>xs[x]?) ∘ λx=>i+x)=λm=>xs[i+m]?:=rfl;rw[e2]at this;rw[this]
theorem fj{lo hi:Option Int}(ht:Wf s.heap t items)(hs:s.heap.IsSliceOf sl vl vu .none)(pl:TK vl lo)(pu:TK vu hi)
  (hw:¬(Cn items.size 0 lo=0/\Cn items.size items.size hi=items.size))
  (h:Q (.ref s.heap.objs.size) {s with heap:=s.heap.push {cls:=.type "tuple",data:=.seq ((items.toList.drop (Cn items.size 0 lo)).take (Cn items.size items.size hi - Cn items.size 0 lo)).toArray}})
  (hsz:items.size<=OV):OZ (O9 prog w) A (TR (.ref t) (.ref sl)) Q E s:=by
 have Ej:sizeOk (.seq ((items.toList.drop (Cn items.size 0 lo)).take (Cn items.size items.size hi - Cn items.size 0 lo)).toArray):=by
  show((items.toList.drop (Cn items.size 0 lo)).take (Cn items.size items.size hi - Cn items.size 0 lo)).toArray.size<=OV;rw[O0,Qa,T7,Pq];omega
 have hj:Cn items.size items.size hi<=items.size:=yu _ _ (O2 _) hi;obtain⟨os,EN,IX,HA⟩:=id hs;have JT:s.TypeIs (.ref sl) "slice":=⟨os,EN,IX⟩
 unfold TR
 try with_reducible refine P5 ?_
 first|refine OO (OU ?_)|skip
 refine OO (WK ht.typeIs (by decide) ?_);refine OO (QB (name:=Rq "__getitem__") ht.typeIs PQ
  (P6 PQ ht.typeIs Wn ?_ (WC _ _)))
 show OZ _ _ (RS (.ref t) >>= _) _ _ s;refine OO (tupleItemsOf_ ht ?_);refine OO (Rx JT ?_);rw[XI (by decide)];refine OO (cP hs pl pu ?_);have JU:¬((((Cn items.size 0 lo:Nat):Int)==0&&(1:Int)==1&&(Cn items.size items.size hi - Cn items.size 0 lo)==items.size)=OP):=by
  intro q;rw[OS,OS]at q;have q1:((Cn items.size 0 lo:Nat):Int)=0:=VF q.1.1;have q2:Cn items.size items.size hi - Cn items.size 0 lo=items.size:=VF q.2;exact hw ⟨⋯,⋯⟩
 show OZ _ _ (if (((Cn items.size 0 lo:Nat):Int)==0&&(1:Int)==1&&(Cn items.size items.size hi - Cn items.size 0 lo)==items.size)=OP then _ else _) _ _ s;rw[XM JU,rZ]
 first
  |exact OO (m:=Qm _) (Pz (OU ⟨_,rfl,OU h⟩) Ej)
  |exact OO (m:=Qm _) (Pz (OO (OU (OU ⟨_,rfl,OU h⟩))) Ej)
  |exact OO (OO (m:=Qm _) (Pz (OU (OU ⟨_,rfl,OU h⟩)) Ej))
  |exact OO (OO (m:=Qm _) (Pz (OU ⟨_,rfl,OU h⟩) Ej))
end
end HT
namespace L2
open PySem PySem.Spec PyProof.Rows
abbrev TO:=St->Hp->(Option Int->Hp->Prop)->Prop
def PO(X:Cx)(e:Option PR)(t:TO):Prop :=
 ∀(pins:List (O8×Obj)) (s:O7) (σ:St) (H:Hp) (Q:Option Int->Hp->Prop),Inv X pins σ H s->t σ H Q ->
  OZ (O9 X.prog X.w) X.A (evalPart e X.env) (λu s'=>∃o H',Inv X pins σ H' s'/\TK u o/\Q o H') X.xe s
def vD:TO:=λ_ H Q=>Q OQ H
def Av(t:TE):TO:=λσ H Q=>t σ H λx H1=>∃i,x=.int i/\Q (Od i) H1
section
variable{X:Cx}{e:PR}{te:TE}{lo hi:Option PR}{tl th:TO}{pos p2:Pos}
theorem vE:PO X OQ vD:=by
 intro pins s σ H Q I h;rw[evalPart_none];exact OU ⟨OQ,H,I,.none,h⟩
theorem vF(h:PE X e te):PO X (Od e) (Av te):=by
 intro pins s σ H Q I hw;rw[evalPart_some];refine Cm (h pins s σ H _ I hw) λu s1 ⟨x,H1,I1,r1,q1⟩=>?_;obtain⟨i,rfl,q⟩:=q1;obtain⟨t,rfl⟩:=r1;exact⟨Od i,H1,I1,.int i t,q⟩
def Ff(X:Cx)(r:V->Option Int->Option Int->Hp->VK->Prop):Prop :=
 ∀(pins:List (O8×Obj)) (s:O7) (σ:St) (H:Hp) (x:V) (v vl vu:OW) (lo hi:Option Int) (sl:O8) (Q:VK),Inv X pins σ H s->RelV x v->s.heap.IsSliceOf sl vl vu .none->TK vl lo->TK vu hi->r x lo hi H Q ->
  ∃T id,U' (.type T) "__getitem__"=pure (Od (.builtin id))/\s.TypeIs v T/\OZ (O9 X.prog X.w) X.A (TR v (.ref sl)) (EP X pins σ Q) X.xe s
theorem Ff.or(h:Ff X r)(h':Ff X r'):Ff X (λx lo hi H Q=>r x lo hi H Q\/r' x lo hi H Q):=by
 intro pins s σ H x v vl vu lo hi sl Q I rx hs pl pu q;rcases q with q|q
 ·exact h pins s σ H x v vl vu lo hi sl Q I rx hs pl pu q
 ·exact h' pins s σ H x v vl vu lo hi sl Q I rx hs pl pu q
def Mh(r:V->Option Int->Option Int->Hp->VK->Prop)(te:TE)(tl th:TO):TE:=λσ H Q=>te σ H λx H1=>tl σ H1 λl H2=>th σ H2 λu H3=>r x l u H3 Q
theorem r9(hr:Ff X r)(he:PE X e te)(hl:PO X lo tl)(hu:PO X hi th):PE X (.Subscript e (.Slice lo hi OQ p2) pos) (Mh r te tl th):=by
 intro pins s σ H Q I h;refine Subscript_ (Cm (he pins s σ H _ I h) λv s1 ⟨x,H1,I1,r1,q1⟩=>?_);refine wpAny_Slice (Cm (hl pins s1 σ H1 _ I1 q1) λvl s2 ⟨l,H2,I2,pl,q2⟩=>Cm (hu pins s2 σ H2 _ I2 q2) λvu s3 ⟨u,H3,I3,pu,q3⟩=>?_);rw[evalPart_none];refine OU ?_;have I4:Inv X pins σ H3 {s3 with heap:=s3.heap.push {cls:=.type "slice",data:=.fields #[vl,vu,.none]}}:=I3.kept (t':=s3.toks) λb ob q=>OT _ q;obtain⟨T,id,hT,ht,hg⟩:=hr pins {s3 with heap:=s3.heap.push {cls:=.type "slice",data:=.fields #[vl,vu,.none]}} σ H3 x v vl vu l u s3.heap.objs.size Q I4 r1 (WY ..) pl pu q3;show OZ (O9 X.prog X.w) X.A (Vx e (.Slice lo hi OQ p2) v (.ref s3.heap.objs.size)) (EP X pins σ Q) X.xe {s3 with heap:=s3.heap.push {cls:=.type "slice",data:=.fields #[vl,vu,.none]}};exact XB (ops:=[.ref s3.heap.objs.size,v]) ht hT hg (by with_unfolding_all rfl)
def lE(xs:List V)(lo hi:Option Int):List V:=(xs.drop (HT.Cn xs.length 0 lo)).take (HT.Cn xs.length xs.length hi - HT.Cn xs.length 0 lo)
theorem gz(xs:List V)(lo hi:Option Int):(lE xs lo hi).length<=xs.length:=by
 unfold lE;rw[Qa,T7];omega
def Aw(K:PySem.W.Frag):V->Option Int->Option Int->Hp->VK->Prop:=λx lo hi H Q=>∃a xs,x=.ref a/\CB K H a xs /\
 ¬(HT.Cn xs.length 0 lo=0/\HT.Cn xs.length xs.length hi=xs.length)/\∀p,H p=OQ->Q (.ref p) (upd H p (.tup (lE xs lo hi)))
theorem yw:Ff X (Aw X.K):=by
 intro pins s σ H x v vl vu lo hi sl Q I rx hs pl pu h;obtain⟨a,xs,rfl,hx,hw,q⟩:=h;cases rx;obtain⟨A',r,ht,hz⟩:=I.tuple hx;have hlen:A'.toArray.size=xs.length:=by rw[O0];exact r.length.symm
 refine⟨"tuple",_,PQ.lookup,ht.typeIs,?_⟩;refine HT.fj ht hs pl pu (by rw[hlen];exact hw) ?_ (by rw[hlen];exact hz);rw[hlen];refine⟨.ref s.heap.objs.size,_,I.laid (t':=s.toks) (o:=.tup (lE xs lo hi)) (λb ob q=>OT _ q) (O2 _) ?_,rfl,q _ (I.Cg.fresh (O2 _))⟩;exact⟨Qv (gz xs lo hi) hz,_,(r.drop (HT.Cn xs.length 0 lo)).take (HT.Cn xs.length xs.length hi - HT.Cn xs.length 0 lo),T1 _ _⟩
def Ax(K:PySem.W.Frag):R2:=λx y H Q=>∃a b xs ys,x=.ref a/\y=.ref b/\CB K H a xs/\CB K H b ys/\xs≠[]/\xs.length+ys.length<=OV /\
 (ys=[]->Q (.ref a) H)/\(ys≠[]->∀p,H p=OQ->Q (.ref p) (upd H p (.tup (xs++ys))))
theorem Vals.j_(r:Vals xs us):us=[]↔xs=[]:=by
 cases r with
 |_=>simp
theorem vG:Dn X (RG .Add) (Ax X.K):=by
 intro pins s σ H x y v u Q I rx ry h;obtain⟨a,b,xs,ys,rfl,rfl,ha,hb,hx,hz,q1,q2⟩:=h;cases rx;cases ry;obtain⟨A',r1,p1,_⟩:=I.tuple ha;obtain⟨Cr,r2,p2,_⟩:=I.tuple hb;refine HT.vC p1 p2 (λz=>hx (r1.j_.mp z)) (λz=>⟨.ref a,H,I,rfl,q1 (r2.j_.mp z)⟩) (λz=>?_) (by rw[<-r1.length,<-r2.length];exact hz);refine⟨.ref s.heap.objs.size,_,I.laid (t':=s.toks) (o:=.tup (xs++ys)) (λb ob q=>OT _ q) (O2 _) ?_,rfl,q2 (λw=>z (r2.j_.mpr w)) _ (I.Cg.fresh (O2 _))⟩;exact⟨by rw[Pp];exact hz,_,r1.append r2,T1 _ _⟩
end
def Fu(n:Nat)(i:Int):Option Nat:=if 0<=i then(if i<n then Od i.toNat else OQ) else if -(n:Int)<=i then Od (i+n).toNat else OQ
def C4{α:Type}(xs:List α)(i:Int):Option α:=(Fu xs.length i).bind λj=>xs[j]?
theorem oQ{n:Nat}(h:Fu n i=Od j):UK i n=Od j/\j<n/\-(n:Int)<=i/\i<n:=by
 unfold Fu at h;by_cases h0:0<=i
 ·rw[XI h0]at h;by_cases h1:i<n
  ·rw[XI h1]at h;have e:i.toNat=j:=PU h;exact⟨by rw[V5 h0 h1,e],⋯,⋯,h1⟩
  ·rw[XM h1]at h;cases h
 ·rw[XM h0]at h;by_cases h1:-(n:Int)<=i
  ·rw[XI h1]at h;have e:(i+n).toNat=j:=PU h;exact⟨by rw[seqIndex_neg ⋯ h1,e],⋯,h1,⋯⟩
  ·rw[XM h1]at h;cases h
theorem ka(h:C4 xs i=Od v):∃j,UK i xs.length=Od j/\xs[j]?=Od v/\j<xs.length/\-(xs.length:Int)<=i/\i<xs.length:=by
 unfold C4 at h;cases e:Fu xs.length i with
 |none=>rw[e]at h;cases h
 |some j =>
  rw[e]at h;obtain⟨h1,h2,h3,h4⟩:=oQ e;exact⟨j,h1,h,h2,h3,h4⟩
theorem kb{j:Nat}(h:xs[j]?=Od v):C4 xs (j:Int)=Od v:=by
 have hj:j<xs.length:=(O6.mp h).1;have e:Fu xs.length (j:Int)=Od j:=by
  unfold Fu;rw[XI ⋯,XI ⋯];simp
 unfold C4;rw[e];exact h
def kf(b:PR):Prop:=∀o i,subscripted b OR o i=operate [o,i] (TR o i)
def JV(X:Cx)(r:R2):Prop :=
 ∀(value slice:PR) (pins:List (O8×Obj)) (s:O7) (σ:St) (H:Hp) (x y:V) (v u:OW) (Q:VK),Inv X pins σ H s->RelV x v->RelV y u->r x y H Q ->
  subscripted slice OR v u=operate [v,u] (TR v u)->OZ (O9 X.prog X.w) X.A (Vx value slice v u) (EP X pins σ Q) X.xe s
def IY(X:Cx)(id:String)(r:V->List V->Hp->VK->Prop):Prop :=
 ∀(pins:List (O8×Obj)) (s:O7) (σ:St) (H:Hp) (x:V) (xs:List V) (v:OW) (us:List OW) (Q:VK),Inv X pins σ H s->RelV x v->Vals xs us->r x xs H Q ->
  OZ (O9 X.prog X.w) X.A (RC (.builtin id) (v::us)) (EP X pins σ Q) X.xe s
section
def BV(K:PySem.W.Frag):R2:=λx y H Q=>∃p xs i v,x=.ref p/\y=.int i/\CF K H p xs/\C4 xs i=Od v/\Q v H
def BW(K:PySem.W.Frag):R2:=λx y H Q=>∃p xs i v,x=.ref p/\y=.int i/\CB K H p xs/\C4 xs i=Od v/\Q v H
def BX:R2:=λx y H Q=>∃z i c,x=.str z/\y=.int i/\z.length<=OV/\C4 z.cps.toList i=Od c/\Q (.str ⟨#[c]⟩) H
theorem vH:JV X (BV X.K):=by
 intro value slice pins s σ H x y v u Q I rx ry h hs;obtain⟨p,xs,i,z,rfl,rfl,hq,he,q⟩:=h;cases rx;obtain⟨t,rfl⟩:=ry;obtain⟨A',r,pl,hz⟩:=I.list hq;obtain⟨j,h1,h2,h3,h4,h5⟩:=ka he;obtain⟨w,ew,EO⟩:=r.get h2;have hl:=r.length;have hn:=eQ;have fin:EP X pins σ Q w s:=⟨z,H,I,EO,q⟩
 by_cases h0:0<=i
 ·have hj:i.toNat=j:=by
   rw[V5 h0 h5]at h1;exact PU h1
  exact item_listR pl.isList h0 ⋯ (by rw[hj];simpa using ew) fin hs
 ·have hj:(i+(A'.toArray.size:Int)).toNat=j:=by
   rw[seqIndex_neg ⋯ h4]at h1;rw[O0,<-hl];exact PU h1
  exact VT (x:=w) pl.isList.typeIs WO.lookup
   (wpAny_getItem_list_neg (Q:=λr s'=>r=w/\EP X pins σ Q r s') pl.isList ⋯ (by rw[O0]<;>omega) ⋯ (by rw[hj];simpa using ew) ⟨rfl,fin⟩) hs
theorem ng:JV X (BW X.K):=by
 intro value slice pins s σ H x y v u Q I rx ry h hs;obtain⟨p,xs,i,z,rfl,rfl,hq,he,q⟩:=h;cases rx;obtain⟨t,rfl⟩:=ry;obtain⟨A',r,pl,hz⟩:=I.tuple hq;obtain⟨j,h1,h2,h3,h4,h5⟩:=ka he;obtain⟨w,ew,EO⟩:=r.get h2;have hl:=r.length;have hn:=eQ;have fin:EP X pins σ Q w s:=⟨z,H,I,EO,q⟩
 exact VT (x:=w) pl.typeIs PQ.lookup
  (getItem_tuple (j:=j) (Q:=λr s'=>r=w/\EP X pins σ Q r s') pl ⋯ ⋯ (by rw[O0,<-hl];exact h1) (by simpa using ew) ⟨rfl,fin⟩) hs
theorem kg:JV X BX:=by
 intro value slice pins s σ H x y v u Q I rx ry h hs;obtain⟨z,i,c,rfl,rfl,hz,he,q⟩:=h;obtain⟨t,rfl⟩:=rx;obtain⟨t',rfl⟩:=ry;obtain⟨j,h1,h2,h3,h4,h5⟩:=ka he;have hl:z.cps.toList.length=z.length:=by simp[Xz]
 rw[hl]at h1 h4 h5;have hn:=eQ;exact XB (SD s z t) Xe.lookup (getItem_str (c:=c) (by
  have e1:OX (i < -(2 ^ 63:Int))=OR:=XN ⋯;have e2:OX (i >= 2 ^ 63)=OR:=XN ⋯;rw[e1,e2,Rw]) (by rw[h1];simpa using h2) ⟨.str ⟨#[c]⟩,H,I.tok _,⟨_,rfl⟩,q⟩) hs
theorem nh(A':List OW)(n j:Nat)(u:OW):Py (·.setIfInBounds j u) {cls:=.type "list",data:=.seq A'.toArray n}={cls:=.type "list",data:=.seq (A'.set j u).toArray n}:=by
 simp[Py]
theorem Inv.lst(I:Inv X pins σ H s)(h:H p=Od (.lst xs)):
  ∃(A':List OW) (n:Nat),Vals xs A'/\s.heap.get? p=Od {cls:=.type "list",data:=.seq A'.toArray n}/\xs.length<=OV:=by
 obtain⟨z,A',n,r,e⟩:=I.Cg p _ h;exact⟨A',n,r,e,z⟩
theorem Inv.yx{A' its':List OW}(I:Inv X pins σ H s)(h:H p=Od (.lst xs))
  (ho:s.heap.get? p=Od {cls:=.type "list",data:=.seq A'.toArray n}) (hf:f {cls:=.type "list",data:=.seq A'.toArray n}={cls:=.type "list",data:=.seq its'.toArray n' }) (r:Vals ys its') (hz:ys.length<=OV) (t:Nat) :
  Inv X pins σ (upd H p (.lst ys)) {s with heap:=s.heap.update p f,toks:=t}:=by
 have e:(s.heap.update p f).get? p=Od {cls:=.type "list",data:=.seq its'.toArray n' }:=by
  rw[P2 f ho (by rw[hf]<;>rfl),hf]
 refine I.write (x:=p) (e:=p) (by rw[h];trivial) (.inl rfl) (λb u hb q=>(QZ _ _ (Qs hb)).trans q) ⟨_,e⟩ ?_;exact⟨hz,its',n',r,e⟩
def Ay:V->V->V->Hp->(Hp->Prop)->Prop:=λo i v H Q=>∃p xs k j,o=.ref p/\i=.int k/\H p=Od (.lst xs)/\Fu xs.length k=Od j/\Q (upd H p (.lst (xs.set j v)))
theorem set_list:jf X Ay:=by
 intro pins s σ H o i v ov iv u Q I ro ri rv h;obtain⟨p,xs,k,j,rfl,rfl,hp,hj,q⟩:=h;cases ro;obtain⟨t,rfl⟩:=ri;obtain⟨A',n,r,ho,hz⟩:=I.lst hp;obtain⟨h1,h2,h3,h4⟩:=oQ hj;have hl:=r.length;have hn:=eQ;have I':Inv X pins σ (upd H p (.lst (xs.set j v))) {s with heap:=s.heap.update p (Py (·.setIfInBounds j u))} :=
  I.yx hp ho (nh A' n j u) (r.set rv j) (by rw[Wj];exact hz) s.toks
 by_cases h0:0<=k
 ·have hk:k.toNat=j:=by
   rw[V5 h0 h4]at h1;exact PU h1
  exact PySem.W.ki_setAt ho h0 ⋯ (by rw[O0,<-hl];exact h4) (by rw[hk];exact⟨_,I',q⟩)
 ·have hk:(k+(A'.toArray.size:Int)).toNat=j:=by
   rw[seqIndex_neg ⋯ h3]at h1;rw[O0,<-hl];exact PU h1
  exact PySem.W.ki_setBack ho ⋯ (by rw[O0,<-hl];exact h3) ⋯ (by rw[hk];exact⟨_,I',q⟩)
theorem kh(lo hi:Option Int)(n:Nat):(Sf lo hi OQ n).1=((HT.Cn n 0 lo:Nat):Int)/\(Sf lo hi OQ n).2.1=((HT.Cn n n hi:Nat):Int)/\(Sf lo hi OQ n).2.2=1:=by
 refine⟨?_,?_,rfl⟩
 ·cases lo with
  |none=>simp[Sf,HT.Cn]
  |some i =>
   simp only[Sf,HT.Cn,TU,show(1:Int)>0 by decide,if_true];by_cases h:i<0
   ·simp only[h,if_true]<;>omega
   ·simp only[h,XQ]<;>omega
 ·cases hi with
  |none=>simp[Sf,HT.Cn]
  |some i =>
   simp only[Sf,HT.Cn,TU,show(1:Int)>0 by decide,if_true];by_cases h:i<0
   ·simp only[h,if_true]<;>omega
   ·simp only[h,XQ]<;>omega
theorem jg(A':List OW)(lo hi:Option Int):slicePick A'.toArray lo hi OQ=((A'.drop (HT.Cn A'.length 0 lo)).take (HT.Cn A'.length A'.length hi - HT.Cn A'.length 0 lo)).toArray:=by
 obtain⟨h1,h2,h3⟩:=kh lo hi A'.toArray.size;unfold slicePick;rw[h1,h2,h3];simp only[sliceRange_one,pick_run,O0]<;>rfl
def Az(K:PySem.W.Frag):V->Option Int->Option Int->Hp->VK->Prop:=λx lo hi H Q=>∃a xs,x=.ref a/\CF K H a xs/\∀p,H p=OQ->Q (.ref p) (upd H p (.lst (lE xs lo hi)))
theorem vI:Ff X (Az X.K):=by
 intro pins s σ H x v vl vu lo hi sl Q I rx hs pl pu h;obtain⟨a,xs,rfl,hx,q⟩:=h;cases rx;obtain⟨A',r,ht,hz⟩:=I.list hx;have hlen:=r.length;refine⟨"list",_,WO.lookup,ht.isList.typeIs,?_⟩;refine wpAny_getItem_list_slice ht.isList hs pl pu .none (by simp) ?_ (by rw[O0]<;>omega);rw[jg,<-hlen];refine⟨.ref s.heap.objs.size,_,I.laid (t':=s.toks) (o:=.lst (lE xs lo hi)) (λb ob q=>OT _ q) (O2 _) ?_,rfl,q _ (I.Cg.fresh (O2 _))⟩;exact⟨Qv (gz xs lo hi) hz,_,0,(r.drop (HT.Cn xs.length 0 lo)).take (HT.Cn xs.length xs.length hi - HT.Cn xs.length 0 lo),O3 _ rfl⟩
theorem fk:eC X (.builtin "len") (λxs H Q=>∃p ys,xs=[.ref p]/\(CF X.K H p ys\/CB X.K H p ys)/\Q (.int ys.length) H):=by
 intro pins s σ H xs us Q I r h;obtain⟨p,ys,rfl,hq,q⟩:=h;obtain⟨u,rfl,rx⟩:=vals1 r;cases rx;have hn:=eQ;rcases hq with hq|hq
 ·obtain⟨A',r',pl,hz⟩:=I.list hq;have hlen:=r'.length;exact Calls.call_len_list pl.isList (by simp only[O0]<;>omega) ⟨.int ys.length,H,I.tok _,⟨s.toks+1,by rw[O0,hlen]⟩,q⟩
 ·obtain⟨A',r',pl,hz⟩:=I.tuple hq;have hlen:=r'.length;exact len_tuple pl (by simp only[O0]<;>omega) ⟨.int ys.length,H,I.tok _,⟨s.toks+1,by rw[O0,hlen]⟩,q⟩
theorem kl:eC X (.builtin "len") (λxs H Q=>∃z,xs=[.str z]/\z.length<=OV/\Q (.int z.length) H):=by
 intro pins s σ H xs us Q I r h;obtain⟨z,rfl,hz,q⟩:=h;obtain⟨u,rfl,t,rfl⟩:=vals1 r;have hn:=eQ;exact len_str ⋯ ⟨.int z.length,H,I.tok _,⟨_,rfl⟩,q⟩
theorem fm:eC X (.type "list") (λxs H Q=>∃p ys,xs=[.ref p]/\(CF X.K H p ys\/CB X.K H p ys)/\∀l,H l=OQ->Q (.ref l) (upd H l (.lst ys))):=by
 intro pins s σ H xs us Q I r h;obtain⟨p,ys,rfl,hq,q⟩:=h;obtain⟨u,rfl,rx⟩:=vals1 r;cases rx;have fin:∀(A':List OW),Vals ys A'->ys.length<=OV->∀(h':QA) (c':Nat),(∀b o',s.heap.get? b=Od o'->h'.get? b=Od o') ->
   h'.get? s.heap.objs.size=Od {cls:=.type "list",dict:=OQ,data:=.seq A'.toArray c',slots:=#[]}->EP X pins σ Q (.ref s.heap.objs.size) {s with heap:=h' }:=λA' r' hz h' c' kp e =>
  ⟨.ref s.heap.objs.size,_,I.laid (t':=s.toks) kp (O2 _) (show aW X.prog X.w _ h' _ (.lst ys) from⟨hz,A',c',r',e⟩),rfl,q _ (I.Cg.fresh (O2 _))⟩
 rcases hq with hq|hq
 ·obtain⟨A',r',pl,hz⟩:=I.list hq;have hlen:=r'.length;obtain⟨o,ho,hc,n,hd⟩:=pl.isList;exact call_list_seq p (.inl rfl) ho hc hd (λh' c' kp e=>fin A' r' hz h' c' kp e) (by simp only[O0]<;>omega)
 ·obtain⟨A',r',pl,hz⟩:=I.tuple hq;have hlen:=r'.length;obtain⟨o,ho,hc,n,hd⟩:=pl;exact call_list_seq p (.inr rfl) ho hc hd (λh' c' kp e=>fin A' r' hz h' c' kp e) (by simp only[O0]<;>omega)
theorem eD:eC X (.type "tuple") (λxs H Q=>∃p ys,xs=[.ref p]/\((CF X.K H p ys/\∀l,H l=OQ->Q (.ref l) (upd H l (.tup ys)))\/(CB X.K H p ys/\Q (.ref p) H))):=by
 intro pins s σ H xs us Q I r h;obtain⟨p,ys,rfl,h⟩:=h;obtain⟨u,rfl,rx⟩:=vals1 r;cases rx;rcases h with⟨hq,q⟩|⟨hq,q⟩
 ·obtain⟨A',r',pl,hz⟩:=I.list hq;have hlen:=r'.length;refine call_tuple_list pl.isList (λh' kp=>?_) (by simp only[O0]<;>omega);have I1:Inv X pins σ H {s with heap:=h' }:=I.kept (t':=s.toks) kp;have I2:Inv X pins σ (upd H h'.objs.size (.tup ys)) {s with heap:=h'.push {cls:=.type "tuple",data:=.seq A'.toArray}} :=
   I1.laid (t':=s.toks) (λb o e=>OT _ e) (O2 _) (show aW X.prog X.w _ _ _ (.tup ys) from⟨hz,A',r',T1 _ _⟩)
  exact⟨.ref h'.objs.size,_,I2,rfl,q _ (I1.Cg.fresh (O2 _))⟩
 ·obtain⟨A',r',pl,hz⟩:=I.tuple hq;exact call_tuple_same pl ⟨.ref p,H,I,rfl,q⟩
def IZ(K:PySem.W.Frag)(T:String)(x:V)(H:Hp):Prop:=match x with
 |.str _=>T="str"
 |.int _=>T="int"
 |.ref p=>(T="list"/\∃xs,CF K H p xs)\/(T="tuple"/\∃o,K.lookup p=Od o/\o.cls=.type "tuple"/\o.dict=OQ) \/
   (T="dict"/\((∃kvs,H p=Od (.dK kvs))\/∃kvs,H p=Od (.dT kvs)))\/(T="set"/\∃S n,H p=Od (.set S n))
 |_=>False
theorem ni(I:Inv X pins σ H s)(r:RelV x v)(ty:IZ X.K T x H):
  s.TypeIs v T/\∀a,v=.ref a->∃ob,s.heap.get? a=Od ob/\ob.dict=OQ:=by
 cases x with
 |str z =>
  obtain⟨t,rfl⟩:=r;cases(show T="str" from ty);exact⟨SD s z t,λ_ e=>nomatch e⟩
 |int i =>
  obtain⟨t,rfl⟩:=r;cases(show T="int" from ty);exact⟨typeIs_int s i t,λ_ e=>nomatch e⟩
 |ref p =>
  cases r;rcases ty with⟨rfl,xs,hq⟩|⟨rfl,o,hk,hc,hd⟩|⟨rfl,hk⟩|⟨rfl,S,n,hk⟩
  ·obtain⟨A',_,pl,_⟩:=I.list hq;refine⟨pl.isList.typeIs,λa e=>?_⟩;cases e;obtain⟨o,n,e,c,hd,_⟩:=pl;exact⟨o,e,hd⟩
  ·refine⟨⟨o,I.Gh p o hk,hc⟩,λa e=>?_⟩;cases e;exact⟨o,I.Gh _ o hk,hd⟩
  ·have z:∃o,s.heap.get? p=Od o/\o.ExactDict:=by
    rcases hk with⟨kvs,hk⟩|⟨kvs,hk⟩
    ·obtain⟨_,_,_,_,o,_,_,e,ex,_⟩:=I.Cg p _ hk;exact⟨o,e,ex⟩
    ·obtain⟨_,_,_,_,o,_,_,e,ex,_⟩:=I.Cg p _ hk;exact⟨o,e,ex⟩
   obtain⟨o,e,ex⟩:=z;refine⟨⟨o,e,ex.1⟩,λa e2=>?_⟩;cases e2;exact⟨o,e,ex.2.1⟩
  ·obtain⟨o,_,_,_,e,ex,_⟩:=I.Cg p _ hk;refine⟨⟨o,e,ex.1⟩,λa e2=>?_⟩;cases e2;exact⟨o,e,ex.2.1⟩
 |_=>exact Ri ty
def BY(K:PySem.W.Frag)(T:String)(r:V->List V->Hp->VK->Prop)(to:TE):TE:=λσ H Q=>to σ H λx H1=>IZ K T x H1/\r x [] H1 Q
def Mi(K:PySem.W.Frag)(T:String)(r:V->List V->Hp->VK->Prop)(to:TE)(t:TA):TE:=λσ H Q=>to σ H λx H1=>IZ K T x H1/\t σ H1 λxs H2=>r x xs H2 Q
variable{o e:PR}{es:List PR}{to:TE}{t:TA}{name:Str}{apos Cc:Pos}{T id:String}{r:V->List V->Hp->VK->Prop}
theorem r_(pa:PlainAttrs T)(slot:Slot T name id)(HB:VI (.builtin id)=pure (.type "method_descriptor"))(hm:IY X id r)(ho:PE X o to)
  (C5:Sb o name X.env (QK o X.env)=QK o X.env:=by rfl) (Cs:(apos.endLine==Cc.line)=OP:=by rfl):PE X (.Call (.Attribute o name apos) [] [] Cc) (BY X.K T r to):=by
 intro pins s σ H Q I h;refine Vy C5 Cs (Cm (ho pins s σ H _ I h) λv s1 ⟨x,H1,I1,r1,ty,q1⟩=>?_);obtain⟨h1,h2⟩:=ni I1 r1 ty;exact⟨T,id,pa,slot,HB,h1,h2,QY rfl (PySem.evalArgs_none (hm pins s1 σ H1 x [] v [] Q I1 r1 .nil q1))⟩
theorem sd(pa:PlainAttrs T)(slot:Slot T name id)(HB:VI (.builtin id)=pure (.type "method_descriptor"))(hm:IY X id r)(ho:PE X o to)(ha:PA X (e::es) t)
  (C5:Sb o name X.env (QK o X.env)=QK o X.env:=by rfl)
  (DH:((QP Cc (Pj (e::es) X.env)).all (λx=>!x.1)&&(Us Cc (SR [] X.env)).all (λx=>x.1.isSome)
   && OX ((e::es).length+([]:List Se).length+(if ([]:List Se).isEmpty then 0 else 1)<30))=OP:=by rfl)
  (Cs:(apos.endLine==Cc.line)=OP:=by rfl) (hs:Pj (e::es) X.env=(OR,QK e X.env)::Pj es X.env:=by rfl) (Dr:(QP Cc (Pj es X.env)).any (·.1)=OR:=by rfl) :
  PE X (.Call (.Attribute o name apos) (e::es) [] Cc) (Mi X.K T r to t):=by
 intro pins s σ H Q I h;refine VH C5 DH Cs rfl (Cm (ho pins s σ H _ I h) λv s1 ⟨x,H1,I1,r1,ty,q1⟩=>?_);obtain⟨h1,h2⟩:=ni I1 r1 ty;refine⟨T,id,pa,slot,HB,h1,h2,?_⟩;have hA:=ha Cc pins s1 σ H1 _ I1 q1;rw[hs]at hA ⊢;refine QY (by show(OR||(QP Cc (Pj es X.env)).any (·.1))=OR;rw[Dr]<;>rfl) (RZ ?_);exact Cm hA λus s2 ⟨vs,H2,I2,r2,q2⟩=>hm pins s2 σ H2 x vs v us Q I2 r1 r2 q2
end
def HC(X:Cx)(id:String)(r:V->List V->Hp->VK->Prop):Prop :=
 ∀(pins:List (O8×Obj)) (s:O7) (σ:St) (H:Hp) (x:V) (xs:List V) (v:OW) (us:List OW) (Q:VK),Inv X pins σ H s->RelV x v->Vals xs us->r x xs H Q ->
  OZ (O9 X.prog X.w) X.A (RC (.builtin id) (v::us)) (EP X pins σ Q) X.xe s
theorem Vals.one:∀{x:V}{us:List OW},Vals [x] us->∃u,us=[u]/\RelV x u
 |_,_,.cons r .nil=>⟨_,rfl,r⟩
theorem Vals.zero:∀{us:List OW},Vals [] us->us=[]
 |_,.nil=>rfl
theorem Vals.dropLast(h:Vals xs us):Vals xs.dropLast us.dropLast:=by
 induction h with
 |nil=>exact .nil
 |cons r t ih =>
  cases t with
  |nil=>exact .nil
  |cons q t'=>exact .cons r ih
theorem Vals.eraseIdx:∀{xs:List V}{us:List OW} (i:Nat),Vals xs us->Vals (xs.eraseIdx i) (us.eraseIdx i)
 |_,_,_,.nil=>.nil
 |_,_,0,.cons _ t=>t
 |_,_,i+1,.cons r t=>.cons r (Vals.eraseIdx i t)
theorem Vals.reverse(h:Vals xs us):Vals xs.reverse us.reverse:=by
 induction h with
 |nil=>exact .nil
 |cons r t ih=>rw[Su,Su];exact Vals.append ih (.cons r .nil)
theorem nj(l:List α):l.eraseIdx (l.length - 1)=l.dropLast:=by
 induction l with
 |nil=>rfl
 |cons a r ih =>
  cases r with
  |nil=>rfl
  |cons b r =>
   have e:(a::b::r).length - 1=((b::r).length - 1)+1:=by
    have h1:(a::b::r).length=r.length+2:=rfl;have h2:(b::r).length=r.length+1:=rfl;omega
   rw[e,UZ,ih]
   all_goals rfl
theorem jy:∀(l:List α) (i:Nat),(l.eraseIdx i).length<=l.length
 |[],_=>O2 _
 |_::_,0=>QE _
 |_::r,i+1=>Nat.succ_le_succ (jy r i)
section
theorem Inv.gP{A' its':List OW}(I:Inv X pins σ H s)(hH:H l=Od (.lst xs))
  (e:s.heap.get? l=Od {cls:=.type "list",data:=.seq A'.toArray n}) (hf:f A'.toArray=its'.toArray) (hv:Vals ys its') (hz:ys.length<=OV) :
  Inv X pins σ (upd H l (.lst ys)) {s with heap:=s.heap.update l (Py f),toks:=t' }:=by
 have q:=PySem.IsL.update e f;rw[hf]at q;refine I.write (x:=l) (e:=l) (by rw[hH];exact trivial) (.inl rfl) (λb' u hb hu=>(QZ s.heap (Py f) (Qs hb)).trans hu) ⟨_,q⟩ ?_;exact⟨hz,its',_,hv,q⟩
theorem Inv.BZ(I:Inv X pins σ H s)(hv:Vals ys A')(hz:ys.length<=OV):
  Inv X pins σ (upd H s.heap.objs.size (.lst ys)) {s with heap:=s.heap.push {cls:=.type "list",data:=.seq A'.toArray},toks:=t' } :=
 I.laid (λ_ _ q=>OT _ q) (O2 _) ⟨hz,A',0,hv,O3 _ rfl⟩
theorem Inv.fresh(I:Inv X pins σ H s):H s.heap.objs.size=OQ:=I.Cg.fresh (O2 _)
theorem Inv.se(I:Inv X pins σ H s)(hH:H l=Od (.lst xs)):xs.length<=OV/\∃(A':List OW) (n:Nat),Vals xs A'/\xs.length=A'.length/\s.heap.get? l=Od {cls:=.type "list",data:=.seq A'.toArray n}:=by
 obtain⟨z,A',n,r,e⟩:=I.Cg l _ hH;exact⟨z,A',n,r,r.length,e⟩
theorem sf(h:n<=OV):QG n=OR:=by
 unfold QG;exact XN ⋯
end
section
def vJ:V->List V->Hp->VK->Prop:=λx vs H Q=>∃l xs y,x=.ref l/\vs=[y]/\H l=Od (.lst xs)/\xs.length<OV/\Q .Ce (upd H l (.lst (xs++[y])))
theorem qC:HC X "list.append" vJ:=by
 intro pins s σ H x vs v us Q I rx rv h;obtain⟨l,xs,y,rfl,rfl,hH,hz,q⟩:=h;cases rx;obtain⟨u,rfl,ru⟩:=rv.one;obtain⟨z,A',n,r,hl,e⟩:=I.se hH;refine RJ F.slot_list_append ⟨_,e,rfl⟩ F.entry_list_append (F.args_list_append_2 _ _) (PySem.list_append l A'.toArray n u (by rw[O0];omega)) ⟨e,?_⟩;refine⟨.Ce,_,I.gP (its':=A'++[u]) hH e (by simp) (r.append (.cons ru .nil)) ?_,rfl,q⟩;rw[Pp,QI];omega
def B0:V->List V->Hp->VK->Prop:=λx vs H Q=>∃l xs y,x=.ref l/\vs=[]/\H l=Od (.lst xs)/\xs[xs.length - 1]?=Od y/\Q y (upd H l (.lst xs.dropLast))
theorem yy:HC X "list.pop" B0:=by
 intro pins s σ H x vs v us Q I rx rv h;obtain⟨l,xs,y,rfl,rfl,hH,hy,q⟩:=h;cases rx;have JW:=rv.zero;subst JW;obtain⟨z,A',n,r,hl,e⟩:=I.se hH;obtain⟨u,hu,ru⟩:=r.get hy;have Gn:A'.toArray[A'.toArray.size - 1]?=Od u:=by
  show A'.toArray[A'.length - 1]?=Od u;rw[<-P1,<-hl];exact hu
 refine RJ WZ ⟨_,e,rfl⟩ WA (F.args_list_pop_1 _) (MeetsSeq.list_pop_last l A'.toArray n u Gn (by rw[O0];omega)) ⟨e,?_⟩;refine⟨y,_,I.gP (its':=A'.dropLast) hH e ?_ r.dropLast ?_,ru,q⟩
 ·show A'.toArray.eraseIdxIfInBounds (A'.toArray.size - 1)=A'.dropLast.toArray;rw[O0,T4,nj]
 ·rw[List.length_dropLast];omega
def yz:V->List V->Hp->VK->Prop:=λx vs H Q=>∃l xs i k y,x=.ref l/\vs=[.int i]/\H l=Od (.lst xs)/\-(2 ^ 63)<=i/\i<2 ^ 63/\UK i xs.length=Od k/\xs[k]?=Od y/\Q y (upd H l (.lst (xs.eraseIdx k)))
theorem sg:HC X "list.pop" yz:=by
 intro pins s σ H x vs v us Q I rx rv h;obtain⟨l,xs,i,k,y,rfl,rfl,hH,h1,h2,hk,hy,q⟩:=h;cases rx;obtain⟨u,rfl,ru⟩:=rv.one;obtain⟨t,rfl⟩:=ru;obtain⟨z,A',n,r,hl,e⟩:=I.se hH;obtain⟨w,hw,EO⟩:=r.get hy;refine RJ WZ ⟨_,e,rfl⟩ WA (F.args_list_pop_2 _ _)
  (MeetsSeq.list_pop_at l A'.toArray n i t k w (fitsIndex_both h1 h2) (by rw[O0,<-hl];exact hk) (by rw[<-P1];exact hw) (by rw[O0];omega)) ⟨e,?_⟩
 refine⟨y,_,I.gP (its':=A'.eraseIdx k) hH e ?_ (r.eraseIdx k) ?_,EO,q⟩
 ·show A'.toArray.eraseIdxIfInBounds k=(A'.eraseIdx k).toArray;rw[T4]
 ·have:=jy xs k;omega
def yA:V->List V->Hp->VK->Prop:=λx vs H Q=>∃l xs,x=.ref l/\vs=[]/\H l=Od (.lst xs)/\Q .Ce (upd H l (.lst []))
theorem si:HC X "list.clear" yA:=by
 intro pins s σ H x vs v us Q I rx rv h;obtain⟨l,xs,rfl,rfl,hH,q⟩:=h;cases rx;have JW:=rv.zero;subst JW;obtain⟨z,A',n,r,hl,e⟩:=I.se hH;refine RJ F.slot_list_clear ⟨_,e,rfl⟩ F.entry_list_clear (F.args_list_clear_1 _) (AutoSeq1.list_clear_list_0 l A'.toArray n (by rw[O0];omega)) ⟨e,?_⟩;exact⟨.Ce,_,I.gP (its':=[]) (ys:=[]) hH e rfl .nil (Pt _),rfl,q⟩
end
section
set_option maxRecDepth 100000 in
end
section
end
end L2
namespace Lf
open PySem PySem.W PySem.Calls PyProof.Rows
theorem gQ:∀(ns:List Int) (vs:List OW),WellAll P h vs (ns.map Xh)->VV vs ns:=by
 intro ns;induction ns with
 |nil =>
  intro vs w;rw[Q1]at w;cases w;exact .nil
 |cons n ns ih =>
  intro vs w;rw[O5]at w;cases w with
  |cons a b =>
   cases a;exact .cons _ _ (ih _ b)
theorem qD{l:OpenLaw}(hn:l.most=Od n)
  (Fv:l.row.toRowW.claim.pre args=OP) (HD:WellAll P h vals args) :
  ∃a vs ns,vals=[Pd a]/\args=[WData.list (ns.map Xh)]/\h.get? a=Od {cls:=.type "list",data:=.seq vs.toArray}/\VV vs ns/\ns.length<=n:=by
 have Mj:WShape.hasAll [] args [.list .int]=OP:=(pre_splitW Fv).1;have hc:l.pre.holds [] {args:=args}=OP:=(pre_splitW Fv).2;obtain⟨d,r,rfl,h1,h2⟩:=hasAllW_cons Mj;obtain rfl:=hasAllW_nil h2;obtain⟨xs,rfl,h3⟩:=hasW_list h1;obtain⟨ns,rfl⟩:=items_int h3;have hlen:ns.length<=n:=by
  unfold OpenLaw.pre at hc;have h4:(WTm.not (.lt (.lit (.int (n:Int))) (.len (.arg 0)))).holds [] {args:=[.list (ns.map .int)]}=OP:=by
   have h4:=(holds_andW hc).1;rw[hn]at h4;exact h4
  have h5:=condW_of h4 (w_not (w_lt w_lit (w_len_list (w_arg rfl))));rw[OY]at h5;refine Nat.le_of_not_lt λq=>?_;have q':(n:Int)<((ns.length:Nat):Int):=by omega
  first
   |(rw[XO q']at h5;exact absurd h5 (by decide))
   |(simp at h5;omega)
 cases HD with
 |cons w1 w2 =>
  cases w2;cases w1 with
  |list ho DI=>exact⟨_,_,ns,rfl,rfl,ho,gQ ns _ DI,hlen⟩
theorem qE(l:OpenLaw)(args:List WData):l.row.toRowW.claim.post args (.bool OP) args=OP :=
 postW_of (r:=l.row.toRowW) (X:=(OP==OP))
  (show WT [] (.bool OP) .bool=OP by first|rfl|decide|simp[WT,WShape.arms,WShape.armsAll])
  (show(WTm.eq .res (.lit (.bool OP))).value [] {args:=args,res:=Od (.bool OP),after:=args}=Od (.bool (OP==OP)) from w_eq_bool (w_res rfl) w_lit) rfl
theorem lF{l:OpenLaw}
  (hn:l.most=Od n) (Gp:d.params.defaults=[])
  (RC:∀(w:Qj) (s₀ s₁:O7) (mg mb:Str->Option OW) (fa:O8) (o:Obj) (pm cd doc:OW) (a:O8) (vs:List OW) (ns:List Int),
   Ground q loose [] XP w s₀ mg mb s₁.heap->YP w s₁.heap ->
   s₁.heap.get? fa=Od o->o.data=.func (docDef d.name d.params d.body d.scope pm cd doc)->s₁.heap.CodeRec cd d.name->mg d.name=Od (.ref fa) ->
   s₁.heap.get? a=Od {cls:=.type "list",data:=.seq vs.toArray}->VV vs ns->ns.length<=n->s₁.gens=#[] ->
   Sa (O9 l.prog w) Ta (.call (.ref fa) ⟨[.ref a],[]⟩) (λr s'=>r=.ok (.ret (.bool OP))/\OldK s₁.heap s'.heap/\s'.os=s₁.os/\Te s'.gens) s₁) :
  WalkO q loose XP YP l.row.toRowW d [] (λf vs=>PySem.call f vs):=by
 intro w s₀ s₁ mg mb G Y fa o pm cd doc dV kV ho hd Dv hD HE hg args vals as Fv Mk G_ HD Ol;obtain rfl:dV=.none:=Dflts.none hD Gp;obtain rfl:kV=.none:=Dflts.noKw hD;obtain⟨a,vs,ns,rfl,rfl,Gq,hints,hlen⟩:=qD hn Fv HD;refine enter_call (S_ (RC w s₀ s₁ mg mb fa o pm cd doc a vs ns G Y ho (fd_plain hd) Dv HE Gq hints hlen hg) λr s' hq=>?_);obtain⟨rfl,h2,h3,h4⟩:=hq;exact⟨.inl ⟨.bool OP,.bool OP,[],rfl,λ_=>rfl,.bool OP,qE l _,λ_=>⟨Xg,λ_ hm=>(nomatch hm)⟩⟩,h2,h3,h4⟩
section
end
end Lf
namespace L2
open PySem PySem.Spec PyProof.Rows
theorem jz:∀{vs:List OW}{ns:List Int},VV vs ns->Vals (ns.map V.int) vs
 |_,_,.nil=>.nil
 |_,_,.cons n t h=>.cons ⟨t,rfl⟩ (jz h)
def yB(H:Hp):Prop:=∀b,H b=OQ\/∃o xs,H b=Od (.Di o (.lst xs))
theorem sj{K:PySem.W.Frag}
  (KX:K.In s₁.heap) (Dw:s₁.heap.Ns Qc mg) (hb:s₁.heap.Ns Tb mb) (Ml:∀x:Str,x≠"__name__"->mb x=Qx x) (JX:s₁.heap.NoLimit) (hg:s₁.gens=#[])
  (ha:s₁.heap.get? a=Od {cls:=.type "list",data:=.seq vs.toArray}) (hi:VV vs ns) (hl:ns.length<=OV) (hr:d_ k Ta)
  (F:∀base:QA,K.In base->base.Ns Qc mg->ig P w K mg base CX k fa fd [x] sp) (HF:∀(s:O7) (u:OW),VS s fd ⟨[u],[]⟩ [(x,u)])
  (DY:∀H:Hp,yB H->CF K H a (ns.map V.int)->sp [.ref a] H (λv _=>v=.bl OP) λ_ _ _=>False)
  (JY:∀H e s',CX [] H s₁ (λ_ _ _=>False) e s'->False) :
  Sa (O9 P w) Ta (.call (.ref fa) ⟨[.ref a],[]⟩) (λr s'=>r=.ok (.ret (.bool OP))/\OldK s₁.heap s'.heap/\s'.os=s₁.os/\Te s'.gens) s₁:=by
 have rv:=jz hi;have JZ:=hi.length;have core:∀H:Hp,yB H->CF K H a (ns.map V.int)->C3 P w H s₁.heap->(∀b,H b≠OQ->b=a)->(H a≠OQ->K.lookup a=OQ) ->
   Sa (O9 P w) Ta (.call (.ref fa) ⟨[.ref a],[]⟩) (λr s'=>r=.ok (.ret (.bool OP))/\OldK s₁.heap s'.heap/\s'.os=s₁.os/\Te s'.gens) s₁:=by
  intro H hO hS Cg hA hK;have gZ:∀{b:O8} {o:Obj},s₁.heap.get? b=Od o->H b=OQ->(j6 s₁.heap H).get? b=Od o:=λe n=>rJ e n;have Hw:∀{b:O8} {o:Obj} {es:Array DictEntry} {ep:Nat},s₁.heap.get? b=Od o->o.data=.dict es ep->H b=OQ:=λ{b o es ep} e d=>by
   cases q:H b with
   |none=>rfl
   |some u =>
    have e':b=a:=hA b (by rw[q];simp);subst e';rw[ha]at e;cases e;have d':Data.seq vs.toArray _=Data.dict es ep:=d;cases d'
  have I_:∀{b:O8} {m:Str->Option OW},s₁.heap.Ns b m->(j6 s₁.heap H).Ns b m:=λ{b m} ⟨o,es,ep,e,d,r⟩=>⟨o,es,ep,gZ e (Hw e d),d,r⟩
  have Lg:K.In (j6 s₁.heap H):=λb o e=>gZ (KX b o e) (by
   cases q:H b with
   |none=>rfl
   |some u =>
    have e':b=a:=hA b (by rw[q];simp);subst e';rw[hK (by rw[q];simp)]at e;cases e)
  have hM:Mod K mg (j6 s₁.heap H):=⟨Lg,I_ Dw,⟨mb,I_ hb,Ml⟩,let ⟨mc,h1,h2⟩:=JX;⟨mc,I_ h1,h2⟩⟩
  have e0:vB P w K mg (j6 s₁.heap H) Ta [] s₁ H:=⟨rfl,hM,λb o e=>vi e,Vh (qx _ _),trivial,λb hb=>absurd (show b∈([]:List O8) from hb) (by simp),Cg,.of_eq hg⟩
  refine S_ ((F _ Lg (I_ Dw)).run Ta [] s₁ H ⟨[.ref a],[]⟩ [.ref a] [.ref a] _ _ hr e0 (HF s₁ (.ref a)) (.cons rfl .nil) (DY H hO hS)) λr s' h=>?_;cases r with
  |error e=>exact(JY H e s' h).elim
  |ok fl =>
   cases fl with
   |ret u =>
    obtain⟨v,H',os,bare,un,J0,r',q⟩:=h;have q':v=.bl OP:=q;subst q';obtain rfl:u=Sg OP:=r';refine⟨rfl,OldK.of_keep λb o e=>?_,os,bare⟩;cases q:H b with
    |none=>exact un.keep b o e q (by intro z;exact absurd (show b∈([]:List O8) from z) (by simp)) (by simp)
    |some u =>
     rcases hO b with z|⟨ob,xs,z⟩
     ·rw[q]at z;cases z
     ·have z2:=un.Dy b ob _ z;obtain⟨e1,_⟩:=Cg b _ z;obtain⟨e2,_⟩:=J0 b _ z2;rw[e]at e1;cases e1;exact e2
   |_=>exact Ri h
 cases hk:K.lookup a with
 |some o =>
  have e:=KX a o hk;rw[ha]at e;cases e;refine core (λ_=>OQ) (λ_=>.inl rfl) (.inr ⟨_,vs.toArray,_,hk,rfl,rfl,rfl,by rw[O0,JZ];exact hl,by simpa using rv⟩) (λb u z=>by have z':(OQ:Option HO)=Od u:=z;cases z') (λb z=>absurd rfl z) λz=>absurd rfl z
 |none =>
  refine core (λb=>if b=a then Od (.Di {cls:=.type "list",data:=.seq vs.toArray} (.lst (ns.map V.int))) else OQ) (λb=>?_) (.inl (.inr ⟨{cls:=.type "list",data:=.seq vs.toArray},XI rfl⟩)) (λb u z=>?_) (λb z=>?_) λ_=>hk
  ·by_cases hb:b=a
   ·exact .inr ⟨_,_,XI hb⟩
   ·exact .inl (XM hb)
  ·by_cases hb:b=a
   ·have z':=(XI hb).symm.trans z;cases z';subst hb;exact⟨ha,by rw[OY];exact hl,vs,_,rv,ha⟩
   ·have z':=(XM hb).symm.trans z;cases z'
  ·by_cases hb:b=a
   ·exact hb
   ·exact absurd (XM hb) z
theorem vK{l:PySem.W.OpenLaw}{K:VP->PySem.W.Frag}{CX:Qj->G7}{sp:Qj->Sp}
  (hn:l.most=Od n) (Mm:n<=OV) (Gp:d.params.defaults=[]) (hr:d_ k Ta)
  (hY:∀(w:Qj) (h:QA),YP w h->(K w.params).In h)
  (F:∀(w:Qj) (mg:Str->Option OW) (fa:O8) (h:QA),(K w.params).In h->h.Ns Qc mg->mg d.name=Od (.ref fa) ->
   ∃fd:SG,(∀(s:O7) (u:OW),VS s fd ⟨[u],[]⟩ [(x,u)]) /\
    ∀base:QA,(K w.params).In base->base.Ns Qc mg->ig l.prog w (K w.params) mg base (CX w) k fa fd [x] (sp w))
  (DY:∀(w:Qj) (H:Hp) (a:O8) (ns:List Int),ns.length<=n->yB H->CF (K w.params) H a (ns.map V.int)->sp w [.ref a] H (λv _=>v=.bl OP) λ_ _ _=>False)
  (JY:∀(w:Qj) (H:Hp) (s:O7) (e:OW) (s':O7),CX w [] H s (λ_ _ _=>False) e s'->False) :
  PySem.W.WalkO q loose XP YP l.row.toRowW d [] (λf vs=>PySem.call f vs):=by
 refine Lf.lF hn Gp λw s₀ s₁ mg mb fa o pm cd doc a vs ns G Y ho hd Dv HE Gq hints hlen hg=>?_;have KX:=hY w _ Y;obtain⟨fd,hb,hF⟩:=F w mg fa _ KX G.T.g HE;exact sj KX G.T.g G.T.b G.T.builtins G.T.nolimit hg Gq hints (Qv hlen Mm) hr hF hb (λH hO hS=>DY w H a ns hlen hO hS) λH e s'=>JY w H s₁ e s'
def dX(s:RY):Arguments:=match s with
 |.FunctionDef _ a _ _ _ _ _ _ _ _=>a
 |_=>{posonlyargs:=[],args:=[],vararg:=OQ,kwonlyargs:=[],kw_defaults:=[],kwarg:=OQ,defaults:=[]}
def bQ(s:RY):List RY:=match s with
 |.FunctionDef _ _ b _ _ _ _ _ _ _=>b
 |_=>[]
def aE(s:RY):Rg:=match s with
 |.FunctionDef _ _ _ _ _ _ sc _ _ _=>sc
 |_=>{kind:=.function,names:=[],isGenerator:=OR,isCoroutine:=OR}
abbrev EE:G7:=λ_ _ _ _ _ _=>False
abbrev E0:XK:=λ_ _ _=>False
theorem xF:Passes EE X E0:=λ_ _ _ _ _ _ _ h=>h.elim
structure FY(K:PySem.W.Frag)(x qual:Str)(st:RY)(f:O8)(fd:SG):Prop where
 ex:∃(oc:OW) (od:Option O8) (kV doc pm:OW) (an:Option O8) (C_ ct:OW) (Hx:Array (Option OW)),
  fd=PySem.W.fnOf x qual (dX st) (bQ st) (aE st) .none kV doc pm an C_ ct/\K.lookup f=Od ⟨oc,od,.func fd,Hx⟩/\PySem.W.codeIn K C_ qual=OP
 kp:PySem.W.keepIn K (.ref f)=OP
section
variable{P:PZ}{w:Qj}{K:PySem.W.Frag}{mg:Str->Option OW}{base:QA}
theorem FY.ok{st:RY}(F:FY K x qual st f fd)(S:cI N ps (aE st))(len:∀vs H Q E,sp vs H Q E->vs.length=ps.length)
  (EM:∀(C_:OW) (A:Ra) (outer:List Env) (s:O7) (H:Hp) (vs:List V) (Q:VK) (E:XK),d_ k (A.deeper (Td qual (aE st) s.heap.objs.size f C_))->sp vs H Q E ->
   ∃t,C9 (lC EE P w K mg base N qual (aE st) f C_ A outer s H E).G5 (bQ st) t/\t {nx:=λ_ H'=>Q .Ce H',rt:=Q} (start N vs) H):ig P w K mg base EE (k+1) f fd ps sp:=by
 obtain⟨oc,od,kV,doc,pm,an,C_,ct,Hx,rfl,lk,Dv⟩:=F.ex;refine Au lk Dv S len λA outer s H vs Q E hr DY=>?_;obtain⟨t,h,q⟩:=EM C_ A outer s H vs Q E hr DY;exact⟨t,h.G5,q⟩
theorem yC{st:RY}{kV doc pm C_ ct:OW}(l:K.lookup f=Od ⟨oc,od,.func (PySem.W.fnOf x qual (dX st) (bQ st) (aE st) .none kV doc pm an C_ ct),Hx⟩)
  (c:PySem.W.codeIn K C_ qual=OP) (k:PySem.W.keepIn K (.ref f)=OP):FY K x qual st f (PySem.W.fnOf x qual (dX st) (bQ st) (aE st) .none kV doc pm an C_ ct):=⟨⟨oc,od,kV,doc,pm,an,C_,ct,Hx,rfl,l,c⟩,k⟩
end
theorem qF(h:n<=1000):n<OV:=Nat.lt_of_le_of_lt h (by decide)
section
end
def yD(H H':Hp):Prop:=∀b o,H b=Od o->H' b=Od o
section
variable{κ:Type}[DecidableEq κ]
def fq(kvs:List (κ×V))(k:κ):Option V:=(kvs.find? λkv=>OX (kv.1=k)).map (·.2)
def putK(kvs:List (κ×V))(k:κ)(v:V):List (κ×V) :=
 if (kvs.any λkv=>OX (kv.1=k))=OP then kvs.map (λkv=>if kv.1=k then(kv.1,v) else kv) else kvs++[(k,v)]
theorem dw{p:κ×V}{k:κ}(e:p.1=k):fq (p::r) k=Od p.2:=by simp[fq,Q_,e]
theorem dy{p:κ×V}{k:κ}(e:¬p.1=k):fq (p::r) k=fq r k:=by simp[fq,Q_,e]
theorem il(k:κ):∀kvs:List (κ×V),(kvs.any λkv=>OX (kv.1=k))=(fq kvs k).isSome
 |[]=>rfl
 |p::r=>by
  rw[Ts];by_cases e:p.1=k
  ·simp only[dw e,XO e,Bool.true_or,Option.isSome_some]
  ·rw[dy e,XN e,Bool.false_or];exact il k r
theorem gA(kvs:List (κ×V))(k:κ)(v:V):(putK kvs k v).length<=kvs.length+1:=by
 unfold putK;split
 ·rw[OY];omega
 ·rw[Pp,Pw,SW];omega
theorem jd.cQ(r:jd o u):o.isSome=u.isSome:=by
 cases o with
 |none=>cases u with
  |none=>rfl
  |some _=>exact(show False from r).elim
 |some _=>cases u with
  |none=>exact(show False from r).elim
  |some _=>rfl
theorem KV.val(r:KV kvs vs)(k:κ):jd (fq kvs k) (Uk vs k):=by
 unfold KV at r;induction r with
 |nil=>exact Tw
 |@cons p q ps qs h t ih =>
  obtain⟨h1,h2⟩:=h;by_cases e:p.1=k
  ·have e':q.1=k:=h1.symm.trans e;have b:Uk (q::qs) k=Od q.2:=by simp[Uk,Q_,e']
   rw[dw e,b];exact h2
  ·have e':¬q.1=k:=λz=>e (h1.trans z);have b:Uk (q::qs) k=Uk qs k:=by simp[Uk,Q_,e']
   rw[dy e,b];exact ih
theorem KV.any(r:KV kvs vs)(k:κ):(kvs.any λkv=>OX (kv.1=k))=vs.any λkv=>OX (kv.1=k):=by
 unfold KV at r;induction r with
 |nil=>rfl
 |cons h t ih=>rw[Ts,Ts,ih,h.1]
theorem KV.yE(r:KV kvs vs)(k:κ)(ry:RelV y u):
  KV (kvs.map λkv=>if kv.1=k then(kv.1,y) else kv) (vs.map λkv=>if kv.1=k then(kv.1,u) else kv):=by
 unfold KV at r ⊢;induction r with
 |nil=>exact .nil
 |@cons p q ps qs h t ih =>
  rw[O5,O5];refine .cons ?_ ih;obtain⟨h1,h2⟩:=h;by_cases e:p.1=k
  ·rw[XI e,XI (h1.symm.trans e)];exact⟨h1,ry⟩
  ·rw[XM e,XM (λz=>e (h1.trans z))];exact⟨h1,h2⟩
theorem KV.put(r:KV kvs vs)(k:κ)(ry:RelV y u):KV (putK kvs k y) (stored vs k u):=by
 unfold putK stored;rw[r.any k];by_cases e:(vs.any λkv=>OX (kv.1=k))=OP
 ·rw[XI e,XI e];exact r.yE k ry
 ·rw[XM e,XM e];exact Paired.snoc r ⟨rfl,ry⟩
theorem KV.length(r:KV kvs vs):kvs.length=vs.length:=Paired.length r
end
theorem lG(r:RelV (kV k) u):(aL P w).is k u=OP:=by
 cases k with
 |inl i=>obtain⟨t,e⟩:=(show ∃t,u=TX i t from r);subst e;exact lx P w i t
 |inr x=>obtain⟨t,e⟩:=(show ∃t,u=P7 x t from r);subst e;exact ly P w x t
theorem jA:∀{ks:List Key}{us:List OW},Vals (ks.map kV) us->ItemsAre (aL P w) ks us
 |[],_,r=>by rw[Q1]at r;cases r;exact .nil
 |k::ks,_,r=>by
  rw[O5]at r;cases r with
  |cons h t=>exact .cons (lG h) (jA t)
abbrev KT(H:Hp):List (List Key×V)->List (List Key×O8×OW)->Prop:=Paired λp q=>p.1=q.1/\H q.2.1=Od (.tup (p.1.map kV))/\RelV p.2 q.2.2
theorem KT.val(r:KT H kvs xs)(k:List Key):jd (fq kvs k) ((TH xs k).map (·.2)):=by
 induction r with
 |nil=>exact Tw
 |@cons p q ps qs h t ih =>
  obtain⟨h1,_,h2⟩:=h;by_cases e:p.1=k
  ·have e':q.1=k:=h1.symm.trans e;have b:TH (q::qs) k=Od q.2:=by simp[TH,Q_,e']
   rw[dw e,b];exact h2
  ·have e':¬q.1=k:=λz=>e (h1.trans z);have b:TH (q::qs) k=TH qs k:=by simp[TH,Q_,e']
   rw[dy e,b];exact ih
theorem KT.yE(r:KT H kvs xs)(k:List Key)(ry:RelV y u):
  KT H (kvs.map λkv=>if kv.1=k then(kv.1,y) else kv) (xs.map (putAt k u)):=by
 induction r with
 |nil=>exact .nil
 |@cons p q ps qs h t ih =>
  rw[O5,O5];refine .cons ?_ ih;obtain⟨h1,h2,h3⟩:=h;unfold putAt;by_cases e:p.1=k
  ·rw[XI e,XI (h1.symm.trans e)];exact⟨h1,h2,ry⟩
  ·rw[XM e,XM (λz=>e (h1.trans z))];exact⟨h1,h2,h3⟩
theorem KT.put(r:KT H kvs xs)(k:List Key)(hb:H b=Od (.tup (k.map kV)))(ry:RelV y u):
  KT H (putK kvs k y) (storedH xs k b u):=by
 have e:(kvs.any λkv=>OX (kv.1=k))=(TH xs k).isSome:=by
  rw[il,(r.val k).cQ,Sm]
 unfold putK storedH;rw[e];by_cases q:(TH xs k).isSome=OP
 ·rw[XI q,XI q];exact r.yE k ry
 ·rw[XM q,XM q];exact Paired.snoc r ⟨rfl,hb,ry⟩
theorem KT.keeps(r:KT H kvs xs)(ht:∀b ys,H b=Od (.tup ys)->H' b=Od (.tup ys)):KT H' kvs xs :=
 Paired.yb r λ_ _ z=>⟨z.1,ht _ _ z.2.1,z.2.2⟩
section
theorem xG(ok:C3 P w H h)(e:Rd H a u):aW P w H h a u:=e.ok ok
theorem lH(ok:C3 P w H h)(e:Rd H a (.dK kvs)):kvs.length<=OV/\(a==Qp)=OR/\∃vs,KV kvs vs/\h.DictOf (aL P w) a vs :=
 show aW P w H h a (.dK kvs) from xG ok e
theorem xH(ok:C3 P w H h)(e:H a=Od (.dK kvs)):kvs.length<=OV/\(a==Qp)=OR/\∃vs,KV kvs vs/\h.DictOf (aL P w) a vs:=lH ok (.inl e)
theorem ip(ok:C3 P w H h)(e:H a=Od (.tup (ks.map kV))):(UI (aL P w)).is h ks a:=by
 obtain⟨_,A',r,o,h1,h2,n,h3⟩:=(show aW P w H h a (.tup (ks.map kV)) from ok a _ e)
 exact⟨o,A'.toArray,n,h1,h2,h3,by simpa using jA r⟩
theorem lI(ok:C3 P w H h)(e:Rd H a (.dT kvs)):kvs.length<=OV/\(a==Qp)=OR /\
  ∃xs,KT H kvs xs/\h.DictOfH (UI (aL P w)) a xs:=by
 obtain⟨z,y,xs,r,o,es,ep,h1,h2,h3,h4,h5⟩:=(show aW P w H h a (.dT kvs) from xG ok e)
 refine⟨z,y,xs,r,o,es,ep,h1,h2,h3,h4,λx hx=>?_,h5⟩;have all:∀{l:List (List Key×V)} {m:List (List Key×O8×OW)},KT H l m->∀x∈m,(UI (aL P w)).is h x.1 x.2.1:=by
  intro l m q;induction q with
  |nil=>intro x hx;exact nomatch hx
  |@cons p q ps qs hq t ih =>
   intro x hx;rcases O_.mp hx with e|hx
   ·subst e;exact ip ok (by rw[<-hq.1];exact hq.2.1)
   ·exact ih x hx
 exact all r x hx
theorem AA(ok:C3 P w H h)(e:H a=Od (.dT kvs)):kvs.length<=OV/\(a==Qp)=OR /\
  ∃xs,KT H kvs xs/\h.DictOfH (UI (aL P w)) a xs:=lI ok (.inl e)
end
def jh(H:Hp)(a:O8)(y:V)(r:Option V):Prop :=
 (∃kvs k,Rd H a (.dK kvs)/\y=kV k/\r=fq kvs k)\/∃kvs k b,Rd H a (.dT kvs)/\y=.ref b/\H b=Od (.tup (k.map kV))/\r=fq kvs k
def sk(H:Hp)(a:O8)(y v:V)(H':Hp):Prop :=
 (∃kvs k,H a=Od (.dK kvs)/\y=kV k/\kvs.length<OV/\H'=upd H a (.dK (putK kvs k v))) \/
 ∃kvs k b,H a=Od (.dT kvs)/\y=.ref b/\H b=Od (.tup (k.map kV))/\kvs.length<OV/\H'=upd H a (.dT (putK kvs k v))
theorem jh.k{H:Hp}{a:O8}{kvs:List (Key×V)}{k:Key}(e:H a=Od (.dK kvs)):jh H a (kV k) (fq kvs k):=.inl ⟨kvs,k,.inl e,rfl,rfl⟩
theorem sk.k{H:Hp}{a:O8}{kvs:List (Key×V)}{k:Key}{v:V}(e:H a=Od (.dK kvs))(hl:kvs.length<OV):sk H a (kV k) v (upd H a (.dK (putK kvs k v))):=.inl ⟨kvs,k,e,rfl,hl,rfl⟩
section
theorem Inv.big(I:Inv X pins σ H s):Qp<s.heap.objs.size:=by
 have h:Qc<s.heap.objs.size:=(I.mod.glob.keeps I.bk).lt;exact Vg (by decide) h
theorem qG(hu:A.units+1<Qr)(I:Inv X pins σ H s)(g:jh H a y (Od v))(ry:RelV y u)(h:∀w' s',Inv X pins σ H s'->RelV v w'->Q w' s'):
  OZ (O9 X.prog X.w) A (TR (.ref a) u) Q E s:=by
 rcases g with⟨kvs,k,e,ey,l⟩|⟨kvs,k,b,e,ey,eb,l⟩
 ·subst ey;obtain⟨z,hd,vs,rel,dd⟩:=lH I.Cg e;obtain⟨w',hw,EO⟩:=jd.some_of (v:=v) (o:=Uk vs k) (by rw[l];exact rel.val k);exact wpAny_getItem_of (lG ry) dd.mapOf hw (h w' _ (I.tok _) EO)
 ·subst ey;cases(show u=Pd b from ry);obtain⟨z,hd,xs,rel,dd⟩:=lI I.Cg e;obtain⟨w',hw,EO⟩:=jd.some_of (v:=v) (o:=(TH xs k).map (·.2)) (by rw[l];exact rel.val k);obtain⟨p,hp,G'⟩:=O1.mp hw;refine wpAny_getItem_heap (SE hu) (ip I.Cg eb) dd hp ?_;rw[G'];exact h w' _ (I.tok _) EO
theorem B1(hu:A.units+1<Qr)(I:Inv X pins σ H s)(g:jh H a y o)(ry:RelV y u)(h:∀s',Inv X pins σ H s'->Q (.bool o.isSome) s'):
  OZ (O9 X.prog X.w) A (QC .In u (.ref a)) Q E s:=by
 rcases g with⟨kvs,k,e,ey,l⟩|⟨kvs,k,b,e,ey,eb,l⟩
 ·subst ey;obtain⟨z,hd,vs,rel,dd⟩:=lH I.Cg e;refine wpAny_in_of (lG ry) hd dd.mapOf ?_;rw[<-(rel.val k).cQ,<-l];exact h _ (I.tok _)
 ·subst ey;cases(show u=Pd b from ry);obtain⟨z,hd,xs,rel,dd⟩:=lI I.Cg e;refine wpAny_in_heap (SE hu) (ip I.Cg eb) hd dd ?_;have q:=(rel.val k).cQ;rw[Sm]at q;rw[<-q,<-l];exact h _ (I.tok _)
theorem vL(hu:A.units+1<Qr)(I:Inv X pins σ H s)(g:jh H a y o)(ry:RelV y u)(h:∀s',Inv X pins σ H s'->Q (.bool (!o.isSome)) s'):
  OZ (O9 X.prog X.w) A (QC .NotIn u (.ref a)) Q E s:=by
 rcases g with⟨kvs,k,e,ey,l⟩|⟨kvs,k,b,e,ey,eb,l⟩
 ·subst ey;obtain⟨z,hd,vs,rel,dd⟩:=lH I.Cg e;refine wpAny_notIn_of (lG ry) hd dd.mapOf ?_;rw[<-(rel.val k).cQ,<-l];exact h _ (I.tok _)
 ·subst ey;cases(show u=Pd b from ry);obtain⟨z,hd,xs,rel,dd⟩:=lI I.Cg e;refine Xd (SE hu) (ip I.Cg eb) hd dd ?_;have q:=(rel.val k).cQ;rw[Sm]at q;rw[<-q,<-l];exact h _ (I.tok _)
theorem oR(I:Inv X pins σ H s)(mu:Hn (H a))(hs:Qu a s.heap h')(he:∃q,h'.get? a=Od q)(new:aW X.prog X.w (upd H a ob) h' a ob):
  Inv X pins σ (upd H a ob) {s with heap:=h',toks:=t' } :=
 I.write (x:=a) (e:=a) mu (.inl rfl) (λb q hb z=>(hs.2 b hb).trans z) he new
theorem yF(z:kvs.length<=OV)(hd:(a==Qp)=OR)(rel:KV kvs vs)(dd:h'.DictOf (aL P w) a vs):
  aW P w H' h' a (.dK kvs):=⟨z,hd,vs,rel,dd⟩
theorem qH(hu:A.units+1<Qr)(I:Inv X pins σ H s)(g:sk H a y v H')(ry:RelV y u)(rv:RelV v r)(h:∀s',Inv X pins σ H' s'->Q () s'):
  OZ (O9 X.prog X.w) A (VL (.ref a) u r) Q E s:=by
 rcases g with⟨kvs,k,e,ey,l,eH⟩|⟨kvs,k,b,e,ey,eb,l,eH⟩
 ·subst ey eH;obtain⟨z,hd,vs,rel,dd⟩:=xH I.Cg e;have hz:vs.length<=OV:=by rw[<-rel.length];exact z
  have hl:(putK kvs k v).length<=OV:=by have:=gA kvs k v;omega
  refine wpAny_setItem_pairs (hsz:=hz) (lG ry) dd λh' Ja hs=>h _ ?_;have he:∃q,h'.get? a=Od q:=let ⟨q,_,_,hq,_⟩:=Ja;⟨q,hq⟩;exact oR I (by rw[e];exact Tw) hs he (yF hl hd (rel.put k rv) Ja)
 ·subst ey eH;cases(show u=Pd b from ry);obtain⟨z,hd,xs,rel,dd⟩:=AA I.Cg e;have hz:xs.length<=OV:=by rw[<-Paired.length rel];exact z
  have hl:(putK kvs k v).length<=OV:=by have:=gA kvs k v;omega
  refine Wu (hsz:=hz) (SE hu) (ip I.Cg eb) dd λh' Ja hs=>h _ ?_;obtain⟨q,es,ep,hq,h2,h3,h4,_,h5⟩:=Ja;refine oR I (by rw[e];exact Tw) hs ⟨q,hq⟩ ⟨hl,hd,_,(rel.put k eb rv).keeps λc ys ec=>?_,q,es,ep,hq,h2,h3,h4,h5⟩;rw[ao (rH ec e (λz=>nomatch z))];exact ec
end
section
end
theorem lJ(I:Inv X pins σ H s)(g:jh H a y o):s.TypeIs (.ref a) "dict":=by
 rcases g with⟨kvs,k,e,_,_⟩|⟨kvs,k,b,e,_,_,_⟩
 ·obtain⟨_,_,vs,_,dd⟩:=lH I.Cg e;exact dd.typeIs
 ·obtain⟨_,_,xs,_,dd⟩:=lI I.Cg e;exact dd.typeIs
section
end
theorem sm(h:QA)(hb:Qp<h.objs.size):aW P w H (h.push {cls:=.type "dict",data:=.dict #[]}) h.objs.size (.dK []) :=
 ⟨Pt _,beq_eq_false_iff_ne.mpr (Qs (O' hb)),[],.nil,XA h⟩
def yG:TE:=λ_ H Q=>∀p,H p=OQ->Q (.ref p) (upd H p (.dK []))
section
theorem so:PE X (.Dict [] [] pos) yG:=λpins s σ H Q I h =>
 W5 ⟨.ref s.heap.objs.size,_,I.laid (a:=s.heap.objs.size) (o:=.dK []) (t':=s.toks) (λ_ _ q=>OT _ q) (O2 _) (sm s.heap I.big),rfl,h _ (I.Cg.fresh (O2 _))⟩
end
section
end
section
end
section
end
section
end
end L2
namespace CQ
open PySem PySem.Builtin.Str PySem.StrLaws
def sr(i:Int):Str:=Rq (Xn i)
theorem app_list(x y:Str):(x++y).cps.toList=x.cps.toList++y.cps.toList:=by
 show(x.cps++y.cps).toList=_;simp
end CQ
namespace L2
open PySem PySem.Spec PyProof.Rows
def aY(env:Env):List (Str×Ru)->List (Str×O8)->List (Str×O8)
 |[],cs=>cs
 |(n,k)::r,cs=>aY env r (if k==.free then(match env.cells.lookup n with|some a=>(n,a)::cs|none=>cs) else cs)
theorem cR(h:∀y∈scope.names,y.2=.free->∃a,env.cells.lookup y.1=Od a):closureFor scope env=pure (aY env scope.names []):=by
 unfold closureFor;generalize scope.names=names at h
 suffices H:∀cs,(forIn names cs (λ(x:Str×Ru) (r:List (Str×O8))=>if (x.2==QX)=OP then do let a <-cellOf env x.1;pure (Rp ((x.1,a)::r)) else pure (Rp r)):Sem (List (Str×O8)))=pure (aY env names cs) by
  have:=H [];exact congrArg (λ(m:Sem (List (Str×O8)))=>m >>= pure) this
 induction names with
 |nil=>intro cs;rfl
 |cons y r ih =>
  intro cs;obtain⟨n,k⟩:=y;rw[List.forIn_cons];have Lh:=ih λy hy=>h y (PV _ hy);by_cases hk:(k==QX)=OP
  ·obtain⟨a,ha⟩:=h (n,k) PY (by simpa using hk);have Mn:env.cells.lookup n=Od a:=ha;simp only[hk,if_true,cellOf,Mn,aY];exact Lh _
  ·simp only[hk,XQ,aY];exact Lh _
theorem cZ:∀(names:List (Str×Ru)) (cs:List (Str×O8)),(∀n c,cs.lookup n=Od c->env.cells.lookup n=Od c)->∀n c,(aY env names cs).lookup n=Od c->env.cells.lookup n=Od c
 |[],_,h=>h
 |(m,k)::r,cs,h=>by
  unfold aY;refine cZ r _ λn c e=>?_;by_cases hk:(k==QX)=OP
  ·rw[XI hk]at e;cases q:env.cells.lookup m with
   |none=>rw[q]at e;exact h n c e
   |some a =>
    rw[q]at e;simp only[PJ]at e;cases hx:n==m with
    |true =>
     rw[hx]at e;have e':n=m:=by simpa using hx
     subst e';simp only at e;rw[q];exact e
    |false=>rw[hx]at e;exact h n c e
  ·rw[XM hk]at e;exact h n c e
theorem gB(ha:env.cells.lookup n=Od a):∀(names:List (Str×Ru)) (cs:List (Str×O8)),cs.lookup n=Od a->(aY env names cs).lookup n=Od a
 |[],_,h=>h
 |(m,k)::r,cs,h=>by
  unfold aY;refine gB ha r _ ?_;by_cases hk:(k==QX)=OP
  ·rw[XI hk];cases q:env.cells.lookup m with
   |none=>exact h
   |some b =>
    simp only[PJ];cases hx:n==m with
    |true =>
     have e':n=m:=by simpa using hx
     subst e';rw[ha]at q;cases q;rfl
    |false=>exact h
  ·rw[XM hk];exact h
theorem eR(ha:env.cells.lookup n=Od a):∀(names:List (Str×Ru)) (cs:List (Str×O8)),(n,QX)∈names->(aY env names cs).lookup n=Od a
 |[],_,h=>by cases h
 |(m,k)::r,cs,h=>by
  unfold aY;rcases O_.mp h with e|e
  ·cases e;refine gB ha r _ ?_;rw[XI (by decide),ha];simp[PJ]
  ·exact eR ha r _ e
theorem bo{env:Env}:∀{names:List (Str×Ru)}{x:Str}{k:Ru},
  (names.map λ(n,k)=>if (k==QX&&env.scope.kind==.function&&env.kindOf n==Od .cell) then(n,NameKind.cell) else(n,k)).lookup x=Od k ->
  names.lookup x=Od k\/(k=.cell/\names.lookup x=Od .free)
 |[],_,_,h=>by simp at h
 |(n,k0)::r,x,k,h=>by
  have ih:=@bo env r x k;rw[O5]at h;by_cases hc:(k0==QX&&env.scope.kind==.function&&env.kindOf n==Od .cell)=OP
  ·simp only[XI hc,PJ]at h;cases hx:x==n with
   |true =>
    rw[hx]at h;have hf:k0=.free:=by
     have:=(QM.mp (QM.mp hc).1).1;simpa using this
    refine .inr ⟨by simpa using h.symm,by simp[PJ,hx,hf]⟩
   |false =>
    rw[hx]at h;rcases ih h with z|⟨z1,z2⟩
    ·exact .inl (by simp[PJ,hx,z])
    ·exact .inr ⟨z1,by simp[PJ,hx,z2]⟩
  ·simp only[XM hc,PJ]at h;cases hx:x==n with
   |true=>rw[hx]at h;exact .inl (by simpa[PJ,hx] using h)
   |false =>
    rw[hx]at h;rcases ih h with z|⟨z1,z2⟩
    ·exact .inl (by simp[PJ,hx,z])
    ·exact .inr ⟨z1,by simp[PJ,hx,z2]⟩
def C6(X:Cx)(N:List Str)(scope:Rg)(C:O8)(s:O7)(H:Hp)(ex:List O8):Cx where
 prog:=X.prog
 w:=X.w
 K:=X.K
 mg:=X.mg
 base:=X.base
 A:=X.A
 N:=N
 s₀:=s
 H₀:=H
 env:=Uq scope (aY X.env scope.names []) C X.env
 outer:=X.stack
 stack:=X.stack
 ex:=ex
 fn:=λ_=>OR
 calm:=X.calm
 pn:=[]
 xe:=λ_ _=>False
def cN(D N:List Str):Prop:=D.length=N.length/\∀(i:Nat) (y:Str),D[i]?=Od y->N[i]?=Od y\/y="."\/y=".."
theorem cN.refl(N:List Str):cN N N:=⟨rfl,λ_ _ h=>.inl h⟩
theorem cN.set{D N:List Str}(h:cN D N)(j:Nat){m:Str}(hm:m="."\/m=".."):cN (D.set j m) N:=by
 refine⟨by rw[Wj];exact h.1,λi y e=>?_⟩;by_cases hj:j=i
 ·subst hj;rw[List.getElem?_set,XI rfl]at e;split at e
  ·cases e;exact .inr hm
  ·cases e
 ·rw[Pk hj]at e;exact h.2 i y e
structure cO(X:Cx)(N own:List Str)(scope:Rg):Prop where
 kind:scope.kind=.function
 D7:∀y∈scope.names,y.2≠.cell
 names:∀y∈scope.names,y.2=.local->scope.names.lookup y.1=Od .local
 nd:N.Nodup
 pre:N.take own.length=own
 loc:∀y∈scope.names,y.2=.local->y.1∈own\/y.1=".0"
 Mo:(".0":Str)∉N
 tail:cN (N.drop own.length) X.N
 free:∀y∈scope.names,y.2=.free->X.env.scope.names.lookup y.1=Od .cell\/X.env.scope.names.lookup y.1=Od .free
 dot:∀y∈scope.names,y.1≠"."/\y.1≠".."
theorem mem_lookup{names:List (Str×Ru)}(h:names.lookup x=Od k):(x,k)∈names:=PySem.mem_of_lookup h
theorem cO.cells(S:cO X N own scope)(ok:X.Ok):∀y∈scope.names,y.2=.free->∃a,X.env.cells.lookup y.1=Od a:=λy hy hf=>by
 rcases S.free y hy hf with z|z
 ·exact ok.has y.1 (.inl z)
 ·exact ok.has y.1 (.inr z)
theorem su(S:cO X N own scope)(I:Inv X pins σ H s)
  (hC:s.heap.objs.size<=C) (EN:s4.os=s.os) (hg:s4.gens=s.gens) (keep:∀b o,s.heap.get? b=Od o->s4.heap.get? b=Od o) (ns:∃m,s4.heap.Ns C m)
  (hex:∀b∈ex,fi X pins H b/\b<s.heap.objs.size):Inv (C6 X N scope C s H ex) [] (Pc own.length OQ++σ) H s4:=by
 obtain⟨m0,Jb⟩:=ns;have sub:=cZ (env:=X.env) scope.names [] (λn c e=>by simp at e);have J1:∀b∈ex,b<C:=λb hb=>Pb (hex b hb).2 hC;have tl:own.length<=N.length:=by have:=congrArg S6 S.pre;rw[Qa]at this;omega
 refine⟨⟨I.ok.mod,?_,I.ok.glob,I.ok.blt,hC,λx y c h1 h2=>I.ok.inj x y c (sub x c h1) (sub y c h2),λx hx=>?_,λx c h _=>absurd (show OR=OP from h) (by decide),I.ok.hd,I.ok.frames,.inl rfl,λb hb=>⟨O' (J1 b hb),λx c e=>?_⟩,λb o e=>I.bs b o e,?_,λb o e hb=>?_,λb hb=>?_,I.stack,I.oK⟩,
  EN,(by rw[hg];exact I.bare),Un.kept keep,⟨m0,Jb,λi y v h1 h2 h3=>?_⟩,λx c e=>?_,I.Cg.fresh hC,λx c e=>I.CP x c (sub x c e),λp hp=>absurd (show p∈([]:List (O8×Obj)) from hp) (by simp),I.Cg.kept keep,?_⟩
 ·show(S8 scope X.env).kind=.function;exact S.kind
 ·
  have HG:(S8 scope X.env).names.lookup x=Od .cell\/(S8 scope X.env).names.lookup x=Od .free:=hx;have CW:scope.names.lookup x=Od .free:=by
   rcases HG with z|z
   ·rcases bo z with q|⟨_,q⟩
    ·exact absurd rfl (S.D7 _ (mem_lookup q))
    ·exact q
   ·rcases bo z with q|⟨q,_⟩
    ·exact q
    ·cases q
  obtain⟨a,ha⟩:=S.cells I.ok (x,.free) (mem_lookup CW) rfl;exact⟨a,eR ha scope.names [] (mem_lookup CW)⟩
 ·exact(hex b hb).1.2.2.2.2.1 x c (sub x c e)
 ·exact Qv I.ok.FQ I.sz
 ·obtain⟨f0,f1,f2,f3,f4,f5⟩:=(hex b hb).1;rcases f3 with z|z
  ·exact I.ok.EL b o e z
  ·exact absurd (Pb (O4 e) (Qv I.ok.FQ z)) (P0 _)
 ·intro DC;obtain⟨f0,f1,f2,f3,f4,f5⟩:=(hex b hb).1;rcases O_.mp (I.hJ b DC) with z|z
  ·exact f1 z
  ·exact f2 z
 ·
  have hi:own.length<=i:=by
   by_cases hi:i<own.length
   ·rw[PX (by simpa using hi),Qy]at h2;split at h2<;>cases h2
   ·omega
  rw[PB (by simpa using hi),RT]at h2;have Mp:(N.drop own.length)[i - own.length]?=Od y:=by
   rw[QH];have e:own.length+(i - own.length)=i:=by omega
   rw[e];exact h1
  have Ha:(S8 scope X.env).names.lookup y=Od .local\/(S8 scope X.env).names.lookup y=Od .cell\/(S8 scope X.env).names.lookup y=Od .free:=h3;have CW:scope.names.lookup y=Od .free:=by
   rcases Ha with z|z|z
   ·rcases bo z with q|⟨q,_⟩
    ·exfalso
     have Gr:y∈own:=by
      rcases S.loc (y,.local) (mem_lookup q) rfl with z|z
      ·exact z
      ·have z':y=".0":=z;exact absurd (P' h1) (by rw[z'];exact S.Mo)
     obtain⟨j,hj,ej⟩:=R9 Gr;have FZ:N[j]?=Od y:=by
      have e1:(N.take own.length)[j]?=Od y:=by rw[S.pre,Pn hj,ej]
      rw[UR hj]at e1;exact e1
     have:=hU S.nd FZ h1;omega
    ·cases q
   ·rcases bo z with q|⟨_,q⟩
    ·exact absurd rfl (S.D7 _ (mem_lookup q))
    ·exact q
   ·rcases bo z with q|⟨q,_⟩
    ·exact q
    ·cases q
  have hX:X.N[i - own.length]?=Od y:=by
   rcases S.tail.2 _ _ Mp with e|e|e
   ·exact e
   ·exact absurd e (S.dot _ (mem_lookup CW)).1
   ·exact absurd e (S.dot _ (mem_lookup CW)).2
  obtain⟨m,hn,hl⟩:=I.loc;have hv:X.env.scope.names.lookup y=Od .cell\/X.env.scope.names.lookup y=Od .free:=S.free (y,.free) (mem_lookup CW) rfl;obtain⟨u,r,l⟩:=hl _ y v hX h2 (.inr hv);refine⟨u,r,?_⟩;rcases l with⟨k,_⟩|⟨k,c,e,z⟩
  ·have k':X.env.scope.names.lookup y=Od .local:=k;rcases hv with q|q<;>(rw[k']at q;cases q)
  ·have hk:(S8 scope X.env).names.lookup y=Od .cell\/(S8 scope X.env).names.lookup y=Od .free:=by
    rcases Ha with q|q|q
    ·rcases bo q with q'|⟨q',_⟩
     ·rw[CW]at q';cases q'
     ·cases q'
    ·exact .inl q
    ·exact .inr q
   obtain⟨o,ho,hd⟩:=z;exact .inr ⟨hk,c,eR e scope.names [] (mem_lookup CW),o,keep c o ho,hd⟩
 ·obtain⟨v,o,ho,hd⟩:=I.cell x c (sub x c e);exact⟨v,o,keep c o ho,hd⟩
 ·rw[Pp,RT,I.len];have e:N.length=own.length+(N.drop own.length).length:=by rw[T7];omega
  show _=N.length;rw[e,S.tail.1]
theorem lK(I:Inv X pins σ H s)
  (I4:Inv (C6 X N scope C s H ex) FT σ' H4 s4) (hD:s.heap.objs.size<=D) (hC:s.heap.objs.size<=C) (J2:D≠C) (nD:H4 D=OQ) (rv:Vals ys A') (pl:s4.heap.PlainList D A'.toArray) (hl:ys.length<=OV)
  (sb:Qu C s4.heap h') (hex:∀b∈ex,fi X pins H b):Inv X pins σ (upd H4 D (.lst ys)) {s4 with heap:=h' }:=by
 have nC:H4 C=OQ:=I4.free;have lt:∀{b:O8} {o:Obj},s.heap.get? b=Od o->b≠C/\b≠D:=λe=>⟨O' (Pb (O4 e) hC),O' (Pb (O4 e) hD)⟩
 refine I.z_ (s':={s4 with heap:=h' }) (ch:=ex) I4.os ⟨λb o e n hb hx=>?_,λb o e n hb hx=>?_,λb o e n hx=>?_,λb o e hx=>?_,λb xs e=>?_,λb o u e=>?_,λb ps e=>?_⟩ (λa o e=>?_) I4.bare λb hb=>?_
 ·exact(sb.2 b (lt e).1).trans (I4.base.keep b o e n hb hx)
 ·obtain⟨sl,q⟩:=I4.base.slot b o e n hb hx;exact⟨sl,(sb.2 b (lt e).1).trans q⟩
 ·rw[ao (lt e).2];exact I4.base.free b o e n hx
 ·obtain⟨o',q⟩:=I4.base.there b o e hx;exact⟨o',(sb.2 b (lt e).1).trans q⟩
 ·have q:=I4.base.gT b xs e;rw[ao (ba q nD)];exact q
 ·have q:=I4.base.Dy b o u e;rw[ao (ba q nD)];exact q
 ·obtain⟨more,q⟩:=I4.base.DF b ps e;exact⟨more,by rw[ao (ba q nD)];exact q⟩
 ·by_cases ha:a=D
  ·subst ha;rw[au]at e;cases e;obtain⟨n,q⟩:=pl;exact⟨hl,A',n,rv,(sb.2 _ J2).trans q⟩
  ·rw[ao ha]at e;refine(I4.Cg a o e).j5 (λc v hc q=>(sb.2 c ?_).trans q) (λc q=>?_) λc xs q=>?_
   ·rintro rfl;rcases hc with z|z
    ·rw[<-z,nC]at e;cases e
    ·rw[nC]at z;cases z
   ·rw[ao (ba q nD)];exact q
   ·rw[ao (ba q nD)];exact q
 ·obtain⟨f0,f1,f2,f3,f4,f5⟩:=hex b hb;exact⟨f3,f1,f4,f5⟩
section
theorem km(I:Nat->O7->Prop)
  (turn:∀n s,I n s->OZ (O9 prog w) A (S9 it) (λr s₁=>match r with
   |none=>R (.ok .next) s₁
   |some v=>OZ (O9 prog w) A (Ti target it v) (λ_ s₁=>OZ (O9 prog w) A (SU target env v) (λ_ s₂ =>
     OZ (O9 prog w) A (forIn ifs OP λc r=>if r=OP then do let ok <-isTrue c env (QK c env);pure (Rp ok) else pure (Rp r)) (λok s₃ =>
      if ok=OP then OZ (O9 prog w) A (QK elt env) (λx s₄ =>
       OZ (O9 prog w) A (RC (.builtin "list.append") [acc,x]) (λ_ s₅=>∃m,m<n/\I m s₅) (TQ (O9 prog w) A env λe s'=>R (.error e) s') s₄) (TQ (O9 prog w) A env λe s'=>R (.error e) s') s₃
      else ∃m,m<n/\I m s₃) (TQ (O9 prog w) A env λe s'=>R (.error e) s') s₂) (TQ (O9 prog w) A env λe s'=>R (.error e) s') s₁) (TQ (O9 prog w) A env λe s'=>R (.error e) s') s₁) (TQ (O9 prog w) A env λe s'=>R (.error e) s') s)
  (n:Nat) (h:I n s) :
  Sa (O9 prog w) A (.compLoop (.ListComp elt [⟨target,iter,ifs,0⟩] scope pos) 0 it acc env) R s:=by
 refine codeAny_loop rfl I (λn s hI=>?_) n h;show OZ _ A ((compTurn (.ListComp elt [⟨target,iter,ifs,0⟩] scope pos) 0 it acc env).onRaise (λx=>do noteFrame x env;theTreesLotGoes x)) _ _ s;refine wpAny_noted ?_;rw[compTurn_list];refine OO (Vp (OO (Qb (turn n s hI) (λr s₁ h₁=>?_) λ_ _ h'=>h')));cases r with
 |none=>exact OU h₁
 |some v =>
  refine OO (Qb h₁ (λ_ Om Mq=>?_) λ_ _ h'=>h');refine OO (Qb Mq (λ_ s₂ h₂=>OO (Qb h₂ (λok s₃ h₃=>?_) λ_ _ h'=>h')) λ_ _ h'=>h');cases ok with
  |false=>exact OU ⟨rfl,h₃⟩
  |true =>
   exact OO (OO (Qb h₃ (λx s₄ h₄=>OO (Qb h₄ (λ_ s₅ h₅=>OU (OU ⟨rfl,h₅⟩)) λ_ _ h'=>h')) λ_ _ h'=>h'))
end
def Fw(X:Cx)(ifs:List PR)(t:TT):Prop :=
 ∀(pins:List (O8×Obj)) (s:O7) (σ:St) (H:Hp) (Q:Bool->Hp->Prop),Inv X pins σ H s->t σ H Q ->
  OZ (O9 X.prog X.w) X.A (forIn ifs OP λc r=>if r=OP then do let ok <-isTrue c X.env (QK c X.env);pure (Rp ok) else pure (Rp r)) (TP X pins σ Q) X.xe s
def B3:TT:=λ_ H Q=>Q OP H
theorem oS:Fw X [] B3:=λ_ _ _ H _ I h=>wpAny_tests_nil ⟨H,I,h⟩
theorem oU(h:PT X c t):Fw X [c] t:=λpins s σ H Q I q=>wpAny_tests_one (h pins s σ H Q I q)
def oV(k:Nat)(J:It)(g:TG)(tt:TT)(te:TE)(Q:VK)(σ:St)(H1:Hp):Prop :=
  ∃W:Nat->Nat->List V->Hp->Prop,(∃m,W 0 m [] H1)/\∀i m ys H,W i m ys H->ys.length<=OV /\
    ((J.stop i H/\∀p,H p=OQ->Q (.ref p) (upd H p (.lst ys))) \/
     (J.go i H/\∃NN:List V->Hp->Prop,(∀Fg H',NN Fg H'->∃m',m'<m/\W (i+1) m' Fg H')/\∀x H',J.IT i H x H'->g x (Pc k OQ++σ) H' λσ2 H2=>∃own:St,own.length=k/\σ2=own++σ /\
        tt σ2 H2 λb H3=>if b=OP then te σ2 H3 λy H4=>NN (ys++[y]) H4 else NN ys H3))
def sv(k:Nat)(wi:TI)(g:TG)(tt:TT)(te:TE):TE:=λσ H Q=>wi σ H λJ H1=>oV k J g tt te Q σ H1
section
theorem sy
  (S:cO X N own scope) (hc:X.calm=OP) (hg:∀C s H ex,PG (C6 X N scope C s H ex) tg g) (hf:∀C s H ex,Fw (C6 X N scope C s H ex) ifs tt) (he:∀C s H ex,PE (C6 X N scope C s H ex) elt te)
  (I:Inv X pins σ H s) (T:Turn X.prog X.w X.K tg J fp it tn) (st:tn 0 s.heap) (f2:∀b∈fp,fi X pins H b) (W:oV own.length J g tt te Q σ H)
  (hD:@Eq Nat D s.heap.objs.size) (hC:@Eq Nat C (s.heap.objs.size+1)) (EN:s4.os=s.os) (Mr:s4.gens=s.gens) (keep:∀b o,s.heap.get? b=Od o->s4.heap.get? b=Od o) (ns:∃m,s4.heap.Ns C m) (pl:s4.heap.PlainList D #[])
  (fin:∀s5 H5 ys A',Inv (C6 X N scope C s H fp) [] (Pc own.length OQ++σ) H5 s5->H5 D=OQ->Vals ys A'->s5.heap.PlainList D A'.toArray->ys.length<=OV->(∀p,H5 p=OQ->Q (.ref p) (upd H5 p (.lst ys)))->R (.ok .next) s5) :
  Sa (O9 X.prog X.w) X.A (.compStart (.ListComp elt [⟨tg,iter,ifs,0⟩] scope pos) 0 (.ref it) (.ref D) (Uq scope (aY X.env scope.names []) C X.env)) R s4:=by
 have Fx:∀b∈fp,@Ro Nat _ b s.heap.objs.size:=λb hb=>by
  obtain⟨o,e,_⟩:=T.obj 0 s.heap st b hb;exact O4 e
 have I4:Inv (C6 X N scope C s H fp) [] (Pc own.length OQ++σ) H s4:=su S I ⋯ EN Mr keep ns λb hb=>⟨f2 b hb,Fx b hb⟩
 have Hb:tn 0 s4.heap:=T.keep 0 s.heap s4.heap st λb _ o e=>keep b o e;have nD:H D=OQ:=I.Cg.fresh ⋯;obtain⟨W,⟨m0,w0⟩,V4⟩:=W;generalize D8:C6 X N scope C s H fp=X' at I4 fin;have eP:X'.prog=X.prog:=by rw[<-D8];rfl
 have ew:X'.w=X.w:=by rw[<-D8];rfl
 have eK:X'.K=X.K:=by rw[<-D8];rfl
 have ec:X'.calm=OP:=by rw[<-D8];exact hc
 have eA:X'.A=X.A:=by rw[<-D8];rfl
 have ee:X'.env=Uq scope (aY X.env scope.names []) C X.env:=by rw[<-D8];rfl
 have J3:X'.xe=λ_ _=>False:=by rw[<-D8];rfl
 have el:X'.env.locals=C:=by rw[ee];rfl
 have Ms:PG X' tg g:=by rw[<-D8];exact hg _ _ _ _
 have Mt:Fw X' ifs tt:=by rw[<-D8];exact hf _ _ _ _
 have J4:PE X' elt te:=by rw[<-D8];exact he _ _ _ _
 have s0:X'.s₀=s:=by rw[<-D8];rfl
 have HH:X'.pn=[]:=by rw[<-D8];rfl
 have J5:∀{H':Hp} {o:Obj},(∀b∈fp,H' b=OQ)->∀b∈fp,fi X' [(D,o)] H' b:=λ{H' o} hn b hb=>by
  have ex:X'.ex=fp:=by rw[<-D8];rfl
  refine⟨hn b hb,?_,?_,.inl (by rw[ex];exact hb),λx c e=>?_,λp hp=>?_⟩
  ·rw[el];have:=Fx b hb;exact O' (by show @Ro Nat _ b C;omega)
  ·have e1:X'.fs=Eh X.stack:=by rw[<-D8];rfl
   rw[e1];intro z;obtain⟨f0,f1,Mu,f3,f4,f5⟩:=f2 b hb;rcases O_.mp (I.hJ b z) with q|q
   ·exact f1 q
   ·exact Mu q
  ·have e1:X'.env.cells=aY X.env scope.names []:=by rw[ee];rfl
   rw[e1]at e;exact(f2 b hb).2.2.2.2.1 x c (cZ scope.names [] (λn c e=>by simp at e) x c e)
  ·rw[HH,PH]at hp;have:p=(D,o):=by simpa using hp
   subst this;have:=Fx b hb;exact QN (by show @Ro Nat _ b D;omega)
 have J6:∀{σ':St} {H':Hp} {s':O7} {o:Obj},Inv X' [] σ' H' s'->H' D=OQ->s'.heap.get? D=Od o->(∀v,o.data≠.cell v)->Inv X' [(D,o)] σ' H' s':=λ{σ' H' s' o} I' n e d =>
  I'.dU λp hp=>by
   have:p=(D,o):=by simpa using hp
   subst this;refine⟨e,n,?_,?_,d⟩
   ·rw[el];exact O' (by show @Ro Nat _ D C;omega)
   ·have e1:X'.fs=Eh X.stack:=by rw[<-D8];rfl
    rw[e1];intro z;have zz:(D:O8)∈Eh X.stack:=z;rcases O_.mp (I.hJ D zz) with q|q
    ·have:=I.lt;rw[<-q]at this;exact absurd this (by show ¬@Ro Nat _ D s.heap.objs.size;omega)
    ·exact I.z9 (a:=D) ⋯ q
 have start:∀s':O7,s'=s4->Sa (O9 X.prog X.w) X.A (.compLoop (.ListComp elt [⟨tg,iter,ifs,0⟩] scope pos) 0 (.ref it) (.ref D) (Uq scope (aY X.env scope.names []) C X.env)) R s':=by
  rintro s' rfl;refine km (λn s'=>∃i ys A' H',Inv X' [] (Pc own.length OQ++σ) H' s'/\tn i s'.heap/\(∀b∈fp,H' b=OQ)/\H' D=OQ/\Vals ys A'/\s'.heap.PlainList D A'.toArray/\W i n ys H') ?_ m0
   ⟨0,[],[],H,I4,Hb,λb hb=>(f2 b hb).1,nD,.nil,pl,w0⟩
  rintro n s3 ⟨i,ys,A',H3,I3,CY,Hu,Li,Jc,⟨nn,Mw⟩,w3⟩;obtain⟨hlen,Ek⟩:=V4 i n ys H3 w3;have IP:=J6 I3 Li Mw (λv z=>by have z':Data.seq _ _=UX v:=z;cases z');rcases Ek with⟨stop,qn⟩|⟨go,NN,Lj,turn⟩
  ·have d:=T.done X' eP ew eK ec i _ s3 _ H3 (TQ (O9 X.prog X.w) X.A (Uq scope (aY X.env scope.names []) C X.env) λe s'=>R (.error e) s') IP (J5 Hu) CY stop;rw[eA]at d;refine Cm d λr s4 ⟨hr,I5⟩=>?_;subst hr;have e5:=(I5.pin (D,({cls:=.type "list",data:=.seq A'.toArray nn}:Obj)) (by rw[HH];simp)).1;exact fin s4 H3 ys A' (I5.dU λp hp=>by cases hp) Li Jc ⟨nn,e5⟩ hlen qn
  ·have d:=T.item X' eP ew eK ec i _ s3 _ H3 (TQ (O9 X.prog X.w) X.A (Uq scope (aY X.env scope.names []) C X.env) λe s'=>R (.error e) s') IP (J5 Hu) CY go;rw[eA]at d;refine Cm d λr s4 ⟨u,hr,h4⟩=>?_;subst hr;refine Cm h4 λ_ s5 ⟨x,H5,I5,r5,y5,FV,JP⟩=>?_;have Oo:H5 D=OQ:=(I5.pin (D,({cls:=.type "list",data:=.seq A'.toArray nn}:Obj)) (by rw[HH];simp)).2.1;have JQ:=I5.pinned (J5 JP) (T.obj _ _ FV);have a6:=Ms _ s5 _ H5 x u _ JQ r5 (turn x H5 y5);rw[eP,ew,eA,ee,J3]at a6;refine Qb a6 (λ_ s6 ⟨σ6,H6,I6,q6⟩=>?_) λ_ _ z=>Ri z;obtain⟨ow,how,rfl,q6⟩:=q6;have a7:=Mt _ s6 _ H6 _ I6 q6;rw[eP,ew,eA,ee,J3]at a7;refine Qb a7 (λb s7 ⟨H7,I7,q7⟩=>?_) λ_ _ z=>Ri z;have back:∀{s8:O7} {H8:Hp} {Fg:List V} {its':List OW} {nn':Nat},Inv X' [] (ow++σ) H8 s8->tn (i+1) s8.heap->(∀b∈fp,H8 b=OQ)->H8 D=OQ->Vals Fg its'->s8.heap.PlainList D its'.toArray->(∃m',m'<n/\W (i+1) m' Fg H8) ->
     ∃m,m<n/\∃i ys A' H',Inv X' [] (Pc own.length OQ++σ) H' s8/\tn i s8.heap/\(∀b∈fp,H' b=OQ)/\H' D=OQ/\Vals ys A'/\s8.heap.PlainList D A'.toArray/\W i m ys H':=λ{s8 H8 Fg its' nn'} I8 Mx My n8 Mz MA w8=>by
    obtain⟨m',hm,w8⟩:=w8;refine⟨m',hm,i+1,Fg,its',H8,I8.weak (by simp[how]) (λj v e=>?_),Mx,My,n8,Mz,MA,w8⟩;by_cases hj:j<own.length
    ·rw[PX (by simpa using hj),Qy]at e;split at e<;>cases e
    ·rw[PB (by simpa using(Nat.not_lt.mp hj)),RT]at e;rw[PB ⋯,how];exact e
   have tell:∀{σ':St} {H8:Hp} {s8:O7},Inv X' ([(D,({cls:=.type "list",data:=.seq A'.toArray nn}:Obj))]++hZ fp s5.heap) σ' H8 s8->s8.heap.get? D=Od {cls:=.type "list",data:=.seq A'.toArray nn}/\H8 D=OQ/\tn (i+1) s8.heap/\∀b∈fp,H8 b=OQ:=λ{σ' H8 s8} I8=>by
    have p1:=I8.pin (D,({cls:=.type "list",data:=.seq A'.toArray nn}:Obj)) (by rw[HH];simp);refine⟨p1.1,p1.2.1,T.keep _ _ _ FV λb hb o e=>(I8.pin (b,o) (PM _ (PM _ (cY hb e)))).1,λb hb=>?_⟩;obtain⟨o,e,d⟩:=T.obj _ _ FV b hb;exact(I8.pin (b,o) (PM _ (PM _ (cY hb e)))).2.1
   cases b with
   |false =>
    rw[XM Po]at q7 ⊢;obtain⟨p1,p2,p3,p4⟩:=tell I7;exact back (nn':=0) (I7.dU λp hp=>by cases hp) p3 p4 p2 Jc ⟨nn,p1⟩ (Lj _ _ q7)
   |true =>
    rw[XI rfl]at q7 ⊢;have a8:=J4 _ s7 _ H7 _ I7 q7;rw[eP,ew,eA,ee,J3]at a8;refine Qb a8 (λy s8 ⟨yv,H8,I8,r8,q8⟩=>?_) λ_ _ z=>Ri z;obtain⟨p1,p2,p3,p4⟩:=tell I8;have hsz:A'.toArray.size<=OV:=by rw[O0,<-Jc.length];exact hlen
    refine wpAny_list_append_plain (hsz:=hsz) ⟨nn,p1⟩ λh9 MB Lk=>?_;have MC:Inv X' [] (ow++σ) H8 s8:=I8.dU λp hp=>by cases hp
    have Jd:∀x c,X'.env.cells.lookup x=Od c->c≠D:=λx c e=>by
     have e1:X'.env.cells=aY X.env scope.names []:=by rw[ee];rfl
     rw[e1]at e;have q:=cZ scope.names [] (λn c e=>by simp at e) x c e;obtain⟨v,z⟩:=I.cell x c q;have:@Ro Nat _ c s.heap.objs.size:=z.lt;exact O' (by show @Ro Nat _ c D;omega)
    have I9:Inv X' [] (ow++σ) H8 {s8 with heap:=h9,toks:=s8.toks}:=MC.turned (it:=D) (λb o hb e=>(Lk.2 b hb).trans e) p2 (by rw[el];exact O' (by show @Ro Nat _ D C;omega)) (.inr (by rw[s0];show @W0 Nat _ s.heap.objs.size D;omega)) Jd (λp hp=>by rw[HH]at hp;cases hp);have MD:(A'++[y]).toArray=A'.toArray.push y:=by simp
    refine back (nn':=0) (s8:={s8 with heap:=h9,toks:=s8.toks}) I9 (T.keep _ _ _ p3 λb hb o e=>(Lk.2 b ?_).trans e) p4 p2 (Jc.append (.cons r8 .nil)) (by rw[MD];exact MB) (Lj _ _ q8);have:=Fx b hb;exact O' (by show @Ro Nat _ b D;omega)
 exact codeAny_compStart_list (start _ rfl) (T.self _ _ _ _ _ Hb (start _ rfl))
theorem iq{RR:OW->O8->Result->O7->Prop}
    (S:cO X N own scope) (hc:X.calm=OP) (hg:∀C s H ex,PG (C6 X N scope C s H ex) tg g) (hf:∀C s H ex,Fw (C6 X N scope C s H ex) ifs tt) (he:∀C s H ex,PE (C6 X N scope C s H ex) elt te)
 (I:Inv X pins σ H s) (T:Turn X.prog X.w X.K tg J fp it tn) (st:tn 0 s.heap) (f2:∀b∈fp,fi X pins H b) (W:oV own.length J g tt te Q σ H)
    (fin:∀D C s5 H5 ys A',@Eq Nat D s.heap.objs.size->@Eq Nat C (s.heap.objs.size+1)->Inv (C6 X N scope C s H fp) [] (Pc own.length OQ++σ) H5 s5->H5 D=OQ->Vals ys A'->s5.heap.PlainList D A'.toArray->ys.length<=OV->(∀p,H5 p=OQ->Q (.ref p) (upd H5 p (.lst ys)))->RR (.ref D) C (.ok .next) s5) :
    OZ (O9 X.prog X.w) X.A (VM []) (λacc s₃=>OZ (O9 X.prog X.w) X.A (newFunctionEnv scope X.env.globals (aY X.env scope.names []) [] X.env.qual OQ .none (Od X.env)) (λHI s₄ =>
      Sa (O9 X.prog X.w) X.A (.compStart (.ListComp elt [⟨tg,iter,ifs,0⟩] scope pos) 0 (.ref it) acc {HI with scope:=S8 scope X.env}) (RR acc HI.locals) s₄) E s₃) E s:=by
  refine Pz (wpAny_newFunctionEnv S.D7 (by intro y hy;simp at hy) (λh₁ Gu Fy=>?_) S.kind)
  dsimp only at Gu Fy ⊢
  generalize J7:s.heap.push {cls:=.type "list",dict:=OQ,data:=.seq ([]:List OW).toArray}=H2 at Gu Fy ⊢;have hC:H2.objs.size=s.heap.objs.size+1:=by rw[<-J7,UA]
  have J2:s.heap.objs.size≠H2.objs.size:=by rw[hC];exact O' (QW _)
  have below:∀b:O8,b<s.heap.objs.size->b≠H2.objs.size:=λb hb=>O' (by have DC:@Ro Nat _ b s.heap.objs.size:=hb;show @Ro Nat _ b H2.objs.size;omega);have old:∀b o,s.heap.get? b=Od o->h₁.get? b=Od o:=λb o e=>Fy.extBut b o (below b (O4 e)) (OT _ (J7▸OT _ e));have CC:h₁.PlainList s.heap.objs.size #[]:=⟨_,Fy.extBut _ _ J2 (OT _ (J7▸O3 _ rfl))⟩
  exact sy (s:=s) (s4:={s with heap:=h₁,toks:=s.toks+([]:List (Str×OW)).length}) (C:=H2.objs.size) (D:=s.heap.objs.size) S hc hg hf he I T st f2 W rfl hC rfl rfl old ⟨_,Gu⟩ CC
    λs5 H5 ys A' I5 n5 HJ HK HL q5=>fin _ _ s5 H5 ys A' rfl hC I5 n5 HJ HK HL q5
theorem vM(S:cO X N own scope)(hc:X.calm=OP)(hi:PI X tg iter wi)(hg:∀C s H ex,PG (C6 X N scope C s H ex) tg g)(hf:∀C s H ex,Fw (C6 X N scope C s H ex) ifs tt)(he:∀C s H ex,PE (C6 X N scope C s H ex) elt te)
  (hs:∀x,QQ iter X.env x=pure x:=by intro _;rfl):PE X (.ListComp elt [⟨tg,iter,ifs,0⟩] scope pos) (sv own.length wi g tt te):=by
 intro pins s σ H Q I h;rw[eval_ListComp];refine Vr (use:=OQ) (cl:=aY X.env scope.names []) rfl hs (cR (S.cells I.ok)) S.kind S.names ?_;refine Cm (hi pins s σ H _ I h) λv s1 h1=>Cm h1 λIU s2 h2=>?_;obtain⟨it,fp,tn,J,H2,e,I2,T,st2,f2,W⟩:=h2;subst e;refine iq (RR:=λacc C=>compPost (O9 X.prog X.w) X.A X.xe OQ (EP X pins σ Q) acc C) S hc hg hf he I2 T st2 f2 W ?_;intro D C s5 H5 ys A' hD hC I5 n5 HJ HK HL q5;obtain⟨m5,J8,_⟩:=I5.loc;exact⟨m5,J8,λh' sb=>⟨.ref D,_,lK I2 I5 (Vh hD.symm) (by show @W0 Nat _ s2.heap.objs.size C;omega) (O' (by show @Ro Nat _ D C;omega)) n5 HJ HK HL sb f2,rfl,q5 D n5⟩⟩
theorem vN(S:cO X N own scope)(hc:X.calm=OP)(hN:X.N.Nodup)(Je:X.N[i]?=Od y)(hy:X.env.scope.names.lookup y=Od .local)
  (hi:PI X tg iter wi) (hg:∀C s H ex,PG (C6 X N scope C s H ex) tg g) (hf:∀C s H ex,Fw (C6 X N scope C s H ex) ifs tt) (he:∀C s H ex,PE (C6 X N scope C s H ex) elt te)
  (F0:Sw (.ListComp elt [⟨tg,iter,ifs,0⟩] scope pos) (Od (.Name y py)) Eu.line X.env=pure OP:=by rfl)
  (hs:∀x,QQ iter X.env x=pure x:=by intro _;rfl):PS X (.Assign [.Name y py] (.ListComp elt [⟨tg,iter,ifs,0⟩] scope pos) Eu) (yl (sv own.length wi g tt te) (oN i)):=by
 intro pins s σ H D I h;rw[exec_Assign_Name_used _ _ _ _ F0];refine OO (Vp (OO ?_));show OZ _ X.A (do let _ <-comprehension (.ListComp elt [⟨tg,iter,ifs,0⟩] scope pos) scope X.env _ (VM []) OR (QK iter X.env) (Od (SU (.Name y py) X.env))) _ _ s;refine OO (Qb (Vr (use:=Od (SU (.Name y py) X.env)) (cl:=aY X.env scope.names []) (Q:=λ_ s'=>SP X pins D .next s') rfl hs (cR (S.cells I.ok)) S.kind S.names ?_) (λ_ s' hq=>OU (OU hq)) λ_ _ e=>e);refine Cm (hi pins s σ H _ I h) λv s1 h1=>Cm h1 λIU s2 h2=>?_;obtain⟨it,fp,tn,J,H2,e,I2,T,st2,f2,W⟩:=h2;subst e;refine iq (RR:=λacc C=>compPost (O9 X.prog X.w) X.A X.xe (Od (SU (.Name y py) X.env)) (λ_ s'=>SP X pins D .next s') acc C) S hc hg hf he I2 T st2 f2 W ?_;intro DD C s5 H5 ys A' hD hC I5 n5 HJ HK HL q5;obtain⟨m5,J8,_⟩:=I5.loc;have ME:H5 C=OQ:=I5.free;have B:Inv X pins σ (upd H5 DD (.lst ys)) {s5 with heap:=s5.heap}:=lK I2 I5 (Vh hD.symm) (by show @W0 Nat _ s2.heap.objs.size C;omega) (O' (by show @Ro Nat _ DD C;omega)) n5 HJ HK HL (UO ..) f2;show OZ _ X.A (SU (.Name y py) X.env (.ref DD)) _ _ s5;refine WM (jr (s:=s5) B hN Je (.inl hy) (show RelV (.ref DD) (.ref DD) from rfl) (λs6 I6 ⟨a,sb,ha⟩=>?_) (.inr hy));have Jd:@Ro Nat _ X.env.locals C:=by have:@Ro Nat _ X.env.locals s2.heap.objs.size:=I2.lt;omega
 have ER:∀x c,X.env.cells.lookup x=Od c->c≠C:=λx c e=>by
  obtain⟨v,z⟩:=I2.cell x c e;have:@Ro Nat _ c s2.heap.objs.size:=z.lt;exact O' (by show @Ro Nat _ c C;omega)
 have MF:C≠a:=by
  rcases ha with z|z
  ·rw[z];exact QN Jd
  ·exact(ER _ _ z).symm
 refine⟨m5,J8.sameBut sb MF,λh' MG=>?_⟩;refine⟨σ.set i (Od (.ref DD)),upd H5 DD (.lst ys),I6.turned (it:=C) (t':=s6.toks) (λb o hb e=>(MG.2 b hb).trans e) ?_ (QN Jd) (.inr (by have:@W0 Nat _ X.s₀.heap.objs.size s2.heap.objs.size:=I2.sz;show @W0 Nat _ X.s₀.heap.objs.size C;omega)) ER (λp hp=>?_),q5 DD n5⟩
 ·rw[ao (QN (by show @Ro Nat _ DD C;omega))];exact ME
 ·have:@Ro Nat _ p.1 s2.heap.objs.size:=O4 (I2.pin p hp).1;exact O' (by show @Ro Nat _ p.1 C;omega)
end
section
end
section
def AB:V->Option Int->Option Int->Hp->VK->Prop:=λx lo hi H Q=>∃z,x=.str z/\z.length<=OV/\Q (.str (PySem.StrLaws.sliceText z lo hi)) H
theorem ji(x:Str)(lo hi:Option Int)(hz:x.length<=OV):(PySem.StrLaws.sliceText x lo hi).length<=OV:=Qv (Txt.slice_le x lo hi) hz
theorem yH:Ff X AB:=by
 intro pins s σ H x v vl vu lo hi sl Q I rx hs pl pu h;obtain⟨z,rfl,hz,q⟩:=h;obtain⟨t,rfl⟩:=rx;refine⟨"str",_,Xe.lookup,SD _ _ _,?_⟩;have fin:(PySem.StrLaws.sliceText z lo hi).length<=OV/\∀t' k,EP X pins σ Q (.str (PySem.StrLaws.sliceText z lo hi) t') {s with toks:=k}:=⟨ji z lo hi hz,λt' k=>⟨.str _,H,I.tok k,⟨_,rfl⟩,q⟩⟩
 cases pl with
 |none =>
  cases pu with
  |none=>exact RN (l:=OQ) (u:=OQ) (st:=OQ) hs rfl (Th fin)
  |int j tj=>exact RN (l:=OQ) (u:=Od (j,tj)) (st:=OQ) hs rfl (Th fin)
 |int i ti =>
  cases pu with
  |none=>exact RN (l:=Od (i,ti)) (u:=OQ) (st:=OQ) hs rfl (Th fin)
  |int j tj=>exact RN (l:=Od (i,ti)) (u:=Od (j,tj)) (st:=OQ) hs rfl (Th fin)
theorem jB:∀(l:List (Str×Tok)),Vals (l.map λp=>V.str p.1) (Vz l)
 |[]=>.nil
 |(x,t)::r=>.cons ⟨t,rfl⟩ (jB r)
theorem ft:∀{ys:List Str}{A':List OW},Vals (ys.map V.str) A'->∃l:List (Str×Tok),A'=Vz l/\l.map (·.1)=ys
 |[],_,.nil=>⟨[],rfl,rfl⟩
 |y::ys,_,.cons r t=>by
  obtain⟨tk,rfl⟩:=r;obtain⟨l,rfl,e⟩:=ft t;exact⟨(y,tk)::l,rfl,by rw[O5,e]⟩
theorem sA:IY X "str.split" (λx xs H Q=>∃a b,x=.str a/\xs=[.str b]/\(b.length==0)=OR/\a.length+2<=OV /\
  ∀p,H p=OQ->Q (.ref p) (upd H p (.lst ((U2 a b).map V.str)))):=by
 intro pins s σ H x xs v us Q I rx rs h;obtain⟨x,y,rfl,rfl,hy,hz,q⟩:=h;obtain⟨t,rfl⟩:=rx;obtain⟨u0,rfl,u,rfl⟩:=vals1 rs;have hf:H s.heap.objs.size=OQ:=I.Cg.fresh (O2 _);have q':=q _ hf;have fin:∀(l:List (Str×Tok)) (k:Nat),l.length<=OV->l.map (·.1)=U2 x y->EP X pins σ Q (.ref s.heap.objs.size) {s with toks:=k,heap:=s.heap.push {cls:=.type "list",data:=.seq (Vz l).toArray}}:=λl k hl e =>
  ⟨.ref s.heap.objs.size,_,I.laid (t':=k) (o:=.lst ((U2 x y).map V.str)) (λb u e=>OT _ e) (O2 _)
   ⟨by rw[<-e,OY,OY];exact hl,Vz l,_,by rw[<-e,PK];exact jB l,O3 _ rfl⟩,rfl,q'⟩
 have one:1<=OV:=by decide
 cases h1:(OX (x.length<y.length)||decide (UC x<UC y))
 ·cases hf:(Rk x y 0 x.length (x.length+1)).isEmpty
  ·have hn:(Rh x (Rk x y 0 x.length (x.length+1)) y.length).length<=OV:=by
    have:=PySem.StrLaws.occ_length_le x y 0 x.length (x.length+1);simp only[Rh,OY,Wi,Pw,Pp];omega
   refine RJ Uu (SD _ _ _) T_ (TZ _ _) (meets_str_split_sep x y t u h1 hy hf ⋯ hn) ?_;show wants _ _ _ {s with toks:=_,heap:=s.heap.push {cls:=.type "list",data:=.seq (strsFrom s.toks (Rh x (Rk x y 0 x.length (x.length+1)) y.length)).toArray}};rw[strsFrom_eq];refine fin (numbered s.toks _) _ ?_ ((Xq _ _).trans ((XM (ne_true_of_eq_false h1)).trans (XM (ne_true_of_eq_false hf))).symm);have e:=congrArg S6 (Xq s.toks (Rh x (Rk x y 0 x.length (x.length+1)) y.length));rw[OY]at e;omega
  ·exact RJ Uu (SD _ _ _) T_ (TZ _ _) (meets_str_split_not_found x y t u h1 hy hf)
    (fin [(x,t)] _ one ((XM (ne_true_of_eq_false h1)).trans (XI hf)).symm)
 ·exact RJ Uu (SD _ _ _) T_ (TZ _ _) (meets_str_split_cannot_occur x y t u h1)
   (fin [(x,t)] _ one (XI h1).symm)
theorem vO:IY X "str.join" (λx xs H Q=>∃a p ys,x=.str a/\xs=[.ref p]/\CF X.K H p (ys.map V.str)/\Wz a ys=OP/\Q (.str (Tc a ys)) H):=by
 intro pins s σ H x xs v us Q I rx rs h;obtain⟨a,p,ys,rfl,rfl,hq,Cg,q⟩:=h;obtain⟨t,rfl⟩:=rx;obtain⟨u,rfl,r⟩:=vals1 rs;cases r;obtain⟨A',rv,pl,hz⟩:=I.list hq;obtain⟨l,rfl,e⟩:=ft rv;exact SC.join pl.isList e Cg λt' k=>⟨.str _,H,I.tok k,⟨_,rfl⟩,q⟩
theorem gC:∀{bs:List Bool}{A':List OW},Vals (bs.map V.bl) A'->A'=bs.map Sg
 |[],_,.nil=>rfl
 |b::bs,_,.cons r t=>by
  cases r;rw[gC t];rfl
theorem sC:X.calm=OP->eC X (.builtin "all") (λxs H Q=>∃(p:O8) (bs:List Bool),xs=[.ref p]/\CF X.K H p (bs.map V.bl)/\Q (.bl (bs.all id)) H):=by
 intro hc pins s σ H xs us Q I rs h;obtain⟨p,bs,rfl,hq,q⟩:=h;obtain⟨u,rfl,r⟩:=vals1 rs;cases r;obtain⟨A',rv,pl,hz⟩:=I.list hq;have e:=gC rv;subst e;have Cz:p<s.heap.objs.size:=by obtain⟨_,_,e,_⟩:=pl;exact O4 e
 refine call_all_walk (Ui pl.isList ?_);refine⟨s.heap.objs.size,[s.heap.objs.size,p],[s.heap.objs.size],(bs.map Sg).toArray.size,_,_,λi=>(bs[i]?).getD OP,rfl,W_ (A:=X.A.in1) (I.ok.hd hc) _ p (O' Cz) (bs.map Sg).toArray,
  ⟨⟨_,O3 _ rfl,rfl,rfl⟩,pl.isList.push _⟩,λi v s' Q' E' hP hQ=>?_,λh' tk hk=>?_⟩
 ·have HM:(bs.map Sg)[i]?=Od v:=by simpa using hP
  rw[Pa]at HM;cases e:bs[i]? with
  |none=>rw[e]at HM;cases HM
  |some b =>
   rw[e]at HM;cases HM;simp only[e,Option.getD_some]at hQ;exact P_ hQ
 ·have e:((Pl (bs.map Sg).toArray.size).all λi=>(bs[i]?).getD OP)=bs.all id:=by
   rw[O0,OY];exact Wo bs
  rw[e];exact⟨.bl _,H,I.kept (t':=tk) (Wq hk),rfl,q⟩
end
section
end
def yI(N own:List Str)(scope:Rg)(out:List (Str×Ru)):Bool :=
 OX (scope.kind=.function)&&scope.names.all (λy=>OX (y.2≠.cell))&&scope.names.all (λy=>OX (y.2≠.local)||decide (scope.names.lookup y.1=Od .local))&&decide N.Nodup&&OX (N.take own.length=own) &&
 scope.names.all (λy=>OX (y.2≠.local)||decide (y.1∈own)||decide (y.1=".0"))&&OX ((".0":Str)∉N)&&scope.names.all (λy=>OX (y.2≠.free)||decide (out.lookup y.1=Od .cell)||decide (out.lookup y.1=Od .free))&&scope.names.all (λy=>OX (y.1≠".")&&OX (y.1≠".."))
theorem sD(hn:X.env.scope.names=out)(ht:cN (N.drop own.length) X.N)(h:yI N own scope out=OP):cO X N own scope:=by
 unfold yI at h;simp only[OS,Pe,Qz,XJ]at h;obtain⟨⟨⟨⟨⟨⟨⟨⟨h1,h2⟩,h3⟩,h4⟩,h5⟩,h6⟩,h7⟩,h8⟩,h9⟩:=h;refine⟨h1,h2,λy hy e=>?_,h4,h5,λy hy e=>?_,h7,ht,λy hy e=>?_,h9⟩
 ·rcases h3 y hy with z|z
  ·exact absurd e z
  ·exact z
 ·rcases h6 y hy with(z|z)|z
  ·exact absurd e z
  ·exact .inl z
  ·exact .inr z
 ·rw[hn];rcases h8 y hy with(z|z)|z
  ·exact absurd e z
  ·exact .inl z
  ·exact .inr z
section
def aQ(prog:PZ)(w:Qj)(h:QA)(k:Str×List Str)(a:O8):Prop :=
 ∃o n t b,h.get? a=Od o/\o.cls=.type "tuple"/\o.data=.seq #[.str k.1 t,.ref b] n/\Vf (PySem.strKind prog w) h k.2 b
theorem aQ.typeIs{s:O7}(x:aQ prog w s.heap k a):s.TypeIs (.ref a) "tuple":=let ⟨o,_,_,_,ho,hc,_⟩:=x;⟨o,ho,hc⟩
theorem aQ.inj(hx:aQ prog w h x a)(hy:aQ prog w h y a):x=y:=by
 obtain⟨o,n,t,b,ho,_,hd,hi⟩:=hx;obtain⟨o',n',t',b',C0,_,DG,Dz⟩:=hy;obtain rfl:o=o':=PU (ho.symm.trans C0);rw[hd]at DG;injection DG with h1 _
 simp only[Array.mk.injEq,Sz,Value.str.injEq,Value.ref.injEq,and_true]at h1;obtain⟨⟨e1,_⟩,e2⟩:=h1;subst e2;exact Wr e1 (hi.inj Dz)
theorem aQ.keeps(x:aQ prog w h k a)(ho:h.get? d=Od o)(hd:o.data=.dict es ep)(hs:Qu d h h'):aQ prog w h' k a:=by
 obtain⟨o',n,t,b,C0,hc,DG,hi⟩:=x;have Ds:a≠d:=by
  rintro rfl;obtain rfl:o'=o:=PU (C0.symm.trans ho);rw[hd]at DG;exact nomatch DG
 exact⟨o',n,t,b,(hs.2 a Ds).trans C0,hc,DG,hi.keeps ho hd hs⟩
def kn(prog:PZ)(w:Qj)(k:Str×List Str):Int:=reduceHash (Qi [(PySem.strKind prog w).hash k.1,RW (PySem.strKind prog w) k.2])
def sE(prog:PZ)(w:Qj)(hh:QA)(v:OW)(n:Int)(d:Nat):Prop :=
 ∀{A:Ra} {E:OW->O7->Prop} {s:O7} {Q:Int->O7->Prop},s.heap=hh->A.units<Qr->Q n {s with toks:=s.toks+d}->OZ (O9 prog w) A (pyHash v) Q E s
theorem nq(x:Str)(t:Tok):sE prog w hh (.str x t) ((PySem.strKind prog w).hash x) 1:=λ_ _ h=>(PySem.strKind prog w).pyHash (by simp[PySem.strKind,Q6]) h
theorem kq(hk:Vf (PySem.strKind prog w) hh ks b):sE prog w hh (.ref b) (RW (PySem.strKind prog w) ks) (ks.length+1):=λe hu h=>by
 subst e;exact wpAny_pyHash_tuple hu hk h
theorem f9(hu:A.units+1<Qr)(hk:aQ prog w s.heap k a)(h:Q (kn prog w k) {s with toks:=s.toks+(k.2.length+3)}):
  OZ (O9 prog w) A (pyHash (.ref a)) Q E s:=by
 have hT:=hk.typeIs;obtain⟨o,n,t,b,ho,_,hd,hi⟩:=hk;unfold pyHash
 first|unfold pyHashByItsType|skip
 first|refine OO (wpAny_cRoomFor_or (.inr ⋯) ?_)|skip
 refine OO (Rc hT PySem.F.slot_tuple_hash.lookup ?_);show OZ _ _ (if (Od (Value.builtin "tuple.__hash__")==Od Pu)=OP then _ else _) Q E s;rw[XM (by rw[beq_builtin_none];exact Po)];refine OO (Rc hT PySem.F.slot_tuple_hash.lookup ?_);show OZ _ _ (callSpecialIfBoundUnlessNone? (.ref a) "__hash__" _ >>= _) Q E s;refine OO (wpAny_callSpecialIfBoundUnlessNone?_slot hT PySem.F.slot_tuple_hash (P6 PySem.F.slot_tuple_hash hT PySem.F.entry_tuple_hash ?_ (PySem.F.args_tuple_hash_1 _)));show OZ _ _ (RS (.ref a) >>= _) _ _ s;refine OO (T9 ho hd ?_);refine OO ?_;rw[<-Tv];refine SY _
  (λrest (b':Array Int) s'=>(rest=[P7 k.1 t,Pd b]/\b'=#[]/\s'=s)\/(rest=[Pd b]/\b'.toList=[(PySem.strKind prog w).hash k.1]/\s'={s with toks:=s.toks+1}) \/
   (rest=[]/\b'.toList=[(PySem.strKind prog w).hash k.1,RW (PySem.strKind prog w) k.2]/\s'={s with toks:=s.toks+1+(k.2.length+1)}))
  _ ?_ ?_ _ _ (.inl ⟨rfl,rfl,rfl⟩)
 ·rintro x rest b' s' (⟨e,rfl,rfl⟩|⟨e,hb,rfl⟩|⟨e,_,_⟩)
  ·cases e;refine OO (nq k.1 t (hh:=s'.heap) rfl (by show A.units+1<Qr;exact hu) ?_)
   first
    |exact OU (.inr (.inl ⟨rfl,rfl,rfl⟩))
    |exact OO (OU (OU (.inr (.inl ⟨rfl,rfl,rfl⟩))))
  ·cases e;refine OO (kq hi rfl (by show A.units+1<Qr;exact hu) ?_)
   first
    |exact OU (.inr (.inr ⟨rfl,by simp[hb],rfl⟩))
    |exact OO (OU (OU (.inr (.inr ⟨rfl,by simp[hb],rfl⟩))))
  ·cases e
 ·rintro b' s' (⟨e,_,_⟩|⟨e,_,_⟩|⟨_,hb,rfl⟩)
  ·cases e
  ·cases e
  ·show OZ _ _ (retInt (Qi b'.toList)) _ _ _;rw[hb];refine wpAny_ret_mkInt ?_;have et:s.toks+1+(k.2.length+1)+1=s.toks+(k.2.length+3):=by omega
   show OZ _ _ (if (OX (-(2:Int) ^ 63<=Qi [(PySem.strKind prog w).hash k.1,RW (PySem.strKind prog w) k.2])&&OX (Qi [(PySem.strKind prog w).hash k.1,RW (PySem.strKind prog w) k.2]<2 ^ 63))=OP then _ else _) Q E _;unfold kn reduceHash at h;by_cases hr:(OX (-(2:Int) ^ 63<=Qi [(PySem.strKind prog w).hash k.1,RW (PySem.strKind prog w) k.2])&&OX (Qi [(PySem.strKind prog w).hash k.1,RW (PySem.strKind prog w) k.2]<2 ^ 63))=OP
   ·rw[XI hr];rw[XI hr]at h;exact OU (by rw[et];exact h)
   ·rw[XM hr];rw[XM hr]at h;exact OO (Rt (OU (by rw[et];exact h)))
theorem lL(hu:A.units<Qr)(hx:aQ prog w s.heap x a)(hy:aQ prog w s.heap y b)(h:P (.done (.ret (.bool (OX (x=y))))) s):
  OZ (O9 prog w) A (Rz.«tuple.__eq__» ⟨[.ref a,.ref b],[]⟩) P E s:=by
 have MH:=hy.typeIs;obtain⟨oa,na,ta,pa,MI,_,MJ,HN⟩:=hx;obtain⟨ob,nb,tb,pb,MK,_,Fz,ML⟩:=hy;show OZ _ _ (Wx (.ref b) (.type "tuple") >>= _) _ _ s;refine OO (Q3 MH Tn ?_);simp only[QD,Px,XQ];refine OO (T9 MI MJ ?_);refine OO (T9 MK Fz ?_);refine OO ?_;refine SY _
  (λrest r s'=>r.1=OQ/\s'=s/\((rest=[(P7 x.1 ta,P7 y.1 tb),(Pd pa,Pd pb)])\/(rest=[(Pd pa,Pd pb)]/\x.1=y.1)\/(rest=[]/\x=y)))
  _ ?_ ?_ _ _ ⟨rfl,rfl,.inl rfl⟩
 ·rintro⟨u,v⟩ rest r s' ⟨hr,rfl,(e|⟨e,e1⟩|⟨e,_⟩)⟩
  ·cases e;refine OO ((PySem.strKind prog w).eqBool (a:=x.1) (b:=y.1) (by simp[PySem.strKind,Q6]) (by simp[PySem.strKind,Q6]) ?_);by_cases hk:x.1=y.1
   ·rw[XO hk];simp only[QD,Px,XQ];exact OU ⟨rfl,rfl,.inr (.inl ⟨by first|rfl|trivial,hk⟩)⟩
   ·rw[XN hk];simp only[Wt,if_true];rw[XN (λz=>hk (by rw[z]))]at h;exact OO (OU (OU (OU h)))
  ·cases e;refine OO (wpAny_eqBool_tuple hu HN ML ?_);by_cases hk:x.2=y.2
   ·rw[XO hk];simp only[QD,Px,XQ];exact OU ⟨rfl,rfl,.inr (.inr ⟨by first|rfl|trivial,Wr e1 hk⟩)⟩
   ·rw[XN hk];simp only[Wt,if_true];rw[XN (λz=>hk (by rw[z]))]at h;exact OO (OU (OU (OU h)))
  ·cases e
 ·rintro⟨r1,r2⟩ s' ⟨hr,rfl,(e|⟨e,_⟩|⟨_,rfl⟩)⟩
  ·cases e
  ·cases e
  ·simp only at hr;subst hr;refine OU ?_;rw[XO rfl]at h;exact h
theorem f_(hu:A.units+2<Qr)(hx:aQ prog w s.heap x a)(hy:aQ prog w s.heap y b)(h:Q (OX (x=y)) s):
  OZ (O9 prog w) A (eqBool (.ref a) (.ref b)) Q E s:=by
 unfold eqBool
 try with_reducible refine P5 ?_
 show OZ _ _ (if (Pd a==Pd b)=OP then _ else _) Q E s;by_cases Gv:(Pd a==Pd b)=OP
 ·rw[XI Gv];have e:a=b:=by have:=VF Gv;injection this
  subst e;obtain rfl:=hx.inj hy;exact OO (Rt (OU (by simpa using h)))
 ·rw[XM Gv];exact OO (wpAny_richCompare_same_room (op:=.Eq) hx.typeIs hy.typeIs PySem.F.slot_tuple_eq
   (P6 PySem.F.slot_tuple_eq hx.typeIs PySem.F.entry_tuple_eq (lL (by first|(show A.units+1<Qr;omega)|(show A.units<Qr;omega)|(show A.units+1+1<Qr;omega)) hx hy ⟨_,rfl,(λe=>nomatch e),P_ h⟩) (PySem.F.args_tuple_eq_2 _ _)) ⋯)
theorem fu(hk:Vf (PySem.strKind prog w) s.heap ks a)(h:Q OP s):OZ (O9 prog w) A (VA (n+1) (.ref a)) Q E s:=by
 have hT:=hk.typeIs;obtain⟨o,items,n',ho,_,hd,hi⟩:=hk;unfold VA;refine OO (Rc hT PySem.F.slot_tuple_eq.lookup ?_);show OZ _ _ (Wx (.ref a) (.type "tuple") >>= _) _ _ s;refine OO (Q3 hT Tn ?_);simp only[QD,Px,XQ];refine OO (RV ho hd ?_);refine OO ?_;show OZ _ _ (forIn items _ _) _ _ s;rw[<-Tv];refine SY _ (λrest r s'=>r.1=OQ/\s'=s/\∀v∈rest,carriedByValue v=OP) _ ?_ ?_ _ _ ⟨rfl,rfl,hi.byValue⟩
 ·rintro v rest r s' ⟨hr,rfl,DI⟩;rw[WR _ (DI v PY)];refine OO (OU ?_);simp only[QD,Px,XQ];exact OU ⟨rfl,rfl,λu MM=>DI u (PV _ MM)⟩
 ·rintro⟨r1,r2⟩ s' ⟨hr,rfl,_⟩;simp only at hr;subst hr;exact OU h
theorem gR(hk:aQ prog w s.heap k a)(h:Q OP s):OZ (O9 prog w) A (VA 8 (.ref a)) Q E s:=by
 have hT:=hk.typeIs;obtain⟨o,n,t,b,ho,_,hd,hi⟩:=hk;unfold VA;refine OO (Rc hT PySem.F.slot_tuple_eq.lookup ?_);show OZ _ _ (Wx (.ref a) (.type "tuple") >>= _) _ _ s;refine OO (Q3 hT Tn ?_);simp only[QD,Px,XQ];refine OO (RV ho hd ?_);refine OO ?_;rw[<-Tv];refine SY _ (λrest r s'=>r.1=OQ/\s'=s/\(rest=[P7 k.1 t,Pd b]\/rest=[Pd b]\/rest=[])) _ ?_ ?_ _ _ ⟨rfl,rfl,.inl rfl⟩
 ·rintro v rest r s' ⟨hr,rfl,(e|e|e)⟩
  ·cases e;rw[WR _ rfl];refine OO (OU ?_);simp only[QD,Px,XQ];exact OU ⟨rfl,rfl,.inr (.inl (by first|rfl|trivial))⟩
  ·cases e;refine OO (fu hi ?_);simp only[QD,Px,XQ];exact OU ⟨rfl,rfl,.inr (.inr (by first|rfl|trivial))⟩
  ·cases e
 ·rintro⟨r1,r2⟩ s' ⟨hr,rfl,_⟩;simp only at hr;subst hr;exact OU h
end
def fw(prog:PZ)(w:Qj):HeapKind prog w (Str×List Str) where
 is:=aQ prog w
 hash:=kn prog w
 draws:=λk=>k.2.length+3
 room:=λA=>A.units+2<Qr
 inj:=λhx hy=>hx.inj hy
 keeps:=λx ho hd hs=>x.keeps ho hd hs
 pyHash:=λhu hk h=>f9 ⋯ hk h
 eqBool:=λhu hx hy h=>f_ hu hx hy h
 quiet:=λhk h=>gR hk h
abbrev lM:=Str×List Str
def dz(K:PySem.W.Frag)(H:Hp)(v:V)(k:lM):Prop:=∃a b,v=.ref a/\CB K H a [.str k.1,.ref b]/\CB K H b (k.2.map V.str)
def gD(P:PZ)(w:Qj)(d:O8)(xs:List (lM×O8×OW)):HO:=.ext λh=>(d==Qp)=OR/\∃o es ep,h.get? d=Od o/\o.ExactDict/\o.data=.dict es ep/\es.toList=xs.map (entryOfKey (fw P w))/\(xs.map (·.1)).Nodup
def dg(P:PZ)(w:Qj)(K:PySem.W.Frag)(H:Hp)(d:O8)(ks:List lM):Prop:=∃xs,H d=Od (gD P w d xs)/\xs.map (·.1)=ks/\∀x∈xs,dz K H (.ref x.2.1) x.1
theorem ir:∀{ks:List Str}{A':List OW},Vals (ks.map V.str) A'->ItemsAre (PySem.strKind P w) ks A'
 |[],_,.nil=>.nil
 |k::ks,_,.cons r t=>by
  obtain⟨tk,rfl⟩:=r;exact .cons (by simp[PySem.strKind,Q6]) (ir t)
theorem vP(I:Inv X pins σ H s)(e:CB X.K H b (ks.map V.str)):Vf (PySem.strKind X.prog X.w) s.heap ks b:=by
 obtain⟨A',r,⟨o,h1,h2,n,h3⟩,_⟩:=I.tuple e;exact⟨o,A'.toArray,n,h1,h2,h3,by simpa using ir r⟩
theorem gW(I:Inv X pins σ H s)(e:dz X.K H (.ref a) k):aQ X.prog X.w s.heap k a:=by
 obtain⟨a',b,q,e1,e2⟩:=e;cases q;obtain⟨A',r,⟨o,h1,h2,n,h3⟩,_⟩:=I.tuple e1;cases r with
 |cons r1 r2 =>
  cases r2 with
  |cons r2 r3 =>
   cases r3;obtain⟨t,rfl⟩:=r1;cases r2;exact⟨o,n,t,b,h1,h2,h3,vP I e2⟩
section
theorem Inv.B4(I:Inv X pins σ H s):Qp<s.heap.objs.size:=by
 obtain⟨o,es,ep,ho,_⟩:=I.mod.glob;have h1:@Ro Nat _ Qc s.heap.objs.size:=O4 (I.bk _ _ ho);obtain⟨mb,⟨o',Cd,Gj,C0,_⟩,_⟩:=I.mod.blt;have h2:@Ro Nat _ Tb s.heap.objs.size:=O4 (I.bk _ _ C0);revert h1 h2;show @Ro Nat _ Qc s.heap.objs.size->@Ro Nat _ Tb s.heap.objs.size->@Ro Nat _ Qp s.heap.objs.size;unfold Qc Tb Qp;omega
theorem iu(I:Inv X pins σ H s)(h:H d=Od (gD X.prog X.w d xs))(hk:∀x∈xs,dz X.K H (.ref x.2.1) x.1):(d==Qp)=OR/\s.heap.DictOfH (fw X.prog X.w) d xs:=by
 obtain⟨⟨h1,o,es,ep,h2,h3,h4,h5,h6⟩,_⟩:=I.Cg d _ h;exact⟨h1,o,es,ep,h2,h3,h4,h5,λx hx=>gW I (hk x hx),h6⟩
theorem xI(hd:(d==Qp)=OR)(x:h.DictOfH (fw P w) d xs):aW P w H' h d (gD P w d xs):=by
 obtain⟨o,es,ep,h2,h3,h4,h5,_,h6⟩:=x;exact⟨⟨hd,o,es,ep,h2,h3,h4,h5,h6⟩,⟨o,h2⟩,λh1 h2 ⟨q0,o,es,ep,q1,q2,q3,q4,q5⟩ k=>⟨q0,o,es,ep,k _ q1,q2,q3,q4,q5⟩⟩
theorem vQ:PE X (.Dict [] [] pos) (λ_ H Q=>∀p,H p=OQ->Q (.ref p) (upd H p (gD X.prog X.w p []))):=λpins s σ H Q I h =>
 W5 ⟨.ref s.heap.objs.size,_,I.laid (a:=s.heap.objs.size) (o:=gD X.prog X.w s.heap.objs.size []) (t':=s.toks) (λ_ _ q=>OT _ q) (O2 _)
  (xI (beq_eq_false_iff_ne.mpr (Qs (O' I.B4))) (Xi s.heap)),rfl,h _ (I.Cg.fresh (O2 _))⟩
theorem eS(k:lM):(TH xs k).isSome=OX (k∈xs.map (·.1)):=by
 unfold TH;rw[Sm,RA,List.find?_isSome,XJ,Qk];constructor
 ·rintro⟨x,hx,e⟩;exact⟨x,hx,of_decide_eq_true e⟩
 ·rintro⟨x,hx,e⟩;exact⟨x,hx,XO e⟩
theorem qJ(hu:X.A.units+3<Qr):Dn X (QC .NotIn) (λx y H Q=>∃k d ks,dz X.K H x k/\y=.ref d/\dg X.prog X.w X.K H d ks/\Q (.bl (!OX (k∈ks))) H):=by
 intro pins s σ H x y v u Q I rx ry h;obtain⟨k,d,ks,hx,rfl,⟨xs,hd,ES,DI⟩,q⟩:=h;cases ry;obtain⟨a,b,rfl,e1,e2⟩:=id hx;cases rx;obtain⟨h1,h2⟩:=iu I hd DI;refine Xd (knd:=fw X.prog X.w) (k:=k) (by show X.A.units+1+2<Qr;omega) (gW I hx) h1 h2 ?_;rw[eS,ES];exact⟨.bl _,H,I.tok _,rfl,q⟩
theorem vR(hu:X.A.units+3<Qr):jf X (λo i v H Q=>∃d k ks,o=.ref d/\dz X.K H i k/\dg X.prog X.w X.K H d ks/\k∉ks/\ks.length<=1000/\∀H',dg X.prog X.w X.K H' d (ks++[k])->(∀b,b≠d->H' b=H b)->Q H'):=by
 intro pins s σ H o i v ov iv u Q I ro ri rv h;obtain⟨d,k,ks,rfl,hi,⟨xs,hd,ES,DI⟩,hn,hl,q⟩:=h;cases ro;obtain⟨a,b,rfl,e1,e2⟩:=id hi;cases ri;obtain⟨h1,h2⟩:=iu I hd DI;have J9:xs.length<=OV:=by
  have:=congrArg S6 ES;rw[OY]at this;rw[this];exact RM (qF hl)
 refine Wu (hsz:=J9) (knd:=fw X.prog X.w) (k:=k) (by show X.A.units+1+2<Qr;omega) (gW I hi) h2 λh' Ew sb=>?_;have JU:TH xs k=OQ:=by
  have:=eS (xs:=xs) k;rw[ES,XN hn]at this;cases e:TH xs k with
  |none=>rfl
  |some _=>rw[e]at this;cases this
 rw[storedH_new JU]at Ew;obtain⟨o',Cd,Gj,g1,_⟩:=id Ew;refine⟨upd H d (gD X.prog X.w d (xs++[(k,a,u)])),I.write (x:=d) (e:=d) (by rw[hd];exact Tw) (.inl rfl) (λb q hb z=>(sb.2 b hb).trans z) ⟨o',g1⟩ (xI h1 Ew),q _ ⟨_,au,by rw[Qf,ES];rfl,λx hx=>?_⟩ λb hb=>ao hb⟩;have kT:∀{a':O8} {ys:List V},CB X.K H a' ys->CB X.K (upd H d (gD X.prog X.w d (xs++[(k,a,u)]))) a' ys:=λ{a' ys} z=>by
  rcases z with(z|⟨o,z⟩)|z
  ·exact .inl (.inl (by rw[ao (rH z hd (λz=>nomatch z))];exact z))
  ·exact .inl (.inr ⟨o,by rw[ao (rH z hd (λz=>nomatch z))];exact z⟩)
  ·exact .inr z
 have keep:∀{y:V} {k':lM},dz X.K H y k'->dz X.K (upd H d (gD X.prog X.w d (xs++[(k,a,u)]))) y k':=λ{y k'} ⟨a',b',z1,z2,z3⟩=>⟨a',b',z1,kT z2,kT z3⟩
 rcases Q9.mp hx with m|m
 ·exact keep (DI x m)
 ·have:x=(k,a,u):=by simpa using m
  subst this;exact keep hi
end
def DR(a b:Str):Bool:=!OX (b.cps.toList<a.cps.toList)
theorem fy(a b:Str):DR a b=OP↔a.cps.toList<=b.cps.toList:=by
 simp only[DR,P4,decide_eq_false_iff_not];exact Vl
theorem jC(a b c:Str)(h1:DR a b=OP)(h2:DR b c=OP):DR a c=OP:=by
 rw[fy]at h1 h2 ⊢;exact List.le_trans h1 h2
theorem qK(a b:Str):(DR a b||DR b a)=OP:=by
 rw[Qz,fy,fy];exact List.le_total _ _
theorem lN{x y:Str}(h:x.cps.toList=y.cps.toList):x=y:=by
 cases x;cases y;congr
 exact Array.toList_inj.mp h
theorem ku(h1:DR a b=OP)(h2:DR b a=OP):a=b:=by
 rw[fy]at h1 h2;exact lN (V0 h1 h2)
def aH(l:List Str):List Str:=l.mergeSort DR
theorem bp(l:List Str):(aH l).Perm l:=List.mergeSort_perm l DR
theorem fz(l:List Str):(aH l).Pairwise (λa b=>DR a b=OP):=List.pairwise_mergeSort jC qK l
theorem fA:∀(l:List Str) (p:Str),risingS p l=OP->(p::l).Pairwise (λa b=>DR a b=OP)
 |[],p,_=>by simp
 |x::r,p,h=>by
  have h':(!ltCps x.cps.toList p.cps.toList&&risingS x r)=OP:=h;obtain⟨h1,h2⟩:=QM.mp h';have ih:=fA r x h2;have Ll:DR p x=OP:=by rw[ltCps_eq]at h1;exact h1
  refine Sh.mpr ⟨λy hy=>?_,ih⟩;rcases O_.mp hy with e|e
  ·rw[e];exact Ll
  ·exact jC _ _ _ Ll ((Sh.mp ih).1 y e)
theorem kz(h:sortedS l=OP):l.Pairwise (λa b=>DR a b=OP):=by
 cases l with
 |nil=>exact .nil
 |cons x r=>exact fA r x h
theorem dY:∀{l m:List Str},l.Perm m->l.Pairwise (λa b=>DR a b=OP)->m.Pairwise (λa b=>DR a b=OP)->l=m
 |[],m,hp,_,_=>(List.Perm.nil_eq hp)
 |x::l,m,hp,h1,h2=>by
  cases m with
  |nil=>exact absurd hp.length_eq (by simp)
  |cons y m =>
   obtain⟨a1,a2⟩:=Sh.mp h1;obtain⟨b1,b2⟩:=Sh.mp h2;have MN:x=y:=by
    have m1:x∈y::m:=hp.mem_iff.mp PY;have m2:y∈x::l:=hp.mem_iff.mpr PY;rcases O_.mp m1 with e|e
    ·exact e
    ·rcases O_.mp m2 with e'|e'
     ·exact e'.symm
     ·exact ku (a1 y e') (b1 x e)
   subst MN;rw[dY (List.Perm.cons_inv hp) a2 b2]
theorem sF(hp:l.Perm m)(hs:sortedS l=OP):l=aH m:=dY (hp.trans (bp m).symm) (kz hs) (fz m)
theorem lO(hp:l.Perm m):aH l=aH m:=dY ((bp l).trans (hp.trans (bp m).symm)) (fz l) (fz m)
theorem bR(l:List Str):(aH l).length=l.length:=(bp l).length_eq
section
theorem cC:∀{ys:List Str}{A':List OW},Vals (ys.map V.str) A'->R3 A' ys
 |[],_,.nil=>.nil
 |y::ys,_,.cons r t=>by
  obtain⟨tk,rfl⟩:=r;exact .cons y tk (cC t)
theorem cA:∀{A':List OW}{ys:List Str},R3 A' ys->Vals (ys.map V.str) A'
 |_,_,.nil=>.nil
 |_,_,.cons x t h=>.cons ⟨t,rfl⟩ (cA h)
theorem c6(hc:OZ (O9 prog w) A.in1 (Ur x) (λvs s1=>∃ss,R3 vs ss/\vs.length<64 /\
      ∀(h':QA) (De:List OW) (e:Nat),(∀b o,s1.heap.get? b=Od o->h'.get? b=Od o)->h'.get? s1.heap.objs.size=Od (Qd "list" De.toArray e)->R3 De (aH ss)->Q (.ref s1.heap.objs.size) {s1 with heap:=h' }) E s) :
    OZ (O9 prog w) A (RC (.builtin "sorted") [x]) Q E s:=by
  refine UB kind_sorted plain_sorted entry_sorted (args_sorted1 _) ?_;unfold Rz.«sorted»;refine OO (m:=checkCount "sorted" 1 1 _) (OU ?_);refine OO (Qb hc (λvs s1 h1=>?_) λ_ _ e=>e);obtain⟨ss,hS,ET,h⟩:=h1
  refine wpAny_bind (wpAny_newList ?_ (by have : (64 : Nat) ≤ sizeLine := by decide
                                          omega))
  have Ft:(s1.heap.push (Qd "list" vs.toArray 0)).get? s1.heap.objs.size=Od (Qd "list" vs.toArray 0):=O3 _ rfl;show OZ _ _ _ _ _ {s1 with heap:=s1.heap.push (Qd "list" vs.toArray 0)};refine OO (P5 (P6 XD ⟨_,Ft,rfl⟩ Xl (list_sort_treeK strKind_oneLt Ft hS.keysOf (λv₁ v₂ rest e=>keyKind_strs (by rw[<-e];exact hS)) ET λst' a1 a2=>⟨_,rfl,?_⟩) (XG _)));obtain⟨D9,b1,b2,b3⟩:=sorted_out_str hS a1 a2;obtain⟨e,he⟩:=sortedHeap_at (out:=(arrOf st').map (·.2)) Ft;rw[sF b2 b3]at b1;refine OU ⟨_,rfl,h _ ((arrOf st').map (·.2)).toList e (λb o q=>?_) (by rw[R4];exact he) b1⟩;have Cz:b<s1.heap.objs.size:=O4 q;show(WB (s1.heap.push (Qd "list" vs.toArray 0)) s1.heap.objs.size vs ((arrOf st').map (·.2))).get? b=Od o;rw[XC (O' Cz) (by rw[QL];exact RL Cz)];exact OT _ q
theorem jj(hl:Wf s.heap l vs.toArray)
  (h:Q vs {s with heap:=(s.heap.push (Qd "list" #[] 0)).update s.heap.objs.size (Py (·++vs.toArray))}) (hsz:vs.length<=OV) :
  OZ (O9 prog w) A (Ur (.ref l)) Q E s:=by
 obtain⟨o,ho,hc,n,hd⟩:=id hl;unfold Ur;refine OO (TB (Qh entry_proto_collect' ?_));show OZ _ _ (do V8 (.builtin "list.__iadd__" ⟨[<-VM [],.ref l],[]⟩)) _ _ s;refine OO (Vq (OU ⟨VD _ (by decide +kernel),Qh entry_list_iadd' ?_⟩));show OZ _ _ (PC (.ref s.heap.objs.size) (.ref l) (.ref s.heap.objs.size)) _ _ {s with heap:=s.heap.push (Qd "list" #[] 0)};unfold PC;have C0:(s.heap.push (Qd "list" #[] 0)).get? l=Od o:=OT _ ho;refine OO (Rx (T:="tuple") ⟨o,C0,hc⟩ ?_);have ht:(PD "tuple"==PD "tuple")=OP:=by rfl
 rw[XI (by rw[ht];simp)];refine OO (VU C0 hd ?_);refine OO (VU (xs:=#[]) (n:=0) (O3 _ rfl) rfl ?_);rw[XM (by simp)];refine OO (T6 (xs:=#[]) (n:=0) (O3 _ rfl) rfl ?_ (Pt _) (by show(#[]++vs.toArray).size<=OV+1;simp only[TN,O0,SW];omega));refine OU ?_;show OZ (O9 prog w) A (do
   let o <-load s.heap.objs.size
   match o.data with
   |.seq xs _=>pure xs.toList
   |_=>UQ "internal:collect") Q E {s with heap:=(s.heap.push (Qd "list" #[] 0)).update s.heap.objs.size (Py (·++vs.toArray))}
 refine OO (U_ (Xk (O3 _ rfl) _) ?_);show OZ _ _ (pure ((#[]:Array OW)++vs.toArray).toList) Q E _;rw[show((#[]:Array OW)++vs.toArray).toList=vs by simp];exact OU h
end
section
theorem eE{h:QA}{vs:List OW}(e:h.get? b=Od o):((h.push (Qd "list" #[] 0)).update h.objs.size (Py (·++vs.toArray))).get? b=Od o:=by
 rw[Rr _ _ _ _ (O' (O4 e))];exact OT _ e
theorem lP(I:Inv X pins σ H s)(k1:∀b o,s.heap.get? b=Od o->s1.heap.get? b=Od o)(F2:∃h1 t1,s1={s with heap:=h1,toks:=t1})
  (hk:∀b o,s1.heap.get? b=Od o->h'.get? b=Od o) (EF:h'.get? s1.heap.objs.size=Od (Qd "list" De.toArray e)) (hS:R3 De (aH ss)) (hsz:s.heap.objs.size<=s1.heap.objs.size) (hl:ss.length<=OV)
  (q:∀p,H p=OQ->Q (.ref p) (upd H p (.lst ((aH ss).map V.str)))):EP X pins σ Q (.ref s1.heap.objs.size) {s1 with heap:=h' }:=by
 obtain⟨h1,t1,rfl⟩:=F2;have I1:Inv X pins σ H {s with heap:=h1,toks:=t1}:=I.kept (t':=t1) k1;refine⟨.ref h1.objs.size,_,I1.laid (t':=t1) (o:=.lst ((aH ss).map V.str)) hk (O2 _) ⟨by rw[OY,bR];exact hl,De,e,cA hS,EF⟩,rfl,q _ (I1.Cg.fresh (O2 _))⟩
theorem gE:eC X (.builtin "sorted") (λxs H Q=>∃(p:O8) (ys:List Str),xs=[.ref p]/\(CF X.K H p (ys.map V.str)\/CB X.K H p (ys.map V.str))/\ys.length<64/\∀q,H q=OQ->Q (.ref q) (upd H q (.lst ((aH ys).map V.str)))):=by
 intro pins s σ H xs us Q I rs h;obtain⟨p,ys,rfl,hq,ET,q⟩:=h;obtain⟨u,rfl,r⟩:=vals1 rs;cases r;have hl:ys.length<=OV:=RM (Pb ET (by decide));have fin:∀(A':List OW),Vals (ys.map V.str) A'->∀(h':QA) (De:List OW) (e:Nat),(∀b o,((s.heap.push (Qd "list" #[] 0)).update s.heap.objs.size (Py (·++A'.toArray))).get? b=Od o->h'.get? b=Od o) ->
   h'.get? ((s.heap.push (Qd "list" #[] 0)).update s.heap.objs.size (Py (·++A'.toArray))).objs.size=Od (Qd "list" De.toArray e)->R3 De (aH ys) ->
   EP X pins σ Q (.ref ((s.heap.push (Qd "list" #[] 0)).update s.heap.objs.size (Py (·++A'.toArray))).objs.size) {s with heap:=h' }:=λA' rv h' De e hk EF hS =>
  lP (s1:={s with heap:=(s.heap.push (Qd "list" #[] 0)).update s.heap.objs.size (Py (·++A'.toArray))}) I (λb o z=>eE z) ⟨_,s.toks,rfl⟩ hk EF hS (by show s.heap.objs.size<=((s.heap.push (Qd "list" #[] 0)).update s.heap.objs.size (Py (·++A'.toArray))).objs.size;rw[VY,QL];exact QE _) hl q
 rcases hq with hq|hq
 ·obtain⟨A',rv,pl,hz⟩:=I.list hq;have el:A'.length=ys.length:=by rw[<-rv.length,OY]
  exact c6 (collect_list pl.isList ⟨ys,cC rv,⋯,λh' De e hk EF hS=>fin A' rv h' De e hk EF hS⟩ ⋯)
 ·obtain⟨A',rv,pl,hz⟩:=I.tuple hq;have el:A'.length=ys.length:=by rw[<-rv.length,OY]
  exact c6 (jj pl ⟨ys,cC rv,⋯,λh' De e hk EF hS=>fin A' rv h' De e hk EF hS⟩ ⋯)
end
abbrev sK(P:PZ)(w:Qj):=PySem.strKind P w
def c7(P:PZ)(w:Qj)(h:QA)(a:O8)(led:Bool)(D:List Str):Prop :=
 ∃(L:List (Str×Tok)) (es:Array (Int×OW)) (ep:Nat) (t:SF),h.get? a=Od {cls:=.type "set",dict:=OQ,data:=.set es ep t}/\es.toList=L.map (λp=>((sK P w).hash p.1,P7 p.1 p.2)) /\
  (L.map (·.1)).Perm D/\D.Nodup/\t.fits es.size=OP/\es.size<Q4/\t.led=led/\(es.size=0\/t.plain=OR)
section
theorem sG{L:List (Str×Tok)}:ElemsOf (sK prog w) (L.map λp=>((sK prog w).hash p.1,P7 p.1 p.2)):=by
 intro e he;obtain⟨p,_,rfl⟩:=Qk.mp he;exact⟨⟨p.1,by simp[PySem.strKind,Q6],rfl⟩,rfl⟩
theorem oW(x y:Str)(t:Tok):(sK prog w).is x (.str y t)=OX (x=y):=by
 rw[RA];simp[PySem.strKind,Q6];exact⟨λh=>h.symm,λh=>h.symm⟩
theorem nu(t:SF)(es:Array (Int×OW))(h:Int)(x:OW):(layNew t es h x).2.1.led=t.led:=by
 unfold layNew;split
 ·show(U4 (t.put _).1 _).led=t.led;unfold U4;split<;>rfl
 ·rfl
theorem kA(t:SF)(es:Array (Int×OW))(n:Nat):(Va t es n).2.1.led=t.led:=by
 unfold Va;split
 ·rename_i t' order he;have:t'.led=t.led:=by
   unfold Vv VO at he;cases hc:Ve (U3 n - 1) (es.map (·.1)) with
   |none=>rw[hc]at he;cases he
   |some o=>rw[hc]at he;cases he;rfl
  dsimp only
  split
  ·exact this
  ·rfl
 ·rfl
theorem iw(t:SF)(es:Array (Int×OW))(n:Nat)(h:t.plain=OR):(Va t es n).2.1.plain=OR:=by
 unfold Va;split
 ·rename_i t' order he;have:t'.plain=t.plain:=by
   unfold Vv VO at he;cases hc:Ve (U3 n - 1) (es.map (·.1)) with
   |none=>rw[hc]at he;cases he
   |some o=>rw[hc]at he;cases he;rfl
  dsimp only
  split
  ·rw[this];exact h
  ·rfl
 ·rfl
theorem eT(h:l.Perm (L.map λp=>((sK prog w).hash p.1,P7 p.1 p.2))):∃L':List (Str×Tok),l=L'.map (λp=>((sK prog w).hash p.1,P7 p.1 p.2))/\L'.Perm L:=by
 have all:∀e∈l,∃p:Str×Tok,e=((sK prog w).hash p.1,P7 p.1 p.2):=λe he=>by
  obtain⟨p,_,rfl⟩:=Qk.mp (h.mem_iff.mp he);exact⟨p,rfl⟩
 have ex:∀l:List (Int×OW),(∀e∈l,∃p:Str×Tok,e=((sK prog w).hash p.1,P7 p.1 p.2))->∃L':List (Str×Tok),l=L'.map (λp=>((sK prog w).hash p.1,P7 p.1 p.2)):=by
  intro l;induction l with
  |nil=>intro _;exact⟨[],rfl⟩
  |cons e l ih =>
   intro ha;obtain⟨p,rfl⟩:=ha e PY;obtain⟨L',rfl⟩:=ih λe he=>ha e (PV _ he);exact⟨p::L',rfl⟩
 obtain⟨L',rfl⟩:=ex l all;refine⟨L',rfl,?_⟩;have g:(L'.map λp=>((sK prog w).hash p.1,P7 p.1 p.2)).map (λe=>match e.2 with|.str x t=>(x,t)|_=>(PL,0))=L':=by
  rw[PK];exact Ua _
 have g2:(L.map λp=>((sK prog w).hash p.1,P7 p.1 p.2)).map (λe=>match e.2 with|.str x t=>(x,t)|_=>(PL,0))=L:=by
  rw[PK];exact Ua _
 have:=h.map (λe=>match e.2 with|.str x t=>(x,t)|_=>(PL,0));rw[g,g2]at this;exact this
theorem nv(hS:c7 prog w s.heap a led D)(F3:D.length+1<Q4)
    (h:∀h',Qu a s.heap h'->c7 prog w h' a led (if x∈D then D else D++[x])->Q (OX (x∉D)) {s with heap:=h' }) :
    OZ (O9 prog w) A (setAddHashed a (.str x tk) ((sK prog w).hash x)) Q E s:=by
  obtain⟨L,es,ep,t,ho,EU,C1,Dj,hf,hb,Ey,Dp⟩:=hS;have J_:(sK prog w).is x (.str x tk)=OP:=by rw[oW];simp
  have Lm:ElemsOf (sK prog w) es.toList:=by rw[EU];exact sG
  have hlen:es.size=D.length:=by rw[<-Pq,EU,OY,<-OY (f:=Prod.fst) (as:=L),C1.length_eq]
  unfold setAddHashed setAddHashedIn;refine P5 (OO (Qo ho rfl hf ?_))
  dsimp only
  rw[byScan_of (knd:=sK prog w) rfl hb Lm];simp only[↓reduceIte];unfold setAddByScan;refine OO ?_;refine OO (Rt ?_);refine OO (wpAny_setScan_of (knd:=sK prog w) J_ ho rfl hf Lm ?_);have mem_iff:(∃e∈es.toList,(sK prog w).is x e.2=OP)↔x∈D:=by
    rw[EU,<-C1.mem_iff,Qk];constructor
    · rintro⟨e,he,hi⟩
      obtain⟨p,hp,rfl⟩:=Qk.mp he;rw[oW,XJ]at hi;exact⟨p,hp,hi.symm⟩
    · rintro⟨p,hp,e⟩
      exact⟨_,Qk.mpr ⟨p,hp,rfl⟩,by rw[oW];simp[e]⟩
  cases hr:WH (λe=>(sK prog w).is x e.2) es.toList with
  | some j =>
    dsimp only
    obtain⟨hj,MO,_⟩:=List.findIdx?_eq_some_iff_getElem.mp hr;have hx:x∈D:=mem_iff.mp ⟨es.toList[j],QU hj,MO⟩;refine OU (OU ?_);have e:s={s with heap:=s.heap}:=by cases s;rfl
    have:=h s.heap (UO a s.heap) (by rw[XI hx];exact⟨L,es,ep,t,ho,EU,C1,Dj,hf,hb,Ey,Dp⟩);rw[XN (λz=>z hx)]at this;rw[e];exact this
  | none =>
    dsimp only
    have hx:x∉D:=λhx=>by
      obtain⟨e,he,hp⟩:=mem_iff.mpr hx;have:=List.findIdx?_eq_none_iff.mp hr e he;rw[hp]at this;exact Bool.noConfusion this
    have MP:∀(b:Bool) {s₁:O7} {Q':Unit->O7->Prop},Q' () s₁->OZ (O9 prog w) A (match b with|true=>Xo "set.scan.the-table-gave-way"|false=>pure ()) Q' E s₁ :=
      λb s₁ Q' hq=>by cases b<;>first|exact OU hq|exact Rt hq
    have HP:=layNew_perm t es ((sK prog w).hash x) (.str x tk);have El:=layNew_fits t es ((sK prog w).hash x) (.str x tk);have EV:=nu t es ((sK prog w).hash x) (.str x tk);generalize hL:layNew t es ((sK prog w).hash x) (.str x tk)=NL at HP El EV ⊢;obtain⟨CZ,t1,EW,MQ⟩:=NL
    dsimp only at HP El EV ⊢
    rw[VG,EU,show [((sK prog w).hash x,P7 x tk)]=[(x,tk)].map (λp=>((sK prog w).hash p.1,P7 p.1 p.2)) from rfl,<-Qf]at HP;obtain⟨L1,e1,MR⟩:=eT HP;have MS:CZ.size=D.length+1:=by rw[<-Pq,HP.length_eq,OY,Pp,<-hlen,<-Pq,EU,OY];rfl
    have Ln:CZ.size<Q4:=by omega
    have F4:(L1.map (·.1)).Perm (D++[x]):=(MR.map _).trans (by rw[Qf];exact C1.append_right _);have Lo:(D++[x]).Nodup:=by
      rw[RH]
      exact ⟨Dj, by simp, fun y hy z hz => by have : z = x := by simpa using hz
                                              subst this;rintro rfl;exact hx hy⟩
    refine OO (MP _ ?_);have FA:∀h',Qu a s.heap h'->c7 prog w h' a led (D++[x])->Q OP {s with heap:=h' }:=λh' sb hs=>by
      have:=h h' sb (by rw[XM hx];exact hs);rw[XO hx]at this;exact this
    have tail:∀(g:Bool->Sem Unit),(∀(b:Bool) (s₁:O7) (Q':Unit->O7->Prop),Q' () s₁->OZ (O9 prog w) A (g b) Q' E s₁)->∀(R:Option Bool->O7->Prop),(∀h',Qu a s.heap h'->c7 prog w h' a led (D++[x])->R (Od OP) {s with heap:=h' })->∀t2:SF,t2.fits CZ.size=OP->t2.led=led->t2.plain=OR->OZ (O9 prog w) A (do
        storeSet a CZ t2
        if (!EW&&t2.tooFull)=true then do
            g (relayAll t2 CZ (SetTable.grown CZ.size)).2.2
            storeSet a (relayAll t2 CZ (SetTable.grown CZ.size)).1 (relayAll t2 CZ (SetTable.grown CZ.size)).2.1
            pure (some true)
          else pure (Od OP)) R E s:=by
      intro g hg R hR t2 MT FC FD;refine OO (WJ ho rfl ?_ (WQ Ln));have HQ:(s.heap.update a (SV CZ t2)).get? a=Od {cls:=.type "set",dict:=OQ,data:=.set CZ (ep+1) t2}:=by
        have:=P2 (SV CZ t2) ho rfl;exact this
      have HR:=Qt s.heap a (SV CZ t2);split
      · have hp:=relayAll_perm t2 CZ (R5 CZ.size)
        have J':=relayAll_fits t2 CZ (R5 CZ.size);have Hc:=kA t2 CZ (R5 CZ.size);have Ka:=iw t2 CZ (R5 CZ.size) FD;generalize Oq:Va t2 CZ (R5 CZ.size)=Rl at hp J' Hc Ka ⊢;obtain⟨FE,t3,Lp⟩:=Rl
        dsimp only at hp J' Hc Ka ⊢
        rw[e1]at hp;obtain⟨L2,e2,MU⟩:=eT hp;have hsz:FE.size=CZ.size:=by rw[<-Pq,hp.length_eq,<-e1,Pq]
        refine OO (hg _ _ _ ?_);refine OO (WJ HQ rfl ?_ (WQ ⋯));have Gw:((s.heap.update a (SV CZ t2)).update a (SV FE t3)).get? a=Od {cls:=.type "set",dict:=OQ,data:=.set FE (ep+1+1) t3}:=P2 (SV FE t3) HQ rfl;refine OU (hR _ (HR.trans (Qt _ a _)) ⟨L2,FE,_,t3,Gw,e2,(MU.map _).trans F4,Lo,J',⋯,Hc.trans FC,.inr Ka⟩)
      · exact OU (hR _ HR ⟨L1,CZ,_,t2,HQ,e1,F4,Lo,MT,Ln,FC,.inr FD⟩)
    split
    · rename_i hp
      refine OO ?_;rw[hashByValue_scannable 8 rfl];refine OU ?_;have ep:(if plainKind (P7 x tk)=OP then t1 else {t1 with plain:=OR})={t1 with plain:=OR}:=rfl;rw[ep];refine tail _ ?_ _ ?_ {t1 with plain:=OR} (SetTable.fits_plain_off El) (EV.trans Ey) rfl
      · intro b s₁ Q' hq;cases b<;>first|exact OU hq|exact Rt hq
      · intro h' Hd Dx;dsimp only;exact OU (FA h' Hd Dx)
    · rename_i hp
      refine OO (OU ?_);simp only[↓reduceIte];refine tail _ ?_ _ ?_ t1 El (EV.trans Ey) (Sv.mpr hp)
      · intro b s₁ Q' hq;cases b<;>first|exact OU hq|exact Rt hq
      · intro h' Hd Dx;dsimp only;exact OU (FA h' Hd Dx)
end
def gS(D:List Str)(x:Str):List Str:=if x∈D then D else D++[x]
def bq(l:List Str):List Str:=l.foldl gS []
theorem ny(h:D.Nodup):(gS D x).Nodup:=by
  unfold gS;split
  · exact h
  · rename_i hx
    rw[RH]
    exact ⟨h, by simp, fun y hy z hz => by have : z = x := by simpa using hz
                                           subst this;rintro rfl;exact hx hy⟩
theorem ix:∀(l D:List Str),D.Nodup->(l.foldl gS D).Nodup/\(∀x,x∈l.foldl gS D↔x∈D\/x∈l)/\(l.foldl gS D).length<=D.length+l.length
 |[],D,h=>⟨h,by simp,by simp⟩
 |y::l,D,h=>by
  obtain⟨h1,h2,h3⟩:=ix l (gS D y) (ny h);have hm:∀x,x∈gS D y↔x∈D\/x=y:=λx=>by
   unfold gS;split
   ·rename_i hy;exact⟨.inl,λz=>z.elim id (λe=>e▸hy)⟩
   ·simp
  have hl:(gS D y).length<=D.length+1:=by
   unfold gS;split
   ·omega
   ·simp
  refine⟨h1,λx=>?_,by rw[Ud,Pw];omega⟩;rw[Ud,h2,hm,O_,or_assoc]
theorem nz(l:List Str):(bq l).length<=l.length:=by have:=(ix l [] UG).2.2;simpa[bq] using this
theorem lQ(l:List Str)(x:Str):bq (l++[x])=gS (bq l) x:=by unfold bq;rw[List.foldl_append];rfl
section
variable{prog:PZ}{w:Qj}{A:Ra}{R:Result->O7->Prop}{I:O8}{fp wr:List O8}{G:Array V9->Array V9->Prop}{n:Nat}{P:Nat->OW->Prop}{St:Nat->O7->Prop}
theorem gb(W:Vd prog w A.in1 I fp wr G n P St)(S:O8)(D_:S∉fp)(led:Bool)
  (ys:List Str) (hn:ys.length=n) (Gx:∀i v,P i v->∃x t,ys[i]?=Od x/\v=.str x t) (hb:n+1<Q4) :
  ∀(k i:Nat) (s:O7),n - i=k->i<=n->St i s->c7 prog w s.heap S led (bq (ys.take i)) ->
   (∀s',WX (S::wr) G s s'->c7 prog w s'.heap S led (bq ys)->R (.ok (.ret .none)) s') ->
   Sa (O9 prog w) A (.builtin "set.update.loop" ⟨[.ref S,.ref I],[]⟩) R s:=by
 have Lq:S∉wr:=λh=>D_ (W.sub _ h);have Ez:∀b∈wr,b∈S::wr:=λb hb=>PV _ hb;intro k;induction k with
 |zero =>
  intro i s hk hi Cp hS hR;have F5:i=n:=by omega
  subst F5;refine Qh Sy ?_;rw[Qg Q8 _];show OZ _ A.in1 (S9 (.ref I) >>= _) _ _ s;refine OO (W.done s _ _ Cp λs' hm=>?_);show OZ _ A.in1 (ret Pu) _ _ s';rw[Q0 ⋯]at hS;exact OU (hR s' (hm.mono Ez) (by
   obtain⟨L,es,ep,t,ho,rest⟩:=hS;exact⟨L,es,ep,t,hm.heap S _ Lq ho,rest⟩))
 |succ k ih =>
  intro i s hk hi Cp hS hR;have Cz:i<n:=by omega
  refine Qh Sy ?_;rw[Qg Q8 _];show OZ _ A.in1 (S9 (.ref I) >>= _) _ _ s;refine OO (W.item i s _ _ Cz Cp λv s' hP Kb hm=>?_);obtain⟨x,t,hx,rfl⟩:=Gx i v hP;have Dx:c7 prog w s'.heap S led (bq (ys.take i)):=by
   obtain⟨L,es,ep,tb,ho,rest⟩:=hS;exact⟨L,es,ep,tb,hm.heap S _ Lq ho,rest⟩
  show OZ _ A.in1 (RX [P7 x t] (setAdd S (.str x t)) >>= _) _ _ s';refine OO (P5 ?_);unfold setAdd;refine P5 ?_;refine OO ((sK prog w).pyHash (k:=x) (by rw[oW];simp) ?_);have F3:(bq (ys.take i)).length+1<Q4:=by have:=nz (ys.take i);rw[Qa]at this;omega
  refine nv (s:={s' with toks:=s'.toks+1}) Dx F3 λh' Hd Jf=>?_;have MV:c7 prog w h' S led (bq (ys.take (i+1))):=by
   rw[List.take_add_one,hx];show c7 prog w h' S led (bq (ys.take i++[x]));rw[lQ];exact Jf
  refine OU ⟨RF Q8 _,ih (i+1) _ ⋯ Cz (W.frame _ s' _ _ Kb (QE _) λb hb o e=>?_) MV λHv Kc Ke=>?_⟩
  ·rw[Hd.2 b (λh:b=S=>D_ (by rw[<-h];exact hb))];exact e
  ·refine hR Hv (WW W.gtrans ((hm.mono Ez).then_heap (QE _) λb o hb e=>?_) Kc) Ke;rw[Hd.2 b (λh:b=S=>hb (by rw[h];exact PY))];exact e
end
section
theorem jk(a:OW)
  (h:Q₁ (.ref s.heap.objs.size) {s with heap:=s.heap.push {cls:=.type "set",dict:=OQ,data:=.set #[] 0 (.fresh 0 0 (!w.params.followText "set-order"))}}) :
  Sa (O9 prog w) A (.call (.builtin "set.__new__") ⟨[.type "set",a],[]⟩) (wants Q₁ E) s:=by
 refine UU ?_;show OZ _ A.in1 (do W8 "set.__new__" ⟨[.type "set",a],[]⟩;V8 (.builtin "set.__new__" ⟨[.type "set",a],[]⟩)) _ _ s;refine OO (TC (PySem.F.newCall_set_1 a) (OU ⟨RF PySem.F.plain_set_new _,Qh PySem.F.entry_set_new ?_⟩));rw[Qg PySem.F.plain_set_new _];unfold Rz.«set.__new__» Wc;have Ez:=sub_set_self;obtain⟨hp,g,d,tk,os⟩:=s
 dsimp only
 wp_walk
 refine UH (OU ?_)
 dsimp only
 simp only[newObj];refine OO (wpAny_alloc (OU ?_));exact OU h
theorem nA(hg:h.get? a=Od {cls:=.type "set",dict:=OQ,data:=.set #[] 0 (.fresh 0 0 led)}):c7 prog w h a led [] :=
 ⟨[],#[],0,_,hg,rfl,.nil,UG,rfl,by unfold Q4;decide,rfl,.inl rfl⟩
end
theorem sub_tuple_set:RP (.type "tuple") (.type "set")=pure OR:=by rw[Qq];kernel_rfl
theorem sub_tuple_frozenset:RP (.type "tuple") (.type "frozenset")=pure OR:=by rw[Qq];kernel_rfl
section
abbrev cn(w:Qj):Bool:=!w.params.followText "set-order"
abbrev nB(led:Bool):Obj:={cls:=.type "set",dict:=OQ,data:=.set #[] 0 (.fresh 0 0 led)}
theorem fB
  (MW:s.TypeIs (.ref l) T) (MX:RP (.type T) (.type "set")=pure OR) (MY:RP (.type T) (.type "frozenset")=pure OR) (Ds:(PD T==PD "dict")=OR)
  (hb:ys.length+1<Q4)
  (hit:∀(s1:O7) (B:Ra) (Q':OW->O7->Prop),B.handled=A.handled->(∀b o,s.heap.get? b=Od o->s1.heap.get? b=Od o)->s.heap.objs.size<s1.heap.objs.size ->
   (∀I fp wr G P St h1,Vd prog w B.in1 I fp wr G ys.length P St->(∀g g',G g g'->g'=g)->s.heap.objs.size∉fp->(∀b∈wr,s.heap.objs.size<b)->(∀i v,P i v->∃x t,ys[i]?=Od x/\v=.str x t)->St 0 {s1 with heap:=h1}->(∀b o,s1.heap.get? b=Od o->h1.get? b=Od o)->Q' (.ref I) {s1 with heap:=h1})->OZ (O9 prog w) B (Vc (.ref l)) Q' E s1)
  (h:∀(h':QA) (tk:Nat),c7 prog w h' s.heap.objs.size (cn w) (bq ys)->(∀b o,b<s.heap.objs.size->s.heap.get? b=Od o->h'.get? b=Od o)->Q (.ref s.heap.objs.size) {s with heap:=h',toks:=tk}) :
  OZ (O9 prog w) A (RC (.type "set") [.ref l]) Q E s:=by
 obtain⟨c,tl,MZ⟩:=PySem.F.called_set.mro;have Lr:=PySem.F.called_set.made;have Ez:=PySem.F.called_set.sub;refine wpAny_call (UU ?_);show OZ _ _ (callAny (.type "set") _) _ _ _;refine OU ⟨VD _ (by decide +kernel),Qh PySem.F.entry_type_call ?_⟩;rw[Around.under_plain (weight_type_call_type "set" [.ref l] []) rfl];have h1:=PySem.F.called_set.notType;have h2:=PySem.F.called_set.canCreate;have Ot:=PySem.F.typeCall_set_1 (.ref l)
 repeat (any_goals (first|assumption|wp_step))
 refine S_ (jk (.ref l) (E:=E) (Q₁:=λobj s₁=>obj=.ref s.heap.objs.size/\s₁={s with heap:=s.heap.push (nB (cn w))}) ⟨rfl,rfl⟩) λr s₁ hr=>?_;cases r with
 |error e=>exact hr
 |ok fl =>
  cases fl with
  |ret obj =>
   obtain⟨rfl,rfl⟩:=hr;have hS:(s.heap.push (nB (cn w))).get? s.heap.objs.size=Od (nB (cn w)):=O3 _ rfl;have hT:So {s with heap:=s.heap.push (nB (cn w))} (.ref s.heap.objs.size) "set":=⟨_,hS,rfl⟩
   have Ou:=PySem.F.called_set.init.lookup;have Ov:=PySem.F.called_set.init.bind (.ref s.heap.objs.size)
   repeat (any_goals (first|assumption|wp_step))
   refine S_ (codeAny_call_builtin (R:=wants (λr s₂=>r=.none/\∃h' tk,s₂={s with heap:=h',toks:=tk} /\
     c7 prog w h' s.heap.objs.size (cn w) (bq ys) /\
     (∀b o,b<s.heap.objs.size->s.heap.get? b=Od o->h'.get? b=Od o)) E) PySem.F.called_set.init.plain PySem.F.entry_set_init (check_set_init_1 hT ?_)) λr₂ s₂ Kf=>?_
   ·obtain⟨ol,HS,Jg⟩:=MW;obtain⟨M0,HU,HV,Gy⟩:=ol;simp only at Jg;subst Jg;have Kg:(s.heap.push (nB (cn w))).get? l=Od {cls:=.type T,dict:=HU,data:=HV,slots:=Gy}:=OT _ HS;have Ow:So {s with heap:=s.heap.push (nB (cn w))} (.ref l) T:=⟨_,Kg,rfl⟩
    unfold Rz.«set.__init__» noKeywords V';generalize M1:Vc=PI
    wp_walk
    subst M1;refine hit {s with heap:=s.heap.push (nB (cn w))} _ _ rfl (λb o e=>OT _ e) (by rw[QL];exact QW _) λI fp wr G P St h1 W hG hf M3 Gx Cp hk=>?_;refine OO (TB ?_);refine gb W s.heap.objs.size hf (cn w) ys rfl Gx hb (ys.length - 0) 0 _ ⋯ (Pt _) Cp (nA (hk _ _ hS)) ?_;intro s' hm Dx;obtain⟨h',g',d',M4,JR⟩:=s';have eg:g'=s.gens:=hG _ _ hm.gens;have ed:d'=s.drawn:=hm.drawn;have eo:JR=s.os:=hm.os;subst eg;subst ed;subst eo;show OZ _ _ _ _ _ _;refine OU ?_;show OZ _ _ (ret Pu) _ _ _;refine OU ⟨rfl,h',M4,rfl,Dx,λb o DC e=>?_⟩;exact hm.heap b o (λz=>by
     rcases O_.mp z with z|z
     ·rw[z]at DC;exact P0 _ DC
     ·exact absurd (M3 b z) (Wg DC)) (hk _ _ (OT _ e))
   ·cases r₂ with
    |error e=>exact Kf
    |ok M5 =>
     cases M5 with
     |ret r =>
      obtain⟨rfl,h',tk,rfl,Dx,CL⟩:=Kf
      repeat (any_goals (first|assumption|wp_step))
      exact h _ _ Dx CL
     |_=>exact Kf.elim
  |_=>exact hr.elim
end
section
theorem kB:∀{vs:List OW}{ss:List Str},R3 vs ss->∀(i:Nat) (v:OW),vs[i]?=Od v->∃x t,ss[i]?=Od x/\v=.str x t
 |_,_,.nil,i,v,h=>by simp at h
 |_,_,.cons x t h,0,v,e=>by simp at e;exact⟨x,t,rfl,e.symm⟩
 |_,_,.cons x t h,i+1,v,e=>by rw[SM]at e;rw[SM];exact kB h i v e
theorem fC:∀{vs:List OW}{ss:List Str},R3 vs ss->vs.length=ss.length
 |_,_,.nil=>rfl
 |_,_,.cons x t h=>by simp[fC h]
theorem oX(h1:n≠S)(h2:n≠l):n∉[S,l]:=by simp[h1,h2]
theorem iy(hh:A.handled=OQ)(hl:s.heap.IsList l vs.toArray)(hS:R3 vs ys)(hb:ys.length+1<Q4)
  (h:∀(h':QA) (tk:Nat),c7 prog w h' s.heap.objs.size (cn w) (bq ys)->(∀b o,b<s.heap.objs.size->s.heap.get? b=Od o->h'.get? b=Od o)->Q (.ref s.heap.objs.size) {s with heap:=h',toks:=tk}) :
  OZ (O9 prog w) A (RC (.type "set") [.ref l]) Q E s:=by
 have HW:l<s.heap.objs.size:=let ⟨o,ho,_⟩:=hl;O4 ho;refine fB hl.typeIs PySem.F.sub_list_set PySem.F.sub_list_frozenset (by decide) hb (λs1 B Q' hB hk Cz hq=>?_) h;have EV:s1.heap.IsList l vs.toArray:=let ⟨o,ho,r⟩:=hl;⟨o,hk _ _ ho,r⟩;refine Ui EV ?_;have Gz:l≠s1.heap.objs.size:=O' (Vg HW Cz);have W:=(W_ (prog:=prog) (w:=w) (A:=B.in1) (by simp[hB,hh]) s1.heap.objs.size l Gz vs.toArray).toS;have el:vs.toArray.size=ys.length:=by simp[fC hS]
 rw[el]at W;refine hq _ _ _ _ _ _ _ W (λ_ _ e=>e) (oX (O' Cz) (QN HW)) (λb hb=>by rw[Pf.mp hb];exact Cz) (λi v hv=>kB hS i v (by simpa using hv)) ⟨⟨_,O3 _ rfl,rfl,rfl⟩,EV.push _⟩ λb o e=>OT _ e
theorem jl(hh:A.handled=OQ)(hl:s.heap.IsTuple l vs.toArray)(hS:R3 vs ys)(hb:ys.length+1<Q4)
  (h:∀(h':QA) (tk:Nat),c7 prog w h' s.heap.objs.size (cn w) (bq ys)->(∀b o,b<s.heap.objs.size->s.heap.get? b=Od o->h'.get? b=Od o)->Q (.ref s.heap.objs.size) {s with heap:=h',toks:=tk}) :
  OZ (O9 prog w) A (RC (.type "set") [.ref l]) Q E s:=by
 have HW:l<s.heap.objs.size:=let ⟨o,ho,_⟩:=hl;O4 ho;refine fB hl.typeIs sub_tuple_set sub_tuple_frozenset (by decide) hb (λs1 B Q' hB hk Cz hq=>?_) h;have EV:s1.heap.IsTuple l vs.toArray:=let ⟨o,ho,r⟩:=hl;⟨o,hk _ _ ho,r⟩;refine RI EV ?_;have Gz:l≠s1.heap.objs.size:=O' (Vg HW Cz);have W:=(Walks.tuple (prog:=prog) (w:=w) (A:=B.in1) (by simp[hB,hh]) s1.heap.objs.size l Gz vs.toArray).toS;have el:vs.toArray.size=ys.length:=by simp[fC hS]
 rw[el]at W;refine hq _ _ _ _ _ _ _ W (λ_ _ e=>e) (oX (O' Cz) (QN HW)) (λb hb=>by rw[Pf.mp hb];exact Cz) (λi v hv=>kB hS i v (by simpa using hv)) ⟨⟨_,O3 _ rfl,rfl,rfl⟩,let ⟨o,ho,r⟩:=EV;⟨o,OT _ ho,r⟩⟩ λb o e=>OT _ e
theorem kC(hn:n≠0)(h:∀i<n,Q i {s with drawn:=s.drawn.bump src}):OZ M A (choose src n) Q E s:=λΓ p hΓ=>by
 show Sem.wp M Γ (.choose src n .pure) _ _ p s;rw[Sem.wp_choose];exact⟨hn,h _ (XH _ (Nat.pos_of_ne_zero hn))⟩
theorem eU:∀{xs:List α}{i:Nat}{x:α},xs[i]?=Od x->(x::xs.eraseIdx i).Perm xs
 |[],i,x,h=>by simp at h
 |y::ys,0,x,h=>by simp at h;subst h;exact .refl _
 |y::ys,i+1,x,h=>by
  rw[SM]at h;rw[UZ];exact(List.Perm.swap y x _).trans ((eU h).cons y)
theorem eF:∀(n:Nat) (xs:List α) (s:O7) (Q:List α->O7->Prop),xs.length=n->(∀ys d,ys.Perm xs->Q ys {s with drawn:=d})->OZ M A (drawOrder n xs) Q E s
 |0,xs,s,Q,hn,h=>by
  have:xs=[]:=UY.mp hn;subst this;exact OU (h [] s.drawn (.refl _))
 |n+1,[],s,Q,hn,h=>by simp at hn
 |n+1,y::ys,s,Q,hn,h=>by
  show OZ M A (choose .order (y::ys).length >>= _) Q E s;refine OO (kC (by simp) λi hi=>?_);have e:(y::ys)[i]?=Od ((y::ys)[i]'hi):=Pn hi;have hp:=eU e;generalize (y::ys)[i]'hi=x at e hp;simp only[e];refine OO (eF n _ _ _ (by have:=hp.length_eq;simp at this hn ⊢;omega) λzs d hz=>?_);exact OU (h (x::zs) d ((hz.cons x).trans hp))
theorem gF(next:Nat->Nat):∀(fuel k:Nat) (left:List α) (out:Array α),left.length=fuel->(Uo next fuel k left out).toList.Perm (out.toList++left)
 |0,k,left,out,hl=>by
  have:left=[]:=UY.mp hl;subst this;simp[Uo]
 |fuel+1,k,left,out,hl=>by
  unfold Uo;have Cz:next k % left.length<left.length:=XH _ ⋯;have e:left[next k % left.length]?=Od (left[next k % left.length]'Cz):=Pn Cz;have hp:=eU e;generalize left[next k % left.length]'Cz=x at e hp;simp only[e];refine(gF next fuel _ _ _ (by have:=hp.length_eq;simp at this;omega)).trans ?_;rw[VG,List.append_assoc];exact(hp.append_left _)
theorem dA(next:Nat->Nat)(xs:Array α):(UL next xs).toList.Perm xs.toList:=by
 have:=gF next xs.size 0 xs.toList #[] (by simp);simpa[UL] using this
end
namespace SI
theorem lR:Manifest.owners.lookup (String.ofList ['r','o','t','a','r','e','t','i','_','t','e','s'].reverse)=Od Manifest.sig_set_iterator:=by kernel_rfl
theorem slot_next:Slot "set_iterator" "__next__" "set_iterator.__next__" :=
 .of (owner:="set_iterator") (n:="__next__") (by rw[Sl,Rj];kernel_rfl) (by decide +kernel) (by decide +kernel) (by decide +kernel)
  (by first|exact .inl (by decide +kernel)|exact .inr (by decide +kernel)) (by rw[Qq];kernel_rfl)
theorem entry_next:Xv table "set_iterator.__next__"=Od Rz.«set_iterator.__next__»:=entryFor_of_tree (by kernel_rfl)
theorem args_next(a:OW):Xx "set_iterator.__next__" ⟨[a],[]⟩:=by
 unfold Xx;rw[signature?_of (id:="set_iterator.__next__") (n:=['_','_','t','x','e','n','_','_']) (o:=['r','o','t','a','r','e','t','i','_','t','e','s']) (by kernel_rfl) lR];kernel_rfl
theorem jD:Slot "set_iterator" "__iter__" "set_iterator.__iter__" :=
 .of (owner:="set_iterator") (n:="__iter__") (by rw[Sl,Rj];kernel_rfl) (by decide +kernel) (by decide +kernel) (by decide +kernel)
  (by first|exact .inl (by decide +kernel)|exact .inr (by decide +kernel)) (by rw[Qq];kernel_rfl)
theorem qL(a:OW):Xx "set_iterator.__iter__" ⟨[a],[]⟩:=by
 unfold Xx;rw[signature?_of (id:="set_iterator.__iter__") (n:=['_','_','r','e','t','i','_','_']) (o:=['r','o','t','a','r','e','t','i','_','t','e','s']) (by kernel_rfl) lR];kernel_rfl
theorem nE:Xv table "set_iterator.__iter__"=Od Rz.«dict_keyiterator.__iter__» :=
 Xu (id':="dict_keyiterator.__iter__") (by kernel_rfl) (by first|rfl|decide +kernel|(unfold String.splitOn;simp +decide [String.splitOnAux])) (by decide +kernel) (by kernel_rfl)
theorem iz:Xv table "set.__iter__"=Od Rz.«frozenset.__iter__» :=
 Xu (id':="frozenset.__iter__") (by kernel_rfl) rfl (by decide +kernel) (by kernel_rfl)
end SI
section
variable{prog:PZ}{w:Qj}{A:Ra}{E:OW->O7->Prop}{s:O7}
def eV(h:QA)(I:O8)(first:OW)(i:Nat)(S:O8)(n ep:Nat):Prop:=∃o,h.get? I=Od o/\o.cls=.type "set_iterator"/\o.data=.fields #[first,P8 i,.ref S,P8 n,P8 ep]
theorem eV.typeIs(x:eV s.heap I f i S n ep):s.TypeIs (.ref I) "set_iterator":=let ⟨o,ho,hc,_⟩:=x;⟨o,ho,hc⟩
theorem vS(hit:eV s.heap I f i S n ep)(h:Q (.ref I) s):OZ (O9 prog w) A (Vc (.ref I)) Q E s:=by
 refine WL hit.typeIs SI.jD (P6 SI.jD hit.typeIs SI.nE ?_ (SI.qL _));show OZ _ _ (ret (.ref I)) _ _ s;exact OU ⟨_,rfl,"set_iterator",_,hit.typeIs,SI.slot_next.lookup,h⟩
theorem c8(h:Q (M.w.params.followText "set-order") s):OZ M A setsByText Q E s:=by
 unfold setsByText;exact OO (UH (OU h))
end
end L2
namespace L2
open PySem PySem.Spec PyProof.Rows
section
variable{prog:PZ}{w:Qj}{A:Ra}{E:OW->O7->Prop}{s:O7}
abbrev kD(es:Array (Int×OW))(ep:Nat)(t:SF):Obj:={cls:=.type "set",dict:=OQ,data:=.set es ep t}
theorem lS{I:O8}{B:Ra}{Q:Option OW->O7->Prop}{h1:QA}{k:OW->Sem (Option OW)}(hh:B.handled=OQ)
  (hQ:∀h',(∀b o,h1.get? b=Od o->h'.get? b=Od o)->∀e,So {s with heap:=h' } e "StopIteration"->E e {s with heap:=h' }) {Q':Fin->O7->Prop} :
  OZ (O9 prog w) B (VN (.type "StopIteration") [] >>= λe=>(Vb e:Sem Fin)) Q' E {s with heap:=h1}:=by
 refine OO ?_;simp only[VN,Xr];refine OO (Pz ?_ (by size_fits));refine OO (m:=TF _ _) (TC (a:=Pu) (by first|rfl|(simp only[TF];rfl)) ?_);refine Pz ?_ (by size_fits);simp only[Vb];refine OO (wpAny_handled ?_);rw[hh];refine OO (OU (wpAny_throw ?_));exact hQ _ (λb o e=>OT _ (OT _ e)) _ ⟨_,O3 _ rfl,rfl⟩
theorem oY{I S:O8}{first:OW}{i ep:Nat}{es:Array (Int×OW)}{t:SF}(hit:eV s.heap I first i S es.size ep)(ho:s.heap.get? S=Od (kD es ep t))(hf:t.fits es.size=OP)
  (HX:∀(Q':Fin->O7->Prop) (E':OW->O7->Prop) ,(∀v s',Q (Od v) s'->Q' (.done (.ret v)) s')->(∀e s',s'.TypeIs e "StopIteration"->Q OQ s'->E' e s') ->
   OZ (O9 prog w) A.in1 (if let .int slot _:=first then(do
     match <-Ul S slot.toNat i ep with
     |some (x,next) =>
      Um (.ref I) 0 (P8 next)
      Um (.ref I) 1 (P8 ((i:Int)+1))
      ret x
     |none=>Um (.ref I) 2 .none;Vb (<-VN (.type "StopIteration") []))
    else(do
     let Od places <-UJ first|unsupported "internal:set_iterator"
     match places[i]? with
     |some (.int place _) =>
      let x <-VJ S place.toNat ep
      Um (.ref I) 1 (P8 ((i:Int)+1))
      ret x
     |some _=>UQ "internal:set_iterator"
     |none=>Um (.ref I) 0 (P8 0);Um (.ref I) 2 .none;Vb (<-VN (.type "StopIteration") []))) Q' E' s):OZ (O9 prog w) A (S9 (.ref I)) Q E s:=by
 obtain⟨o,hI,hc,hd⟩:=id hit;unfold S9;refine OO (wpAny_attempt (QB (name:=Rq "__next__") hit.typeIs SI.slot_next
  (P6 SI.slot_next hit.typeIs SI.entry_next ?_ (SI.args_next _))))
 unfold Rz.«set_iterator.__next__»;refine OO (TC (a:=(Pd I,[])) rfl ?_)
 try dsimp only
 refine OO (wpAny_fieldsOf hI hd ?_)
 try dsimp only
 refine OO (Wl ho rfl hf ?_);rw[XM (by simp)];refine Qb (HX (λfin s'=>∃r,fin=.done (.ret r)/\Q (Od r) s') (λe s'=>s'.TypeIs e "StopIteration"/\Q OQ s') (λv s' q=>⟨v,rfl,q⟩) λe s' z q=>⟨z,q⟩) ?_ ?_
 ·rintro fin s' ⟨r,rfl,q⟩;exact⟨r,rfl,OU q⟩
 ·rintro e s' ⟨z,q⟩;refine OO (Q3 (T:="StopIteration") (b:=OP) z Xs ?_);exact OU q
end
section
theorem oZ{I S:O8}{f f':OW}{i n ep:Nat}{h:QA}{o:Obj}(hI:h.get? I=Od o)(hc:o.cls=.type "set_iterator")(hd:o.data=.fields #[f,P8 i,.ref S,P8 n,P8 ep]):
  eV (h.update I (WV (·.setIfInBounds 1 (P8 ((i:Int)+1))))) I f (i+1) S n ep :=
 ⟨_,P2 _ hI (S3 (Q5 hd _)),(TY ..).trans hc,by rw[Q5 hd];simp⟩
theorem lT{h:QA}(hI:h.get? I=Od o)(hc:o.cls=.type "set_iterator")(hd:o.data=.fields #[f,P8 i,.ref S,P8 n,P8 ep]):
  ∃o',(h.update I (WV (·.setIfInBounds 0 f'))).get? I=Od o'/\o'.cls=.type "set_iterator"/\o'.data=.fields #[f',P8 i,.ref S,P8 n,P8 ep] :=
 ⟨_,P2 _ hI (S3 (Q5 hd _)),(TY ..).trans hc,by rw[Q5 hd];simp⟩
theorem sH{I S:O8}{slot i ep:Nat}{es:Array (Int×OW)}{t:SF}{Q:Option OW->O7->Prop}(hit:eV s.heap I (P8 slot) i S es.size ep)(ho:s.heap.get? S=Od (kD es ep t))(hf:t.fits es.size=OP)(hh:A.handled=OQ)
  {r:Option (OW×Nat)} (hn:∀(B:Ra) (E':OW->O7->Prop) (Q':Option (OW×Nat)->O7->Prop),Q' r s->OZ (O9 prog w) B (Ul S slot i ep) Q' E' s)
  (h1:∀x nx,r=Od (x,nx)->∀h',eV h' I (P8 nx) (i+1) S es.size ep->Qu I s.heap h'->Q (Od x) {s with heap:=h' })
  (h2:r=OQ->∀h',(∀b o,b≠I->s.heap.get? b=Od o->h'.get? b=Od o)->Q OQ {s with heap:=h' }):OZ (O9 prog w) A (S9 (.ref I)) Q E s:=by
 refine oY hit ho hf λQ' E' q1 q2=>?_;obtain⟨o,hI,hc,hd⟩:=id hit;show OZ _ _ (Ul S slot i ep >>= _) _ _ s;refine OO (hn _ _ _ ?_);cases r with
 |some p =>
  obtain⟨x,nx⟩:=p
  dsimp only
  refine OO (Q2 hI hd (by simp) ?_);obtain⟨o',e1,e2,e3⟩:=lT (f':=P8 nx) hI hc hd;refine OO (Q2 (s:={s with heap:=_}) e1 e3 (by simp) ?_);exact OU (q1 _ _ (h1 x nx rfl _ (oZ (f':=P8 nx) e1 e2 e3) ((Qt ..).trans (Qt ..))))
 |none =>
  dsimp only
  refine OO (Q2 hI hd (by simp) ?_);refine lS (I:=I) (k:=λ_=>pure OQ) (Q:=λ_ _=>True) (s:=s) (by simpa using hh) λh' hk e he=>q2 e _ he (h2 rfl h' λb ob hb eb=>hk b ob ?_);rw[Rr _ _ _ _ hb];exact eb
theorem yJ{I S T:O8}{i ep:Nat}{es:Array (Int×OW)}{t:SF}{pl:List Nat}{Q:Option OW->O7->Prop}(hit:eV s.heap I (.ref T) i S es.size ep)(ho:s.heap.get? S=Od (kD es ep t))(hf:t.fits es.size=OP)(hh:A.handled=OQ)
  (hT:s.heap.IsTuple T ((pl.map λ(j:Nat)=>P8 j).toArray))
  (h1:∀(j:Nat) (e:Int×OW),pl[i]?=Od j->es[j]?=Od e->∀h',eV h' I (.ref T) (i+1) S es.size ep->Qu I s.heap h'->Q (Od e.2) {s with heap:=h' })
  (hp:∀j∈pl,j<es.size)
  (h2:pl[i]?=OQ->∀h',(∀b o,b≠I->s.heap.get? b=Od o->h'.get? b=Od o)->Q OQ {s with heap:=h' }):OZ (O9 prog w) A (S9 (.ref I)) Q E s:=by
 refine oY hit ho hf λQ' E' q1 q2=>?_;obtain⟨o,hI,hc,hd⟩:=id hit;obtain⟨oT,M6,Ox,nT,M7⟩:=hT;show OZ _ _ (UJ (.ref T) >>= _) _ _ s;refine OO (RV M6 M7 ?_);cases e:pl[i]? with
 |some j =>
  have e':(pl.map λ(j:Nat)=>P8 j).toArray[i]?=Od (P8 j):=by simp[e]
  simp only[e'];have hj:j<es.size:=hp j (P' e);have ej:es[j]?=Od (es[j]'hj):=by simp[hj]
  show OZ _ _ (VJ S (j:Int).toNat ep >>= _) _ _ s;unfold VJ;rw[SA];refine OO (OO (Qo ho rfl hf ?_))
  dsimp only
  rw[XM (by simp)];generalize es[j]'hj=p at ej;simp only[ej];refine OU ?_;refine OO (Q2 hI hd (by simp) ?_);exact OU (q1 _ _ (h1 j p e ej _ (oZ (f':=.ref T) hI hc hd) (Qt ..)))
 |none =>
  have e':(pl.map λ(j:Nat)=>P8 j).toArray[i]?=OQ:=by simp at e ⊢;exact e
  simp only[e'];refine OO (Q2 hI hd (by simp) ?_);obtain⟨o',e1,e2,e3⟩:=lT (f':=P8 0) hI hc hd;refine OO (Q2 (s:={s with heap:=_}) e1 e3 (by simp) ?_);refine lS (I:=I) (k:=λ_=>pure OQ) (Q:=λ_ _=>True) (s:=s) (by simpa using hh) λh' hk ex he=>q2 ex _ he (h2 e h' λb ob hb eb=>hk b ob ?_);rw[Rr _ _ _ _ hb,Rr _ _ _ _ hb];exact eb
end
section
theorem eV.at(x:eV h I f i S n ep)(e:∀o,h.get? I=Od o->h'.get? I=Od o):eV h' I f i S n ep:=let ⟨o,ho,r⟩:=x;⟨o,e _ ho,r⟩
theorem iA(hh:A.handled=OQ)(Ds:S≠I)(hf:t.fits es.size=OP)(T:O8)(hT:T≠I)(ord:List OW)(hlen:ord.length=es.size)
  (first:Nat->OW) (side:QA->Prop) (Em:∀h h',side h->(∀o,h.get? T=Od o->h'.get? T=Od o)->side h')
  (Ek:∀(s:O7) (i:Nat) (E:OW->O7->Prop) (Q:Option OW->O7->Prop),i<=es.size->side s.heap->eV s.heap I (first i) i S es.size ep->s.heap.get? S=Od (kD es ep t) ->
   (∀x,ord[i]?=Od x->∀h',eV h' I (first (i+1)) (i+1) S es.size ep->Qu I s.heap h'->Q (Od x) {s with heap:=h' }) ->
   (ord[i]?=OQ->∀h',(∀b o,b≠I->s.heap.get? b=Od o->h'.get? b=Od o)->Q OQ {s with heap:=h' })->OZ (O9 prog w) A (S9 (.ref I)) Q E s) :
  Walks prog w A I [I,S,T] [I] es.size (λi v=>ord[i]?=Od v) (λi h=>i<=es.size/\eV h I (first i) i S es.size ep/\h.get? S=Od (kD es ep t)/\side h) where
 sub:=λb hb=>by rw[Pf.mp hb];simp
 frame:=λi h h' x hk=>⟨x.1,x.2.1.at λo e=>hk I (by simp) o e,hk S (by simp) _ x.2.2.1,Em h h' x.2.2.2 λo e=>hk T (by simp) o e⟩
 item:=λi s Q E hi x hQ=>by
  refine Ek s i E Q x.1 x.2.2.2 x.2.1 x.2.2.1 (λv hv h' hit hs=>?_) λz=>absurd z (by simp;omega);refine hQ v h' s.toks hv ⟨hi,hit,?_,Em _ h' x.2.2.2 λo e=>?_⟩ λb o hb e=>?_
  ·rw[hs.2 S Ds];exact x.2.2.1
  ·rw[hs.2 T hT];exact e
  ·rw[hs.2 b λz=>hb (by simp[z])];exact e
 done:=λs Q E x hQ=>by
  refine Ek s es.size E Q x.1 x.2.2.2 x.2.1 x.2.2.1 (λv hv=>absurd hv (by rw[RU ⋯];simp)) λ_ h' hk=>hQ h' s.toks λb o hb e=>hk b o (λz=>hb (by simp[z])) e
 self:=λi s Q E x hQ=>vS x.2.1 hQ
theorem kF(ho:s.heap.get? S=Od (kD es ep t))(hf:t.fits es.size=OP)(h:Q (!w.params.followText "set-order"&&(!t.plain&&OX (es.size>1))) s):OZ (O9 prog w) A (setDrawn S) Q E s:=by
 unfold setDrawn;refine OO (Qo ho rfl hf ?_)
 dsimp only
 exact OO (c8 (OU h))
theorem kG(hw:w.params.followText "set-order"=OP)(ho:s.heap.get? S=Od (kD es ep t))(hf:t.fits es.size=OP)
  (h:Q ((UL (w.params.setOrder S ep) es)[i]?.map λe=>(e.2,0)) s):OZ (O9 prog w) A (Ul S 0 i ep) Q E s:=by
 unfold Ul;refine OO (Qo ho rfl hf ?_)
 dsimp only
 refine OO (c8 ?_);show OZ _ _ (if (w.params.followText "set-order")=OP then _ else _) _ _ s;rw[XI hw];rw[XM (by simp)];unfold setWalk;refine OO (OO (Qo ho rfl hf ?_))
 dsimp only
 refine OO (c8 ?_);show OZ _ _ (if (w.params.followText "set-order")=OP then _ else _) _ _ s;rw[XI hw];refine OO (UH (OU ?_));exact OU h
theorem lU(hw:w.params.followText "set-order"=OR)(ho:s.heap.get? S=Od (kD es ep t))(hf:t.fits es.size=OP)(hl:t.led=OP)(h1:es.size<=1)
    (h:Q (match es[QO t.place slot]?,t.place[QO t.place slot]? with|some (_,x),Od j=>Od (x,j+1)|_,_=>OQ) s):OZ (O9 prog w) A (Ul S slot i ep) Q E s:=by
  unfold Ul;refine OO (Qo ho rfl hf ?_)
  dsimp only
  refine OO (c8 ?_);show OZ _ _ (if (w.params.followText "set-order")=OP then _ else _) _ _ s;rw[XM (by rw[hw];simp)];show OZ _ _ (if (!t.plain&&OX (es.size>1))=OP then _ else _) _ _ s
  rw [if_neg (by have : decide (es.size > 1) = false := decide_eq_false (by omega)
                 rw[this];simp)]
  show OZ _ _ ((if (!t.led&&!es.isEmpty)=OP then _ else _) >>= _) _ _ s;rw[XM (by rw[hl];simp)];exact OO (OU (OU h))
theorem lV(es:Array (Int×OW))(pl:Array Nat)(i:Nat)(h1:es.size<=1)(h2:pl.size=es.size)(h3:i<=es.size):
  (match es[QO pl (if i=0 then 0 else(pl[0]?).getD 0+1)]?,pl[QO pl (if i=0 then 0 else(pl[0]?).getD 0+1)]? with|some (_,x),Od j=>Od (x,j+1)|_,_=>OQ)=es[i]?.map λe=>(e.2,(pl[0]?).getD 0+1):=by
 obtain⟨es⟩:=es;obtain⟨pl⟩:=pl
 match es,pl,h1,h2,h3 with
 |[],[],_,_,h3=>simp
 |[e],[p],_,_,h3 =>
  match i,h3 with
  |0,_ =>
   have:QO #[p] 0=0:=by simp[QO,Ut]
   simp[this]
  |1,_ =>
   have:QO #[p] (p+1)=1:=by simp[QO,Ut]
   simp[this]
  |n+2,h=>simp at h
 |[],_::_,_,h,_=>simp at h
 |[_],[],_,h,_=>simp at h
 |[_],_::_::_,_,h,_=>simp at h
 |_::_::_,_,h,_,_=>simp at h
theorem sI(hh:B.handled=OQ)(hS:c7 prog w s.heap S (cn w) D)
  (h:∀(I:O8) (fp:List O8) (n:Nat) (P:Nat->OW->Prop) (St:Nat->QA->Prop) (ys:List Str) (h':QA) (d':Drawn),Walks prog w B I fp [I] n P St->ys.Perm D->n=ys.length->(∀i v,P i v->∃x tk,ys[i]?=Od x/\v=.str x tk)->s.heap.objs.size<=I->(∀b∈fp,b=S\/s.heap.objs.size<=b)->St 0 h' ->
   (∀b o,s.heap.get? b=Od o->h'.get? b=Od o)->Q (.ref I) {s with heap:=h',drawn:=d' }):OZ (O9 prog w) A (Vc (.ref S)) Q E s:=by
 obtain⟨L,es,ep,t,ho,EU,C1,Dj,hf,hb,Ey,Dp⟩:=hS;have Ls:s.TypeIs (.ref S) "set":=⟨_,ho,rfl⟩
 have EX:S<s.heap.objs.size:=O4 ho;refine WL Ls PySem.F.slot_set_iter (P6 PySem.F.slot_set_iter Ls SI.iz ?_ (PySem.F.args_set_iter_1 _));unfold Rz.«frozenset.__iter__» Wa slotArgs;simp only[List.isEmpty_nil,QD,Px,↓reduceIte,bind_assoc,SW,bne_self_eq_false];unfold Wd Wb;refine OO (OU ?_)
 try dsimp only
 refine OO (OU ?_);refine OO (OO (Wl ho rfl hf (OU ?_)));have M8:D.length=es.size:=by rw[<-C1.length_eq,OY,<-Pq,EU,OY]
 have look:∀(l:List (Int×OW)),l.Perm es.toList->∃ys:List Str,ys.Perm D/\ys.length=es.size/\∀(i:Nat) (v:OW),(l.map (·.2))[i]?=Od v->∃(x:Str) (tk:Tok),ys[i]?=Od x/\v=P7 x tk:=by
  intro l hl;rw[EU]at hl;obtain⟨L',e',p'⟩:=eT hl;refine⟨L'.map (·.1),(p'.map _).trans C1,by rw[((p'.map _).trans C1).length_eq,M8],λi v hv=>?_⟩;subst e';rw[PK,Pa]at hv;rw[Pa];cases q:L'[i]? with
  |none=>rw[q]at hv;simp at hv
  |some p=>rw[q]at hv;simp at hv;exact⟨p.1,p.2,rfl,hv.symm⟩
 refine OO (kF ho hf ?_);cases hw:w.params.followText "set-order" with
 |true =>
  simp only[QD,S7,Px,↓reduceIte];refine OO (OU ?_);refine OO (OO (Qo ho rfl hf (OU ?_)));refine OO (Pz ?_);have hn:S≠s.heap.objs.size:=O' EX;obtain⟨ys,y1,y2,y3⟩:=look (UL (w.params.setOrder S ep) es).toList (dA _ _);have W:=iA (prog:=prog) (w:=w) (A:=B) (I:=s.heap.objs.size) (S:=S) (es:=es) (ep:=ep) (t:=t) hh hn hf S hn ((UL (w.params.setOrder S ep) es).toList.map (·.2)) (by rw[OY,(dA _ _).length_eq,Pq]) (λ_=>P8 0) (λ_=>True) (λ_ _ _ _=>trivial)
   (λs i E Q _ _ hit C0 k1 k2=>sH (slot:=0) hit C0 hf hh (λB E' Q' q=>kG hw C0 hf q) (λx nx e h' D' hs=>by
    rw[O1]at e;obtain⟨p,e1,e2⟩:=e;cases e2;exact k1 _ (by rw[Pa,P1,e1];rfl) h' D' hs) (λe=>k2 (by rw[Pa,P1,SH];rwa [SH]at e)))
  refine OU ⟨_,rfl,"set_iterator",_,⟨_,O3 _ rfl,rfl⟩,SI.slot_next.lookup,?_⟩;exact h _ _ _ _ _ ys _ s.drawn W y1 y2.symm y3 (O2 _) (λb hb=>by
   simp only[O_,SJ,or_false]at hb;rcases hb with rfl|rfl|rfl
   ·exact .inr (O2 _)
   ·exact .inl rfl
   ·exact .inl rfl) ⟨Pt _,⟨_,O3 _ rfl,rfl,rfl⟩,OT _ ho,trivial⟩ λb o e=>OT _ e
 |false =>
  by_cases hsz:es.size>1
  ·have Dr:t.plain=OR:=by
    rcases Dp with z|z
    ·omega
    ·exact z
   have e1:(!OR&&(!t.plain&&OX (es.size>1)))=OP:=by rw[Dr,XO hsz];rfl
   rw[e1];simp only[↓reduceIte];refine OO (eF _ _ _ _ Ql λpl d' hp=>?_);simp only[Xr];have FD:∀j∈pl,j<es.size:=λj hj=>by have:=hp.mem_iff.mp hj;simpa using this
   have HY:pl.length=es.size:=by rw[hp.length_eq];simp
   refine OO (Pz ?_ (by
    show(pl.map λ(j:Nat)=>P8 j).toArray.size<=_;have:es.size<4096:=hb;simp only[O0,OY,HY];have:(4096:Nat)<=OV:=by decide
    omega))
   have EA:(s.heap.push {cls:=.type "tuple",data:=.seq (pl.map λ(j:Nat)=>P8 j).toArray}).get? S=Od (kD es ep t):=OT _ ho;refine OO (OO (Qo (s:={s with heap:=_,drawn:=d' }) EA rfl hf (OU ?_)));refine OO (Pz ?_);have M9:s.heap.objs.size≠(s.heap.push {cls:=.type "tuple",data:=.seq (pl.map λ(j:Nat)=>P8 j).toArray}).objs.size:=by rw[QL];exact O' (QW _)
   have hn:S≠(s.heap.push {cls:=.type "tuple",data:=.seq (pl.map λ(j:Nat)=>P8 j).toArray}).objs.size:=by rw[QL];exact O' (RL EX)
   have GA:(pl.map λj=>(es[j]?).getD (0,Pu)).Perm es.toList:=by
    refine(hp.map _).trans ?_;have:(Pl es.size).map (λj=>(es[j]?).getD (0,Pu))=es.toList:=by
     apply T8
     ·simp
     ·intro i h1 h2;simp at h1 ⊢;simp[h1]
    rw[this]
   obtain⟨ys,y1,y2,y3⟩:=look _ GA;have W:=iA (prog:=prog) (w:=w) (A:=B) (I:=(s.heap.push {cls:=.type "tuple",data:=.seq (pl.map λ(j:Nat)=>P8 j).toArray}).objs.size) (S:=S) (es:=es) (ep:=ep) (t:=t) hh hn hf s.heap.objs.size M9 ((pl.map λj=>(es[j]?).getD (0,Pu)).map (·.2)) (by simp[HY]) (λ_=>.ref s.heap.objs.size) (λh=>h.IsTuple s.heap.objs.size (pl.map λ(j:Nat)=>P8 j).toArray) (λh h' ⟨o,ho,r⟩ k=>⟨o,k _ ho,r⟩)
    (λs' i E Q _ Em hit C0 k1 k2=>yJ hit C0 hf hh Em (λj e ej ee h' D' hs=>k1 _ (by rw[Pa,Pa,ej];simp[ee]) h' D' hs) FD (λe=>k2 (by rw[Pa,Pa,e];rfl)))
   refine OU ⟨_,rfl,"set_iterator",_,⟨_,O3 _ rfl,rfl⟩,SI.slot_next.lookup,?_⟩;refine h _ _ _ _ _ ys _ d' W y1 y2.symm y3 (by rw[QL];exact QE _) (λb hb=>?_) ⟨Pt _,⟨_,O3 _ rfl,rfl,rfl⟩,OT _ EA,⟨_,OT _ (O3 _ rfl),rfl,_,rfl⟩⟩ λb o e=>OT _ (OT _ e);rw[QL]at hb;simp only[O_,SJ,or_false]at hb;rcases hb with rfl|rfl|rfl
   ·exact .inr (QE _)
   ·exact .inl rfl
   ·exact .inr (O2 _)
  ·have e1:(!OR&&(!t.plain&&OX (es.size>1)))=OR:=by rw[XN hsz];simp
   rw[e1];simp only[Px,↓reduceIte];refine OO (OU ?_);refine OO (OO (Qo ho rfl hf (OU ?_)));refine OO (Pz ?_);have hn:S≠s.heap.objs.size:=O' EX;have M_:t.led=OP:=by rw[Ey];show(!w.params.followText "set-order")=OP;rw[hw];rfl
   obtain⟨ys,y1,y2,y3⟩:=look es.toList (.refl _);have DZ:t.place.size=es.size:=by
    unfold SetTable.fits at hf;simp only[OS,beq_iff_eq]at hf;exact hf.1
   have W:=iA (prog:=prog) (w:=w) (A:=B) (I:=s.heap.objs.size) (S:=S) (es:=es) (ep:=ep) (t:=t) hh hn hf S hn (es.toList.map (·.2)) (by simp) (λi=>P8 ((if i=0 then 0 else(t.place[0]?).getD 0+1:Nat):Nat)) (λ_=>True) (λ_ _ _ _=>trivial)
    (λs' i E Q hi _ hit C0 k1 k2=>sH (slot:=if i=0 then 0 else(t.place[0]?).getD 0+1) hit C0 hf hh (λB E' Q' q=>lU hw C0 hf M_ ⋯ q) (λx nx e h' D' hs=>by
     rw[lV es t.place i ⋯ DZ hi,O1]at e;obtain⟨p,e1,e2⟩:=e;cases e2;refine k1 _ (by rw[Pa,P1,e1];rfl) h' ?_ hs;rw[XM (Nat.succ_ne_zero i)];exact D') (λe=>by
     rw[lV es t.place i ⋯ DZ hi,SH]at e;exact k2 (by rw[Pa,P1,e];rfl)))
   refine OU ⟨_,rfl,"set_iterator",_,⟨_,O3 _ rfl,rfl⟩,SI.slot_next.lookup,?_⟩;exact h _ _ _ _ _ ys _ s.drawn W y1 y2.symm y3 (O2 _) (λb hb=>by
    simp only[O_,SJ,or_false]at hb;rcases hb with rfl|rfl|rfl
    ·exact .inr (O2 _)
    ·exact .inl rfl
    ·exact .inl rfl) ⟨Pt _,⟨_,O3 _ rfl,rfl,rfl⟩,OT _ ho,trivial⟩ λb o e=>OT _ e
end
theorem lW:U' (.type "set") "__len__"=pure (Od (.builtin "set.__len__")):=by rw[Sl,Rj];kernel_rfl
section
theorem iB:∀{vs:List OW}{ys:List Str},vs.length=ys.length->(∀(i:Nat) (v:OW),vs[i]?=Od v->∃x t,ys[i]?=Od x/\v=.str x t)->R3 vs ys
 |[],[],_,_=>.nil
 |[],_::_,h,_=>by simp at h
 |_::_,[],h,_=>by simp at h
 |v::vs,y::ys,h,k=>by
  obtain⟨x,t,e1,e2⟩:=k 0 v rfl;cases e1;subst e2;exact .cons y t (iB (by simpa using h) λi w hw=>k (i+1) w hw)
theorem lX(hh:A.handled=OQ)(hS:c7 prog w s.heap S (cn w) D)(hn:D.length<=OV)
  (hQ:∀(vs:List OW) (ys:List Str) (h':QA) (d':Drawn) (tk:Nat),ys.Perm D->R3 vs ys->s.heap.objs.size<=h'.objs.size->s.toks<=tk->(∀b o,s.heap.get? b=Od o->h'.get? b=Od o)->Q vs {s with heap:=h',drawn:=d',toks:=tk}) :
  OZ (O9 prog w) A (Ur (.ref S)) Q E s:=by
 obtain⟨L,es,ep,t,ho,rest⟩:=id hS;have EX:S<s.heap.objs.size:=O4 ho;unfold Ur;refine OO (TB (Qh PySem.F.entry_proto_collect ?_));rw[Qg PySem.F.plain_proto_collect _];show OZ _ A.in1 (VM [] >>= λl=>V8 (.builtin "list.__iadd__" ⟨[l,.ref S],[]⟩)) _ _ s;refine OO (Pz ?_);refine OU ⟨RF PySem.F.plain_list_iadd _,Qh PySem.F.entry_list_iadd ?_⟩;rw[Qg PySem.F.plain_list_iadd _];have EA:(s.heap.push {cls:=.type "list",data:=.seq ([]:List OW).toArray}).get? S=Od {cls:=.type "set",dict:=OQ,data:=.set es ep t}:=OT _ ho;have hT:So {s with heap:=s.heap.push {cls:=.type "list",data:=.seq ([]:List OW).toArray}} (.ref S) "set":=⟨_,EA,rfl⟩
 show OZ _ A.in1 (PC (.ref s.heap.objs.size) (.ref S) (.ref s.heap.objs.size)) _ _ _;unfold PC;refine OO (Rx hT ?_);have Ds:s.heap.objs.size≠S:=QN EX;have h1:Rb (.ref s.heap.objs.size) (.ref S)=OR:=by simp[Rb,Ds]
 have h2:(PD "set"==PD "list")=OR:=by decide
 have h3:(PD "set"==PD "tuple")=OR:=by decide
 simp only[h1,h2,h3,Rw,Px,XQ];refine OO (sI (B:=A.in1) (by simpa using hh) ⟨L,es,ep,t,EA,rest⟩ ?_);intro I fp n P St ys h' d' W hp Lu hP hI GB Cp hk;have Kh:So {s with heap:=h',drawn:=d' } (.ref S) "set":=⟨_,hk _ _ EA,rfl⟩
 refine OO (P5 ?_);unfold Tr;refine OO (Rc Kh lW ?_);have DY:splitId "set.__len__"=Od ("set","__len__"):=by decide +kernel
 dsimp only
 rw[DY]
 dsimp only
 refine OO (Q3 Kh sub_set_self ?_);rw[XM (by decide)];rw[XI (by decide +kernel)];refine OO (Rx Kh ?_);refine OU ?_;rw[XI (by decide +kernel)];have D_:s.heap.objs.size∉fp:=λhm=>by
  rcases GB _ hm with z|z
  ·exact Ds z
  ·rw[QL]at z;exact absurd z (Nat.not_succ_le_self _)
 have He:h'.get? s.heap.objs.size=Od {cls:=.type "list",data:=.seq ([]:List OW).toArray}:=hk _ _ (O3 _ rfl);refine OO (Rt ?_);refine OO ?_;show OZ _ A.in1 (W6 s.heap.objs.size (·.push .none) >>= λ_=>W6 s.heap.objs.size (·.pop)) _ _ _;refine OO (Sk He rfl ?_);have Jf:=P2 (Py (·.push Pu)) He rfl;refine Sk Jf rfl ?_;have M':=P2 (Py (·.pop)) Jf rfl;have Df:∀b o,b≠s.heap.objs.size->h'.get? b=Od o->((h'.update s.heap.objs.size (Py (·.push Pu))).update s.heap.objs.size (Py (·.pop))).get? b=Od o :=
  λb o hb e=>(QZ _ _ (Qs hb)).trans ((QZ _ _ (Qs hb)).trans e)
 refine OU ⟨RF PySem.F.plain_extend_loop _,V6 W.toS (by rw[Lu,hp.length_eq];exact hn) _ D_ _ n 0 _ _ _ rfl (Pt _) (W.frame 0 h' _ Cp λb hb o e=>Df b o (λz=>D_ (z▸hb)) e) M' (Wm P) λs' CN c' hm Dx CC=>?_⟩;show OZ _ A (load s.heap.objs.size >>= _) _ _ s';refine OO (U_ Dx ?_);obtain⟨Ew,g2,d2,Na,Nb⟩:=s';have eg:g2=s.gens:=hm.gens;have ed:d2=d':=hm.drawn;have eo:Nb=s.os:=hm.os;subst eg;subst ed;subst eo;refine OU (hQ _ ys Ew d2 Na hp (iB (by rw[Pq,CC.1,Lu]) λi v hv=>hP i v (CC.2 i v (by rwa [P1]at hv))) (RM (O4 Dx)) hm.toks λb o e=>?_);have Lv:b≠s.heap.objs.size:=λz=>by rw[z]at e;exact absurd (O4 e) (P0 _)
 refine hm.heap b o (λz=>?_) (Df b o Lv (hk _ _ (OT _ e)));rcases O_.mp z with z|z
 ·exact Lv z
 ·rw[Pf.mp z]at e;have:=O4 e;rw[QL]at hI;exact absurd (Pb this (Qv (QE _) hI)) (P0 _)
end
section
theorem Inv.drawn(I:Inv X pins σ H s)(d:Drawn):Inv X pins σ H {s with drawn:=d}:=⟨I.ok,I.os,I.bare,I.base,I.loc,I.cell,I.free,I.CP,I.pin,I.Cg,I.len⟩
theorem fD(hc:X.calm=OP)(I:Inv X pins σ H s)(hq:CF X.K H p (ys.map V.str)\/CB X.K H p (ys.map V.str))(hb:ys.length+1<Q4)
  (h:∀(S:O8) (h':QA) (tk:Nat),c7 X.prog X.w h' S (cn X.w) (bq ys)->Inv X pins σ H {s with heap:=h',toks:=tk}->Q (.ref S) {s with heap:=h',toks:=tk}) :
  OZ (O9 X.prog X.w) X.A (RC (.type "set") [.ref p]) Q X.xe s:=by
 have hh:X.A.handled=OQ:=I.ok.hd hc;rcases hq with hq|hq
 ·obtain⟨A',rv,pl,hz⟩:=I.list hq;exact iy hh pl.isList (cC rv) hb λh' tk hS k=>h _ h' tk hS (I.kept λb o e=>k b o (O4 e) e)
 ·obtain⟨A',rv,pl,hz⟩:=I.tuple hq;exact jl hh pl (cC rv) hb λh' tk hS k=>h _ h' tk hS (I.kept λb o e=>k b o (O4 e) e)
theorem jm(hc:X.calm=OP)(I:Inv X pins σ H s)(hS:c7 X.prog X.w s.heap S (cn X.w) D)(ET:D.length<64)
  (q:∀p,H p=OQ->Q (.ref p) (upd H p (.lst ((aH D).map V.str)))):OZ (O9 X.prog X.w) X.A (RC (.builtin "sorted") [.ref S]) (EP X pins σ Q) X.xe s:=by
 have hh:X.A.handled=OQ:=I.ok.hd hc;have hl:D.length<=OV:=RM (Pb ET (by decide));refine c6 (lX (A:=X.A.in1) (by simpa using hh) hS hl λvs ys h' d' tk hp hv hsz Mg hk=>⟨ys,hv,by rw[fC hv,hp.length_eq];exact ET,λh2 De e k2 at2 s2=>?_⟩);rw[lO hp]at s2;have I1:Inv X pins σ H {s with heap:=h',toks:=tk}:=I.kept (t':=tk) hk;have I2:Inv X pins σ H {s with heap:=h',drawn:=d',toks:=tk}:=I1.drawn d';exact⟨.ref h'.objs.size,_,I2.laid (t':=tk) (o:=.lst ((aH D).map V.str)) k2 (O2 _) ⟨by rw[OY,bR];exact hl,De,e,cA s2,at2⟩,rfl,q _ (I2.Cg.fresh (O2 _))⟩
theorem nF(I:Inv X pins σ H s)(hS:c7 X.prog X.w s.heap S (cn X.w) D)
  (q:Q (.int D.length) H):OZ (O9 X.prog X.w) X.A (RC (.builtin "len") [.ref S]) (EP X pins σ Q) X.xe s:=by
 obtain⟨L,es,ep,t,ho,EU,C1,Dj,hf,hb,Ey,Dp⟩:=hS;have hlen:es.size=D.length:=by rw[<-Pq,EU,OY,<-OY (f:=Prod.fst) (as:=L),C1.length_eq]
 have DC:es.size<4096:=hb;refine call_len_set ho ⟨rfl,rfl,rfl⟩ rfl hf ⋯ ?_;exact⟨.int es.size,_,I.kept (t':=s.toks+1+1) (λ_ _ e=>e),⟨_,rfl⟩,by rw[hlen];exact q⟩
end
theorem nG:U' (.type "list_reverseiterator") "__len__"=pure OQ:=by rw[Sl,Rj];kernel_rfl
theorem sJ:U' (.type "list_reverseiterator") "__length_hint__"=pure (Od (.builtin "list_reverseiterator.__length_hint__")):=by rw[Sl,Rj];kernel_rfl
theorem kH:RP (.type "list_reverseiterator") (.type "list_reverseiterator")=pure OP:=by rw[Qq];kernel_rfl
section
variable{I:O8}{fp wr:List O8}{G:Array V9->Array V9->Prop}{n:Nat}{P:Nat->OW->Prop}{St:Nat->O7->Prop}
theorem iC(W:Vd prog w A.in1 I fp wr G n P St)(hT:∀i s,St i s->s.TypeIs (.ref I) "list_reverseiterator")(S:O8)(res:OW)(c₀:Nat)(Cp:St 0 s)(D_:S∉fp)(hI:I∈fp)
  (hS:s.heap.get? S=Od {cls:=.type "list",data:=.seq #[] c₀})
  (hR:∀s' CN c',WX (S::wr) G s s'->s'.heap.get? S=Od {cls:=.type "list",dict:=OQ,data:=.seq CN c',slots:=#[]}->U5 P CN n->R (.ok (.ret res)) s') (hn:n<=OV) :
  OZ (O9 prog w) A.in1 (PC (.ref S) (.ref I) res)
   (λfin s'=>match fin with|.done f=>R (.ok f) s'|.again c'=>c'.quiet=OP/\Sa (O9 prog w) A c' R s') (λe s'=>R (.error e) s') s:=by
 have Nc:S≠I:=λe=>D_ (e▸hI);unfold PC;refine OO (Rx (hT 0 _ Cp) ?_);have h1:Rb (.ref S) (.ref I)=OR:=by simp[Rb,Nc]
 have h2:(PD "list_reverseiterator"==PD "list")=OR:=by decide
 have h3:(PD "list_reverseiterator"==PD "tuple")=OR:=by decide
 simp only[h1,h2,h3,Rw,Px,XQ];refine OO (W.self 0 _ _ _ Cp ?_);refine OO (P5 ?_);unfold Tr;refine OO (Rc (hT 0 _ Cp) nG ?_);show OZ _ A.in1 (specialOf (Pd I) (Rq "__length_hint__") >>= _) _ _ _;refine OO (Rc (hT 0 _ Cp) sJ ?_);have DY:splitId "list_reverseiterator.__length_hint__"=Od ("list_reverseiterator","__length_hint__"):=by decide +kernel
 dsimp only
 rw[DY]
 dsimp only
 refine OO (Q3 (hT 0 _ Cp) kH ?_);rw[XM (by decide)];rw[XI (by decide +kernel)];rw[XM (by decide +kernel)];refine OU ?_;rw[XM (by decide +kernel)];refine OU ⟨RF PySem.F.plain_extend_loop _,V6 W hn _ D_ _ n 0 _ _ _ rfl (Pt _) Cp hS (Wm P) λs' CN c' hm Dx CC=>?_⟩;exact hR s' CN c' hm Dx CC
theorem jn(W:Vd prog w A.in1 I fp wr G n P St)(hT:∀i s,St i s->s.TypeIs (.ref I) "list_reverseiterator")(S:O8)(Cp:St 0 s)(D_:S∉fp)(hI:I∈fp)
  (hS:s.heap.get? S=Od {cls:=.type "list",data:=.seq #[]})
  (hR:∀s' CN c',WX (S::wr) G s s'->s'.heap.get? S=Od {cls:=.type "list",dict:=OQ,data:=.seq CN c',slots:=#[]}->U5 P CN n->R (.ok (.ret .none)) s') (hn:n<=OV) :
  OZ (O9 prog w) A.in1 (Rz.«list.__init__» ⟨[.ref S,.ref I],[]⟩)
   (λfin s'=>match fin with|.done f=>R (.ok f) s'|.again c'=>c'.quiet=OP/\Sa (O9 prog w) A c' R s') (λe s'=>R (.error e) s') s:=by
 show OZ _ A.in1 (do let old <-T5 (.ref S);Xj (.ref S) (λ_=>#[]);letGo old.toList.reverse;PC (.ref S) (.ref I) .none) _ _ s;refine OO ?_;unfold T5;refine OO (RV hS rfl (OU ?_));show OZ _ A.in1 (W6 S (λ_=>#[]) >>= λ_=>letGo (#[]:Array OW).toList.reverse >>= λ_=>PC (.ref S) (.ref I) .none) _ _ s;refine OO (Sk hS rfl ?_);have Nd:=P2 (Py (λ_=>(#[]:Array OW))) hS rfl;have Df:∀b o,b≠S->s.heap.get? b=Od o->(s.heap.update S (Py (λ_=>(#[]:Array OW)))).get? b=Od o :=
  λb o hb e=>(QZ _ _ (Qs hb)).trans e
 refine OO (wpAny_letGo ?_);refine iC W hT S .none _ (W.frame 0 s _ s.toks Cp (O2 _) λb hb o e=>Df b o (λh=>D_ (h▸hb)) e) D_ hI Nd (λs' CN c' hm Dx CC=>?_) hn;exact hR s' CN c' (WW W.gtrans ((Moved.refl W.grefl).then_heap (O2 _) λb o hb e=>Df b o (λh=>hb (h▸PY)) e) hm) Dx CC
theorem lY(W:Vd prog w A.in1.in1 I fp wr G n P St)(hT:∀i s,St i s->s.TypeIs (.ref I) "list_reverseiterator")(Cp:St 0 s)(GB:∀b∈fp,b<s.heap.objs.size)(hI:I∈fp)
  (hQ:∀s' CN c',WX (s.heap.objs.size::wr) G {s with heap:=s.heap.push {cls:=.type "list",data:=.seq #[]}} s' ->
   s'.heap.get? s.heap.objs.size=Od {cls:=.type "list",dict:=OQ,data:=.seq CN c',slots:=#[]}->U5 P CN n->Q (.ref s.heap.objs.size) s') (hn:n<=OV) :
  OZ (O9 prog w) A (RC (.type "list") [.ref I]) Q E s:=by
 have D_:s.heap.objs.size∉fp:=λhm=>P0 _ (GB _ hm);refine Xw (Q₁:=λobj s₁=>obj=.ref s.heap.objs.size/\s₁={s with heap:=s.heap.push {cls:=.type "list",data:=.seq #[]}}) PySem.F.called_list (PySem.F.typeCall_list_1 _) PySem.F.entry_list_init
  (code_list_new _ ⟨rfl,rfl⟩) λobj s₁ h₁=>?_
 obtain⟨rfl,rfl⟩:=h₁;have hS:(s.heap.push {cls:=.type "list",data:=.seq #[]}).get? s.heap.objs.size=Od {cls:=.type "list",data:=.seq #[]}:=O3 _ rfl;refine⟨⟨_,hS,rfl⟩,PySem.F.args_list_init_2 _ _,jn W hT _ (W.frame 0 s _ s.toks Cp (O2 _) λb _ o e=>OT _ e) D_ hI hS (λs' CN c' hm Dx CC=>?_) hn⟩;exact⟨rfl,hQ s' CN c' hm Dx CC⟩
theorem lZ(W:Vd prog w A.in1 I fp wr G n P St)(hT:∀i s,St i s->s.TypeIs (.ref I) "list_reverseiterator")(Cp:St 0 s)(GB:∀b∈fp,b<s.heap.objs.size)(hI:I∈fp)
  (hQ:∀s' acc,WX wr G s s'->U5 P acc n->Q acc.toList s') (hn:n<=OV):OZ (O9 prog w) A (Ur (.ref I)) Q E s:=by
 have D_:s.heap.objs.size∉fp:=λhm=>P0 _ (GB _ hm);unfold Ur;refine OO (TB (Qh PySem.F.entry_proto_collect ?_));rw[Qg PySem.F.plain_proto_collect _];show OZ _ A.in1 (VM [] >>= λl=>V8 (.builtin "list.__iadd__" ⟨[l,.ref I],[]⟩)) _ _ s;refine OO (Pz ?_);refine OU ⟨RF PySem.F.plain_list_iadd _,Qh PySem.F.entry_list_iadd ?_⟩;rw[Qg PySem.F.plain_list_iadd _];have Ki:=W.frame 0 s (s.heap.push {cls:=.type "list",data:=.seq ([]:List OW).toArray}) s.toks Cp (O2 _) λb _ o e=>OT _ e;show OZ _ A.in1 (PC (.ref s.heap.objs.size) (.ref I) (.ref s.heap.objs.size)) _ _ _;refine iC (R:=λr s'=>match r with
  |.ok (.ret v)=>OZ (O9 prog w) A (match v with
   |.ref a=>do
    let o <-load a
    match o.data with
    |.seq xs _=>pure xs.toList
    |_=>UQ "internal:collect"
   |_=>UQ "internal:collect") Q E s'
  |.ok _=>False
  |.error e=>E e s') W hT _ _ 0 Ki D_ hI (O3 _ rfl) (λs' CN c' hm Dx CC=>?_) hn
 show OZ _ A (load s.heap.objs.size >>= _) _ _ s';refine OO (U_ Dx ?_);exact OU (hQ s' CN (Moved.drop_new (o:={cls:=.type "list",data:=.seq ([]:List OW).toArray}) (tk:=s.toks) hm (O2 _)) CC)
open AutoSeq1 (wpAny_loadPart') in
theorem kI(W:Vd prog w A.in1.in1.in1 I fp wr G n P St)(hT:∀i s,St i s->s.TypeIs (.ref I) "list_reverseiterator")(Cp:St 0 s)(GB:∀b∈fp,b<s.heap.objs.size)(hI:I∈fp)
  (hQ:∀s' acc,WX wr G s s'->U5 P acc n->Q (.ref s'.heap.objs.size) {s' with heap:=s'.heap.push {cls:=.type "tuple",data:=.seq acc}}) (hsz:n<=OV) :
  OZ (O9 prog w) A (RC (.type "tuple") [.ref I]) Q E s:=by
 refine Xw (Q₁:=λobj s₁=>s₁.TypeIs obj "tuple"/\Q obj s₁) PySem.F.called_tuple (PySem.F.typeCall_tuple_1 _) PySem.F.entry_object_init
  (?_) λobj s₁ h₁=>?_
 ·refine UU ?_;show OZ _ A.in1.in1 (do W8 "tuple.__new__" ⟨[.type "tuple",.ref I],[]⟩;V8 (.builtin "tuple.__new__" ⟨[.type "tuple",.ref I],[]⟩)) _ _ s;refine OO (TC (PySem.F.newCall_tuple_1 _) (OU ⟨RF PySem.F.plain_tuple_new _,Qh PySem.F.entry_tuple_new ?_⟩));rw[Qg PySem.F.plain_tuple_new _];have Ez:=sub_tuple_self;have Lw:=init_tuple_lookup;have Oy:=madeHere_tuple;have Nf:=hT 0 s Cp
  wp_walk using Rx Nf,lZ (hn:=hsz) W hT Cp GB hI
  intro s' acc hm CC;show OZ _ _ (Qm acc.toList.toArray >>= λv=>ret v) _ _ _;unfold Qm;refine OO (Pz ?_ (by show acc.toList.toArray.size<=OV;simp only[R4];rw[CC.1];exact hsz));refine OU ?_;have e:acc.toList.toArray=acc:=by simp
  rw[e];exact⟨⟨_,O3 _ rfl,rfl⟩,hQ s' acc hm CC⟩
 ·exact⟨h₁.1,PySem.F.args_object_init_2 obj _,object_init_meets PySem.F.called_tuple.init.lookup PySem.F.called_tuple.made (by decide) prog w A.in1 _ s₁ ⟨h₁.1,rfl,h₁.2⟩⟩
end
section
theorem fE(hit:s.heap.IsTupleIter it l i)
  (hl:s.heap.IsTuple l items) (hx:items[i]?=Od x)
  (hQ:∀h',h'.IsTupleIter it l (i+1)->Qu it s.heap h'->Q x {s with heap:=h' }) :
  OZ (O9 prog w) A (Qw (.ref it)) Q E s:=by
 obtain⟨o,ho,hc,hd⟩:=id hit;obtain⟨ol,HS,_,nl,Kj⟩:=hl;unfold Qw;refine OO (QB (name:=Rq "__next__") hit.typeIs PySem.F.slot_tuple_iterator_next
  (P6 PySem.F.slot_tuple_iterator_next hit.typeIs PySem.F.entry_tuple_iterator_next ?_ (PySem.F.args_tuple_iterator_next_1 _)))
 show OZ _ _ (Xt (.ref it) 0 >>= _) _ _ s;refine OO (RO ho hd (x:=.ref l) rfl ?_);show OZ _ _ (if (Pd l==Pu)=OP then _ else _) _ _ s;rw[XM (show ¬((Pd l==Pu)=OP) from Po)];show OZ _ _ (Xt (.ref it) 1 >>= _) _ _ s;refine OO (RO ho hd (x:=.int i 0) rfl ?_);show OZ _ _ (UJ (.ref l) >>= _) _ _ s;refine OO (RV HS Kj ?_);simp only[SA,hx];refine OO (Q2 ho hd (by simp) (OU ⟨x,rfl,OU (hQ _ ?_ (Qt ..))⟩));exact⟨_,P2 _ ho (S3 (Q5 hd _)),(TY ..).trans hc,by
  rw[Q5 hd];simp[P8]⟩
theorem cS(hh:A.handled=OQ)
  (hit:s.heap.IsTupleIter it l i) (hl:s.heap.IsTuple l items) (hx:items[i]?=OQ)
  (hE:∀h' e,W' it s.heap h'->(∃o,h'.get? e=Od o/\o.cls=.type "StopIteration")->E (.ref e) {s with heap:=h' }) :
  OZ (O9 prog w) A (Qw (.ref it)) Q E s:=by
 obtain⟨o,ho,hc,hd⟩:=id hit;obtain⟨ol,HS,_,nl,Kj⟩:=hl;unfold Qw;refine OO (QB (name:=Rq "__next__") hit.typeIs PySem.F.slot_tuple_iterator_next
  (P6 PySem.F.slot_tuple_iterator_next hit.typeIs PySem.F.entry_tuple_iterator_next ?_ (PySem.F.args_tuple_iterator_next_1 _)))
 show OZ _ _ (Xt (.ref it) 0 >>= _) _ _ s;refine OO (RO ho hd (x:=.ref l) rfl ?_);show OZ _ _ (if (Pd l==Pu)=OP then _ else _) _ _ s;rw[XM (show ¬((Pd l==Pu)=OP) from Po)];show OZ _ _ (Xt (.ref it) 1 >>= _) _ _ s;refine OO (RO ho hd (x:=.int i 0) rfl ?_);show OZ _ _ (UJ (.ref l) >>= _) _ _ s;refine OO (RV HS Kj ?_);simp only[SA,hx];refine OO (Rt (OO (Q2 ho hd (by simp) ?_)));show OZ _ _ (VN (.type "StopIteration") [] >>= _) _ _ _;refine OO ?_;simp only[VN,Xr];refine OO (Pz ?_ (by size_fits));refine OO (m:=TF _ _) (TC (a:=Pu) (by first|rfl|(simp only[TF];rfl)) ?_);refine Pz ?_ (by size_fits);simp only[Vb];refine OO (wpAny_handled ?_)
 first|rw[show A.in1.handled=OQ from hh]|rw[hh]
 refine OO (OU (wpAny_throw ?_));exact hE _ _ (((Qt ..).extBut.push _).push _) ⟨_,O3 _ rfl,rfl⟩
end
theorem l6(hh:A.handled=OQ)(it l:O8)(Ds:l≠it)(items:Array OW):
  Draws prog w A it [it,l] items.size (λi v=>items[i]?=Od v) (λi h=>h.IsTupleIter it l i/\h.IsTuple l items) where
 live:=λ_ _ st=>let ⟨o,ho,_⟩:=st.1;⟨o,ho⟩
 frame:=λ_ _ _ st hk=>⟨st.1.at λo e=>hk it (by simp) o e,let ⟨o,ho,r⟩:=st.2;⟨o,hk l (by simp) o ho,r⟩⟩
 item:=λi s Q E hi st hQ=>by
  refine fE st.1 st.2 (x:=items[i]) (by simp[hi]) λh' D' Hf=>?_;exact hQ _ h' s.toks (by simp[hi]) ⟨D',let ⟨o,ho,r⟩:=st.2;⟨o,(Hf.2 l Ds).trans ho,r⟩⟩ Hf
 done:=λs Q E st hE=>cS hh st.1 st.2 (by simp) hE
open AutoSeq1 (wpAny_loadPart') in
theorem iD(l:O8)(items:Array OW)(n:Nat)(Kk:Option O8)(sl:Array (Option OW)):
  Meets (Rz.«enumerate.__new__» ⟨[.type "enumerate",.ref l],[]⟩) (λ_ R s=>s.heap.get? l=Od {cls:=.type "tuple",dict:=Kk,data:=.seq items n,slots:=sl} /\
   R (.ok (.ret (.ref (s.heap.push {cls:=.type "tuple_iterator",data:=.fields #[.ref l,.int 0 0]}).objs.size)))
    {s with heap:=(s.heap.push {cls:=.type "tuple_iterator",data:=.fields #[.ref l,.int 0 0]}).push {cls:=.type "enumerate",data:=.fields #[.none,.bool OR,.ref s.heap.objs.size,P8 0,.none,.none]}}) :=
 .of_wp λprog w A R s h=>by
  obtain⟨hp,g,d,tk,os⟩:=s;obtain⟨hl,h⟩:=h;have Ez:=sub_enumerate;have hL:Heap.IsTuple (Shared.heap ⟨hp,g,d,tk,os⟩) l items:=⟨_,hl,rfl,n,rfl⟩
  wp_walk using Tg hl
  refine wpAny_stack_any λst=>OU ?_;split
  ·rename_i c _ _ _ _ _;cases(c==PD "enumerate")
   ·wp_walk using Tg hl,RI hL
    exact⟨_,rfl,h⟩
   ·wp_walk using Tg hl,RI hL
    exact⟨_,rfl,h⟩
  ·wp_walk using Tg hl,RI hL
   exact⟨_,rfl,h⟩
section
theorem dB(hL:s.heap.IsTuple l items)
  (h:∀h',VQ h' (s.heap.objs.size+1) s.heap.objs.size 0 .none->h'.IsTupleIter s.heap.objs.size l 0->h'.objs.size=s.heap.objs.size+2 ->
   (∀b o,s.heap.get? b=Od o->h'.get? b=Od o)->Q (.ref (s.heap.objs.size+1)) {s with heap:=h' }) :
  OZ (O9 prog w) A (RC (.type "enumerate") [.ref l]) Q E s:=by
 obtain⟨⟨c,Kk,dt,sl⟩,hl,hc,n,hd⟩:=hL
 replace hc:c=.type "tuple":=hc
 replace hd:dt=.seq items n:=hd
 subst hc hd;refine callType_new PySem.F.called_enumerate (by decide) (PySem.F.typeCall_enumerate_1 _) (PySem.F.newCall_enumerate_1 _) (λobj=>PySem.F.args_object_init_2 obj _) PySem.F.entry_enumerate_new
  (iD l items n Kk sl) ⟨hl,?_⟩
 have hz:(s.heap.push {cls:=.type "tuple_iterator",data:=.fields #[.ref l,.int 0 0]}).objs.size=s.heap.objs.size+1:=UA ..;show _/\_;rw[hz];have he:VQ ((s.heap.push {cls:=.type "tuple_iterator",data:=.fields #[.ref l,.int 0 0]}).push
   {cls:=.type "enumerate",data:=.fields #[.none,.bool OR,.ref s.heap.objs.size,P8 0,.none,.none]}) (s.heap.objs.size+1) s.heap.objs.size 0 .none:=by
  have:=O3 (s.heap.push {cls:=.type "tuple_iterator",data:=.fields #[.ref l,.int 0 0]})
   (o:={cls:=.type "enumerate",data:=.fields #[.none,.bool OR,.ref s.heap.objs.size,P8 0,.none,.none]}) rfl
  rw[hz]at this;exact this
 refine⟨⟨_,he,rfl⟩,h _ he ⟨_,OT _ (O3 _ rfl),rfl,rfl⟩ (by rw[UA,hz]) λb o x=>OT _ (OT _ x)⟩
end
end L2
namespace L2
open PySem PySem.Spec PyProof.Rows
section
theorem Inv.kJ{ch:List O8}(I:Inv X pins σ H s)(hf:∀b∈ch,fi X pins H b)(k:∀b o,b∉ch->s.heap.get? b=Od o->h'.get? b=Od o):Inv X pins σ H {s with heap:=h',toks:=t' }:=by
 have Hs:∀b u,H b=Od u->b∉ch:=λb u e z=>by rw[(hf b z).1]at e;cases e
 refine I.step (g':=s.gens) (d':=s.drawn) (ch:=ch) (λb hb=>?_) (λb o _ _ hc e _=>k b o hc e) (λb o _ _ hc e _=>⟨o.slots,k b o hc e⟩) (λ_ _ _ _ n=>n)
  (λb o hc e=>⟨o,k b o hc e⟩) (λ_ _ e=>e) (λ_ _ _ e=>e) (λb ps e=>⟨#[],by rw[e];simp⟩) (λm hm=>?_) (λb u e=>?_) I.bare
 ·obtain⟨f0,f1,f2,f3,f4,f5⟩:=hf b hb;exact⟨f3,f1,f4,f5⟩
 ·obtain⟨o,es,ep,ho,r⟩:=hm;exact⟨o,es,ep,k _ o (λz=>(hf _ z).2.1 rfl) ho,r⟩
 ·refine(I.Cg b u e).j5 (λc v hc q=>k c v ?_ q) (λ_ q=>q) λ_ _ q=>q;rcases hc with z|z
  ·rw[z];exact Hs b u e
  ·exact Hs c _ z
theorem Inv.iE{ch:List O8}(I:Inv X pins σ H s)(hf:∀b∈ch,fi X pins H b)(k:∀b o,b∉ch->s.heap.get? b=Od o->h'.get? b=Od o)(hT:s.heap.objs.size<=T)(new:aW X.prog X.w (upd H T o) h' T o):
  Inv X pins σ (upd H T o) {s with heap:=h',toks:=t' }:=by
 have I1:Inv X pins σ H {s with heap:=h',toks:=t' }:=I.kJ hf k;have hn:H T=OQ:=I.Cg.fresh hT;have nT:∀b o,s.heap.get? b=Od o->b≠T:=λb o e z=>by rw[z]at e;exact absurd (Pb (O4 e) hT) (P0 _)
 have nH:∀b u,H b=Od u->b≠T:=λb u e z=>by rw[z,hn]at e;cases e
 refine I.step (g':=s.gens) (d':=s.drawn) (ch:=ch) (λb hb=>?_) (λb o _ _ hc e _=>k b o hc e) (λb o _ _ hc e _=>⟨o.slots,k b o hc e⟩) (λb o _ e n=>by rw[ao (nT b o e)];exact n)
  (λb o hc e=>⟨o,k b o hc e⟩) (λb _ e=>by rw[ao (nH b _ e)];exact e) (λb _ _ e=>by rw[ao (nH b _ e)];exact e) (λb ps e=>⟨#[],by rw[ao (nH b _ e),e];simp⟩) (λm hm=>?_) (λb u e=>?_) I.bare
 ·obtain⟨f0,f1,f2,f3,f4,f5⟩:=hf b hb;exact⟨f3,f1,f4,f5⟩
 ·obtain⟨o,es,ep,ho,r⟩:=hm;exact⟨o,es,ep,k _ o (λz=>(hf _ z).2.1 rfl) ho,r⟩
 ·by_cases hb:b=T
  ·subst hb;rw[au]at e;cases e;exact new
  ·rw[ao hb]at e;exact(I1.Cg b u e).j5 (λc v _ q=>q) (λc q=>by rw[ao (nH c _ q)];exact q) λc xs q=>by rw[ao (nH c _ q)];exact q
end
def Hg(Sq:Hp->List V->Prop):It :=
 ⟨λi H=>∃xs x,Sq H xs/\xs[i]?=Od x,λi H x H'=>∃p,H p=OQ/\x=.ref p/\∀xs v,Sq H xs->xs[i]?=Od v->H'=upd H p (.tup [.int i,v]),λi H=>∃xs,Sq H xs/\xs.length<=i⟩
theorem jE{K:PySem.W.Frag}(Sq:Hp->List V->Prop)(a e it:O8)(GC:e≠it)(At:Nat->QA->Prop)(Is:QA->Array OW->Prop)
  (EF:∀i h h',At i h->(∀o,h.get? it=Od o->h'.get? it=Od o)->At i h') (Lx:∀i h,At i h->∃o,h.get? it=Od o/\∀v,o.data≠.cell v)
  (Jh:∀(X:Cx) (pins:List (O8×Obj)) (s:O7) (σ:St) (H:Hp) (xs:List V),X.K=K->Inv X pins σ H s->Sq H xs->∃A':List OW,Vals xs A'/\Is s.heap A'.toArray)
  (Kl:∀(X:Cx) (pins:List (O8×Obj)) (s:O7) (σ:St) (H:Hp) (xs ys:List V),X.K=K->Inv X pins σ H s->Sq H xs->Sq H ys->xs=ys)
  (Ng:∀h items i old,Is h items->VQ h e it i old->e≠a)
  (hD:∀(A:Ra) (items:Array OW),A.handled=OQ->Draws P w A it [it,a] items.size (λi v=>items[i]?=Od v) (λi h=>At i h/\Is h items))
  (FA:∀(A:Ra) (s:O7) (i:Nat) (items:Array OW) (Q:OW->O7->Prop) (E:OW->O7->Prop),A.handled=OQ->At i s.heap->Is s.heap items->items[i]?=OQ ->
   (∀h' x,W' it s.heap h'->(∃o,h'.get? x=Od o/\o.cls=.type "StopIteration")->E (.ref x) {s with heap:=h' })->OZ (O9 P w) A (Qw (.ref it)) Q E s) :
  Turn P w K (.Tuple es kx ps) (Hg Sq) [e,it] e (λi h=>(∃old,VQ h e it i old)/\At i h) where
 mem:=by simp
 obj:=λi h st b hb=>by
  obtain⟨⟨old,he⟩,hl⟩:=st;rcases O_.mp hb with z|z
  ·rw[z];exact⟨_,he,λv z=>by
    have z':S4 _=UX v:=z;cases z'⟩
  ·rw[Pf.mp z];exact Lx i h hl
 keep:=λi h h' ⟨⟨old,he⟩,hl⟩ k=>⟨⟨old,k e (by simp) _ he⟩,EF i h h' hl λo q=>k it (by simp) o q⟩
 item:=by
  intro X hP hw hK hc i pins s σ H E I hf ⟨⟨old,he⟩,hl⟩ hg;subst hP hw;obtain⟨xs,x,hq,hx⟩:=hg;obtain⟨A',rv,p⟩:=Jh X pins s σ H xs hK I hq;obtain⟨u,hu,ru⟩:=rv.get hx;have Cz:i<A'.toArray.size:=by simpa using(O6.mp hu).1
  have D:=hD X.A.in1 A'.toArray (by simpa using I.ok.hd hc);have Km:=Ng _ _ _ _ p he;refine wpAny_pyNext_enum_itemD D he ⟨hl,p⟩ Cz GC (by simp[GC,Km]) λy h1 tk hy ho st1 hT hsz hk=>?_;have ey:y=u:=by
   have:A'.toArray[i]?=Od u:=by simpa using hu
   rw[this]at hy;cases hy;rfl
  subst ey;refine⟨_,rfl,wpAny_letOwnedTupleGo_enum (s:={s with heap:=h1,toks:=tk+1}) ho λh2 Ji Fh=>?_⟩;have Ly:e<s.heap.objs.size:=O4 he;have Kn:h2.get? s.heap.objs.size=Od {cls:=.type "tuple",data:=.seq #[.int i tk,y]}:=(Fh.2 _ (QN Ly)).trans hT;have k2:∀b o,b∉[e,it]->s.heap.get? b=Od o->h2.get? b=Od o:=λb o hb q=>by
   simp only[O_,SJ,or_false,not_or]at hb;exact(Fh.2 b hb.1).trans (hk b o hb.1 hb.2 q)
  have I2:Inv X pins σ (upd H s.heap.objs.size (.tup [.int i,x])) {s with heap:=h2,toks:=tk+1}:=I.iE hf k2 (O2 _)
   (show aW X.prog X.w _ h2 _ (.tup [.int i,x]) from⟨by show 2<=OV;decide,[.int i tk,y],.cons ⟨tk,rfl⟩ (.cons ru .nil),⟨_,Kn,rfl,_,rfl⟩⟩)
  refine⟨.ref s.heap.objs.size,_,I2,rfl,⟨_,I.Cg.fresh (O2 _),rfl,λys v hy hv=>?_⟩,⟨⟨_,Ji⟩,EF (i+1) h1 h2 st1.1 λo q=>(Fh.2 it (Qs GC)).trans q⟩,λb hb=>?_⟩
  ·have:=Kl X pins s σ H ys xs hK I hy hq;subst this;rw[hx]at hv;cases hv;rfl
  ·have DC:b≠s.heap.objs.size:=by
    rcases O_.mp hb with z|z
    ·rw[z];exact O' Ly
    ·rw[Pf.mp z];obtain⟨o,q,_⟩:=Lx i _ hl;exact O' (O4 q)
   rw[ao DC];exact(hf b hb).1
 done:=by
  intro X hP hw hK hc i pins s σ H E I hf ⟨⟨old,he⟩,hl⟩ hg;subst hP hw;obtain⟨xs,hq,hx⟩:=hg;obtain⟨A',rv,p⟩:=Jh X pins s σ H xs hK I hq;have hlen:=rv.length;have hT:s.TypeIs (.ref e) "enumerate":=⟨_,he,rfl⟩
  unfold S9;refine OO (wpAny_attempt (QB (name:=Rq "__next__") hT PySem.F.slot_enumerate_next
   (P6 PySem.F.slot_enumerate_next hT PySem.F.entry_enumerate_next ?_ (PySem.F.args_enumerate_next_1 _))))
  show OZ _ _ (Xt (.ref e) 2 >>= _) _ _ _;refine OO (RO he rfl (x:=.ref it) rfl ?_);refine OO (FA _ _ i A'.toArray _ _ (by simpa using I.ok.hd hc) hl p (by simp;omega) λh' x J4 HG=>?_);obtain⟨o,ho,Jg⟩:=HG;refine OO (Q3 (T:="StopIteration") (b:=OP) ⟨o,ho,Jg⟩ Xs ?_);refine OU ⟨rfl,I.kJ (t':=s.toks) (ch:=[it]) (λb hb=>hf b (PV _ hb)) λb o hb q=>J4 b o (λz=>hb (by simp[z])) q⟩
 self:=λA i s Q E ⟨⟨old,he⟩,hl⟩ h=>Uj he h
section
variable{X:Cx}{es:List PR}{kx:Nat}{ps p pos:Pos}
theorem qM:Qx "enumerate"=Od (.type "enumerate"):=by decide +kernel
def B5(K:PySem.W.Frag)(ta:TA):TI:=λσ H R=>ta σ H λvs H1=>∃a,vs=[.ref a]/\((∃xs,CF K H1 a xs)/\R (Hg λH xs=>CF K H a xs) H1\/(∃xs,CB K H1 a xs)/\R (Hg λH xs=>CB K H a xs) H1)
theorem yK(a e it:O8)(GC:e≠it)(HN:a≠it):Turn X.prog X.w X.K (.Tuple es kx ps) (Hg λH xs=>CF X.K H a xs) [e,it] e (λi h=>(∃old,VQ h e it i old)/\h.IsListIter it a i):=by
 refine jE _ a e it GC (λi h=>h.IsListIter it a i) (λh items=>h.IsList a items) (λi h h' x k=>x.at k) (λi h ⟨o,ho,hc,hd⟩=>⟨o,ho,λv z=>by rw[hd]at z;cases z⟩)
  (λY pins s σ H xs hK I hq=>?_) (λY pins s σ H xs ys hK I hx hy=>?_) (λh items i old ⟨o,ho,hc,_⟩ he z=>?_) (λA items hh=>Draws.list hh it a HN items) (λA s i items Q E hh hl hp hx hE=>wpAny_nextOf_list_end hh hl hp hx hE)
 ·rw[<-hK]at hq;obtain⟨A',rv,p,hz⟩:=I.list hq;exact⟨A',rv,p.isList⟩
 ·rw[<-hK]at hx hy;exact I.lA hx hy
 ·rw[<-z,he]at ho;cases ho;have G4:PD "enumerate"=PD "list":=hc;exact absurd G4 (by decide)
theorem yL(a e it:O8)(GC:e≠it)(HN:a≠it):Turn X.prog X.w X.K (.Tuple es kx ps) (Hg λH xs=>CB X.K H a xs) [e,it] e (λi h=>(∃old,VQ h e it i old)/\h.IsTupleIter it a i):=by
 refine jE _ a e it GC (λi h=>h.IsTupleIter it a i) (λh items=>h.IsTuple a items) (λi h h' x k=>x.at k) (λi h ⟨o,ho,hc,hd⟩=>⟨o,ho,λv z=>by rw[hd]at z;cases z⟩)
  (λY pins s σ H xs hK I hq=>?_) (λY pins s σ H xs ys hK I hx hy=>?_) (λh items i old ⟨o,ho,hc,_⟩ he z=>?_) (λA items hh=>l6 hh it a HN items) (λA s i items Q E hh hl hp hx hE=>cS hh hl hp hx hE)
 ·rw[<-hK]at hq;obtain⟨A',rv,p,hz⟩:=I.tuple hq;exact⟨A',rv,p⟩
 ·rw[<-hK]at hx hy;exact I.jt hx hy
 ·rw[<-z,he]at ho;cases ho;have G4:PD "enumerate"=PD "tuple":=hc;exact absurd G4 (by decide)
theorem vT(hg:Gl X "enumerate")(hm:X.mg "enumerate"=OQ)(ha:PA X [a] ta)(hs:Pj [a] X.env=[(OR,QK a X.env)]):PI X (.Tuple es kx ps) (.Call (.Name "enumerate" p) [a] [] pos) (B5 X.K ta):=by
 intro pins s σ H R I h;refine Call_ (dv I hg hm qM (QV (Cm (ha pos pins s σ H _ I h) λus s1 ⟨vs,H1,I1,r1,q1⟩=>?_) hs rfl));obtain⟨a',e,q⟩:=q1;subst e;obtain⟨u,rfl,r⟩:=vals1 r1;cases r;have ne1:s1.heap.objs.size+1≠s1.heap.objs.size:=Nat.succ_ne_self _;have fin:∀(h':QA),(∀b∈[s1.heap.objs.size+1,s1.heap.objs.size],fi X pins H1 b):=λh' b hb=>by
  have DC:s1.heap.objs.size<=b:=by
   rcases O_.mp hb with z|z
   ·rw[z];exact QE _
   ·rw[Pf.mp z];exact O2 _
  exact I1.rU DC (I1.Cg.fresh DC)
 rcases q with⟨⟨xs,hq⟩,q⟩|⟨⟨xs,hq⟩,q⟩
 ·obtain⟨A',rv,p,hz⟩:=I1.list hq;have Cz:a'<s1.heap.objs.size:=let ⟨o,ho,_⟩:=p.isList;O4 ho;refine call_enumerate_list p.isList λh' he hl hsz hk=>?_;refine Uj he ⟨_,[s1.heap.objs.size+1,s1.heap.objs.size],_,_,H1,rfl,I1.kept (t':=s1.toks) hk,yK a' _ _ ne1 (O' Cz),⟨⟨_,he⟩,hl⟩,fin h',q⟩
 ·obtain⟨A',rv,p,hz⟩:=I1.tuple hq;have Cz:a'<s1.heap.objs.size:=let ⟨o,ho,_⟩:=p;O4 ho;refine dB p λh' he hl hsz hk=>?_;refine Uj he ⟨_,[s1.heap.objs.size+1,s1.heap.objs.size],_,_,H1,rfl,I1.kept (t':=s1.toks) hk,yL a' _ _ ne1 (O' Cz),⟨⟨_,he⟩,hl⟩,fin h',q⟩
end
theorem o_{A':List OW}(h:U5 (λi v=>A'.toArray[A'.toArray.size - 1 - i]?=Od v) acc A'.toArray.size):acc.toList=A'.reverse:=by
 apply VX;intro i;have hs:acc.size=A'.length:=by have:=h.1;simpa using this
 by_cases hi:i<A'.length
 ·have Dz:i<acc.size:=by omega
  have:=h.2 i (acc[i]'Dz) (by simp[Dz]);rw[P1,Array.getElem?_eq_getElem Dz,List.getElem?_reverse hi];simpa using this.symm
 ·rw[RU (by rw[Pq];omega),RU (by rw[R8];omega)]
section
theorem l8(hc:X.calm=OP)(I:Inv X pins σ H s)(hq:CF X.K H a xs)
  (h:∀A',Vals xs A'->xs.length<=OV->∀(R:O8) (h1:QA),R=s.heap.objs.size->h1.objs.size=s.heap.objs.size+1->(∀b o,s.heap.get? b=Od o->h1.get? b=Od o)->(∀B:Ra,B.handled=X.A.handled ->
   Walks X.prog X.w B R [R,a] [R] A'.toArray.size (λi v=>A'.toArray[A'.toArray.size - 1 - i]?=Od v) (λi h=>i<=A'.toArray.size/\h.IsRevIter R a ((A'.toArray.size:Int) - 1 - (i:Int))/\h.IsList a A'.toArray)) ->
   h1.IsRevIter R a ((A'.toArray.size:Int) - 1 - ((0:Nat):Int))->h1.IsList a A'.toArray->a<s.heap.objs.size->Q (.ref R) {s with heap:=h1}):OZ (O9 X.prog X.w) X.A (RC (.type "reversed") [.ref a]) Q X.xe s:=by
 obtain⟨A',rv,p,hz⟩:=I.list hq;have Cz:a<s.heap.objs.size:=let ⟨o,ho,_⟩:=p.isList;O4 ho;refine call_reversed_list p.isList (h A' rv hz _ _ rfl (by rw[QL]) (λb o e=>OT _ e) (λB hB=>Walks.listRev (by rw[hB];exact I.ok.hd hc) _ a (O' Cz) A'.toArray) ?_ (p.isList.push _) Cz);refine⟨_,O3 _ rfl,rfl,?_⟩;show S4 _=S4 _;congr 3
 simp
theorem qN(hc:X.calm=OP)(I:Inv X pins σ H s)(hq:CF X.K H a xs)(q:∀l,H l=OQ->Q (.ref l) (upd H l (.tup xs.reverse))):
  OZ (O9 X.prog X.w) X.A (RC (.type "reversed") [.ref a]) (λv s1=>OZ (O9 X.prog X.w) X.A (RC (.type "tuple") [v]) (EP X pins σ Q) X.xe s1) X.xe s:=by
 refine l8 hc I hq λA' rv hz R h1 hR hsz hk hW hr hl Cz=>?_;have el:A'.length=xs.length:=rv.length.symm;refine kI (s:={s with heap:=h1}) (hW X.A.in1.in1.in1 rfl).toS (λi s st=>st.2.1.typeIs) ⟨Pt _,hr,hl⟩ (λb hb=>?_) (by simp) (λs' acc hm CC=>?_) (by simp;omega)
 ·show b<h1.objs.size;rw[hsz];rcases O_.mp hb with z|z
  ·rw[z,hR];exact QW _
  ·rw[Pf.mp z];exact RL Cz
 ·obtain⟨h2,g2,d2,t2,o2⟩:=s';have eg:g2=s.gens:=hm.gens;have ed:d2=s.drawn:=hm.drawn;have eo:o2=s.os:=hm.os;subst eg ed eo;have k2:∀b o,s.heap.get? b=Od o->h2.get? b=Od o:=λb o e=>hm.heap b o (λz=>by
   rw[Pf.mp z,hR]at e;exact absurd (O4 e) (P0 _)) (hk b o e)
  have I1:Inv X pins σ H {s with heap:=h2,toks:=t2}:=I.kept k2;have ea:=o_ CC;have I2:Inv X pins σ (upd H h2.objs.size (.tup xs.reverse)) {s with heap:=h2.push {cls:=.type "tuple",data:=.seq acc},toks:=t2} :=
   I1.laid (t':=t2) (λb o e=>OT _ e) (O2 _) (show aW X.prog X.w _ _ _ (.tup xs.reverse) from⟨by rw[R8];exact hz,A'.reverse,rv.reverse,by rw[<-ea,R4];exact T1 _ _⟩)
  exact⟨.ref h2.objs.size,_,I2,rfl,q _ (I1.Cg.fresh (O2 _))⟩
theorem sL(hc:X.calm=OP)(I:Inv X pins σ H s)(hq:CF X.K H a xs)(q:∀l,H l=OQ->Q (.ref l) (upd H l (.lst xs.reverse))):
  OZ (O9 X.prog X.w) X.A (RC (.type "reversed") [.ref a]) (λv s1=>OZ (O9 X.prog X.w) X.A (RC (.type "list") [v]) (EP X pins σ Q) X.xe s1) X.xe s:=by
 refine l8 hc I hq λA' rv hz R h1 hR hsz hk hW hr hl Cz=>?_;have el:A'.length=xs.length:=rv.length.symm;refine lY (s:={s with heap:=h1}) (hW X.A.in1.in1 rfl).toS (λi s st=>st.2.1.typeIs) ⟨Pt _,hr,hl⟩ (λb hb=>?_) (by simp) (λs' acc c' hm hS CC=>?_) (by simp;omega)
 ·show b<h1.objs.size;rw[hsz];rcases O_.mp hb with z|z
  ·rw[z,hR];exact QW _
  ·rw[Pf.mp z];exact RL Cz
 ·obtain⟨h2,g2,d2,t2,o2⟩:=s';have eg:g2=s.gens:=hm.gens;have ed:d2=s.drawn:=hm.drawn;have eo:o2=s.os:=hm.os;subst eg ed eo;have k2:∀b o,s.heap.get? b=Od o->h2.get? b=Od o:=λb o e=>hm.heap b o (λz=>by
   have hb:=O4 e;rcases O_.mp z with z|z
   ·rw[z]at hb;have DC:h1.objs.size<s.heap.objs.size:=hb;rw[hsz]at DC;exact absurd DC (Wg (QW _))
   ·rw[Pf.mp z,hR]at e;exact absurd (O4 e) (P0 _)) (OT _ (hk b o e))
  have ea:=o_ CC;refine⟨.ref h1.objs.size,_,I.laid (t':=t2) (o:=.lst xs.reverse) k2 (by rw[hsz];exact QE _) ⟨by rw[R8];exact hz,A'.reverse,c',rv.reverse,?_⟩,rfl,q _ (I.Cg.fresh (by rw[hsz];exact QE _))⟩;have Dx:h2.get? h1.objs.size=Od {cls:=.type "list",dict:=OQ,data:=.seq acc c',slots:=#[]}:=hS;rw[Dx,<-ea,R4]
end
theorem qO(l:O8)(items:Array OW)(n:Nat)(b:O8)(CD:Array OW)(n2:Nat)(dd:Option O8)(sl:Array (Option OW))(EY:¬(!items.isEmpty&&QG (items.size+CD.size))=OP)(F2:items.size<=OV)(Fh:items.size+CD.size<=OV+1):
  Meets (Rz.«list.extend» ⟨[.ref l,.ref b],[]⟩) (λ_ R s=>s.heap.get? l=Od {cls:=.type "list",dict:=OQ,data:=.seq items n,slots:=#[]}/\s.heap.get? b=Od {cls:=.type "list",dict:=dd,data:=.seq CD n2,slots:=sl}/\R (.ok (.ret Pu)) {s with heap:=s.heap.update l (Py λx=>x++CD),toks:=s.toks}) :=
 .of_wp λprog w A R s h=>by
  obtain⟨hp,g,d,tk,os⟩:=s;obtain⟨hl,hb,h⟩:=h;have f1:=Vk;have f2:=Ub;have f3:=UD;have f4:=Uw;have f5:=Ux;
  have Ko:(items++CD).size<=OV+1:=by rw[TN];exact Fh
  wp_walk using(Sk hl rfl (hz:=F2) (_hz':=Ko)),Rm hl,Rm hb;exact⟨_,rfl,h⟩
theorem qQ(l:O8)(items:Array OW)(n:Nat)(b:O8)(CD:Array OW)(n2:Nat)(dd:Option O8)(sl:Array (Option OW))(EY:¬(!items.isEmpty&&QG (items.size+CD.size))=OP)(F2:items.size<=OV)(Fh:items.size+CD.size<=OV+1):
  Meets (Rz.«list.extend» ⟨[.ref l,.ref b],[]⟩) (λ_ R s=>s.heap.get? l=Od {cls:=.type "list",dict:=OQ,data:=.seq items n,slots:=#[]}/\s.heap.get? b=Od {cls:=.type "tuple",dict:=dd,data:=.seq CD n2,slots:=sl}/\R (.ok (.ret Pu)) {s with heap:=s.heap.update l (Py λx=>x++CD),toks:=s.toks}) :=
 .of_wp λprog w A R s h=>by
  obtain⟨hp,g,d,tk,os⟩:=s;obtain⟨hl,hb,h⟩:=h;have f1:=Vk;have f2:=Ub;have f3:=UD;have f4:=Uw;have f5:=Ux;
  have Ko:(items++CD).size<=OV+1:=by rw[TN];exact Fh
  wp_walk using(Sk hl rfl (hz:=F2) (_hz':=Ko)),Rm hl,Rm hb;exact⟨_,rfl,h⟩
section
theorem nI:HC X "list.extend" (λx vs H Q=>∃l b xs zs,x=.ref l/\vs=[.ref b]/\H l=Od (.lst xs)/\(CF X.K H b zs\/CB X.K H b zs)/\xs.length+zs.length<=OV/\Q .Ce (upd H l (.lst (xs++zs)))):=by
 intro pins s σ H x vs v us Q I rx rv h;obtain⟨l,b,xs,zs,rfl,rfl,hH,hB,hz,q⟩:=h;cases rx;obtain⟨u,rfl,ru⟩:=rv.one;cases ru;obtain⟨z,A',n,r,hl,e⟩:=I.se hH;have fin:∀Cr:List OW,Vals zs Cr->EP X pins σ Q Pu {s with heap:=s.heap.update l (Py λx=>x++Cr.toArray),toks:=s.toks}:=λCr r2=>by
  refine⟨.Ce,_,I.gP (its':=A'++Cr) hH e (by simp) (r.append r2) ?_,rfl,q⟩;rw[Pp];omega
 have sz:∀Cr:List OW,zs.length=Cr.length->A'.toArray.size+Cr.toArray.size<=OV:=λCr h=>by rw[O0,O0];omega
 have lg:∀Cr:List OW,zs.length=Cr.length->¬(!A'.toArray.isEmpty&&QG (A'.toArray.size+Cr.toArray.size))=OP:=λCr h=>by
  rw[sf (sz Cr h),Sj];exact Po
 rcases hB with hB|hB
 ·obtain⟨Cr,r2,pl,_⟩:=I.list hB;obtain⟨⟨cls,dd,data,sl⟩,ho,hc,n2,hd⟩:=pl.isList;simp only at hc hd;subst hc hd;have FC:=r2.length;have h1:=sz Cr FC;exact RJ V_ ⟨_,e,rfl⟩ VZ (VR _ _) (qO l A'.toArray n b Cr.toArray n2 dd sl (lg Cr FC) ⋯ ⋯) ⟨e,ho,fin Cr r2⟩
 ·obtain⟨Cr,r2,pl,_⟩:=I.tuple hB;obtain⟨⟨cls,dd,data,sl⟩,ho,hc,n2,hd⟩:=pl;simp only at hc hd;subst hc hd;have FC:=r2.length;have h1:=sz Cr FC;exact RJ V_ ⟨_,e,rfl⟩ VZ (VR _ _) (qQ l A'.toArray n b Cr.toArray n2 dd sl (lg Cr FC) ⋯ ⋯) ⟨e,ho,fin Cr r2⟩
end
end L2
namespace L2
open PySem PySem.W PyProof.Rows
section
theorem qR{vs:List (Key×OW)}(hk:vs.map (·.1)=ks.map PN)(hl:acc.length=vs.length)(h:∀(j:Nat) (v:OW),acc[j]?=Od v->∃k x,vs[j]?=Od (k,x)/\(aL P w).is k v=OP):R3 acc ks:=by
 induction acc generalizing ks vs with
 |nil =>
  cases vs with
  |nil=>cases ks with
   |nil=>exact .nil
   |cons _ _=>cases hk
  |cons _ _=>cases hl
 |cons v acc ih =>
  cases vs with
  |nil=>cases hl
  |cons p vs =>
   cases ks with
   |nil=>cases hk
   |cons k ks =>
    simp only[O5,Sz]at hk;obtain⟨k',x,e1,e2⟩:=h 0 v rfl;simp only[List.getElem?_cons_zero,R6]at e1;subst e1;have Nh:k'=PN k:=hk.1;subst Nh;rcases aN (show gy (PN k) v=OP from e2) with⟨i,t,e,rfl⟩|⟨y,t,e,rfl⟩
    ·cases e
    ·cases e;exact .cons _ _ (ih hk.2 (by simpa using hl) λj u ej=>h (j+1) u (by simpa using ej))
theorem gc:X.calm=OP->eC X (.builtin "sorted") (λxs H Q=>∃(d:O8) (kvs:List (Key×V)) (ks:List Str),xs=[.ref d]/\H d=Od (.dK kvs)/\kvs.map (·.1)=ks.map PN/\ks.length<64/\∀q,H q=OQ->Q (.ref q) (upd H q (.lst ((aH ks).map V.str)))):=by
 intro hc pins s σ H xs us Q I rs h;obtain⟨d,kvs,ks,rfl,e,hk,ET,q⟩:=h;obtain⟨u,rfl,r⟩:=vals1 rs;cases r;obtain⟨hz,lo,vs,kv,dd⟩:=xH I.Cg e;have hlen:vs.length=kvs.length:=(Paired.length kv).symm;have Ni:kvs.length=ks.length:=by rw[<-OY (f:=(·.1)),hk,OY]
 have Nj:vs.map (·.1)=ks.map PN:=by
  rw[<-hk];clear dd hlen hk Ni e q hz;induction kv with
  |nil=>rfl
  |cons r _ ih=>rw[O5,O5,ih,r.1]
 obtain⟨o,es,ep,hd⟩:=id dd;have big:(64:Nat)<=OV:=by decide
 refine c6 (kdu_collect (A:=X.A.in1) (kdl_dict (knd:=aL X.prog X.w) (kvs:=vs) (ep:=ep) lo) (I.ok.hd hc) ⟨o,es,hd⟩ ⋯ λh' tk acc CL CC=>⟨ks,qR Nj (by rw[Pq];exact CC.1) (λj v ej=>CC.2 j v (by rw[<-P1];exact ej)),by rw[Pq,CC.1];omega,λh2 De e2 k2 at2 s2=>?_⟩);have I1:Inv X pins σ H {s with heap:=h',toks:=tk}:=I.kept (t':=tk) CL;exact⟨.ref h'.objs.size,_,I1.laid (t':=tk) (o:=.lst ((aH ks).map V.str)) k2 (O2 _) ⟨by rw[OY,bR];omega,De,e2,cA s2,at2⟩,rfl,q _ (I1.Cg.fresh (O2 _))⟩
end
section
theorem iF:∀{ns:List Int}{A':List OW},Vals (ns.map V.int) A'->∃ps:List (Int×Tok),A'=ps.map (λp=>TX p.1 p.2)/\ps.map (·.1)=ns
 |[],_,h=>by cases h;exact⟨[],rfl,rfl⟩
 |n::ns,_,h=>by
  cases h with
  |cons r t =>
   obtain⟨tk,rfl⟩:=r;obtain⟨ps,rfl,rfl⟩:=iF t;exact⟨(n,tk)::ps,rfl,rfl⟩
theorem sM:X.calm=OP->eC X (.builtin "sum") (λxs H Q=>∃(p:O8) (ns:List Int),xs=[.ref p]/\CF X.K H p (ns.map V.int)/\Q (.int ns.sum) H):=by
 intro hc pins s σ H xs us Q I rs h;obtain⟨p,ns,rfl,hq,q⟩:=h;obtain⟨u,rfl,r⟩:=vals1 rs;cases r;obtain⟨A',rv,pl,hz⟩:=I.list hq;obtain⟨ps,rfl,rfl⟩:=iF rv;have e:(ps.map λp=>TX p.1 p.2).toArray=intItems ps.toArray:=by simp[intItems]
 refine sum_intListG (xs:=ps.toArray) (I.ok.hd hc) (by rw[<-e];exact pl.isList) λh' tk t' hk=>?_;rw[preSum_eq,Q0 (by simp)];exact⟨.int _,H,I.kept (t':=tk) hk,⟨t',rfl⟩,q⟩
end
def aF{α:Type}(lt:Nat->Nat->Bool):Xy α->α
 |.ret x=>x
 |.ask i j k=>aF lt (k (lt i j))
def Dd{α:Type}(n:Nat)(P:α->Prop):Xy α->Prop
 |.ret x=>P x
 |.ask i j k=>i<n/\j<n/\∀b,Dd n P (k b)
theorem Dd.Hh{P:α->Prop}{Q:β->Prop}{f:α->Xy β}(hf:∀x,P x->Dd n Q (f x)):∀{t:Xy α},Dd n P t->Dd n Q (t.bind f)
 |.ret x,h=>hf x h
 |.ask i j k,h=>⟨h.1,h.2.1,λb=>Dd.Hh hf (h.2.2 b)⟩
theorem Dd.got:∀{t:Xy α},Dd n P t->P (aF lt t)
 |.ret _,h=>h
 |.ask i j k,h=>Dd.got (t:=k (lt i j)) (h.2.2 _)
theorem Dd.wp(hc:∀i j,i<n->j<n->∀C:Bool->O7->Prop,C (lt i j) s->cmp i j C s):
  ∀{t:Xy α},Dd n P t->Q (aF lt t) s->t.kasWp cmp Q s
 |.ret _,_,q=>q
 |.ask i j k,h,q=>hc i j h.1 h.2.1 _ (Dd.wp hc (t:=k (lt i j)) (h.2.2 _) q)
def Pm(n:Nat)(p:Array Nat):Prop:=p.toList.Perm (Pl n)
section
variable{n:Nat}(hn:0<n)
include hn
theorem Pm.at(h:Pm n p)(i:Nat):p.getD i 0<n:=by
 by_cases hi:i<p.size
 ·have:p.getD i 0=p[i]:=by simp[Tu,hi]
  rw[this];have hm:p[i]∈p.toList:=by simp
  exact QT.mp (h.mem_iff.mp hm)
 ·have:p.getD i 0=0:=by simp[Tu,hi]
  rw[this];exact hn
omit hn in
theorem Pm.rev(h:Pm n p)(i j:Nat):Pm n (Ss p i j):=(mirror_perm p i j _).toList.trans h
omit hn in
theorem Pm.Lz(h:Pm n p)(i j:Nat):Pm n (bubble p i j):=(bubble_perm p i j).toList.trans h
theorem nJ(h:Pm n p):∀(f m:Nat),Dd n (λ_=>True) (Sd p f m)
 |0,m=>trivial
 |f+1,m=>⟨h.at hn _,h.at hn _,λb=>by
  cases b
  ·exact nJ h f (m+1)
  ·exact trivial⟩
theorem gX:∀(f:Nat) (p:Array Nat) (m q:Nat),Pm n p->Dd n (λr=>Pm n r.1) (TJ f p m q)
 |0,p,m,q,h=>h
 |f+1,p,m,q,h=>⟨h.at hn _,h.at hn _,λb=>by
  cases b
  ·exact⟨h.at hn _,h.at hn _,λb=>by
    cases b
    ·exact gX f p (m+1) (q+1) h
    ·exact h⟩
  ·show Dd n _ (if q>0 then _ else _);split
   ·exact gX f _ _ _ (h.rev _ _)
   ·exact gX f _ _ _ h⟩
theorem pd(h:Pm n p)(m r:Nat):Dd n (λx=>Pm n x.2) (Sx m r p):=by
 unfold Sx;refine Dd.Hh (λx _=>?_) (nJ hn (h.rev _ _) _ _);exact h.rev _ _
theorem pe(h:Pm n p)(m r:Nat):Dd n (λx=>Pm n x.2) (Ry m r p):=by
 unfold Ry;refine Dd.Hh (λx hx=>?_) (gX hn _ _ _ _ h);split
 ·exact pd hn (hx.rev _ _) _ _
 ·exact pd hn hx _ _
theorem sN(h:Pm n p)(r:Nat):Dd n (λx=>Pm n x.2) (R7 r p):=by
 unfold R7;refine Dd.Hh (λm _=>?_) (nJ hn h _ _);split
 ·exact h
 ·split
  ·exact⟨h.at hn _,h.at hn _,λb=>by
    cases b
    ·exact pe hn (h.rev _ _) _ _
    ·exact h⟩
  ·exact pe hn h _ _
theorem iG(h:Pm n p)(k:Nat):∀(f l r:Nat),Dd n (λ_=>True) (RQ p k f l r)
 |0,l,r=>trivial
 |f+1,l,r=>by
  unfold RQ;split
  ·exact trivial
  ·exact⟨h.at hn _,h.at hn _,λb=>by
    cases b
    ·exact iG h k f _ _
    ·exact iG h k f _ _⟩
theorem sO:∀(f:Nat) (p:Array Nat) (k:Nat),Pm n p->Dd n (Pm n) (kas_bin f p k)
 |0,p,k,h=>h
 |f+1,p,k,h=>Dd.Hh (λl _=>sO f _ _ (h.Lz _ _)) (iG hn h _ _ _ _)
theorem pf:Dd n (Pm n) (QF n):=by
 unfold QF;refine Dd.Hh (λx hx=>?_) (sN hn (p:=U7 (Pl n)) (by unfold Pm;simp) n);split
 ·exact sO hn _ _ _ hx
 ·exact hx
end
theorem iH(lt:Nat->Nat->Bool)(n:Nat):(aF lt (QF n)).toList.Perm (Pl n):=by
 cases n with
 |zero=>exact List.Perm.refl _
 |succ n=>exact(pf (Nat.succ_pos n)).got
section
theorem qS(ho:s.heap.get? a=Od (Qd "list" vs.toArray n))(ET:vs.length<64)
  (LA:2<=vs.length->∀s1:O7,(∀b o,b≠a->s.heap.get? b=Od o->s1.heap.get? b=Od o)->OZ (O9 prog w) A (keyKind' vs.toArray) (λκ s'=>s'=s1/\∀i j,i<vs.length->j<vs.length->∀C:Bool->O7->Prop,C (lt i j) s1->WS prog w A κ vs i j C s1) (λ_ _=>False) s1)
  (h:P (.done (.ret .none)) {s with heap:=WB s.heap a vs (((aF lt (QF vs.length)).toList.map λi=>vs.getD i Pu).toArray)}) :
  OZ (O9 prog w) A (Rz.«list.sort» ⟨[.ref a],[]⟩) P E s:=by
 have ha:a<s.heap.objs.size:=O4 ho;have big:(64:Nat)<=OV:=by decide
 rw[list_sort_plain];refine OO (VU ho rfl (OO (T6 ho rfl ?_ (by rw[O0];omega) (Pt _))));obtain⟨e1,EA⟩:∃e1,(s.heap.update a (Py λ_=>(#[]:Array OW))).get? a=Od (Qd "list" #[] e1):=⟨_,Xk ho λ_=>#[]⟩
 refine OO (We EA rfl (OO (wpAny_newTuple (OO (Vq (P5 ?_) (Pt _))) (by show vs.length<=_;omega))));have HZ:(((s.heap.update a (Py λ_=>(#[]:Array OW))).push (Qd "tuple" vs.toArray 0)).push (Qd "list" #[] 0)).get? a=Od (Qd "list" #[] e1):=OT _ (OT _ EA);have old:∀b o,b≠a->s.heap.get? b=Od o->(((s.heap.update a (Py λ_=>(#[]:Array OW))).push (Qd "tuple" vs.toArray 0)).push (Qd "list" #[] 0)).get? b=Od o:=λb o hb e =>
  OT _ (OT _ (by rw[Rr _ _ _ _ hb];exact e))
 show OZ (O9 prog w) A _ P E {s with heap:=((s.heap.update a (Py λ_=>(#[]:Array OW))).push (Qd "tuple" vs.toArray 0)).push (Qd "list" #[] 0)}
 dsimp only
 have H9:((aF lt (QF vs.length)).toList.map λi=>vs.getD i Pu).length=vs.length:=by rw[OY,(iH lt _).length_eq,Ql]
 by_cases h2:vs.toArray.size<2
 ·rw[XI h2,XI h2];refine OO (OU ?_);rw[StateT.run_pure];refine OO (OU ?_);have eo:((aF lt (QF vs.length)).toList.map λi=>vs.getD i Pu).toArray=(vs.toArray.zip vs.toArray).map (·.2):=by
   have hp:=iH lt vs.length;clear h LA H9 old HZ ho ET
   match vs,h2,hp with
   |[],_,hp=>rw[show(aF lt (QF ([]:List OW).length)).toList=[] from WD.mp hp];simp
   |[v],_,hp=>rw[show(aF lt (QF [v].length)).toList=[0] from List.perm_singleton.mp hp];simp
   |_::_::_,h2,_=>simp at h2;omega
  rw[eo]at h
  dsimp only
  refine OO (We HZ rfl (OO (T6 HZ rfl ?_ (Pt _) (by rw[Array.size_map];show(pairsOf vs).size<=_;rw[pairsOf_size];omega))));simp only[bne_self_eq_false,Px,XQ];exact OU h
 ·rw[XM h2,XM h2];have Ew:2<=vs.length:=by rw[O0]at h2;omega
  refine OO (Qb (LA Ew _ old) (λκ s0 hk=>?_) λ_ _ x=>x.elim);obtain⟨rfl,hk⟩:=hk;refine OO (Qb (kat_run (κ:=κ) (ks:=vs) (vs:=vs) (G:=λp s'=>p=aF lt (QF vs.length)/\s'={s with heap:=((s.heap.update a (Py λ_=>(#[]:Array OW))).push (Qd "tuple" vs.toArray 0)).push (Qd "list" #[] 0)})
   (Q:=λst' s'=>∃p:Array Nat,arrOf st'=p.map (kas_item (vs.toArray.zip vs.toArray))/\failedOf st'=OQ/\p=aF lt (QF vs.length)/\s'={s with heap:=((s.heap.update a (Py λ_=>(#[]:Array OW))).push (Qd "tuple" vs.toArray 0)).push (Qd "list" #[] 0)})
   rfl Ew ET (λp st' s' a1 a2 a3 a4=>⟨p,a2,a3,a4⟩) (Dd.wp hk (pf ⋯) ⟨rfl,rfl⟩)) ?_ λ_ _ e=>e)
  rintro⟨⟨⟩,st'⟩ s' ⟨p,Nk,hf,rfl,rfl⟩
  dsimp only
  have Kp:=kat_snds rfl Nk;rw[Kp,hf];refine OO (We HZ rfl (OO (T6 HZ rfl ?_ (Pt _) (by rw[O0,H9];omega))));simp only[bne_self_eq_false,Px,XQ];exact OU h
end
def En(ks:List Str)(i j:Nat):Bool:=OX ((ks.getD i PL).cps.toList<(ks.getD j PL).cps.toList)
def ef(ks:List Str):List Nat:=(aF (En ks) (QF ks.length)).toList
theorem cT(ks:List Str):(ef ks).Perm (Pl ks.length):=iH _ _
section
end
section
end
structure LB(n:Nat)(lt:Nat->Nat->Bool):Prop where
 tr:∀a b c,a<n->b<n->c<n->lt a b=OP->lt b c=OP->lt a c=OP
 Kq:∀a b,a<n->b<n->a≠b->lt a b=OR->lt b a=OP
def aT(p:Array Nat)(i:Nat):Nat:=p.getD i 0
theorem ph(h:p[i]?=q[j]?):aT p i=aT q j:=by
 unfold aT;rw[Uh,Uh,h]
def Eo(lt:Nat->Nat->Bool)(p:Array Nat)(m:Nat):Prop:=∀i j,i<j->j<m->lt (aT p i) (aT p j)=OP
def F6(lt:Nat->Nat->Bool)(p:Array Nat)(m:Nat):Prop:=∀i j,i<j->j<m->lt (aT p j) (aT p i)=OP
theorem dZ:∀t:Xy α,aF lt (t.bind f)=aF lt (f (aF lt t))
 |.ret _=>rfl
 |.ask i j k=>dZ (k (lt i j))
theorem Pm.size(h:Pm n p):p.size=n:=by
 have:=h.length_eq;simpa using this
theorem sQ{l:List α}(hn:l.Nodup)(hi:i<l.length)(hj:j<l.length)(e:l[i]=l[j]):i=j:=by
 rcases Nat.lt_trichotomy i j with z|z|z
 ·exact absurd e (Sr.mp hn i j hi hj z)
 ·exact z
 ·exact absurd e.symm (Sr.mp hn j i hj hi z)
theorem Pm.ne(h:Pm n p)(hi:i<n)(hj:j<n)(CT:i≠j):aT p i≠aT p j:=by
 have hs:=h.size;have hn:p.toList.Nodup:=h.nodup_iff.mpr List.nodup_range;have e1:aT p i=p.toList[i]'(by simpa[hs] using hi):=by unfold aT;simp[Tu,hs,hi]
 have e2:aT p j=p.toList[j]'(by simpa[hs] using hj):=by unfold aT;simp[Tu,hs,hj]
 rw[e1,e2];intro e;exact CT (sQ hn _ _ e)
section
variable{n:Nat}{lt:Nat->Nat->Bool}(ht:LB n lt)(hn:0<n)
include ht hn
theorem Eo.ext(h:Pm n p)(m1:1<=m)(hu:Eo lt p m)(hl:lt (aT p (m - 1)) (aT p m)=OP):Eo lt p (m+1):=by
 intro i j CT hj;by_cases e:j=m
 ·subst e;by_cases e2:i=j - 1
  ·subst e2;exact hl
  ·exact ht.tr _ (aT p (j - 1)) _ (h.at hn _) (h.at hn _) (h.at hn _) (hu i (j - 1) ⋯ ⋯) hl
 ·exact hu i j CT ⋯
theorem F6.ext(h:Pm n p)(m1:1<=m)(hu:F6 lt p m)(hl:lt (aT p m) (aT p (m - 1))=OP):F6 lt p (m+1):=by
 intro i j CT hj;by_cases e:j=m
 ·subst e;by_cases e2:i=j - 1
  ·subst e2;exact hl
  ·exact ht.tr _ (aT p (j - 1)) _ (h.at hn _) (h.at hn _) (h.at hn _) hl (hu i (j - 1) ⋯ ⋯)
 ·exact hu i j CT ⋯
theorem kK(h:Pm n p):∀(f m:Nat),1<=m->m+f<=n->Eo lt p m->Eo lt p (aF lt (Sd p f m))/\m<=aF lt (Sd p f m)/\aF lt (Sd p f m)<=m+f/\(aF lt (Sd p f m)<m+f->lt (aT p (aF lt (Sd p f m))) (aT p (aF lt (Sd p f m) - 1))=OP)
 |0,m,m1,hm,hu=>⟨hu,O2 _,O2 _,λz=>absurd z (P0 _)⟩
 |f+1,m,m1,hm,hu=>by
  have e:aF lt (Sd p (f+1) m)=aF lt (if lt (aT p m) (aT p (m - 1))=OP then .ret m else Sd p f (m+1)):=rfl;by_cases hc:lt (aT p m) (aT p (m - 1))=OP
  ·rw[e,XI hc];exact⟨hu,O2 _,by show m<=_;omega,λ_=>hc⟩
  ·rw[e,XM hc];have hl:=ht.Kq _ _ (h.at hn _) (h.at hn _) (h.ne (i:=m) (j:=m - 1) ⋯ ⋯ ⋯) (Sv.mpr hc);obtain⟨a,b,c,d⟩:=kK h f (m+1) ⋯ ⋯ (Eo.ext ht hn h m1 hu hl);exact⟨a,⋯,⋯,λz=>d ⋯⟩
theorem l9(h:Pm n p):∀(f m:Nat),1<=m->m+f<=n->F6 lt p m->∃r,aF lt (TJ f p m 0)=(p,r,0)/\F6 lt p r/\m<=r/\r<=m+f
 |0,m,m1,hm,hu=>⟨m,rfl,hu,O2 _,O2 _⟩
 |f+1,m,m1,hm,hu=>by
  have e:aF lt (TJ (f+1) p m 0)=aF lt (if lt (aT p m) (aT p (m - 1))=OP then(if 0>0 then TJ f (Ss p (m - (0+1)) m) (m+1) 0 else TJ f p (m+1) 0)
   else .ask (aT p (m - 1)) (aT p m) λd=>if d=OP then .ret (p,m,0) else TJ f p (m+1) (0+1)):=rfl
  by_cases hc:lt (aT p m) (aT p (m - 1))=OP
  ·rw[e,XI hc,XM ⋯];obtain⟨r,a,b,c,d⟩:=l9 h f (m+1) ⋯ ⋯ (F6.ext ht hn h m1 hu hc);exact⟨r,a,b,⋯,⋯⟩
  ·have hl:=ht.Kq _ _ (h.at hn _) (h.at hn _) (h.ne (i:=m) (j:=m - 1) ⋯ ⋯ ⋯) (Sv.mpr hc);rw[e,XM hc];refine⟨m,?_,hu,O2 _,⋯⟩;show aF lt (if lt (aT p (m - 1)) (aT p m)=OP then .ret (p,m,0) else TJ f p (m+1) (0+1))=_;have FR:lt (aT p (m - 1)) (aT p m)=OP:=hl;rw[XI FR];rfl
theorem sR(h:Pm n p)(m1:1<=m)(hm:m<=n)(hu:F6 lt p m):Eo lt (aF lt (Sx m n p)).2 (aF lt (Sx m n p)).1/\Pm n (aF lt (Sx m n p)).2/\1<=(aF lt (Sx m n p)).1/\(aF lt (Sx m n p)).1<=n:=by
 have hr:Pm n (Ss p 0 m):=h.rev 0 m;have hs:=h.size;have Nl:Eo lt (Ss p 0 m) m:=by
  have key:∀k,k<m->aT (Ss p 0 m) k=aT p (m - 1 - k):=λk hk=>by
   refine ph ?_;unfold Ss;rw[getElem?_mirror_all ⋯,XI ⟨Pt _,hk⟩,T2]
  intro i j CT hj;rw[key i ⋯,key j hj];exact hu (m - 1 - j) (m - 1 - i) ⋯ ⋯
 obtain⟨a,b,c,_⟩:=kK ht hn hr (n - m) m m1 ⋯ Nl;unfold Sx;rw[dZ];exact⟨a,hr,by show 1<=aF lt (Sd _ _ _);omega,by show aF lt (Sd _ _ _)<=n;omega⟩
theorem qT(h:Pm n p):Eo lt (aF lt (R7 n p)).2 (aF lt (R7 n p)).1/\Pm n (aF lt (R7 n p)).2/\1<=(aF lt (R7 n p)).1/\(aF lt (R7 n p)).1<=n:=by
 obtain⟨a,b,c,d⟩:=kK ht hn h (n - 1) 1 (O2 _) ⋯ (λi j CT hj=>by omega);unfold R7;rw[dZ];generalize aF lt (Sd p (n - 1) 1)=m at a b c d;by_cases e:m=n
 ·rw[XI (by simp[e])];exact⟨a,h,b,by show m<=n;omega⟩
 ·rw[XM (by simp[e])];by_cases m1:m>1
  ·rw[XI m1];show Eo lt (aF lt (if lt (aT p 0) (aT p (m - 1))=OP then .ret (m,p) else Ry m n (Ss p 0 m))).2 (aF lt (if lt (aT p 0) (aT p (m - 1))=OP then .ret (m,p) else Ry m n (Ss p 0 m))).1/\Pm n (aF lt (if lt (aT p 0) (aT p (m - 1))=OP then .ret (m,p) else Ry m n (Ss p 0 m))).2/\1<=(aF lt (if lt (aT p 0) (aT p (m - 1))=OP then .ret (m,p) else Ry m n (Ss p 0 m))).1/\(aF lt (if lt (aT p 0) (aT p (m - 1))=OP then .ret (m,p) else Ry m n (Ss p 0 m))).1<=n;rw[XI (a 0 (m - 1) ⋯ ⋯)];exact⟨a,h,b,by show m<=n;omega⟩
  ·rw[XM m1];have em:m=1:=by omega
   subst em;have hd:F6 lt p 2:=λi j CT hj=>by
    have e1:i=0:=by omega
    have e2:j=1:=by omega
    subst e1 e2;exact d ⋯
   obtain⟨r,a1,b1,c1,d1⟩:=l9 ht hn h (n - 2) 2 ⋯ ⋯ hd;unfold Ry;rw[dZ,a1];rw[XM (by show ¬(0>0);omega)];have Nm:r<=n:=by
    have e3:2<=n:=by omega
    omega
   exact sR ht hn h (m:=r) ⋯ Nm b1
theorem gf(h:Pm n p)(hk:k<n)(hu:Eo lt p k):∀(f l r:Nat),r - l<=f->l<=r->r<=k->(∀j,j<l->lt (aT p j) (aT p k)=OP)->(∀j,r<=j->j<k->lt (aT p k) (aT p j)=OP) ->
  aF lt (RQ p k f l r)<=k/\(∀j,j<aF lt (RQ p k f l r)->lt (aT p j) (aT p k)=OP)/\∀j,aF lt (RQ p k f l r)<=j->j<k->lt (aT p k) (aT p j)=OP
 |0,l,r,hf,hl,hr,h1,h2=>⟨by show l<=k;omega,h1,λj hj=>h2 j (by have:l<=j:=hj;omega)⟩
 |f+1,l,r,hf,hl,hr,h1,h2=>by
  by_cases Hc:l >= r
  ·have e:aF lt (RQ p k (f+1) l r)=l:=by
    show aF lt (if l >= r then .ret l else _)=l;rw[XI Hc];rfl
   rw[e];exact⟨⋯,h1,λj hj=>h2 j ⋯⟩
  ·have e:aF lt (RQ p k (f+1) l r)=aF lt (if lt (aT p k) (aT p ((l+r) / 2))=OP then RQ p k f l ((l+r) / 2) else RQ p k f ((l+r) / 2+1) r):=by
    show aF lt (if l >= r then .ret l else _)=_;rw[XM Hc];rfl
   rw[e];by_cases hc:lt (aT p k) (aT p ((l+r) / 2))=OP
   ·rw[XI hc];refine gf h hk hu f l ((l+r) / 2) ⋯ ⋯ ⋯ h1 λj hj LC=>?_;by_cases ej:j=(l+r) / 2
    ·subst ej;exact hc
    ·exact ht.tr _ _ _ (h.at hn _) (h.at hn _) (h.at hn _) hc (hu _ _ ⋯ LC)
   ·rw[XM hc];have hb:=ht.Kq _ _ (h.at hn _) (h.at hn _) (h.ne (i:=k) (j:=(l+r) / 2) ⋯ ⋯ ⋯) (Sv.mpr hc);refine gf h hk hu f ((l+r) / 2+1) r ⋯ ⋯ ⋯ (λj hj=>?_) h2;by_cases ej:j=(l+r) / 2
    ·subst ej;exact hb
    ·exact ht.tr _ _ _ (h.at hn _) (h.at hn _) (h.at hn _) (hu j _ ⋯ ⋯) hb
theorem pj:∀(f:Nat) (p:Array Nat) (k:Nat),Pm n p->Eo lt p k->k+f=n->Eo lt (aF lt (kas_bin f p k)) n
 |0,p,k,h,hu,hk=>by
  have e:k=n:=by omega
  subst e;exact hu
 |f+1,p,k,h,hu,hk=>by
  obtain⟨a,b,c⟩:=gf ht hn h (k:=k) ⋯ hu k 0 k ⋯ ⋯ (O2 _) (λj hj=>by omega) λj hj LC=>by omega
  unfold kas_bin;rw[dZ];generalize aF lt (RQ p k k 0 k)=l at a b c;refine pj f _ (k+1) (h.Lz _ _) ?_ ⋯;have hs:=h.size;have key:∀i,aT (bubble p k (k - l)) i=if i=l then aT p k else if l<i/\i<=k then aT p (i - 1) else aT p i:=λi=>by
   have g:=getElem?_bubble (xs:=p) (src:=k) ⋯ (k - l) ⋯ i;rw[show k - (k - l)=l by omega]at g;by_cases e1:i=l
   ·rw[XI e1]at g ⊢;exact ph g
   ·rw[XM e1]at g ⊢;by_cases e2:l<i/\i<=k
    ·rw[XI e2]at g ⊢;exact ph g
    ·rw[XM e2]at g ⊢;exact ph g
  intro i j CT hj;rw[key i,key j];by_cases i1:i=l
  ·rw[XI i1,XM ⋯,XI ⋯];exact c _ ⋯ ⋯
  ·rw[XM i1];by_cases i2:l<i/\i<=k
   ·rw[XI i2,XM ⋯,XI ⋯];exact hu _ _ ⋯ ⋯
   ·rw[XM i2];by_cases j1:j=l
    ·rw[XI j1];exact b _ ⋯
    ·rw[XM j1];by_cases j2:l<j/\j<=k
     ·rw[XI j2];by_cases e:i=j - 1
      ·exfalso;omega
      ·exact hu _ _ ⋯ ⋯
     ·rw[XM j2];exact hu _ _ CT ⋯
theorem sT:Eo lt (aF lt (QF n)) n:=by
 obtain⟨a,b,c,d⟩:=qT ht hn (p:=U7 (Pl n)) (by unfold Pm;simp);unfold QF;rw[dZ];generalize aF lt (R7 n (U7 (Pl n)))=x at a b c d;by_cases e:x.1<n
 ·rw[XI e,show max x.1 1=x.1 by omega];exact pj ht hn _ _ _ b a ⋯
 ·rw[XM e];have e2:x.1=n:=by omega
  rw[<-e2];exact a
end
theorem vU(h:ks.Nodup):LB ks.length (En ks):=by
 refine⟨λa b c _ _ _ h1 h2=>?_,λa b ha hb Gv h1=>?_⟩
 ·unfold En at *;rw[XJ]at *;exact List.lt_trans h1 h2
 ·unfold En at *;rw[decide_eq_false_iff_not]at h1;rw[XJ];have hle:=Vl.mp h1;rcases Decidable.em ((ks.getD b PL).cps.toList<(ks.getD a PL).cps.toList) with z|z
  ·exact z
  ·exfalso
   have e:=lN (V0 hle (Vl.mp z));rw[Si,Si,Pn ha,Pn hb]at e;exact Gv (sQ h ha hb e.symm)
theorem qU(h:ks.Nodup):(ef ks).map (λi=>ks.getD i PL)=aH ks:=by
 have hp:=cT ks;have e:(Pl ks.length).map (λi=>ks.getD i PL)=ks:=by
  apply T8
  ·simp
  ·intro i h1 h2;simp[RE,h2]
 have G':((ef ks).map λi=>ks.getD i PL).Perm ks:=by
  have:=hp.map λi=>ks.getD i PL;rw[e]at this;exact this
 refine dY (G'.trans (bp ks).symm) ?_ (fz ks);rw[List.pairwise_map,Sr];intro i j hi hj CT;have hl:(ef ks).length=ks.length:=by rw[hp.length_eq,Ql]
 have hu:=sT (vU h) ⋯ i j CT ⋯;have e1:∀(k:Nat) (hk:k<(ef ks).length),aT (aF (En ks) (QF ks.length)) k=(ef ks)[k]:=λk hk=>by
  unfold aT;have CL:k<(aF (En ks) (QF ks.length)).size:=by simpa[ef] using hk
  simp[ef,Tu,CL]
 rw[e1 i hi,e1 j hj]at hu;unfold En at hu;rw[XJ]at hu;rw[fy];exact List.le_of_lt hu
def dh(h:QA)(as:List O8)(ks:List Str):Prop:=as.length=ks.length/\∀(j:Nat) (a:O8),as[j]?=Od a->∃k t o n b u,ks[j]?=Od k/\h.get? a=Od o/\o.cls=.type "tuple"/\o.data=.seq #[.str k t,.int b u] n
theorem dh.keeps(x:dh h as ks)(k:∀b o,b∈as->h.get? b=Od o->h'.get? b=Od o):dh h' as ks :=
 ⟨x.1,λj a e=>let ⟨k0,t,o,n,b,u,e1,e2,e3⟩:=x.2 j a e;⟨k0,t,o,n,b,u,e1,k a o (P' e) e2,e3⟩⟩
theorem dh.tail(x:dh h (a::as) (k::ks)):dh h as ks :=
 ⟨by have:=x.1;simpa using this,λj b e=>by
  obtain⟨k0,t,o,n,c,u,e1,e2⟩:=x.2 (j+1) b (by simpa using e);exact⟨k0,t,o,n,c,u,by simpa using e1,e2⟩⟩
theorem dh.gT:∀{as:List O8}{ks:List Str},dh h as ks->∃fs:List OW,KatTups h (as.map Pd) fs/\fs.length=as.length/\∀v∈fs,∃x t,v=P7 x t
 |[],_,_=>⟨[],KatTups.nil,rfl,by simp⟩
 |a::as,[],x=>by have:=x.1;simp at this
 |a::as,k::ks,x=>by
  obtain⟨fs,h1,h2,h3⟩:=dh.gT x.tail;obtain⟨k0,t,o,n,b,u,e1,e2,e3,e4⟩:=x.2 0 a rfl;refine⟨.str k0 t::fs,KatTups.cons e2 e3 e4 rfl h1,by simp[h2],λv hv=>?_⟩;rcases O_.mp hv with rfl|hv
  ·exact⟨_,_,rfl⟩
  ·exact h3 v hv
section
theorem yM(x:dh s.heap as ks)(Dj:ks.Nodup)(hi:i<as.length)(hj:j<as.length)(q:C (En ks i j) s):
  WS prog w A (tuples' OP) (as.map Pd) i j C s:=by
 obtain⟨p,t,o,n,b,u,e1,e2,_,e3⟩:=x.2 i as[i] (by simp[hi]);obtain⟨p',t',o',n',b',u',EG,H_,_,Ia⟩:=x.2 j as[j] (by simp[hj]);have gi:(as.map Pd).getD i Pu=.ref as[i]:=by simp[RE,hi]
 have gj:(as.map Pd).getD j Pu=.ref as[j]:=by simp[RE,hj]
 have ki:ks.getD i PL=p:=by simp[RE,e1]
 have kj:ks.getD j PL=p':=by simp[RE,EG]
 unfold WS;rw[gi,gj];refine kat_lt (b:=OP) e2 e3 H_ Ia ?_;unfold En at q;rw[ki,kj]at q;show KatLex prog w A OP (OX (2<2)) C [(.str p t,.str p' t'),(.int b u,.int b' u')] 0 s;refine kat_cons (W3 ?_);by_cases h:p=p'
 ·have CT:i=j:=by
   obtain⟨h1,z1⟩:=O6.mp e1;obtain⟨h2,z2⟩:=O6.mp EG;exact(V1 Dj).mp (by rw[z1,z2,h])
  subst CT;rw[e2]at H_;cases H_;rw[e3]at Ia;injection Ia with Ia _
  have hb:b=b'/\u=u':=by
   have:=congrArg (λa:Array OW=>a[1]?) Ia;simpa using this
  obtain⟨hb,hu⟩:=hb;subst hb hu;subst h;rw[XO rfl];refine kat_yes (kat_cons (W4 ?_));rw[show(b==b)=OP by simp];refine kat_yes (kat_nil ?_);have:OX (p.cps.toList<p.cps.toList)=OR:=XN (List.lt_irrefl _);rw[this]at q;exact q
 ·rw[XN h];exact kat_no (oneLt_str q)
theorem yN(x:dh s.heap as ks)(Dj:ks.Nodup)(h2:2<=as.length):
  OZ (O9 prog w) A (keyKind' (as.map Pd).toArray) (λκ s'=>s'=s/\∀i j,i<(as.map Pd).length->j<(as.map Pd).length->∀C:Bool->O7->Prop,C (En ks i j) s->WS prog w A κ (as.map Pd) i j C s) (λ_ _=>False) s:=by
 obtain⟨fs,f1,f2,f3⟩:=x.gT;refine kat_kind (T:=.type "str") f1 ⋯ (λv hv=>?_) rfl ⟨rfl,λi j hi hj C q=>?_⟩
 ·obtain⟨y,t,rfl⟩:=f3 v hv;exact Looks.of_pure rfl
 ·rw[OY]at hi hj;exact yM x Dj hi hj q
end
section
theorem nK{as:List O8}(I:Inv X pins σ H s)(e:CF X.K H L (as.map V.ref))(hl:as.length=ks.length)
  (ht:∀(j:Nat) a k,as[j]?=Od a->ks[j]?=Od k->∃b,CB X.K H a [.str k,.int b]) (Dj:ks.Nodup) (ET:as.length<64)
  (q:∀L',H L'=OQ->Q (.ref L') (upd H L' (.lst ((ef ks).map λi=>V.ref (as.getD i 0))))) :
  OZ (O9 X.prog X.w) X.A (RC (.builtin "sorted") [.ref L]) (EP X pins σ Q) X.xe s:=by
 have big:(64:Nat)<=OV:=by decide
 obtain⟨A',rv,pl,hz⟩:=I.list e;have Kr:A'=as.map Pd:=by
  have:∀(as:List O8) (A':List OW),Vals (as.map V.ref) A'->A'=as.map Pd:=λas=>by
   induction as with
   |nil=>intro A' h;cases h;rfl
   |cons a as ih =>
    intro A' h;cases h with
    |cons r t=>rw[ih _ t];cases r;rfl
  exact this as A' rv
 subst Kr;have pa:dh s.heap as ks:=⟨hl,λj a ej=>by
  have hj:j<ks.length:=by rw[<-hl];exact(O6.mp ej).1
  obtain⟨b,hb⟩:=ht j a ks[j] ej (by simp[hj]);obtain⟨us,r,⟨o,h1,h2,n,h3⟩,_⟩:=I.tuple hb;cases r with
  |cons r1 r2 =>
   cases r2 with
   |cons r2 r3 =>
    cases r3;obtain⟨t,rfl⟩:=r1;obtain⟨u,rfl⟩:=r2;exact⟨_,t,o,n,b,u,by simp[hj],h1,h2,h3⟩⟩
 refine UB kind_sorted plain_sorted entry_sorted (args_sorted1 _) ?_;unfold Rz.«sorted»;refine OO (m:=checkCount "sorted" 1 1 _) (OU ?_);refine OO (collect_list pl.isList ?_ (by simp;omega));generalize hg:(s.heap.push (Qd "list" #[] 0)).update s.heap.objs.size (Py (·++(as.map Pd).toArray))=g;have k1:∀b o,s.heap.get? b=Od o->g.get? b=Od o:=λb o z=>by subst hg;exact eE z
 have hsz:s.heap.objs.size<=g.objs.size:=by subst hg;rw[VY,QL];exact QE _
 have Nn:∀a∈as,a<g.objs.size:=λa ha=>by
  obtain⟨j,hj,ej⟩:=List.mem_iff_getElem.mp ha;obtain⟨_,_,o,_,_,_,_,z,_⟩:=pa.2 j a (by simp[hj,ej]);exact Pb (O4 z) hsz
 refine OO (Vq ?_ (by rw[OY];omega));have Ft:(g.push (Qd "list" (as.map Pd).toArray 0)).get? g.objs.size=Od (Qd "list" (as.map Pd).toArray 0):=O3 _ rfl;show OZ _ _ _ _ _ {s with heap:=g.push (Qd "list" (as.map Pd).toArray 0)};refine OO (P5 (P6 XD ⟨_,Ft,rfl⟩ Xl (qS (lt:=En ks) Ft (by rw[OY];omega) (λh2 s1 kp=>?_) ⟨_,rfl,?_⟩) (XG _)))
 ·exact yN (pa.keeps λb o hb z=>kp b o (O' (Nn b hb)) (OT _ (k1 b o z))) Dj (by rw[OY]at h2;exact h2)
 ·obtain⟨ee,he⟩:=sortedHeap_at (out:=((aF (En ks) (QF (as.map Pd).length)).toList.map λi=>(as.map Pd).getD i Pu).toArray) Ft;have hold:∀b o,g.get? b=Od o->(WB (g.push (Qd "list" (as.map Pd).toArray 0)) g.objs.size (as.map Pd) ((aF (En ks) (QF (as.map Pd).length)).toList.map λi=>(as.map Pd).getD i Pu).toArray).get? b=Od o:=λb o z=>by
   have Cz:b<g.objs.size:=O4 z;rw[XC (O' Cz) (by rw[QL];exact RL Cz)];exact OT _ z
  have eP:((aF (En ks) (QF (as.map Pd).length)).toList)=ef ks:=by
   unfold ef;rw[OY,hl]
  have F5:∀i∈ef ks,i<as.length:=λi hi=>by
   have:=QT.mp ((cT _).mem_iff.mp hi);omega
  refine OU ⟨_,rfl,.ref g.objs.size,_,I.laid (t':=s.toks) (o:=.lst ((ef ks).map λi=>V.ref (as.getD i 0))) (λb u z=>hold b u (k1 b u z)) hsz ⟨?_,(ef ks).map λi=>(as.map Pd).getD i Pu,ee,?_,by rw[<-eP];exact he⟩,rfl,q _ (I.Cg.fresh hsz)⟩
  ·rw[OY,(cT _).length_eq,Ql];omega
  ·generalize ef ks=l at F5;induction l with
   |nil=>exact .nil
   |cons i l ih =>
    refine .cons ?_ (ih λj hj=>F5 j (by simp[hj]));have hi:=F5 i (by simp);show RelV (.ref (as.getD i 0)) ((as.map Pd).getD i Pu);have:(as.map Pd).getD i Pu=.ref (as.getD i 0):=by simp[RE,hi]
    rw[this];rfl
end
section
theorem Inv.freeze(I:Inv X pins σ H s)(hr:H r=Od (.dK kvs))(ho:s.heap.get? r=Od o):Inv X pins σ (upd H r (.Di o (.dK kvs))) s:=by
 have nr:∀b u,H b=Od u->u≠.dK kvs->b≠r:=λb u e n z=>by subst z;rw[hr]at e;cases e;exact n rfl
 exact I.write (t':=s.toks) (x:=r) (e:=r) (by rw[hr];trivial) (.inl rfl) (λb u _ q=>q) ⟨o,ho⟩ ⟨ho,(I.Cg r _ hr).j5 (λ_ _ _ q=>q) (λb q=>by rw[ao (nr b _ q (λz=>by cases z))];exact q) λb xs q=>by rw[ao (nr b _ q (λz=>by cases z))];exact q⟩
end
def Ks(r:O8)(o:Obj)(kvs:List (Key×V)):It :=
 ⟨λi H=>H r=Od (.Di o (.dK kvs))/\i<kvs.length,λi H x H'=>∃p,H p=OQ/\x=.ref p/\∀k v,kvs[i]?=Od (k,v)->H'=upd H p (.tup [kV k,v]),λi H=>H r=Od (.Di o (.dK kvs))/\kvs.length<=i⟩
theorem yO(h:(aL P w).is k u=OP):RelV (kV k) u:=by
 rcases aN (show gy k u=OP from h) with⟨i,t,rfl,rfl⟩|⟨y,t,rfl,rfl⟩
 ·exact⟨t,rfl⟩
 ·exact⟨t,rfl⟩
theorem xJ:∀{kvs:List (Key×V)}{vs:List (Key×OW)},KV kvs vs->∀(i:Nat) (h:i<kvs.length) (h':i<vs.length),kvs[i].1=vs[i].1/\RelV kvs[i].2 vs[i].2
 |_,_,.cons a _,0,_,_=>a
 |_,_,.cons _ b,i+1,h,h'=>xJ b i (by simpa using h) (by simpa using h')
theorem nL{K:PySem.W.Frag}(Jj:o.data=.dict en ep):
  Turn P w K (.Tuple es kx ps) (Ks r o kvs) [it] it (λi h=>∃ok ov,IsItemIter h it r i kvs.length ep ok ov) where
 mem:=by simp
 obj:=λi h ⟨ok,ov,st⟩ b hb=>by
  rw[Pf.mp hb];exact⟨_,st,λv z=>by
    have z':S4 _=UX v:=z;cases z'⟩
 keep:=λi h h' ⟨ok,ov,st⟩ k=>⟨ok,ov,k it (by simp) _ st⟩
 item:=by
  intro X hP hw hK hc i pins s σ H E I hf ⟨ok,ov,st⟩ hg;subst hP hw;obtain⟨hr,hi⟩:=hg;obtain⟨ho,z1,z2,vs,kv,o',Np,Gj,C0,hx,DG,GD⟩:=(show aW X.prog X.w H s.heap r (.Di o (.dK kvs)) from I.Cg r _ hr)
  rw[ho]at C0;cases C0;rw[Jj]at DG;cases DG;have hl:vs.length=kvs.length:=(Paired.length kv).symm;have hm:s.heap.DictAt (aL X.prog X.w) r vs ep:=⟨o,en,ho,hx,Jj,GD⟩
  obtain⟨q,hq,e1,e2⟩:∃q,vs[i]?=Od q/\kvs[i].1=q.1/\RelV kvs[i].2 q.2:=by
   have Dz:i<vs.length:=by omega
   refine⟨vs[i],by simp[Dz],?_⟩;exact xJ kv i hi Dz
  rw[<-hl]at st;refine wpAny_pyNext_items_item st hm (k:=q.1) (v:=q.2) hq λkey h1 hk hit hT hsz Ib=>⟨_,rfl,wpAny_letOwnedTupleGo_items (s:={s with heap:=h1}) hit λh2 Ji Fh=>?_⟩
  have Cz:it<s.heap.objs.size:=O4 st;have Kn:h2.get? s.heap.objs.size=Od {cls:=.type "tuple",data:=.seq #[key,q.2]}:=(Fh.2 _ (QN Cz)).trans hT;have k2:∀b o,b∉[it]->s.heap.get? b=Od o->h2.get? b=Od o:=λb o hb q=>by
   have DC:b≠it:=λz=>hb (by simp[z]);exact(Fh.2 b DC).trans (Ib b o DC q)
  have I2:Inv X pins σ (upd H s.heap.objs.size (.tup [kV kvs[i].1,kvs[i].2])) {s with heap:=h2,toks:=s.toks}:=I.iE hf k2 (O2 _)
   (show aW X.prog X.w _ h2 _ (.tup [kV kvs[i].1,kvs[i].2]) from⟨by show 2<=OV;decide,[key,q.2],.cons (by rw[e1];exact yO hk) (.cons e2 .nil),⟨_,Kn,rfl,_,rfl⟩⟩)
  refine⟨.ref s.heap.objs.size,_,I2,rfl,⟨_,I.Cg.fresh (O2 _),rfl,λk v Jk=>?_⟩,⟨_,_,by rw[hl]at Ji;exact Ji⟩,λb hb=>?_⟩
  ·rw[Pn hi]at Jk;rw[PU Jk]
  ·have DC:b≠s.heap.objs.size:=by rw[Pf.mp hb];exact O' Cz
   rw[ao DC];exact(hf b hb).1
 done:=by
  intro X hP hw hK hc i pins s σ H E I hf ⟨ok,ov,st⟩ hg;subst hP hw;obtain⟨hr,hi⟩:=hg;obtain⟨ho,z1,z2,vs,kv,o',Np,Gj,C0,hx,DG,GD⟩:=(show aW X.prog X.w H s.heap r (.Di o (.dK kvs)) from I.Cg r _ hr)
  rw[ho]at C0;cases C0;rw[Jj]at DG;cases DG;have hl:vs.length=kvs.length:=(Paired.length kv).symm;have hm:s.heap.DictAt (aL X.prog X.w) r vs ep:=⟨o,en,ho,hx,Jj,GD⟩
  rw[<-hl]at st;exact wpAny_pyNext_items_end (by simpa using I.ok.hd hc) st hm (RU ⋯) λh' HG=>⟨rfl,I.kJ (t':=s.toks) hf λb o hb q=>HG b o (λz=>hb (by simp[z])) q⟩
 self:=λA i s Q E ⟨ok,ov,st⟩ h=>kcp_self st h
section
end
section
def AD(te:TE):TI:=λσ H R=>te σ H λv H1=>∃r kvs,v=.ref r/\H1 r=Od (.dK kvs)/\∀o,R (Ks r o kvs) (upd H1 r (.Di o (.dK kvs)))
theorem qV(he:PE X e te)(C5:Sb e "items" X.env (QK e X.env)=QK e X.env)(Cs:(apos.endLine==Cc.line)=OP):
  PI X (.Tuple es kx ps) (.Call (.Attribute e "items" apos) [] [] Cc) (AD te):=by
 intro pins s σ H R I hE;refine Vy C5 Cs (Cm (he pins s σ H _ I hE) λv s1 ⟨x1,H0,I0,r1,r,kvs,z1,Jl,hR⟩=>?_);subst z1;cases(show v=Pd r from r1);obtain⟨_,_,_,_,o,_,_,Nq,_⟩:=(show aW X.prog X.w H0 s1.heap r (.dK kvs) from I0.Cg r _ Jl)
 have I1:=I0.freeze Jl Nq;have hR:=hR o;generalize Nr:upd H0 r (.Di o (.dK kvs))=H1 at I1 hR;have hr:H1 r=Od (.Di o (.dK kvs)):=by rw[<-Nr];exact au
 obtain⟨ho,z1,lo,vs,kv,o',en,ep,C0,hx,DG,GD⟩:=(show aW X.prog X.w H1 s1.heap r (.Di o (.dK kvs)) from I1.Cg r _ hr)
 rw[ho]at C0;cases C0;have hl:vs.length=kvs.length:=(Paired.length kv).symm;have hm:s1.heap.DictAt (aL X.prog X.w) r vs ep:=⟨o,en,ho,hx,DG,GD⟩
 have hT:s1.TypeIs (.ref r) "dict":=⟨o,ho,hx.1⟩
 refine⟨"dict","dict.items",PySem.F.plainAttrs_dict,PySem.F.slot_dict_items,PySem.F.type_dict_items,hT,λa e=>⟨o,by cases e;exact ho,hx.2.1⟩,QY rfl (PySem.evalArgs_none (call_meetsIn PySem.F.slot_dict_items hT PySem.F.entry_dict_items (PySem.F.args_dict_items_1 _) (meets_dict_items (aL X.prog X.w) r lo) ⟨⟨vs,o,en,ep,ho,hx,DG,GD⟩,?_⟩))⟩;have k1:∀b u,s1.heap.get? b=Od u->(s1.heap.push {cls:=.type "dict_items",data:=.fields #[.ref r]}).get? b=Od u:=λb u z=>OT _ z;have EF:(s1.heap.push {cls:=.type "dict_items",data:=.fields #[.ref r]}).DictAt (aL X.prog X.w) r vs ep:=⟨o,en,k1 _ _ ho,hx,DG,GD⟩
 refine wpAny_pyIter_items (s:={s1 with heap:=s1.heap.push {cls:=.type "dict_items",data:=.fields #[.ref r]}}) ⟨_,O3 _ rfl,rfl,rfl⟩ EF ?_;have hsz:(s1.heap.push {cls:=.type "dict_items",data:=.fields #[.ref r]}).objs.size=s1.heap.objs.size+1:=QL ..;have I2:=I1.kept (t':=s1.toks) (h':=(s1.heap.push {cls:=.type "dict_items",data:=.fields #[.ref r]}).push {cls:=.type "dict_itemiterator",data:=.fields #[.none,.bool OR,.ref r,.int 0 0,.int vs.length 0,.int ep 0,.none,.none]}) λb u z=>OT _ (k1 b u z);refine⟨_,[_],_,_,H1,rfl,I2,nL (kvs:=kvs) DG,⟨.none,.none,by rw[<-hl];exact O3 _ rfl⟩,λb hb=>?_,hR⟩;rw[Pf.mp hb];have LD:s1.heap.objs.size<=(s1.heap.push {cls:=.type "dict_items",data:=.fields #[.ref r]}).objs.size:=by rw[hsz];exact QE _
 exact I1.rU LD (I1.Cg.fresh LD)
end
end L2
namespace TM
open PySem L2
inductive U where
 |Ce|bl (b:Bool)|int (i:Int)|str (x:Str)
 |tup (xs:List U)|lst (xs:List U)
 |CU (ks:List Str) (vs:List U)|Dt (ks:List lM)
mutual
def CI:U->Bool
 |.tup xs=>bJ xs
 |.lst _=>OR
 |.CU _ _=>OR
 |.Dt _=>OR
 |.Ce=>OP|.bl _=>OP|.int _=>OP|.str _=>OP
def bJ:List U->Bool
 |[]=>OP
 |u::us=>CI u&&bJ us
end
inductive Kd where|own|io|loc|any|bor (j:Nat)|Ci
deriving DecidableEq
def Kd.root:Kd->Bool
 |.own=>OP
 |.io=>OP
 |_=>OR
abbrev ax:=List (Option (Kd×U))
structure Ct where
 P:PZ
 w:Qj
 K:PySem.W.Frag
 H₀:Hp
 Ep:O8->Prop
 IO:O8->Prop
def KL(K:PySem.W.Frag)(a:O8)(xs:List V):Prop :=
 ∃(o:Obj) (A':Array OW) (n:Nat),K.lookup a=Od o/\o.cls=.type "list"/\o.dict=OQ/\o.data=.seq A' n/\A'.size<=OV/\Vals xs A'.toList
def Ic(K:PySem.W.Frag)(S:O8->Prop)(H:Hp)(a:O8)(vs:List V):Prop:=(S a/\Rd H a (.lst vs))\/KL K a vs
theorem Ic.sq(h:Ic K S H a vs):CF K H a vs:=h.elim (λz=>.inl z.2) .inr
def F7(H:Hp)(R:List V->Prop)(a:O8)(ks:List Str):Prop:=∃kvs:List (Key×V),H a=Od (.dK kvs)/\kvs.map (·.1)=ks.map PN/\R (kvs.map (·.2))
section
variable(C:Ct)(S:O8->Prop)(H:Hp)
mutual
def Rep:U->V->Prop
 |.Ce,v=>v=.Ce
 |.bl b,v=>v=.bl b
 |.int i,v=>v=.int i
 |.str x,v=>v=.str x
 |.tup us,v=>∃a vs,v=.ref a/\CB C.K H a vs/\ai us vs
 |.lst us,v=>∃a vs,v=.ref a/\Ic C.K S H a vs/\ai us vs
 |.CU ks us,v=>∃a,v=.ref a/\S a/\F7 H (ai us) a ks
 |.Dt ks,v=>∃a,v=.ref a/\S a/\dg C.P C.w C.K H a ks
def ai:List U->List V->Prop
 |[],vs=>vs=[]
 |u::us,vs=>∃v r,vs=v::r/\Rep u v/\ai us r
end
end
def Tp:HO->Prop
 |.tup _=>True
 |.Di _ (.tup _)=>True
 |_=>False
structure Mv(S:O8->Prop)(H:Hp)(S':O8->Prop)(H':Hp):Prop where
 sub:∀a,S a->S' a
 Jm:∀a o,H a=Od o->Tp o->H' a=Od o
 Jn:∀a o,S a->H a=Od o->H' a=Od o
theorem Mv.Kt(m:Mv S H S' H')(h:CB K H a vs):CB K H' a vs:=by
 rcases h with(h|⟨o,h⟩)|h
 ·exact .inl (.inl (m.Jm a _ h trivial))
 ·exact .inl (.inr ⟨o,m.Jm a _ h trivial⟩)
 ·exact .inr h
theorem Mv.Nt(m:Mv S H S' H')(h:Ic K S H a vs):Ic K S' H' a vs:=by
 rcases h with⟨s,h|⟨o,h⟩⟩|h
 ·exact .inl ⟨m.sub a s,.inl (m.Jn a _ s h)⟩
 ·exact .inl ⟨m.sub a s,.inr ⟨o,m.Jn a _ s h⟩⟩
 ·exact .inr h
theorem Mv.row(m:Mv S H S' H')(h:dz K H v r):dz K H' v r :=
 let ⟨a,b,e,h1,h2⟩:=h;⟨a,b,e,m.Kt h1,m.Kt h2⟩
theorem F7.mv(ha:∀o,H a=Od o->H' a=Od o)(hR:∀vs,R vs->R' vs)(h:F7 H R a ks):F7 H' R' a ks :=
 let ⟨kvs,h1,h2,h3⟩:=h;⟨kvs,ha _ h1,h2,hR _ h3⟩
theorem Mv.pk(m:Mv S H S' H')(ha:∀o,H a=Od o->H' a=Od o)(h:dg P w K H a ks):dg P w K H' a ks :=
 let ⟨xs,h1,h2,h3⟩:=h;⟨xs,ha _ h1,h2,λx hx=>m.row (h3 x hx)⟩
section
mutual
theorem Rep.F8(m:Mv S H S' H'):∀(u:U) (v:V),Rep C S H u v->Rep C S' H' u v
 |.Ce,_,h=>h
 |.bl _,_,h=>h
 |.int _,_,h=>h
 |.str _,_,h=>h
 |.tup us,v,h=>by
  obtain⟨a,vs,e,h1,h2⟩:=h;exact⟨a,vs,e,m.Kt h1,ai.F8 m us vs h2⟩
 |.lst us,v,h=>by
  obtain⟨a,vs,e,h1,h2⟩:=h;exact⟨a,vs,e,m.Nt h1,ai.F8 m us vs h2⟩
 |.CU ks us,v,h=>by
  obtain⟨a,e,h1,h2⟩:=h;exact⟨a,e,m.sub a h1,h2.mv (λo q=>m.Jn a o h1 q) λvs q=>ai.F8 m us vs q⟩
 |.Dt ks,v,h=>by
  obtain⟨a,e,h1,h2⟩:=h;exact⟨a,e,m.sub a h1,m.pk (λo q=>m.Jn a o h1 q) h2⟩
theorem ai.F8(m:Mv S H S' H'):∀(us:List U) (vs:List V),ai C S H us vs->ai C S' H' us vs
 |[],_,h=>h
 |u::us,vs,h=>by
  obtain⟨v,r,e,h1,h2⟩:=h;exact⟨v,r,e,Rep.F8 m u v h1,ai.F8 m us r h2⟩
end
mutual
theorem Rep.qW:∀(u:U) (v:V),CI u=OP->Rep C S H u v->Rep C S' H u v
 |.Ce,_,_,h=>h
 |.bl _,_,_,h=>h
 |.int _,_,_,h=>h
 |.str _,_,_,h=>h
 |.tup us,v,i,h=>by
  obtain⟨a,vs,e,h1,h2⟩:=h;exact⟨a,vs,e,h1,ai.qW us vs (by simpa[TM.CI] using i) h2⟩
 |.lst us,v,i,h=>by simp[TM.CI]at i
 |.CU ks us,v,i,h=>by simp[TM.CI]at i
 |.Dt ks,v,i,h=>by simp[TM.CI]at i
theorem ai.qW:∀(us:List U) (vs:List V),bJ us=OP->ai C S H us vs->ai C S' H us vs
 |[],_,_,h=>h
 |u::us,vs,i,h=>by
  obtain⟨v,r,e,h1,h2⟩:=h;have i':TM.CI u=OP/\bJ us=OP:=by simpa[bJ] using i
  exact⟨v,r,e,Rep.qW u v i'.1 h1,ai.qW us r i'.2 h2⟩
end
theorem Rep.mv(m:Mv S H S' H')(h:Rep C S H u v):Rep C S' H' u v:=Rep.F8 m u v h
theorem ai.mv(m:Mv S H S' H')(h:ai C S H us vs):ai C S' H' us vs:=ai.F8 m us vs h
theorem Rep.CI(i:TM.CI u=OP)(h:Rep C S H u v):Rep C S' H u v:=Rep.qW u v i h
theorem ai.CI(i:bJ us=OP)(h:ai C S H us vs):ai C S' H us vs:=ai.qW us vs i h
theorem Mv.up(sub:∀a,S a->S' a):Mv S H S' H:=⟨sub,λ_ _ h _=>h,λ_ _ _ h=>h⟩
theorem ai.len:∀{us:List U}{vs:List V},ai C S H us vs->us.length=vs.length
 |[],_,h=>by cases h;rfl
 |u::us,vs,h=>by
  obtain⟨v,r,rfl,_,h2⟩:=h;rw[Pw,Pw,ai.len h2]
theorem ai.get:∀{us:List U}{vs:List V}{i:Nat}{u:U},ai C S H us vs->us[i]?=Od u->∃v,vs[i]?=Od v/\Rep C S H u v
 |[],_,_,_,_,e=>by simp at e
 |u::us,vs,0,w,h,e=>by
  obtain⟨v,r,rfl,h1,_⟩:=h;simp at e;subst e;exact⟨v,rfl,h1⟩
 |u::us,vs,i+1,w,h,e=>by
  obtain⟨v,r,rfl,_,h2⟩:=h;obtain⟨v',e',h'⟩:=ai.get (i:=i) (u:=w) h2 (by simpa using e);exact⟨v',by simpa using e',h'⟩
theorem ai.append:∀{us ws:List U}{vs ys:List V},ai C S H us vs->ai C S H ws ys->ai C S H (us++ws) (vs++ys)
 |[],_,_,_,h,h'=>by cases h;exact h'
 |u::us,ws,vs,ys,h,h'=>by
  obtain⟨v,r,rfl,h1,h2⟩:=h;exact⟨v,r++ys,rfl,h1,h2.append h'⟩
theorem ai.take:∀{us:List U}{vs:List V} (n:Nat),ai C S H us vs->ai C S H (us.take n) (vs.take n)
 |_,_,0,_=>by simp[ai]
 |[],_,n+1,h=>by cases h;simp[ai]
 |u::us,vs,n+1,h=>by
  obtain⟨v,r,rfl,h1,h2⟩:=h;exact⟨v,r.take n,rfl,h1,h2.take n⟩
theorem ai.drop:∀{us:List U}{vs:List V} (n:Nat),ai C S H us vs->ai C S H (us.drop n) (vs.drop n)
 |_,_,0,h=>h
 |[],_,n+1,h=>by cases h;simp[ai]
 |u::us,vs,n+1,h=>by
  obtain⟨v,r,rfl,h1,h2⟩:=h;exact h2.drop n
theorem ai.set:∀{us:List U}{vs:List V} (n:Nat) {u:U}{v:V},ai C S H us vs->Rep C S H u v->ai C S H (us.set n u) (vs.set n v)
 |[],_,n,_,_,h,_=>by cases h;simp[ai]
 |u::us,vs,0,_,_,h,h'=>by
  obtain⟨v,r,rfl,h1,h2⟩:=h;exact⟨_,r,rfl,h',h2⟩
 |u::us,vs,n+1,_,_,h,h'=>by
  obtain⟨v,r,rfl,h1,h2⟩:=h;exact⟨v,_,rfl,h1,h2.set n h'⟩
theorem ai.snoc(h:ai C S H us vs)(h':Rep C S H u v):ai C S H (us++[u]) (vs++[v]):=h.append ⟨v,[],rfl,h',rfl⟩
theorem ai.strs:∀{xs:List Str}{vs:List V},ai C S H (xs.map .str) vs↔vs=xs.map V.str
 |[],vs=>by simp[ai]
 |x::xs,vs=>by
  constructor
  ·rintro⟨v,r,rfl,h1,h2⟩;rw[ai.strs.mp h2];have:v=.str x:=h1;rw[this];rfl
  ·rintro rfl;exact⟨_,_,rfl,rfl,ai.strs.mpr rfl⟩
end
structure Ct.Eqv(C C':Ct):Prop where
 P:C.P=C'.P
 w:C.w=C'.w
 K:C.K=C'.K
section
mutual
theorem Rep.F9(q:C.Eqv C'):∀(u:U) (v:V),Rep C S H u v->Rep C' S H u v
 |.Ce,_,h=>h
 |.bl _,_,h=>h
 |.int _,_,h=>h
 |.str _,_,h=>h
 |.tup us,v,h=>by
  obtain⟨a,vs,e,h1,h2⟩:=h;exact⟨a,vs,e,q.K▸h1,ai.F9 q us vs h2⟩
 |.lst us,v,h=>by
  obtain⟨a,vs,e,h1,h2⟩:=h;exact⟨a,vs,e,q.K▸h1,ai.F9 q us vs h2⟩
 |.CU ks us,v,h=>by
  obtain⟨a,e,h1,h2⟩:=h;exact⟨a,e,h1,h2.mv (λ_ q=>q) λvs z=>ai.F9 q us vs z⟩
 |.Dt ks,v,h=>by
  obtain⟨a,e,h1,h2⟩:=h;exact⟨a,e,h1,by rw[<-q.P,<-q.w,<-q.K];exact h2⟩
theorem ai.F9(q:C.Eqv C'):∀(us:List U) (vs:List V),ai C S H us vs->ai C' S H us vs
 |[],_,h=>h
 |u::us,vs,h=>by
  obtain⟨v,r,e,h1,h2⟩:=h;exact⟨v,r,e,Rep.F9 q u v h1,ai.F9 q us r h2⟩
end
theorem Rep.cg(q:C.Eqv C')(h:Rep C S H u v):Rep C' S H u v:=Rep.F9 q u v h
theorem ai.cg(q:C.Eqv C')(h:ai C S H us vs):ai C' S H us vs:=ai.F9 q us vs h
end
def bW(C:Ct)(S:O8->Prop)(H:Hp)(r:O8):U->Prop
 |.lst us=>∃vs,H r=Od (.lst vs)/\ai C S H us vs
 |.CU ks us=>F7 H (ai C S H us) r ks
 |.Dt ks=>dg C.P C.w C.K H r ks
 |_=>False
theorem bW.mv(m:Mv S H S' H')(hr:∀o,H r=Od o->H' r=Od o)(h:bW C S H r u):bW C S' H' r u:=by
 cases u with
 |lst us=>obtain⟨vs,h1,h2⟩:=h;exact⟨vs,hr _ h1,h2.mv m⟩
 |CU ks us=>exact F7.mv hr (λvs q=>q.mv m) h
 |Dt ks=>exact m.pk hr h
 |_=>exact h
theorem bW.rep(hs:∀a,S a->S' a)(hr:S' r)(h:bW C S H r u):Rep C S' H u (.ref r):=by
 cases u with
 |lst us=>obtain⟨vs,h1,h2⟩:=h;exact⟨r,vs,rfl,.inl ⟨hr,.inl h1⟩,h2.mv (.up hs)⟩
 |CU ks us=>exact⟨r,rfl,hr,F7.mv (λ_ q=>q) (λvs q=>q.mv (.up hs)) h⟩
 |Dt ks=>exact⟨r,rfl,hr,h⟩
 |_=>exact h.elim
theorem bW.cg(q:C.Eqv C')(h:bW C S H r u):bW C' S H r u:=by
 cases u with
 |lst us=>obtain⟨vs,h1,h2⟩:=h;exact⟨vs,h1,h2.cg q⟩
 |CU ks us=>exact F7.mv (λ_ q=>q) (λvs z=>z.cg q) h
 |Dt ks=>show dg _ _ _ _ _ _;rw[<-q.P,<-q.w,<-q.K];exact h
 |_=>exact h
theorem bW.some(h:bW C S H r u):∃o,H r=Od o/\¬Tp o:=by
 cases u with
 |lst us=>obtain⟨vs,h1,_⟩:=h;exact⟨_,h1,λz=>z⟩
 |CU ks us=>obtain⟨kvs,h1,_⟩:=h;exact⟨_,h1,λz=>z⟩
 |Dt ks=>obtain⟨xs,h1,_⟩:=h;exact⟨_,h1,λz=>z⟩
 |_=>exact h.elim
structure Cf where
 S:O8->Prop
 H:Hp
 σ:St
 st:ax
 kid:Nat->List O8
def Cf.R1(c:Cf)(a:O8):Prop:=∃(j:Nat) (k:Kd) (u:U),k.root=OP/\c.st[j]?=Od (Od (k,u))/\c.σ[j]?=Od (Od (.ref a))
def Cf.RD(c:Cf)(j:Nat)(a:O8):Prop:=∃(u:U) (r:O8),c.st[j]?=Od (Od (.Ci,u))/\c.σ[j]?=Od (Od (.ref r))/\(a=r\/a∈c.kid j)
def Cf.R(c:Cf)(a:O8):Prop:=c.R1 a\/∃j,c.RD j a
def PS(C:Ct)(S:O8->Prop):O8->Prop:=λa=>C.Ep a\/S a
def dC(C:Ct)(S:O8->Prop)(H:Hp):Kd->U->V->Prop
 |.own,u,v=>∃r,v=.ref r/\¬S r/\¬C.Ep r/\C.H₀ r=OQ/\bW C S H r u
 |.io,u,v=>∃r,v=.ref r/\¬S r/\¬C.Ep r/\C.IO r/\bW C S H r u
 |.loc,u,v=>Rep C S H u v
 |.any,u,v=>Rep C (PS C S) H u v
 |.bor _,_,_=>False
 |.Ci,_,v=>∃r,v=.ref r
def kL(C:Ct)(S:O8->Prop)(H:Hp):List U->List O8->Prop
 |[],as=>as=[]
 |u::us,as=>∃a GF ys vs,as=a::GF/\u=.lst ys/\H a=Od (.lst vs)/\ai C S H ys vs/\kL C S H us GF
def dE(C:Ct)(S:O8->Prop)(H:Hp)(r:O8)(as:List O8):U->Prop
 |.CU ks us=>∃kvs:List (Key×V),H r=Od (.dK kvs)/\kvs.map (·.1)=ks.map PN/\kvs.map (·.2)=as.map V.ref/\(r::as).Nodup/\(∀a∈r::as,¬S a/\¬C.Ep a/\C.H₀ a=OQ)/\kL C S H us as
 |_=>False
structure EH(C:Ct)(c:Cf):Prop where
 kd:∀(j:Nat) (u:U) (r:O8),c.st[j]?=Od (Od (.Ci,u))->c.σ[j]?=Od (Od (.ref r))->dE C c.S c.H r (c.kid j) u
 dj:∀(i j:Nat) (a:O8),c.RD i a->c.RD j a->i=j
 d1:∀(j:Nat) (a:O8),c.RD j a->¬c.R1 a
structure Ok(C:Ct)(c:Cf):Prop where
 same:∀a o,C.H₀ a=Od o->¬C.IO a->c.H a=Od o
 D0:∀a,c.S a->C.H₀ a=OQ/\∃o,c.H a=Od o
 par:∀a,C.Ep a->(∃o,C.H₀ a=Od o)/\¬C.IO a
 io:∀a,C.IO a->(∃o,C.H₀ a=Od o)/\∃o,c.H a=Od o
 len:c.st.length=c.σ.length
 sl:∀(i:Nat) (k:Kd) (u:U),c.st[i]?=Od (Od (k,u))->∃v,c.σ[i]?=Od (Od v)/\dC C c.S c.H k u v
 inj:∀(i j:Nat) (k k':Kd) (u u':U) (r:O8),k.root=OP->k'.root=OP->c.st[i]?=Od (Od (k,u))->c.st[j]?=Od (Od (k',u'))->c.σ[i]?=Od (Od (.ref r))->c.σ[j]?=Od (Od (.ref r))->i=j
 dd:EH C c
structure Ns(c c':Cf):Prop where
 keep:∀a o,c.H a=Od o->¬c.R a->c'.H a=Od o
 there:∀a o,c.H a=Od o->∃o',c'.H a=Od o'
 roots:∀a,c'.R a->c.R a\/c.H a=OQ
 sub:∀a,c.S a->c'.S a
 new:∀a,c'.S a->c.S a\/c.R a\/c.H a=OQ
section
theorem Ns.refl(c:Cf):Ns c c:=⟨λ_ _ h _=>h,λ_ o h=>⟨o,h⟩,λ_ h=>.inl h,λ_ h=>h,λ_ h=>.inl h⟩
theorem Ns.none(n:Ns c c')(h:c'.H a=.none):c.H a=.none:=by
 cases e:c.H a with
 |none=>rfl
 |some o=>obtain⟨o',q⟩:=n.there a o e;rw[h]at q;cases q
theorem Ns.trans(m:Ns c c')(n:Ns c' EI):Ns c EI where
 keep:=λa o h hr=>by
  refine n.keep a o (m.keep a o h hr) λz=>?_;rcases m.roots a z with z|z
  ·exact hr z
  ·rw[h]at z;cases z
 there:=λa o h=>let ⟨o',h'⟩:=m.there a o h;n.there a o' h'
 roots:=λa h=>by
  rcases n.roots a h with z|z
  ·exact m.roots a z
  ·exact .inr (m.none z)
 sub:=λa h=>n.sub a (m.sub a h)
 new:=λa h=>by
  rcases n.new a h with z|z|z
  ·exact m.new a z
  ·rcases m.roots a z with z|z
   ·exact .inr (.inl z)
   ·exact .inr (.inr z)
  ·exact .inr (.inr (m.none z))
theorem dC.rt(hk:k.root=OP)(h:dC C S H k u v):∃r,v=.ref r/\¬S r/\¬C.Ep r/\(C.H₀ r=OQ\/C.IO r)/\bW C S H r u:=by
 cases k with
 |own=>obtain⟨r,h1,h2,h3,h4,h5⟩:=h;exact⟨r,h1,h2,h3,.inl h4,h5⟩
 |io=>obtain⟨r,h1,h2,h3,h4,h5⟩:=h;exact⟨r,h1,h2,h3,.inr h4,h5⟩
 |_=>cases hk
theorem kL.mem:∀{us:List U}{as:List O8}{a:O8},kL C S H us as->a∈as->∃vs,H a=Od (.lst vs)
 |[],as,a,h,ha=>by cases h;cases ha
 |u::us,as,a,h,ha=>by
  obtain⟨a',GF,ys,vs,rfl,_,h1,_,h2⟩:=h;rcases O_.mp ha with rfl|ha
  ·exact⟨vs,h1⟩
  ·exact kL.mem h2 ha
theorem kL.mv(m:Mv S H S' H'):∀{us:List U}{as:List O8},(∀a∈as,∀o,H a=Od o->H' a=Od o)->kL C S H us as->kL C S' H' us as
 |[],as,_,h=>h
 |u::us,as,hf,h=>by
  obtain⟨a,GF,ys,vs,rfl,e,h1,h2,h3⟩:=h;exact⟨a,GF,ys,vs,rfl,e,hf a (by simp) _ h1,h2.mv m,kL.mv m (λa ha=>hf a (by simp[ha])) h3⟩
theorem dE.fr(h:dE C S H r as u):∀a∈r::as,¬S a/\¬C.Ep a/\C.H₀ a=OQ:=by
 cases u<;>first|exact h.elim|(obtain⟨kvs,_,_,_,_,h5,_⟩:=h;exact h5)
theorem dE.there(h:dE C S H r as u):∀a∈r::as,∃o,H a=Od o/\¬Tp o:=by
 cases u<;>first|exact h.elim|skip
 obtain⟨kvs,h1,_,_,_,_,h6⟩:=h;intro a ha;rcases O_.mp ha with rfl|ha
 ·exact⟨_,h1,λz=>z⟩
 ·obtain⟨vs,e⟩:=h6.mem ha;exact⟨_,e,λz=>z⟩
theorem dE.mv(m:Mv S H S' H')(hf:∀a∈r::as,¬S' a/\∀o,H a=Od o->H' a=Od o)(h:dE C S H r as u):dE C S' H' r as u:=by
 cases u<;>first|exact h.elim|skip
 obtain⟨kvs,h1,h2,h3,h4,h5,h6⟩:=h;exact⟨kvs,(hf r (by simp)).2 _ h1,h2,h3,h4,λa ha=>⟨(hf a ha).1,(h5 a ha).2⟩,h6.mv m λa ha=>(hf a (by simp[ha])).2⟩
theorem EH.of(d:EH C c)(hk:c'.kid=c.kid)(hD:∀(j:Nat) (u:U),c'.st[j]?=Od (Od (.Ci,u))->c.st[j]?=Od (Od (.Ci,u))/\c'.σ[j]?=c.σ[j]?)(h1:∀a,c'.R1 a->c.R1 a\/∀j,¬c.RD j a)
  (m:Mv c.S c.H c'.S c'.H) (hf:∀j a,c.RD j a->¬c'.S a/\∀o,c.H a=Od o->c'.H a=Od o):EH C c':=by
 have back:∀j a,c'.RD j a->c.RD j a:=λj a DQ=>by
  obtain⟨u,r,e1,e2,e3⟩:=DQ;obtain⟨q1,q2⟩:=hD j u e1;rw[q2]at e2;rw[hk]at e3;exact⟨u,r,q1,e2,e3⟩
 refine⟨λj u r e1 e2=>?_,λi j a z1 z2=>d.dj i j a (back i a z1) (back j a z2),λj a z1 z2=>?_⟩
 ·obtain⟨q1,q2⟩:=hD j u e1;rw[q2]at e2;rw[hk];exact dE.mv m (λa ha=>hf j a ⟨u,r,q1,e2,O_.mp ha⟩) (d.kd j u r q1 e2)
 ·rcases h1 a z2 with z|z
  ·exact d.d1 j a (back j a z1) z
  ·exact z j (back j a z1)
theorem EH.hs(d:EH C c)(m:Mv c.S c.H S' H')(hf:∀j a,c.RD j a->¬S' a/\∀o,c.H a=Od o->H' a=Od o):EH C {c with H:=H',S:=S' } :=
 d.of rfl (λ_ _ e=>⟨e,rfl⟩) (λ_ z=>.inl z) m hf
theorem Ok.root(ok:Ok C c)(h:c.R r):¬c.S r/\¬C.Ep r/\(C.H₀ r=OQ\/C.IO r)/\∃o,c.H r=Od o/\¬Tp o:=by
 rcases h with⟨j,k,u,hk,h1,h2⟩|⟨j,u,r',h1,h2,h3⟩
 ·obtain⟨v,e,hs⟩:=ok.sl j _ _ h1;obtain⟨r',ev,h3,h4,h5,h6⟩:=hs.rt hk;rw[h2]at e;cases e;cases ev;exact⟨h3,h4,h5,h6.some⟩
 ·have hd:=ok.dd.kd j u r' h1 h2;obtain⟨q1,q2,q3⟩:=dE.fr hd r (O_.mpr h3);exact⟨q1,q2,.inl q3,dE.there hd r (O_.mpr h3)⟩
theorem Ok.mv(ok:Ok C c)(n:Ns c c'):Mv c.S c.H c'.S c'.H:=⟨n.sub,λa o h t=>n.keep a o h λz=>by
  obtain⟨_,_,_,o',h',nt⟩:=ok.root z;rw[h]at h';cases h';exact nt t,λa o s h=>n.keep a o h λz=>(ok.root z).1 s⟩
theorem Ok.GG(ok:Ok C c)(n:Ns c c'):Mv (PS C c.S) c.H (PS C c'.S) c'.H:=⟨λa h=>h.imp id (n.sub a),(ok.mv n).Jm,λa o s h=>n.keep a o h λz=>by
  rcases s with s|s
  ·exact(ok.root z).2.1 s
  ·exact(ok.root z).1 s⟩
theorem Ok.kM(ok:Ok C c)(h:c.H p=OQ):C.H₀ p=OQ/\¬c.S p/\¬C.Ep p/\¬C.IO p/\¬c.R p:=by
 have C7:¬C.IO p:=λz=>by obtain⟨_,o,q⟩:=ok.io p z;rw[h]at q;cases q
 have h0:C.H₀ p=OQ:=by
  cases e:C.H₀ p with
  |none=>rfl
  |some o=>have:=ok.same p o e C7;rw[h]at this;cases this
 refine⟨h0,λz=>?_,λz=>?_,C7,λz=>?_⟩
 ·obtain⟨_,o,q⟩:=ok.D0 p z;rw[h]at q;cases q
 ·obtain⟨⟨o,q⟩,_⟩:=ok.par p z;rw[h0]at q;cases q
 ·obtain⟨_,_,_,o,q,_⟩:=ok.root z;rw[h]at q;cases q
theorem dC.mv(m:Mv S H S' H')(mp:Mv (PS C S) H (PS C S') H')(hr:k.root=OP->∀r,v=.ref r->¬S' r/\∀o,H r=Od o->H' r=Od o)(h:dC C S H k u v):dC C S' H' k u v:=by
 cases k with
 |own =>
  obtain⟨r,e,h1,h2,h3,h4⟩:=h;obtain⟨q1,q2⟩:=hr rfl r e;exact⟨r,e,q1,h2,h3,h4.mv m q2⟩
 |io =>
  obtain⟨r,e,h1,h2,h3,h4⟩:=h;obtain⟨q1,q2⟩:=hr rfl r e;exact⟨r,e,q1,h2,h3,h4.mv m q2⟩
 |loc=>exact Rep.mv m h
 |any=>exact Rep.mv mp h
 |bor j=>exact h.elim
 |Ci=>exact h
structure Nx(c c':Cf):Prop extends Ns c c' where
instance {c c':Cf}:Coe (Nx c c') (Ns c c'):=⟨Nx.toNs⟩
theorem Nx.refl(c:Cf):Nx c c:=⟨.refl c⟩
theorem Nx.trans(m:Nx c c')(n:Nx c' EI):Nx c EI:=⟨m.toNs.trans n.toNs⟩
theorem Nx.none(n:Nx c c')(h:c'.H a=.none):c.H a=.none:=n.toNs.none h
theorem Ok.lay(ok:Ok C c)(h:c.H p=OQ):Ok C {c with H:=upd c.H p o}/\Nx c {c with H:=upd c.H p o}:=by
 have ne:∀{a:O8} {o':HO},c.H a=Od o'->a≠p:=λe z=>by subst z;rw[h]at e;cases e
 have kp:∀a o',c.H a=Od o'->(upd c.H p o) a=Od o':=λa o' e=>by rw[ao (ne e)];exact e
 have nx:Nx c {c with H:=upd c.H p o}:=⟨⟨λa o' e _=>kp a o' e,λa o' e=>⟨o',kp a o' e⟩,λa z=>.inl z,λ_ z=>z,λ_ z=>.inl z⟩⟩
 refine⟨⟨λa o' e z=>kp a o' (ok.same a o' e z),λa z=>⟨(ok.D0 a z).1,let ⟨o',q⟩:=(ok.D0 a z).2;⟨o',kp a o' q⟩⟩,ok.par,λa z=>⟨(ok.io a z).1,let ⟨o',q⟩:=(ok.io a z).2;⟨o',kp a o' q⟩⟩,ok.len,λi k u e=>?_,ok.inj,ok.dd.hs (ok.mv nx.toNs) λj a z=>⟨(ok.root (.inr ⟨j,z⟩)).1,λo' e=>kp a o' e⟩⟩,nx⟩;obtain⟨v,e1,e2⟩:=ok.sl i k u e;refine⟨v,e1,e2.mv (ok.mv nx.toNs) (ok.GG nx.toNs) λhk r er=>?_⟩;obtain⟨r',DS,q1,_⟩:=e2.rt hk;rw[er]at DS;cases DS;exact⟨q1,λo' e=>kp r o' e⟩
theorem Ok.grow(ok:Ok C c)(hs:yD c.H H')(hS:∀a,S' a->c.S a\/(c.H a=OQ/\∃o,H' a=Od o))(He:∀a,c.S a->S' a):Ok C {c with H:=H',S:=S' }/\Nx c {c with H:=H',S:=S' }:=by
 have nx:Nx c {c with H:=H',S:=S' }:=⟨⟨λa o' e _=>hs a o' e,λa o' e=>⟨o',hs a o' e⟩,λa z=>.inl z,He,λa z=>(hS a z).imp id λq=>.inr q.1⟩⟩
 refine⟨⟨λa o' e z=>hs a o' (ok.same a o' e z),λa z=>?_,ok.par,λa z=>⟨(ok.io a z).1,let ⟨o',q⟩:=(ok.io a z).2;⟨o',hs a o' q⟩⟩,ok.len,λi k u e=>?_,ok.inj,ok.dd.hs (ok.mv nx.toNs) λj a z=>⟨λz'=>?_,λo' e=>hs a o' e⟩⟩,nx⟩
 rotate_left 2
 ·obtain⟨q1,_,_,o,q4,_⟩:=ok.root (.inr ⟨j,z⟩);rcases hS a z' with z'|⟨z',_⟩
  ·exact q1 z'
  ·rw[q4]at z';cases z'
 ·rcases hS a z with q|⟨q1,q2⟩
  ·exact⟨(ok.D0 a q).1,let ⟨o',q⟩:=(ok.D0 a q).2;⟨o',hs a o' q⟩⟩
  ·exact⟨(ok.kM q1).1,q2⟩
 ·obtain⟨v,e1,e2⟩:=ok.sl i k u e;refine⟨v,e1,e2.mv (ok.mv nx.toNs) (ok.GG nx.toNs) λhk r er=>?_⟩;obtain⟨r',DS,q1,q2,q3,q4⟩:=e2.rt hk;rw[er]at DS;cases DS;obtain⟨o,ho,_⟩:=q4.some;refine⟨λz=>?_,λo' e=>hs r o' e⟩;rcases hS r z with z|⟨z,_⟩
  ·exact q1 z
  ·rw[z]at ho;cases ho
def aC(C:Ct)(c0 c:Cf):Kd->U->V->Prop
 |.own,u,v=>∃r,v=.ref r/\c0.H r=OQ/\¬c.S r/\¬c.R r/\bW C c.S c.H r u
 |.loc,u,v=>Rep C c.S c.H u v
 |.any,u,v=>Rep C (PS C c.S) c.H u v
 |.bor j,u,v=>(∃k:Kd,k.root=OP/\c.st[j]?=Od (Od (k,u)))/\c.σ[j]?=Od (Od v)
 |.io,_,_=>False
 |.Ci,_,_=>False
def dF(C:Ct)(c0 c:Cf):Kd->U->V->Prop
 |.own,u,v=>∃r,v=.ref r/\c0.H r=OQ/\¬c.S r/\¬c.R r/\bW C c.S c.H r u
 |.loc,u,v=>Rep C c.S c.H u v
 |.any,u,v=>Rep C (PS C c.S) c.H u v
 |.bor j,u,v=>c.σ[j]?=Od (Od v)
 |.io,_,_=>False
 |.Ci,_,_=>False
theorem aC.w(h:aC C c0 c k u v):dF C c0 c k u v:=by
 cases k with
 |bor j=>exact h.2
 |_=>exact h
theorem dF.LF(ok:Ok C c)(n:Ns c c')(hσ:∀j,k=.bor j->c'.σ[j]?=c.σ[j]?)(h:dF C c0 c k u v):dF C c0 c' k u v:=by
 cases k with
 |own =>
  obtain⟨r,e,h1,h2,h3,h4⟩:=h;obtain⟨o,ho,_⟩:=h4.some;refine⟨r,e,h1,λz=>?_,λz=>?_,h4.mv (ok.mv n) λo q=>n.keep r o q h3⟩
  ·rcases n.new r z with z|z|z
   ·exact h2 z
   ·exact h3 z
   ·rw[z]at ho;cases ho
  ·rcases n.roots r z with z|z
   ·exact h3 z
   ·rw[z]at ho;cases ho
 |loc=>exact Rep.mv (ok.mv n) h
 |any=>exact Rep.mv (ok.GG n) h
 |bor j=>show c'.σ[j]?=_;rw[hσ j rfl];exact h
 |_=>exact h
theorem dF.on(ok:Ok C c)(n:Ns c c')(hσ:c'.σ=c.σ)(h:dF C c0 c k u v):dF C c0 c' k u v:=h.LF ok n λj _=>by rw[hσ]
theorem dF.from(n:Ns c0 c1)(h:dF C c1 c k u v):dF C c0 c k u v:=by
 cases k with
 |own=>obtain⟨r,e,h1,h2⟩:=h;exact⟨r,e,n.none h1,h2⟩
 |_=>exact h
theorem aC.from(n:Ns c0 c1)(h:aC C c1 c k u v):aC C c0 c k u v:=by
 cases k with
 |own=>obtain⟨r,e,h1,h2⟩:=h;exact⟨r,e,n.none h1,h2⟩
 |_=>exact h
def SK(C:Ct)(c:Cf):Kd->O8->Prop
 |.any=>PS C c.S
 |_=>c.S
def kE:Kd->Kd
 |.any=>.any
 |_=>.loc
theorem Ok.rootOf(ok:Ok C c){j:Nat}(h:∃k:Kd,k.root=OP/\c.st[j]?=Od (Od (k,u)))(e:c.σ[j]?=Od (Od v)):∃r,v=.ref r/\¬c.S r/\¬C.Ep r/\(C.H₀ r=OQ\/C.IO r)/\bW C c.S c.H r u:=by
 obtain⟨k,hk,h⟩:=h;obtain⟨v',e1,e2⟩:=ok.sl j _ _ h;rw[e]at e1;cases e1;exact e2.rt hk
theorem aC.list(ok:Ok C c)(h:aC C c0 c k (.lst us) v):∃a vs,v=.ref a/\CF C.K c.H a vs/\ai C (SK C c k) c.H us vs:=by
 cases k with
 |own=>obtain⟨r,e,_,_,_,vs,h1,h2⟩:=h;exact⟨r,vs,e,CF.of h1,h2⟩
 |bor j=>obtain⟨r,e,_,_,_,vs,h1,h2⟩:=ok.rootOf h.1 h.2;exact⟨r,vs,e,CF.of h1,h2⟩
 |io=>exact h.elim
 |Ci=>exact h.elim
 |_=>obtain⟨a,vs,e,h1,h2⟩:=h;exact⟨a,vs,e,h1.sq,h2⟩
theorem aC.tuple(ok:Ok C c)(h:aC C c0 c k (.tup us) v):∃a vs,v=.ref a/\CB C.K c.H a vs/\ai C (SK C c k) c.H us vs:=by
 cases k with
 |own=>obtain⟨r,e,_,_,_,h⟩:=h;exact h.elim
 |bor j=>obtain⟨r,e,_,_,_,h⟩:=ok.rootOf h.1 h.2;exact h.elim
 |io=>exact h.elim
 |Ci=>exact h.elim
 |_=>obtain⟨a,vs,e,h1,h2⟩:=h;exact⟨a,vs,e,h1,h2⟩
theorem aC.flat(ok:Ok C c)(hu:CI u=OP)(h:aC C c0 c k u v):Rep C c.S c.H u v:=by
 cases k with
 |own=>obtain⟨r,e,_,_,_,h⟩:=h;cases u<;>simp[CI]at hu<;>exact h.elim
 |loc=>exact h
 |any=>exact Rep.CI hu h
 |bor j=>obtain⟨r,e,_,_,_,h⟩:=ok.rootOf h.1 h.2;cases u<;>simp[CI]at hu<;>exact h.elim
 |_=>exact h.elim
theorem aC.int(ok:Ok C c)(h:aC C c0 c k (.int i) v):v=.int i:=h.flat ok rfl
theorem aC.str(ok:Ok C c)(h:aC C c0 c k (.str x) v):v=.str x:=h.flat ok rfl
theorem aC.bl(ok:Ok C c)(h:aC C c0 c k (.bl b) v):v=.bl b:=h.flat ok rfl
theorem aC.Ce(ok:Ok C c)(h:aC C c0 c k .Ce v):v=.Ce:=h.flat ok rfl
theorem aC.item(h:Rep C (SK C c k) c.H u v):aC C c0 c (kE k) u v:=by
 cases k<;>exact h
def D3(H:Hp):O8->Prop:=λa=>∃o,H a=Od o
theorem Ok.sU(ok:Ok C c):∀a,c.S a->D3 c.H a:=λa h=>(ok.D0 a h).2
theorem Ok.AE(ok:Ok C c):∀a,PS C c.S a->D3 c.H a:=λa h=>by
 rcases h with h|h
 ·obtain⟨⟨o,e⟩,n⟩:=ok.par a h;exact⟨o,ok.same a o e n⟩
 ·exact ok.sU a h
theorem aC.read(ok:Ok C c)(h:aC C c0 c k u v):Rep C (D3 c.H) c.H u v:=by
 cases k with
 |own =>
  obtain⟨r,e,_,_,_,h4⟩:=h;rw[e];obtain⟨o,ho,_⟩:=h4.some;exact h4.rep ok.sU ⟨o,ho⟩
 |loc=>exact Rep.mv (.up ok.sU) h
 |any=>exact Rep.mv (.up ok.AE) h
 |bor j =>
  obtain⟨r,e,_,_,_,h4⟩:=ok.rootOf h.1 h.2;rw[e];obtain⟨o,ho,_⟩:=h4.some;exact h4.rep ok.sU ⟨o,ho⟩
 |_=>exact h.elim
theorem Ok.newList(ok:Ok C c)(n:Nx c0 c)(h:c.H p=OQ)(hr:ai C c.S c.H us vs):
  Ok C {c with H:=upd c.H p (.lst vs)}/\Nx c0 {c with H:=upd c.H p (.lst vs)}/\aC C c0 {c with H:=upd c.H p (.lst vs)} .own (.lst us) (.ref p):=by
 obtain⟨Cy,n'⟩:=ok.lay (o:=.lst vs) h;obtain⟨h0,h1,h2,h3,h4⟩:=ok.kM h;exact⟨Cy,n.trans n',p,rfl,n.none h,h1,h4,vs,au,hr.mv (ok.mv n'.toNs)⟩
theorem Ok.yP(ok:Ok C c)(n:Nx c0 c)(h:c.H p=OQ)(hr:ai C c.S c.H us vs):
  Ok C {c with H:=upd c.H p (.tup vs)}/\Nx c0 {c with H:=upd c.H p (.tup vs)}/\aC C c0 {c with H:=upd c.H p (.tup vs)} .loc (.tup us) (.ref p):=by
 obtain⟨Cy,n'⟩:=ok.lay (o:=.tup vs) h;exact⟨Cy,n.trans n',p,vs,rfl,CB.of au,hr.mv (ok.mv n'.toNs)⟩
end
inductive Ex(α:Type) where|ok (a:α)|exc (c:Str)
def M(α:Type):=ax->Option (Ex α×ax)
namespace M
def pure(a:α):M α:=λst=>Od (.ok a,st)
def fail:M α:=λ_=>OQ
def bind(m:M α)(f:α->M β):M β:=λst=>match m st with
 |none=>OQ
 |some (.ok a,st')=>f a st'
 |some (.exc c,st')=>Od (.exc c,st')
def Cu(o:Option α):M α:=λst=>match o with
 |none=>OQ
 |some a=>Od (.ok a,st)
end M
instance:Monad M:={pure:=M.pure,bind:=M.bind}
def W{α:Type}(m:M α)(st:ax)(Q:α->ax->Prop):Prop:=∃a st',m st=Od (.ok a,st')/\Q a st'
section
theorem aj:W (pure a) st Q↔Q a st:=by
 constructor
 ·rintro⟨b,st',e,h⟩;cases e;exact h
 ·intro h;exact⟨a,st,rfl,h⟩
theorem ae:W (m >>= f) st Q↔W m st λa st'=>W (f a) st' Q:=by
 constructor
 ·rintro⟨b,st',e,h⟩;have e':M.bind m f st=Od (.ok b,st'):=e;unfold M.bind at e';cases q:m st with
  |none=>rw[q]at e';cases e'
  |some r =>
   obtain⟨r,s1⟩:=r;rw[q]at e';cases r with
   |ok a=>exact⟨a,s1,q,b,st',e',h⟩
   |exc c=>cases e'
 ·rintro⟨a,s1,q,b,st',e,h⟩;refine⟨b,st',?_,h⟩;show M.bind m f st=_;unfold M.bind;rw[q];exact e
theorem bC:W (M.Cu o) st Q↔∃a,o=Od a/\Q a st:=by
 cases o with
 |none=>exact⟨λ⟨_,_,e,_⟩=>(by cases e),λ⟨_,e,_⟩=>(by cases e)⟩
 |some a=>exact⟨λ⟨_,_,e,h⟩=>(by cases e;exact⟨a,rfl,h⟩),λ⟨_,e,h⟩=>(by cases e;exact⟨a,st,rfl,h⟩)⟩
theorem aq:W (M.fail:M α) st Q↔False:=⟨λ⟨_,_,e,_⟩=>(by cases e),Ri⟩
theorem W.mono(h:W m st Q)(i:∀a s,Q a s->Q' a s):W m st Q':=let ⟨a,s,e,q⟩:=h;⟨a,s,e,i a s q⟩
end
inductive Jo where|add|sub|mul|Fi|mod|pow
deriving DecidableEq
inductive Ie where|eq|ne|lt|le|gt|ge|isin|CA|is|GH
deriving DecidableEq
inductive Bf where|len|sorted|list|tuple|str|int|repr|max|min|all|any
 |sum
deriving DecidableEq
inductive B2 where|EB|DJ|sset|gP
deriving DecidableEq
inductive Mf where|split|join|partition|endswith
deriving DecidableEq
inductive DT where|str|list|tuple|int|bool
deriving DecidableEq
inductive Ik where|seq|CV|Nu|Hi|zip|rev
 |Ig
deriving DecidableEq
inductive E where
 |var (i:Nat)
 |cst (u:U)
 |Jp (x:Str) (u:U)
 |bin (op:Jo) (a b:E)
 |cmp (op:Ie) (a b:E)
 |Ea (o1 o2:Ie) (a b c:E)
 |and (es:List E)|or (es:List E)|not (a:E)
 |ite (c a b:E)
 |tup (es:List E)|lst (es:List E)|Du (r:Bool)
 |idx (a b:E)
 |EC (a:E) (lo hi:List E)
 |bi (f:Bf) (es:List E)
 |FF (f:B2) (es:List E)
 |Fj (m:Mf) (a:E) (es:List E)
 |call (f:Str) (es:List E)
 |comp (k:Nat) (t:Bool) (ik:Ik) (src:List E) (cond:List E) (e:E)
 |neg (a:E)|bad|Er (a:E) (T:DT)|fst (es:List E)|inD (neg:Bool) (a:E) (i:Nat)|Jq (i:Nat)|FG (i:Nat) (k d:E)|Jr (i:Nat)|Js (ln:Bool) (a b:E)
 |B' (f:Str) (es:List E) (is:List Nat)
 |pop (i:Nat)|DU (i:Nat) (e:E)
inductive S where
 |set (i:Nat) (e:E)
 |FH (is:List Nat) (e:E)
 |put (i:Nat) (k v:E)
 |app (i:Nat) (e:E)|ext (i:Nat) (e:E)|bad|newD (i:Nat)|putD (i:Nat) (k v:E)|FI (i:Nat) (k v:E)|aug (sub:Bool) (i:Nat) (k v:E)|Jt (i:Nat)
 |exp (e:E)
 |ret (e:E)|Eb
 |ite (c:E) (a b:List S)
 |Cw (t:Bool) (is:List Nat) (ik:Ik) (src:List E) (body:List S)
 |EZ (c:E) (body:List S)
 |brk|cnt|Ju
 |DK (is:List Nat)
 |Jv (i:Nat)
def isAny:Kd->Bool
 |.any=>OP
 |_=>OR
def fF(k:Kd)(xs:List U):Bool:=!isAny k||bJ xs
def kT(k k':Kd):Kd:=if isAny k||isAny k' then .any else .loc
def cut{α:Type}(xs:List α)(lo hi:Option Int):List α:=(xs.drop (HT.Cn xs.length 0 lo)).take (HT.Cn xs.length xs.length hi - HT.Cn xs.length 0 lo)
def vV:Kd×U->Kd×U->Option (Kd×U)
 |(_,.int i),(_,.int j)=>Od (.loc,.int (i+j))
 |(_,.str x),(_,.str y)=>if x.length+y.length<=OV then Od (.loc,.str (x++y)) else OQ
 |(k,.lst xs),(k',.lst ys)=>if xs.length+ys.length<=OV/\fF k xs=OP/\fF k' ys=OP then Od (.own,.lst (xs++ys)) else OQ
 |(k,.tup xs),(k',.tup ys)=>if xs.length+ys.length<=OV then Od (kT k k',.tup (xs++ys)) else OQ
 |_,_=>OQ
def nM(f:Int->Int->Option Int):U->U->Option (Kd×U)
 |.int i,.int j=>(f i j).map λn=>(.loc,.int n)
 |_,_=>OQ
def vW(i j:Int):Option Int:=if ((-(2 ^ 64)<i/\i<2 ^ 64)\/(-(2 ^ 64)<j/\j<2 ^ 64)) then Od (i * j) else OQ
def vX(i j:Int):Option Int:=if 0<j/\j<1073741824 then Od (i / j) else OQ
def vY(i j:Int):Option Int:=if 0<j then Od (i % j) else OQ
def vZ(i j:Int):Option Int:=if 0<=j/\j<=1000000/\i.natAbs<2 ^ 64 then Od (i ^ j.toNat) else OQ
def E1(op:Jo)(x y:Kd×U):Option (Kd×U):=match op with
 |.add=>vV x y
 |.sub=>nM (λi j=>Od (i - j)) x.2 y.2
 |.mul=>nM vW x.2 y.2
 |.Fi=>nM vX x.2 y.2
 |.mod=>nM vY x.2 y.2
 |.pow=>nM vZ x.2 y.2
mutual
def Dg:Nat->U->Bool
 |_,.CU _ _=>OR
 |_,.Dt _=>OR
 |0,.tup _=>OR
 |0,.lst _=>OR
 |n+1,.tup xs=>fG n xs
 |n+1,.lst xs=>fG n xs
 |_,.Ce=>OP|_,.bl _=>OP|_,.int _=>OP|_,.str _=>OP
def fG:Nat->List U->Bool
 |_,[]=>OP
 |n,u::us=>Dg n u&&fG n us
end
mutual
def bw:U->U->Bool
 |.Ce,.Ce=>OP
 |.bl a,.bl b=>a==b
 |.bl a,.int b=>(if a then 1 else 0)==b
 |.int a,.bl b=>a==(if b then 1 else 0)
 |.int a,.int b=>a==b
 |.str a,.str b=>a==b
 |.tup xs,.tup ys=>bL xs ys
 |.lst xs,.lst ys=>bL xs ys
 |_,_=>OR
def bL:List U->List U->Bool
 |[],[]=>OP
 |u::us,w::ws=>bw u w&&bL us ws
 |_,_=>OR
end
def GI(x:U)(ys:List U):Option Bool:=if Dg 50 x=OP/\fG 50 ys=OP then Od (ys.any λy=>bw y x) else OQ
def strsOf:List U->Option (List Str)
 |[]=>Od []
 |.str x::us=>(strsOf us).map (x::·)
 |_::_=>OQ
def rowOf:U->Option lM
 |.tup [.str x,.tup ys]=>(strsOf ys).map λss=>(x,ss)
 |_=>OQ
def v3:U->U->Option Bool
 |x,.lst ys=>GI x ys
 |x,.tup ys=>GI x ys
 |.str x,.CU ks _=>Od (OX (x∈ks))
 |x,.Dt ks=>(rowOf x).map λr=>OX (r∈ks)
 |_,_=>OQ
def fH:List Str->List U->Str->Option U
 |y::ks,u::us,x=>if y=x then Od u else fH ks us x
 |_,_,_=>OQ
def dput(ks:List Str)(us:List U)(x:Str)(u:U):List Str×List U :=
 if x∈ks then(ks,(ks.zip us).map λp=>if p.1=x then u else p.2) else(ks++[x],us++[u])
def jF:U->Bool
 |.Ce=>OP
 |_=>OR
def bg:Ie->U->U->Option Bool
 |.eq,a,b=>if Dg 50 a=OP/\Dg 50 b=OP then Od (bw a b) else OQ
 |.ne,a,b=>if Dg 50 a=OP/\Dg 50 b=OP then Od (!bw a b) else OQ
 |.lt,.int i,.int j=>Od (OX (i<j))
 |.le,.int i,.int j=>Od (OX (i<=j))
 |.gt,.int i,.int j=>Od (OX (j<i))
 |.ge,.int i,.int j=>Od (OX (j<=i))
 |.isin,x,y=>v3 x y
 |.CA,x,y=>(v3 x y).map (!·)
 |.is,x,.Ce=>Od (jF x)
 |.GH,x,.Ce=>Od (!jF x)
 |.is,.bl x,.bl y=>Od (x==y)
 |.GH,.bl x,.bl y=>Od (!(x==y))
 |_,_,_=>OQ
def iI:List U->Option (List Bool)
 |[]=>Od []
 |.bl x::us=>(iI us).map (x::·)
 |_::_=>OQ
def dm:Kd×U->U->Option (Kd×U)
 |(k,.lst xs),.int i=>(C4 xs i).map λu=>(kE k,u)
 |(k,.tup xs),.int i=>(C4 xs i).map λu=>(kE k,u)
 |(_,.str x),.int i=>if x.length<=OV then(C4 x.cps.toList i).map λc=>(.loc,.str ⟨#[c]⟩) else OQ
 |(k,.CU ks us),.str x=>(fH ks us x).map λu=>(kE k,u)
 |_,_=>OQ
def l_:Kd×U->Option Int->Option Int->Option (Kd×U)
 |(k,.lst xs),lo,hi=>if fF k xs=OP then Od (.own,.lst (cut xs lo hi)) else OQ
 |(k,.tup xs),lo,hi=>Od (kE k,.tup (cut xs lo hi))
 |(_,.str x),lo,hi=>if x.length<=OV then Od (.loc,.str (PySem.StrLaws.sliceText x lo hi)) else OQ
 |_,_,_=>OQ
def yQ:U->Option Nat
 |.lst xs=>Od xs.length
 |.tup xs=>Od xs.length
 |.str x=>if x.length<=OV then Od x.length else OQ
 |_=>OQ
def dn{β:Type}(f:Kd×U->Option β):List (Kd×U)->Option β
 |[x]=>f x
 |_=>OQ
def intsOf:List U->Option (List Int)
 |[]=>Od []
 |.int x::us=>(intsOf us).map (x::·)
 |_::_=>OQ
def jG:List U->Option (List Str)
 |[]=>Od []
 |.tup [.str x,.int _]::us=>(jG us).map (x::·)
 |_::_=>OQ
def v5(k:Kd)(xs:List U):Option (Kd×U):=(jG xs).bind λks=>if ks.length<64/\ks.Nodup/\fF k xs=OP then Od (.own,.lst ((ef ks).map λi=>xs.getD i .Ce)) else OQ
def v7(k:Kd)(xs:List U):Option (Kd×U):=match strsOf xs with
 |some ss=>if ss.length<64 then Od (.own,.lst ((aH ss).map .str)) else OQ
 |none=>v5 k xs
def yR:Kd×U->Option (Kd×U)
 |(k,.lst xs)=>v7 k xs
 |(_,.CU ks _)=>if ks.length<64 then Od (.own,.lst ((aH ks).map .str)) else OQ
 |(_,.tup xs)=>(strsOf xs).bind λss=>if ss.length<64 then Od (.own,.lst ((aH ss).map .str)) else OQ
 |_=>OQ
def yS:Kd×U->Option (Kd×U)
 |(k,.lst xs)=>if fF k xs=OP then Od (.own,.lst xs) else OQ
 |(k,.tup xs)=>if fF k xs=OP then Od (.own,.lst xs) else OQ
 |_=>OQ
def yT:Kd×U->Option (Kd×U)
 |(k,.lst xs)=>Od (kE k,.tup xs)
 |(k,.tup xs)=>Od (kE k,.tup xs)
 |_=>OQ
def v8:Kd×U->Option (Kd×U)
 |(_,.int i)=>if i.natAbs.log2<1920 then Od (.loc,.str (Xn i)) else OQ
 |_=>OQ
def yU:Kd×U->Option (Kd×U)
 |(_,.lst xs)=>(iI xs).map λbs=>(.loc,.bl (bs.all id))
 |_=>OQ
def yV:Kd×U->Option (Kd×U)
 |(_,.lst xs)=>(intsOf xs).map λns=>(.loc,.int ns.sum)
 |_=>OQ
def DO(f:Bf)(rs:List (Kd×U)):Option (Kd×U):=match f with
 |.len=>dn (λx=>(yQ x.2).map λ(n:Nat)=>(Kd.loc,U.int (n:Int))) rs
 |.sorted=>dn yR rs
 |.list=>dn yS rs
 |.tuple=>dn yT rs
 |.str=>dn v8 rs
 |.all=>dn yU rs
 |.sum=>dn yV rs
 |_=>OQ
def qX:U->Option (List Str)
 |.lst xs=>(strsOf xs).bind λss=>if ss.length+1<Q4 then Od (bq ss) else OQ
 |.tup xs=>(strsOf xs).bind λss=>if ss.length+1<Q4 then Od (bq ss) else OQ
 |_=>OQ
def yW:Kd×U->Option (Kd×U)
 |(k,.lst xs)=>Od (kE k,.tup xs.reverse)
 |_=>OQ
def yX:Kd×U->Option (Kd×U)
 |(k,.lst xs)=>if fF k xs=OP then Od (.own,.lst xs.reverse) else OQ
 |_=>OQ
def nN(f:B2)(rs:List (Kd×U)):Option (Kd×U):=match f with
 |.EB=>dn yW rs
 |.DJ=>dn yX rs
 |.sset=>dn (λx=>(qX x.2).bind λss=>if ss.length<64 then Od (.own,.lst ((aH ss).map .str)) else OQ) rs
 |.gP=>dn (λx=>(qX x.2).map λss=>(.loc,.int ss.length)) rs
def iJ:Mf->U->List (Kd×U)->Option (Kd×U)
 |.split,.str a,[(_,.str b)]=>if (b.length==0)=OR/\a.length+2<=OV then Od (.own,.lst ((U2 a b).map .str)) else OQ
 |.join,.str a,[(_,.lst xs)]=>(strsOf xs).bind λss=>if Wz a ss=OP then Od (.loc,.str (Tc a ss)) else OQ
 |_,_,_=>OQ
def B6:Kd×U->Option (List (Kd×U))
 |(k,.lst xs)=>Od (xs.map λu=>(kE k,u))
 |(k,.tup xs)=>Od (xs.map λu=>(kE k,u))
 |_=>OQ
def sV:Kd×U->Option (List (Kd×U))
 |(_,.int n)=>if n<2 ^ 62/\-(2 ^ 62)<n then Od ((Pl n.toNat).map λi:Nat=>(Kd.loc,U.int (0+(i:Int)))) else OQ
 |_=>OQ
def yY:Kd×U->Option (List (Kd×U))
 |(k,.lst xs)=>Od (xs.zipIdx.map λp=>(kE k,.tup [.int p.2,p.1]))
 |(k,.tup xs)=>Od (xs.zipIdx.map λp=>(kE k,.tup [.int p.2,p.1]))
 |_=>OQ
def nO(d:List Str×List U):List (Kd×U):=(d.1.zip d.2).map λp=>(Kd.loc,U.tup [.str p.1,p.2])
def yZ:Kd×U->Option (List (Kd×U))
 |(.own,.CU ks us)=>Od (nO (ks,us))
 |_=>OQ
def DV(ik:Ik)(rs:List (Kd×U)):Option (List (Kd×U)):=match ik with
 |.seq=>dn B6 rs
 |.CV=>dn sV rs
 |.Hi=>dn yY rs
 |.Ig=>dn yZ rs
 |_=>OQ
def jo:U->Option Bool
 |.bl b=>Od b
 |.lst xs=>Od !xs.isEmpty
 |.tup xs=>Od !xs.isEmpty
 |.str x=>if x.length<=OV then Od ((x.length:Int) != 0) else OQ
 |_=>OQ
def lift:Kd×U->M U
 |(.own,u)=>pure u
 |(.loc,u)=>pure u
 |(.any,u)=>if CI u=OP then pure u else M.fail
 |(.bor j,_)=>λst=>match st[j]? with
  |some (Od (.own,u))=>Od (.ok u,st.set j (Od (.loc,u)))
  |_=>OQ
 |(.io,_)=>M.fail
 |(.Ci,_)=>M.fail
def cp:List (Kd×U)->M (List U)
 |[]=>pure []
 |r::rs=>do let u <-lift r;let us <-cp rs;pure (u::us)
def dq(i:Nat):Kd×U->M Unit
 |(.bor j,_)=>λst=>match st[j]? with
  |some (Od (.own,u))=>Od (.ok (),(st.set j (Od (.loc,u))).set i (Od (.loc,u)))
  |_=>OQ
 |(.io,_)=>M.fail
 |(.Ci,_)=>M.fail
 |(k,u)=>λst=>Od (.ok (),st.set i (Od (k,u)))
def aU:List (Kd×U)->ax->Prop
 |[],_=>True
 |(.bor j,u)::rs,st=>(∃k:Kd,k.root=OP/\st[j]?=Od (Od (k,u)))/\aU rs st
 |_::rs,st=>aU rs st
open Classical in
noncomputable def ar(rs:List (Kd×U)):M Unit:=λst=>if aU rs st then Od (.ok (),st) else OQ
abbrev Tab:=Str->List U->Option (Ex (Kd×U))
def iK(Γ:Tab)(f:Str)(us:List U):M (Kd×U):=λst=>match Γ f us with
 |some (.ok (.any,_))=>OQ
 |none=>OQ
 |some r=>Od (r,st)
def eW(rs:List (Kd×U))(p:Nat):Option Nat:=match rs[p]? with
 |some (.bor j,.lst us)=>if bJ us=OP then Od j else OQ
 |_=>OQ
def sW(js:List (Option Nat)):Kd×U->Bool
 |(.bor j,_)=>OX (Od j∉js)
 |_=>OP
def mf(rs:List (Kd×U))(is:List Nat):Bool:=is.all (λp=>(eW rs p).isSome)&&OX ((is.map (eW rs)).Nodup)&&(Pl rs.length).all λq=>OX (q∈is)||sW (is.map (eW rs)) (rs.getD q (.loc,.Ce))
def eG(rs:List (Kd×U)):List Nat->List U->ax->Option ax
 |[],[],st=>Od st
 |p::is,w::ws,st=>match eW rs p with
  |some j=>match w,st[j]? with
   |.lst us,Od (Od (k,_))=>eG rs is ws (st.set j (Od (k,.lst us)))
   |_,_=>OQ
  |none=>OQ
 |_,_,_=>OQ
def Ku:Kd×U->Option (Kd×U×List U)
 |(.own,.tup (u::ws))=>Od (.own,u,ws)
 |(.loc,.tup (u::ws))=>Od (.loc,u,ws)
 |_=>OQ
def cH(st:ax):Kd×U->Kd×U
 |(.bor j,u)=>(.bor j,match st[j]? with|some (Od (k,u'))=>if k.root=OP then u' else u|_=>u)
 |r=>r
def v9(rs:List (Kd×U)):M (List (Kd×U)):=λst=>Od (.ok (rs.map (cH st)),st)
def mi(Γ:Tab)(f:Str)(rs:List (Kd×U))(is:List Nat):M (Kd×U):=λst=>match Γ f (rs.map (·.2)) with
 |some (.ok r)=>match Ku r with
  |some (k,u,ws)=>if mf rs is=OP then(match eG rs is ws st with|some st'=>Od (.ok (k,u),st')|none=>OQ) else OQ
  |none=>OQ
 |_=>OQ
def sX(i:Nat):M (Kd×U):=λst=>match st[i]? with
 |some (Od (k,.lst us))=>if k.root=OP then(match us[us.length - 1]? with|some u=>Od (.ok (.loc,u),st.set i (Od (k,.lst us.dropLast)))|none=>OQ) else OQ
 |_=>OQ
def qY(i:Nat):U->M (Kd×U)
 |.int j=>λst=>match st[i]? with
  |some (Od (k,.lst us))=>if k.root=OP/\0<=j/\j<1000000 then(match us[j.toNat]? with|some u=>Od (.ok (.loc,u),st.set i (Od (k,.lst (us.eraseIdx j.toNat))))|none=>OQ) else OQ
  |_=>OQ
 |_=>M.fail
def dG(i:Nat):M (Kd×U):=λst=>match st[i]? with
 |some (Od (.Ci,_))=>OQ
 |some (Od (k,u))=>Od (.ok (if k.root=OP then .bor i else k,u),st)
 |_=>OQ
def sets:List Nat->List (Kd×U)->M Unit
 |[],[]=>pure ()
 |i::is,r::rs=>do dq i r;sets is rs
 |_,_=>M.fail
def cU(t:Bool)(is:List Nat)(r:Kd×U):M Unit:=match t,is,r with
 |false,[i],r=>dq i r
 |true,is,(k,.tup xs)=>sets is (xs.map λu=>(kE k,u))
 |_,_,_=>M.fail
def inScope{α:Type}(k:Nat)(m:M α):M α:=λst=>match m (Pc k OQ++st) with
 |none=>OQ
 |some (r,st')=>Od (r,st'.drop k)
noncomputable def bA(k:Nat)(t:Bool)(cond:M Bool)(elt:M (Kd×U))(src:List (Kd×U)):List (Kd×U)->List U->M (List U)
 |[],acc=>do ar src;pure acc
 |x::xs,acc=>do
  ar src
  let r <-inScope k (cU t (Pl k) x >>= λ_=>cond >>= λb=>if b=OP then(elt >>= λr=>lift r >>= λu=>pure (Od u)) else pure OQ)
  match r with
  |some u=>if acc.length<OV then bA k t cond elt src xs (acc++[u]) else M.fail
  |none=>bA k t cond elt src xs acc
def mj:U->DT->Option Bool
 |.str _,T=>Od (OX (T=.str))
 |.int _,T=>Od (OX (T=.int))
 |.bl _,.bool=>Od OP
 |.bl _,.int=>Od OP
 |.lst _,T=>Od (OX (T=.list))
 |.tup _,T=>Od (OX (T=.tuple))
 |_,_=>OQ
def B7:Kd×U->Option (Kd×U)
 |(_,.int i)=>Od (.loc,.int (-i))
 |_=>OQ
def y0(x:Kd×U):M (Option Int):=match x.2 with
 |.int i=>pure (Od i)
 |_=>M.fail
def FJ:U->M Unit
 |.lst _=>pure ()
 |_=>M.fail
section
variable(Γ:Tab)
mutual
noncomputable def ev:E->M (Kd×U)
 |.var i=>dG i
 |.cst u=>pure (.loc,u)
 |.Jp _ u=>pure (.loc,u)
 |.bin op a b=>do
  let x <-ev a
  let y <-ev b
  ar [x,y]
  M.Cu (E1 op x y)
 |.cmp op a b=>do
  let x <-ev a
  let y <-ev b
  ar [x,y]
  let c <-M.Cu (bg op x.2 y.2)
  pure (.loc,.bl c)
 |.Ea o1 o2 a b c=>do
  let x <-ev a
  let y <-ev b
  ar [x,y]
  let p <-M.Cu (bg o1 x.2 y.2)
  if p=OP then do
   let z <-ev c
   ar [y,z]
   let q <-M.Cu (bg o2 y.2 z.2)
   pure (.loc,.bl q)
  else pure (.loc,.bl OR)
 |.and es=>fI es
 |.or es=>y6 es
 |.not a=>do
  let x <-ev a
  match x.2 with
  |.bl c=>pure (.loc,.bl !c)
  |_=>M.fail
 |.ite c a b=>do
  let p <-Cv c
  if p=OP then ev a else ev b
 |.tup es=>do
  let rs <-a9 es
  ar rs
  let us <-cp rs
  if us.length<=OV then pure (.loc,.tup us) else M.fail
 |.lst es=>do
  let rs <-a9 es
  ar rs
  let us <-cp rs
  if us.length<=OV then pure (.own,.lst us) else M.fail
 |.Du r=>pure (.own,if r=OP then .Dt [] else .CU [] [])
 |.idx a b=>do
  let x <-ev a
  let y <-ev b
  ar [x,y]
  M.Cu (dm x y.2)
 |.EC a lo hi=>do
  let x <-ev a
  let l <-GJ lo
  let h <-GJ hi
  ar [x]
  M.Cu (l_ x l h)
 |.bi f es=>do
  let rs <-a9 es
  ar rs
  M.Cu (DO f rs)
 |.FF f es=>do
  let rs <-a9 es
  ar rs
  M.Cu (nN f rs)
 |.Fj m a es=>do
  let x <-ev a
  let rs <-a9 es
  ar (x::rs)
  M.Cu (iJ m x.2 rs)
 |.call f es=>do
  let rs <-a9 es
  ar rs
  iK Γ f (rs.map (·.2))
 |.comp k t ik src cond e=>do
  let rs <-a9 src
  ar rs
  let xs <-M.Cu (DV ik rs)
  let us <-bA k t (aP cond) (ev e) rs xs []
  pure (.own,.lst us)
 |.neg a=>do
  let x <-ev a
  M.Cu (B7 x)
 |.bad=>M.fail
 |.Jr _=>M.fail
 |.inD _ _ _=>M.fail
 |.Jq _=>M.fail
 |.FG _ _ _=>M.fail
 |.B' f es is=>do
  let rs <-(a9 es >>= v9)
  ar rs
  mi Γ f rs is
 |.pop i=>sX i
 |.DU i e=>do
  let x <-dG i
  FJ x.2
  let y <-ev e
  qY i y.2
 |.Js _ _ _=>M.fail
 |.fst es=>M.fail
 |.Er a T=>do
  let x <-ev a
  let b <-M.Cu (mj x.2 T)
  pure (.loc,.bl b)
noncomputable def a9:List E->M (List (Kd×U))
 |[]=>pure []
 |e::es=>do let r <-ev e;let rs <-a9 es;pure (r::rs)
noncomputable def GJ:List E->M (Option Int)
 |[]=>pure OQ
 |[e]=>do let x <-ev e;y0 x
 |_=>M.fail
noncomputable def fI:List E->M (Kd×U)
 |[]=>M.fail
 |[e]=>ev e
 |e::es=>do
  let x <-ev e
  match x.2 with
  |.bl OP=>fI es
  |.bl OR=>pure (.loc,.bl OR)
  |_=>M.fail
noncomputable def y6:List E->M (Kd×U)
 |[]=>M.fail
 |[e]=>ev e
 |e::es=>do
  let x <-ev e
  match x.2 with
  |.bl OP=>pure (.loc,.bl OP)
  |.bl OR=>y6 es
  |_=>M.fail
noncomputable def Cv:E->M Bool
 |.and es=>aP es
 |.or es=>dH es
 |.not a=>do let b <-Cv a;pure !b
 |.cmp op a b=>do
  let x <-ev a
  let y <-ev b
  ar [x,y]
  M.Cu (bg op x.2 y.2)
 |.var i=>do let x <-dG i;M.Cu (jo x.2)
 |.cst u=>M.Cu (jo u)
 |.idx a b=>do
  let x <-ev a
  let y <-ev b
  ar [x,y]
  let r <-M.Cu (dm x y.2)
  M.Cu (jo r.2)
 |.FF f es=>do
  let rs <-a9 es
  ar rs
  let r <-M.Cu (nN f rs)
  M.Cu (jo r.2)
 |.bi f es=>do
  let rs <-a9 es
  ar rs
  let r <-M.Cu (DO f rs)
  M.Cu (jo r.2)
 |.Fj m a es=>do
  let x <-ev a
  let rs <-a9 es
  ar (x::rs)
  let r <-M.Cu (iJ m x.2 rs)
  M.Cu (jo r.2)
 |.call f es=>do
  let rs <-a9 es
  ar rs
  let r <-iK Γ f (rs.map (·.2))
  M.Cu (jo r.2)
 |.Ea o1 o2 a b c=>do
  let x <-ev a
  let y <-ev b
  ar [x,y]
  let p <-M.Cu (bg o1 x.2 y.2)
  if p=OP then do
   let z <-ev c
   ar [y,z]
   M.Cu (bg o2 y.2 z.2)
  else pure OR
 |.Er a T=>do
  let x <-ev a
  M.Cu (mj x.2 T)
 |_=>M.fail
noncomputable def aP:List E->M Bool
 |[]=>pure OP
 |[e]=>Cv e
 |e::es=>do let b <-Cv e;if b=OP then aP es else pure OR
noncomputable def dH:List E->M Bool
 |[]=>pure OR
 |[e]=>Cv e
 |e::es=>do let b <-Cv e;if b=OP then pure OP else dH es
end
inductive Fl where|nx|rt (k:Kd) (u:U)|bk|ct
def retS:Kd×U->M Fl
 |(.own,u)=>pure (.rt .own u)
 |(.loc,u)=>pure (.rt .loc u)
 |(.any,u)=>if CI u=OP then pure (.rt .loc u) else pure (.rt .any u)
 |(.bor j,_)=>λst=>match st[j]? with
  |some (Od (.own,u))=>Od (.ok (.rt .own u),st.set j OQ)
  |_=>OQ
 |(.io,_)=>M.fail
 |(.Ci,_)=>M.fail
noncomputable def forM(t:Bool)(is:List Nat)(body:M Fl)(src:List (Kd×U)):List (Kd×U)->M Fl
 |[]=>do ar src;pure .nx
 |x::xs=>do
  ar src
  cU t is x
  let f <-body
  match f with
  |.nx=>forM t is body src xs
  |.ct=>forM t is body src xs
  |.bk=>pure .nx
  |.rt k u=>pure (.rt k u)
def eh(c:M Bool)(body:M Fl):Nat->M Fl
 |0=>M.fail
 |n+1=>do
  let b <-c
  if b=OP then do
   let f <-body
   match f with
   |.nx=>eh c body n
   |.ct=>eh c body n
   |.bk=>pure .nx
   |.rt k u=>pure (.rt k u)
  else pure .nx
def modS(i:Nat)(f:U->Option U):M Unit:=λst=>match st[i]? with
 |some (Od (k,u))=>if k.root=OP then match f u with
   |some u'=>Od (.ok (),st.set i (Od (k,u')))
   |none=>OQ
  else OQ
 |_=>OQ
def sY(u:U):U->Option U
 |.lst xs=>if xs.length<OV then Od (.lst (xs++[u])) else OQ
 |_=>OQ
def nP:Kd×U->U->Option U
 |(k,.lst ys),.lst xs=>if xs.length+ys.length<=OV/\fF k ys=OP then Od (.lst (xs++ys)) else OQ
 |(k,.tup ys),.lst xs=>if xs.length+ys.length<=OV/\fF k ys=OP then Od (.lst (xs++ys)) else OQ
 |_,_=>OQ
def dI(x u:U):U->Option U
 |.CU ks vs=>match x with
  |.str y=>if ks.length<OV then Od (.CU (dput ks vs y u).1 (dput ks vs y u).2) else OQ
  |_=>OQ
 |.Dt ks=>match rowOf x,u with
  |some r,.bl OP=>if r∉ks/\ks.length<=1000 then Od (.Dt (ks++[r])) else OQ
  |_,_=>OQ
 |.lst xs=>match x with
  |.int i=>(Fu xs.length i).map λj=>.lst (xs.set j u)
  |_=>OQ
 |_=>OQ
def AF:U->Option U
 |.lst _=>Od (.lst [])
 |_=>OQ
def pq:List U->U->Option U
 |[u,x]=>dI x u
 |_=>λ_=>OQ
def fuel:Nat:=1000000000000
mutual
def F_:S->Nat->Bool
 |.set i _,j=>OX (j≠i)
 |.FH is _,j=>OX (j∉is)
 |.ite _ a b,j=>Ec a j&&Ec b j
 |.Cw _ is _ _ body,j=>OX (j∉is)&&Ec body j
 |.EZ _ body,j=>Ec body j
 |.put _ _ _,_=>OP
 |.app _ _,_=>OP
 |.ext _ _,_=>OP
 |.bad,_=>OP
 |.newD i,j=>OX (j≠i)
 |.putD _ _ _,_=>OP
 |.FI _ _ _,_=>OP
 |.aug _ _ _ _,_=>OP
 |.Jt _,_=>OP
 |.exp _,_=>OP
 |.ret _,_=>OP
 |.Eb,_=>OP
 |.brk,_=>OP
 |.cnt,_=>OP
 |.Ju,_=>OP
 |.DK _,_=>OP
 |.Jv _,_=>OP
def Ec:List S->Nat->Bool
 |[],_=>OP
 |s::ss,j=>F_ s j&&Ec ss j
end
def pv(rs:List (Kd×U))(is:List Nat)(body:List S):Bool:=rs.all λr=>match r.1 with
 |.bor j=>OX (j∉is)&&Ec body j
 |_=>OP
mutual
noncomputable def exec:S->M Fl
 |.set i e=>do let r <-ev Γ e;dq i r;pure .nx
 |.FH is e=>do let r <-ev Γ e;cU OP is r;pure .nx
 |.put i k v=>do
  let r <-ev Γ v
  let _ <-dG i
  let x <-ev Γ k
  let us <-cp [r,x]
  modS i (pq us)
  pure .nx
 |.app i e=>do
  let x <-dG i
  FJ x.2
  let r <-ev Γ e
  let u <-lift r
  modS i (sY u)
  pure .nx
 |.ext i e=>do
  let x <-dG i
  FJ x.2
  let r <-ev Γ e
  modS i (nP r)
  pure .nx
 |.bad=>M.fail
 |.newD _=>M.fail
 |.putD _ _ _=>M.fail
 |.FI _ _ _=>M.fail
 |.aug _ _ _ _=>M.fail
 |.Jt _=>M.fail
 |.exp e=>do let _ <-ev Γ e;pure .nx
 |.ret e=>do let r <-ev Γ e;retS r
 |.Eb=>pure (.rt .loc .Ce)
 |.ite c a b=>do let p <-Cv Γ c;if p=OP then execs a else execs b
 |.Cw t is ik src body=>do
  let rs <-a9 Γ src
  ar rs
  let xs <-M.Cu (DV ik rs)
  if pv rs is body=OP then forM t is (execs body) rs xs else M.fail
 |.EZ c body=>eh (Cv Γ c) (execs body) fuel
 |.brk=>pure .bk
 |.cnt=>pure .ct
 |.Ju=>pure .nx
 |.DK _=>M.fail
 |.Jv i=>do
  modS i AF
  pure .nx
noncomputable def execs:List S->M Fl
 |[]=>pure .nx
 |s::ss=>do
  let f <-exec s
  match f with
  |.nx=>execs ss
  |f=>pure f
end
end
structure Fn where
 name:Str
 np:Nat
 ns:Nat
 body:List S
def start(us:List U)(n:Nat):ax:=us.map (λu=>Od (if CI u=OP then Kd.loc else Kd.any,u))++Pc (n - us.length) OQ
noncomputable def ei(Γ:Tab)(fn:Fn)(us:List U):Option (Ex (Kd×U)):=if us.length=fn.np then match execs Γ fn.body (start us fn.ns) with
  |some (.ok (.rt .own u),_)=>Od (.ok (.own,u))
  |some (.ok (.rt .loc u),_)=>Od (.ok (.loc,u))
  |some (.ok (.rt .any u),_)=>Od (.ok (.any,u))
  |some (.ok .nx,_)=>Od (.ok (.loc,.Ce))
  |some (.exc c,_)=>Od (.exc c)
  |_=>OQ
 else OQ
def bS(is:List Nat)(us:List U)(n:Nat):ax:=(us.zipIdx.map λp=>Od (if p.2∈is then Kd.io else if CI p.1=OP then Kd.loc else Kd.any,p.1))++Pc (n - us.length) OQ
def GK:List Nat->ax->Option (List U)
 |[],_=>Od []
 |i::is,st=>match st[i]? with
  |some (Od (.io,u))=>(GK is st).map (u::·)
  |_=>OQ
def Jw:Fl->Option (Kd×U)
 |.rt .own u=>Od (.own,u)
 |.rt .loc u=>Od (.loc,u)
 |.nx=>Od (.loc,.Ce)
 |_=>OQ
noncomputable def ez(Γ:Tab)(fn:Fn)(is:List Nat)(body:List S)(us:List U):Option (Ex (Kd×U)):=if us.length=fn.np then match execs Γ body (bS is us fn.ns) with
  |some (.ok f,st)=>(Jw f).bind λr=>(GK is st).map λws=>.ok (r.1,.tup (r.2::ws))
  |_=>OQ
 else OQ
def Fn.io(fn:Fn):Option (List Nat×List S):=match fn.body with
 |.DK is::body=>Od (is,body)
 |_=>OQ
noncomputable def gh(Γ:Tab)(fn:Fn)(us:List U):Option (Ex (Kd×U)):=match fn.io with
 |some (is,body)=>ez Γ fn is body us
 |none=>ei Γ fn us
noncomputable def CJ(P:List Fn):Nat->Tab
 |0=>λ_ _=>OQ
 |d+1=>λf us=>match P.find? λfn=>OX (fn.name=f) with
  |some fn=>gh (CJ P d) fn us
  |none=>OQ
end TM
namespace TM
open PySem L2
section
variable{X:Cx}{pins:List (O8×Obj)}{σ:St}{H:Hp}{s:O7}{C:Ct}{S:O8->Prop}
theorem pw(I:Inv X pins σ H s)(h:CF X.K H a vs):∃A':List OW,Vals vs A'/\s.heap.IsList a A'.toArray/\vs.length<=OV:=by
 obtain⟨A',r,p,z⟩:=I.list h;exact⟨A',r,p.isList,z⟩
inductive CO(s:O7):Nat->U->OW->Prop where
 |Ce {n:Nat}:CO s n .Ce .none
 |bl {n:Nat} {b:Bool}:CO s n (.bl b) (.bool b)
 |int {n:Nat} {i:Int} {t:Tok}:CO s n (.int i) (.int i t)
 |str {n:Nat} {y:Str} {t:Tok}:CO s n (.str y) (.str y t)
 |tup {n:Nat} {us:List U} {A':List OW} {a:O8}:us.length=A'.length->(∀j (hj:j<A'.length),CO s n (us.getD j .Ce) A'[j])->bL us us=OP->s.heap.IsTuple a A'.toArray->CO s (n+1) (.tup us) (.ref a)
 |lst {n:Nat} {us:List U} {A':List OW} {a:O8}:us.length=A'.length->(∀j (hj:j<A'.length),CO s n (us.getD j .Ce) A'[j])->bL us us=OP->s.heap.IsList a A'.toArray->CO s (n+1) (.lst us) (.ref a)
theorem CO.self(h:CO s n u x):bw u u=OP:=by
 cases h<;>first|assumption|simp[bw]
theorem CO.v_(f:∀u v x,Dg n u=OP->Rep C S H u v->RelV v x->CO s n u x):∀{us:List U}{vs:List V}{A':List OW},fG n us=OP->ai C S H us vs->Vals vs A'->us.length=A'.length/\(∀j (hj:j<A'.length),CO s n (us.getD j .Ce) A'[j])/\bL us us=OP
 |[],_,_,_,h,r=>by cases h;cases r;exact⟨rfl,λj hj=>(nomatch hj),rfl⟩
 |u::us,_,_,e,h,r=>by
  obtain⟨v,vs,rfl,h1,h2⟩:=h;simp only[fG,OS]at e;cases r with
  |cons r1 r2 =>
   obtain⟨l,k,y⟩:=CO.v_ f e.2 h2 r2;refine⟨by simp[l],λj hj=>?_,by rw[bL,(f _ _ _ e.1 h1 r1).self,y];rfl⟩;cases j with
   |zero=>exact f _ _ _ e.1 h1 r1
   |succ j=>exact k j (by simpa using hj)
theorem CO.of(I:Inv X pins σ H s)(hK:C.K=X.K):∀(n:Nat) (u:U) (v:V) (x:OW),Dg n u=OP->Rep C S H u v->RelV v x->CO s n u x:=by
 intro n;induction n with
 |zero=>intro u v x e h r;cases u<;>first|(simp[Dg]at e;done)|(simp only[Rep]at h;subst h;first|(cases r;constructor)|(obtain⟨t,rfl⟩:=r;constructor))
 |succ n ih =>
  intro u v x e h r;cases u with
  |tup us =>
   obtain⟨a,vs,rfl,h1,h2⟩:=h;cases r;obtain⟨A',rv,p,_⟩:=I.tuple (hK▸h1);obtain⟨l,k,y⟩:=CO.v_ ih (by simpa[Dg] using e) h2 rv;exact .tup l k y p
  |lst us =>
   obtain⟨a,vs,rfl,h1,h2⟩:=h;cases r;obtain⟨A',rv,p,_⟩:=pw I (hK▸h1.sq);obtain⟨l,k,y⟩:=CO.v_ ih (by simpa[Dg] using e) h2 rv;exact .lst l k y p
  |_=>first|(simp[Dg]at e;done)|(simp only[Rep]at h;subst h;first|(cases r;constructor)|(obtain⟨t,rfl⟩:=r;constructor))
theorem CO.inj:∀{n:Nat}{u w:U}{x:OW},CO s n u x->CO s n w x->u=w:=by
 intro n;induction n with
 |zero=>intro u w x h h';cases h<;>cases h'<;>rfl
 |succ n ih =>
  have go:∀{us ws:List U} {A' its':List OW} {a:O8} {o o':Obj} {m m':Nat},us.length=A'.length->(∀j (hj:j<A'.length),CO s n (us.getD j .Ce) A'[j])->ws.length=its'.length->(∀j (hj:j<its'.length),CO s n (ws.getD j .Ce) its'[j])->s.heap.get? a=Od o->o.data=.seq A'.toArray m->s.heap.get? a=Od o'->o'.data=.seq its'.toArray m'->us=ws:=by
   intro us ws A' its' a o o' m m' l k l' k' e d e' d';rw[e]at e';cases e';rw[d]at d';injection d' with d1 _
   have:A'=its':=by simpa using congrArg U0 d1
   subst this;refine T8 ⋯ λj h1 h2=>?_;have:=ih (k j ⋯) (k' j ⋯);simpa[h1,h2] using this
  intro u w x h h';cases h with
  |tup l k y p =>
   cases h' with
   |tup l' k' y' p'=>obtain⟨o,e,_,m,d⟩:=p;obtain⟨o',e',_,m',d'⟩:=p';rw[go l k l' k' e d e' d']
   |lst l' k' y' p'=>exact absurd rfl (UW p' p)
  |lst l k y p =>
   cases h' with
   |lst l' k' y' p'=>obtain⟨o,e,_,m,d⟩:=p;obtain⟨o',e',_,m',d'⟩:=p';rw[go l k l' k' e d e' d']
   |tup l' k' y' p'=>exact absurd rfl (UW p p')
  |_=>cases h';rfl
theorem gk:∀{us ws:List U},us.length≠ws.length->bL us ws=OR
 |[],[],h=>absurd rfl h
 |[],_::_,_=>rfl
 |_::_,[],_=>rfl
 |u::us,w::ws,h=>by
  rw[bL,gk (us:=us) (ws:=ws) (λe=>h (by simp[e])),Sj]
theorem dJ:∀{us ws:List U},us.length=ws.length->bL us ws=(Pl us.length).all λj=>bw (us.getD j .Ce) (ws.getD j .Ce)
 |[],[],_=>rfl
 |[],_::_,h=>by simp at h
 |_::_,[],h=>by simp at h
 |u::us,w::ws,h=>by
  have h':us.length=ws.length:=by simpa using h
  rw[bL,dJ h',Pw,List.range_succ_eq_map,WI,U9];rfl
theorem AG{A' its':List OW}(l1:us.length=A'.length)(l2:ws.length=its'.length):bL us ws=((Pl (min A'.toArray.size its'.toArray.size)).all (λj=>bw (us.getD j .Ce) (ws.getD j .Ce))&&A'.toArray.size==its'.toArray.size):=by
 simp only[O0];by_cases el:us.length=ws.length
 ·rw[dJ el,show min A'.length its'.length=us.length by omega,show(A'.length==its'.length)=OP by simp;omega,Tt]
 ·rw[gk el,show(A'.length==its'.length)=OR by simp;omega,Sj]
theorem pz(hf:CO s n u y)(h:Vw A s y x k)(hs:y=x->k=OP):SO A s y x k:=λprog w E Q hq=>by
 unfold eqBool;refine P5 ?_;refine wpAny_ite_split (λGv=>?_) (λ_=>?_)
 ·rw[hs (VF Gv)]at hq;exact OO (Rt (OU hq))
 ·cases hf<;>exact OO (h prog w E _ (P_ hq))
theorem Kv(ih:∀m,m+1=n->∀{u w:U}{x x':OW}{A:Ra},CO s m u x->CO s m w x'->A.units+m<Qr->SO A s x x' (bw u w))(h:CO s n u x)(h':CO s n w x')(hn:A.units+n<Qr):Vw A s x x' (bw u w)/\Wy A s x x' (!bw u w):=by
 have hu:A.units<Qr:=by omega
 have go:∀{m:Nat} {us ws:List U} {A' its':List OW},m+1=n->(∀j (hj:j<A'.length),CO s m (us.getD j .Ce) A'[j])->(∀j (hj:j<its'.length),CO s m (ws.getD j .Ce) its'[j])->∀j (h1:j<A'.toArray.size) (h2:j<its'.toArray.size),SO A.in1 s A'.toArray[j] its'.toArray[j] (bw (us.getD j .Ce) (ws.getD j .Ce)):=λ{m us ws A' its'} e k k' j h1 h2=>ih m e (k j h1) (k' j h2) (by show A.units+1+m < _;omega);cases h with
 |Ce =>
  cases h' with
  |Ce=>exact⟨.none_none,.none_none⟩
  |bl=>exact⟨.none_bool _,.none_bool _⟩
  |int=>exact⟨.none_int _ _,.none_int _ _⟩
  |str=>exact⟨.none_str _ _,.none_str _ _⟩
  |tup l' k' y' p'=>exact⟨.none_tuple p' hu,.none_tuple p' hu⟩
  |lst l' k' y' p'=>exact⟨.none_list p' hu,.none_list p' hu⟩
 |bl =>
  cases h' with
  |Ce=>exact⟨.bool_none _,.bool_none _⟩
  |bl=>exact⟨.bool_bool _ _,.bool_bool _ _⟩
  |int=>exact⟨.bool_int _ _ _,.bool_int _ _ _⟩
  |str=>exact⟨.bool_str _ _ _,.bool_str _ _ _⟩
  |tup l' k' y' p'=>exact⟨.bool_tuple _ p' hu,.bool_tuple _ p' hu⟩
  |lst l' k' y' p'=>exact⟨.bool_list _ p' hu,.bool_list _ p' hu⟩
 |int =>
  cases h' with
  |Ce=>exact⟨.int_none _ _,.int_none _ _⟩
  |bl=>exact⟨.int_bool _ _ _,.int_bool _ _ _⟩
  |int=>exact⟨.int_int _ _ _ _,.int_int _ _ _ _⟩
  |str=>exact⟨.int_str _ _ _ _,.int_str _ _ _ _⟩
  |tup l' k' y' p'=>exact⟨.int_tuple _ _ p' hu,.int_tuple _ _ p' hu⟩
  |lst l' k' y' p'=>exact⟨.int_list _ _ p' hu,.int_list _ _ p' hu⟩
 |str =>
  cases h' with
  |Ce=>exact⟨.str_none _ _,.str_none _ _⟩
  |bl=>exact⟨.str_bool _ _ _,.str_bool _ _ _⟩
  |int=>exact⟨.str_int _ _ _ _,.str_int _ _ _ _⟩
  |str=>exact⟨.str_str _ _ _ _,.str_str _ _ _ _⟩
  |tup l' k' y' p'=>exact⟨.str_tuple _ _ p' hu,.str_tuple _ _ p' hu⟩
  |lst l' k' y' p'=>exact⟨.str_list _ _ p' hu,.str_list _ _ p' hu⟩
 |tup l k y p =>
  cases h' with
  |Ce=>exact⟨.tuple_none p hu,.tuple_none p hu⟩
  |bl=>exact⟨.tuple_bool _ p hu,.tuple_bool _ p hu⟩
  |int=>exact⟨.tuple_int _ _ p hu,.tuple_int _ _ p hu⟩
  |str=>exact⟨.tuple_str _ _ p hu,.tuple_str _ _ p hu⟩
  |tup l' k' y' p'=>rw[show bw (.tup _) (.tup _)=_ from AG l l'];exact⟨.tuples p p' hu (go rfl k k'),.tuples p p' hu (go rfl k k')⟩
  |lst l' k' y' p'=>exact⟨.tuple_list p p' hu,.tuple_list p p' hu⟩
 |lst l k y p =>
  cases h' with
  |Ce=>exact⟨.list_none p hu,.list_none p hu⟩
  |bl=>exact⟨.list_bool _ p hu,.list_bool _ p hu⟩
  |int=>exact⟨.list_int _ _ p hu,.list_int _ _ p hu⟩
  |str=>exact⟨.list_str _ _ p hu,.list_str _ _ p hu⟩
  |tup l' k' y' p'=>exact⟨.list_tuple p p' hu,.list_tuple p p' hu⟩
  |lst l' k' y' p' =>
   rename_i us _ _ ws _ _;by_cases el:us.length=ws.length
   ·rw[show bw (.lst us) (.lst ws)=_ from dJ el,l,<-O0];exact⟨.lists p p' (by simp;omega) hu (go rfl k k'),.lists p p' (by simp;omega) hu (go rfl k k')⟩
   ·rw[show bw (.lst us) (.lst ws)=OR from gk el];exact⟨.lists_lengths p p' (by simp;omega) hu,.lists_lengths p p' (by simp;omega) hu⟩
theorem AH:∀{n:Nat}{u w:U}{x x':OW}{A:Ra},CO s n u x->CO s n w x'->A.units+n<Qr->SO A s x x' (bw u w):=by
 intro n;induction n with
 |zero=>intro u w x x' A h h' hu;exact pz h (Kv (λm e=>by cases e) h h' hu).1 λe=>by subst e;rw[h.inj h'];exact h'.self
 |succ n ih=>intro u w x x' A h h' hu;exact pz h (Kv (λm e=>by cases e;exact ih) h h' hu).1 λe=>by subst e;rw[h.inj h'];exact h'.self
theorem AI(h:CO s n u x)(h':CO s n w x')(hu:A.units+n<Qr):Vw A s x x' (bw u w)/\Wy A s x x' (!bw u w):=Kv (λm e=>by cases e;exact AH) h h' hu
end
end TM
namespace TM
open PySem L2 PyProof.Rows
def Cj(C:Ct)(m:M (Kd×U)):TE:=λσ H Q=>∃c0:Cf,c0.σ=σ/\c0.H=H/\Ok C c0/\W m c0.st λr st'=>∀c v,c.σ=σ->c.st=st'->Ok C c->Nx c0 c->aC C c0 c r.1 r.2 v->Q v c.H
def Dh(C:Ct)(m:M Bool):TT:=λσ H Q=>∃c0:Cf,c0.σ=σ/\c0.H=H/\Ok C c0/\W m c0.st λb st'=>∀c,c.σ=σ->c.st=st'->Ok C c->Nx c0 c->Q b c.H
def bM(C:Ct)(c0 c:Cf):List (Kd×U)->List V->Prop
 |[],vs=>vs=[]
 |r::rs,vs=>∃v t,vs=v::t/\dF C c0 c r.1 r.2 v/\bM C c0 c rs t/\(r.1=.own->∀(i:Nat) r' v',rs[i]?=Od r'->t[i]?=Od v'->r'.1=.own->v'≠v)
def Dk(C:Ct)(m:M (List (Kd×U))):TA:=λσ H Q=>∃c0:Cf,c0.σ=σ/\c0.H=H/\Ok C c0/\W m c0.st λrs st'=>∀c vs,c.σ=σ->c.st=st'->Ok C c->Nx c0 c->bM C c0 c rs vs->Q vs c.H
section
theorem PE.weak(h:PE X e t)(i:∀σ H Q,t' σ H Q->t σ H Q):PE X e t':=λpins s σ H Q I q=>h pins s σ H Q I (i σ H Q q)
theorem PT.weak(h:PT X e t)(i:∀σ H Q,t' σ H Q->t σ H Q):PT X e t':=λpins s σ H Q I q=>h pins s σ H Q I (i σ H Q q)
theorem br{st:ax}:W (ar rs) st Q↔aU rs st/\Q () st:=by
 constructor
 ·rintro⟨a,st',e,h⟩;unfold ar at e;split at e
  ·cases e;exact⟨by assumption,h⟩
  ·cases e
 ·rintro⟨h1,h2⟩;exact⟨(),st,by unfold ar;rw[XI h1],h2⟩
theorem cB{st:ax}:aU (r::rs) st↔aU [r] st/\aU rs st:=by
 obtain⟨k,u⟩:=r;cases k<;>simp[aU]
theorem dF.t(h:dF C c0 c k u v)(s:aU [(k,u)] c.st):aC C c0 c k u v:=by
 cases k with
 |bor j=>exact⟨s.1,h⟩
 |_=>exact h
structure GL(C:Ct)(c0 c:Cf)(x y:Kd×U)(vx vy:V):Prop where
 hσ:c.σ=c0.σ
 ok:Ok C c
 nx:Nx c0 c
 rx:aC C c0 c x.1 x.2 vx
 ry:aC C c0 c y.1 y.2 vy
 ne:x.1=.own->y.1=.own->vy≠vx
theorem gn(h:dF C c0 c1 k u v)(h':dF C c1 c k' u' v'):k=.own->k'=.own->v'≠v:=by
 rintro rfl rfl e;obtain⟨r,e1,_,_,_,h4⟩:=h;obtain⟨r',e2,h5,_⟩:=h';obtain⟨o,ho,_⟩:=h4.some;subst e1;rw[e2]at e;cases e;rw[ho]at h5;cases h5
theorem two{k:Kd×U->Kd×U->M β}{Cq:β->ax->Prop}{f:OW->OW->Sem α}{Q':OW->OW->α->O7->Prop}(ha:PE X a (Cj C ma))(hb:PE X b (Cj C mb))(I:Inv X pins c0.σ c0.H s)(ok:Ok C c0)
  (h:W (ma >>= λx=>mb >>= λy=>ar [x,y] >>= λ_=>k x y) c0.st Cq)
  (hf:∀x y c vx vy v u s2,GL C c0 c x y vx vy->Inv X pins c.σ c.H s2->RelV vx v->RelV vy u->W (k x y) c.st Cq->OZ (O9 X.prog X.w) X.A (f v u) (Q' v u) X.xe s2) :
  OZ (O9 X.prog X.w) X.A (QK a X.env) (λv s₁=>OZ (O9 X.prog X.w) X.A (QK b X.env) (λu s₂=>OZ (O9 X.prog X.w) X.A (f v u) (Q' v u) X.xe s₂) X.xe s₁) X.xe s:=by
 rw[ae]at h;refine Cm (ha pins s c0.σ c0.H (λvx H1=>∃x c1,c1.H=H1/\c1.σ=c0.σ/\Ok C c1/\Nx c0 c1/\aC C c0 c1 x.1 x.2 vx/\W (mb >>= λy=>ar [x,y] >>= λ_=>k x y) c1.st Cq) I ⟨c0,rfl,rfl,ok,h.mono λx st1 h1 c1 vx e1 e2 Co n1 r1=>⟨x,c1,rfl,e1,Co,n1,r1,by rw[e2];exact h1⟩⟩) ?_;rintro v s1 ⟨vx,H1,I1,rv,x,c1,rfl,e1,Co,n1,r1,h1⟩;rw[ae]at h1;refine Cm (hb pins s1 c0.σ c1.H (λvy H2=>∃y c2,c2.H=H2/\GL C c0 c2 x y vx vy/\W (k x y) c2.st Cq) I1 ⟨c1,e1,rfl,Co,h1.mono λy st2 h2 c2 vy e3 e4 CG n2 r2=>?_⟩) ?_
 ·rw[ae,br]at h2;subst e4;rw[cB]at h2;exact⟨y,c2,rfl,⟨e3,CG,n1.trans n2,(r1.w.on Co n2 (e3.trans e1.symm)).t h2.1.1,(r2.from n1),gn r1.w r2.w⟩,h2.2⟩
 ·rintro u s2 ⟨vy,H2,I2,ru,y,c2,rfl,at2,h2⟩;have hs:c2.σ=c0.σ:=at2.hσ;exact hf x y c2 vx vy v u s2 at2 (by rw[hs];exact I2) rv ru h2
structure Ih(C:Ct)(c0 c:Cf)(x:Kd×U)(vx:V):Prop where
 hσ:c.σ=c0.σ
 ok:Ok C c
 nx:Nx c0 c
 rx:aC C c0 c x.1 x.2 vx
def bI(C:Ct)(c0:Cf)(Q:VK)(r:Kd×U)(st':ax):Prop:=∀c v,c.σ=c0.σ->c.st=st'->Ok C c->Nx c0 c->aC C c0 c r.1 r.2 v->Q v c.H
section
theorem bI.flat(h:bI C c0 Q (.loc,u) c.st)(hσ:c.σ=c0.σ)(ok:Ok C c)(n:Nx c0 c)(r:Rep C c.S c.H u v):Q v c.H:=h c v hσ rfl ok n r
theorem bI.list(h:bI C c0 Q (.own,.lst us) c.st)(hσ:c.σ=c0.σ)(ok:Ok C c)(n:Nx c0 c)(r:ai C c.S c.H us vs)(p:O8)(hp:c.H p=OQ):Q (.ref p) (upd c.H p (.lst vs)):=by
 obtain⟨Cy,n',r'⟩:=ok.newList n hp r;exact h {c with H:=upd c.H p (.lst vs)} _ hσ rfl Cy n' r'
theorem bI.tup(h:bI C c0 Q (.loc,.tup us) c.st)(hσ:c.σ=c0.σ)(ok:Ok C c)(n:Nx c0 c)(r:ai C c.S c.H us vs)(p:O8)(hp:c.H p=OQ):Q (.ref p) (upd c.H p (.tup vs)):=by
 obtain⟨Cy,n',r'⟩:=ok.yP n hp r;exact h {c with H:=upd c.H p (.tup vs)} _ hσ rfl Cy n' r'
theorem bI.tupK(h:bI C c0 Q (kE k,.tup us) c.st)(hσ:c.σ=c0.σ)(ok:Ok C c)(n:Nx c0 c)(r:ai C (SK C c k) c.H us vs)(p:O8)(hp:c.H p=OQ):Q (.ref p) (upd c.H p (.tup vs)):=by
 obtain⟨Cy,n'⟩:=ok.lay (o:=.tup vs) hp;refine h {c with H:=upd c.H p (.tup vs)} _ hσ rfl Cy (n.trans n') (aC.item ?_);cases k<;>exact⟨p,vs,rfl,CB.of au,by first|exact r.mv (ok.GG n')|exact r.mv (ok.mv n')⟩
theorem bT(h:fF k us=OP)(r:ai C (SK C c k) c.H us vs):ai C c.S c.H us vs:=by
 cases k with
 |any=>exact r.CI (by simpa[fF,isAny] using h)
 |_=>exact r
end
theorem y7(k k':Kd):∀a,SK C c k a->SK C c (kT k k') a:=by
 intro a h;cases k<;>cases k'<;>first|exact h|exact .inr h
theorem wa(k k':Kd):∀a,SK C c k' a->SK C c (kT k k') a:=by
 intro a h;cases k<;>cases k'<;>first|exact h|exact .inr h
theorem AJ(k k':Kd):kE (kT k k')=kT k k':=by cases k<;>cases k'<;>rfl
theorem wb:Dn X (RG .Add) (λx y H Q=>∃l b xs zs,x=.ref l/\y=.ref b/\CF X.K H l xs/\CF X.K H b zs/\xs.length+zs.length<=OV/\∀p,H p=OQ->Q (.ref p) (upd H p (.lst (xs++zs)))):=by
 intro pins s σ H x y v u Q I rx ry h;obtain⟨l,b,xs,zs,rfl,rfl,hH,hB,hz,q⟩:=h;cases rx;cases ry;obtain⟨A',r,pl,z⟩:=I.list hH;obtain⟨Cr,r2,Ii,z2⟩:=I.list hB;have hl:=r.length;have FC:=r2.length;obtain⟨⟨cls,dd,data,sl⟩,ho,hc,n,hd⟩:=pl.isList;obtain⟨⟨Hz,G8,data2,G9⟩,Ei,FX,n2,hd2⟩:=Ii.isList;simp only at hc hd FX hd2;subst hc hd FX hd2;refine Up ⟨_,ho,rfl⟩ ⟨_,Ei,rfl⟩ noFill_list_add seq_list_add PySem.F.slot_list_add PySem.F.entry_list_add (PySem.F.args_list_add_2 _ _)
   (list_addW l b A'.toArray Cr.toArray n n2 dd G8 sl G9 (by rw[O0,O0];omega)) ⟨ho,Ei,?_⟩
 have ea:A'.toArray++Cr.toArray=(A'++Cr).toArray:=by simp
 rw[ea];exact⟨.ref _,_,I.BZ (t':=s.toks) (r.append r2) (by rw[Pp];omega),rfl,q _ I.fresh⟩
end
section
variable{X:Cx}{C:Ct}{pins:List (O8×Obj)}{s:O7}{c0 c:Cf}{Q:VK}
theorem sZ:Dn X (RG .Add) (λx y H Q=>∃a b ys,x=.ref a/\y=.ref b/\CB X.K H a []/\CB X.K H b ys/\Q (.ref b) H):=by
 intro pins s σ H x y v u Q I rx ry h;obtain⟨a,b,ys,rfl,rfl,ha,hb,q⟩:=h;cases rx;cases ry;obtain⟨A',r1,p1,_⟩:=I.tuple ha;obtain⟨Cr,r2,p2,_⟩:=I.tuple hb;cases r1;obtain⟨⟨cls,dd,data,sl⟩,ho,hc,n,hd⟩:=id p1;obtain⟨⟨Hz,G8,data2,G9⟩,Ei,FX,n2,hd2⟩:=id p2;simp only at hc hd FX hd2;subst hc hd FX hd2;exact Up ⟨_,ho,rfl⟩ ⟨_,Ei,rfl⟩ UM Vt PySem.F.slot_tuple_add PySem.F.entry_tuple_add (PySem.F.args_tuple_add_2 _ _)
   (tuple_addW0 a b _ Cr.toArray n n2 dd G8 sl G9 (by rfl)) ⟨ho,Ei,.ref b,H,I,rfl,q⟩
def Jo.op:Jo->Operator
 |.add=>.Add|.sub=>.Sub|.mul=>.Mult|.Fi=>.FloorDiv|.mod=>.Mod|.pow=>.Pow
theorem cV(h:nM f a b=Od r):∃i j o,a=.int i/\b=.int j/\f i j=Od o/\r=(.loc,.int o):=by
 unfold nM at h;split at h
 ·rw[O1]at h;obtain⟨o,e,rfl⟩:=h;exact⟨_,_,o,rfl,rfl,e,rfl⟩
 ·cases h
theorem y8(hK:C.K=X.K)(t:GL C c0 c x y vx vy)(I:Inv X pins c.σ c.H s)(rx:RelV vx v)(ry:RelV vy u)(h:E1 op x y=Od r)(q:bI C c0 Q r c.st):
  OZ (O9 X.prog X.w) X.A (RG op.op v u) (EP X pins c.σ Q) X.xe s:=by
 obtain⟨hσ,ok,n,tx,ty,_⟩:=t;cases op with
 |add =>
  have h:vV x y=Od r:=h;unfold vV at h;split at h
  ·have ex:=tx.int ok;have ey:=ty.int ok;cases h;exact bj pins s c.σ c.H vx vy v u Q I rx ry ⟨_,_,ex,ey,q.flat hσ ok n rfl⟩
  ·have ex:=tx.str ok;have ey:=ty.str ok;split at h
   ·cases h;exact m8 pins s c.σ c.H vx vy v u Q I rx ry ⟨_,_,ex,ey,by assumption,q.flat hσ ok n rfl⟩
   ·cases h
  ·obtain⟨a,vs,ex,h1,h2⟩:=tx.list ok;obtain⟨b,ws,ey,h3,h4⟩:=ty.list ok;split at h
   ·rename_i hh;cases h;exact wb pins s c.σ c.H vx vy v u Q I rx ry ⟨a,b,vs,ws,ex,ey,hK▸h1,hK▸h3,by rw[<-h2.len,<-h4.len];exact hh.1,λp hp=>q.list hσ ok n ((bT hh.2.1 h2).append (bT hh.2.2 h4)) p hp⟩
   ·cases h
  ·rename_i k xs k' ys _ _;obtain⟨a,vs,ex,h1,h2⟩:=tx.tuple ok;obtain⟨b,ws,ey,h3,h4⟩:=ty.tuple ok;have DW:=h1;have Ha:=h3;rw[hK]at DW Ha;split at h
   ·rename_i hh;cases h;have m1:ai C (SK C c (kT k k')) c.H xs vs:=h2.mv (.up (y7 k k'));have m2:ai C (SK C c (kT k k')) c.H ys ws:=h4.mv (.up (wa k k'));have q':bI C c0 Q (kE (kT k k'),.tup (xs++ys)) c.st:=by rw[AJ];exact q
    by_cases e1:vs=[]
    ·subst e1;refine sZ pins s c.σ c.H vx vy v u Q I rx ry ⟨a,b,ws,ex,ey,DW,Ha,?_⟩;refine q' c (.ref b) hσ rfl ok n (aC.item ⟨b,ws,rfl,h3,?_⟩);have:xs=[]:=by have:=m1.len;simpa using this
     rw[this];exact m2
    ·refine vG pins s c.σ c.H vx vy v u Q I rx ry ⟨a,b,vs,ws,ex,ey,DW,Ha,e1,by rw[<-h2.len,<-h4.len];exact hh,λe2=>?_,λ_ p hp=>q'.tupK hσ ok n (m1.append m2) p hp⟩;subst e2;refine q' c (.ref a) hσ rfl ok n (aC.item ⟨a,vs,rfl,h1,?_⟩);have:ys=[]:=by have:=m2.len;simpa using this
     rw[this,Qn];exact m1
   ·cases h
  ·cases h
 |sub =>
  obtain⟨i,j,o,ex,ey,eo,rfl⟩:=cV h;have ex:=(ex▸tx).int ok;have ey:=(ey▸ty).int ok;cases eo;exact m6 pins s c.σ c.H vx vy v u Q I rx ry ⟨_,_,ex,ey,q.flat hσ ok n rfl⟩
 |mul =>
  obtain⟨i,j,o,ex,ey,eo,rfl⟩:=cV h;have ex:=(ex▸tx).int ok;have ey:=(ey▸ty).int ok;unfold vW at eo;split at eo
  ·cases eo;exact ia pins s c.σ c.H vx vy v u Q I rx ry ⟨_,_,ex,ey,by assumption,q.flat hσ ok n rfl⟩
  ·cases eo
 |Fi =>
  obtain⟨i,j,o,ex,ey,eo,rfl⟩:=cV h;have ex:=(ex▸tx).int ok;have ey:=(ey▸ty).int ok;unfold vX at eo;split at eo
  ·cases eo;exact vv pins s c.σ c.H vx vy v u Q I rx ry ⟨_,_,ex,ey,by assumption,q.flat hσ ok n rfl⟩
  ·cases eo
 |mod =>
  obtain⟨i,j,o,ex,ey,eo,rfl⟩:=cV h;have ex:=(ex▸tx).int ok;have ey:=(ey▸ty).int ok;unfold vY at eo;split at eo
  ·cases eo;exact cM pins s c.σ c.H vx vy v u Q I rx ry ⟨_,_,ex,ey,by assumption,q.flat hσ ok n rfl⟩
  ·cases eo
 |pow =>
  obtain⟨i,j,o,ex,ey,eo,rfl⟩:=cV h;have ex:=(ex▸tx).int ok;have ey:=(ey▸ty).int ok;unfold vZ at eo;split at eo
  ·cases eo;exact j7 pins s c.σ c.H vx vy v u Q I rx ry ⟨_,_,ex,ey,by assumption,q.flat hσ ok n rfl⟩
  ·cases eo
theorem wc(hK:C.K=X.K)(ha:PE X a (Cj C ma))(hb:PE X b (Cj C mb)):PE X (.BinOp a op.op b pos) (Cj C (ma >>= λx=>mb >>= λy=>ar [x,y] >>= λ_=>M.Cu (E1 op x y))):=by
 rintro pins s σ H Q I ⟨c0,rfl,rfl,ok,h⟩;refine wpAny_BinOp (two ha hb I ok h λx y c vx vy v u s2 t I2 rx ry w=>?_);obtain⟨r,e,q⟩:=bC.mp w;exact Cm (y8 hK t I2 rx ry e q) λ_ _ z=>by rw[t.hσ]at z;exact z
def Ie.op:Ie->CmpOp
 |.eq=>.Eq|.ne=>.NotEq|.lt=>.Lt|.le=>.LtE|.gt=>.Gt|.ge=>.GtE|.isin=>.In|.CA=>.NotIn|.is=>.Is|.GH=>.IsNot
theorem AK{neg:Bool}(I:Inv X pins c.σ c.H s)(hK:C.K=X.K)(hu:X.A.units+60<Qr){S:O8->Prop}(hx:Rep C S c.H x vx)(rx:RelV vx v)(hy:ai C S c.H ys vs)
  (ha:CF C.K c.H a vs\/CB C.K c.H a vs) (e1:Dg 50 x=OP) (e2:fG 50 ys=OP) {Q:OW->O7->Prop} (q:Q (.bool (if neg then !(ys.any λy=>bw y x) else ys.any λy=>bw y x)) s) :
  OZ (O9 X.prog X.w) X.A (QC (if neg then .NotIn else .In) v (.ref a)) Q X.xe s:=by
 have sx:=CO.of I hK 50 x vx v e1 hx rx;have go:∀A':List OW,Vals vs A'->∃e:OW->Bool,(∀y,y∈A'.toArray->SO X.A.in1 s y v (e y))/\A'.toArray.any e=ys.any λy=>bw y x:=by
  intro A' rv;obtain⟨l,k,_⟩:=CO.v_ (CO.of I hK 50) e2 hy rv
  classical
  have q:∀j (hj:j<A'.length),OX (∃w,CO s 50 w A'[j]/\bw w x=OP)=bw (ys.getD j .Ce) x:=λj hj=>by
   rw[RA,decide_eq_true_iff];exact⟨λ⟨w,h1,h2⟩=>by rw[<-h1.inj (k j hj)];exact h2,λh=>⟨_,k j hj,h⟩⟩
  refine⟨λy=>OX (∃w,CO s 50 w y/\bw w x=OP),λy Gr=>?_,?_⟩
  ·obtain⟨j,hj,e⟩:=R9 (show y∈A' by simpa using Gr);subst e;show SO _ _ _ _ (decide _);rw[q j hj];exact AH (k j hj) sx (by show X.A.units+1+50 < _;omega)
  ·rw[RA];simp only[List.any_toArray,V3];constructor
   ·rintro⟨y,Gn,h⟩;obtain⟨j,hj,rfl⟩:=R9 Gn;rw[q j hj]at h;exact⟨_,QU (l▸hj),by simpa[l▸hj] using h⟩
   ·rintro⟨w,hw,h3⟩;obtain⟨j,hj,rfl⟩:=R9 hw;exact⟨_,QU (l▸hj),by rw[q j (l▸hj)];simpa[hj] using h3⟩
 rcases ha with ha|ha
 ·obtain⟨A',rv,p,_⟩:=pw I (hK▸ha);obtain⟨e,h1,h2⟩:=go A' rv;cases neg with
  |false=>exact SeqAt.in_listAt e p h1 (by rw[h2];exact q)
  |true=>exact SeqAt.notIn_listAt e p h1 (by rw[h2];exact q)
 ·rw[hK]at ha;obtain⟨A',rv,p,_⟩:=I.tuple ha;obtain⟨e,h1,h2⟩:=go A' rv;cases neg with
  |false=>exact SeqAt.in_tupleAt e p h1 (by rw[h2];exact q)
  |true=>exact SeqAt.notIn_tupleAt e p h1 (by rw[h2];exact q)
end
section
theorem bD:∀{us:List U}{ss:List Str},strsOf us=Od ss->us=ss.map .str
 |[],ss,h=>by cases h;rfl
 |.str x::us,ss,h=>by
  simp only[strsOf,O1]at h;obtain⟨t,h1,rfl⟩:=h;rw[bD h1];rfl
 |.Ce::_,_,h=>by cases h
 |.bl _::_,_,h=>by cases h
 |.int _::_,_,h=>by cases h
 |.tup _::_,_,h=>by cases h
 |.lst _::_,_,h=>by cases h
 |.CU _ _::_,_,h=>by cases h
 |.Dt _::_,_,h=>by cases h
theorem gG:∀{us:List U}{ns:List Int},intsOf us=Od ns->us=ns.map .int
 |[],ns,h=>by cases h;rfl
 |u::us,ns,h=>by
  cases u<;>first|(cases h;done)|skip
  rename_i x;have h':(intsOf us).map (x::·)=Od ns:=h;rw[O1]at h';obtain⟨ms,e,rfl⟩:=h';rw[gG e];rfl
theorem ai.ints{S:O8->Prop}:∀{ns:List Int}{vs:List V},ai C S H (ns.map .int) vs->vs=ns.map V.int
 |[],vs,h=>h
 |n::ns,vs,h=>by
  obtain⟨v,r,rfl,h1,h2⟩:=h;rw[ai.ints h2];have:v=.int n:=h1;rw[this];rfl
theorem iL:∀{us:List U}{ss:List Bool},iI us=Od ss->us=ss.map .bl
 |[],ss,h=>by cases h;rfl
 |.bl x::us,ss,h=>by
  simp only[iI,O1]at h;obtain⟨t,h1,rfl⟩:=h;rw[iL h1];rfl
 |.Ce::_,_,h=>by cases h
 |.str _::_,_,h=>by cases h
 |.int _::_,_,h=>by cases h
 |.tup _::_,_,h=>by cases h
 |.lst _::_,_,h=>by cases h
 |.CU _ _::_,_,h=>by cases h
 |.Dt _::_,_,h=>by cases h
theorem ai.LG{S:O8->Prop}:∀{xs:List Bool}{vs:List V},ai C S H (xs.map .bl) vs->vs=xs.map V.bl
 |[],vs,h=>h
 |x::xs,vs,h=>by
  obtain⟨v,r,rfl,h1,h2⟩:=h;rw[ai.LG h2];have:v=.bl x:=h1;rw[this];rfl
def AL(r:lM):U:=.tup [.str r.1,.tup (r.2.map .str)]
theorem iM(h:rowOf u=Od r):u=AL r:=by
 unfold rowOf at h;split at h
 ·rw[O1]at h;obtain⟨ss,h1,rfl⟩:=h;rw[bD h1];rfl
 ·cases h
def y9(X:Cx)(pins:List (O8×Obj))(c:Cf)(b:Bool)(v:OW)(s':O7):Prop:=v=.bool b/\Inv X pins c.σ c.H s'
theorem cj(o:Dn X f r)(I:Inv X pins c.σ c.H s)(rx:RelV vx v)(ry:RelV vy u)(h:r vx vy c.H λx H'=>x=.bl b/\H'=c.H):
  OZ (O9 X.prog X.w) X.A (f v u) (y9 X pins c b) X.xe s :=
 Cm (o pins s c.σ c.H vx vy v u _ I rx ry h) λw s' DQ=>by
  obtain⟨z,H',I',r,e1,e2⟩:=DQ;subst e1 e2;exact⟨r,I'⟩
theorem aC.dict(ok:Ok C c)(h:aC C c0 c k (.CU ks us) v):∃a kvs,v=.ref a/\c.H a=Od (.dK kvs)/\kvs.map (·.1)=ks.map PN/\ai C (SK C c k) c.H us (kvs.map (·.2)):=by
 cases k with
 |own=>obtain⟨r,e,_,_,_,kvs,h1,h2,h3⟩:=h;exact⟨r,kvs,e,h1,h2,h3⟩
 |bor j=>obtain⟨r,e,_,_,_,kvs,h1,h2,h3⟩:=ok.rootOf h.1 h.2;exact⟨r,kvs,e,h1,h2,h3⟩
 |io=>exact h.elim
 |Ci=>exact h.elim
 |_=>obtain⟨a,e,_,kvs,h1,h2,h3⟩:=h;exact⟨a,kvs,e,h1,h2,h3⟩
theorem aC.pk(ok:Ok C c)(h:aC C c0 c k (.Dt ks) v):∃a,v=.ref a/\dg C.P C.w C.K c.H a ks:=by
 cases k with
 |own=>obtain⟨r,e,_,_,_,h⟩:=h;exact⟨r,e,h⟩
 |bor j=>obtain⟨r,e,_,_,_,h⟩:=ok.rootOf h.1 h.2;exact⟨r,e,h⟩
 |io=>exact h.elim
 |Ci=>exact h.elim
 |_=>obtain⟨a,e,_,h⟩:=h;exact⟨a,e,h⟩
theorem d0{S:O8->Prop}:∀{ks:List Str}{us:List U}{kvs:List (Key×V)},kvs.map (·.1)=ks.map PN->ai C S H us (kvs.map (·.2)) ->
  (∀u,fH ks us x=Od u->∃v,fq kvs (PN x)=Od v/\Rep C S H u v)/\(fq kvs (PN x)).isSome=OX (x∈ks)
 |[],us,kvs,h1,h2=>by
  have:kvs=[]:=by simpa using h1
  subst this;exact⟨λu h=>by cases us<;>simp[fH]at h,by simp[fq]⟩
 |k::ks,us,[],h1,h2=>by simp at h1
 |k::ks,[],p::kvs,h1,h2=>by simp[ai]at h2
 |k::ks,u0::us,p::kvs,h1,h2=>by
  obtain⟨v,r,e,h3,h4⟩:=h2;rw[O5]at e;cases e;rw[O5,O5,Sz]at h1;obtain⟨i1,i2⟩:=d0 (x:=x) h1.2 h4;by_cases hk:k=x
  ·subst hk;refine⟨λu h=>?_,?_⟩
   ·simp[fH]at h;subst h;exact⟨p.2,dw h1.1,h3⟩
   ·rw[dw h1.1];simp
  ·have hp:¬p.1=PN x:=by rw[h1.1];intro z;exact hk (US z)
   refine⟨λu h=>?_,?_⟩
   ·simp[fH,hk]at h;obtain⟨v,e,q⟩:=i1 u h;exact⟨v,by rw[dy hp];exact e,q⟩
   ·rw[dy hp,i2];simp[Qs hk]
theorem y_(hu:X.A.units+3<Qr):Dn X (QC .In) (λx y H Q=>∃k d ks,dz X.K H x k/\y=.ref d/\dg X.prog X.w X.K H d ks/\Q (.bl (OX (k∈ks))) H):=by
 intro pins s σ H x y v u Q I rx ry h;obtain⟨k,d,ks,⟨a,b,rfl,h1,h2⟩,rfl,⟨xs,h3,h4,h5⟩,q⟩:=h;cases rx;cases ry;obtain⟨hd,dd⟩:=iu I h3 h5;refine wpAny_in_heap hu (gW I ⟨a,b,rfl,h1,h2⟩) hd dd ?_;exact⟨.bl (OX (k∈ks)),H,I.tok _,by rw[eS,h4];rfl,q⟩
theorem Rep.row{S:O8->Prop}(h:Rep C S H (AL r) v):dz C.K H v r:=by
 obtain⟨a,vs,e,h1,v1,r1,e1,h2,v2,r2,e2,h3,h4⟩:=h;cases h4;have e3:v1=.str r.1:=h2;obtain⟨b,ws,e4,h5,h6⟩:=h3;rw[ai.strs]at h6;subst e1 e2 e3 e4 h6;exact⟨a,b,e,h1,h5⟩
theorem Rep.jF{S:O8->Prop}(h:Rep C S H u v):OX (v=.Ce)=jF u:=by
 cases u with
 |Ce=>have:v=.Ce:=h;subst this;rfl
 |bl b=>have:v=.bl b:=h;subst this;rfl
 |int b=>have:v=.int b:=h;subst this;rfl
 |str b=>have:v=.str b:=h;subst this;rfl
 |CU ks us=>obtain⟨a,rfl,_⟩:=h;rfl
 |Dt ks=>obtain⟨a,rfl,_⟩:=h;rfl
 |_=>obtain⟨a,vs,rfl,_⟩:=h;rfl
theorem s9:Dn X (QC .Is) (λx y H Q=>∃i j,x=.bl i/\y=.bl j/\Q (.bl (i==j)) H):=by
 intro pins s σ H x y v u Q I rx ry h;obtain⟨i,j,rfl,rfl,q⟩:=h;cases rx;cases ry;cases i<;>cases j<;>exact OU (j8 I q rfl)
theorem nQ:Dn X (QC .IsNot) (λx y H Q=>∃i j,x=.bl i/\y=.bl j/\Q (.bl (!(i==j))) H):=by
 intro pins s σ H x y v u Q I rx ry h;obtain⟨i,j,rfl,rfl,q⟩:=h;cases rx;cases ry;cases i<;>cases j<;>exact OU (j8 I q rfl)
theorem gp(hP:C.P=X.prog)(hw:C.w=X.w)(hK:C.K=X.K)(hu:X.A.units+60<Qr)(t:GL C c0 c x y vx vy)(I:Inv X pins c.σ c.H s)(rx:RelV vx v)(ry:RelV vy u)(h:bg op x.2 y.2=Od b):
  OZ (O9 X.prog X.w) X.A (QC op.op v u) (y9 X pins c b) X.xe s:=by
 obtain⟨hσ,ok,n,tx,ty,_⟩:=t;obtain⟨kx,ux⟩:=x;obtain⟨ky,uy⟩:=y
 dsimp only at h tx ty
 have has:∀neg:Bool,∀b',v3 ux uy=Od b'->OZ (O9 X.prog X.w) X.A (QC (if neg then .NotIn else .In) v u) (y9 X pins c (if neg then !b' else b')) X.xe s:=by
  intro neg b' h;have mx:=tx.read ok;have my:=ty.read ok;unfold v3 at h;split at h
  ·obtain⟨a,vs,rfl,h1,h2⟩:=my;cases ry;unfold GI at h;split at h
   ·rename_i hh;cases h;exact AK I hK hu mx rx h2 (.inl h1.sq) hh.1 hh.2 ⟨by cases neg<;>rfl,I⟩
   ·cases h
  ·obtain⟨a,vs,rfl,h1,h2⟩:=my;cases ry;unfold GI at h;split at h
   ·rename_i hh;cases h;exact AK I hK hu mx rx h2 (.inr h1) hh.1 hh.2 ⟨by cases neg<;>rfl,I⟩
   ·cases h
  ·cases h;have ex:vx=_:=mx;obtain⟨a,kvs,rfl,h1,h2,h3⟩:=ty.dict ok;cases ry;subst ex;have hs:=λz:Str=>(d0 (x:=z) h2 h3).2;cases neg with
   |false=>exact B1 ⋯ I (jh.k (k:=PN _) h1) rx λs' I'=>⟨by rw[hs];rfl,I'⟩
   |true=>exact vL ⋯ I (jh.k (k:=PN _) h1) rx λs' I'=>⟨by rw[hs];rfl,I'⟩
  ·rw[O1]at h;obtain⟨r,h1,h2⟩:=h;have e:=iM h1;subst e;have hr:=mx.row;obtain⟨a,ea,h3⟩:=ty.pk ok;rw[hK]at hr h3;rw[hP,hw]at h3;subst h2;cases neg with
   |false=>exact cj (y_ ⋯) I rx ry ⟨r,a,_,hr,ea,h3,rfl,rfl⟩
   |true=>exact cj (qJ ⋯) I rx ry ⟨r,a,_,hr,ea,h3,rfl,rfl⟩
  ·cases h
 unfold bg at h;split at h
 ·split at h
  ·rename_i hh;cases h;exact(AI (n:=50) (.of I hK _ _ _ _ hh.1 (tx.read ok) rx) (.of I hK _ _ _ _ hh.2 (ty.read ok) ry) ⋯).1 _ _ _ _ ⟨rfl,I⟩
  ·cases h
 ·split at h
  ·rename_i hh;cases h;exact(AI (n:=50) (.of I hK _ _ _ _ hh.1 (tx.read ok) rx) (.of I hK _ _ _ _ hh.2 (ty.read ok) ry) ⋯).2 _ _ _ _ ⟨rfl,I⟩
  ·cases h
 ·cases h;exact cj An I rx ry ⟨_,_,tx.int ok,ty.int ok,rfl,rfl⟩
 ·cases h;exact cj Ao I rx ry ⟨_,_,tx.int ok,ty.int ok,rfl,rfl⟩
 ·cases h;exact cj Ap I rx ry ⟨_,_,tx.int ok,ty.int ok,rfl,rfl⟩
 ·cases h;exact cj Aq I rx ry ⟨_,_,tx.int ok,ty.int ok,rfl,rfl⟩
 ·exact has OR b h
 ·rw[O1]at h;obtain⟨b',h1,rfl⟩:=h;exact has OP b' h1
 ·cases h;have e:=ty.Ce ok;exact cj yr I rx ry ⟨e,by rw[(tx.read ok).jF],rfl⟩
 ·cases h;have e:=ty.Ce ok;exact cj vA I rx ry ⟨e,by rw[(tx.read ok).jF],rfl⟩
 ·cases h;exact cj s9 I rx ry ⟨_,_,tx.bl ok,ty.bl ok,rfl,rfl⟩
 ·cases h;exact cj nQ I rx ry ⟨_,_,tx.bl ok,ty.bl ok,rfl,rfl⟩
 ·cases h
theorem wd(hP:C.P=X.prog)(hw:C.w=X.w)(hK:C.K=X.K)(hu:X.A.units+60<Qr)(ha:PE X a (Cj C ma))(hb:PE X b (Cj C mb))(hm:Vu op.op b=OR):
  PE X (.Compare a [op.op] [b] pos) (Cj C (ma >>= λx=>mb >>= λy=>ar [x,y] >>= λ_=>M.Cu (bg op x.2 y.2) >>= λc=>pure (.loc,.bl c))):=by
 rintro pins s σ H Q I ⟨c0,rfl,rfl,ok,h⟩;refine wpAny_Compare1 (two ha hb I ok h λx y c vx vy v u s2 t I2 rx ry w=>?_) hm;rw[ae]at w;obtain⟨r,e,q⟩:=bC.mp w;rw[aj]at q;refine Cm (gp hP hw hK hu t I2 rx ry e) λz s' ⟨e,I'⟩=>?_;subst e;exact⟨.bl r,c.H,by rw[<-t.hσ];exact I',rfl,q c (.bl r) t.hσ rfl t.ok t.nx rfl⟩
theorem we(hP:C.P=X.prog)(hw:C.w=X.w)(hK:C.K=X.K)(hu:X.A.units+60<Qr)(ha:PE X a (Cj C ma))(hb:PE X b (Cj C mb))(hm:Vu op.op b=OR):
  PT X (.Compare a [op.op] [b] pos) (Dh C (ma >>= λx=>mb >>= λy=>ar [x,y] >>= λ_=>M.Cu (bg op x.2 y.2))):=by
 rintro pins s σ H Q I ⟨c0,rfl,rfl,ok,h⟩;refine wpAny_isTrue_Compare1 (two (f:=λv u=>QC op.op v u) (Q':=λ_ _ c s=>OZ (O9 X.prog X.w) X.A (Ww c) (TP X pins c0.σ Q) X.xe s) ha hb I ok h λx y c vx vy v u s2 t I2 rx ry w=>?_) hm;obtain⟨r,e,q⟩:=bC.mp w;refine Cm (gp hP hw hK hu t I2 rx ry e) λz s' ⟨e,I'⟩=>?_;subst e;exact P_ ⟨c.H,by rw[<-t.hσ];exact I',q c t.hσ rfl t.ok t.nx⟩
end
section
def xK(C:Ct)(c0:Cf)(Q:Bool->Hp->Prop)(b:Bool)(st':ax):Prop:=∀c,c.σ=c0.σ->c.st=st'->Ok C c->Nx c0 c->Q b c.H
theorem kN(hσ:c1.σ=c0.σ)(ok:Ok C c1)(n:Nx c0 c1)(h:W m c1.st (bI C c0 Q)):Cj C m c0.σ c1.H Q :=
 ⟨c1,hσ,rfl,ok,h.mono λr st h2 c2 v e3 e4 CG n2 r2=>h2 c2 v e3 e4 CG (n.trans n2) (r2.from n)⟩
theorem s_(hσ:c1.σ=c0.σ)(ok:Ok C c1)(n:Nx c0 c1)(h:W m c1.st (xK C c0 Q)):Dh C m c0.σ c1.H Q :=
 ⟨c1,hσ,rfl,ok,h.mono λr st h2 c2 e3 e4 CG n2=>h2 c2 e3 e4 CG (n.trans n2)⟩
theorem aO(ok:Ok C c0)(h:W (ma >>= k) c0.st Cq)
  (hz:∀x c v,Ih C c0 c x v->W (k x) c.st Cq->Z v c.H):Cj C ma c0.σ c0.H Z:=by
 rw[ae]at h;exact⟨c0,rfl,rfl,ok,h.mono λx st1 h1 c1 vx e1 e2 Co n1 r1=>hz x c1 vx ⟨e1,Co,n1,r1⟩ (by rw[e2];exact h1)⟩
theorem cW(ok:Ok C c0)(h:W (ta >>= k) c0.st Cq)
  (hz:∀b c,c.σ=c0.σ->Ok C c->Nx c0 c->W (k b) c.st Cq->Z b c.H):Dh C ta c0.σ c0.H Z:=by
 rw[ae]at h;exact⟨c0,rfl,rfl,ok,h.mono λx st1 h1 c1 e1 e2 Co n1=>hz x c1 e1 Co n1 (by rw[e2];exact h1)⟩
def AM(m:M (Kd×U))(x:Kd×U):M (Kd×U):=match x.2 with
 |.bl OP=>m
 |.bl OR=>pure (.loc,.bl OR)
 |_=>M.fail
def LH(m:M (Kd×U))(x:Kd×U):M (Kd×U):=match x.2 with
 |.bl OP=>pure (.loc,.bl OP)
 |.bl OR=>m
 |_=>M.fail
def AN(x:Kd×U):M (Kd×U):=match x.2 with
 |.bl c=>pure (.loc,.bl !c)
 |_=>M.fail
theorem snd_and(ha:PE X a (Cj C ma))(hb:PE X (.BoolOp .And (b::rest) pos) (Cj C mb)):PE X (.BoolOp .And (a::b::rest) pos) (Cj C (ma >>= AM mb)):=by
 refine PE.weak (yf ha hb) ?_;rintro σ H Q ⟨c0,rfl,rfl,ok,h⟩;refine aO ok h λx c v t w=>?_;obtain⟨k,u⟩:=x;obtain⟨hσ,Co,n,r⟩:=t;unfold AM at w;split at w
 ·rename_i e
  dsimp only at e r
  subst e;exact⟨OP,r.bl Co,by rw[XI rfl];exact kN hσ Co n w⟩
 ·rename_i e
  dsimp only at e r
  subst e;rw[aj]at w;exact⟨OR,r.bl Co,by rw[XM Po];exact w c (.bl OR) hσ rfl Co n rfl⟩
 ·exact(aq.mp w).elim
theorem za(ha:PE X a (Cj C ma))(hb:PE X (.BoolOp .Or (b::rest) pos) (Cj C mb)):PE X (.BoolOp .Or (a::b::rest) pos) (Cj C (ma >>= LH mb)):=by
 refine PE.weak (Ad ha hb) ?_;rintro σ H Q ⟨c0,rfl,rfl,ok,h⟩;refine aO ok h λx c v t w=>?_;obtain⟨k,u⟩:=x;obtain⟨hσ,Co,n,r⟩:=t;unfold LH at w;split at w
 ·rename_i e
  dsimp only at e r
  subst e;rw[aj]at w;exact⟨OP,r.bl Co,by rw[XI rfl];exact w c (.bl OP) hσ rfl Co n rfl⟩
 ·rename_i e
  dsimp only at e r
  subst e;exact⟨OR,r.bl Co,by rw[XM Po];exact kN hσ Co n w⟩
 ·exact(aq.mp w).elim
theorem wg(ha:PE X a (Cj C ma)):PE X (.UnaryOp .Not a pos) (Cj C (ma >>= AN)):=by
 refine PE.weak (yg ha) ?_;rintro σ H Q ⟨c0,rfl,rfl,ok,h⟩;refine aO ok h λx c v t w=>?_;obtain⟨k,u⟩:=x;obtain⟨hσ,Co,n,r⟩:=t;unfold AN at w;split at w
 ·rename_i e
  dsimp only at e r
  subst e;rw[aj]at w;exact⟨_,r.bl Co,w c (.bl _) hσ rfl Co n rfl⟩
 ·exact(aq.mp w).elim
theorem wj(hc:PT X d (Dh C ta))(ha:PE X a (Cj C ma))(hb:PE X b (Cj C mb)):PE X (.IfExp d a b pos) (Cj C (ta >>= λp=>if p=OP then ma else mb)):=by
 refine PE.weak (rO hc ha hb) ?_;rintro σ H Q ⟨c0,rfl,rfl,ok,h⟩;refine cW ok h λp c hσ Co n w=>?_;cases p with
 |true=>rw[XI rfl]at w ⊢;exact kN hσ Co n w
 |false=>rw[XM Po]at w ⊢;exact kN hσ Co n w
theorem wm(ha:PT X a (Dh C ta)):PT X (.UnaryOp .Not a pos) (Dh C (ta >>= λb=>pure !b)):=by
 refine PT.weak (ye ha) ?_;rintro σ H Q ⟨c0,rfl,rfl,ok,h⟩;refine cW ok h λp c hσ Co n w=>?_;rw[aj]at w;exact w c hσ rfl Co n
theorem wo(ha:PT X a (Dh C ta))(hb:PW X (.BoolOp .And (b::rest) pos) (Dh C tb)):PW X (.BoolOp .And (a::b::rest) pos) (Dh C (ta >>= λp=>if p=OP then tb else pure OR)):=by
 have h0:=yd ha hb;rintro wh pins s σ H Q I ⟨c0,rfl,rfl,ok,h⟩;refine h0 wh pins s c0.σ c0.H Q I (cW ok h λp c hσ Co n w=>?_);cases p with
 |true=>rw[XI rfl]at w ⊢;exact s_ hσ Co n w
 |false=>rw[XM Po]at w ⊢;rw[aj]at w;exact w c hσ rfl Co n
theorem zb(ha:PT X a (Dh C ta))(hb:PW X (.BoolOp .Or (b::rest) pos) (Dh C tb)):PW X (.BoolOp .Or (a::b::rest) pos) (Dh C (ta >>= λp=>if p=OP then pure OP else tb)):=by
 have h0:=Aa ha hb;rintro wh pins s σ H Q I ⟨c0,rfl,rfl,ok,h⟩;refine h0 wh pins s c0.σ c0.H Q I (cW ok h λp c hσ Co n w=>?_);cases p with
 |true=>rw[XI rfl]at w ⊢;rw[aj]at w;exact w c hσ rfl Co n
 |false=>rw[XM Po]at w ⊢;exact s_ hσ Co n w
theorem pA{us:List α}{vs:List β}(h:us.length=vs.length):(!us.isEmpty)=!vs.isEmpty:=by
 cases us<;>cases vs<;>simp_all
theorem cJ(ha:PE X a (Cj C ma))(hK:C.K=X.K)(he:∀whole,isTrue a X.env whole=(do let v <-whole;U1 a.pos;RX [v] (Ww v))):PT X a (Dh C (ma >>= λx=>M.Cu (jo x.2))):=by
 refine PT.weak (rX ha he) ?_;rintro σ H Q ⟨c0,rfl,rfl,ok,h⟩;refine aO ok h λx c v t w=>?_;obtain⟨k,u⟩:=x;obtain⟨hσ,Co,n,r⟩:=t;obtain⟨p,e,q⟩:=bC.mp w
 dsimp only at e r
 refine⟨p,?_,q c hσ rfl Co n⟩;unfold jo at e;split at e
 ·cases e;rw[r.bl Co];rfl
 ·cases e;obtain⟨a,vs,rfl,h1,h2⟩:=r.list Co;exact .inl ⟨vs,hK▸h1,pA h2.len⟩
 ·cases e;obtain⟨a,vs,rfl,h1,h2⟩:=r.tuple Co;rw[hK]at h1;exact .inr (.inl ⟨vs,h1,pA h2.len⟩)
 ·split at e
  ·cases e;rw[r.str Co];exact⟨by assumption,rfl⟩
  ·cases e
 ·cases e
theorem td(hP:C.P=X.prog)(hw:C.w=X.w)(hK:C.K=X.K)(hu:X.A.units+60<Qr)(ha:PE X a (Cj C ma))(hb:PE X b (Cj C mb))(hd:PE X d (Cj C md))(hm:W7 [o1.op,o2.op] [b,d]=OR):
  PE X (.Compare a [o1.op,o2.op] [b,d] pos) (Cj C (ma >>= λx=>mb >>= λy=>ar [x,y] >>= λ_=>M.Cu (bg o1 x.2 y.2) >>= λp=>if p=OP then(md >>= λz=>ar [y,z] >>= λ_=>M.Cu (bg o2 y.2 z.2) >>= λq=>pure (.loc,.bl q)) else pure (.loc,.bl OR))):=by
 rintro pins s σ H Q I ⟨c0,rfl,rfl,ok,h⟩;refine Compare_chain (Cm (two ha hb I ok h λx y c vx vy v u s2 t I2 rx ry w=>?_) λv s1 h1=>chain_link (Cm h1 λu s2 h2=>h2)) hm;rw[ae]at w;obtain⟨p,e,q⟩:=bC.mp w;refine Cm (gp hP hw hK hu t I2 rx ry e) λz s' ⟨e,I'⟩=>?_;subst e;refine P_ ?_;cases p with
 |false =>
  rw[XM Po,aj]at q;exact ite_ff ⟨.bl OR,c.H,by rw[<-t.hσ];exact I',rfl,q c (.bl OR) t.hσ rfl t.ok t.nx rfl⟩
 |true =>
  rw[XI rfl,ae]at q;refine ite_tt (chain_last (Cm (hd pins s' c.σ c.H (λvz H2=>∃z c2,c2.H=H2/\GL C c0 c2 y z vy vz/\W (M.Cu (bg o2 y.2 z.2) >>= λq=>pure (.loc,.bl q)) c2.st (bI C c0 Q)) I' ⟨c,rfl,rfl,t.ok,q.mono λz st2 h2 c2 vz e3 e4 CG n2 r2=>?_⟩) ?_))
  ·rw[ae,br]at h2;subst e4;rw[cB]at h2;exact⟨z,c2,rfl,⟨e3.trans t.hσ,CG,t.nx.trans n2,(t.ry.w.on t.ok n2 e3).t h2.1.1,r2.from t.nx,gn t.ry.w r2.w⟩,h2.2⟩
  ·rintro zv s3 ⟨vz,H2,I3,rz,z,c2,rfl,t2,h2⟩;rw[ae]at h2;obtain⟨q',e',w'⟩:=bC.mp h2;rw[aj]at w';refine Cm (gp (pins:=pins) hP hw hK hu t2 (by rw[t2.hσ,<-t.hσ];exact I3) ry rz e') λz' s4 ⟨e4,I4⟩=>?_;subst e4;exact⟨.bl q',c2.H,by rw[<-t2.hσ];exact I4,rfl,w' c2 (.bl q') t2.hσ rfl t2.ok t2.nx rfl⟩
theorem tf(hP:C.P=X.prog)(hw:C.w=X.w)(hK:C.K=X.K)(hu:X.A.units+60<Qr)(ha:PE X a (Cj C ma))(hb:PE X b (Cj C mb))(hd:PE X d (Cj C md))(hm:W7 [o1.op,o2.op] [b,d]=OR):
  PT X (.Compare a [o1.op,o2.op] [b,d] pos) (Dh C (ma >>= λx=>mb >>= λy=>ar [x,y] >>= λ_=>M.Cu (bg o1 x.2 y.2) >>= λp=>if p=OP then(md >>= λz=>ar [y,z] >>= λ_=>M.Cu (bg o2 y.2 z.2)) else pure OR)):=by
 rintro pins s σ H Q I ⟨c0,rfl,rfl,ok,h⟩;refine isTrue_chain (Cm (two ha hb I ok h λx y c vx vy v u s2 t I2 rx ry w=>?_) λv s1 h1=>test_link (Cm h1 λu s2 h2=>h2)) hm;rw[ae]at w;obtain⟨p,e,q⟩:=bC.mp w;refine Cm (gp hP hw hK hu t I2 rx ry e) λz s' ⟨e,I'⟩=>?_;subst e;refine P_ ?_;cases p with
 |false =>
  rw[XM Po,aj]at q;exact ite_ff ⟨c.H,by rw[<-t.hσ];exact I',q c t.hσ rfl t.ok t.nx⟩
 |true =>
  rw[XI rfl,ae]at q;refine ite_tt (test_last (Cm (hd pins s' c.σ c.H (λvz H2=>∃z c2,c2.H=H2/\GL C c0 c2 y z vy vz/\W (M.Cu (bg o2 y.2 z.2)) c2.st (xK C c0 Q)) I' ⟨c,rfl,rfl,t.ok,q.mono λz st2 h2 c2 vz e3 e4 CG n2 r2=>?_⟩) ?_))
  ·rw[ae,br]at h2;subst e4;rw[cB]at h2;exact⟨z,c2,rfl,⟨e3.trans t.hσ,CG,t.nx.trans n2,(t.ry.w.on t.ok n2 e3).t h2.1.1,r2.from t.nx,gn t.ry.w r2.w⟩,h2.2⟩
  ·rintro zv s3 ⟨vz,H2,I3,rz,z,c2,rfl,t2,h2⟩;obtain⟨q',e',w'⟩:=bC.mp h2;refine Cm (gp (pins:=pins) hP hw hK hu t2 (by rw[t2.hσ,<-t.hσ];exact I3) ry rz e') λz' s4 ⟨e4,I4⟩=>?_;subst e4;exact P_ ⟨c2.H,by rw[<-t2.hσ];exact I4,w' c2 t2.hσ rfl t2.ok t2.nx⟩
end
section
theorem bM.from(n:Nx c0 c1):bM C c1 c rs vs->bM C c0 c rs vs:=by
 intro h;induction rs generalizing vs with
 |nil=>exact h
 |cons r rs ih=>obtain⟨v,t,e,h1,h2,h3⟩:=h;exact⟨v,t,e,h1.from n,ih h2,h3⟩
theorem bM.get{i:Nat}(h:bM C c0 c rs vs)(e:rs[i]?=Od r)(e':vs[i]?=Od v):dF C c0 c r.1 r.2 v:=by
 induction rs generalizing vs i with
 |nil=>simp at e
 |cons r' rs ih =>
  obtain⟨v',t,rfl,h1,h2,h3⟩:=h;cases i with
  |zero=>simp at e e';subst e e';exact h1
  |succ i=>exact ih h2 (by simpa using e) (by simpa using e')
theorem wq:PA X [] (Dk C (pure [])):=by
 rintro pos pins s σ H Q I ⟨c0,rfl,rfl,ok,h⟩;rw[aj]at h;exact ie pos pins s c0.σ c0.H Q I (h c0 [] rfl rfl ok (Nx.refl c0) rfl)
theorem tm(ha:PE X e (Cj C m))(hr:PA X es (Dk C ms))(hs:Pj (e::es) X.env=(OR,QK e X.env)::Pj es X.env):PA X (e::es) (Dk C (m >>= λr=>ms >>= λrs=>pure (r::rs))):=by
 rintro pos pins s σ H Q I ⟨c0,rfl,rfl,ok,h⟩;refine dW ha hr hs pos pins s c0.σ c0.H Q I (aO ok h λr c1 v t w=>?_);rw[ae]at w;refine⟨c1,t.hσ,rfl,t.ok,w.mono λrs st2 h2 c2 vs e3 e4 CG n2 r2=>?_⟩;rw[aj]at h2;refine h2 c2 (v::vs) e3 e4 CG (t.nx.trans n2) ⟨v,vs,rfl,t.rx.w.on t.ok n2 (e3.trans t.hσ.symm),r2.from t.nx,λhk i r' v' e5 e6 CL=>?_⟩;exact gn t.rx.w (r2.get e5 e6) hk CL
structure Ed(C:Ct)(c0 c:Cf)(rs:List (Kd×U))(vs:List V):Prop where
 hσ:c.σ=c0.σ
 ok:Ok C c
 nx:Nx c0 c
 rep:bM C c0 c rs vs
 GN:aU rs c.st
theorem args{k:List (Kd×U)->M β}{Cq:β->ax->Prop}(ha:PA X es (Dk C ms))(I:Inv X pins c0.σ c0.H s)(ok:Ok C c0)(h:W (ms >>= λrs=>ar rs >>= λ_=>k rs) c0.st Cq)(pos:Pos):
  OZ (O9 X.prog X.w) X.A (WN (QP pos (Pj es X.env))) (λus s1=>∃rs c vs,Ed C c0 c rs vs/\Inv X pins c.σ c.H s1/\Vals vs us/\W (k rs) c.st Cq) X.xe s:=by
 rw[ae]at h;refine Cm (ha pos pins s c0.σ c0.H (λvs H1=>∃rs c,c.H=H1/\Ed C c0 c rs vs/\W (k rs) c.st Cq) I ⟨c0,rfl,rfl,ok,h.mono λrs st1 h1 c1 vs e1 e2 Co n1 r1=>?_⟩) ?_
 ·rw[ae,br]at h1;subst e2;exact⟨rs,c1,rfl,⟨e1,Co,n1,r1,h1.1⟩,h1.2⟩
 ·rintro us s1 ⟨vs,H1,I1,rv,rs,c1,rfl,t,w⟩;exact⟨rs,c1,vs,t,by rw[t.hσ];exact I1,rv,w⟩
theorem Ed.one(t:Ed C c0 c [r] vs):∃v,vs=[v]/\aC C c0 c r.1 r.2 v:=by
 obtain⟨v,t',rfl,h1,h2,_⟩:=t.rep;cases h2;exact⟨v,rfl,h1.t t.GN⟩
theorem Ok.share(ok:Ok C c)(h0:C.H₀ r=OQ)(hH:∃o,c.H r=Od o)(hl:st'.length=c.st.length)
  (Cp:∀(i:Nat) k u,st'[i]?=Od (Od (k,u))->(∃v,c.σ[i]?=Od (Od v)/\dC C (λa=>c.S a\/a=r) c.H k u v)/\(k.root=OP->c.st[i]?=Od (Od (k,u)))) (FK:EH C {c with S:=λa=>c.S a\/a=r,st:=st' }) :
  Ok C {c with S:=λa=>c.S a\/a=r,st:=st' }:=by
 refine⟨ok.same,λa z=>?_,ok.par,ok.io,by rw[show({c with S:=λa=>c.S a\/a=r,st:=st' }:Cf).st.length=st'.length from rfl,hl];exact ok.len,λi k u e=>(Cp i k u e).1,λi j k k' u u' r' hk CL e1 e2 e3 e4=>?_,FK⟩
 ·rcases z with z|rfl
  ·exact ok.D0 a z
  ·exact⟨h0,hH⟩
 ·exact ok.inj i j k k' u u' r' hk CL ((Cp i k u e1).2 hk) ((Cp j k' u' e2).2 CL) e3 e4
theorem Ok.zc(Dl:Ok C c0)(ok:Ok C c)(n:Nx c0 c)(h0:c0.H r=OQ)(hR:¬c.R r)(hr:bW C c.S c.H r u):
  Ok C {c with S:=λa=>c.S a\/a=r}/\Nx c0 {c with S:=λa=>c.S a\/a=r}:=by
 obtain⟨o,ho,_⟩:=hr.some;refine⟨ok.share (st':=c.st) (Dl.kM h0).1 ⟨o,ho⟩ rfl (λi k u e=>⟨?_,λ_=>e⟩) (ok.dd.hs (.up λa=>.inl) λj a z=>⟨λq=>q.elim (ok.root (.inr ⟨j,z⟩)).1 λe=>hR (.inr ⟨j,e▸z⟩),λo q=>q⟩),⟨⟨n.keep,n.there,n.roots,λa z=>.inl (n.sub a z),λa z=>?_⟩⟩⟩
 ·obtain⟨v,e1,e2⟩:=ok.sl i k u e;have Nv:Mv c.S c.H (λa=>c.S a\/a=r) c.H:=.up λa=>.inl;refine⟨v,e1,e2.mv Nv (.up λa z=>z.imp id .inl) λhk r' er=>⟨?_,λo q=>q⟩⟩;obtain⟨Kw,DS,q1,_⟩:=e2.rt hk;rw[er]at DS;cases DS;rintro(z|rfl)
  ·exact q1 z
  ·exact hR (.inl ⟨i,k,u,hk,e,by rw[e1,er]⟩)
 ·rcases z with z|rfl
  ·exact n.new a z
  ·exact .inr (.inr h0)
theorem Ok.tq(ok:Ok C c)(n:Nx c0 c)(hj:c.st[j]?=Od (Od (.own,u)))(hv:c.σ[j]?=Od (Od (.ref r))):
  Ok C {c with S:=λa=>c.S a\/a=r,st:=c.st.set j (Od (.loc,u))}/\Nx c0 {c with S:=λa=>c.S a\/a=r,st:=c.st.set j (Od (.loc,u))}/\Rep C (λa=>c.S a\/a=r) c.H u (.ref r):=by
 obtain⟨v',e1,r',er,q1,q2,q3,q4⟩:=ok.sl j _ _ hj;rw[hv]at e1;cases e1;cases er;have DA:Rep C (λa=>c.S a\/a=r) c.H u (.ref r):=q4.rep (λa=>.inl) (.inr rfl);obtain⟨o,ho,_⟩:=q4.some;have E2:j<c.st.length:=(O6.mp hj).1;have Df:∀(i:Nat) k u',(c.st.set j (Od (.loc,u)))[i]?=Od (Od (k,u'))->i≠j->c.st[i]?=Od (Od (k,u')):=λi k u' e ne=>by rw[Pk (Qs ne)]at e;exact e
 have FL:c.R1 r:=⟨j,.own,u,rfl,hj,hv⟩
 have dD:∀(i:Nat) (u':U),(c.st.set j (Od (.loc,u)))[i]?=Od (Od (.Ci,u'))->c.st[i]?=Od (Od (.Ci,u')):=λi u' e=>by
  by_cases CT:i=j
  ·subst CT;rw[Ph E2]at e;cases e
  ·exact Df i .Ci u' e CT
 have b1:∀a,({c with S:=λa=>c.S a\/a=r,st:=c.st.set j (Od (.loc,u))}:Cf).R1 a->c.R1 a:=λa DQ=>by
  obtain⟨i,k,u',hk,e,e'⟩:=DQ;by_cases CT:i=j
  ·subst CT;rw[Ph E2]at e;cases e;cases hk
  ·exact⟨i,k,u',hk,Df i k u' e CT,e'⟩
 have FK:EH C {c with S:=λa=>c.S a\/a=r,st:=c.st.set j (Od (.loc,u))}:=ok.dd.of rfl (λi u' e=>⟨dD i u' e,rfl⟩) (λa z=>.inl (b1 a z)) (.up λa=>.inl) λi a z=>⟨λq=>q.elim (ok.root (.inr ⟨i,z⟩)).1 λe=>ok.dd.d1 i a z (e▸FL),λo q=>q⟩
 refine⟨ok.share (st':=c.st.set j (Od (.loc,u))) q3 ⟨o,ho⟩ (by simp) (λi k u' e=>?_) FK,⟨⟨n.keep,n.there,λa z=>?_,λa z=>.inl (n.sub a z),λa z=>?_⟩⟩,DA⟩
 ·by_cases CT:i=j
  ·subst CT;rw[Ph E2]at e;cases e;exact⟨⟨.ref r,hv,DA⟩,λz=>nomatch z⟩
  ·have e0:=Df i k u' e CT;obtain⟨v,e1,e2⟩:=ok.sl i k u' e0;refine⟨⟨v,e1,e2.mv (.up λa=>.inl) (.up λa z=>z.imp id .inl) λhk r' er=>⟨?_,λo q=>q⟩⟩,λ_=>e0⟩;obtain⟨Kw,DS,p1,_⟩:=e2.rt hk;rw[er]at DS;cases DS;rintro(z|rfl)
   ·exact p1 z
   ·exact CT (ok.inj i j k .own u' u r' hk rfl e0 hj (by rw[e1,er]) hv)
 ·rcases z with z|⟨i,u',r',e1,e2,e3⟩
  ·exact n.roots a (.inl (b1 a z))
  ·exact n.roots a (.inr ⟨i,u',r',dD i u' e1,e2,e3⟩)
 ·rcases z with z|rfl
  ·exact n.new a z
  ·rcases n.roots a (.inl ⟨j,.own,u,rfl,hj,hv⟩) with z|z
   ·exact .inr (.inl z)
   ·exact .inr (.inr z)
theorem kO(Dl:Ok C c0)(ok:Ok C c)(n:Nx c0 c)(hr:dF C c0 c r.1 r.2 v)(h:W (lift r) c.st Cq):
  ∃(S':O8->Prop) (st':ax) (u:U),(∀a,c.S a->S' a)/\Ok C {c with S:=S',st:=st' }/\Nx c0 {c with S:=S',st:=st' }/\Rep C S' c.H u v/\Cq u st' /\
   (∀a,S' a->c.S a\/v=.ref a/\(r.1=.own\/c.R a))/\∀a,({c with S:=S',st:=st' }:Cf).R a->c.R a:=by
 obtain⟨k,u⟩:=r;cases k with
 |own =>
  rw[show lift (.own,u)=pure u from rfl,aj]at h;obtain⟨r,e,h1,h2,h3,h4⟩:=hr;obtain⟨Cy,n'⟩:=Ok.zc Dl ok n h1 h3 h4;refine⟨_,c.st,u,λa=>.inl,Cy,n',by rw[e];exact h4.rep (λa=>.inl) (.inr rfl),h,λa z=>?_,λa z=>z⟩;rcases z with z|rfl
  ·exact .inl z
  ·exact .inr ⟨e,.inl rfl⟩
 |loc =>
  rw[show lift (.loc,u)=pure u from rfl,aj]at h;exact⟨c.S,c.st,u,λa=>id,ok,n,hr,h,λa z=>.inl z,λa z=>z⟩
 |any =>
  rw[show lift (.any,u)=if CI u=OP then pure u else M.fail from rfl]at h;split at h
  ·rw[aj]at h;exact⟨c.S,c.st,u,λa=>id,ok,n,Rep.CI (by assumption) hr,h,λa z=>.inl z,λa z=>z⟩
  ·exact(aq.mp h).elim
 |bor j =>
  obtain⟨x,st',e,hp⟩:=h;rw[show lift (.bor j,u) c.st=match c.st[j]? with|some (Od (.own,u))=>Od (Ex.ok u,c.st.set j (Od (.loc,u)))|_=>OQ from rfl]at e;split at e
  ·rename_i w hj;cases e;obtain⟨v',e1,r,er,_⟩:=ok.sl j _ _ hj;have hv:c.σ[j]?=Od (Od v):=hr;rw[hv]at e1;cases e1;subst er;obtain⟨Cy,n',rep⟩:=ok.tq n hj hv;refine⟨_,_,_,λa=>.inl,Cy,n',rep,hp,λa z=>?_,λa z=>?_⟩
   ·rcases z with z|rfl
    ·exact .inl z
    ·exact .inr ⟨rfl,.inr (.inl ⟨j,.own,_,rfl,hj,hv⟩)⟩
   ·rcases z with⟨i,k,u',hk,e,e'⟩|⟨i,u',r',e,e',Nw⟩
    rotate_left 1
    ·by_cases CT:i=j
     ·subst CT;have E2:i<c.st.length:=(O6.mp hj).1;rw[Ph E2]at e;cases e
     ·rw[Pk (Qs CT)]at e;exact .inr ⟨i,u',r',e,e',Nw⟩
    by_cases CT:i=j
    ·subst CT;have E2:i<c.st.length:=(O6.mp hj).1;rw[Ph E2]at e;cases e;cases hk
    ·rw[Pk (Qs CT)]at e;exact .inl ⟨i,k,u',hk,e,e'⟩
  ·cases e
 |_=>exact hr.elim
theorem fJ:∀{rs:List (Kd×U)}{vs:List V}{c:Cf}{Cq:List U->ax->Prop},Ok C c0->Ok C c->Nx c0 c->bM C c0 c rs vs->W (cp rs) c.st Cq ->
  ∃(S':O8->Prop) (st':ax) (us:List U),(∀a,c.S a->S' a)/\Ok C {c with S:=S',st:=st' }/\Nx c0 {c with S:=S',st:=st' }/\ai C S' c.H us vs/\Cq us st'
 |[],vs,c,Cq,Dl,ok,n,hr,h=>by
  rw[show cp []=pure [] from rfl,aj]at h;exact⟨c.S,c.st,[],λa=>id,ok,n,hr,h⟩
 |r::rs,vs,c,Cq,Dl,ok,n,hr,h=>by
  obtain⟨v,t,rfl,h1,h2,h3⟩:=hr;rw[show cp (r::rs)=lift r >>= λu=>cp rs >>= λus=>pure (u::us) from rfl,ae]at h;obtain⟨S1,st1,u,s1,Co,n1,rep1,h4,He,FL⟩:=kO Dl ok n h1 h;rw[ae]at h4;have Ij:bM C c0 {c with S:=S1,st:=st1} rs t:=by
   clear h h4;have aux:∀(l:List (Kd×U)) (w:List V),bM C c0 c l w->(r.1=.own->∀(i:Nat) r' v',l[i]?=Od r'->w[i]?=Od v'->r'.1=.own->v'≠v)->bM C c0 {c with S:=S1,st:=st1} l w:=by
    intro l;induction l with
    |nil=>intro w q _;exact q
    |cons r2 l ih =>
     intro w q Ds;obtain⟨v2,t2,rfl,q1,q2,q3⟩:=q;refine⟨v2,t2,rfl,?_,ih t2 q2 (λhk i r' v' e1 e2 CL=>Ds hk (i+1) r' v' (by simpa using e1) (by simpa using e2) CL),q3⟩;obtain⟨k2,u2⟩:=r2;cases k2 with
     |own =>
      obtain⟨a,e,p1,p2,p3,p4⟩:=q1;refine⟨a,e,p1,λz=>?_,λz=>p3 (FL a z),p4.mv (.up s1) λo q=>q⟩;rcases He a z with z|⟨z,z'|z'⟩
      ·exact p2 z
      ·exact Ds z' 0 _ v2 rfl rfl rfl (e.trans z.symm)
      ·exact p3 z'
     |loc=>exact Rep.mv (.up s1) q1
     |any=>exact Rep.mv (.up λa z=>z.imp id (s1 a)) q1
     |_=>exact q1
   exact aux rs t h2 h3
  obtain⟨S2,st2,us,s2,CG,n2,rep2,h5⟩:=fJ (c:={c with S:=S1,st:=st1}) Dl Co n1 Ij h4;rw[aj]at h5;exact⟨S2,st2,u::us,λa z=>s2 a (s1 a z),CG,n2,⟨v,t,rfl,rep1.mv (.up s2),rep2⟩,h5⟩
theorem wt(ha:PA X es (Dk C ms)):PE X (.Tuple es x1 pos) (Cj C (ms >>= λrs=>ar rs >>= λ_=>cp rs >>= λus=>if us.length<=OV then pure (.loc,.tup us) else M.fail)):=by
 rintro pins s σ H Q I ⟨c0,rfl,rfl,ok,h⟩;refine wpAny_Tuple_spliced (Cm (args ha I ok h pos) λus s1 ⟨rs,c,vs,t,I1,rv,w⟩=>?_);rw[ae]at w;obtain⟨S',st',ws,Ny,Co,n1,rep,w1⟩:=fJ ok t.ok t.nx t.rep w;split at w1
 ·rename_i hz;rw[aj]at w1;have hl:vs.length<=OV:=by rw[<-rep.len];exact hz
  refine⟨by rw[<-rv.length];exact hl,?_⟩;have hf:c.H s1.heap.objs.size=OQ:=I1.Cg.fresh (O2 _);have I2:Inv X pins c0.σ c.H s1:=by rw[<-t.hσ];exact I1
  refine⟨.ref s1.heap.objs.size,upd c.H s1.heap.objs.size (.tup vs),I2.laid (t':=s1.toks) (λb u e=>OT _ e) (O2 _) ⟨hl,us,rv,T1 _ _⟩,rfl,?_⟩;exact bI.tup (c:={c with S:=S',st:=st' }) w1 t.hσ Co n1 rep _ hf
 ·exact(aq.mp w1).elim
theorem wu(ha:PA X es (Dk C ms)):PE X (.List es pos) (Cj C (ms >>= λrs=>ar rs >>= λ_=>cp rs >>= λus=>if us.length<=OV then pure (.own,.lst us) else M.fail)):=by
 rintro pins s σ H Q I ⟨c0,rfl,rfl,ok,h⟩;refine wpAny_List_spliced (Cm (args ha I ok h pos) λus s1 ⟨rs,c,vs,t,I1,rv,w⟩=>?_);rw[ae]at w;obtain⟨S',st',ws,Ny,Co,n1,rep,w1⟩:=fJ ok t.ok t.nx t.rep w;split at w1
 ·rename_i hz;rw[aj]at w1;have hl:vs.length<=OV:=by rw[<-rep.len];exact hz
  refine⟨by rw[<-rv.length];exact hl,?_⟩;have hf:c.H s1.heap.objs.size=OQ:=I1.Cg.fresh (O2 _);have I2:Inv X pins c0.σ c.H s1:=by rw[<-t.hσ];exact I1
  refine⟨.ref s1.heap.objs.size,upd c.H s1.heap.objs.size (.lst vs),I2.laid (t':=s1.toks) (λb u e=>OT _ e) (O2 _) ⟨hl,us,0,rv,O3 _ rfl⟩,rfl,?_⟩;exact bI.list (c:={c with S:=S',st:=st' }) w1 t.hσ Co n1 rep _ hf
 ·exact(aq.mp w1).elim
end
section
theorem pB(hN:X.N[i]?=Od x)(hv:Fd X.env.scope x)(hd:(x==("__debug__":Str))=OR)(Dv:(x==("__classdict__":Str))=OR):PE X (.Name x pos) (Cj C (dG i)):=by
 refine PE.weak (eO hN hv hd Dv) ?_;rintro σ H Q ⟨c0,rfl,rfl,ok,r,st',e,h⟩;unfold dG at e;split at e
 ·cases e
 ·rename_i k u Kx hs;cases e;obtain⟨v,e1,e2⟩:=ok.sl i k u hs;refine⟨v,e1,h c0 v rfl rfl ok (Nx.refl c0) ?_⟩;by_cases hk:k.root=OP
  ·rw[XI hk];exact⟨⟨k,hk,hs⟩,e1⟩
  ·rw[XM hk];cases k with
   |loc=>exact e2
   |any=>exact e2
   |bor j=>exact e2.elim
   |Ci=>exact(Kx rfl).elim
   |_=>exact absurd rfl hk
 ·cases e
theorem fK(h:PE X e (tC v))(r:∀S H,Rep C S H u v):PE X e (Cj C (pure (.loc,u))):=by
 refine PE.weak h ?_;rintro σ H Q ⟨c0,rfl,rfl,ok,h⟩;rw[aj]at h;exact h c0 v rfl rfl ok (Nx.refl c0) (r _ _)
theorem bI.root(h:bI C c0 Q (.own,u) c.st)(hσ:c.σ=c0.σ)(ok:Ok C c)(n:Nx c0 c)(p:O8)(hp:c.H p=OQ)(r:bW C c.S (upd c.H p o) p u):Q (.ref p) (upd c.H p o):=by
 obtain⟨Cy,n'⟩:=ok.lay (o:=o) hp;obtain⟨h0,h1,h2,h3,h4⟩:=ok.kM hp;exact h {c with H:=upd c.H p o} _ hσ rfl Cy (n.trans n') ⟨p,rfl,n.none hp,h1,h4,r⟩
theorem tu(hP:C.P=X.prog)(hw:C.w=X.w)(r:Bool):PE X (.Dict [] [] pos) (Cj C (pure (.own,if r=OP then .Dt [] else .CU [] []))):=by
 cases r with
 |false =>
  refine PE.weak so ?_;rintro σ H Q ⟨c0,rfl,rfl,ok,h⟩ p hp;rw[aj,XM Po]at h;exact bI.root h rfl ok (Nx.refl c0) p hp ⟨[],au,rfl,rfl⟩
 |true =>
  refine PE.weak vQ ?_;rintro σ H Q ⟨c0,rfl,rfl,ok,h⟩ p hp;rw[aj,XI rfl]at h;refine bI.root h rfl ok (Nx.refl c0) p hp ⟨[],?_,rfl,λx hx=>by cases hx⟩;rw[hP,hw];exact au
theorem ai.C4{S:O8->Prop}(h:ai C S H us vs)(e:C4 us i=Od u):∃v,L2.C4 vs i=Od v/\Rep C S H u v:=by
 unfold L2.C4 at e ⊢;rw[h.len]at e;cases q:Fu vs.length i with
 |none=>rw[q]at e;cases e
 |some j =>
  rw[q]at e;exact h.get e
theorem zd(hK:C.K=X.K)(hu:X.A.units+60<Qr)(hs:kf b)(t:GL C c0 c x y vx vy)(I:Inv X pins c.σ c.H s)(rx:RelV vx v)(ry:RelV vy u)(h:dm x y.2=Od r)(q:bI C c0 Q r c.st):
  OZ (O9 X.prog X.w) X.A (Vx a b v u) (EP X pins c.σ Q) X.xe s:=by
 obtain⟨hσ,ok,n,tx,ty,-⟩:=t;obtain⟨ky,uy⟩:=y
 dsimp only at h ty
 unfold dm at h;split at h
 ·rename_i k xs i;rw[O1]at h;obtain⟨w,e,rfl⟩:=h;obtain⟨a',vs,ex,h1,h2⟩:=tx.list ok;obtain⟨vw,e1,e2⟩:=h2.C4 e;exact vH a b pins s c.σ c.H vx vy v u Q I rx ry ⟨a',vs,i,vw,ex,ty.int ok,hK▸h1,e1,q c vw hσ rfl ok n (aC.item e2)⟩ (hs _ _)
 ·rename_i k xs i;rw[O1]at h;obtain⟨w,e,rfl⟩:=h;obtain⟨a',vs,ex,h1,h2⟩:=tx.tuple ok;obtain⟨vw,e1,e2⟩:=h2.C4 e;rw[hK]at h1;exact ng a b pins s c.σ c.H vx vy v u Q I rx ry ⟨a',vs,i,vw,ex,ty.int ok,h1,e1,q c vw hσ rfl ok n (aC.item e2)⟩ (hs _ _)
 ·split at h
  ·rw[O1]at h;obtain⟨w,e,rfl⟩:=h;exact kg a b pins s c.σ c.H vx vy v u Q I rx ry ⟨_,_,w,tx.str ok,ty.int ok,by assumption,e,q c _ hσ rfl ok n rfl⟩ (hs _ _)
  ·cases h
 ·rename_i k ks us x;rw[O1]at h;obtain⟨w,e,rfl⟩:=h;obtain⟨a',kvs,ex,h1,h2,h3⟩:=tx.dict ok;obtain⟨vw,e1,e2⟩:=(d0 (x:=x) h2 h3).1 w e;have ey:=ty.str ok;subst ex ey;cases rx;have g:jh c.H a' (.str x) (Od vw):=by rw[<-e1];exact jh.k (k:=PN x) h1
  exact XB (ops:=[.ref a',u]) (lJ I g) PySem.F.slot_dict_getitem.lookup (qG ⋯ I g ry λw' s3 I3 EO=>⟨vw,c.H,I3,EO,q c vw hσ rfl ok n (aC.item e2)⟩) (hs _ _)
 ·cases h
theorem pC(hK:C.K=X.K)(hu:X.A.units+60<Qr)(hs:kf b)(ha:PE X a (Cj C ma))(hb:PE X b (Cj C mb)):PE X (.Subscript a b pos) (Cj C (ma >>= λx=>mb >>= λy=>ar [x,y] >>= λ_=>M.Cu (dm x y.2))):=by
 rintro pins s σ H Q I ⟨c0,rfl,rfl,ok,h⟩;refine Subscript_ (two ha hb I ok h λx y c vx vy v u s2 t I2 rx ry w=>?_);obtain⟨r,e,q⟩:=bC.mp w;exact Cm (zd hK hu hs t I2 rx ry e q) λ_ _ z=>by rw[t.hσ]at z;exact z
theorem ai.cut{S:O8->Prop}(h:ai C S H us vs)(lo hi:Option Int):ai C S H (TM.cut us lo hi) (lE vs lo hi):=by
 unfold TM.cut lE;rw[h.len];exact(h.drop _).take _
theorem qZ{lo hi:Option Int}(h:HT.Cn xs.length 0 lo=0/\HT.Cn xs.length xs.length hi=xs.length):cut xs lo hi=xs:=by
 unfold cut;rw[h.1,h.2];simp
end
section
variable{prog:PZ}{w:Qj}{A:Ra}{E:OW->O7->Prop}{s:O7}
theorem eB{lo hi:Option Int}(ht:Wf s.heap t items)(hs:s.heap.IsSliceOf sl vl vu .none)(pl:TK vl lo)(pu:TK vu hi)
  (hw:HT.Cn items.size 0 lo=0/\HT.Cn items.size items.size hi=items.size) (h:Q (.ref t) s):OZ (O9 prog w) A (TR (.ref t) (.ref sl)) Q E s:=by
 obtain⟨os,EN,IX,HA⟩:=id hs;have JT:s.TypeIs (.ref sl) "slice":=⟨os,EN,IX⟩
 unfold TR
 try with_reducible refine P5 ?_
 first|refine OO (OU ?_)|skip
 refine OO (WK ht.typeIs (by decide) ?_);refine OO (QB (name:=Rq "__getitem__") ht.typeIs PQ
  (P6 PQ ht.typeIs Wn ?_ (WC _ _)))
 show OZ _ _ (RS (.ref t) >>= _) _ _ s;refine OO (tupleItemsOf_ ht ?_);refine OO (Rx JT ?_);rw[XI (by decide)];refine OO (HT.cP hs pl pu ?_);have Ky:(((HT.Cn items.size 0 lo:Nat):Int)==0&&(1:Int)==1&&(HT.Cn items.size items.size hi - HT.Cn items.size 0 lo)==items.size)=OP:=by
  rw[hw.1,hw.2];simp
 show OZ _ _ (if (((HT.Cn items.size 0 lo:Nat):Int)==0&&(1:Int)==1&&(HT.Cn items.size items.size hi - HT.Cn items.size 0 lo)==items.size)=OP then _ else _) _ _ s;rw[XI Ky];show OZ (O9 prog w) A.in1 ((VI (Pd t) >>= λx=>pure (x==.type "tuple")) >>= _) _ _ s;refine OO (OO (Rx ht.typeIs (OU ?_)));rw[XI (by decide)];exact OO (Rt (OU ⟨_,rfl,OU h⟩))
end
section
variable{X:Cx}{C:Ct}{pins:List (O8×Obj)}{s:O7}{c0 c c1:Cf}
variable{a b d e:PR}{es:List PR}{m ma mb md:M (Kd×U)}{ms:M (List (Kd×U))}{ta tb:M Bool}{pos p p2:Pos}
theorem wx:Ff X (λx lo hi H Q=>∃a xs,x=.ref a/\CB X.K H a xs/\(HT.Cn xs.length 0 lo=0/\HT.Cn xs.length xs.length hi=xs.length)/\Q (.ref a) H):=by
 intro pins s σ H x v vl vu lo hi sl Q I rx hs pl pu h;obtain⟨a,xs,rfl,hx,hw,q⟩:=h;cases rx;obtain⟨A',r,ht,hz⟩:=I.tuple hx;have hlen:A'.toArray.size=xs.length:=by rw[O0];exact r.length.symm
 exact⟨"tuple",_,PQ.lookup,ht.typeIs,eB ht hs pl pu (by rw[hlen];exact hw) ⟨.ref a,H,I,rfl,q⟩⟩
def tO(C:Ct)(m:M (Option Int)):TO:=λσ H Q=>∃c0:Cf,c0.σ=σ/\c0.H=H/\Ok C c0/\W m c0.st λi st'=>∀c,c.σ=σ->c.st=st'->Ok C c->Nx c0 c->Q i c.H
theorem q9:PO X OQ (tO C (pure OQ)):=by
 rintro pins s σ H Q I ⟨c0,rfl,rfl,ok,h⟩;rw[aj]at h;exact vE pins s c0.σ c0.H Q I (h c0 rfl rfl ok (Nx.refl c0))
theorem q_(ha:PE X a (Cj C ma)):PO X (Od a) (tO C (ma >>= y0)):=by
 rintro pins s σ H Q I ⟨c0,rfl,rfl,ok,h⟩;refine vF ha pins s c0.σ c0.H Q I (aO ok h λx c v t w=>?_);obtain⟨k,u⟩:=x;unfold y0 at w;split at w
 ·rename_i i e
  dsimp only at e
  subst e;rw[aj]at w;exact⟨i,t.rx.int t.ok,w c t.hσ rfl t.ok t.nx⟩
 ·exact(aq.mp w).elim
theorem ze{lo hi:Option Int}(hK:C.K=X.K)(hσ:c.σ=c0.σ)(ok:Ok C c)(n:Nx c0 c)(tx:aC C c0 c x.1 x.2 vx)(h:l_ x lo hi=Od r)(q:bI C c0 Q r c.st):
  ((Az X.K vx lo hi c.H Q\/Aw X.K vx lo hi c.H Q)\/(∃a xs,vx=.ref a/\CB X.K c.H a xs/\(HT.Cn xs.length 0 lo=0/\HT.Cn xs.length xs.length hi=xs.length)/\Q (.ref a) c.H))\/AB vx lo hi c.H Q:=by
 unfold l_ at h;split at h
 ·split at h
  ·rename_i hh;cases h;obtain⟨a',vs,ex,h1,h2⟩:=tx.list ok;exact .inl (.inl (.inl ⟨a',vs,ex,hK▸h1,λp hp=>q.list hσ ok n ((bT hh h2).cut lo hi) p hp⟩))
  ·cases h
 ·cases h;obtain⟨a',vs,ex,h1,h2⟩:=tx.tuple ok;have DW:=h1;rw[hK]at DW;by_cases hw:HT.Cn vs.length 0 lo=0/\HT.Cn vs.length vs.length hi=vs.length
  ·refine .inl (.inr ⟨a',vs,ex,DW,hw,?_⟩);refine q c (.ref a') hσ rfl ok n (aC.item ⟨a',vs,rfl,h1,?_⟩);rw[qZ (by rw[h2.len];exact hw)];exact h2
  ·exact .inl (.inl (.inr ⟨a',vs,ex,DW,hw,λp hp=>q.tupK hσ ok n (h2.cut lo hi) p hp⟩))
 ·split at h
  ·cases h;exact .inr ⟨_,tx.str ok,by assumption,q.flat hσ ok n rfl⟩
  ·cases h
 ·cases h
theorem wy{lo hi:Option PR}(hK:C.K=X.K)(ha:PE X a (Cj C ma))(hl:PO X lo (tO C ml))(hh:PO X hi (tO C mh)):
  PE X (.Subscript a (.Slice lo hi OQ p2) pos) (Cj C (ma >>= λx=>ml >>= λl=>mh >>= λh=>ar [x] >>= λ_=>M.Cu (l_ x l h))):=by
 refine PE.weak (r9 (((Ff.or vI yw).or wx).or yH) ha hl hh) ?_;rintro σ H Q ⟨c0,rfl,rfl,ok,h⟩;refine aO ok h λx c v t w=>?_;rw[ae]at w;refine⟨c,t.hσ,rfl,t.ok,w.mono λl st2 h2 c2 e1 e2 CG n2=>?_⟩;subst e2;rw[ae]at h2;refine⟨c2,e1,rfl,CG,h2.mono λl' CY h3 c3 e3 e4 E3 n3=>?_⟩;subst e4;rw[ae,br]at h3;obtain⟨r,e,q⟩:=bC.mp h3.2;have LI:Nx c c3:=n2.trans n3;exact ze hK e3 E3 (t.nx.trans LI) ((t.rx.w.on t.ok LI (e3.trans t.hσ.symm)).t h3.1) e q
end
section
variable{X:Cx}{C:Ct}{pins:List (O8×Obj)}{s:O7}{c0 c c1:Cf}
variable{a b d e:PR}{es:List PR}{m ma mb md:M (Kd×U)}{ms:M (List (Kd×U))}{ta tb:M Bool}{pos p p2:Pos}
def Bf.val:Bf->OW
 |.len=>.builtin "len"|.sorted=>.builtin "sorted"|.repr=>.builtin "repr"|.max=>.builtin "max"|.min=>.builtin "min"|.all=>.builtin "all"|.any=>.builtin "any"
 |.list=>.type "list"|.tuple=>.type "tuple"|.str=>.type "str"|.int=>.type "int"
 |.sum=>.builtin "sum"
def Bf.name:Bf->Str
 |.len=>"len"|.sorted=>"sorted"|.repr=>"repr"|.max=>"max"|.min=>"min"|.all=>"all"|.any=>"any"
 |.list=>"list"|.tuple=>"tuple"|.str=>"str"|.int=>"int"
 |.sum=>"sum"
theorem call_of(hc:eC X f r)(I:Inv X pins c.σ c.H s)(rv:Vals vs us)(h:r vs c.H Q):OZ (O9 X.prog X.w) X.A (RC f us) (EP X pins c.σ Q) X.xe s:=hc pins s c.σ c.H vs us Q I rv h
theorem ai.pE{S:O8->Prop}{f:α->U}{g:α->V}:∀{l:List α},(∀x∈l,Rep C S H (f x) (g x))->ai C S H (l.map f) (l.map g)
 |[],_=>rfl
 |x::l,h=>⟨g x,l.map g,rfl,h x (by simp),ai.pE λy hy=>h y (by simp[hy])⟩
theorem ai.LJ{S:O8->Prop}(hK:C.K=X.K):∀{us:List U}{ks:List Str}{vs:List V},jG us=Od ks->ai C S H us vs->∃as:List O8,vs=as.map V.ref/\as.length=ks.length/\∀(j:Nat) a k,as[j]?=Od a->ks[j]?=Od k->∃b,CB X.K H a [.str k,.int b]
 |[],ks,vs,e,h=>by
  cases e;cases h;exact⟨[],rfl,rfl,by simp⟩
 |u::us,ks,vs,e,h=>by
  obtain⟨v,r,rfl,h1,h2⟩:=h;unfold jG at e;split at e
  ·rename_i e0;cases e0
  ·rename_i x nn Es e0;cases e0;rw[O1]at e;obtain⟨qs,e,rfl⟩:=e;obtain⟨as,rfl,g1,g2⟩:=ai.LJ hK e h2;obtain⟨a,ws,rfl,z1,z2⟩:=h1;obtain⟨w1,LK,rfl,y1,y2⟩:=z2;obtain⟨w2,Nz,rfl,y3,y4⟩:=y2;cases y1;cases y4;cases y3;rw[hK]at z1;refine⟨a::as,rfl,by simp[g1],λj c p e1 e2=>?_⟩;cases j with
   |zero=>simp at e1 e2;subst e1 e2;exact⟨_,z1⟩
   |succ j=>exact g2 j c p (by simpa using e1) (by simpa using e2)
  ·cases e
theorem aV(h:dn f rs=Od r):∃x,rs=[x]/\f x=Od r:=by
 unfold dn at h;split at h
 ·exact⟨_,rfl,h⟩
 ·cases h
theorem xM(hc:X.calm=OP)(hK:C.K=X.K)(Jx:X.A.guards=Od [])(Hj:X.A.units+60<Qr)(t:Ed C c0 c rs vs)(I:Inv X pins c.σ c.H s)(rv:Vals vs us)(h:DO f rs=Od r)(q:bI C c0 Q r c.st):
  OZ (O9 X.prog X.w) X.A (RC f.val us) (EP X pins c.σ Q) X.xe s:=by
 have hσ:=t.hσ;have ok:=t.ok;have n:=t.nx;cases f with
 |len =>
  obtain⟨x,rfl,hz⟩:=aV (f:=λx=>(yQ x.2).map λ(n:Nat)=>(Kd.loc,U.int (n:Int))) h;clear h;have h:=hz;clear hz;rw[O1]at h;obtain⟨k,e,rfl⟩:=h;obtain⟨v,rfl,tx⟩:=t.one;obtain⟨kx,ux⟩:=x;unfold yQ at e;split at e
  ·rename_i xs hx;have hx:ux=.lst xs:=hx;subst hx;cases e;obtain⟨a',ws,ex,h1,h2⟩:=tx.list ok;rw[h2.len]at q;exact call_of fk I rv ⟨a',ws,by rw[ex],.inl (hK▸h1),q.flat hσ ok n rfl⟩
  ·rename_i xs hx;have hx:ux=.tup xs:=hx;subst hx;cases e;obtain⟨a',ws,ex,h1,h2⟩:=tx.tuple ok;rw[hK]at h1;rw[h2.len]at q;exact call_of fk I rv ⟨a',ws,by rw[ex],.inr h1,q.flat hσ ok n rfl⟩
  ·rename_i xs hx;have hx:ux=.str xs:=hx;subst hx;split at e
   ·cases e;exact call_of kl I rv ⟨_,by rw[tx.str ok],by assumption,q.flat hσ ok n rfl⟩
   ·cases e
  ·cases e
 |sorted =>
  obtain⟨x,rfl,hz⟩:=aV (f:=yR) h;clear h;have h:=hz;clear hz;obtain⟨v,rfl,tx⟩:=t.one;unfold yR at h;split at h
  ·obtain⟨a',ws,ex,h1,h2⟩:=tx.list ok;unfold v7 at h;split at h
   ·rename_i ss e;have e':=bD e;subst e';rw[ai.strs]at h2;subst h2;split at h
    ·cases h;exact call_of gE I rv ⟨a',ss,by rw[ex],.inl (hK▸h1),by assumption,λp hp=>q.list hσ ok n (ai.strs.mpr rfl) p hp⟩
    ·cases h
   ·unfold v5 at h;obtain⟨ks,e,h⟩:=PF.mp h;split at h
    ·rename_i hh;cases h;subst ex;obtain⟨u,rfl,rr⟩:=vals1 rv;cases rr;obtain⟨as,rfl,hl,ht⟩:=ai.LJ hK e h2;have Ew:=bT hh.2.2 h2;refine nK I (hK▸h1) hl ht hh.2.1 ⋯ λp hp=>q.list hσ ok n (ai.pE λi hi=>?_) p hp;have Dz:i<as.length:=by
      have:=QT.mp ((cT _).mem_iff.mp hi);omega
     have J9:=Ew.len;rw[OY]at J9;obtain⟨w,hw,rep⟩:=Ew.get (Pn (show i < _ by omega));have e1:w=V.ref (as.getD i 0):=by
      have:(as.map V.ref)[i]?=Od (V.ref (as.getD i 0)):=by simp[RE,Dz]
      rw[this]at hw;cases hw;rfl
     rw[<-e1,<-List.getElem_eq_getD];exact rep
    ·cases h
  ·obtain⟨a',kvs,ex,h1,h2,_⟩:=tx.dict ok;split at h
   ·cases h;exact call_of (gc hc) I rv ⟨a',kvs,_,by rw[ex],h1,h2,by assumption,λp hp=>q.list hσ ok n (ai.strs.mpr rfl) p hp⟩
   ·cases h
  ·rw[PF]at h;obtain⟨ss,e,h⟩:=h;have e':=bD e;subst e';obtain⟨a',ws,ex,h1,h2⟩:=tx.tuple ok;rw[hK]at h1;rw[ai.strs]at h2;subst h2;split at h
   ·cases h;exact call_of gE I rv ⟨a',ss,by rw[ex],.inr h1,by assumption,λp hp=>q.list hσ ok n (ai.strs.mpr rfl) p hp⟩
   ·cases h
  ·cases h
 |list =>
  obtain⟨x,rfl,hz⟩:=aV (f:=yS) h;clear h;have h:=hz;clear hz;obtain⟨v,rfl,tx⟩:=t.one;unfold yS at h;split at h
  ·obtain⟨a',ws,ex,h1,h2⟩:=tx.list ok;split at h
   ·cases h;exact call_of fm I rv ⟨a',ws,by rw[ex],.inl (hK▸h1),λp hp=>q.list hσ ok n (bT (by assumption) h2) p hp⟩
   ·cases h
  ·obtain⟨a',ws,ex,h1,h2⟩:=tx.tuple ok;rw[hK]at h1;split at h
   ·cases h;exact call_of fm I rv ⟨a',ws,by rw[ex],.inr h1,λp hp=>q.list hσ ok n (bT (by assumption) h2) p hp⟩
   ·cases h
  ·cases h
 |tuple =>
  obtain⟨x,rfl,hz⟩:=aV (f:=yT) h;clear h;have h:=hz;clear hz;obtain⟨v,rfl,tx⟩:=t.one;unfold yT at h;split at h
  ·obtain⟨a',ws,ex,h1,h2⟩:=tx.list ok;cases h;exact call_of eD I rv ⟨a',ws,by rw[ex],.inl ⟨hK▸h1,λp hp=>q.tupK hσ ok n h2 p hp⟩⟩
  ·obtain⟨a',ws,ex,h1,h2⟩:=tx.tuple ok;have DW:=h1;rw[hK]at DW;cases h;exact call_of eD I rv ⟨a',ws,by rw[ex],.inr ⟨DW,q c (.ref a') hσ rfl ok n (aC.item ⟨a',ws,rfl,h1,h2⟩)⟩⟩
  ·cases h
 |str =>
  obtain⟨x,rfl,hz⟩:=aV (f:=v8) h;clear h;have h:=hz;clear hz;obtain⟨v,rfl,tx⟩:=t.one;unfold v8 at h;split at h
  ·split at h
   ·cases h;exact call_of j9 I rv ⟨_,by rw[tx.int ok],by assumption,q.flat hσ ok n rfl⟩
   ·cases h
  ·cases h
 |all =>
  obtain⟨x,rfl,hz⟩:=aV (f:=yU) h;clear h;have h:=hz;clear hz;obtain⟨v,rfl,tx⟩:=t.one;unfold yU at h;split at h
  ·rw[O1]at h;obtain⟨bs,e,rfl⟩:=h;have e':=iL e;subst e';obtain⟨a',ws,ex,h1,h2⟩:=tx.list ok;have:=h2.LG;subst this;exact call_of (sC hc) I rv ⟨a',bs,by rw[ex],hK▸h1,q.flat hσ ok n rfl⟩
  ·cases h
 |sum =>
  obtain⟨x,rfl,hz⟩:=aV (f:=yV) h;clear h;have h:=hz;clear hz;obtain⟨v,rfl,tx⟩:=t.one;unfold yV at h;split at h
  ·rw[O1]at h;obtain⟨ns,e,rfl⟩:=h;have e':=gG e;subst e';obtain⟨a',ws,ex,h1,h2⟩:=tx.list ok;have Ew:=ai.ints h2;subst Ew;exact call_of (sM hc) I rv ⟨a',ns,by rw[ex],hK▸h1,q.flat hσ ok n rfl⟩
  ·cases h
 |_=>cases h
theorem wz{id:String}(hc:X.calm=OP)(hK:C.K=X.K)(Jx:X.A.guards=Od [])(Hj:X.A.units+60<Qr)(hf:f.val=.builtin id)(hg:Gl X x)(hm:X.mg x=OQ)(hv:Qx x=Od (.builtin id))(hn:x≠"__name__")(Fz:(x==("__debug__":Str))=OR)
  (ha:PA X (e::es) (Dk C ms)) (he:Pj (e::es) X.env=(OR,QK e X.env)::Pj es X.env) (Dp:(QP pos (Pj es X.env)).any (·.1)=OR) :
  PE X (.Call (.Name x p) (e::es) [] pos) (Cj C (ms >>= λrs=>ar rs >>= λ_=>M.Cu (DO f rs))):=by
 rintro pins s σ H Q I ⟨c0,rfl,rfl,ok,h⟩;refine QJ (dv I hg hm hv ?_ hn Fz);refine S5 (Cm (args ha I ok h pos) λus s1 ⟨rs,c,vs,t,I1,rv,w⟩=>?_) he Dp;obtain⟨r,e,q⟩:=bC.mp w;have z:=xM hc hK Jx Hj t I1 rv e q;rw[hf,t.hσ]at z;exact z
theorem wA(hc:X.calm=OP)(hK:C.K=X.K)(Jx:X.A.guards=Od [])(Hj:X.A.units+60<Qr)(hf:f.val=.type T)(hg:Gl X x)(hm:X.mg x=OQ)(hv:Qx x=Od (.type T))(hn:x≠"__name__")(Fz:(x==("__debug__":Str))=OR)
  (ha:PA X (e::es) (Dk C ms)) (he:Pj (e::es) X.env=(OR,QK e X.env)::Pj es X.env) (Dp:(QP pos (Pj es X.env)).any (·.1)=OR) :
  PE X (.Call (.Name x p) (e::es) [] pos) (Cj C (ms >>= λrs=>ar rs >>= λ_=>M.Cu (DO f rs))):=by
 rintro pins s σ H Q I ⟨c0,rfl,rfl,ok,h⟩;refine QJ (dv I hg hm hv ?_ hn Fz);refine QV (Cm (args ha I ok h pos) λus s1 ⟨rs,c,vs,t,I1,rv,w⟩=>?_) he Dp;obtain⟨r,e,q⟩:=bC.mp w;have z:=xM hc hK Jx Hj t I1 rv e q;rw[hf,t.hσ]at z;exact z
def DT.name:DT->Str
 |.str=>"str"|.list=>"list"|.tuple=>"tuple"|.int=>"int"|.bool=>"bool"
def DT.nm:DT->String
 |.str=>"str"|.list=>"list"|.tuple=>"tuple"|.int=>"int"|.bool=>"bool"
theorem wB(T:DT):Qx T.name=Od (.type T.nm)/\T.name≠"__name__"/\(T.name==("__debug__":Str))=OR:=by
 cases T<;>exact⟨by decide +kernel,by decide +kernel,by decide +kernel⟩
theorem fL(T:DT):VI (.type T.nm)=pure (.type "type"):=by cases T<;>kernel_rfl
theorem pF(T:DT):RP (.type "str") (.type T.nm)=pure (OX (T=.str)):=by cases T<;>(rw[Qq];kernel_rfl)
theorem sub_int(T:DT):RP (.type "int") (.type T.nm)=pure (OX (T=.int)):=by cases T<;>(rw[Qq];kernel_rfl)
theorem ne_str{T:DT}(h:¬T=.str):(PD "str"==PD T.nm)=OR:=by cases T<;>first|exact absurd rfl h|decide
theorem ne_int{T:DT}(h:¬T=.int):(PD "int"==PD T.nm)=OR:=by cases T<;>first|exact absurd rfl h|decide
theorem mn(T:DT):RP (.type "list") (.type T.nm)=pure (OX (T=.list)):=by cases T<;>(rw[Qq];kernel_rfl)
theorem pG(T:DT):RP (.type "tuple") (.type T.nm)=pure (OX (T=.tuple)):=by cases T<;>(rw[Qq];kernel_rfl)
theorem wC{T:DT}(h:¬T=.list):(PD "list"==PD T.nm)=OR:=by cases T<;>first|exact absurd rfl h|decide
theorem zf{T:DT}(h:¬T=.tuple):(PD "tuple"==PD T.nm)=OR:=by cases T<;>first|exact absurd rfl h|decide
theorem zg{b:Bool}(hK:C.K=X.K)(t:Ih C c0 c x v)(I:Inv X pins c.σ c.H s)(rv:RelV v val)(h:mj x.2 T=Od b)(q:∀tk,Q (.bool b) {s with toks:=tk}):
  OZ (O9 X.prog X.w) X.A (RC (.builtin "isinstance") [val,.type T.nm]) Q X.xe s:=by
 obtain⟨k,u⟩:=x;obtain⟨hσ,ok,n,r⟩:=t;have q0:Q (.bool b) s:=q s.toks
 dsimp only at h r
 have yes:∀{Tx:String},b=OP->s.TypeIs val Tx->RP (.type Tx) (.type T.nm)=pure OP->OZ (O9 X.prog X.w) X.A (RC (.builtin "isinstance") [val,.type T.nm]) Q X.xe s:=λe hx hs=>by
  subst e;exact Xm hx (fL T) hs q0
 unfold mj at h;split at h
 ·cases h;have e:v=_:=r.str ok;subst e;obtain⟨tk,rfl⟩:=rv;by_cases hT:T=.str
  ·subst hT;exact yes (by simp) (SD s _ tk) (pF .str)
  ·rw[XN hT]at q;exact Tj (isinstance_false_str (ne_str hT) (fL T) (by rw[pF,XN hT])) (q _)
 ·cases h;have e:v=_:=r.int ok;subst e;obtain⟨tk,rfl⟩:=rv;by_cases hT:T=.int
  ·subst hT;exact yes (by simp) (typeIs_int s _ tk) (sub_int .int)
  ·rw[XN hT]at q;exact Tj (isinstance_false_int (ne_int hT) (fL T) (by rw[sub_int,XN hT])) (q _)
 ·cases h;have e:v=_:=r.bl ok;subst e;cases rv;exact yes rfl (PySem.typeIs_bool s _) (by rw[Qq];kernel_rfl)
 ·cases h;have e:v=_:=r.bl ok;subst e;cases rv;exact yes rfl (PySem.typeIs_bool s _) (by rw[Qq];kernel_rfl)
 ·cases h;obtain⟨a',ws,rfl,h1,h2⟩:=r.list ok;cases rv;rw[hK]at h1;obtain⟨A',_,pl,_⟩:=I.list h1;obtain⟨o,ho,hc,_⟩:=pl.isList;by_cases hT:T=.list
  ·subst hT;exact yes (by simp) ⟨o,ho,hc⟩ (mn .list)
  ·rw[XN hT]at q;exact Tj (isinstance_false_list (wC hT) (fL T) (by rw[mn,XN hT])) ⟨⟨o,ho,hc⟩,q _⟩
 ·cases h;obtain⟨a',ws,rfl,h1,h2⟩:=r.tuple ok;cases rv;rw[hK]at h1;obtain⟨A',_,⟨o,ho,hc,_⟩,_⟩:=I.tuple h1;by_cases hT:T=.tuple
  ·subst hT;exact yes (by simp) ⟨o,ho,hc⟩ (pG .tuple)
  ·rw[XN hT]at q;exact Tj (isinstance_false_tuple (zf hT) (fL T) (by rw[pG,XN hT])) ⟨⟨o,ho,hc⟩,q _⟩
 ·cases h
theorem pH(hK:C.K=X.K)(hg:Gl X "isinstance")(hm:X.mg "isinstance"=OQ)(Gw:Gl X T.name)(Il:X.mg T.name=OQ)(ha:PE X a (Cj C ma))(hs:Pj [a,.Name T.name p2] X.env=(OR,QK a X.env)::Pj [.Name T.name p2] X.env):
  PE X (.Call (.Name "isinstance" p) [a,.Name T.name p2] [] pos) (Cj C (ma >>= λx=>M.Cu (mj x.2 T) >>= λb=>pure (.loc,.bl b))):=by
 rintro pins s σ H Q I ⟨c0,rfl,rfl,ok,h⟩;obtain⟨t1,t2,t3⟩:=wB T;refine QJ (dv I hg hm (show Qx "isinstance"=Od (.builtin "isinstance") by decide +kernel) ?_ (by decide +kernel) (by decide +kernel));refine S5 (Cm (dW ha (dW (vj (v:=.ty T.nm) Gw Il t1 rfl t2 t3) ie) hs pos pins s c0.σ c0.H (λvs H'=>∃x c v b,Ih C c0 c x v/\c.H=H'/\vs=[v,.ty T.nm]/\mj x.2 T=Od b/\bI C c0 Q (.loc,.bl b) c.st) I ?_) λus s1 ⟨vs,H1,I1,r1,x,c,v,b,t,e,e2,hb,w⟩=>?_) hs (by rfl)
 ·refine aO ok h λx c v t w=>?_;rw[ae]at w;obtain⟨b,e,w⟩:=bC.mp w;rw[aj]at w;exact⟨x,c,v,b,t,rfl,rfl,e,w⟩
 ·subst e e2;obtain⟨u1,u2,rfl,NA,NB⟩:=vals2 r1;cases NB;have I2:Inv X pins c.σ c.H s1:=by rw[t.hσ];exact I1
  have z:=zg (Q:=EP X pins c0.σ Q) hK t I2 NA hb λtk=>⟨.bl b,c.H,I1.tok tk,rfl,w c (.bl b) t.hσ rfl t.ok t.nx rfl⟩
  exact z
abbrev Fm(P:PZ)(w:Qj)(K:PySem.W.Frag)(H:Hp)(Pr:O8->Prop):Ct:=⟨P,w,K,H,Pr,λ_=>False⟩
structure Back(C:Ct)(H H':Hp)(S':O8->Prop)(k:Kd)(u:U)(v:V):Prop where
 same:yD H H'
 new:∀a,S' a->H a=OQ/\∃o,H' a=Od o
 own:k=.own->∃r,v=.ref r/\H r=OQ/\¬S' r/\bW C S' H' r u
 loc:k=.loc->Rep C S' H' u v
 any:k=.any->Rep C (PS C S') H' u v
def spT(P:PZ)(w:Qj)(K:PySem.W.Frag)(F:List U->Option (Ex (Kd×U)))(np:Nat):Sp:=λvs H Q _=>vs.length=np/\∃us k u Pr,F us=Od (.ok (k,u))/\(k=.own\/k=.loc\/k=.any)/\(∀a,Pr a->D3 H a) /\
 ai (Fm P w K H Pr) Pr H us vs/\∀v H' S',Back (Fm P w K H Pr) H H' S' k u v->Q v H'
theorem Ed.read(t:Ed C c0 c rs vs):ai C (D3 c.H) c.H (rs.map (·.2)) vs:=by
 have aux:∀(l:List (Kd×U)) (w:List V),bM C c0 c l w->aU l c.st->ai C (D3 c.H) c.H (l.map (·.2)) w:=by
  intro l;induction l with
  |nil=>intro w h _;exact h
  |cons r l ih =>
   intro w h hs;obtain⟨v,t',rfl,h1,h2,_⟩:=h;rw[cB]at hs;exact⟨v,t',rfl,(h1.t hs.1).read t.ok,ih t' h2 hs.2⟩
 exact aux rs vs t.rep t.GN
theorem Back.here(hk:k=.own\/k=.loc)(hσ:c.σ=c0.σ)(ok:Ok C c)(n:Nx c0 c)(q:C'.Eqv C)(h:Back C' c.H H' S' k u v)(w:bI C c0 Q (k,u) c.st):Q v H':=by
 obtain⟨Cy,n'⟩:=ok.grow (S':=λa=>c.S a\/S' a) h.same (λa z=>z.imp id λz=>h.new a z) λa=>.inl;have hn:=n.trans n';refine w {c with H:=H',S:=λa=>c.S a\/S' a} v hσ rfl Cy hn ?_;rcases hk with rfl|rfl
 ·obtain⟨r,e,h1,h2,h3⟩:=h.own rfl;obtain⟨z0,z1,z2,z3,z4⟩:=ok.kM h1;refine⟨r,e,n.none h1,λz=>z.elim z1 h2,z4,(h3.cg q).mv (.up λa=>.inr) λo q=>q⟩
 ·exact((h.loc rfl).cg q).mv (.up λa=>.inr)
theorem tv(hP:C.P=X.prog)(hw:C.w=X.w)(hK:C.K=X.K)(hF:Γ f=F)(hk:∀us k u,F us=Od (.ok (k,u))->(k=.own\/k=.loc\/k=.any)/\us.length=np)
  (G:ig X.prog X.w X.K X.mg X.base EE k fa fd ps (spT X.prog X.w X.K F np)) (hr:d_ k X.A) (hg:Gl X f) (hm:X.mg f=Od (.ref fa)) (Ib:PySem.W.keepIn X.K (.ref fa)=OP) (hb:Binds X.K fd ps [])
  (Fz:(f==("__debug__":Str))=OR) (ha:PA X (e::es) (Dk C ms)) (he:Pj (e::es) X.env=(OR,QK e X.env)::Pj es X.env) (Dp:(QP pos (Pj es X.env)).any (·.1)=OR) :
  PE X (.Call (.Name f p) (e::es) [] pos) (Cj C (ms >>= λrs=>ar rs >>= λ_=>iK Γ f (rs.map (·.2)))):=by
 rintro pins s σ H Q I ⟨c0,rfl,rfl,ok,h⟩;refine QJ (oM I hg hm ?_ Fz);refine PySem.W.callWith_K (h₀:=X.base) I.ok.mod.IM Ib (Cm (args ha I ok h pos) λus s1 ⟨rs,c,vs,t,I1,rv,w⟩=>⟨I1.Gh,?_⟩) he Dp;obtain⟨r,st',e1,q⟩:=w;unfold iK at e1;rw[hF]at e1;cases e2:F (rs.map (·.2)) with
 |none=>rw[e2]at e1;cases e1
 |some r' =>
  rw[e2]at e1;split at e1
  ·cases e1
  ·rename_i z;cases z
  rename_i NC e3;cases e3;cases e1;obtain⟨kd,u⟩:=r;obtain⟨k0,k2⟩:=hk _ _ _ e2;have k1:kd=.own\/kd=.loc:=by
   rcases k0 with z|z|z
   ·exact .inl z
   ·exact .inr z
   ·subst z;exact(NC u rfl).elim
  have eqv:C.Eqv (Fm X.prog X.w X.K c.H (D3 c.H)):=⟨hP,hw,hK⟩
  have E4:(Fm X.prog X.w X.K c.H (D3 c.H)).Eqv C:=⟨hP.symm,hw.symm,hK.symm⟩
  have rd:=t.read;have DY:spT X.prog X.w X.K F np vs c.H (λv H'=>Q v H') E0:=⟨by rw[<-rd.len];exact k2,rs.map (·.2),kd,u,D3 c.H,e2,k0,λ_ z=>z,rd.cg eqv,λv H' S' hb=>hb.here k1 t.hσ t.ok t.nx E4 q⟩
  have z:=rY (Q:=Q) G hr hb .nil xF I1 rv (by rw[Qn];exact DY);rw[t.hσ]at z;exact z
end
section
def Mf.id:Mf->String
 |.split=>"str.split"|.join=>"str.join"|.partition=>"str.partition"|.endswith=>"str.endswith"
def Mf.name:Mf->Str
 |.split=>"split"|.join=>"join"|.partition=>"partition"|.endswith=>"endswith"
theorem tw(h:iJ f u rs=Od r):∃x,u=.str x:=by
 unfold iJ at h;split at h
 ·exact⟨_,rfl⟩
 ·exact⟨_,rfl⟩
 ·cases h
theorem zh(hK:C.K=X.K)(t:Ed C c0 c (x::rs) (vx::vs))(I:Inv X pins c.σ c.H s)(rx:RelV vx v)(rv:Vals vs us)(h:iJ f x.2 rs=Od r)(q:bI C c0 Q r c.st):
  OZ (O9 X.prog X.w) X.A (RC (.builtin f.id) (v::us)) (EP X pins c.σ Q) X.xe s:=by
 have hσ:=t.hσ;have ok:=t.ok;have n:=t.nx;obtain⟨kx,ux⟩:=x;have hs:=cB.mp t.GN;obtain⟨v0,Hk,e0,h1,h2,-⟩:=t.rep;cases e0;have tx:aC C c0 c kx ux vx:=h1.t hs.1;have one:∀{r:Kd×U},bM C c0 c [r] vs->aU [r] c.st->∃v,vs=[v]/\aC C c0 c r.1 r.2 v:=λ{r} h s=>by
  obtain⟨v,t',rfl,h1,h2,_⟩:=h;cases h2;exact⟨v,rfl,h1.t s⟩
 dsimp only at h
 unfold iJ at h;split at h
 ·obtain⟨w,rfl,ty⟩:=one h2 hs.2;split at h
  ·rename_i hh;cases h;exact sA pins s c.σ c.H vx [w] v us Q I rx rv ⟨_,_,tx.str ok,by rw[ty.str ok],hh.1,hh.2,λp hp=>q.list hσ ok n (ai.strs.mpr rfl) p hp⟩
  ·cases h
 ·rw[PF]at h;obtain⟨ss,e,h⟩:=h;have e':=bD e;subst e';obtain⟨w,rfl,ty⟩:=one h2 hs.2;obtain⟨a',ws,ex,h3,h4⟩:=ty.list ok;rw[ai.strs]at h4;subst h4;split at h
  ·cases h;exact vO pins s c.σ c.H vx [w] v us Q I rx rv ⟨_,a',ss,tx.str ok,by rw[ex],hK▸h3,by assumption,q.flat hσ ok n rfl⟩
  ·cases h
 ·cases h
theorem wD(hK:C.K=X.K)(slot:Slot "str" name f.id)(HB:VI (.builtin f.id)=pure (.type "method_descriptor"))(ho:PE X o (Cj C m))(ha:PA X (e::es) (Dk C ms))
  (C5:Sb o name X.env (QK o X.env)=QK o X.env)
  (DH:((QP Cc (Pj (e::es) X.env)).all (λx=>!x.1)&&(Us Cc (SR [] X.env)).all (λx=>x.1.isSome)
   && OX ((e::es).length+([]:List Se).length+(if ([]:List Se).isEmpty then 0 else 1)<30))=OP)
  (Cs:(apos.endLine==Cc.line)=OP) (hs:Pj (e::es) X.env=(OR,QK e X.env)::Pj es X.env) (Dr:(QP Cc (Pj es X.env)).any (·.1)=OR) :
  PE X (.Call (.Attribute o name apos) (e::es) [] Cc) (Cj C (m >>= λx=>ms >>= λrs=>ar (x::rs) >>= λ_=>M.Cu (iJ f x.2 rs))):=by
 rintro pins s σ H Q I ⟨c0,rfl,rfl,ok,h⟩;refine VH C5 DH Cs rfl (Cm (ho pins s c0.σ c0.H (λvx H1=>∃x c1,c1.H=H1/\Ih C c0 c1 x vx/\W (ms >>= λrs=>ar (x::rs) >>= λ_=>M.Cu (iJ f x.2 rs)) c1.st (bI C c0 Q)) I (aO ok h λx c v t w=>⟨x,c,rfl,t,w⟩)) ?_);rintro v s1 ⟨vx,H1,I1,rx,x,c1,rfl,t,w⟩;have GO:∃z,x.2=.str z:=by
  rw[ae]at w;obtain⟨rs,st2,_,w⟩:=w;rw[ae]at w;obtain⟨_,CY,_,w⟩:=w;obtain⟨r,e,_⟩:=bC.mp w;exact tw e
 obtain⟨z,hz⟩:=GO;have tx:=t.rx;rw[hz]at tx;have ev:=tx.str t.ok;have ty:IZ X.K "str" vx c1.H:=by rw[ev];rfl
 obtain⟨h1,h2⟩:=ni I1 rx ty;refine⟨"str",f.id,PySem.F.plainAttrs_str,slot,HB,h1,h2,?_⟩;rw[ae]at w;have hA:=ha Cc pins s1 c0.σ c1.H (λvs H2=>∃rs c2,c2.H=H2/\Ed C c0 c2 (x::rs) (vx::vs)/\W (M.Cu (iJ f x.2 rs)) c2.st (bI C c0 Q)) I1 ⟨c1,t.hσ,rfl,t.ok,w.mono λrs st2 h3 c2 vs e3 e4 CG n2 r2=>by
  rw[ae,br]at h3;subst e4;exact⟨rs,c2,rfl,⟨e3,CG,t.nx.trans n2,⟨vx,vs,rfl,t.rx.w.on t.ok n2 (e3.trans t.hσ.symm),r2.from t.nx,λhk i r' v' e5 e6 CL=>gn t.rx.w (r2.get e5 e6) hk CL⟩,h3.1⟩,h3.2⟩⟩
 rw[hs]at hA ⊢;refine QY (by show(OR||(QP Cc (Pj es X.env)).any (·.1))=OR;rw[Dr]<;>rfl) (RZ ?_);refine Cm hA ?_;rintro us s2 ⟨vs,H2,I2,r2,rs,c2,rfl,t2,w2⟩;obtain⟨r,e,q⟩:=bC.mp w2;have z:=zh hK t2 (by rw[t2.hσ];exact I2) rx r2 e q;rw[t2.hσ]at z;exact z
end
section
variable{X:Cx}{C:Ct}{pins:List (O8×Obj)}{s:O7}{c0 c c1:Cf}
variable{e:PR}{es:List PR}{ms:M (List (Kd×U))}{pos p p2 pos2:Pos}
def B2.out:B2->OW
 |.EB=>.type "tuple"|.DJ=>.type "list"|.sset=>.builtin "sorted"|.gP=>.builtin "len"
def B2.Jy:B2->OW
 |.EB=>.type "reversed"|.DJ=>.type "reversed"|.sset=>.type "set"|.gP=>.type "set"
def B2.kP:B2->Str
 |.EB=>"tuple"|.DJ=>"list"|.sset=>"sorted"|.gP=>"len"
def B2.fM:B2->Str
 |.EB=>"reversed"|.DJ=>"reversed"|.sset=>"set"|.gP=>"set"
theorem ai.rev{S:O8->Prop}:∀{us:List U}{vs:List V},ai C S H us vs->ai C S H us.reverse vs.reverse
 |[],vs,h=>by cases h;exact rfl
 |u::us,vs,h=>by
  obtain⟨v,r,rfl,h1,h2⟩:=h;rw[Su,Su];exact(ai.rev h2).append ⟨v,[],rfl,h1,rfl⟩
theorem jH(hK:C.K=X.K)(ok:Ok C c)(tx:aC C c0 c k u v)(h:qX u=Od ss):∃a ys,v=.ref a/\(CF X.K c.H a (ys.map V.str)\/CB X.K c.H a (ys.map V.str))/\ys.length+1<Q4/\ss=bq ys:=by
 unfold qX at h;split at h
 ·rw[PF]at h;obtain⟨ys,e,h⟩:=h;have e':=bD e;subst e';obtain⟨a',ws,ex,h1,h2⟩:=tx.list ok;rw[ai.strs]at h2;subst h2;split at h
  ·cases h;exact⟨a',ys,ex,.inl (hK▸h1),by assumption,rfl⟩
  ·cases h
 ·rw[PF]at h;obtain⟨ys,e,h⟩:=h;have e':=bD e;subst e';obtain⟨a',ws,ex,h1,h2⟩:=tx.tuple ok;rw[ai.strs]at h2;subst h2;rw[hK]at h1;split at h
  ·cases h;exact⟨a',ys,ex,.inr h1,by assumption,rfl⟩
  ·cases h
 ·cases h
theorem zi(hc:X.calm=OP)(hK:C.K=X.K)(t:Ed C c0 c rs vs)(I:Inv X pins c.σ c.H s)(rv:Vals vs us)(h:nN f rs=Od r)(q:bI C c0 Q r c.st):
  OZ (O9 X.prog X.w) X.A (RC f.Jy us) (λv s1=>OZ (O9 X.prog X.w) X.A (RC f.out [v]) (EP X pins c.σ Q) X.xe s1) X.xe s:=by
 have hσ:=t.hσ;have ok:=t.ok;have n:=t.nx;cases f with
 |EB =>
  obtain⟨x,rfl,hz⟩:=aV (f:=yW) h;clear h;have h:=hz;clear hz;obtain⟨v,rfl,tx⟩:=t.one;unfold yW at h;split at h
  ·cases h;obtain⟨a',ws,ex,h1,h2⟩:=tx.list ok;rw[hK]at h1;subst ex;obtain⟨u,rfl,rr⟩:=vals1 rv;cases rr;exact qN hc I h1 λl hl=>q.tupK hσ ok n h2.rev l hl
  ·cases h
 |DJ =>
  obtain⟨x,rfl,hz⟩:=aV (f:=yX) h;clear h;have h:=hz;clear hz;obtain⟨v,rfl,tx⟩:=t.one;unfold yX at h;split at h
  ·obtain⟨a',ws,ex,h1,h2⟩:=tx.list ok;rw[hK]at h1;subst ex;obtain⟨u,rfl,rr⟩:=vals1 rv;cases rr;split at h
   ·cases h;exact sL hc I h1 λl hl=>q.list hσ ok n (bT (by assumption) h2).rev l hl
   ·cases h
  ·cases h
 |sset =>
  obtain⟨x,rfl,hz⟩:=aV (f:=λx=>(qX x.2).bind λss=>if ss.length<64 then Od (Kd.own,U.lst ((aH ss).map .str)) else OQ) h;clear h;have h:=hz;clear hz;obtain⟨ss,e,h⟩:=PF.mp h;obtain⟨v,rfl,tx⟩:=t.one;obtain⟨a',ys,rfl,h1,h2,rfl⟩:=jH hK ok tx e;obtain⟨u,rfl,rr⟩:=vals1 rv;cases rr;split at h
  ·cases h;exact fD hc I h1 h2 λS h' tk hS I1=>jm hc I1 hS (by assumption) λl hl=>q.list hσ ok n (ai.strs.mpr rfl) l hl
  ·cases h
 |gP =>
  obtain⟨x,rfl,hz⟩:=aV (f:=λx:Kd×U=>(qX x.2).map λss:List Str=>(Kd.loc,U.int (ss.length:Int))) h;clear h;have h:=hz;clear hz;obtain⟨ss,e,rfl⟩:=O1.mp h;obtain⟨v,rfl,tx⟩:=t.one;obtain⟨a',ys,rfl,h1,h2,rfl⟩:=jH hK ok tx e;obtain⟨u,rfl,rr⟩:=vals1 rv;cases rr;exact fD hc I h1 h2 λS h' tk hS I1=>nF I1 hS (q.flat hσ ok n rfl)
theorem pI:∀f:B2,Qx f.kP=Od f.out/\Qx f.fM=Od f.Jy/\f.kP≠"__name__"/\f.fM≠"__name__"/\(f.kP==("__debug__":Str))=OR/\(f.fM==("__debug__":Str))=OR:=by
 intro f;cases f<;>exact⟨by decide +kernel,by decide +kernel,by decide +kernel,by decide +kernel,by decide +kernel,by decide +kernel⟩
theorem zj(f:B2):∃T,f.Jy=.type T:=by cases f<;>exact⟨_,rfl⟩
theorem zk(f:B2):(∃T,f.out=.type T)\/∃T,f.out=.builtin T:=by cases f<;>first|exact .inl ⟨_,rfl⟩|exact .inr ⟨_,rfl⟩
theorem wF{M:Model}{E:OW->O7->Prop}(h:OZ M A t (λv s₁=>OZ M A (RC (.type T) [v]) Q E s₁) E s):OZ M A (callWith pos (.type T) [] [(OR,t)] []) Q E s :=
 PySem.callWith_type rfl (RZ (To (Qb h (λ_ _ h₁=>TL h₁) λ_ _ e=>e)))
theorem zl{M:Model}{E:OW->O7->Prop}(h:OZ M A t (λv s₁=>OZ M A (RC (.builtin T) [v]) Q E s₁) E s):OZ M A (callWith pos (.builtin T) [] [(OR,t)] []) Q E s :=
 QY rfl (RZ (To (Qb h (λ_ _ h₁=>TL h₁) λ_ _ e=>e)))
theorem tB(hc:X.calm=OP)(hK:C.K=X.K)(Gw:Gl X f.fM)(Il:X.mg f.fM=OQ)
  (ha:PA X (e::es) (Dk C ms)) (he:Pj (e::es) X.env=(OR,QK e X.env)::Pj es X.env) (Dp:(QP pos2 (Pj es X.env)).any (·.1)=OR)
  (I:Inv X pins c0.σ c0.H s) (ok:Ok C c0) (h:W (ms >>= λrs=>ar rs >>= λ_=>M.Cu (nN f rs)) c0.st (bI C c0 Q)) :
  OZ (O9 X.prog X.w) X.A (QK (.Call (.Name f.fM p2) (e::es) [] pos2) X.env) (λv s1=>OZ (O9 X.prog X.w) X.A (RC f.out [v]) (EP X pins c0.σ Q) X.xe s1) X.xe s:=by
 obtain⟨b1,b2,b3,b4,b5,b6⟩:=pI f;refine QJ (dv I Gw Il b2 ?_ b4 b6);have fin:OZ (O9 X.prog X.w) X.A (WN (QP pos2 (Pj (e::es) X.env))) (λus s1=>OZ (O9 X.prog X.w) X.A (RC f.Jy us) (λv s1=>OZ (O9 X.prog X.w) X.A (RC f.out [v]) (EP X pins c0.σ Q) X.xe s1) X.xe s1) X.xe s :=
  Cm (args ha I ok h pos2) λus s1 DQ=>by
   obtain⟨rs,c,vs,t,I1,rv,w⟩:=DQ;obtain⟨r,e,q⟩:=bC.mp w;have z:=zi hc hK t I1 rv e q;rw[t.hσ]at z;exact z
 obtain⟨T,hT⟩:=zj f;rw[hT]at fin ⊢;exact QV fin he Dp
theorem wG(hc:X.calm=OP)(hK:C.K=X.K)(HQ:Gl X f.kP)(Kz:X.mg f.kP=OQ)(Gw:Gl X f.fM)(Il:X.mg f.fM=OQ)
  (ha:PA X (e::es) (Dk C ms)) (he:Pj (e::es) X.env=(OR,QK e X.env)::Pj es X.env) (Dp:(QP pos2 (Pj es X.env)).any (·.1)=OR) :
  PE X (.Call (.Name f.kP p) [.Call (.Name f.fM p2) (e::es) [] pos2] [] pos) (Cj C (ms >>= λrs=>ar rs >>= λ_=>M.Cu (nN f rs))):=by
 rintro pins s σ H Q I ⟨c0,rfl,rfl,ok,h⟩;obtain⟨b1,b2,b3,b4,b5,b6⟩:=pI f;refine QJ (dv I HQ Kz b1 ?_ b3 b5);have inner:=tB (p2:=p2) (pos2:=pos2) hc hK Gw Il ha he Dp I ok h;have eb:QP pos (Pj [.Call (.Name f.fM p2) (e::es) [] pos2] X.env)=[(OR,QK (.Call (.Name f.fM p2) (e::es) [] pos2) X.env)]:=rfl;have ek:Us pos (SR [] X.env)=[]:=rfl;rw[eb,ek];rcases zk f with⟨T,hT⟩|⟨T,hT⟩
 ·rw[hT]at inner ⊢;exact wF inner
 ·rw[hT]at inner ⊢;exact zl inner
end
section
variable{X:Cx}{C:Ct}{pins:List (O8×Obj)}{s:O7}{c0 c c1:Cf}
variable{a b d e o tg:PR}{es:List PR}{m ma mb md:M (Kd×U)}{ms:M (List (Kd×U))}{ta tb:M Bool}{pos p p2 apos Cc:Pos}
def iN(rs:List (Kd×U))(c c':Cf):Prop:=∀j u,(Kd.bor j,u)∈rs->c'.σ[j]?=c.σ[j]?
def Walk(C:Ct)(c:Cf)(rs:List (Kd×U))(xs:List (Kd×U))(J:It):Prop:=∀c',Ok C c'->Ns c c'->iN rs c c'->aU rs c'.st ->
 (∀(i:Nat) r,xs[i]?=Od r->(r.1=.loc\/r.1=.any)/\J.go i c'.H/\∀x H',J.IT i c'.H x H'->∃EI:Cf,EI.H=H'/\EI.σ=c'.σ/\EI.st=c'.st/\Ok C EI/\Nx c' EI/\aC C c' EI r.1 r.2 x) /\
 ∀i:Nat,xs.length<=i->J.stop i c'.H
def E5(C:Ct)(ik:Ik)(ms:M (List (Kd×U))):TI:=λσ H R=>∃c0:Cf,c0.σ=σ/\c0.H=H/\Ok C c0/\W (ms >>= λrs=>ar rs >>= λ_=>M.Cu (DV ik rs) >>= λxs=>pure (rs,xs)) c0.st λq st' =>
 ∀c J,c.σ=σ->c.st=st'->Ok C c->Nx c0 c->aU q.1 c.st->Walk C c q.1 q.2 J->R J c.H
theorem aC.walk(ok:Ok C c)(n:Ns c c')(hf:iN [r] c c')(hs:aU [r] c'.st)(h:aC C c0 c r.1 r.2 v):aC C c0 c' r.1 r.2 v :=
 (h.w.LF ok n λj e=>hf j r.2 (by rw[<-e];simp)).t hs
theorem tD(k:Kd):kE k=.loc\/kE k=.any:=by cases k<;>simp[kE]
theorem ra(hK:C.K=X.K)(ok:Ok C c)(h:aC C c0 c k (.lst us) (.ref a')):Walk C c [(k,.lst us)] (us.map λu=>(kE k,u)) (JN X.K a'):=by
 intro c' Cy n hf hs;have h':=aC.walk (r:=(k,.lst us)) ok n hf hs h;obtain⟨a2,vs,e,h1,h2⟩:=h'.list Cy;cases e;rw[hK]at h1;refine⟨λi r hr=>?_,λi hi=>⟨vs,h1,by rw[<-h2.len];simpa using hi⟩⟩;rw[Pa,O1]at hr;obtain⟨u,hu,rfl⟩:=hr;obtain⟨v,hv,rep⟩:=h2.get hu;refine⟨tD k,⟨vs,v,h1,hv⟩,λx H' hy=>?_⟩;obtain⟨e,hy⟩:=hy;subst e;have:=hy vs h1;rw[hv]at this;cases this;exact⟨c',rfl,rfl,rfl,Cy,Nx.refl c',aC.item rep⟩
theorem nR(hK:C.K=X.K)(ok:Ok C c)(h:aC C c0 c k (.tup us) (.ref a')):Walk C c [(k,.tup us)] (us.map λu=>(kE k,u)) (JO X.K a'):=by
 intro c' Cy n hf hs;have h':=aC.walk (r:=(k,.tup us)) ok n hf hs h;obtain⟨a2,vs,e,h1,h2⟩:=h'.tuple Cy;cases e;rw[hK]at h1;refine⟨λi r hr=>?_,λi hi=>⟨vs,h1,by rw[<-h2.len];simpa using hi⟩⟩;rw[Pa,O1]at hr;obtain⟨u,hu,rfl⟩:=hr;obtain⟨v,hv,rep⟩:=h2.get hu;refine⟨tD k,⟨vs,v,h1,hv⟩,λx H' hy=>?_⟩;obtain⟨e,hy⟩:=hy;subst e;have:=hy vs h1;rw[hv]at this;cases this;exact⟨c',rfl,rfl,rfl,Cy,Nx.refl c',aC.item rep⟩
theorem nS{lo:Int}:Walk C c rs ((Pl n).map λi:Nat=>(Kd.loc,U.int (lo+(i:Int)))) (IV lo n):=by
 intro c' Cy nx hf hs;refine⟨λi r hr=>?_,λi hi=>by show n<=i;simpa using hi⟩;rw[Pa,O1]at hr;obtain⟨j,hu,rfl⟩:=hr;have hi:i<n:=by simpa using(O6.mp hu).1
 rw[List.getElem?_range hi]at hu;cases hu;refine⟨.inl rfl,hi,λy H' hy=>?_⟩;obtain⟨e,rfl⟩:=hy;subst e;exact⟨c',rfl,rfl,rfl,Cy,Nx.refl c',rfl⟩
theorem zm(hK:C.K=X.K)(ha:PE X a (Cj C ma)):PI X tg a (E5 C .seq (ma >>= λr=>pure [] >>= λrs=>pure (r::rs))):=by
 rintro pins s σ H R I ⟨c0,rfl,rfl,ok,h⟩;rw[ae,ae]at h;obtain⟨r,st1,e1,h⟩:=h;rw[ae,aj,aj,ae,br,ae]at h;obtain⟨Cp,h⟩:=h;obtain⟨xs,e2,h⟩:=bC.mp h;rw[aj]at h;obtain⟨k,u⟩:=r;cases u with
 |lst us =>
  cases e2;refine vq ha pins s c0.σ c0.H R I ⟨c0,rfl,rfl,ok,_,st1,e1,λc v hσ hs CK n rep=>?_⟩;obtain⟨a',vs,rfl,h1,h2⟩:=rep.list CK;subst hs;exact⟨a',rfl,⟨vs,hK▸h1⟩,h c _ hσ rfl CK n Cp (ra hK CK rep)⟩
 |tup us =>
  cases e2;refine yo ha pins s c0.σ c0.H R I ⟨c0,rfl,rfl,ok,_,st1,e1,λc v hσ hs CK n rep=>?_⟩;obtain⟨a',vs,rfl,h1,h2⟩:=rep.tuple CK;subst hs;have DW:=h1;rw[hK]at DW;exact⟨a',rfl,⟨vs,DW⟩,h c _ hσ rfl CK n Cp (nR hK CK rep)⟩
 |_=>cases e2
theorem tE{k:List (Kd×U)->M β}{Cq:β->ax->Prop}(ok:Ok C c0)(h:W (ms >>= λrs=>ar rs >>= λ_=>k rs) c0.st Cq)
  (hz:∀rs c vs,Ed C c0 c rs vs->W (k rs) c.st Cq->Z vs c.H):Dk C ms c0.σ c0.H Z:=by
 rw[ae]at h;refine⟨c0,rfl,rfl,ok,h.mono λrs st1 h1 c1 vs e1 e2 Co n1 r1=>?_⟩;rw[ae,br]at h1;subst e2;exact hz rs c1 vs ⟨e1,Co,n1,r1,h1.1⟩ h1.2
theorem wH(hg:Gl X "range")(hm:X.mg "range"=OQ)(hs:Pj [a] X.env=[(OR,QK a X.env)])(ha:PA X [a] (Dk C ms)):PI X tg (.Call (.Name "range" p) [a] [] pos) (E5 C .CV ms):=by
 rintro pins s σ H R I ⟨c0,rfl,rfl,ok,h⟩;refine qz hg hm ha hs pins s c0.σ c0.H R I (tE ok h λrs c vs t w=>?_);rw[ae]at w;obtain⟨xs,e2,w⟩:=bC.mp w;rw[aj]at w;obtain⟨x,rfl,hz⟩:=aV (f:=sV) e2;clear e2;have e2:=hz;clear hz;obtain⟨v,rfl,tx⟩:=t.one;unfold sV at e2;split at e2
 ·split at e2
  ·rename_i hh;cases e2;exact⟨_,by rw[tx.int t.ok],⋯,⋯,w c _ t.hσ rfl t.ok t.nx t.GN nS⟩
  ·cases e2
 ·cases e2
theorem mq{k:Kd}{us:List U}{u0:U}{a':O8}{Sq:Hp->List V->Prop}(Jh:∀c',Ok C c'->Ns c c'->iN [(k,u0)] c c'->aU [(k,u0)] c'.st->∃vs,Sq c'.H vs/\ai C (SK C c' k) c'.H us vs):Walk C c [(k,u0)] (us.zipIdx.map λp=>(kE k,.tup [.int p.2,p.1])) (Hg Sq):=by
 intro c' Cy n hf hs;obtain⟨vs,h1,h2⟩:=Jh c' Cy n hf hs;refine⟨λi r hr=>?_,λi hi=>⟨vs,h1,by rw[<-h2.len];simpa using hi⟩⟩;rw[Pa,O1]at hr;obtain⟨p,hp,rfl⟩:=hr;rw[Vo,O1]at hp;obtain⟨u,hu,rfl⟩:=hp;obtain⟨v,hv,rep⟩:=h2.get hu;refine⟨tD k,⟨vs,v,h1,hv⟩,λx H' hy=>?_⟩;obtain⟨p,ND,rfl,hy⟩:=hy;have Gn:=hy vs v h1 hv;subst Gn;obtain⟨CG,n2⟩:=Cy.lay (o:=.tup [.int i,v]) ND;refine⟨{c' with H:=upd c'.H p (.tup [.int i,v])},rfl,rfl,rfl,CG,n2,aC.item ?_⟩;have r2:ai C (SK C c' k) c'.H [.int ((0+i:Nat):Int),u] [.int (i:Int),v]:=by
  rw[T2];exact⟨_,_,rfl,rfl,_,_,rfl,rep,rfl⟩
 cases k<;>exact⟨p,_,rfl,CB.of au,by first|exact r2.mv (Cy.GG n2)|exact r2.mv (Cy.mv n2)⟩
theorem zo{es:List PR}{kx:Nat}{ps:Pos}(hK:C.K=X.K)(hg:Gl X "enumerate")(hm:X.mg "enumerate"=OQ)(hs:Pj [a] X.env=[(OR,QK a X.env)])(ha:PA X [a] (Dk C ms)):PI X (.Tuple es kx ps) (.Call (.Name "enumerate" p) [a] [] pos) (E5 C .Hi ms):=by
 rintro pins s σ H R I ⟨c0,rfl,rfl,ok,h⟩;refine vT hg hm ha hs pins s c0.σ c0.H R I (tE ok h λrs c vs t w=>?_);rw[ae]at w;obtain⟨xs,e2,w⟩:=bC.mp w;rw[aj]at w;obtain⟨x,rfl,hz⟩:=aV (f:=yY) e2;clear e2;have e2:=hz;clear hz;obtain⟨v,rfl,tx⟩:=t.one;unfold yY at e2;split at e2
 ·cases e2;obtain⟨a',ws,e1,h1,h2⟩:=tx.list t.ok;subst e1;refine⟨a',rfl,.inl ⟨⟨ws,hK▸h1⟩,w c _ t.hσ rfl t.ok t.nx t.GN ?_⟩⟩;refine mq (a':=a') λc' Cy n hf Hf=>?_;obtain⟨a2,vs,e,h1,h2⟩:=(aC.walk t.ok n hf Hf tx).list Cy;cases e;exact⟨vs,hK▸h1,h2⟩
 ·cases e2;obtain⟨a',ws,e1,h1,h2⟩:=tx.tuple t.ok;subst e1;rw[hK]at h1;refine⟨a',rfl,.inr ⟨⟨ws,h1⟩,w c _ t.hσ rfl t.ok t.nx t.GN ?_⟩⟩;refine mq (a':=a') λc' Cy n hf Hf=>?_;obtain⟨a2,vs,e,h1,h2⟩:=(aC.walk t.ok n hf Hf tx).tuple Cy;cases e;rw[hK]at h1;exact⟨vs,h1,h2⟩
 ·cases e2
theorem Ok.put(ok:Ok C c)(n:Nx c0 c)(hi:i<c.σ.length)(hk:k=.own\/k=.loc\/k=.any)(Dl:Ok C c0)(h:aC C c0 c k u v):
  Ok C {c with σ:=c.σ.set i (Od v),st:=c.st.set i (Od (k,u))}/\Nx c0 {c with σ:=c.σ.set i (Od v),st:=c.st.set i (Od (k,u))}:=by
 have Dz:i<c.st.length:=by rw[ok.len];exact hi
 have Df:∀(j:Nat) k' u',(c.st.set i (Od (k,u)))[j]?=Od (Od (k',u'))->j≠i->c.st[j]?=Od (Od (k',u')):=λj k' u' e ne=>by rw[Pk (Qs ne)]at e;exact e
 have KA:∀(j:Nat) v',(c.σ.set i (Od v))[j]?=Od (Od v')->j≠i->c.σ[j]?=Od (Od v'):=λj v' e ne=>by rw[Pk (Qs ne)]at e;exact e
 have sl:dC C c.S c.H k u v:=by
  rcases hk with rfl|rfl|rfl
  ·obtain⟨r,e,h1,h2,h3,h4⟩:=h;obtain⟨z0,z1,z2,z3,z4⟩:=Dl.kM h1;exact⟨r,e,h2,z2,z0,h4⟩
  ·exact h
  ·exact h
 have GP:∀(j:Nat) k' u' r,k'.root=OP->(c.st.set i (Od (k,u)))[j]?=Od (Od (k',u'))->(c.σ.set i (Od v))[j]?=Od (Od (.ref r))->j=i/\k=.own/\v=.ref r\/j≠i/\c.st[j]?=Od (Od (k',u'))/\c.σ[j]?=Od (Od (.ref r)):=λj k' u' r hr e1 e2=>by
  by_cases hj:j=i
  ·subst hj;rw[Ph Dz]at e1;rw[Ph hi]at e2;cases e1;cases e2;rcases hk with rfl|rfl|rfl
   ·exact .inl ⟨rfl,rfl,rfl⟩
   ·cases hr
   ·cases hr
  ·exact .inr ⟨hj,Df j k' u' e1 hj,KA j _ e2 hj⟩
 have dD:∀(j:Nat) (u':U),(c.st.set i (Od (k,u)))[j]?=Od (Od (.Ci,u'))->c.st[j]?=Od (Od (.Ci,u'))/\(c.σ.set i (Od v))[j]?=c.σ[j]?:=λj u' e=>by
  by_cases hj:j=i
  ·subst hj;rw[Ph Dz]at e;cases e;rcases hk with hk|hk|hk<;>cases hk
  ·exact⟨Df j .Ci u' e hj,Pk (Qs hj)⟩
 have b1:∀a,({c with σ:=c.σ.set i (Od v),st:=c.st.set i (Od (k,u))}:Cf).R1 a->c.R1 a\/k=.own/\v=.ref a:=λa DQ=>by
  obtain⟨j,k',u',hr,e1,e2⟩:=DQ;rcases GP j k' u' a hr e1 e2 with⟨a1,a2,a3⟩|⟨a1,a2,a3⟩
  ·exact .inr ⟨a2,a3⟩
  ·exact .inl ⟨j,k',u',hr,a2,a3⟩
 have FK:EH C {c with σ:=c.σ.set i (Od v),st:=c.st.set i (Od (k,u))}:=ok.dd.of rfl dD (λa z=>(b1 a z).imp id λ⟨q1,q2⟩ j z'=>by
  subst q1;obtain⟨r',e,_,_,h3,_⟩:=h;rw[q2]at e;cases e;exact h3 (.inr ⟨j,z'⟩)) (.up λ_ z=>z) λj a z=>⟨(ok.root (.inr ⟨j,z⟩)).1,λo q=>q⟩
 refine⟨⟨ok.same,ok.D0,ok.par,ok.io,by simp[ok.len],λj k' u' e=>?_,λj1 j2 k1 k2 u1 u2 r KC Ij e1 e2 e3 e4=>?_,FK⟩,⟨⟨n.keep,n.there,λa z=>?_,n.sub,n.new⟩⟩⟩
 ·by_cases hj:j=i
  ·subst hj;rw[Ph Dz]at e;cases e;exact⟨v,by rw[Ph hi],sl⟩
  ·obtain⟨v',e1,e2⟩:=ok.sl j k' u' (Df j k' u' e hj);exact⟨v',by rw[Pk (Qs hj)];exact e1,e2⟩
 ·have z1:=GP j1 k1 u1 r KC e1 e3;have z2:=GP j2 k2 u2 r Ij e2 e4;rcases z1 with⟨a1,a2,a3⟩|⟨a1,a2,a3⟩
  ·rcases z2 with⟨b1,b2,b3⟩|⟨b1,b2,b3⟩
   ·exact a1.trans b1.symm
   ·subst a2;obtain⟨r',e,h1,h2,h3,h4⟩:=h;rw[a3]at e;cases e;exact(h3 (.inl ⟨j2,k2,u2,Ij,b2,b3⟩)).elim
  ·rcases z2 with⟨b1,b2,b3⟩|⟨b1,b2,b3⟩
   ·subst b2;obtain⟨r',e,h1,h2,h3,h4⟩:=h;rw[b3]at e;cases e;exact(h3 (.inl ⟨j1,k1,u1,KC,a2,a3⟩)).elim
   ·exact ok.inj j1 j2 k1 k2 u1 u2 r KC Ij a2 b2 a3 b3
 ·rcases z with z|⟨j,u',r',e1,e2,e3⟩
  ·rcases b1 a z with z|⟨a2,a3⟩
   ·exact n.roots a (.inl z)
   ·subst a2;obtain⟨r',e,h1,h2,h3,h4⟩:=h;rw[a3]at e;cases e;exact .inr h1
  ·obtain⟨q1,q2⟩:=dD j u' e1;exact n.roots a (.inr ⟨j,u',r',q1,q2▸e2,e3⟩)
theorem pJ(Dl:Ok C c0)(ok:Ok C c)(n:Nx c0 c)(hi:i<c.σ.length)(hr:aC C c0 c r.1 r.2 v)(h:W (dq i r) c.st Cq):
  ∃c',c'.σ=c.σ.set i (Od v)/\c'.H=c.H/\Ok C c'/\Nx c0 c'/\Cq () c'.st:=by
 obtain⟨k,u⟩:=r;cases k with
 |own =>
  obtain⟨x,st',e,hp⟩:=h;cases e;obtain⟨a1,a2⟩:=ok.put n hi (.inl rfl) Dl hr;exact⟨{c with σ:=c.σ.set i (Od v),st:=c.st.set i (Od (.own,u))},rfl,rfl,a1,a2,hp⟩
 |loc =>
  obtain⟨x,st',e,hp⟩:=h;cases e;obtain⟨a1,a2⟩:=ok.put n hi (.inr (.inl rfl)) Dl hr;exact⟨{c with σ:=c.σ.set i (Od v),st:=c.st.set i (Od (.loc,u))},rfl,rfl,a1,a2,hp⟩
 |any =>
  obtain⟨x,st',e,hp⟩:=h;cases e;obtain⟨a1,a2⟩:=ok.put n hi (.inr (.inr rfl)) Dl hr;exact⟨{c with σ:=c.σ.set i (Od v),st:=c.st.set i (Od (.any,u))},rfl,rfl,a1,a2,hp⟩
 |bor j =>
  obtain⟨x,st',e,hp⟩:=h;rw[show dq i (.bor j,u) c.st=match c.st[j]? with|some (Od (.own,u))=>Od (Ex.ok (),(c.st.set j (Od (.loc,u))).set i (Od (.loc,u)))|_=>OQ from rfl]at e;split at e
  ·rename_i w hj;cases e;obtain⟨v',e1,r,er,_⟩:=ok.sl j _ _ hj;have hv:c.σ[j]?=Od (Od v):=hr.2;rw[hv]at e1;cases e1;subst er;obtain⟨Cy,n',rep⟩:=ok.tq n hj hv;obtain⟨a1,a2⟩:=Ok.put (c:={c with S:=λa=>c.S a\/a=r,st:=c.st.set j (Od (.loc,w))}) Cy n' (k:=.loc) (u:=w) (v:=.ref r) hi (.inr (.inl rfl)) Dl rep;exact⟨{S:=λa=>c.S a\/a=r,H:=c.H,σ:=c.σ.set i (Od (.ref r)),st:=(c.st.set j (Od (.loc,w))).set i (Od (.loc,w)),kid:=c.kid},rfl,rfl,a1,a2,hp⟩
  ·cases e
 |_=>exact hr.elim
end
section
theorem Ok.B8(Dl:Ok C c0)(ok:Ok C c)(n:Nx c0 c)(h0:c0.H r=OQ)(hS:¬c.S r)(hR:¬c.R r)(hH:∃o,c.H r=Od o/\¬Tp o):
  Ok C {c with H:=upd c.H r o' }/\Nx c0 {c with H:=upd c.H r o' }:=by
 obtain⟨o,ho,hT⟩:=hH;obtain⟨q0,_,qP,qI,_⟩:=Dl.kM h0;have hP:¬PS C c.S r:=λz=>z.elim qP hS;have kp:∀a o2,a≠r->c.H a=Od o2->(upd c.H r o') a=Od o2:=λa o2 ne e=>by rw[ao ne];exact e
 have mv:∀S:O8->Prop,¬S r->Mv S c.H S (upd c.H r o'):=λS hS=>⟨λa z=>z,λa ob e tp=>kp a ob (λz=>by subst z;rw[ho]at e;cases e;exact hT tp) e,λa ob z e=>kp a ob (λy=>by subst y;exact hS z) e⟩
 have NF:∀{a:O8} {o2:HO},c0.H a=Od o2->a≠r:=λe z=>by subst z;rw[h0]at e;cases e
 have th:∀a,(∃o2,c.H a=Od o2)->∃o2,(upd c.H r o') a=Od o2:=λa DQ=>by
  obtain⟨o2,e⟩:=DQ;by_cases ha:a=r
  ·subst ha;exact⟨o',au⟩
  ·exact⟨o2,kp a o2 ha e⟩
 refine⟨⟨λa o2 e z=>kp a o2 (λy=>by subst y;rw[q0]at e;cases e) (ok.same a o2 e z),λa z=>⟨(ok.D0 a z).1,th a (ok.D0 a z).2⟩,ok.par,λa z=>⟨(ok.io a z).1,th a (ok.io a z).2⟩,ok.len,λi k u e=>?_,ok.inj,ok.dd.hs (mv _ hS) λj a z=>⟨(ok.root (.inr ⟨j,z⟩)).1,λo2 e=>kp a o2 (λy=>by subst y;exact hR (.inr ⟨j,z⟩)) e⟩⟩,?_⟩
 ·obtain⟨v,e1,e2⟩:=ok.sl i k u e;refine⟨v,e1,e2.mv (mv _ hS) (mv _ hP) λhk r' er=>?_⟩;obtain⟨Kw,DS,q1,_⟩:=e2.rt hk;rw[er]at DS;cases DS;exact⟨q1,λo2 e2=>kp r' o2 (λy=>by subst y;exact hR (.inl ⟨i,k,u,hk,e,by rw[e1,er]⟩)) e2⟩
 ·exact⟨⟨λa o2 e z=>kp a o2 (NF e) (n.keep a o2 e z),λa o2 e=>th a (n.there a o2 e),n.roots,n.sub,n.new⟩⟩
theorem tF(hH:c.H r=Od (.Di o (.dK kvs)))(hR:¬c.R r)(ok:Ok C c)(hk:kvs.map (·.1)=ks.map PN)(hr:ai C c.S c.H us (kvs.map (·.2))):Walk C c [(.own,.CU ks us)] (nO (ks,us)) (Ks r o kvs):=by
 intro c' Cy n hf hs;have h1:=n.keep r _ hH hR;have h2:=hr.mv (ok.mv n);have l1:kvs.length=ks.length:=by rw[<-OY (f:=(·.1)),hk,OY]
 have l2:us.length=kvs.length:=by rw[h2.len,OY]
 have l3:(nO (ks,us)).length=kvs.length:=by
  unfold nO;rw[OY,Wi];show min ks.length us.length=_;omega
 refine⟨λi q hq=>?_,λi hi=>⟨h1,⋯⟩⟩;unfold nO at hq;rw[Pa,O1]at hq;obtain⟨p,hp,rfl⟩:=hq;obtain⟨hu,hw⟩:=List.getElem?_zip_eq_some.mp hp;obtain⟨v,hv,rep⟩:=h2.get hw;have hi:i<kvs.length:=by
  have:i<ks.length:=(O6.mp hu).1;omega
 have Jk:kvs[i]?=Od (PN p.1,v):=by
  rw[Pa,Pn hi]at hv;have e1:(kvs.map (·.1))[i]?=(ks.map PN)[i]?:=by rw[hk]
  rw[Pa,Pa,Pn hi,hu]at e1;rw[Pn hi];simp only[SQ,R6]at e1 hv;rw[<-e1,<-hv]
 refine⟨.inl rfl,⟨h1,hi⟩,λx H' hy=>?_⟩;obtain⟨q,NG,rfl,hy⟩:=hy;have Gn:=hy _ _ Jk;subst Gn;obtain⟨CG,n2⟩:=Cy.lay (o:=.tup [kV (PN p.1),v]) NG;refine⟨{c' with H:=upd c'.H q (.tup [kV (PN p.1),v])},rfl,rfl,rfl,CG,n2,?_⟩;have r2:ai C c'.S c'.H [.str p.1,p.2] [kV (PN p.1),v]:=⟨_,_,rfl,rfl,_,_,rfl,rep,rfl⟩
 exact⟨q,_,rfl,CB.of au,r2.mv (Cy.mv n2)⟩
theorem zp(C5:Sb a "items" X.env (QK a X.env)=QK a X.env)(Cs:(apos.endLine==Cc.line)=OP)(ha:PE X a (Cj C ma)):
  PI X (.Tuple es kx ps) (.Call (.Attribute a "items" apos) [] [] Cc) (E5 C .Ig (ma >>= λr=>pure [] >>= λrs=>pure (r::rs))):=by
 rintro pins s σ H R I ⟨c0,rfl,rfl,ok,h⟩;rw[ae,ae]at h;obtain⟨r,st1,e1,h⟩:=h;rw[ae,aj,aj,ae,br,ae]at h;obtain⟨Cp,h⟩:=h;obtain⟨xs,e2,h⟩:=bC.mp h;rw[aj]at h;have hz:yZ r=Od xs:=e2;unfold yZ at hz;split at hz
 rotate_left
 ·cases hz
 rename_i ks us;cases hz;refine qV ha C5 Cs pins s c0.σ c0.H R I ⟨c0,rfl,rfl,ok,_,st1,e1,λc v hσ hs CK n rep=>?_⟩;obtain⟨a',f0,fS,fR,fv⟩:∃a',v=.ref a'/\c0.H a'=OQ/\¬c.S a'/\¬c.R a':=by
  obtain⟨r,z1,z2,z3,z4,_⟩:=rep;exact⟨r,z1,z2,z3,z4⟩
 obtain⟨a2,kvs,z1,h1,h2,h3⟩:=rep.dict CK;subst z1;cases f0;subst hs;refine⟨a',kvs,rfl,h1,λo=>?_⟩;obtain⟨CG,n2⟩:=Ok.B8 (o':=.Di o (.dK kvs)) ok CK n fS fR fv ⟨_,h1,λz=>z⟩;refine h {c with H:=upd c.H a' (.Di o (.dK kvs))} _ hσ rfl CG n2 Cp (tF (r:=a') (o:=o) (kvs:=kvs) au fv CG h2 ?_);refine ai.mv ⟨λa z=>z,λa ob e tp=>?_,λa ob z e=>?_⟩ h3
 ·have:a≠a':=λy=>by subst y;rw[h1]at e;cases e;exact tp
  show upd c.H a' _ a=_;rw[ao this];exact e
 ·have:a≠a':=λy=>by subst y;exact fR z
  show upd c.H a' _ a=_;rw[ao this];exact e
end
section
def tG(C:Ct)(t:Bool)(is:List Nat):TG:=λv σ H Q=>∃c0 c r,c.σ=σ/\c.H=H/\Ok C c0/\Ok C c/\Nx c0 c/\aC C c0 c r.1 r.2 v/\W (cU t is r) c.st λ_ st' =>
 ∀c',c'.st=st'->Ok C c'->Nx c0 c'->(∀j,j∉is->c'.σ[j]?=c.σ[j]?)->c'.σ.length=c.σ.length->Q c'.σ c'.H
structure nU(X:Cx)(e:PR)(i:Nat):Prop where
 is:∃x pos,e=.Name x pos/\X.N[i]?=Od x/\Loc X.env.scope x/\(X.fn x=OP\/X.env.scope.names.lookup x=Od .local)
theorem zq(hN:X.N.Nodup)(h:nU X e i):PG X e (tG C OR [i]):=by
 obtain⟨x,pos,rfl,h1,h2,h3⟩:=h.is;rintro pins s σ H v u Q I rv ⟨c0,c,r,rfl,rfl,Dl,ok,n,rep,w⟩;have hi:i<c.σ.length:=by rw[I.len];exact(O6.mp h1).1
 obtain⟨c',e1,e2,Cy,n',q⟩:=pJ (r:=r) Dl ok n hi rep w;refine oO hN h1 h2 h3 pins s c.σ c.H v u Q I rv ?_;have z:=q c' rfl Cy n' (λj hj=>by rw[e1,Pk (by intro z;exact hj (by simp[z]))]) (by rw[e1];simp);rw[e1,e2]at z;exact z
def KD:List Nat->G6
 |[]=>Aj
 |i::is=>xE (oN i) (KD is)
inductive c9(X:Cx):List PR->List Nat->Prop where
 |nil:c9 X [] []
 |cons {e:PR} {es:List PR} {i:Nat} {is:List Nat} (h:nU X e i) (t:c9 X es is):c9 X (e::es) (i::is)
theorem rb(hN:X.N.Nodup)(h:c9 X es is):Ht X es (KD is):=by
 induction h with
 |nil=>exact vp
 |cons h t ih =>
  obtain⟨x,pos,rfl,h1,h2,h3⟩:=h.is;exact rR (oO hN h1 h2 h3) ih rfl
theorem nV(h:c9 X es is):(RK es X.env).length=is.length/\(RK es X.env).findIdx? (·.1)=OQ:=by
 induction h with
 |nil=>exact⟨rfl,rfl⟩
 |cons h t ih =>
  obtain⟨x,pos,rfl,h1,h2,h3⟩:=h.is;refine⟨?_,?_⟩
  ·show(_::_).length=_;simp[ih.1]
  ·show WH _ (_::_)=OQ;rw[List.findIdx?_cons,XM (by simp),ih.2];rfl
theorem pK(hk:kE k=k)(Dl:Ok C c0):∀{is:List Nat}{us:List U}{vs:List V}{c:Cf}{Cq:Unit->ax->Prop}{Q:L2.St->Hp->Prop},Ok C c->Nx c0 c->(∀i∈is,i<c.σ.length)->ai C (SK C c k) c.H us vs->W (sets is (us.map λu=>(k,u))) c.st Cq ->
  (∀c',Cq () c'.st->Ok C c'->Nx c0 c'->(∀j,j∉is->c'.σ[j]?=c.σ[j]?)->c'.σ.length=c.σ.length->Q c'.σ c'.H)->KD is vs c.σ c.H Q
 |[],[],vs,c,Cq,Q,ok,n,hi,rep,w,q=>by
  rw[show sets [] (List.map (λu=>(k,u)) [])=pure () from rfl,aj]at w;exact⟨rep,q c w ok n (λ_ _=>rfl) rfl⟩
 |[],u::us,vs,c,Cq,Q,ok,n,hi,rep,w,q=>(aq.mp w).elim
 |i::is,[],vs,c,Cq,Q,ok,n,hi,rep,w,q=>(aq.mp w).elim
 |i::is,u::us,vs,c,Cq,Q,ok,n,hi,rep,w,q=>by
  rw[show sets (i::is) (List.map (λu=>(k,u)) (u::us))=dq i (k,u) >>= λ_=>sets is (us.map λu=>(k,u)) from rfl,ae]at w;obtain⟨v,r,rfl,h1,h2⟩:=rep;have CL:k=.own\/k=.loc\/k=.any:=by cases k<;>simp[kE]at hk<;>simp
  have Oz:k≠.own:=by cases k<;>simp[kE]at hk<;>simp
  have rt:aC C c0 c k u v:=by rw[<-hk];exact aC.item h1
  obtain⟨a1,a2⟩:=ok.put n (hi i (by simp)) CL Dl rt;have es:dq i (k,u)=λst=>Od (.ok (),st.set i (Od (k,u))):=by cases k<;>simp[kE]at hk<;>rfl
  obtain⟨_,st',e,w'⟩:=w;rw[es]at e;cases e;refine⟨v,r,rfl,pK (c:={c with σ:=c.σ.set i (Od v),st:=c.st.set i (Od (k,u))}) hk Dl a1 a2 (λj hj=>by simpa using hi j (by simp[hj])) (by cases k<;>exact h2) w' λc' p Cy n' hf hl=>?_⟩;refine q c' p Cy n' (λj hj=>?_) (by rw[hl];simp);rw[hf j (λz=>hj (by simp[z])),Pk (λz=>hj (by simp[z]))]
theorem AO(hc:X.calm=OP)(hK:C.K=X.K)(hN:X.N.Nodup)(h:c9 X es is)(hl:∀i∈is,i<X.N.length):PG X (.Tuple es kk pos) (tG C OP is):=by
 rintro pins s σ H v u Q I rv ⟨c0,c,r,rfl,rfl,Dl,ok,n,rep,w⟩;obtain⟨e1,e2⟩:=nV h;refine yj hc (rb hN h) e1 e2 pins s c.σ c.H v u Q I rv ?_;obtain⟨k,ux⟩:=r;cases ux with
 |tup us =>
  rw[show cU OP is (k,.tup us)=sets is (us.map λu=>(kE k,u)) from by cases is<;>rfl]at w;obtain⟨a',vs,rfl,h1,h2⟩:=rep.tuple ok;rw[hK]at h1;have hlen:us.length=is.length:=by
   have aux:∀(is:List Nat) (l:List (Kd×U)) (st:ax) (P:Unit->ax->Prop),W (sets is l) st P->l.length=is.length:=by
    intro is;induction is with
    |nil=>intro l st P w;cases l with
     |nil=>rfl
     |cons _ _=>exact(aq.mp w).elim
    |cons i is ih=>intro l st P w;cases l with
     |nil=>exact(aq.mp w).elim
     |cons x l =>
      rw[show sets (i::is) (x::l)=dq i x >>= λ_=>sets is l from rfl,ae]at w;obtain⟨_,_,_,w⟩:=w;rw[Pw,Pw,ih l _ _ w]
   simpa using aux _ _ _ _ w
  refine⟨a',vs,rfl,h1,by rw[<-h2.len,hlen],?_⟩;refine pK (k:=kE k) (by cases k<;>rfl) Dl ok n (λi hi=>by rw[I.len];exact hl i hi) (by cases k<;>exact h2) w λc' p Cy n' hf FR=>p c' rfl Cy n' hf FR
 |_=>cases is<;>exact(aq.mp w).elim
end
section
variable{X:Cx}{C:Ct}{pins:List (O8×Obj)}{s:O7}{c0 c c1:Cf}
variable{a b d e o tg iter elt:PR}{es ifs:List PR}{m ma mb md me:M (Kd×U)}{ms:M (List (Kd×U))}{ta tb tc:M Bool}{pos p p2 apos Cc:Pos}
theorem rf{m:M α}{st:ax}{Q:α->ax->Prop}:W (inScope k m) st Q↔W m (Pc k OQ++st) λa st'=>Q a (st'.drop k):=by
 constructor
 ·rintro⟨a,st',e,h⟩;unfold inScope at e;cases q:m (Pc k OQ++st) with
  |none=>rw[q]at e;cases e
  |some r=>obtain⟨r1,r2⟩:=r;rw[q]at e;cases e;exact⟨a,r2,q,h⟩
 ·rintro⟨a,st',e,h⟩;exact⟨a,st'.drop k,by unfold inScope;rw[e],h⟩
def Cf.ext(k:Nat)(c:Cf):Cf:={c with σ:=Pc k OQ++c.σ,st:=Pc k OQ++c.st,kid:=λj=>c.kid (j - k)}
def Cf.cut(k:Nat)(c:Cf):Cf:={c with σ:=c.σ.drop k,st:=c.st.drop k,kid:=λj=>c.kid (k+j)}
theorem d4(h:(Pc k OQ++l)[j]?=Od (Od x)):∃i,j=k+i/\l[i]?=Od (Od x):=by
 by_cases hj:j<k
 ·rw[PX (by simpa using hj)]at h;rw[Qy]at h;rw[XI hj]at h;cases h
 ·refine⟨j - k,⋯,?_⟩;rw[PB (by simp;omega)]at h;simpa using h
theorem c_:(Pc k OQ++l)[k+i]?=l[i]?:=by
 rw[PB (by simp)];simp
theorem tH:(c.ext k).R1 r↔c.R1 r:=by
 constructor
 ·rintro⟨j,kd,u,h1,h2,h3⟩;obtain⟨i,rfl,e⟩:=d4 h2;rw[Cf.ext,c_]at h3;exact⟨i,kd,u,h1,e,h3⟩
 ·rintro⟨i,kd,u,h1,h2,h3⟩;exact⟨k+i,kd,u,h1,by rw[Cf.ext,c_];exact h2,by rw[Cf.ext,c_];exact h3⟩
theorem kQ{a:O8}(h:(c.ext k).RD j a):∃i,j=k+i/\c.RD i a:=by
 obtain⟨u,r,e1,e2,e3⟩:=h;obtain⟨i,rfl,e⟩:=d4 e1;rw[Cf.ext,c_]at e2;refine⟨i,rfl,u,r,e,e2,?_⟩;have:(c.ext k).kid (k+i)=c.kid i:=by show c.kid (k+i - k)=_;rw[U6]
 rw[this]at e3;exact e3
theorem AQ(h:(c.ext k).R r):c.R r:=by
 rcases h with h|⟨j,h⟩
 ·exact .inl (tH.mp h)
 ·obtain⟨i,_,h⟩:=kQ h;exact .inr ⟨i,h⟩
theorem Ok.ext(k:Nat)(ok:Ok C c):Ok C (c.ext k)/\Nx c (c.ext k):=by
 refine⟨⟨ok.same,ok.D0,ok.par,ok.io,by simp[Cf.ext,ok.len],λj kd u e=>?_,λi j k1 k2 u u' r h1 h2 e1 e2 e3 e4=>?_,⟨λj u r e1 e2=>?_,λi j a z1 z2=>?_,λj a z1 z2=>?_⟩⟩,⟨⟨λ_ _ h _=>h,λ_ o h=>⟨o,h⟩,λa h=>.inl (AQ h),λ_ h=>h,λ_ h=>.inl h⟩⟩⟩
 ·obtain⟨i,rfl,e'⟩:=d4 e;obtain⟨v,e1,e2⟩:=ok.sl i kd u e';exact⟨v,by rw[Cf.ext,c_];exact e1,e2⟩
 ·obtain⟨i',rfl,EG⟩:=d4 e1;obtain⟨j',rfl,H_⟩:=d4 e2;rw[Cf.ext,c_]at e3 e4;rw[ok.inj i' j' k1 k2 u u' r h1 h2 EG H_ e3 e4]
 ·obtain⟨i,rfl,e⟩:=d4 e1;rw[Cf.ext,c_]at e2;have:(c.ext k).kid (k+i)=c.kid i:=by show c.kid (k+i - k)=_;rw[U6]
  rw[this];exact ok.dd.kd i u r e e2
 ·obtain⟨i',rfl,y1⟩:=kQ z1;obtain⟨j',rfl,y2⟩:=kQ z2;rw[ok.dd.dj i' j' a y1 y2]
 ·obtain⟨i,rfl,y1⟩:=kQ z1;exact ok.dd.d1 i a y1 (tH.mp z2)
theorem tI{a:O8}(h:(c.cut k).R1 a):c.R1 a:=by
 obtain⟨j,kd,u,h1,h2,h3⟩:=h;rw[Cf.cut,QH]at h2 h3;exact⟨k+j,kd,u,h1,h2,h3⟩
theorem kR{a:O8}(h:(c.cut k).RD j a):c.RD (k+j) a:=by
 obtain⟨u,r,h1,h2,h3⟩:=h;rw[Cf.cut,QH]at h1 h2;exact⟨u,r,h1,h2,h3⟩
theorem Ok.cut(k:Nat)(ok:Ok C c):Ok C (c.cut k)/\Nx c (c.cut k):=by
 refine⟨⟨ok.same,ok.D0,ok.par,ok.io,by simp[Cf.cut,ok.len],λj kd u e=>?_,λi j k1 k2 u u' r h1 h2 e1 e2 e3 e4=>?_,⟨λj u r e1 e2=>?_,λi j a z1 z2=>?_,λj a z1 z2=>ok.dd.d1 _ a (kR z1) (tI z2)⟩⟩,⟨⟨λ_ _ h _=>h,λ_ o h=>⟨o,h⟩,λa h=>.inl (h.elim (λz=>.inl (tI z)) λ⟨j,z⟩=>.inr ⟨k+j,kR z⟩),λ_ h=>h,λ_ h=>.inl h⟩⟩⟩
 ·rw[Cf.cut,QH]at e;obtain⟨v,e1,e2⟩:=ok.sl _ kd u e;exact⟨v,by rw[Cf.cut,QH];exact e1,e2⟩
 ·rw[Cf.cut,QH]at e1 e2 e3 e4;have:=ok.inj _ _ k1 k2 u u' r h1 h2 e1 e2 e3 e4;omega
 ·rw[Cf.cut,QH]at e1 e2;exact ok.dd.kd _ u r e1 e2
 ·have:=ok.dd.dj _ _ a (kR z1) (kR z2);omega
theorem wI(h:∀j,j∉Pl k->σ'[j]?=(Pc k OQ++σ)[j]?)(hl:σ'.length=(Pc k (OQ:Option V)++σ).length):∃own:L2.St,own.length=k/\σ'=own++σ:=by
 refine⟨σ'.take k,by rw[Qa,hl];simp,?_⟩;apply VX;intro j;by_cases hj:j<k
 ·rw[PX (by rw[Qa,hl];simp;omega),List.getElem?_take,XI hj]
 ·rw[h j (by simpa using hj),PB (by simp;omega),PB (by rw[Qa,hl];simp;omega)];congr 1
  rw[Qa,hl];simp
theorem rg(e1:c1.σ=c0.σ)(Co:Ok C c1)(n1:Nx c0 c1)(hw:Walk C c1 rs xs J)(h3:W (bA k t tc me rs xs []) c1.st λus st'=>W (pure (Kd.own,U.lst us)) st' (bI C c0 Q)):
  oV k J (tG C t (Pl k)) (Dh C tc) (Cj C me) Q c0.σ c1.H:=by
 refine⟨λi m ys H=>∃c acc,c.H=H/\c.σ=c0.σ/\Ok C c/\Nx c1 c/\m=xs.length - i/\i<=xs.length/\ai C c.S c.H acc ys/\acc.length<=OV/\W (bA k t tc me rs (xs.drop i) acc) c.st λus st'=>W (pure (Kd.own,U.lst us)) st' (bI C c0 Q),⟨xs.length,c1,[],rfl,e1,Co,Nx.refl c1,by simp,Pt _,rfl,Pt _,by simpa using h3⟩,?_⟩;rintro i m ys H ⟨c,acc,rfl,e3,CK,nc,rfl,hi,rep,hlen,w⟩;refine⟨by rw[<-rep.len];exact hlen,?_⟩;have fixed:iN rs c1 c:=λj u _=>by rw[e3,e1]
 by_cases Cz:i<xs.length
 ·right
  rw[UP Cz]at w;rw[show bA k t tc me rs (xs[i]::xs.drop (i+1)) acc=ar rs >>= λ_=>inScope k (cU t (Pl k) xs[i] >>= λ_=>tc >>= λb=>if b=OP then(me >>= λr=>lift r >>= λu=>pure (Od u)) else pure OQ) >>= λr=>match r with|some u=>if acc.length<OV then bA k t tc me rs (xs.drop (i+1)) (acc++[u]) else M.fail|none=>bA k t tc me rs (xs.drop (i+1)) acc from rfl,ae,br]at w;obtain⟨E6,w⟩:=w;obtain⟨wk,_⟩:=hw c CK nc fixed E6;obtain⟨KG,KH,KI⟩:=wk i xs[i] (by simp[Cz]);refine⟨KH,λFg H'=>∃c acc,c.H=H'/\c.σ=c0.σ/\Ok C c/\Nx c1 c/\ai C c.S c.H acc Fg/\acc.length<=OV/\W (bA k t tc me rs (xs.drop (i+1)) acc) c.st λus st'=>W (pure (Kd.own,U.lst us)) st' (bI C c0 Q),λFg H' ⟨c',CN,z1,z2,z3,z4,z5,z6,z7⟩=>⟨xs.length - (i+1),⋯,c',CN,z1,z2,z3,z4,rfl,Cz,z5,z6,z7⟩,λx H' hy=>?_⟩;obtain⟨c2,rfl,e4,e5,CG,n2,rt⟩:=KI x H' hy;rw[ae,rf,ae]at w;obtain⟨LL,nx⟩:=CG.ext k;have NH:aC C (c2.ext k) (c2.ext k) xs[i].1 xs[i].2 x:=by
   rcases KG with z|z
   ·rw[z]at rt ⊢;exact rt
   ·rw[z]at rt ⊢;exact rt
  have eσ:(c2.ext k).σ=Pc k OQ++c0.σ:=by rw[Cf.ext];show Pc k OQ++c2.σ=_;rw[e4,e3]
  refine⟨c2.ext k,c2.ext k,xs[i],eσ,rfl,LL,LL,Nx.refl _,NH,?_⟩;have NI:(c2.ext k).st=Pc k OQ++c.st:=by rw[Cf.ext];show Pc k OQ++c2.st=_;rw[e5]
  rw[NI];refine w.mono λ_ CY w3 c3 e6 E3 n3 Im Jz=>?_;subst e6;rw[eσ]at Im Jz;obtain⟨own,EA,Ei⟩:=wI Im Jz;refine⟨own,EA,Ei,?_⟩;have LM:Nx c c3:=(n2.trans nx).trans n3;rw[ae]at w3;refine⟨c3,rfl,rfl,E3,w3.mono λb Hb w4 c4 e7 e8 GQ n4=>?_⟩;subst e8;cases b with
  |false =>
   rw[XM Po]at w4 ⊢;rw[aj]at w4;obtain⟨KJ,nk⟩:=GQ.cut k;have nn:Nx c (c4.cut k):=(LM.trans n4).trans nk;refine⟨c4.cut k,acc,rfl,?_,KJ,nc.trans nn,rep.mv (CK.mv nn),hlen,w4⟩;show c4.σ.drop k=_;rw[e7,Ei,Ue EA]
  |true =>
   rw[XI rfl]at w4 ⊢;rw[ae]at w4;refine⟨c4,e7,rfl,GQ,w4.mono λr FV w5 c5 v e9 NJ NK n5 NM=>?_⟩;subst NJ;rw[ae]at w5;obtain⟨S',st',u,sS,NO,n6,KN,w6,_,_⟩:=kO GQ NK n5 NM.w w5;rw[aj]at w6
   dsimp only at w6
   split at w6
   ·rename_i hz;obtain⟨KJ,nk⟩:=NO.cut k;have nn:Nx c (Cf.cut k {c5 with S:=S',st:=st' }):=((LM.trans n4).trans n6).trans nk;refine⟨Cf.cut k {c5 with S:=S',st:=st' },acc++[u],rfl,?_,KJ,nc.trans nn,(rep.mv (CK.mv nn)).snoc KN,by rw[Pp];exact hz,w6⟩;show c5.σ.drop k=_;rw[e9,Ei,Ue EA]
   ·exact(aq.mp w6).elim
 ·left
  have Dz:i=xs.length:=by omega
  subst Dz;rw[V2,show bA k t tc me rs [] acc=ar rs >>= λ_=>pure acc from rfl,ae,br,aj,aj]at w;obtain⟨_,wk⟩:=hw c CK nc fixed w.1;exact⟨wk _ (O2 _),λp hp=>bI.list w.2 e3 CK (n1.trans nc) rep p hp⟩
theorem jI(ok:Ok C c0)
  (h:W (ms >>= λrs=>ar rs >>= λ_=>M.Cu (DV ik rs) >>= λxs=>bA k t tc me rs xs [] >>= λus=>pure (Kd.own,U.lst us)) c0.st (bI C c0 Q)) :
  sv k (E5 C ik ms) (tG C t (Pl k)) (Dh C tc) (Cj C me) c0.σ c0.H Q:=by
 rw[ae]at h;refine⟨c0,rfl,rfl,ok,?_⟩;rw[ae];refine h.mono λrs st1 h1=>?_;rw[ae,br]at h1 ⊢;refine⟨h1.1,?_⟩;have h2:=h1.2;rw[ae]at h2 ⊢;refine h2.mono λxs st2 h3=>?_;rw[aj];intro c1 J e1 e2 Co n1 Cp hw;rw[ae]at h3;subst e2
 dsimp only at Cp hw
 exact rg e1 Co n1 hw h3
theorem tJ(S:cO X N own scope)(hc:X.calm=OP)(hi:PI X tg iter (E5 C ik ms))
  (hg:∀D s H ex,PG (C6 X N scope D s H ex) tg (tG C t (Pl own.length))) (hf:∀D s H ex,Fw (C6 X N scope D s H ex) ifs (Dh C tc)) (he:∀D s H ex,PE (C6 X N scope D s H ex) elt (Cj C me))
  (hs:∀x,QQ iter X.env x=pure x) :
  PE X (.ListComp elt [⟨tg,iter,ifs,0⟩] scope pos) (Cj C (ms >>= λrs=>ar rs >>= λ_=>M.Cu (DV ik rs) >>= λxs=>bA own.length t tc me rs xs [] >>= λus=>pure (.own,.lst us))):=by
 refine PE.weak (vM S hc hi hg hf he hs) ?_;rintro σ H Q ⟨c0,rfl,rfl,ok,h⟩;exact jI ok h
end
section
variable{a b d e o tg iter elt:PR}{es ifs:List PR}{m ma mb md me:M (Kd×U)}{ms:M (List (Kd×U))}{ta tb tc:M Bool}{pos p p2 apos Cc:Pos}{st:RY}{rest body:List RY}{f g mm:M Fl}{ns Dc:Nat->Bool}
def zr(C:Ct)(c:Cf):Kd->U->V->Prop
 |.own,u,v=>∃r,v=.ref r/\C.H₀ r=OQ/\¬c.S r/\¬c.R r/\bW C c.S c.H r u
 |.loc,u,v=>Rep C c.S c.H u v
 |.any,u,v=>Rep C (PS C c.S) c.H u v
 |_,_,_=>False
def Fin(C:Ct)(D:Ends)(f:Fl)(c:Cf):Prop:=match f with
 |.nx=>D.nx c.σ c.H
 |.bk=>D.bk c.σ c.H
 |.ct=>D.ct c.σ c.H
 |.rt k u=>∀v,zr C c k u v->D.rt v c.H
def Kept(ns:Nat->Bool)(c c':Cf):Prop:=(∀j,ns j=OP->c'.σ[j]?=c.σ[j]?)/\c'.σ.length=c.σ.length
theorem Kept.refl:Kept ns c c:=⟨λ_ _=>rfl,rfl⟩
theorem Kept.trans(h:Kept ns c c')(h':Kept ns c' EI):Kept ns c EI:=⟨λj z=>(h'.1 j z).trans (h.1 j z),h'.2.trans h.2⟩
theorem Kept.le(i:∀j,Dc j=OP->ns j=OP)(h:Kept ns c c'):Kept Dc c c':=⟨λj z=>h.1 j (i j z),h.2⟩
theorem Kept.of(h:c'.σ=c.σ):Kept ns c c':=⟨λj z=>by rw[h],by rw[h]⟩
def iO(C:Ct)(c0:Cf)(ns:Nat->Bool)(D:Ends)(f:Fl)(st':ax):Prop:=∀c,c.st=st'->Ok C c->Ns c0 c->Kept ns c0 c->Fin C D f c
def C2(C:Ct)(ns:Nat->Bool)(m:M Fl):TS:=λD σ H=>∃c0:Cf,c0.σ=σ/\c0.H=H/\Ok C c0/\W m c0.st (iO C c0 ns D)
theorem nW(ok:Ok C c1)(n:Ns c0 c1)(k:Kept ns c0 c1)(h:W mm c1.st (iO C c0 ns D)):C2 C ns mm D c1.σ c1.H :=
 ⟨c1,rfl,rfl,ok,h.mono λf st h2 c2 e CG n2 k2=>h2 c2 e CG (n.trans n2) (k.trans k2)⟩
theorem PS.weak(h:L2.PS X st t)(i:∀D σ H,t' D σ H->t D σ H):L2.PS X st t':=λpins s σ H D I q=>h pins s σ H D I (i D σ H q)
theorem C9.weak(h:C9 X rest t)(i:∀D σ H,t' D σ H->t D σ H):C9 X rest t':=λpins s σ H D I q=>h pins s σ H D I (i D σ H q)
theorem kS(i:∀j,Dc j=OP->ns j=OP)(h:C2 C Dc mm D σ H):C2 C ns mm D σ H :=
 let ⟨c0,e1,e2,ok,w⟩:=h;⟨c0,e1,e2,ok,w.mono λf st h2 c2 e CG n2 k2=>h2 c2 e CG n2 (k2.le i)⟩
theorem AR:C9 X [] (C2 C ns (pure .nx)):=by
 refine C9.weak vm ?_;rintro D σ H ⟨c0,rfl,rfl,ok,h⟩;rw[aj]at h;exact h c0 rfl ok (Ns.refl c0) Kept.refl
def wJ(m:M Fl)(f:Fl):M Fl:=match f with
 |.nx=>m
 |f=>pure f
theorem zt(h1:L2.PS X st (C2 C ns f))(h2:C9 X rest (C2 C ns g)):C9 X (st::rest) (C2 C ns (f >>= wJ g)):=by
 refine C9.weak (rP h1 h2) ?_;rintro D σ H ⟨c0,rfl,rfl,ok,h⟩;rw[ae]at h;refine⟨c0,rfl,rfl,ok,h.mono λfl st1 w c1 e Co n1 k1=>?_⟩;subst e;cases fl with
 |nx=>exact nW Co n1 k1 w
 |bk=>rw[show wJ g .bk=pure .bk from rfl,aj]at w;exact w c1 rfl Co n1 k1
 |ct=>rw[show wJ g .ct=pure .ct from rfl,aj]at w;exact w c1 rfl Co n1 k1
 |rt k u=>rw[show wJ g (.rt k u)=pure (.rt k u) from rfl,aj]at w;exact w c1 rfl Co n1 k1
theorem AS:L2.PS X (.Break pos) (C2 C ns (pure .bk)):=by
 refine PS.weak rQ ?_;rintro D σ H ⟨c0,rfl,rfl,ok,h⟩;rw[aj]at h;exact h c0 rfl ok (Ns.refl c0) Kept.refl
theorem AU:L2.PS X (.Continue pos) (C2 C ns (pure .ct)):=by
 refine PS.weak lB ?_;rintro D σ H ⟨c0,rfl,rfl,ok,h⟩;rw[aj]at h;exact h c0 rfl ok (Ns.refl c0) Kept.refl
theorem AV:L2.PS X (.Pass pos) (C2 C ns (pure .nx)):=by
 refine PS.weak vn ?_;rintro D σ H ⟨c0,rfl,rfl,ok,h⟩;rw[aj]at h;exact h c0 rfl ok (Ns.refl c0) Kept.refl
theorem AW(ha:PE X a (Cj C ma))(hs:Sw a OQ pos.line X.env=pure OR):L2.PS X (.Expr a pos) (C2 C ns (ma >>= λ_=>pure .nx)):=by
 refine PS.weak (gV ha hs) ?_;rintro D σ H ⟨c0,rfl,rfl,ok,h⟩;refine aO ok h λx c v t w=>?_;rw[aj]at w;have:=w c rfl t.ok t.nx (Kept.of t.hσ);rw[<-t.hσ];exact this
theorem zu:L2.PS X (.Return OQ pos) (C2 C ns (pure (.rt .loc .Ce))):=by
 refine PS.weak vo ?_;rintro D σ H ⟨c0,rfl,rfl,ok,h⟩;rw[aj]at h;exact h c0 rfl ok (Ns.refl c0) Kept.refl .Ce rfl
theorem AX(ha:PE X a (Cj C ma)):L2.PS X (.Return (Od a) pos) (C2 C ns (ma >>= retS)):=by
 refine PS.weak (yi ha) ?_;rintro D σ H ⟨c0,rfl,rfl,ok,h⟩;refine aO ok h λx c v t w=>?_;obtain⟨k,u⟩:=x;obtain⟨hσ,CK,n,r⟩:=t;cases k with
 |own =>
  rw[show retS (.own,u)=pure (.rt .own u) from rfl,aj]at w;obtain⟨r0,e,h1,h2,h3,h4⟩:=r;exact w c rfl CK n (Kept.of hσ) v ⟨r0,e,(ok.kM h1).1,h2,h3,h4⟩
 |loc =>
  rw[show retS (.loc,u)=pure (.rt .loc u) from rfl,aj]at w;exact w c rfl CK n (Kept.of hσ) v r
 |any =>
  rw[show retS (.any,u)=if CI u=OP then pure (.rt .loc u) else pure (.rt .any u) from rfl]at w;split at w
  ·rw[aj]at w;exact w c rfl CK n (Kept.of hσ) v (Rep.CI (by assumption) r)
  ·rw[aj]at w;exact w c rfl CK n (Kept.of hσ) v r
 |bor j =>
  obtain⟨fl,st',e,w⟩:=w;rw[show retS (.bor j,u) c.st=match c.st[j]? with|some (Od (.own,u))=>Od (Ex.ok (Fl.rt .own u),c.st.set j OQ)|_=>OQ from rfl]at e;split at e
  ·rename_i u' hj;cases e;have E2:j<c.st.length:=(O6.mp hj).1;have Df:∀(i:Nat) k u',(c.st.set j OQ)[i]?=Od (Od (k,u'))->i≠j/\c.st[i]?=Od (Od (k,u')):=λi k u' e=>by
    by_cases CT:i=j
    ·subst CT;rw[Ph E2]at e;cases e
    ·rw[Pk (Qs CT)]at e;exact⟨CT,e⟩
   obtain⟨v',e1,r0,er,q1,q2,q3,q4⟩:=CK.sl j _ _ hj;have hv:c.σ[j]?=Od (Od v):=r.2;rw[hv]at e1;cases e1;subst er;have FL:∀a,({c with st:=c.st.set j OQ}:Cf).R1 a->c.R1 a:=λa ⟨i,k,u2,hk,e1,e2⟩=>⟨i,k,u2,hk,(Df i k u2 e1).2,e2⟩
   have hR:∀a,({c with st:=c.st.set j OQ}:Cf).R a->c.R a:=λa z=>z.elim (λz=>.inl (FL a z)) λ⟨i,u2,r2,e1,e2,e3⟩=>.inr ⟨i,u2,r2,(Df i .Ci u2 e1).2,e2,e3⟩;have FK:EH C {c with st:=c.st.set j OQ}:=CK.dd.of rfl (λi u2 e=>⟨(Df i .Ci u2 e).2,rfl⟩) (λa z=>.inl (FL a z)) (.up λ_ z=>z) λi a z=>⟨(CK.root (.inr ⟨i,z⟩)).1,λo q=>q⟩
   have NP:Ok C {c with st:=c.st.set j OQ}:=⟨CK.same,CK.D0,CK.par,CK.io,by simp[CK.len],λi k u2 e=>CK.sl i k u2 (Df i k u2 e).2,λi i' k k' u1 u2 r hk CL e1 e2 e3 e4=>CK.inj i i' k k' u1 u2 r hk CL (Df i k u1 e1).2 (Df i' k' u2 e2).2 e3 e4,FK⟩
   have nn:Ns c0 {c with st:=c.st.set j OQ}:=⟨n.keep,n.there,λa z=>n.roots a (hR a z),n.sub,n.new⟩
   refine w {c with st:=c.st.set j OQ} rfl NP nn (Kept.of hσ) (.ref r0) ⟨r0,rfl,q3,q1,λz=>?_,q4⟩
   ·rcases z with⟨i,k,u2,hk,e1,e2⟩|⟨i,u2,r2,e1,e2,e3⟩
    ·obtain⟨ne,EG⟩:=Df i k u2 e1;exact ne (CK.inj i j k .own u2 _ r0 hk rfl EG hj e2 hv)
    ·exact CK.dd.d1 i r0 ⟨u2,r2,(Df i .Ci u2 e1).2,e2,e3⟩ ⟨j,.own,_,rfl,hj,hv⟩
  ·cases e
 |_=>exact r.elim
end
section
theorem mr(Dw:∀j,ns j=OP->j≠i)(Dl:Ok C c0)(t:Ih C c0 c r v)(hi:i<c.σ.length)(w:W (dq i r >>= λ_=>(pure .nx:M Fl)) c.st (iO C c0 ns D)):D.nx (c0.σ.set i (Od v)) c.H:=by
 rw[ae]at w;obtain⟨c',e1,e2,Cy,n',q⟩:=pJ (r:=r) Dl t.ok t.nx hi t.rx w;rw[aj]at q;have z:=q c' rfl Cy n' ⟨λj hj=>by rw[e1,t.hσ,Pk (Qs (Dw j hj))],by rw[e1,t.hσ];simp⟩;have z':D.nx c'.σ c'.H:=z;rw[e1,e2,t.hσ]at z';exact z'
theorem xN(Dw:∀j,ns j=OP->j≠i)(hN:X.N.Nodup)(hi:X.N[i]?=Od x)(hx:Loc X.env.scope x)(hf:X.fn x=OP\/X.env.scope.names.lookup x=Od .local)(ha:PE X a (Cj C ma))
  (hs:Sw a (Od (.Name x pos')) pos.line X.env=pure OR):L2.PS X (.Assign [.Name x pos'] a pos) (C2 C ns (ma >>= λr=>dq i r >>= λ_=>pure .nx)):=by
 rintro pins s σ H D I ⟨c0,rfl,rfl,ok,h⟩;have E7:i<c0.σ.length:=by rw[I.len];exact(O6.mp hi).1
 exact ym hN hi hx ha hs hf pins s c0.σ c0.H D I (aO ok h λr c v t w=>mr Dw ok t (by rw[t.hσ];exact E7) w)
theorem zw(Dw:∀j,ns j=OP->j≠i)(S:cO X N own scope)(hc:X.calm=OP)(hN:X.N.Nodup)(Je:X.N[i]?=Od y)(hy:X.env.scope.names.lookup y=Od .local)
  (hi:PI X tg iter (E5 C ik ms)) (hg:∀D s H ex,PG (C6 X N scope D s H ex) tg (tG C t (Pl own.length))) (hf:∀D s H ex,Fw (C6 X N scope D s H ex) ifs (Dh C tc)) (he:∀D s H ex,PE (C6 X N scope D s H ex) elt (Cj C me))
  (F0:Sw (.ListComp elt [⟨tg,iter,ifs,0⟩] scope pos) (Od (.Name y py)) Eu.line X.env=pure OP) (hs:∀x,QQ iter X.env x=pure x) :
  L2.PS X (.Assign [.Name y py] (.ListComp elt [⟨tg,iter,ifs,0⟩] scope pos) Eu)
   (C2 C ns ((ms >>= λrs=>ar rs >>= λ_=>M.Cu (DV ik rs) >>= λxs=>bA own.length t tc me rs xs [] >>= λus=>pure (.own,.lst us)) >>= λr=>dq i r >>= λ_=>pure .nx)):=by
 rintro pins s σ H D I ⟨c0,rfl,rfl,ok,h⟩;have E7:i<c0.σ.length:=by rw[I.len];exact(O6.mp Je).1
 refine vN S hc hN Je hy hi hg hf he F0 hs pins s c0.σ c0.H D I ?_;rw[ae]at h;refine jI ok (h.mono λr st1 w c v e1 e2 CK n rt=>?_);subst e2;exact mr Dw ok ⟨e1,CK,n,rt⟩ (by rw[e1];exact E7) w
theorem zx(Dw:∀j,ns j=OP->j∉is)(ha:PE X a (Cj C ma))(hg:PG X tg (tG C OP is))(hs:SS [tg] a pos.line X.env=pure OR)(hw:Vs [tg] a X.env=pure OQ)(h1:(RK [tg] X.env).map (·.2)=[SU tg X.env]):
  L2.PS X (.Assign [tg] a pos) (C2 C ns (ma >>= λr=>cU OP is r >>= λ_=>pure .nx)):=by
 refine PS.weak (rS ha hg hs hw h1) ?_;rintro D σ H ⟨c0,rfl,rfl,ok,h⟩;refine aO ok h λr c v t w=>?_;rw[ae]at w;refine⟨c0,c,r,t.hσ,rfl,ok,t.ok,t.nx,t.rx,w.mono λ_ st1 w1 c' e Cy n' hf hl=>?_⟩;subst e;rw[aj]at w1;exact w1 c' rfl Cy n' ⟨λj hj=>by rw[hf j (Dw j hj),t.hσ],by rw[hl,t.hσ]⟩
theorem AY(hc:PT X a (Dh C ta))(h1:C9 X ca (C2 C ns f))(h2:C9 X cb (C2 C ns g)):L2.PS X (.If a ca cb pos) (C2 C ns (ta >>= λp=>if p=OP then f else g)):=by
 refine PS.weak (Ah hc h1 h2) ?_;rintro D σ H ⟨c0,rfl,rfl,ok,h⟩;refine cW ok h λp c hσ CK n w=>?_;have e:c0.σ=c.σ:=hσ.symm;rw[e];cases p with
 |true=>rw[XI rfl]at w ⊢;exact nW CK n (Kept.of hσ) w
 |false=>rw[XM Po]at w ⊢;exact nW CK n (Kept.of hσ) w
theorem AZ(hp:UN (O9 X.prog X.w) X.A X.env X.xe)(hc:PT X a (Dh C ta))(hb:C9 X body (C2 C ns f)):L2.PS X (.While a body [] pos) (C2 C ns (eh ta f n)):=by
 refine PS.weak (rT hp hc hb) ?_;rintro D σ H ⟨c0,rfl,rfl,ok,h⟩;refine⟨λm σ' H'=>∃c,c.H=H'/\c.σ=σ'/\Ok C c/\Ns c0 c/\Kept ns c0 c/\W (eh ta f m) c.st (iO C c0 ns D),⟨n,c0,rfl,rfl,ok,Ns.refl c0,Kept.refl,h⟩,?_⟩;rintro m σ' H' ⟨c,rfl,rfl,CK,nc,kc,w⟩;cases m with
 |zero=>exact(aq.mp w).elim
 |succ m =>
  rw[show eh ta f (m+1)=ta >>= λb=>if b=OP then(f >>= λf'=>match f' with|.nx=>eh ta f m|.ct=>eh ta f m|.bk=>pure .nx|.rt k u=>pure (.rt k u)) else pure .nx from rfl]at w;refine cW CK w λp c2 hσ CG n2 w2=>?_;have k2:Kept ns c c2:=Kept.of hσ;rw[<-hσ];cases p with
  |false =>
   rw[XM Po]at w2 ⊢;rw[aj]at w2;exact w2 c2 rfl CG (nc.trans n2) (kc.trans k2)
  |true =>
   rw[XI rfl]at w2 ⊢;refine⟨λLN LO=>∃c,c.H=LO/\c.σ=LN/\Ok C c/\Ns c0 c/\Kept ns c0 c/\W (eh ta f m) c.st (iO C c0 ns D),λLN LO z=>⟨m,QW m,z⟩,?_⟩;rw[ae]at w2;refine⟨c2,rfl,rfl,CG,w2.mono λfl CY w3 c3 e E3 n3 k3=>?_⟩;subst e;have KO:=(nc.trans n2).trans n3;have KP:=(kc.trans k2).trans k3;cases fl with
   |nx=>exact⟨c3,rfl,rfl,E3,KO,KP,w3⟩
   |ct=>exact⟨c3,rfl,rfl,E3,KO,KP,w3⟩
   |_=>rw[aj]at w3;exact w3 c3 rfl E3 KO KP
theorem A0(hp:UN (O9 X.prog X.w) X.A X.env X.xe)(hc:X.calm=OP)(hi:PI X tg iter (E5 C ik ms))(hg:PG X tg (tG C t is))(hb:C9 X body (C2 C (Ec sb) f))(hs:∀x,QQ iter X.env x=pure x)
  (Dw:∀j,ns j=OP->j∉is/\Ec sb j=OP) :
  L2.PS X (.For tg iter body [] pos) (C2 C ns (ms >>= λrs=>ar rs >>= λ_=>M.Cu (DV ik rs) >>= λxs=>if pv rs is sb=OP then forM t is f rs xs else M.fail)):=by
 refine PS.weak (yp hp hc hi hg hb hs) ?_;rintro D σ H ⟨c0,rfl,rfl,ok,h⟩;rw[ae]at h;refine⟨c0,rfl,rfl,ok,?_⟩;rw[ae];refine h.mono λrs st1 h1=>?_;rw[ae,br]at h1 ⊢;refine⟨h1.1,?_⟩;have h2:=h1.2;rw[ae]at h2 ⊢;refine h2.mono λxs st2 h3=>?_;rw[aj];intro c1 J e1 e2 Co n1 Cp hw;subst e2
 dsimp only at Cp hw
 split at h3
 ·rename_i KQ;have KR:∀j u,(Kd.bor j,u)∈rs->j∉is/\Ec sb j=OP:=λj u hm=>by
   have:=Pe.mp KQ _ hm;simpa using this
  refine⟨λi m σ' H'=>∃c,c.H=H'/\c.σ=σ'/\Ok C c/\Ns c1 c/\Kept ns c0 c/\iN rs c1 c/\m=xs.length - i/\i<=xs.length/\W (forM t is f rs (xs.drop i)) c.st (iO C c0 ns D),
   ⟨xs.length,c1,rfl,e1,Co,Ns.refl c1,Kept.of e1,λ_ _ _=>rfl,by simp,Pt _,by simpa using h3⟩,?_⟩
  rintro i m σ' H' ⟨c,rfl,rfl,CK,nc,kc,fx,rfl,Dz,w⟩;by_cases Cz:i<xs.length
  ·right
   rw[UP Cz,show forM t is f rs (xs[i]::xs.drop (i+1))=ar rs >>= λ_=>cU t is xs[i] >>= λ_=>f >>= λf'=>match f' with|.nx=>forM t is f rs (xs.drop (i+1))|.ct=>forM t is f rs (xs.drop (i+1))|.bk=>pure .nx|.rt k u=>pure (.rt k u) from rfl,ae,br]at w;obtain⟨E6,w⟩:=w;obtain⟨wk,_⟩:=hw c CK nc fx E6;obtain⟨KG,KH,KI⟩:=wk i xs[i] (by simp[Cz]);refine⟨KH,λσ' H'=>∃c,c.H=H'/\c.σ=σ'/\Ok C c/\Ns c1 c/\Kept ns c0 c/\iN rs c1 c/\W (forM t is f rs (xs.drop (i+1))) c.st (iO C c0 ns D),λσ' H' ⟨c',z1,z2,z3,z4,z5,z6,z7⟩=>⟨xs.length - (i+1),⋯,c',z1,z2,z3,z4,z5,z6,rfl,Cz,z7⟩,λx H' hy=>?_⟩;obtain⟨c2,rfl,e4,e5,CG,n2,rt⟩:=KI x H' hy;rw[ae]at w;have NQ:aC C c2 c2 xs[i].1 xs[i].2 x:=by
    rcases KG with z|z
    ·rw[z]at rt ⊢;exact rt
    ·rw[z]at rt ⊢;exact rt
   refine⟨c2,c2,xs[i],e4,rfl,CG,CG,Nx.refl c2,NQ,?_⟩;rw[e5];refine w.mono λ_ CY w3 c3 e6 E3 n3 LP Jz=>?_;subst e6;rw[ae]at w3;refine⟨c3,rfl,rfl,E3,w3.mono λfl Hb w4 c4 e GQ n4 k4=>?_⟩;subst e;have KS:Ns c1 c4:=((nc.trans n2.toNs).trans n3.toNs).trans n4;have KU:Kept ns c0 c4:=by
    refine kc.trans ⟨λj hj=>?_,by rw[k4.2,Jz,e4]⟩;obtain⟨j1,j2⟩:=Dw j hj;rw[k4.1 j j2,LP j j1,e4]
   have LQ:iN rs c1 c4:=λj u hm=>by
    obtain⟨j1,j2⟩:=KR j u hm;rw[k4.1 j j2,LP j j1,e4];exact fx j u hm
   cases fl with
   |nx=>exact⟨c4,rfl,rfl,GQ,KS,KU,LQ,w4⟩
   |ct=>exact⟨c4,rfl,rfl,GQ,KS,KU,LQ,w4⟩
   |_=>rw[aj]at w4;exact w4 c4 rfl GQ (n1.toNs.trans KS) KU
  ·left
   have NR:i=xs.length:=by omega
   subst NR;rw[V2,show forM t is f rs []=ar rs >>= λ_=>pure .nx from rfl,ae,br,aj]at w;obtain⟨_,wk⟩:=hw c CK nc fx w.1;exact⟨wk _ (O2 _),w.2 c rfl CK (n1.toNs.trans nc) kc⟩
 ·exact(aq.mp h3).elim
end
section
theorem Ok.mod(ok:Ok C c)(n:Ns c0 c)(hk:k.root=OP)(hi:c.st[i]?=Od (Od (k,u)))(hv:c.σ[i]?=Od (Od (.ref r)))(Ds:∀a,a≠r->H' a=c.H a)(hr:∃o,H' r=Od o)
  (new:Mv c.S c.H c.S H'->bW C c.S H' r u'):Ok C {c with H:=H',st:=c.st.set i (Od (k,u'))}/\Ns c0 {c with H:=H',st:=c.st.set i (Od (k,u'))}:=by
 have FL:c.R1 r:=⟨i,k,u,hk,hi,hv⟩
 have hR:c.R r:=.inl FL;obtain⟨q1,q2,q3,o,ho,GR⟩:=ok.root hR;have E7:i<c.st.length:=(O6.mp hi).1;have kp:∀{a:O8} {o':HO},a≠r->c.H a=Od o'->H' a=Od o':=λne e=>by rw[Ds _ ne];exact e
 have mv:Mv c.S c.H c.S H':=⟨λ_ z=>z,λa o' e t=>kp (λz=>by subst z;rw[ho]at e;cases e;exact GR t) e,λa o' z e=>kp (λz'=>q1 (z'▸z)) e⟩
 have GG:Mv (PS C c.S) c.H (PS C c.S) H':=⟨λ_ z=>z,mv.Jm,λa o' z e=>kp (λz'=>by subst z';exact z.elim q2 q1) e⟩
 have Df:∀(j:Nat) k' w,(c.st.set i (Od (k,u')))[j]?=Od (Od (k',w))->j≠i->c.st[j]?=Od (Od (k',w)):=λj k' w e ne=>by rw[Pk (Qs ne)]at e;exact e
 have back:∀(j:Nat) k' w,k'.root=OP->(c.st.set i (Od (k,u')))[j]?=Od (Od (k',w))->∃w',c.st[j]?=Od (Od (k',w')):=λj k' w _ e=>by
  by_cases hj:j=i
  ·subst hj;rw[Ph E7]at e;cases e;exact⟨u,hi⟩
  ·exact⟨w,Df j k' w e hj⟩
 have b1:∀a,({c with H:=H',st:=c.st.set i (Od (k,u'))}:Cf).R1 a->c.R1 a:=λa DQ=>by
  obtain⟨j,k',w,h1,e1,e2⟩:=DQ;obtain⟨w',a1⟩:=back j k' w h1 e1;exact⟨j,k',w',h1,a1,e2⟩
 have dD:∀(j:Nat) (w:U),(c.st.set i (Od (k,u')))[j]?=Od (Od (.Ci,w))->c.st[j]?=Od (Od (.Ci,w)):=λj w e=>by
  by_cases hj:j=i
  ·subst hj;rw[Ph E7]at e;cases e;cases hk
  ·exact Df j .Ci w e hj
 have FK:EH C {c with H:=H',st:=c.st.set i (Od (k,u'))}:=ok.dd.of rfl (λj w e=>⟨dD j w e,rfl⟩) (λa z=>.inl (b1 a z)) mv λj a z=>⟨(ok.root (.inr ⟨j,z⟩)).1,λo' e=>kp (λz'=>ok.dd.d1 j a z (z'▸FL)) e⟩
 refine⟨⟨λa o' e z=>?_,λa z=>?_,ok.par,λa z=>?_,by simp[ok.len],λj k' w e=>?_,λj1 j2 k1 k2 w1 w2 r' h1 h2 e1 e2 e3 e4=>?_,FK⟩,n.trans ⟨λa o' e z=>kp (λz'=>z (z'▸hR)) e,λa o' e=>?_,λa z=>?_,λ_ z=>z,λ_ z=>.inl z⟩⟩
 ·have h1:=ok.same a o' e z;refine kp (λz'=>?_) h1;subst z';rcases q3 with q3|q3
  ·rw[e]at q3;cases q3
  ·exact z q3
 ·obtain⟨h1,o',h2⟩:=ok.D0 a z;exact⟨h1,o',kp (λz'=>q1 (z'▸z)) h2⟩
 ·obtain⟨h1,o',h2⟩:=ok.io a z;refine⟨h1,?_⟩;by_cases ha:a=r
  ·subst ha;exact hr
  ·exact⟨o',kp ha h2⟩
 ·by_cases hj:j=i
  ·subst hj;rw[Ph E7]at e;cases e;obtain⟨v,e1,e2⟩:=ok.sl j _ _ hi;rw[hv]at e1;cases e1;refine⟨.ref r,hv,?_⟩;have nr:=new mv;cases k with
   |own=>obtain⟨r',er,z1,z2,z3,_⟩:=e2;cases er;exact⟨r,rfl,z1,z2,z3,nr⟩
   |io=>obtain⟨r',er,z1,z2,z3,_⟩:=e2;cases er;exact⟨r,rfl,z1,z2,z3,nr⟩
   |_=>cases hk
  ·have e0:=Df j k' w e hj;obtain⟨v,e1,e2⟩:=ok.sl j k' w e0;refine⟨v,e1,e2.mv mv GG λCL r' er=>?_⟩;obtain⟨Kw,DS,z1,_⟩:=e2.rt CL;rw[er]at DS;cases DS;refine⟨z1,λo' e=>kp (λz=>?_) e⟩;subst z;exact hj (ok.inj j i k' k w u r' CL hk e0 hi (by rw[e1,er]) hv)
 ·obtain⟨JA,a1⟩:=back j1 k1 w1 h1 e1;obtain⟨LR,a2⟩:=back j2 k2 w2 h2 e2;exact ok.inj j1 j2 k1 k2 JA LR r' h1 h2 a1 a2 e3 e4
 ·by_cases ha:a=r
  ·subst ha;exact hr
  ·exact⟨o',kp ha e⟩
 ·rcases z with z|⟨j,w,r',e1,e2,e3⟩
  ·exact .inl (.inl (b1 a z))
  ·exact .inl (.inr ⟨j,w,r',dD j w e1,e2,e3⟩)
theorem d5{f:U->Option U}{st:ax}(h:W (modS i f) st Q):∃k u u',k.root=OP/\st[i]?=Od (Od (k,u))/\f u=Od u'/\Q () (st.set i (Od (k,u'))):=by
 obtain⟨_,st',e,q⟩:=h;unfold modS at e;split at e
 ·rename_i k u hs;split at e
  ·rename_i hk;cases e2:f u with
   |none=>rw[e2]at e;cases e
   |some u'=>rw[e2]at e;cases e;exact⟨k,u,u',hk,hs,e2,q⟩
  ·cases e
 ·cases e
theorem d6{st:ax}(h:W (dG i) st Q):∃k u,k≠.Ci/\st[i]?=Od (Od (k,u))/\Q (if k.root=OP then .bor i else k,u) st:=by
 obtain⟨r,st',e,q⟩:=h;unfold dG at e;split at e
 ·cases e
 ·rename_i k u Kx hs;cases e;exact⟨k,u,λz=>Kx z,hs,q⟩
 ·cases e
theorem A4(hK:C.K=X.K)(hN:X.N[i]?=Od x)(hv:Fd X.env.scope x)(hd:(x==("__debug__":Str))=OR)(Dv:(x==("__classdict__":Str))=OR)(ha:PE X a (Cj C ma))
  (DH:((QP Cc (Pj [a] X.env)).all (λx=>!x.1)&&(Us Cc (SR [] X.env)).all (λx=>x.1.isSome)
   && OX ([a].length+([]:List Se).length+(if ([]:List Se).isEmpty then 0 else 1)<30))=OP)
  (Cs:(apos.endLine==Cc.line)=OP) (Cp:Pj [a] X.env=[(OR,QK a X.env)]) :
  L2.PS X (.Expr (.Call (.Attribute (.Name x px) "append" apos) [a] [] Cc) pos) (C2 C ns (dG i >>= λx=>FJ x.2 >>= λ_=>ma >>= λr=>lift r >>= λu=>modS i (sY u) >>= λ_=>pure .nx)):=by
 refine PS.weak (gV (sd PySem.F.plainAttrs_list PySem.F.slot_list_append PySem.F.type_list_append qC (eO hN hv hd Dv) (dW ha ie Cp) rfl DH Cs Cp rfl)) ?_;rintro D σ H ⟨c0,rfl,rfl,ok,h⟩;rw[ae]at h;obtain⟨k0,u0,ED,EY,h⟩:=d6 h;obtain⟨v0,e0,EJ⟩:=ok.sl i k0 u0 EY;refine⟨v0,e0,?_⟩;cases u0 with
 |lst GS =>
  rw[ae,show FJ (U.lst GS)=pure () from rfl,aj]at h;have Io:aC C c0 c0 (if k0.root=OP then .bor i else k0) (.lst GS) v0:=by
   by_cases hk:k0.root=OP
   ·rw[XI hk];exact⟨⟨k0,hk,EY⟩,e0⟩
   ·rw[XM hk];cases k0 with
    |loc=>exact EJ
    |any=>exact EJ
    |bor j=>exact EJ.elim
    |Ci=>exact(ED rfl).elim
    |_=>exact absurd rfl hk
  obtain⟨a0,Hk,ea,G_,_⟩:=Io.list ok;refine⟨by rw[ea];exact .inl ⟨rfl,Hk,hK▸G_⟩,?_⟩;refine aO ok h λr c v t w=>?_;rw[ae]at w;obtain⟨S',st',u,sS,Co,n1,rep1,w1,_,_⟩:=kO ok t.ok t.nx t.rx.w w;rw[ae]at w1;obtain⟨k,u1,u2,hk,hs,hf,q⟩:=d5 w1;have hσ:c.σ[i]?=Od (Od (.ref a0)):=by rw[t.hσ,e0,ea]
  cases u1 with
  |lst ys =>
   simp only[sY]at hf;split at hf
   ·rename_i hz;cases hf;obtain⟨v',e1,e2⟩:=Co.sl i k (.lst ys) hs;have EG:c.σ[i]?=Od (Od v'):=e1;rw[hσ]at EG;cases EG;obtain⟨r',er,_,_,_,ws,hw,DA⟩:=e2.rt hk;cases er;have NS:c.H a0=Od (.lst ws):=hw;refine⟨a0,ws,v,ea,rfl,NS,by rw[<-DA.len];exact hz,?_⟩;rw[aj]at q;obtain⟨CG,n2⟩:=Ok.mod (c:={c with S:=S',st:=st' }) (H':=upd c.H a0 (.lst (ws++[v]))) (u':=.lst (ys++[u])) Co n1.toNs hk hs hσ (λa ne=>ao ne) ⟨_,au⟩ λmv=>⟨ws++[v],au,(DA.mv mv).snoc (rep1.mv mv)⟩
    have z:=q _ rfl CG n2 (Kept.of t.hσ);rw[<-t.hσ];exact z
   ·cases hf
  |_=>cases hf
 |_=>rw[ae]at h;exact(aq.mp h).elim
theorem A5(hK:C.K=X.K)(hN:X.N[i]?=Od x)(hv:Fd X.env.scope x)(hd:(x==("__debug__":Str))=OR)(Dv:(x==("__classdict__":Str))=OR)(ha:PE X a (Cj C ma))
  (DH:((QP Cc (Pj [a] X.env)).all (λx=>!x.1)&&(Us Cc (SR [] X.env)).all (λx=>x.1.isSome)
   && OX ([a].length+([]:List Se).length+(if ([]:List Se).isEmpty then 0 else 1)<30))=OP)
  (Cs:(apos.endLine==Cc.line)=OP) (Cp:Pj [a] X.env=[(OR,QK a X.env)]) :
  L2.PS X (.Expr (.Call (.Attribute (.Name x px) "extend" apos) [a] [] Cc) pos) (C2 C ns (dG i >>= λx=>FJ x.2 >>= λ_=>ma >>= λr=>modS i (nP r) >>= λ_=>pure .nx)):=by
 refine PS.weak (gV (sd PySem.F.plainAttrs_list PySem.F.slot_list_extend PySem.F.type_list_extend nI (eO hN hv hd Dv) (dW ha ie Cp) rfl DH Cs Cp rfl)) ?_;rintro D σ H ⟨c0,rfl,rfl,ok,h⟩;rw[ae]at h;obtain⟨k0,u0,ED,EY,h⟩:=d6 h;obtain⟨v0,e0,EJ⟩:=ok.sl i k0 u0 EY;refine⟨v0,e0,?_⟩;cases u0 with
 |lst GS =>
  rw[ae,show FJ (U.lst GS)=pure () from rfl,aj]at h;have Io:aC C c0 c0 (if k0.root=OP then .bor i else k0) (.lst GS) v0:=by
   by_cases hk:k0.root=OP
   ·rw[XI hk];exact⟨⟨k0,hk,EY⟩,e0⟩
   ·rw[XM hk];cases k0 with
    |loc=>exact EJ
    |any=>exact EJ
    |bor j=>exact EJ.elim
    |Ci=>exact(ED rfl).elim
    |_=>exact absurd rfl hk
  obtain⟨a0,Hk,ea,G_,_⟩:=Io.list ok;refine⟨by rw[ea];exact .inl ⟨rfl,Hk,hK▸G_⟩,?_⟩;refine aO ok h λr c v t w=>?_;rw[ae]at w;obtain⟨k,u1,u2,hk,hs,hf,q⟩:=d5 w;have hσ:c.σ[i]?=Od (Od (.ref a0)):=by rw[t.hσ,e0,ea]
  obtain⟨rk,ru⟩:=r;have key:∃ys zs b vs,u1=.lst ys/\v=.ref b/\(CF C.K c.H b vs\/CB C.K c.H b vs)/\ai C c.S c.H zs vs/\ys.length+zs.length<=OV/\u2=.lst (ys++zs):=by
   cases ru with
   |lst zs =>
    cases u1 with
    |lst ys =>
     simp only[nP]at hf;split at hf
     ·rename_i hz;cases hf;obtain⟨b,vs,ev,h1,h2⟩:=t.rx.list t.ok;exact⟨_,_,b,vs,rfl,ev,.inl h1,bT hz.2 h2,hz.1,rfl⟩
     ·cases hf
    |_=>simp[nP]at hf
   |tup zs =>
    cases u1 with
    |lst ys =>
     simp only[nP]at hf;split at hf
     ·rename_i hz;cases hf;obtain⟨b,vs,ev,h1,h2⟩:=t.rx.tuple t.ok;exact⟨_,_,b,vs,rfl,ev,.inr h1,bT hz.2 h2,hz.1,rfl⟩
     ·cases hf
    |_=>simp[nP]at hf
   |_=>simp[nP]at hf
  obtain⟨ys,zs,b,vs,rfl,rfl,hB,hz,hl,rfl⟩:=key;obtain⟨v',e1,e2⟩:=t.ok.sl i k (.lst ys) hs;rw[hσ]at e1;cases e1;obtain⟨r',er,_,_,_,ws,hw,DA⟩:=e2.rt hk;cases er;refine⟨a0,b,ws,vs,ea,rfl,hw,hK▸hB,by rw[<-DA.len,<-hz.len];exact hl,?_⟩;rw[aj]at q;obtain⟨CG,n2⟩:=Ok.mod (c:=c) (H':=upd c.H a0 (.lst (ws++vs))) (u':=.lst (ys++zs)) t.ok t.nx.toNs hk hs hσ (λa ne=>ao ne) ⟨_,au⟩ λmv=>⟨ws++vs,au,(DA.mv mv).append (hz.mv mv)⟩
  have z:=q _ rfl CG n2 (Kept.of t.hσ);rw[<-t.hσ];exact z
 |_=>rw[ae]at h;exact(aq.mp h).elim
theorem jf.or(h:jf X t)(h':jf X t'):jf X (λo i v H Q=>t o i v H Q\/t' o i v H Q):=λpins s σ H o i v ov iv u Q I r1 r2 r3 q =>
 q.elim (h pins s σ H o i v ov iv u Q I r1 r2 r3) (h' pins s σ H o i v ov iv u Q I r1 r2 r3)
theorem set_dict(hu:X.A.units+1<Qr):jf X (λo i v H Q=>∃a H',o=.ref a/\sk H a i v H'/\Q H'):=by
 rintro pins s σ H o i v ov iv u Q I ro ri rv ⟨a,H',rfl,g,q⟩;cases ro;exact qH hu I g ri rv λs' I'=>⟨H',I',q⟩
theorem tK{S:O8->Prop}{kvs:List (Key×V)}(h1:kvs.map (·.1)=ks.map PN)(h2:ai C S H us (kvs.map (·.2)))(hv:Rep C S H u v):
  (putK kvs (PN y) v).map (·.1)=(dput ks us y u).1.map PN/\ai C S H (dput ks us y u).2 ((putK kvs (PN y) v).map (·.2)):=by
 have Ip:(kvs.any λkv=>OX (kv.1=(PN y:Key)))=OX (y∈ks):=by
  rw[il];exact(d0 (x:=y) h1 h2).2
 unfold putK dput;rw[Ip];by_cases hm:y∈ks
 ·rw[XI (by simpa using hm),XI hm];constructor
  ·rw[PK];rw[<-h1];apply QR;intro p _;show(if p.1=PN y then(p.1,v) else p).1=p.1;split<;>rfl
  ·clear Ip hm;induction kvs generalizing ks us with
   |nil =>
    have:ks=[]:=by simpa using h1.symm
    subst this;simp[ai]
   |cons p kvs ih =>
    cases ks with
    |nil=>simp at h1
    |cons k ks =>
     cases us with
     |nil=>simp[ai]at h2
     |cons u0 us =>
      rw[O5,O5,Sz]at h1;obtain⟨v0,r0,e0,q1,q2⟩:=h2;rw[O5]at e0;cases e0;rw[O5,RB,O5,O5];refine⟨_,_,rfl,?_,ih h1.2 q2⟩;by_cases hk:k=y
      ·rw[XI (by exact hk),XI (by rw[h1.1,hk])];exact hv
      ·rw[XM (by exact hk),XM (by rw[h1.1];intro z;exact hk (US z))];exact q1
 ·rw[XM (by simpa using hm),XM hm];exact⟨by rw[Qf,h1,Qf];rfl,by rw[Qf];exact h2.snoc hv⟩
theorem A6(hP:C.P=X.prog)(hw:C.w=X.w)(hK:C.K=X.K)(hu:X.A.units+60<Qr)(hN:X.N[i]?=Od x)(hv:Fd X.env.scope x)(hd:(x==("__debug__":Str))=OR)(Dv:(x==("__classdict__":Str))=OR)
  (ha:PE X a (Cj C ma)) (hb:PE X b (Cj C mb)) (hs:SS [.Subscript (.Name x px) b p] a pos.line X.env=pure OR) (NT:Vs [.Subscript (.Name x px) b p] a X.env=pure OQ)
  (has:∀v,SU (.Subscript (.Name x px) b p) X.env v=(do
   let ov <-RX [v] (QK (.Name x px) X.env)
   let iv <-RX [v,ov] (QK b X.env)
   U1 p
   RX [v,ov,iv] (VL ov iv v)
   release [v,ov,iv] [])) :
  L2.PS X (.Assign [.Subscript (.Name x px) b p] a pos) (C2 C ns (ma >>= λr=>dG i >>= λ_=>mb >>= λx=>cp [r,x] >>= λus=>modS i (pq us) >>= λ_=>pure .nx)):=by
 refine PS.weak (rS ha (yk (eO hN hv hd Dv) hb (jf.or (jf.or set_list (set_dict (X:=X) ⋯)) (vR (X:=X) ⋯)) has) hs NT rfl) ?_;rintro D σ H ⟨c0,rfl,rfl,ok,h⟩;refine aO ok h λr c v t w=>?_;rw[ae]at w;obtain⟨k0,u0,ED,EY,w⟩:=d6 w;obtain⟨v0,e0,EJ⟩:=t.ok.sl i k0 u0 EY;refine⟨v0,by rw[<-t.hσ];exact e0,?_⟩;rw[ae]at w;refine⟨c,t.hσ,rfl,t.ok,w.mono λy st2 w2 c2 vy e3 e4 CG n2 r2=>?_⟩;subst e4;rw[ae]at w2;have NU:=t.nx.trans n2;have rws:bM C c0 c2 [r,y] [v,vy]:=⟨v,[vy],rfl,t.rx.w.on t.ok n2 (e3.trans t.hσ.symm),⟨vy,[],rfl,(r2.w).from t.nx,rfl,λ_ i r' v' e _=>by simp at e⟩,λhk i r' v' e5 e6 CL=>by
  cases i with
  |zero=>simp at e5 e6;subst e5 e6;exact gn t.rx.w r2.w hk CL
  |succ i=>simp at e5⟩
 obtain⟨S',st',us,sS,Co,n1,rep1,w1⟩:=fJ ok CG NU rws w2;rw[ae]at w1;obtain⟨k,u1,u2,hk,F2,hf,q⟩:=d5 w1;rw[aj]at q;have hσ:c2.σ[i]?=Od (Od v0):=by rw[e3,<-t.hσ];exact e0
 obtain⟨v',e1,e2⟩:=Co.sl i k u1 F2;have EG:c2.σ[i]?=Od (Od v'):=e1;rw[hσ]at EG;cases EG;obtain⟨a0,er,z1,z2,z3,root⟩:=e2.rt hk;subst er;have NV:({c2 with S:=S',st:=st' }:Cf).σ[i]?=Od (Od (.ref a0)):=hσ;obtain⟨JA,ws,ew,LS,LR,OA,OB,KW,NW⟩:∃u ws,us=[u,ws]/\Rep C S' c2.H u v/\∃(_:Unit) (_:Unit),True/\Rep C S' c2.H ws vy/\True:=by
  cases us with
  |nil=>simp[ai]at rep1
  |cons u us =>
   obtain⟨_,_,e,q1,q2⟩:=rep1;cases e;cases us with
   |nil=>simp[ai]at q2
   |cons u' us =>
    obtain⟨_,_,e,q3,q4⟩:=q2;cases e;cases us with
    |nil=>exact⟨u,u',rfl,q1,(),(),trivial,q3,trivial⟩
    |cons _ _=>obtain⟨_,_,e,_⟩:=q4;cases e
 subst ew;rw[show pq [JA,ws] u1=dI ws JA u1 from rfl]at hf;have fin:∀{H':Hp} ,(∀a,a≠a0->H' a=c2.H a)->(∃o,H' a0=Od o)->(Mv S' c2.H S' H'->bW C S' H' a0 u2)->D.nx c0.σ H':=λ{H'} Ds hr new=>by
  obtain⟨E3,n3⟩:=Ok.mod (c:={c2 with S:=S',st:=st' }) (H':=H') (u':=u2) Co n1.toNs hk F2 NV Ds hr new;have z:=q _ rfl E3 n3 (Kept.of e3);rw[<-e3];exact z
 cases u1 with
 |lst xs =>
  cases ws with
  |int j =>
   simp only[dI,O1]at hf;obtain⟨j',hj,rfl⟩:=hf;obtain⟨vs,h1,h2⟩:=root;have ey:vy=.int j:=KW;refine .inl (.inl ⟨a0,vs,j,j',rfl,ey,h1,by rw[<-h2.len];exact hj,?_⟩);exact fin (λa ne=>ao ne) ⟨_,au⟩ λmv=>⟨vs.set j' v,au,(h2.mv mv).set j' (LS.mv mv)⟩
  |_=>simp[dI]at hf
 |CU ks vs =>
  cases ws with
  |str y' =>
   simp only[dI]at hf;split at hf
   ·rename_i hz;cases hf;obtain⟨kvs,h1,h2,h3⟩:=root;have ey:vy=.str y':=KW;subst ey;have hl:kvs.length=ks.length:=by have:=congrArg S6 h2;simpa using this
    refine .inl (.inr ⟨a0,_,rfl,sk.k (k:=PN y') h1 (by rw[hl];exact hz),?_⟩);refine fin (λa ne=>ao ne) ⟨_,au⟩ λmv=>?_;obtain⟨g1,g2⟩:=tK (y:=y') h2 h3 LS;exact⟨_,au,g1,g2.mv mv⟩
   ·cases hf
  |_=>simp[dI]at hf
 |Dt ks =>
  simp only[dI]at hf;split at hf
  ·rename_i r0 Jl;split at hf
   ·rename_i hh;cases hf;have er:=iM Jl;subst er;have Iq:=KW.row;have F':dg C.P C.w C.K c2.H a0 ks:=root;rw[hK]at Iq;rw[hP,hw,hK]at F';refine .inr ⟨a0,r0,ks,rfl,Iq,F',hh.1,hh.2,λH' hR Ds=>?_⟩;obtain⟨xs,hx,_⟩:=id hR;refine fin Ds ⟨_,hx⟩ λmv=>?_;show dg C.P C.w C.K H' a0 _;rw[hP,hw,hK];exact hR
   ·cases hf
  ·cases hf
 |_=>simp[dI]at hf
theorem Ok.slot(ok:Ok C c)(hn:k≠.Ci)(hs:c.st[i]?=Od (Od (k,u))):∃v,c.σ[i]?=Od (Od v)/\aC C c c (if k.root=OP then .bor i else k) u v:=by
 obtain⟨v0,e0,EJ⟩:=ok.sl i k u hs;refine⟨v0,e0,?_⟩;by_cases hk:k.root=OP
 ·rw[XI hk];exact⟨⟨k,hk,hs⟩,e0⟩
 ·rw[XM hk];cases k with
  |loc=>exact EJ
  |any=>exact EJ
  |bor j=>exact EJ.elim
  |Ci=>exact(hn rfl).elim
  |_=>exact absurd rfl hk
end
section
theorem A7(hK:C.K=X.K)(hN:X.N[i]?=Od x)(hv:Fd X.env.scope x)(hd:(x==("__debug__":Str))=OR)(Dv:(x==("__classdict__":Str))=OR)(Cs:(apos.endLine==Cc.line)=OP):
  L2.PS X (.Expr (.Call (.Attribute (.Name x px) "clear" apos) [] [] Cc) pos) (C2 C ns (modS i AF >>= λ_=>pure .nx)):=by
 refine PS.weak (gV (r_ PySem.F.plainAttrs_list PySem.F.slot_list_clear PySem.F.type_list_clear si (eO hN hv hd Dv) rfl Cs)) ?_;rintro D σ H ⟨c0,rfl,rfl,ok,h⟩;rw[ae]at h;obtain⟨k,u1,u2,hk,hs,hf,q⟩:=d5 h;cases u1 with
 |lst us =>
  cases hf;obtain⟨v,e1,e2⟩:=ok.sl i k _ hs;obtain⟨r,rfl,_,_,_,vs,h1,h2⟩:=e2.rt hk;refine⟨_,e1,.inl ⟨rfl,vs,hK▸CF.of h1⟩,r,vs,rfl,rfl,h1,?_⟩;rw[aj]at q;obtain⟨CG,n2⟩:=ok.mod (H':=upd c0.H r (.lst [])) (u':=.lst []) (Ns.refl c0) hk hs e1 (λa ne=>ao ne) ⟨_,au⟩ λmv=>⟨[],au,rfl⟩
  exact q _ rfl CG n2 Kept.refl
 |_=>cases hf
end
section
variable{X:Cx}{C:Ct}{a:PR}{ma:M (Kd×U)}{apos Cc:Pos}{i:Nat}{x:Str}{px:Pos}
theorem Ok.xO(ok:Ok C c)(hk:k.root=OP)(hs:c.st[i]?=Od (Od (k,.lst us))):∃a vs,c.σ[i]?=Od (Od (.ref a))/\c.H a=Od (.lst vs)/\ai C c.S c.H us vs:=by
 obtain⟨v,e1,e2⟩:=ok.sl i k _ hs;obtain⟨r,rfl,_,_,_,vs,h1,h2⟩:=e2.rt hk;exact⟨r,vs,e1,h1,h2⟩
theorem ai.eraseIdx{S:O8->Prop}:∀{us:List U}{vs:List V} (n:Nat),ai C S H us vs->ai C S H (us.eraseIdx n) (vs.eraseIdx n)
 |[],_,n,h=>by cases h;simp[ai]
 |u::us,vs,0,h=>by
  obtain⟨v,r,rfl,h1,h2⟩:=h;exact h2
 |u::us,vs,n+1,h=>by
  obtain⟨v,r,rfl,h1,h2⟩:=h;exact⟨v,_,rfl,h1,h2.eraseIdx n⟩
theorem Ok.out(ok:Ok C c)(n:Nx c0 c)(hσ:c.σ=c0.σ)(hk:k.root=OP)(hs:c.st[i]?=Od (Od (k,.lst us)))(hr:c.σ[i]?=Od (Od (.ref r)))(DA:ai C c.S c.H Es De)(hu:Rep C c.S c.H u v)(w:bI C c0 Q (.loc,u) (c.st.set i (Od (k,.lst Es)))):Q v (upd c.H r (.lst De)):=by
 have NX:Mv c.S c.H c.S (upd c.H r (.lst De)):=by
  obtain⟨v',e1,e2⟩:=ok.sl i k _ hs;rw[hr]at e1;cases e1;obtain⟨r',er,h1,_,_,h4⟩:=e2.rt hk;cases er;obtain⟨o,ho,GR⟩:=h4.some;exact⟨λ_ z=>z,λa o' e t=>by rw[ao (λz=>by subst z;rw[ho]at e;cases e;exact GR t)];exact e,λa o' z e=>by rw[ao (λz'=>by subst z';exact h1 z)];exact e⟩
 obtain⟨CG,n2⟩:=ok.mod (H':=upd c.H r (.lst De)) (u':=.lst Es) n.toNs hk hs hr (λa ne=>ao ne) ⟨_,au⟩ λmv=>⟨De,au,DA.mv mv⟩
 exact w {c with H:=upd c.H r (.lst De),st:=c.st.set i (Od (k,.lst Es))} v hσ rfl CG ⟨n2⟩ (hu.mv NX)
theorem wK(hN:X.N[i]?=Od x)(hv:Fd X.env.scope x)(hd:(x==("__debug__":Str))=OR)(Dv:(x==("__classdict__":Str))=OR)(Cs:(apos.endLine==Cc.line)=OP)(hK:C.K=X.K):
  PE X (.Call (.Attribute (.Name x px) "pop" apos) [] [] Cc) (Cj C (sX i)):=by
 refine PE.weak (r_ PySem.F.plainAttrs_list PySem.F.slot_list_pop PySem.F.type_list_pop yy (eO hN hv hd Dv) rfl Cs) ?_;rintro σ H Q ⟨c0,rfl,rfl,ok,h⟩;obtain⟨r,st',e,w⟩:=h;unfold sX at e;split at e
 ·rename_i k us hs;split at e
  ·rename_i hk;split at e
   ·rename_i u hu;cases e;obtain⟨p,vs,h1,h2,h3⟩:=ok.xO hk hs;obtain⟨v,g1,g2⟩:=h3.get hu;have hl:=h3.len;refine⟨_,h1,.inl ⟨rfl,vs,hK▸CF.of h2⟩,p,vs,v,rfl,rfl,h2,by rw[<-hl];exact g1,?_⟩;refine ok.out (Nx.refl c0) rfl hk hs h1 ?_ g2 w;rw[Vi,Vi,hl];exact h3.take _
   ·cases e
  ·cases e
 ·cases e
theorem A8(h0:0<=j)(h:j.toNat<n):UK j n=Od j.toNat:=by
 simp only[UK];rw[XM (show ¬j<0 by omega),XI (by rw[OS,XJ,XJ];omega)]
theorem rh{st:ax}(h:W (qY i u) st Q):∃(j:Int) (k:Kd) (us:List U) (y:U),u=.int j/\k.root=OP/\0<=j/\j<1000000/\st[i]?=Od (Od (k,.lst us))/\us[j.toNat]?=Od y/\Q (.loc,y) (st.set i (Od (k,.lst (us.eraseIdx j.toNat)))):=by
 obtain⟨r,st',e,w⟩:=h;cases u with
 |int j =>
  unfold qY at e
  dsimp only at e
  split at e
  ·rename_i k us hs;split at e
   ·rename_i hk;split at e
    ·rename_i y hy;cases e;exact⟨j,k,us,y,rfl,hk.1,hk.2.1,hk.2.2,hs,hy,w⟩
    ·cases e
   ·cases e
  ·cases e
 |_=>cases e
theorem tL(hK:C.K=X.K)(hN:X.N[i]?=Od x)(hv:Fd X.env.scope x)(hd:(x==("__debug__":Str))=OR)(Dv:(x==("__classdict__":Str))=OR)(ha:PE X a (Cj C ma))
  (DH:((QP Cc (Pj [a] X.env)).all (λx=>!x.1)&&(Us Cc (SR [] X.env)).all (λx=>x.1.isSome)
   && OX ([a].length+([]:List Se).length+(if ([]:List Se).isEmpty then 0 else 1)<30))=OP)
  (Cs:(apos.endLine==Cc.line)=OP) (Cp:Pj [a] X.env=[(OR,QK a X.env)]) :
  PE X (.Call (.Attribute (.Name x px) "pop" apos) [a] [] Cc) (Cj C (dG i >>= λx=>FJ x.2 >>= λ_=>ma >>= λy=>qY i y.2)):=by
 refine PE.weak (sd PySem.F.plainAttrs_list PySem.F.slot_list_pop PySem.F.type_list_pop sg (eO hN hv hd Dv) (dW ha ie Cp) rfl DH Cs Cp rfl) ?_;rintro σ H Q ⟨c0,rfl,rfl,ok,h⟩;rw[ae]at h;obtain⟨k0,u0,ED,EY,h⟩:=d6 h;obtain⟨v0,e0,Io⟩:=ok.slot ED EY;refine⟨v0,e0,?_⟩;cases u0 with
 |lst GS =>
  rw[ae,show FJ (U.lst GS)=pure () from rfl,aj]at h;obtain⟨a0,Hk,ea,G_,_⟩:=Io.list ok;refine⟨by rw[ea];exact .inl ⟨rfl,Hk,hK▸G_⟩,?_⟩;refine aO ok h λr c v t w=>?_;obtain⟨j,k,us,y,ej,hk,j0,j1,hs,hu,w⟩:=rh w;obtain⟨p,vs,h1,h2,h3⟩:=t.ok.xO hk hs;have hp:p=a0:=by
   have:=h1;rw[t.hσ,e0,ea]at this;cases this;rfl
  subst hp;obtain⟨z,g1,g2⟩:=h3.get hu;have E2:j.toNat<vs.length:=(O6.mp g1).1;have rx:=t.rx;rw[ej]at rx;have ev:=rx.int t.ok;exact⟨p,vs,j,j.toNat,z,ea,by rw[ev],h2,SX (by decide) j0,Int.lt_trans j1 (by decide),A8 j0 E2,g1,t.ok.out t.nx t.hσ hk hs h1 (h3.eraseIdx _) g2 w⟩
 |_=>rw[ae]at h;exact(aq.mp h).elim
end
abbrev E8(P:PZ)(w:Qj)(K:PySem.W.Frag)(H:Hp)(Pr IO:O8->Prop):Ct:=⟨P,w,K,H,Pr,IO⟩
structure xP(C:Ct)(H H':Hp)(S':O8->Prop)(is:List Nat)(vs:List V)(ws:List U)(k:Kd)(u:U)(v:V):Prop where
 same:∀a o,H a=Od o->¬C.IO a->H' a=Od o
 new:∀a,S' a->H a=OQ/\∃o,H' a=Od o
 own:k=.own->∃r,v=.ref r/\H r=OQ/\¬S' r/\bW C S' H' r u
 loc:k=.loc->Rep C S' H' u v
 len:ws.length=is.length
 DP:∀(n i:Nat) (r:O8) (w:U),is[n]?=Od i->vs[i]?=Od (.ref r)->ws[n]?=Od w->bW C S' H' r w
structure zy(C:Ct)(H:Hp)(is:List Nat)(us:List U)(vs:List V):Prop where
 len:us.length=vs.length
 par:∀a,C.Ep a->D3 H a/\¬C.IO a
 LU:∀a,C.IO a->D3 H a
 io:∀(i:Nat) (u:U),i∈is->us[i]?=Od u->∃r,vs[i]?=Od (.ref r)/\C.IO r/\bW C (λ_=>False) H r u
 any:∀(i:Nat) (u:U),i∉is->us[i]?=Od u->∃v,vs[i]?=Od v/\Rep C C.Ep H u v
 inj:∀(i j:Nat) (r:O8),i∈is->j∈is->vs[i]?=Od (.ref r)->vs[j]?=Od (.ref r)->i=j
 DP:∀a,C.IO a->∃i∈is,vs[i]?=Od (.ref a)
def JB(P:PZ)(w:Qj)(K:PySem.W.Frag)(F:List U->Option (Ex (Kd×U)))(np:Nat)(is:List Nat):Sp:=λvs H Q _=>vs.length=np/\∃us k u ws Pr IO,F us=Od (.ok (k,.tup (u::ws)))/\(k=.own\/k=.loc)/\zy (E8 P w K H Pr IO) H is us vs /\
 ∀v H' S',xP (E8 P w K H Pr IO) H H' S' is vs ws k u v->Q v H'
theorem map_inj:∀{l:List α},(l.map f).Nodup->∀x∈l,∀y∈l,f x=f y->x=y
 |[],_,_,h,_,_,_=>by cases h
 |a::l,h,x,hx,y,hy,e=>by
  rw[O5,Qe]at h;rcases O_.mp hx with e1|h1
  ·rcases O_.mp hy with e2|h2
   ·rw[e1,e2]
   ·exact absurd (Qk.mpr ⟨y,h2,by rw[<-e,e1]⟩) h.1
  ·rcases O_.mp hy with e2|h2
   ·exact absurd (Qk.mpr ⟨x,h1,by rw[e,e2]⟩) h.1
   ·exact map_inj h.2 x h1 y h2 e
section
theorem rj(h:eW rs p=Od j):∃us,rs[p]?=Od (.bor j,.lst us)/\bJ us=OP:=by
 unfold eW at h;split at h
 ·split at h
  ·cases h;exact⟨_,by assumption,by assumption⟩
  ·cases h
 ·cases h
theorem Ed.LV(t:Ed C c0 c rs vs){i:Nat}(h:rs[i]?=Od r):∃v,vs[i]?=Od v/\aC C c0 c r.1 r.2 v:=by
 have aux:∀(l:List (Kd×U)) (w:List V),bM C c0 c l w->aU l c.st->∀(i:Nat) (r:Kd×U),l[i]?=Od r->∃v,w[i]?=Od v/\aC C c0 c r.1 r.2 v:=by
  intro l;induction l with
  |nil=>intro w _ _ i r e;simp at e
  |cons x l ih =>
   intro w h hs i r e;obtain⟨v,t',rfl,h1,h2,_⟩:=h;rw[cB]at hs;cases i with
   |zero=>simp at e;subst e;exact⟨v,rfl,h1.t hs.1⟩
   |succ i=>obtain⟨v',a,b⟩:=ih t' h2 hs.2 i r (by simpa using e);exact⟨v',by simpa using a,b⟩
 exact aux rs vs t.rep t.GN i r h
theorem Ed.len(t:Ed C c0 c rs vs):rs.length=vs.length:=by
 have:=t.read.len;rw[OY]at this;exact this
theorem pL(q:C'.Eqv C){vs:List V}(hs:∀a,S' a->S1 a){IO:O8->Prop}(Ir:∀a,S' a->¬IO a)(GR:∀a o,IO a->H' a=Od o->¬Tp o):
  ∀(ps:List Nat) (ws:List U) (cc:Cf) (st':ax),Ok C cc->Ns c1 cc->cc.S=S1->eG rs ps ws cc.st=Od st'->(ps.map (eW rs)).Nodup->(∀p∈ps,∀a,vs[p]?=Od (.ref a)->IO a) ->
  (∀p∈ps,∀j,eW rs p=Od j->∃k u r,k.root=OP/\cc.st[j]?=Od (Od (k,u))/\cc.σ[j]?=Od (Od (.ref r))/\vs[p]?=Od (.ref r)) ->
  (∀(n p:Nat) (r:O8) (w:U),ps[n]?=Od p->vs[p]?=Od (.ref r)->ws[n]?=Od w->bW C' S' H' r w)->(∀a,(∀p∈ps,vs[p]?≠Od (.ref a))->cc.H a=H' a)->(∀a,¬IO a->cc.H a=H' a) ->
  ∃cf:Cf,Ok C cf/\Ns c1 cf/\cf.σ=cc.σ/\cf.S=S1/\cf.st=st'/\cf.H=H'/\cf.kid=cc.kid/\∀(j:Nat) (k:Kd) (u:U),cf.st[j]?=Od (Od (k,u))->∃u0,cc.st[j]?=Od (Od (k,u0))
 |[],ws,cc,st',ok,n,hS,e,_,_,_,_,ag,_=>by
  cases ws with
  |nil=>cases e;exact⟨cc,ok,n,rfl,hS,rfl,funext λa=>ag a λp hp=>(by cases hp),rfl,λj k u e=>⟨u,e⟩⟩
  |cons _ _=>cases e
 |p::ps,ws,cc,st',ok,n,hS,e,nd,C7,sl,rt,ag,KY=>by
  cases ws with
  |nil=>cases e
  |cons w ws =>
   simp only[eG]at e;split at e
   ·rename_i j hj;split at e
    ·rename_i us k0 OC Cp;obtain⟨k,u,r,hk,e1,e2,e3⟩:=sl p (by simp) j hj;rw[Cp]at e1;cases e1;have e1:=Cp;have hr:=rt 0 p r _ rfl e3 rfl;obtain⟨xs,g1,g2⟩:=hr;have KZ:IO r:=C7 p (by simp) r e3;rw[O5,Qe]at nd;obtain⟨Cy,n'⟩:=ok.mod (H':=upd cc.H r (.lst xs)) (u':=.lst us) n hk e1 e2 (λa ne=>ao ne) ⟨_,au⟩ (λ_=>⟨xs,au,by
      refine(g2.cg q).mv ⟨λa z=>by rw[hS];exact hs a z,λa o h tp=>?_,λa o z h=>?_⟩
      ·by_cases ha:a=r
       ·subst ha;exact absurd tp (GR a o KZ h)
       ·rw[ao ha];by_cases hI:IO a
        ·exact absurd tp (GR a o hI h)
        ·rw[KY a hI];exact h
      ·have hI:=Ir a z;have ha:a≠r:=λe=>hI (e▸KZ);rw[ao ha,KY a hI];exact h⟩)
     have E7:j<cc.st.length:=(O6.mp e1).1;have A1:∀p'∈ps,∀j',eW rs p'=Od j'->∃k u r,Kd.root k=OP/\(cc.st.set j (Od (k0,.lst us)))[j']?=Od (Od (k,u))/\cc.σ[j']?=Od (Od (.ref r))/\vs[p']?=Od (.ref r):=λp' hp j' FZ=>by
      obtain⟨k',u',r',a1,a2,a3,a4⟩:=sl p' (by simp[hp]) j' FZ;have ne:j≠j':=λz=>nd.1 (Qk.mpr ⟨p',hp,by rw[FZ,hj,z]⟩);exact⟨k',u',r',a1,by rw[Pk ne];exact a2,a3,a4⟩
     have A2:∀a,(∀p'∈ps,vs[p']?≠Od (.ref a))->upd cc.H r (.lst xs) a=H' a:=λa ha=>by
      by_cases h:a=r
      ·subst h;rw[au,g1]
      ·rw[ao h];refine ag a λp' hp z=>?_;rcases O_.mp hp with rfl|hp
       ·rw[e3]at z;cases z;exact h rfl
       ·exact ha p' hp z
     have A3:∀a,¬IO a->upd cc.H r (.lst xs) a=H' a:=λa ha=>by
      have ne:a≠r:=λz=>ha (by rw[z];exact KZ);rw[ao ne];exact KY a ha
     obtain⟨cf,f1,f2,f3,f4,f5,f6,f7,f8⟩:=pL q hs Ir GR ps ws {cc with H:=upd cc.H r (.lst xs),st:=cc.st.set j (Od (k0,.lst us))} st' Cy n' hS e nd.2 (λp' hp=>C7 p' (by simp[hp])) A1 (λm p' r' w' a b d=>rt (m+1) p' r' w' (by simpa using a) b (by simpa using d)) A2 A3;refine⟨cf,f1,f2,f3,f4,f5,f6,f7,λi k' u' z=>?_⟩;obtain⟨u0,z⟩:=f8 i k' u' z;by_cases hi:i=j
     ·subst hi;have z:(cc.st.set i (Od (k0,.lst us)))[i]?=_:=z;rw[Ph E7]at z;cases z;exact⟨_,e1⟩
     ·have z:(cc.st.set j (Od (k0,.lst us)))[i]?=_:=z;rw[Pk (Qs hi)]at z;exact⟨u0,z⟩
    ·cases e
   ·cases e
end
section
theorem wL(st:ax)(r:Kd×U):(cH st r).1=r.1:=by
 unfold cH;split<;>rfl
theorem bM.LW{st:ax}:∀{rs:List (Kd×U)}{vs:List V},bM C c0 c rs vs->bM C c0 c (rs.map (cH st)) vs
 |[],_,h=>h
 |r::rs,vs,h=>by
  obtain⟨v,t,rfl,h1,h2,h3⟩:=h;refine⟨v,t,rfl,?_,bM.LW h2,λhk i r' v' e1 e2 CL=>?_⟩
  ·obtain⟨k,u⟩:=r;cases k<;>exact h1
  ·rw[Pa,O1]at e1;obtain⟨r0,e1,rfl⟩:=e1;rw[wL]at hk CL;exact h3 hk i r0 v' e1 e2 CL
theorem wM(h:PA X es (Dk C ms)):PA X es (Dk C (ms >>= v9)):=by
 rintro pos pins s σ H Q I ⟨c0,rfl,rfl,ok,w⟩;refine h pos pins s c0.σ c0.H Q I ⟨c0,rfl,rfl,ok,?_⟩;rw[ae]at w;refine w.mono λrs st ⟨CS,st',e,q⟩ c vs e1 e2 Co n r=>?_;cases e;exact q c vs e1 e2 Co n r.LW
theorem tM(h:Ku r=Od (k,u,ws)):r=(k,.tup (u::ws))/\(k=.own\/k=.loc):=by
 unfold Ku at h;split at h
 ·cases h;exact⟨rfl,.inl rfl⟩
 ·cases h;exact⟨rfl,.inr rfl⟩
 ·cases h
theorem tN(hP:C.P=X.prog)(hw:C.w=X.w)(hK:C.K=X.K)(hF:Γ f=F)(hk:∀us r,F us=Od (.ok r)->us.length=np)
  (G:ig X.prog X.w X.K X.mg X.base EE k fa fd ps (JB X.prog X.w X.K F np is)) (hr:d_ k X.A) (hg:Gl X f) (hm:X.mg f=Od (.ref fa)) (Ib:PySem.W.keepIn X.K (.ref fa)=OP) (hb:Binds X.K fd ps [])
  (Fz:(f==("__debug__":Str))=OR) (ha:PA X (e::es) (Dk C ms)) (he:Pj (e::es) X.env=(OR,QK e X.env)::Pj es X.env) (Dp:(QP pos (Pj es X.env)).any (·.1)=OR) :
  PE X (.Call (.Name f p) (e::es) [] pos) (Cj C (ms >>= λrs=>ar rs >>= λ_=>mi Γ f rs is)):=by
 rintro pins s σ H Q I ⟨c0,rfl,rfl,ok,h⟩;refine QJ (oM I hg hm ?_ Fz);refine PySem.W.callWith_K (h₀:=X.base) I.ok.mod.IM Ib (Cm (args ha I ok h pos) λus s1 ⟨rs,c,vs,t,I1,rv,w⟩=>⟨I1.Gh,?_⟩) he Dp;obtain⟨r,st',e1,q⟩:=w;unfold mi at e1;rw[hF]at e1;split at e1
 ·rename_i r0 e2;split at e1
  ·rename_i kd u ws eu;split at e1
   ·rename_i C7;split at e1
    ·rename_i st2 K0;cases e1;obtain⟨rfl,k1⟩:=tM eu;have k2:=hk _ _ e2;unfold mf at C7;simp only[OS,Pe,XJ,Qz,QT]at C7;obtain⟨⟨h1,h2⟩,h3⟩:=C7;have DE:∀p∈is,∃j xs k r,eW rs p=Od j/\rs[p]?=Od (.bor j,.lst xs)/\bJ xs=OP/\Kd.root k=OP/\c.st[j]?=Od (Od (k,.lst xs))/\c.σ[j]?=Od (Od (.ref r))/\vs[p]?=Od (.ref r)/\¬c.S r/\¬C.Ep r/\bW C c.S c.H r (.lst xs):=λp hp=>by
      obtain⟨j,hj⟩:=UE.mp (h1 p hp);obtain⟨xs,a1,a2⟩:=rj hj;obtain⟨v,b1,b2⟩:=t.LV a1;obtain⟨r,rfl,d1,d2,_,d3⟩:=t.ok.rootOf b2.1 b2.2;obtain⟨k,g1,g2⟩:=b2.1;exact⟨j,xs,k,r,hj,a1,a2,g1,g2,b2.2,b1,d1,d2,d3⟩
     let IO:O8->Prop:=λa=>∃p∈is,vs[p]?=Od (.ref a);have Iu:∀a,IO a->c.R a/\¬c.S a/\¬C.Ep a/\D3 c.H a:=λa DQ=>by
      obtain⟨p,hp,e⟩:=DQ;obtain⟨j,xs,k,r,_,_,_,g1,g2,g3,g4,g5,g6,g7⟩:=DE p hp;rw[e]at g4;cases g4;obtain⟨o,ho,_⟩:=g7.some;exact⟨.inl ⟨j,k,_,g1,g2,g3⟩,g5,g6,o,ho⟩
     let Pr:O8->Prop:=λa=>D3 c.H a/\¬IO a;have eqv:C.Eqv (E8 X.prog X.w X.K c.H Pr IO):=⟨hP,hw,hK⟩
     have E4:(E8 X.prog X.w X.K c.H Pr IO).Eqv C:=⟨hP.symm,hw.symm,hK.symm⟩
     have sP:∀a,c.S a->Pr a:=λa z=>⟨t.ok.sU a z,λz'=>(Iu a z').2.1 z⟩
     have gi:∀{i:Nat} {u:U},(rs.map (·.2))[i]?=Od u->∃k,rs[i]?=Od (k,u):=λ{i u} e=>by
      rw[Pa,O1]at e;obtain⟨⟨k,u'⟩,e,rfl⟩:=e;exact⟨k,e⟩
     have arg:zy (E8 X.prog X.w X.K c.H Pr IO) c.H is (rs.map (·.2)) vs:=by
      refine⟨by rw[OY];exact t.len,λa z=>z,λa z=>(Iu a z).2.2.2,λi u hi e=>?_,λi u hi e=>?_,λi j r hi hj e3 e4=>?_,λa z=>z⟩
      ·obtain⟨j,xs,k,r,_,g0,gm,g1,g2,g3,g4,g5,g6,zs,g7,g8⟩:=DE i hi;obtain⟨k',e⟩:=gi e;rw[g0]at e;cases e;exact⟨r,g4,⟨i,hi,g4⟩,zs,g7,(ai.CI gm g8).cg eqv⟩
      ·obtain⟨k',e⟩:=gi e;obtain⟨v,b1,b2⟩:=t.LV e;refine⟨v,b1,?_⟩;have E7:i<rs.length:=(O6.mp e).1;have LX:=(h3 i E7).resolve_left hi;rw[Si,e]at LX;refine Rep.cg eqv (u:=u) ?_;cases k' with
       |own =>
        obtain⟨r,rfl,_,d1,d2,d3⟩:=b2;obtain⟨o,ho,_⟩:=d3.some;exact d3.rep sP ⟨⟨o,ho⟩,λz=>d2 (Iu r z).1⟩
       |loc=>exact Rep.mv (.up sP) b2
       |any=>exact Rep.mv (.up λa z=>z.elim (λz=>⟨t.ok.AE a (.inl z),λz'=>(Iu a z').2.2.1 z⟩) (sP a)) b2
       |bor j =>
        obtain⟨r,rfl,d1,d2,_,d3⟩:=t.ok.rootOf b2.1 b2.2;obtain⟨o,ho,_⟩:=d3.some;refine d3.rep sP ⟨⟨o,ho⟩,λ⟨p',LY,e'⟩=>?_⟩;obtain⟨j',xs,k2,r2,g,_,_,g1,g2,g3,g4,_⟩:=DE p' LY;rw[e']at g4;cases g4;obtain⟨k3,z1,z2⟩:=b2.1;have:=t.ok.inj j j' k3 k2 _ _ r z1 g1 z2 g2 b2.2 g3;subst this;have:Od j∉is.map (eW rs):=by simpa[sW] using LX
        exact this (Qk.mpr ⟨p',LY,g⟩)
       |_=>exact b2.elim
      ·obtain⟨j1,_,k1,r1,a0,_,_,a1,a2,a3,a4,_⟩:=DE i hi;obtain⟨j2,_,k2,r2,b0,_,_,b1,b2,b3,b4,_⟩:=DE j hj;rw[e3]at a4;cases a4;rw[e4]at b4;cases b4;have:=t.ok.inj j1 j2 k1 k2 _ _ r a1 b1 a2 b2 a3 b3;subst this;exact map_inj h2 i hi j hj (by rw[a0,b0])
     have DY:JB X.prog X.w X.K F np is vs c.H (λv H'=>Q v H') E0:=⟨by rw[<-t.len,<-k2,OY],rs.map (·.2),kd,u,ws,Pr,IO,e2,k1,arg,λv H' S' hb=>by
      classical
      let H1:Hp:=λa=>if IO a then c.H a else H' a
      have JC:∀a,¬IO a->H1 a=H' a:=λa z=>XM z;have Ir:∀a,S' a->¬IO a:=λa z z'=>by
       obtain⟨o,ho⟩:=(Iu a z').2.2.2;rw[(hb.new a z).1]at ho;cases ho
      have Iv:yD c.H H1:=λa o e=>by
       by_cases z:IO a
       ·show(if IO a then _ else _)=_;rw[XI z];exact e
       ·rw[JC a z];exact hb.same a o e z
      obtain⟨Co,n1⟩:=t.ok.grow (H':=H1) (S':=λa=>c.S a\/S' a) Iv (λa z=>z.imp id λz=>⟨(hb.new a z).1,by rw[JC a (Ir a z)];exact(hb.new a z).2⟩) λa=>.inl;have Iw:∀(n i:Nat) (r:O8),is[n]?=Od i->vs[i]?=Od (.ref r)->∃w,ws[n]?=Od w/\bW (E8 X.prog X.w X.K c.H Pr IO) S' H' r w:=λn i r a b=>by
       have hn:n<ws.length:=by rw[hb.len];exact(O6.mp a).1
       exact⟨_,Pn hn,hb.DP n i r _ a b (Pn hn)⟩
      obtain⟨cf,f1,f2,f3,f4,f5,f6,f7,f8⟩:=pL (C:=C) E4 (rs:=rs) (vs:=vs) (H':=H') (S':=S') (S1:=λa=>c.S a\/S' a) (λa=>.inr) (IO:=IO) Ir (λa o ⟨i,hi,z⟩ e=>by
        obtain⟨n,hn⟩:=List.getElem?_of_mem hi;obtain⟨w,_,g⟩:=Iw n i a hn z;obtain⟨o',g1,g2⟩:=g.some;rw[e]at g1;cases g1;exact g2) is ws {c with H:=H1,S:=λa=>c.S a\/S' a} st' Co n1.toNs rfl K0 h2 (λp hp a z=>⟨p,hp,z⟩) (λp hp j hj=>by
        obtain⟨j',xs,k,r,g0,_,_,g1,g2,g3,g4,_⟩:=DE p hp;rw[hj]at g0;cases g0;exact⟨k,_,r,g1,g2,g3,g4⟩) (λn i r w a b d=>hb.DP n i r w a b d) (λa ha=>JC a λ⟨p,hp,z⟩=>ha p hp z) JC
      subst f6;have NY:∀a,cf.R a->c.R a:=λa z=>by
       rcases z with⟨j,k,u,g1,g2,g3⟩|⟨j,u,r,g1,g2,g3⟩
       ·obtain⟨u0,g⟩:=f8 j k u g2;rw[f3]at g3;exact .inl ⟨j,k,u0,g1,g,g3⟩
       ·obtain⟨u0,g⟩:=f8 j .Ci u g1;rw[f3]at g2;rw[f7]at g3;exact .inr ⟨j,u0,r,g,g2,g3⟩
      refine q cf v (f3.trans t.hσ) f5 f1 ⟨t.nx.toNs.trans f2⟩ ?_;rcases k1 with rfl|rfl
      ·obtain⟨r,rfl,d1,d2,d3⟩:=hb.own rfl;obtain⟨_,z1,_,_,z4⟩:=t.ok.kM d1;exact⟨r,rfl,t.nx.none d1,by rw[f4];exact λz=>z.elim z1 d2,λz=>z4 (NY r z),(d3.cg E4).mv (.up λa z=>by rw[f4];exact .inr z) λo q=>q⟩
      ·exact((hb.loc rfl).cg E4).mv (.up λa z=>by rw[f4];exact .inr z)⟩
     have z:=rY (Q:=Q) G hr hb .nil xF I1 rv (by rw[Qn];exact DY);rw[t.hσ]at z;exact z
    ·cases e1
   ·cases e1
  ·cases e1
 ·cases e1
end
structure Ck where
 fns:List Str
 gl:List (Str×U)
 DP:List (Str×List Nat)
def gq:U->U->Bool
 |.int i,.int j=>OX (i=j)
 |.str x,.str y=>OX (x=y)
 |.bl a,.bl b=>a==b
 |.Ce,.Ce=>OP
 |_,_=>OR
theorem bN(h:gq u v=OP):u=v:=by
 cases u<;>cases v<;>simp[gq]at h<;>subst_vars<;>rfl
def noStar:PR->Bool
 |.Starred _ _=>OR
 |_=>OP
def gY:PR->Bool
 |.Slice _ _ _ _=>OR
 |_=>OP
def nX:PR->Bool
 |.Set _ _ _=>OR
 |_=>OP
def kU:PR->Bool
 |.Call (.Name _ _) [] [] _=>OR
 |_=>OP
def cK:PR->Bool
 |.ListComp _ _ _ _=>OR
 |.SetComp _ _ _ _=>OR
 |.DictComp _ _ _ _ _=>OR
 |_=>OP
def zA:PR->Bool
 |.Tuple _ _ _=>OR
 |_=>OP
def D4(sc:Rg)(x:Str):Bool:=OX (sc.names.lookup x=Od .globalImplicit)
def kW(sc:Rg)(x:Str):Bool:=OX (sc.names.lookup x=Od .local)||decide (sc.names.lookup x=Od .cell)||decide (sc.names.lookup x=Od .free)
def mw(sc:Rg)(x:Str):Bool:=OX (sc.names.lookup x=Od .local)||decide (sc.names.lookup x=Od .cell)
def A9(sc:Rg)(x:Str):Bool:=OX (sc.names.lookup x=Od .local)
def bY(x:Str):Bool:=!(x==("__debug__":Str))&&!(x==("__classdict__":Str))
def pM(N:List Str)(sc:Rg)(fa:Bool)(i:Nat):PR->Bool
 |.Name x _=>OX (N[i]?=Od x)&&mw sc x&&(fa||A9 sc x)
 |_=>OR
def kX(N:List Str)(sc:Rg)(fa:Bool):List Nat->List PR->Bool
 |[],[]=>OP
 |i::is,e::es=>pM N sc fa i e&&kX N sc fa is es
 |_,_=>OR
def eI:PR->List Str
 |.Name x _=>[x]
 |.Tuple es _ _=>es.filterMap fun|.Name x _=>Od x|_=>OQ
 |_=>[]
def hide(own N:List Str):List Str:=match own.filter λx=>OX (x∈N) with
 |[]=>N
 |[x]=>N.set (N.idxOf x) "."
 |x::y::_=>(N.set (N.idxOf x) ".").set (N.idxOf y) ".."
def Hl(t:Bool)(N:List Str)(sc:Rg)(fa:Bool)(is:List Nat):PR->Bool
 |.Name x p=>!t&&(match is with|[i]=>pM N sc fa i (.Name x p)|_=>OR)
 |.Tuple es _ _=>t&&kX N sc fa is es&&is.all λi=>OX (i<N.length)
 |_=>OR
def isTup:PR->Bool
 |.Tuple _ _ _=>OP
 |_=>OR
def gr(e:PR):Option (Str×List PR):=match e with
 |.Call f as kw _=>match f with
  |.Name x _=>if kw.isEmpty=OP then Od (x,as) else OQ
  |_=>OQ
 |_=>OQ
theorem dM(h:gr e=Od (x,as)):∃p q,e=.Call (.Name x p) as [] q:=by
 unfold gr at h;split at h
 ·split at h
  ·split at h
   ·rename_i hk;rw[Rn]at hk;cases h;subst hk;exact⟨_,_,rfl⟩
   ·cases h
  ·cases h
 ·cases h
def tP(e:PR):Option PR:=match e with
 |.Call f as kw q=>match f with
  |.Attribute a m p=>if kw.isEmpty=OP/\as.isEmpty=OP/\m="items"/\(p.endLine==q.line)=OP/\((gr a).any λz=>!z.2.isEmpty)=OP then Od a else OQ
  |_=>OQ
 |_=>OQ
theorem nY(h:tP e=Od a):∃x p b as q p2 q2,a=.Call (.Name x p) (b::as) [] q/\e=.Call (.Attribute a "items" p2) [] [] q2/\(p2.endLine==q2.line)=OP:=by
 unfold tP at h;split at h
 ·split at h
  ·split at h
   ·rename_i hk;obtain⟨h1,h2,h3,h4,h5⟩:=hk;rw[Rn]at h1 h2;cases h;subst h1 h2 h3;cases hc:gr a with
    |none=>rw[hc]at h5;cases h5
    |some z =>
     rw[hc]at h5;obtain⟨x,as⟩:=z;obtain⟨p,q,rfl⟩:=dM hc;cases as with
     |nil=>cases h5
     |cons b as=>exact⟨_,_,_,_,_,_,_,rfl,rfl,h4⟩
   ·cases h
  ·cases h
 ·cases h
def dN(sc:Rg)(tg:PR)(ik:Ik)(e:PR):Option (List PR):=match ik with
 |.seq=>Od [e]
 |.CV=>(gr e).bind λp=>if p.1="range"/\D4 sc p.1=OP/\p.2.length=1 then Od p.2 else OQ
 |.Hi=>(gr e).bind λp=>if p.1="enumerate"/\D4 sc p.1=OP/\p.2.length=1/\isTup tg=OP then Od p.2 else OQ
 |.Ig=>(tP e).bind λa=>if isTup tg=OP then Od [a] else OQ
 |_=>OQ
def simple:Bf->Bool:=λ_=>OP
def zB(scope sc:Rg):Rg:={scope with names:=scope.names.map λ(n,k)=>if (k==QX&&sc.kind==.function&&sc.names.lookup n==Od .cell)=OP then(n,.cell) else(n,k)}
def bK(e:PR)(k:Str->Bool):Bool:=match e with|.Name x _=>k x|_=>OR
theorem av(h:bK e k=OP):∃x p,e=.Name x p/\k x=OP:=by
 unfold bK at h;split at h
 ·exact⟨_,_,rfl,h⟩
 ·cases h
def fN{α:Type}(l:List α)(k:α->Bool):Bool:=match l with|[a]=>k a|_=>OR
theorem bE(h:fN l k=OP):∃a,l=[a]/\k a=OP:=by
 unfold fN at h;split at h
 ·exact⟨_,rfl,h⟩
 ·cases h
def da(e:PR)(k:PR->List PR->Pos->Bool):Bool:=match e with|.Call f as kw p=>kw.isEmpty&&k f as p|_=>OR
theorem aK(h:da e k=OP):∃f as p,e=.Call f as [] p/\k f as p=OP:=by
 unfold da at h;split at h
 ·rename_i f as kw p;rw[OS,Rn]at h;obtain⟨rfl,h⟩:=h;exact⟨_,_,_,rfl,h⟩
 ·cases h
def nZ(e:PR)(k:PR->Str->Pos->Bool):Bool:=match e with|.Attribute o m p=>k o m p|_=>OR
theorem mz(h:nZ e k=OP):∃o m p,e=.Attribute o m p/\k o m p=OP:=by
 unfold nZ at h;split at h
 ·exact⟨_,_,_,rfl,h⟩
 ·cases h
def tQ(e:PR)(k:PR->CmpOp->PR->Bool):Bool:=match e with|.Compare a ops bs _=>fN ops λop=>fN bs λb=>k a op b|_=>OR
theorem iP(h:tQ e k=OP):∃a op b p,e=.Compare a [op] [b] p/\k a op b=OP:=by
 unfold tQ at h;split at h
 ·obtain⟨op,rfl,z1⟩:=bE h;obtain⟨b,rfl,z2⟩:=bE z1;exact⟨_,_,_,_,rfl,z2⟩
 ·cases h
def eX(e:PR)(k:PR->Str->Pos->List PR->Pos->Bool):Bool:=da e λf as Cc=>nZ f λo m apos=>k o m apos as Cc
theorem bF(h:eX e k=OP):∃o m apos as Cc,e=.Call (.Attribute o m apos) as [] Cc/\k o m apos as Cc=OP:=by
 obtain⟨f,as,p,rfl,h⟩:=aK h;obtain⟨o,m,q,rfl,h⟩:=mz h;exact⟨_,_,_,_,_,rfl,h⟩
def tR(e:PR)(k:PR->PR->Bool):Bool:=match e with|.Subscript a b _=>k a b|_=>OR
theorem n9(h:tR e k=OP):∃a b p,e=.Subscript a b p/\k a b=OP:=by
 unfold tR at h;split at h
 ·exact⟨_,_,_,rfl,h⟩
 ·cases h
mutual
def az(k:Ck):E->List Str->Rg->PR->Bool
 |.var i,N,sc,e'=>match e' with
  |.Name x _=>OX (N[i]?=Od x)&&kW sc x&&bY x
  |_=>OR
 |.cst u,N,sc,e'=>match e' with
  |.Constant (.int j) _ _=>gq u (.int j)
  |.Constant (.str y) _ _=>gq u (.str y)
  |.Constant (.bool y) _ _=>gq u (.bl y)
  |.Constant .none _ _=>gq u .Ce
  |_=>OR
 |.Jp _ _,_,_,_=>OR
 |.bin op a b,N,sc,e'=>match e' with
  |.BinOp a' Hm b' _=>OX (op.op=Hm)&&az k a N sc a'&&az k b N sc b'
  |_=>OR
 |.cmp op a b,N,sc,e'=>tQ e' λa' Hm b'=>OX (op.op=Hm)&&!Vu Hm b'&&az k a N sc a'&&az k b N sc b'
 |.Ea o1 o2 a b c,N,sc,e'=>match e' with
  |.Compare a' [p,q] [b',c'] _=>OX (o1.op=p)&&OX (o2.op=q)&&!W7 [p,q] [b',c']&&az k a N sc a'&&az k b N sc b'&&az k c N sc c'
  |_=>OR
 |.and es,N,sc,e'=>match e' with
  |.BoolOp .And Cd _=>aB k es N sc Cd
  |_=>OR
 |.or es,N,sc,e'=>match e' with
  |.BoolOp .Or Cd _=>aB k es N sc Cd
  |_=>OR
 |.not a,N,sc,e'=>match e' with
  |.UnaryOp .Not a' _=>az k a N sc a'
  |_=>OR
 |.ite c a b,N,sc,e'=>match e' with
  |.IfExp c' a' b' _=>az k c N sc c'&&az k a N sc a'&&az k b N sc b'
  |_=>OR
 |.neg _,_,_,_=>OR
 |.bad,_,_,_=>OP
 |.pop i,N,sc,e'=>eX e' λo m apos as Cc=>bK o λx=>as.isEmpty&&OX (m="pop")&&OX (N[i]?=Od x)&&kW sc x&&bY x&&(apos.endLine==Cc.line)
 |.DU i a,N,sc,e'=>eX e' λo m apos as Cc=>bK o λx=>fN as λa'=>OX (m="pop")&&OX (N[i]?=Od x)&&kW sc x&&bY x&&(apos.endLine==Cc.line)&&noStar a'&&az k a N sc a'
 |.B' f es is,N,sc,e'=>da e' λf' Cd _=>bK f' λx=>OX (x=f)&&OX ((f,is)∈k.DP)&&D4 sc x&&bY x&&!Cd.isEmpty&&aB k es N sc Cd
 |.Jr _,_,_,_=>OR
 |.inD _ _ _,_,_,_=>OR
 |.FG _ _ _,_,_,_=>OR
 |.Jq _,_,_,_=>OR
 |.Js _ _ _,_,_,_=>OR
 |.fst es,N,sc,e'=>OR
 |.Er a T,N,sc,e'=>da e' λf' as _=>bK f' λx=>match as with
  |[a',b']=>bK b' λy=>OX (x="isinstance")&&OX (y=T.name)&&D4 sc x&&D4 sc y&&noStar a'&&az k a N sc a'
  |_=>OR
 |.tup es,N,sc,e'=>match e' with
  |.Tuple Cd _ _=>aB k es N sc Cd
  |_=>OR
 |.lst es,N,sc,e'=>match e' with
  |.List Cd _=>aB k es N sc Cd
  |_=>OR
 |.Du _,N,sc,e'=>match e' with
  |.Dict [] [] _=>OP
  |_=>OR
 |.idx a b,N,sc,e'=>match e' with
  |.Subscript a' b' _=>gY b'&&az k a N sc a'&&az k b N sc b'
  |_=>OR
 |.EC a lo hi,N,sc,e'=>match e' with
  |.Subscript a' (.Slice NZ Dz OQ _) _=>az k a N sc a'&&n_ k lo N sc NZ&&n_ k hi N sc Dz
  |_=>OR
 |.bi f es,N,sc,e'=>da e' λf' Cd _=>bK f' λx=>OX (x=f.name)&&simple f&&D4 sc x&&!Cd.isEmpty&&aB k es N sc Cd
 |.FF f es,N,sc,e'=>da e' λf' as _=>bK f' λx=>fN as λc=>da c λg' Cd _=>bK g' λy=>OX (x=f.kP)&&OX (y=f.fM)&&D4 sc x&&D4 sc y&&!Cd.isEmpty&&aB k es N sc Cd
 |.Fj m a es,N,sc,e'=>eX e' λo name apos Cd Cc=>OX (name=m.name)&&kU o&&(apos.endLine==Cc.line)&&!Cd.isEmpty&&OX (Cd.length<20)&&az k a N sc o&&aB k es N sc Cd
 |.call f es,N,sc,e'=>da e' λf' Cd _=>bK f' λx=>OX (x=f)&&OX (f∈k.fns)&&D4 sc x&&bY x&&!Cd.isEmpty&&aB k es N sc Cd
 |.comp n t ik src cond e,N,sc,e'=>match e' with
  |.ListComp elt [⟨tg,iter,ifs,0⟩] scope _ =>
   OX ((eI tg).length=n)&&yI (eI tg++hide (eI tg) N) (eI tg) scope sc.names&&Hl t (eI tg++hide (eI tg) N) (zB scope sc) OR (Pl n) tg&&nX iter &&
   (match dN sc tg ik iter with
    |some as=>aB k src N sc as
    |none=>OR) &&
   OX (ifs.length<=1)&&aB k cond (eI tg++hide (eI tg) N) (zB scope sc) ifs&&az k e (eI tg++hide (eI tg) N) (zB scope sc) elt
  |_=>OR
def aB(k:Ck):List E->List Str->Rg->List PR->Bool
 |[],_,_,Cd=>Cd.isEmpty
 |e::es,N,sc,Cd=>match Cd with
  |e'::Cd=>noStar e'&&az k e N sc e'&&aB k es N sc Cd
  |[]=>OR
def n_(k:Ck):List E->List Str->Rg->Option PR->Bool
 |[],_,_,o=>o.isNone
 |[e],N,sc,o=>match o with
  |some e'=>az k e N sc e'
  |none=>OR
 |_::_::_,_,_,_=>OR
end
def bh:List Str:=["len","sorted","repr","max","min","all","any","list","tuple","str","int","range","enumerate","zip","reversed","set","dict","sum","isinstance","bool"]
structure wN(P:PZ)(w:Qj)(K:PySem.W.Frag)(mg:Str->Option OW)(base:QA)(d:Nat)(F:List U->Option (Ex (Kd×U)))(f:Str):Prop where
 ex:∃(np:Nat) (fa:O8) (fd:SG) (ps:List Str),ig P w K mg base EE d fa fd ps (spT P w K F np)/\mg f=Od (.ref fa)/\PySem.W.keepIn K (.ref fa)=OP/\Binds K fd ps []/\∀us k u,F us=Od (.ok (k,u))->(k=.own\/k=.loc\/k=.any)/\us.length=np
structure wO(P:PZ)(w:Qj)(K:PySem.W.Frag)(mg:Str->Option OW)(base:QA)(d:Nat)(F:List U->Option (Ex (Kd×U)))(f:Str)(is:List Nat):Prop where
 ex:∃(np:Nat) (fa:O8) (fd:SG) (ps:List Str),ig P w K mg base EE d fa fd ps (JB P w K F np is)/\mg f=Od (.ref fa)/\PySem.W.keepIn K (.ref fa)=OP/\Binds K fd ps []/\∀us r,F us=Od (.ok r)->us.length=np
structure Gd(ck:Ck)(Γ:Tab)(C:Ct)(d:Nat)(X:Cx):Prop where
 P:C.P=X.prog
 w:C.w=X.w
 K:C.K=X.K
 u:X.A.units+60<Qr
 calm:X.calm=OP
 room:d_ d X.A
 blt:∀x∈bh,X.mg x=OQ
 fns:∀f∈ck.fns,wN X.prog X.w X.K X.mg X.base d (Γ f) f
 EK:∀p∈ck.gl,∃val v,X.mg p.1=Od val/\RelV v val/\∀S H,Rep C S H p.2 v
 DP:∀p∈ck.DP,wO X.prog X.w X.K X.mg X.base d (Γ p.1) p.1 p.2
theorem Gd.cx(g:Gd ck Γ C d X)(N:List Str)(sc:Rg)(D:O8)(s:O7)(H:Hp)(ex:List O8):Gd ck Γ C d (C6 X N sc D s H ex) :=
 ⟨g.P,g.w,g.K,g.u,g.calm,g.room,g.blt,g.fns,g.EK,g.DP⟩
theorem dO(h:kW sc x=OP):Fd sc x:=by
 unfold kW at h;simp only[Qz,XJ]at h;rcases h with(h|h)|h
 ·exact .inl h
 ·exact .inr (.inl h)
 ·exact .inr (.inr h)
theorem bu(h:bY x=OP):(x==("__debug__":Str))=OR/\(x==("__classdict__":Str))=OR:=by
 unfold bY at h;simpa using h
theorem bB(h:noStar e=OP):Pj (e::es) env=(OR,QK e env)::Pj es env:=by
 cases e<;>first|rfl|cases h
theorem mB(h:gY e=OP):kf e:=by
 intro o i;cases e<;>first|rfl|cases h
theorem oe(h:nX e=OP):∀x,QQ e env x=pure x:=by
 intro x;cases e<;>first|rfl|cases h
theorem gZ(h:kU o=OP):Sb o name env wh=wh:=by
 cases o with
 |Call f as ks p =>
  cases f with
  |Name x q=>cases as with
   |nil=>cases ks with
    |nil=>cases h
    |cons _ _=>rfl
   |cons _ _=>rfl
  |_=>rfl
 |_=>rfl
theorem bt(h:∀e∈es,noStar e=OP):(QP pos (Pj es env)).any (·.1)=OR/\(QP pos (Pj es env)).all (λx=>!x.1)=OP:=by
 induction es with
 |nil=>exact⟨rfl,rfl⟩
 |cons e es ih =>
  rw[bB (h e (by simp))];have:=ih λe' he=>h e' (by simp[he]);constructor
  ·show(OR||(QP pos (Pj es env)).any (·.1))=OR;rw[this.1];rfl
  ·show(!OR&&(QP pos (Pj es env)).all (λx=>!x.1))=OP;rw[this.2];rfl
theorem bZ(h:aB k es N sc Cd=OP):∀e∈Cd,noStar e=OP:=by
 induction es generalizing Cd with
 |nil =>
  cases Cd with
  |nil=>intro e he;cases he
  |cons _ _=>simp[aB]at h
 |cons x es ih =>
  cases Cd with
  |nil=>intro e he;cases he
  |cons e' Cd =>
   simp only[aB,OS]at h;intro e he;rcases O_.mp he with rfl|he
   ·exact h.1.1
   ·exact ih h.2 e he
theorem jJ(Fo:fa=OP->∀x,X.fn x=OP)(h:pM X.N X.env.scope fa i e=OP):nU X e i:=by
 cases e with
 |Name x p =>
  simp only[pM,OS,XJ,mw,Qz,A9]at h;refine⟨x,p,rfl,h.1.1,?_,?_⟩
  ·rcases h.1.2 with z|z
   ·exact .inl z
   ·exact .inr z
  ·rcases h.2 with z|z
   ·exact .inl (Fo z x)
   ·exact .inr z
 |_=>cases h
theorem iQ(Fo:fa=OP->∀x,X.fn x=OP):∀{is:List Nat}{es:List PR},kX X.N X.env.scope fa is es=OP->c9 X es is
 |[],[],_=>.nil
 |[],_::_,h=>by cases h
 |_::_,[],h=>by cases h
 |i::is,e::es,h=>by
  simp only[kX,OS]at h;exact .cons (jJ Fo h.1) (iQ Fo h.2)
theorem pN(hc:X.calm=OP)(hK:C.K=X.K)(hN:X.N.Nodup)(Fo:fa=OP->∀x,X.fn x=OP)(h:Hl t X.N X.env.scope fa is tg=OP):PG X tg (tG C t is):=by
 cases tg with
 |Name x p =>
  simp only[Hl,OS,P4]at h;obtain⟨rfl,h⟩:=h;cases is with
  |nil=>cases h
  |cons i is=>cases is with
   |nil=>exact zq hN (jJ Fo h)
   |cons _ _=>cases h
 |Tuple es k p =>
  simp only[Hl,OS,Pe,XJ]at h;obtain⟨⟨rfl,h1⟩,h2⟩:=h;exact AO hc hK hN (iQ Fo h1) h2
 |_=>cases h
theorem jK(own N:List Str):cN ((own++hide own N).drop own.length) N:=by
 rw[Ue rfl];unfold hide;split
 ·exact .refl N
 ·exact(cN.refl N).set _ (.inl rfl)
 ·exact((cN.refl N).set _ (.inl rfl)).set _ (.inr rfl)
def Bf.OD:Bf->Bool
 |.sum=>OP
 |.len=>OP|.sorted=>OP|.repr=>OP|.max=>OP|.min=>OP|.all=>OP|.any=>OP|_=>OR
def Bf.id:Bf->String
 |.len=>"len"|.sorted=>"sorted"|.repr=>"repr"|.max=>"max"|.min=>"min"|.all=>"all"|.any=>"any"
 |.list=>"list"|.tuple=>"tuple"|.str=>"str"|.int=>"int"
 |.sum=>"sum"
theorem wQ:∀f:Bf,simple f=OP->Qx f.name=Od f.val/\f.name∈bh/\f.name≠"__name__"/\(f.name==("__debug__":Str))=OR:=by
 intro f h;cases f<;>first|exact⟨by decide +kernel,by decide +kernel,by decide +kernel,by decide +kernel⟩|(cases h;done)
theorem zC:∀f:Bf,simple f=OP->(f.val=.builtin f.id\/f.val=.type f.id):=by
 intro f h;cases f<;>first|exact .inl rfl|exact .inr rfl|(cases h;done)
theorem zD:∀f:B2,f.kP∈bh/\f.fM∈bh:=by
 intro f;cases f<;>exact⟨by decide +kernel,by decide +kernel⟩
theorem wR:∀f:Mf,Slot "str" f.name f.id/\VI (.builtin f.id)=pure (.type "method_descriptor"):=by
 intro f;cases f with
 |split=>exact⟨PySem.F.slot_str_split,PySem.F.type_str_split⟩
 |join=>exact⟨PySem.F.slot_str_join,PySem.F.type_str_join⟩
 |partition=>exact⟨PySem.F.slot_str_partition,PySem.F.type_str_partition⟩
 |endswith=>exact⟨PySem.F.slot_str_endswith,PySem.F.type_str_endswith⟩
section
theorem di(h:D4 X.env.scope x=OP):Gl X x:=by
 unfold D4 at h;show X.env.kindOf x=Od .globalImplicit;exact of_decide_eq_true h
theorem wU:("enumerate":Str)∈bh:=by decide +kernel
theorem mC:("isinstance":Str)∈bh:=by decide +kernel
theorem tS(T:DT):T.name∈bh:=by cases T<;>decide +kernel
theorem wV:("range":Str)∈bh:=by decide +kernel
theorem xQ(g:Gd ck Γ C d X)(h:dN X.env.scope tg ik iter=Od as)(hL:PA X as (Dk C (a9 Γ src)))(h1:∀a,as=[a]->∃e,src=[e]/\PE X a (Cj C (ev Γ e)))(Cp:∀e∈as,noStar e=OP):PI X tg iter (E5 C ik (a9 Γ src)):=by
 unfold dN at h;split at h
 ·cases h;obtain⟨e,rfl,he⟩:=h1 _ rfl;exact zm g.K he
 ·rw[PF]at h;obtain⟨⟨x,bs⟩,hc,h⟩:=h;split at h
  ·rename_i hh;cases h;obtain⟨e1,hg,hl⟩:=hh
   dsimp only at e1 hg hl
   subst e1;obtain⟨p,q,rfl⟩:=dM hc;obtain⟨b,rfl⟩:=U8.mp hl;exact wH (di hg) (g.blt _ wV) (bB (Cp _ (by simp))) hL
  ·cases h
 ·rw[PF]at h;obtain⟨⟨x,bs⟩,hc,h⟩:=h;split at h
  ·rename_i hh;cases h;obtain⟨e1,hg,hl,ht⟩:=hh
   dsimp only at e1 hg hl
   subst e1;obtain⟨p,q,rfl⟩:=dM hc;obtain⟨b,rfl⟩:=U8.mp hl;cases tg with
   |Tuple es kx ps=>exact zo g.K (di hg) (g.blt _ wU) (bB (Cp _ (by simp))) hL
   |_=>cases ht
  ·cases h
 ·rw[PF]at h;obtain⟨a,hc,h⟩:=h;split at h
  ·rename_i ht;cases h;obtain⟨e,rfl,he⟩:=h1 _ rfl;obtain⟨x,p,b,bs,q,p2,q2,rfl,rfl,hl⟩:=nY hc;cases tg with
   |Tuple es kx ps=>exact zp rfl hl he
   |_=>cases ht
  ·cases h
 ·cases h
theorem PT.eqv(h:PT X e (Dh C m))(i:∀st Q,W m' st Q->W m st Q):PT X e (Dh C m'):=PT.weak h λσ H Q ⟨c0,e1,e2,ok,w⟩=>⟨c0,e1,e2,ok,i _ _ w⟩
theorem A_(g:Gd ck Γ C d X)(hL:PA X Cd (Dk C (a9 Γ es)))
  (h:(OX (x=f.name)&&simple f&&D4 X.env.scope x&&!Cd.isEmpty&&aB ck es X.N X.env.scope Cd)=OP):PE X (.Call (.Name x p) Cd [] pos) (Cj C (ev Γ (.bi f es))):=by
 simp only[OS,XJ,P4]at h;obtain⟨⟨⟨⟨rfl,h1⟩,h2⟩,h3⟩,h4⟩:=h;obtain⟨b1,b2,b3,b4⟩:=wQ f h1;have hS:=bZ h4;cases Cd with
 |nil=>cases h3
 |cons e0 D5 =>
  have st:=bB (env:=X.env) (es:=D5) (hS e0 (by simp));have sn:=(bt (pos:=pos) (env:=X.env) (es:=D5) λe he=>hS e (by simp[he])).1;rcases zC f h1 with hv|hv
  ·exact wz g.calm g.K g.room.gd g.u hv (di h2) (g.blt _ b2) (by rw[b1,hv]) b3 b4 hL st sn
  ·exact wA g.calm g.K g.room.gd g.u hv (di h2) (g.blt _ b2) (by rw[b1,hv]) b3 b4 hL st sn
theorem xR(g:Gd ck Γ C d X)(hL:PA X Cd (Dk C (a9 Γ es)))
  (h:(OX (x=f.kP)&&OX (y=f.fM)&&D4 X.env.scope x&&D4 X.env.scope y&&!Cd.isEmpty&&aB ck es X.N X.env.scope Cd)=OP):PE X (.Call (.Name x p) [.Call (.Name y p2) Cd [] pos2] [] pos) (Cj C (ev Γ (.FF f es))):=by
 simp only[OS,XJ,P4]at h;obtain⟨⟨⟨⟨⟨rfl,rfl⟩,h1⟩,h2⟩,h3⟩,h4⟩:=h;obtain⟨b1,b2⟩:=zD f;have hS:=bZ h4;cases Cd with
 |nil=>cases h3
 |cons e0 D5 =>
  have st:=bB (env:=X.env) (es:=D5) (hS e0 (by simp));have sn:=(bt (pos:=pos2) (env:=X.env) (es:=D5) λe he=>hS e (by simp[he])).1;exact wG g.calm g.K (di h1) (g.blt _ b1) (di h2) (g.blt _ b2) hL st sn
theorem xS(g:Gd ck Γ C d X)(ha:PE X o (Cj C (ev Γ a)))(hL:PA X Cd (Dk C (a9 Γ es)))
  (h:(OX (name=m.name)&&kU o&&(apos.endLine==Cc.line)&&!Cd.isEmpty&&OX (Cd.length<20)&&az ck a X.N X.env.scope o&&aB ck es X.N X.env.scope Cd)=OP):PE X (.Call (.Attribute o name apos) Cd [] Cc) (Cj C (ev Γ (.Fj m a es))):=by
 simp only[OS,XJ,P4]at h;obtain⟨⟨⟨⟨⟨⟨rfl,h1⟩,h2⟩,h3⟩,h4⟩,h5⟩,h6⟩:=h;have hS:=bZ h6;obtain⟨s1,s2⟩:=wR m;cases Cd with
 |nil=>cases h3
 |cons e0 D5 =>
  have st:=bB (env:=X.env) (es:=D5) (hS e0 (by simp));have sn:=(bt (pos:=Cc) (env:=X.env) (es:=D5) λe he=>hS e (by simp[he])).1;have sa:=(bt (pos:=Cc) (env:=X.env) (es:=e0::D5) hS).2;refine wD g.K s1 s2 ha hL (gZ h1) ?_ h2 st sn;rw[sa];have:(e0::D5).length+([]:List Se).length+(if ([]:List Se).isEmpty=OP then 0 else 1)<30:=by simp at h4 ⊢;omega
  simp only[XO this];rfl
theorem tT(g:Gd ck Γ C d X)(hL:PA X Cd (Dk C (a9 Γ es)))
  (h:(OX (x=f)&&OX (f∈ck.fns)&&D4 X.env.scope x&&bY x&&!Cd.isEmpty&&aB ck es X.N X.env.scope Cd)=OP):PE X (.Call (.Name x p) Cd [] pos) (Cj C (ev Γ (.call f es))):=by
 simp only[OS,XJ,P4]at h;obtain⟨⟨⟨⟨⟨rfl,h1⟩,h2⟩,h3⟩,h4⟩,h5⟩:=h;have hS:=bZ h5;obtain⟨np,fa,fd,ps,q1,q2,q3,q4,q5⟩:=(g.fns _ h1).ex;cases Cd with
 |nil=>cases h4
 |cons e0 D5 =>
  have st:=bB (env:=X.env) (es:=D5) (hS e0 (by simp));have sn:=(bt (pos:=pos) (env:=X.env) (es:=D5) λe he=>hS e (by simp[he])).1;exact tv g.P g.w g.K rfl q5 q1 g.room (di h2) q2 q3 q4 (bu h3).1 hL st sn
theorem zE(g:Gd ck Γ C d X)(hL:PA X Cd (Dk C (a9 Γ es)))
  (h:(OX (x=f)&&OX ((f,is)∈ck.DP)&&D4 X.env.scope x&&bY x&&!Cd.isEmpty&&aB ck es X.N X.env.scope Cd)=OP):PE X (.Call (.Name x p) Cd [] pos) (Cj C (ev Γ (.B' f es is))):=by
 simp only[OS,XJ,P4]at h;obtain⟨⟨⟨⟨⟨rfl,h1⟩,h2⟩,h3⟩,h4⟩,h5⟩:=h;have hS:=bZ h5;obtain⟨np,fa,fd,ps,q1,q2,q3,q4,q5⟩:=(g.DP _ h1).ex;cases Cd with
 |nil=>cases h4
 |cons e0 D5 =>
  have st:=bB (env:=X.env) (es:=D5) (hS e0 (by simp));have sn:=(bt (pos:=pos) (env:=X.env) (es:=D5) λe he=>hS e (by simp[he])).1;exact tN g.P g.w g.K rfl q5 q1 g.room (di h2) q2 q3 q4 (bu h3).1 (wM hL) st sn
theorem bU(h:(b&&aB k es N sc Cd)=OP):aB k es N sc Cd=OP:=(QM.mp h).2
mutual
theorem a_:∀(e:E) (X:Cx) (e':PR),Gd ck Γ C d X->az ck e X.N X.env.scope e'=OP->PE X e' (Cj C (ev Γ e))
 |.var i,X,e',g,h=>by
  simp only[az]at h;split at h
  ·simp only[OS,XJ]at h;obtain⟨h3,h4⟩:=bu h.2;exact pB h.1.1 (dO h.1.2) h3 h4
  ·cases h
 |.cst u,X,e',g,h=>by
  simp only[az]at h;split at h
  ·have:=bN h;subst this;exact fK rK λ_ _=>rfl
  ·have:=bN h;subst this;exact fK rM λ_ _=>rfl
  ·have:=bN h;subst this;exact fK xC λ_ _=>rfl
  ·have:=bN h;subst this;exact fK rL λ_ _=>rfl
  ·cases h
 |.Jp x u,X,e',g,h=>absurd h (by simp[az])
 |.bin op a b,X,e',g,h=>by
  simp only[az]at h;split at h
  ·simp only[OS,XJ]at h;obtain⟨⟨rfl,h1⟩,h2⟩:=h;exact wc g.K (a_ a X _ g h1) (a_ b X _ g h2)
  ·cases h
 |.cmp op a b,X,e',g,h=>by
  simp only[az]at h;obtain⟨a',Hm,b',p0,rfl,z1⟩:=iP h;have h:=z1;simp only[OS,XJ,P4]at h;obtain⟨⟨⟨rfl,h0⟩,h1⟩,h2⟩:=h;exact wd g.P g.w g.K g.u (a_ a X _ g h1) (a_ b X _ g h2) h0
 |.Ea o1 o2 a b c,X,e',g,h=>by
  simp only[az]at h;split at h
  ·simp only[OS,XJ,P4]at h;obtain⟨⟨⟨⟨⟨rfl,rfl⟩,h0⟩,h1⟩,h2⟩,h3⟩:=h;exact td g.P g.w g.K g.u (a_ a X _ g h1) (a_ b X _ g h2) (a_ c X _ g h3) h0
  ·cases h
 |.and es,X,e',g,h=>by
  simp only[az]at h;split at h
  ·exact tU es X _ g h
  ·cases h
 |.or es,X,e',g,h=>by
  simp only[az]at h;split at h
  ·exact xT es X _ g h
  ·cases h
 |.not a,X,e',g,h=>by
  simp only[az]at h;split at h
  ·exact wg (a_ a X _ g h)
  ·cases h
 |.neg a,X,e',g,h=>absurd h (by simp[az])
 |.bad,X,e',g,h=>λpins s σ H Q I ⟨_,_,_,_,w⟩=>(aq.mp w).elim
 |.pop i,X,e',g,h=>by
  simp only[az]at h;obtain⟨o,m,apos,as,Cc,rfl,z1⟩:=bF h;obtain⟨x,px,rfl,z2⟩:=av z1;simp only[OS,XJ,Rn]at z2;obtain⟨⟨⟨⟨⟨rfl,rfl⟩,h1⟩,h2⟩,h3⟩,h4⟩:=z2;obtain⟨q1,q2⟩:=bu h3;exact wK h1 (dO h2) q1 q2 h4 g.K
 |.DU i a,X,e',g,h=>by
  simp only[az]at h;obtain⟨o,m,apos,as,Cc,rfl,z1⟩:=bF h;obtain⟨x,px,rfl,z2⟩:=av z1;obtain⟨a',rfl,z3⟩:=bE z2;simp only[OS,XJ]at z3;obtain⟨⟨⟨⟨⟨⟨rfl,h1⟩,h2⟩,h3⟩,h4⟩,h5⟩,h6⟩:=z3;obtain⟨q1,q2⟩:=bu h3;have sa:=bt (pos:=Cc) (env:=X.env) (es:=[a']) λe he=>by rw[Pf.mp he];exact h5
  exact tL g.K h1 (dO h2) q1 q2 (a_ a X _ g h6) (by rw[sa.2];rfl) h4 (bB h5)
 |.B' f es is,X,e',g,h=>by
  simp only[az]at h;obtain⟨f',as,p0,rfl,z1⟩:=aK h;obtain⟨x,p1,rfl,z2⟩:=av z1;exact zE g (fO es X _ g (bU z2)) z2
 |.Jr i,X,e',g,h=>λpins s σ H Q I ⟨_,_,_,_,w⟩=>(aq.mp w).elim
 |.inD neg a i,X,e',g,h=>λpins s σ H Q I ⟨_,_,_,_,w⟩=>(aq.mp w).elim
 |.Jq i,X,e',g,h=>λpins s σ H Q I ⟨_,_,_,_,w⟩=>(aq.mp w).elim
 |.FG i a b,X,e',g,h=>λpins s σ H Q I ⟨_,_,_,_,w⟩=>(aq.mp w).elim
 |.Js ln a b,X,e',g,h=>λpins s σ H Q I ⟨_,_,_,_,w⟩=>(aq.mp w).elim
 |.fst es,X,e',g,h=>λpins s σ H Q I ⟨_,_,_,_,w⟩=>(aq.mp w).elim
 |.Er a T,X,e',g,h=>by
  simp only[az]at h;obtain⟨f',as,p0,rfl,z1⟩:=aK h;obtain⟨x,p1,rfl,z2⟩:=av z1;clear h z1;split at z2
  ·obtain⟨y,p2,rfl,z3⟩:=av z2;have h:=z3;simp only[OS,XJ]at h;obtain⟨⟨⟨⟨⟨rfl,rfl⟩,h1⟩,h2⟩,h3⟩,h4⟩:=h;exact pH g.K (di h1) (g.blt _ mC) (di h2) (g.blt _ (tS T)) (a_ a X _ g h4) (bB h3)
  ·cases z2
 |.ite c a b,X,e',g,h=>by
  simp only[az]at h;split at h
  ·simp only[OS]at h;exact wj (jq c X _ g h.1.1) (a_ a X _ g h.1.2) (a_ b X _ g h.2)
  ·cases h
 |.tup es,X,e',g,h=>by
  simp only[az]at h;split at h
  ·exact wt (fO es X _ g h)
  ·cases h
 |.lst es,X,e',g,h=>by
  simp only[az]at h;split at h
  ·exact wu (fO es X _ g h)
  ·cases h
 |.Du r,X,e',g,h=>by
  simp only[az]at h;split at h
  ·exact tu g.P g.w r
  ·cases h
 |.idx a b,X,e',g,h=>by
  simp only[az]at h;split at h
  ·simp only[OS]at h;exact pC g.K g.u (mB h.1.1) (a_ a X _ g h.1.2) (a_ b X _ g h.2)
  ·cases h
 |.EC a lo hi,X,e',g,h=>by
  simp only[az]at h;split at h
  ·simp only[OS]at h;exact wy g.K (a_ a X _ g h.1.1) (Ba lo X _ g h.1.2) (Ba hi X _ g h.2)
  ·cases h
 |.bi f es,X,e',g,h=>by
  simp only[az]at h;obtain⟨f',as,p0,rfl,z1⟩:=aK h;obtain⟨x,p1,rfl,z2⟩:=av z1;have h:=z2;exact A_ g (fO es X _ g (bU h)) h
 |.FF f es,X,e',g,h=>by
  simp only[az]at h;obtain⟨f',as,p0,rfl,z1⟩:=aK h;obtain⟨x,p1,rfl,z2⟩:=av z1;obtain⟨c,rfl,z3⟩:=bE z2;obtain⟨g',GF,p2,rfl,z4⟩:=aK z3;obtain⟨y,p3,rfl,z5⟩:=av z4;have h:=z5;exact xR g (fO es X _ g (bU h)) h
 |.Fj m a es,X,e',g,h=>by
  simp only[az]at h;obtain⟨o,name,apos,as,Cc,rfl,z1⟩:=bF h;have h:=z1;have h':=h;simp only[OS]at h';exact xS g (a_ a X _ g h'.1.2) (fO es X _ g (bU h)) h
 |.call f es,X,e',g,h=>by
  simp only[az]at h;obtain⟨f',as,p0,rfl,z1⟩:=aK h;obtain⟨x,p1,rfl,z2⟩:=av z1;have h:=z2;exact tT g (fO es X _ g (bU h)) h
 |.comp n t ik src cond e,X,e',g,h=>by
  simp only[az]at h;split at h
  ·rename_i elt tg iter ifs scope _;simp only[OS,XJ]at h;obtain⟨⟨⟨⟨⟨⟨⟨h1,h2⟩,h3⟩,h4⟩,h5⟩,h6⟩,h7⟩,h8⟩:=h;subst h1;have S:=sD (X:=X) rfl (jK _ _) h2;split at h5
   ·rename_i as has;have Cp:=bZ h5;have hI:PI X tg iter (E5 C ik (a9 Γ src)):=xQ g has (fO src X _ g h5) (λa e=>by
     subst e;cases src with
     |nil=>simp[aB]at h5
     |cons e1 CZ =>
      cases CZ with
      |nil =>
       simp only[aB,OS]at h5;exact⟨e1,rfl,a_ e1 X _ g h5.1.2⟩
      |cons _ _=>simp[aB]at h5) Cp
    exact tJ S g.calm hI (λD s H ex=>pN (fa:=OR) g.calm g.K S.nd (λz=>nomatch z) h3)
     (λD s H ex=>by
      cases ifs with
      |nil =>
       cases cond with
       |nil=>exact λpins s σ H Q I ⟨c0,e1,e2,ok,w⟩=>oS pins s σ H Q I (by subst e1 e2;rw[show aP Γ []=pure OP from rfl,aj]at w;exact w c0 rfl rfl ok (Nx.refl c0))
       |cons _ _=>simp[aB]at h7
      |cons c1 cs =>
       cases cs with
       |nil =>
        cases cond with
        |nil=>simp[aB]at h7
        |cons e1 CZ =>
         cases CZ with
         |nil =>
          simp only[aB,OS]at h7;exact oU (jq e1 (C6 X _ scope D s H ex) c1 (g.cx _ _ _ _ _ _) h7.1.2)
         |cons _ _=>simp[aB]at h7
       |cons _ _=>simp at h6)
     (λD s H ex=>a_ e (C6 X _ scope D s H ex) elt (g.cx _ _ _ _ _ _) h8) (oe h4)
   ·cases h5
  ·cases h
theorem fO:∀(es:List E) (X:Cx) (Cd:List PR),Gd ck Γ C d X->aB ck es X.N X.env.scope Cd=OP->PA X Cd (Dk C (a9 Γ es))
 |[],X,Cd,g,h=>by
  cases Cd with
  |nil=>exact wq
  |cons _ _=>simp[aB]at h
 |e::es,X,Cd,g,h=>by
  cases Cd with
  |nil=>simp[aB]at h
  |cons e' Cd =>
   simp only[aB,OS]at h;exact tm (a_ e X e' g h.1.2) (fO es X Cd g h.2) (bB h.1.1)
theorem Ba:∀(es:List E) (X:Cx) (o:Option PR),Gd ck Γ C d X->n_ ck es X.N X.env.scope o=OP->PO X o (tO C (GJ Γ es))
 |[],X,o,g,h=>by
  cases o with
  |none=>exact q9
  |some _=>simp[n_]at h
 |[e],X,o,g,h=>by
  cases o with
  |none=>simp[n_]at h
  |some e'=>simp only[n_]at h;exact q_ (a_ e X e' g h)
 |_::_::_,X,o,g,h=>by simp[n_]at h
theorem tU:∀(es:List E) (X:Cx) (Cd:List PR),Gd ck Γ C d X->aB ck es X.N X.env.scope Cd=OP->∀{pos},PE X (.BoolOp .And Cd pos) (Cj C (fI Γ es))
 |[],X,Cd,g,h,pos=>λpins s σ H Q I ⟨_,_,_,_,w⟩=>(aq.mp w).elim
 |[e],X,Cd,g,h,pos=>by
  cases Cd with
  |nil=>simp[aB]at h
  |cons e' Cd =>
   cases Cd with
   |nil=>simp only[aB,OS]at h;exact rN (a_ e X e' g h.1.2)
   |cons _ _=>simp[aB]at h
 |e::e1::es,X,Cd,g,h,pos=>by
  cases Cd with
  |nil=>simp[aB]at h
  |cons e' Cd =>
   have h':noStar e'=OP/\az ck e X.N X.env.scope e'=OP/\aB ck (e1::es) X.N X.env.scope Cd=OP:=by
    rw[aB]at h;simp only[OS]at h;exact⟨h.1.1,h.1.2,h.2⟩
   cases Cd with
   |nil=>have:=h'.2.2;simp[aB]at this
   |cons e2 FE=>exact snd_and (a_ e X e' g h'.2.1) (tU (e1::es) X _ g h'.2.2)
theorem xT:∀(es:List E) (X:Cx) (Cd:List PR),Gd ck Γ C d X->aB ck es X.N X.env.scope Cd=OP->∀{pos},PE X (.BoolOp .Or Cd pos) (Cj C (y6 Γ es))
 |[],X,Cd,g,h,pos=>λpins s σ H Q I ⟨_,_,_,_,w⟩=>(aq.mp w).elim
 |[e],X,Cd,g,h,pos=>by
  cases Cd with
  |nil=>simp[aB]at h
  |cons e' Cd =>
   cases Cd with
   |nil=>simp only[aB,OS]at h;exact rN (a_ e X e' g h.1.2)
   |cons _ _=>simp[aB]at h
 |e::e1::es,X,Cd,g,h,pos=>by
  cases Cd with
  |nil=>simp[aB]at h
  |cons e' Cd =>
   have h':noStar e'=OP/\az ck e X.N X.env.scope e'=OP/\aB ck (e1::es) X.N X.env.scope Cd=OP:=by
    rw[aB]at h;simp only[OS]at h;exact⟨h.1.1,h.1.2,h.2⟩
   cases Cd with
   |nil=>have:=h'.2.2;simp[aB]at this
   |cons e2 FE=>exact za (a_ e X e' g h'.2.1) (xT (e1::es) X _ g h'.2.2)
theorem jq:∀(e:E) (X:Cx) (e':PR),Gd ck Γ C d X->az ck e X.N X.env.scope e'=OP->PT X e' (Dh C (Cv Γ e))
 |.and es,X,e',g,h=>by
  simp only[az]at h;split at h
  ·exact(pO es X _ g h).pt
  ·cases h
 |.or es,X,e',g,h=>by
  simp only[az]at h;split at h
  ·exact(tV es X _ g h).pt
  ·cases h
 |.not a,X,e',g,h=>by
  simp only[az]at h;split at h
  ·exact wm (jq a X _ g h)
  ·cases h
 |.cmp op a b,X,e',g,h=>by
  simp only[az]at h;obtain⟨a',Hm,b',p0,rfl,z1⟩:=iP h;have h:=z1;simp only[OS,XJ,P4]at h;obtain⟨⟨⟨rfl,h0⟩,h1⟩,h2⟩:=h;exact we g.P g.w g.K g.u (a_ a X _ g h1) (a_ b X _ g h2) h0
 |.Ea o1 o2 a b c,X,e',g,h=>by
  simp only[az]at h;split at h
  ·simp only[OS,XJ,P4]at h;obtain⟨⟨⟨⟨⟨rfl,rfl⟩,h0⟩,h1⟩,h2⟩,h3⟩:=h;exact tf g.P g.w g.K g.u (a_ a X _ g h1) (a_ b X _ g h2) (a_ c X _ g h3) h0
  ·cases h
 |.var i,X,e',g,h=>by
  have hE:PE X e' (Cj C (ev Γ (.var i))):=by
   have h':=h;simp only[az]at h';split at h'
   ·simp only[OS,XJ]at h';obtain⟨h3,h4⟩:=bu h'.2;exact pB h'.1.1 (dO h'.1.2) h3 h4
   ·cases h'
  simp only[az]at h;split at h
  ·exact cJ hE g.K λ_=>rfl
  ·cases h
 |.idx a b,X,e',g,h=>by
  simp only[az]at h;split at h
  ·simp only[OS]at h;have hE:=pC (pos:=by assumption) g.K g.u (mB h.1.1) (a_ a X _ g h.1.2) (a_ b X _ g h.2);refine PT.eqv (cJ hE g.K λ_=>rfl) λst Q w=>?_;simp only[Cv,ae]at w ⊢;exact w
  ·cases h
 |.bi f es,X,e',g,h=>by
  simp only[az]at h;obtain⟨f',as,p0,rfl,z1⟩:=aK h;obtain⟨x,p1,rfl,z2⟩:=av z1;have h:=z2;refine PT.eqv (cJ (A_ g (fO es X _ g (bU h)) h) g.K λ_=>rfl) λst Q w=>?_;simp only[Cv,ev,ae]at w ⊢;exact w
 |.FF f es,X,e',g,h=>by
  simp only[az]at h;obtain⟨f',as,p0,rfl,z1⟩:=aK h;obtain⟨x,p1,rfl,z2⟩:=av z1;obtain⟨c,rfl,z3⟩:=bE z2;obtain⟨g',GF,p2,rfl,z4⟩:=aK z3;obtain⟨y,p3,rfl,z5⟩:=av z4;have h:=z5;refine PT.eqv (cJ (xR g (fO es X _ g (bU h)) h) g.K λ_=>rfl) λst Q w=>?_;simp only[Cv,ev,ae]at w ⊢;exact w
 |.Fj m a es,X,e',g,h=>by
  simp only[az]at h;obtain⟨o,name,apos,as,Cc,rfl,z1⟩:=bF h;have h:=z1;have h':=h;simp only[OS]at h';refine PT.eqv (cJ (xS g (a_ a X _ g h'.1.2) (fO es X _ g (bU h)) h) g.K λ_=>rfl) λst Q w=>?_;simp only[Cv,ev,ae]at w ⊢;exact w
 |.call f es,X,e',g,h=>by
  simp only[az]at h;obtain⟨f',as,p0,rfl,z1⟩:=aK h;obtain⟨x,p1,rfl,z2⟩:=av z1;have h:=z2;refine PT.eqv (cJ (tT g (fO es X _ g (bU h)) h) g.K λ_=>rfl) λst Q w=>?_;simp only[Cv,ev,ae]at w ⊢;exact w
 |.cst u,X,e',g,h=>by
  have go:∀{v:V},PE X e' (tC v)->(∀S H,Rep C S H u v)->(∀whole,isTrue e' X.env whole=(do let v <-whole;U1 e'.pos;RX [v] (Ww v)))->PT X e' (Dh C (Cv Γ (.cst u))):=λ{v} h1 h2 h3=>by
   refine PT.eqv (cJ (fK h1 h2) g.K h3) λst Q w=>?_;rw[ae,aj];exact w
  simp only[az]at h;split at h
  ·have:=bN h;subst this;exact go rK (λ_ _=>rfl) λ_=>rfl
  ·have:=bN h;subst this;exact go rM (λ_ _=>rfl) λ_=>rfl
  ·have:=bN h;subst this;exact go xC (λ_ _=>rfl) λ_=>rfl
  ·have:=bN h;subst this;exact go rL (λ_ _=>rfl) λ_=>rfl
  ·cases h
 |.fst es,X,e',g,h=>λpins s σ H Q I ⟨_,_,_,_,w⟩=>(aq.mp w).elim
 |.Jp x u,X,e',g,h=>λpins s σ H Q I ⟨_,_,_,_,w⟩=>(aq.mp w).elim
 |.neg a,X,e',g,h=>λpins s σ H Q I ⟨_,_,_,_,w⟩=>(aq.mp w).elim
 |.Er a T,X,e',g,h=>by
  simp only[az]at h;obtain⟨f',as,p0,rfl,z1⟩:=aK h;obtain⟨x,p1,rfl,z2⟩:=av z1;clear h z1;split at z2
  ·obtain⟨y,p2,rfl,z3⟩:=av z2;have h:=z3;simp only[OS,XJ]at h;obtain⟨⟨⟨⟨⟨rfl,rfl⟩,h1⟩,h2⟩,h3⟩,h4⟩:=h;refine PT.eqv (cJ (pH g.K (di h1) (g.blt _ mC) (di h2) (g.blt _ (tS T)) (a_ a X _ g h4) (bB h3)) g.K λ_=>rfl) λst Q w=>?_;simp only[Cv,ae]at w ⊢;refine W.mono w λx s1 w1=>?_;obtain⟨b,e,w2⟩:=bC.mp w1;exact bC.mpr ⟨b,e,aj.mpr (bC.mpr ⟨b,rfl,w2⟩)⟩
  ·cases z2
 |.bad,X,e',g,h=>λpins s σ H Q I ⟨_,_,_,_,w⟩=>(aq.mp w).elim
 |.pop i,X,e',g,h=>λpins s σ H Q I ⟨_,_,_,_,w⟩=>(aq.mp w).elim
 |.DU i a,X,e',g,h=>λpins s σ H Q I ⟨_,_,_,_,w⟩=>(aq.mp w).elim
 |.B' f es is,X,e',g,h=>λpins s σ H Q I ⟨_,_,_,_,w⟩=>(aq.mp w).elim
 |.inD neg a i,X,e',g,h=>λpins s σ H Q I ⟨_,_,_,_,w⟩=>(aq.mp w).elim
 |.Jq i,X,e',g,h=>λpins s σ H Q I ⟨_,_,_,_,w⟩=>(aq.mp w).elim
 |.Js ln a b,X,e',g,h=>λpins s σ H Q I ⟨_,_,_,_,w⟩=>(aq.mp w).elim
 |.Jr i,X,e',g,h=>λpins s σ H Q I ⟨_,_,_,_,w⟩=>(aq.mp w).elim
 |.FG i a b,X,e',g,h=>λpins s σ H Q I ⟨_,_,_,_,w⟩=>(aq.mp w).elim
 |.bin op a b,X,e',g,h=>λpins s σ H Q I ⟨_,_,_,_,w⟩=>(aq.mp w).elim
 |.ite c a b,X,e',g,h=>λpins s σ H Q I ⟨_,_,_,_,w⟩=>(aq.mp w).elim
 |.tup es,X,e',g,h=>λpins s σ H Q I ⟨_,_,_,_,w⟩=>(aq.mp w).elim
 |.lst es,X,e',g,h=>λpins s σ H Q I ⟨_,_,_,_,w⟩=>(aq.mp w).elim
 |.Du r,X,e',g,h=>λpins s σ H Q I ⟨_,_,_,_,w⟩=>(aq.mp w).elim
 |.EC a lo hi,X,e',g,h=>λpins s σ H Q I ⟨_,_,_,_,w⟩=>(aq.mp w).elim
 |.comp n t ik src cond e,X,e',g,h=>λpins s σ H Q I ⟨_,_,_,_,w⟩=>(aq.mp w).elim
theorem pO:∀(es:List E) (X:Cx) (Cd:List PR),Gd ck Γ C d X->aB ck es X.N X.env.scope Cd=OP->∀{pos},PW X (.BoolOp .And Cd pos) (Dh C (aP Γ es))
 |[],X,Cd,g,h,pos=>by
  cases Cd with
  |nil =>
   rintro wh pins s σ H Q I ⟨c0,rfl,rfl,ok,w⟩;rw[show aP Γ []=pure OP from rfl,aj]at w;exact XF ⟨c0.H,I,w c0 rfl rfl ok (Nx.refl c0)⟩
  |cons _ _=>simp[aB]at h
 |[e],X,Cd,g,h,pos=>by
  cases Cd with
  |nil=>simp[aB]at h
  |cons e' Cd =>
   cases Cd with
   |nil=>simp only[aB,OS]at h;exact vk (jq e X e' g h.1.2)
   |cons _ _=>simp[aB]at h
 |e::e1::es,X,Cd,g,h,pos=>by
  cases Cd with
  |nil=>simp[aB]at h
  |cons e' Cd =>
   have h':noStar e'=OP/\az ck e X.N X.env.scope e'=OP/\aB ck (e1::es) X.N X.env.scope Cd=OP:=by
    rw[aB]at h;simp only[OS]at h;exact⟨h.1.1,h.1.2,h.2⟩
   cases Cd with
   |nil=>have:=h'.2.2;simp[aB]at this
   |cons e2 FE=>exact wo (jq e X e' g h'.2.1) (pO (e1::es) X _ g h'.2.2)
theorem tV:∀(es:List E) (X:Cx) (Cd:List PR),Gd ck Γ C d X->aB ck es X.N X.env.scope Cd=OP->∀{pos},PW X (.BoolOp .Or Cd pos) (Dh C (dH Γ es))
 |[],X,Cd,g,h,pos=>by
  cases Cd with
  |nil =>
   rintro wh pins s σ H Q I ⟨c0,rfl,rfl,ok,w⟩;rw[show dH Γ []=pure OR from rfl,aj]at w;exact isTrue_or_nil ⟨c0.H,I,w c0 rfl rfl ok (Nx.refl c0)⟩
  |cons _ _=>simp[aB]at h
 |[e],X,Cd,g,h,pos=>by
  cases Cd with
  |nil=>simp[aB]at h
  |cons e' Cd =>
   cases Cd with
   |nil=>simp only[aB,OS]at h;exact yc (jq e X e' g h.1.2)
   |cons _ _=>simp[aB]at h
 |e::e1::es,X,Cd,g,h,pos=>by
  cases Cd with
  |nil=>simp[aB]at h
  |cons e' Cd =>
   have h':noStar e'=OP/\az ck e X.N X.env.scope e'=OP/\aB ck (e1::es) X.N X.env.scope Cd=OP:=by
    rw[aB]at h;simp only[OS]at h;exact⟨h.1.1,h.1.2,h.2⟩
   cases Cd with
   |nil=>have:=h'.2.2;simp[aB]at this
   |cons e2 FE=>exact zb (jq e X e' g h'.2.1) (tV (e1::es) X _ g h'.2.2)
end
end
def Iy(sc:Rg)(x:Str)(line:Nat):PR->Bool
 |.ListComp elt gens s pos=>OX (sc.names.lookup x=Od .local)&&(line==pos.line)&&!(s.names.any λ(n,k)=>n==x&&(k==.local||k==.cell))
 |_=>OR
def mD(s:RY)(k:PR->Bool):Bool:=match s with|.Expr e _=>k e|_=>OR
theorem eY(h:mD s k=OP):∃e p,s=.Expr e p/\k e=OP:=by
 unfold mD at h;split at h
 ·exact⟨_,_,rfl,h⟩
 ·cases h
def tW(s:RY)(k:PR->PR->Bool):Bool:=match s with|.Assign ts v _=>fN ts λt=>k t v|_=>OR
theorem og(h:tW s k=OP):∃t v p,s=.Assign [t] v p/\k t v=OP:=by
 unfold tW at h;split at h
 ·obtain⟨t,rfl,z1⟩:=bE h;exact⟨_,_,_,rfl,h⟩
 ·cases h
mutual
def dr(k:Ck):S->List Str->Rg->RY->Bool
 |.set i e,N,sc,s=>match s with
  |.Assign [.Name x p] v _=>OX (N[i]?=Od x)&&mw sc x&&OX (sc.kind=.function)&&az k e N sc v&&(cK v||Iy sc x p.line v||(match v with|.ListComp _ _ _ _=>OP|_=>OR))&&(match e with|.comp _ _ _ _ _ _=>OP|_=>cK v)
  |_=>OR
 |.FH is e,N,sc,s=>match s with
  |.Assign [.Tuple es kk p] v _=>Hl OP N sc OP is (.Tuple es kk p)&&cK v&&zA v&&az k e N sc v
  |_=>OR
 |.put i a b,N,sc,s=>tW s λt b'=>tR t λo a'=>bK o λx=>OX (N[i]?=Od x)&&kW sc x&&bY x&&cK b'&&gY a'&&az k a N sc a'&&az k b N sc b'
 |.app i e,N,sc,s=>mD s λc=>eX c λo m apos as Cc=>bK o λx=>fN as λa=>OX (m="append")&&OX (N[i]?=Od x)&&kW sc x&&bY x&&(apos.endLine==Cc.line)&&noStar a&&az k e N sc a
 |.ext i e,N,sc,s=>mD s λc=>eX c λo m apos as Cc=>bK o λx=>fN as λa=>OX (m="extend")&&OX (N[i]?=Od x)&&kW sc x&&bY x&&(apos.endLine==Cc.line)&&noStar a&&az k e N sc a
 |.bad,_,_,_=>OP
 |.newD _,_,_,_=>OR
 |.aug _ _ _ _,_,_,_=>OR
 |.Jt _,_,_,_=>OR
 |.putD _ _ _,_,_,_=>OR
 |.FI _ _ _,_,_,_=>OR
 |.exp e,N,sc,s=>match s with
  |.Expr e' _=>cK e'&&az k e N sc e'
  |_=>OR
 |.ret e,N,sc,s=>match s with
  |.Return (Od e') _=>az k e N sc e'
  |_=>OR
 |.Eb,N,sc,s=>match s with
  |.Return OQ _=>OP
  |_=>OR
 |.ite c a b,N,sc,s=>match s with
  |.If c' a' b' _=>az k c N sc c'&&cE k a N sc a'&&cE k b N sc b'
  |_=>OR
 |.Cw t is ik src body,N,sc,s=>match s with
  |.For tg iter Et [] _=>Hl t N sc OP is tg&&nX iter&&(match dN sc tg ik iter with
    |some as=>aB k src N sc as
    |none=>OR)&&cE k body N sc Et
  |_=>OR
 |.EZ c body,N,sc,s=>match s with
  |.While c' Et [] _=>az k c N sc c'&&cE k body N sc Et
  |_=>OR
 |.brk,_,_,s=>match s with
  |.Break _=>OP
  |_=>OR
 |.cnt,_,_,s=>match s with
  |.Continue _=>OP
  |_=>OR
 |.Jv i,N,sc,s=>mD s λe=>eX e λo m apos as Cc=>bK o λx=>as.isEmpty&&OX (m="clear")&&OX (N[i]?=Od x)&&kW sc x&&bY x&&(apos.endLine==Cc.line)
 |.DK _,_,_,_=>OR
 |.Ju,_,_,s=>match s with
  |.Pass _=>OP
  |_=>OR
def cE(k:Ck):List S->List Str->Rg->List RY->Bool
 |[],_,_,D9=>D9.isEmpty
 |s::ss,N,sc,D9=>match D9 with
  |s'::D9=>dr k s N sc s'&&cE k ss N sc D9
  |[]=>OR
end
section
variable{ck:Ck}{Γ:Tab}{C:Ct}{d:Nat}{X:Cx}
theorem tX(h:mw sc x=OP):Loc sc x:=by
 unfold mw at h;simp only[Qz,XJ]at h;exact h
theorem iR(h:cK v=OP):Sw v t line env=pure OR:=by
 cases v<;>first|rfl|cases h
theorem pP(h:cK v=OP):SS [t] v line env=pure OR:=by
 rw[SS];exact iR h
theorem wW(h:gY i=OP):∀v,SU (.Subscript o i p) env v=(do
   let ov <-RX [v] (QK o env)
   let iv <-RX [v,ov] (QK i env)
   U1 p
   RX [v,ov,iv] (VL ov iv v)
   release [v,ov,iv] []):=by
 intro v;cases i<;>first|rfl|cases h
structure Gs(ck:Ck)(Γ:Tab)(C:Ct)(d:Nat)(X:Cx):Prop where
 gd:Gd ck Γ C d X
 nd:X.N.Nodup
 fn:∀x,X.fn x=OP
 po:UN (O9 X.prog X.w) X.A X.env X.xe
 kd:X.env.scope.kind=.function
theorem pQ(g:Gd ck Γ C d X)(h:(match dN X.env.scope tg ik iter with|some as=>aB ck src X.N X.env.scope as|none=>OR)=OP):PI X tg iter (E5 C ik (a9 Γ src)):=by
 split at h
 ·rename_i as has;exact xQ g has (fO src X _ g h) (λa e=>by
   subst e;cases src with
   |nil=>simp[aB]at h
   |cons e1 CZ =>
    cases CZ with
    |nil =>
     simp only[aB,OS]at h;exact⟨e1,rfl,a_ e1 X _ g h.1.2⟩
    |cons _ _=>simp[aB]at h) (bZ h)
 ·cases h
theorem iS{pos p Eu:Pos}(hk:X.env.scope.kind=.function):Sw (.ListComp elt gens s pos) (Od (.Name x p)) Eu.line X.env=pure (Iy X.env.scope x p.line (.ListComp elt gens s pos)):=by
 have hb:X.env.blockKind=.function:=by
  unfold Env.blockKind;rw[hk];rfl
 show(pure (X.env.blockKind==.function&&X.env.kindOf x==Od .local&&p.line==pos.line&&!(s.names.any λ(n,k)=>n==x&&(k==.local||k==.cell))):Sem Bool)=_;rw[hb];unfold Iy;congr 1
 have:(X.env.kindOf x==Od NameKind.local)=OX (X.env.scope.names.lookup x=Od .local):=by
  unfold Env.kindOf;rw[RA];simp
 rw[this];rfl
theorem zF{src cond:List E}(G:Gs ck Γ C d X)(hi:X.N[i]?=Od x)(hx:mw X.env.scope x=OP)
  (h:az ck (.comp n t ik src cond e) X.N X.env.scope (.ListComp elt [⟨tg,iter,ifs,0⟩] scope pos)=OP) (ns:Nat->Bool) (Dw:∀j,ns j=OP->j≠i) :
  L2.PS X (.Assign [.Name x p] (.ListComp elt [⟨tg,iter,ifs,0⟩] scope pos) Eu) (C2 C ns (ev Γ (.comp n t ik src cond e) >>= λr=>dq i r >>= λ_=>pure .nx)):=by
 have g:=G.gd;have hE:=a_ (.comp n t ik src cond e) X _ g h;cases F0:Iy X.env.scope x p.line (.ListComp elt [⟨tg,iter,ifs,0⟩] scope pos) with
 |false=>exact xN Dw G.nd hi (tX hx) (.inl (G.fn x)) hE (by rw[iS G.kd,F0])
 |true =>
  have hl:X.env.scope.names.lookup x=Od .local:=by
   simp only[Iy,OS,XJ]at F0;exact F0.1.1
  simp only[az,OS,XJ]at h;obtain⟨⟨⟨⟨⟨⟨⟨h1,h2⟩,h3⟩,h4⟩,h5⟩,h6⟩,h7⟩,h8⟩:=h;subst h1;have S:=sD (X:=X) rfl (jK _ _) h2;exact zw Dw S g.calm G.nd hi hl (pQ g h5) (λD s H ex=>pN (fa:=OR) g.calm g.K S.nd (λz=>nomatch z) h3)
   (λD s H ex=>by
    cases ifs with
    |nil =>
     cases cond with
     |nil=>exact λpins s σ H Q I ⟨c0,e1,e2,ok,w⟩=>oS pins s σ H Q I (by subst e1 e2;rw[show aP Γ []=pure OP from rfl,aj]at w;exact w c0 rfl rfl ok (Nx.refl c0))
     |cons _ _=>simp[aB]at h7
    |cons c1 cs =>
     cases cs with
     |nil =>
      cases cond with
      |nil=>simp[aB]at h7
      |cons e1 CZ =>
       cases CZ with
       |nil =>
        simp only[aB,OS]at h7;exact oU (jq e1 (C6 X _ scope D s H ex) c1 (g.cx _ _ _ _ _ _) h7.1.2)
       |cons _ _=>simp[aB]at h7
     |cons _ _=>simp at h6)
   (λD s H ex=>a_ e (C6 X _ scope D s H ex) elt (g.cx _ _ _ _ _ _) h8) (by rw[iS G.kd,F0]) (oe h4)
mutual
theorem B9:∀(s:S) (X:Cx) (s':RY),Gs ck Γ C d X->dr ck s X.N X.env.scope s'=OP->L2.PS X s' (C2 C (F_ s) (exec Γ s))
 |.set i e,X,s',G,h=>by
  simp only[dr]at h;split at h
  ·rename_i x p v _;simp only[OS,XJ]at h;obtain⟨⟨⟨⟨⟨h1,h2⟩,h3⟩,h4⟩,h5⟩,h6⟩:=h;have Dw:∀j,F_ (.set i e) j=OP->j≠i:=λj hj=>by simpa[F_] using hj
   by_cases hc:cK v=OP
   ·exact xN Dw G.nd h1 (tX h2) (.inl (G.fn x)) (a_ e X v G.gd h4) (iR hc)
   ·cases e with
    |comp n t ik src cond e =>
     have K1:=h4;simp only[az]at K1;split at K1
     ·exact zF G h1 h2 h4 _ Dw
     ·cases K1
    |_=>exact absurd h6 hc
  ·cases h
 |.FH is e,X,s',G,h=>by
  simp only[dr]at h;split at h
  ·simp only[OS]at h;obtain⟨⟨⟨h1,h2⟩,h3⟩,h4⟩:=h;rename_i es kk p v _;refine zx (λj hj=>by simpa[F_] using hj) (a_ e X v G.gd h4) (pN (fa:=OP) G.gd.calm G.gd.K G.nd (λ_=>G.fn) h1) (pP h2) ?_ rfl;cases v<;>first|rfl|cases h3
  ·cases h
 |.put i a b,X,s',G,h=>by
  simp only[dr]at h;obtain⟨t,v,p,rfl,z1⟩:=og h;obtain⟨o,a',p1,rfl,z2⟩:=n9 z1;obtain⟨x,px,rfl,z3⟩:=av z2;simp only[OS,XJ]at z3;obtain⟨⟨⟨⟨⟨⟨h1,h2⟩,h3⟩,h4⟩,h5⟩,h6⟩,h7⟩:=z3;obtain⟨q1,q2⟩:=bu h3;exact A6 G.gd.P G.gd.w G.gd.K G.gd.u h1 (dO h2) q1 q2 (a_ b X _ G.gd h7) (a_ a X _ G.gd h6) (pP h4) rfl (wW h5)
 |.app i e,X,s',G,h=>by
  simp only[dr]at h;obtain⟨c,p0,rfl,z1⟩:=eY h;obtain⟨o,m,apos,as,Cc,rfl,z2⟩:=bF z1;obtain⟨x,px,rfl,z3⟩:=av z2;obtain⟨a,rfl,z4⟩:=bE z3;simp only[OS,XJ]at z4;obtain⟨⟨⟨⟨⟨⟨rfl,h1⟩,h2⟩,h3⟩,h4⟩,h5⟩,h6⟩:=z4;obtain⟨q1,q2⟩:=bu h3;have st:=bB (env:=X.env) (es:=[]) h5;have sa:=(bt (pos:=Cc) (env:=X.env) (es:=[a]) λe he=>by simp at he;subst he;exact h5).2;refine A4 G.gd.K h1 (dO h2) q1 q2 (a_ e X _ G.gd h6) ?_ h4 st;rw[sa];rfl
 |.ext i e,X,s',G,h=>by
  simp only[dr]at h;obtain⟨c,p0,rfl,z1⟩:=eY h;obtain⟨o,m,apos,as,Cc,rfl,z2⟩:=bF z1;obtain⟨x,px,rfl,z3⟩:=av z2;obtain⟨a,rfl,z4⟩:=bE z3;simp only[OS,XJ]at z4;obtain⟨⟨⟨⟨⟨⟨rfl,h1⟩,h2⟩,h3⟩,h4⟩,h5⟩,h6⟩:=z4;obtain⟨q1,q2⟩:=bu h3;have st:=bB (env:=X.env) (es:=[]) h5;have sa:=(bt (pos:=Cc) (env:=X.env) (es:=[a]) λe he=>by simp at he;subst he;exact h5).2;refine A5 G.gd.K h1 (dO h2) q1 q2 (a_ e X _ G.gd h6) ?_ h4 st;rw[sa];rfl
 |.bad,X,s',G,h=>λpins sh σ H D I ⟨_,_,_,_,w⟩=>(aq.mp w).elim
 |.aug sub i a e,X,s',G,h=>λpins sh σ H D I ⟨_,_,_,_,w⟩=>(aq.mp w).elim
 |.Jt i,X,s',G,h=>λpins sh σ H D I ⟨_,_,_,_,w⟩=>(aq.mp w).elim
 |.newD i,X,s',G,h=>λpins sh σ H D I ⟨_,_,_,_,w⟩=>(aq.mp w).elim
 |.putD i a b,X,s',G,h=>λpins sh σ H D I ⟨_,_,_,_,w⟩=>(aq.mp w).elim
 |.FI i a e,X,s',G,h=>λpins sh σ H D I ⟨_,_,_,_,w⟩=>(aq.mp w).elim
 |.exp e,X,s',G,h=>by
  simp only[dr]at h;split at h
  ·simp only[OS]at h;exact AW (a_ e X _ G.gd h.2) (iR h.1)
  ·cases h
 |.ret e,X,s',G,h=>by
  simp only[dr]at h;split at h
  ·exact AX (a_ e X _ G.gd h)
  ·cases h
 |.Eb,X,s',G,h=>by
  simp only[dr]at h;split at h
  ·exact zu
  ·cases h
 |.ite c a b,X,s',G,h=>by
  simp only[dr]at h;split at h
  ·simp only[OS]at h;have ha:=iT a X _ G h.1.2;have hb:=iT b X _ G h.2;exact AY (jq c X _ G.gd h.1.1) (C9.weak ha λD σ H z=>kS (λj hj=>by simp only[F_,OS]at hj;exact hj.1) z) (C9.weak hb λD σ H z=>kS (λj hj=>by simp only[F_,OS]at hj;exact hj.2) z)
  ·cases h
 |.Cw t is ik src body,X,s',G,h=>by
  simp only[dr]at h;split at h
  ·rename_i tg iter Et _;rw[OS,OS,OS]at h;exact A0 G.po G.gd.calm (pQ G.gd h.1.2) (pN (fa:=OP) G.gd.calm G.gd.K G.nd (λ_=>G.fn) h.1.1.1) (iT body X _ G h.2) (oe h.1.1.2) λj hj=>by simpa[F_] using hj
  ·cases h
 |.EZ c body,X,s',G,h=>by
  simp only[dr]at h;split at h
  ·simp only[OS]at h;exact AZ G.po (jq c X _ G.gd h.1) (iT body X _ G h.2)
  ·cases h
 |.brk,X,s',G,h=>by
  simp only[dr]at h;split at h
  ·exact AS
  ·cases h
 |.cnt,X,s',G,h=>by
  simp only[dr]at h;split at h
  ·exact AU
  ·cases h
 |.Jv i,X,s',G,h=>by
  simp only[dr]at h;obtain⟨e,p,rfl,z0⟩:=eY h;obtain⟨o,m,apos,as,Cc,rfl,z1⟩:=bF z0;obtain⟨x,px,rfl,z2⟩:=av z1;simp only[OS,XJ,Rn]at z2;obtain⟨⟨⟨⟨⟨rfl,rfl⟩,h1⟩,h2⟩,h3⟩,h4⟩:=z2;obtain⟨q1,q2⟩:=bu h3;exact A7 G.gd.K h1 (dO h2) q1 q2 h4
 |.DK is,X,s',G,h=>by simp[dr]at h
 |.Ju,X,s',G,h=>by
  simp only[dr]at h;split at h
  ·exact AV
  ·cases h
theorem iT:∀(ss:List S) (X:Cx) (D9:List RY),Gs ck Γ C d X->cE ck ss X.N X.env.scope D9=OP->C9 X D9 (C2 C (Ec ss) (execs Γ ss))
 |[],X,D9,G,h=>by
  cases D9 with
  |nil=>exact AR
  |cons _ _=>simp[cE]at h
 |s::ss,X,D9,G,h=>by
  cases D9 with
  |nil=>simp[cE]at h
  |cons s' D9 =>
   simp only[cE,OS]at h;have h1:=B9 s X s' G h.1;have h2:=iT ss X D9 G h.2;exact zt (PS.weak h1 λD σ H z=>kS (λj hj=>by simp only[Ec,OS]at hj;exact hj.1) z) (C9.weak h2 λD σ H z=>kS (λj hj=>by simp only[Ec,OS]at hj;exact hj.2) z)
end
end
section
variable{ck:Ck}{Γ:Tab}{d:Nat}{P:PZ}{w:Qj}{K:PySem.W.Frag}{mg:Str->Option OW}{base:QA}
theorem gs{n i:Nat}(h:(start us n)[i]?=Od (Od (k,u))):us[i]?=Od u/\k=if CI u=OP then .loc else .any:=by
 unfold start at h;by_cases hi:i<us.length
 ·rw[PX (by simpa using hi),Pa]at h;rw[Pn hi]at h ⊢;simp only[SQ,R6,Uy]at h;obtain⟨h1,h2⟩:=h;subst h2;exact⟨rfl,h1.symm⟩
 ·rw[PB (by simp;omega),Qy]at h;split at h<;>cases h
theorem b7{i:Nat}(h:vs[i]?=Od v):(L2.start N vs)[i]?=Od (Od v):=by
 unfold L2.start;have hi:i<vs.length:=(O6.mp h).1;rw[PX (by simpa using hi),Pa,h];rfl
theorem tY(hP:∀a,Pr a->D3 H a)(h:ai (Fm P w K H Pr) Pr H us vs)(hn:N.length=n):Ok (Fm P w K H Pr) ⟨λ_=>False,H,L2.start N vs,start us n,λ_=>[]⟩:=by
 have GU:∀(j:Nat) (u:U),(start us n)[j]?≠Od (Od (.Ci,u)):=λj u e=>by
  have:=(gs e).2;split at this<;>cases this
 refine⟨λa o e _=>e,λa z=>z.elim,λa z=>⟨hP a z,λz=>z⟩,λa z=>z.elim,?_,λi k u e=>?_,λi j k k' u u' r hk CL e1 e2 e3 e4=>?_,⟨λj u r e _=>(GU j u e).elim,λi j a ⟨u,_,e,_⟩=>(GU i u e).elim,λj a ⟨u,_,e,_⟩=>(GU j u e).elim⟩⟩
 ·have:=h.len;simp[start,L2.start,hn];omega
 ·obtain⟨e1,e2⟩:=gs e;obtain⟨v,ev,rep⟩:=h.get e1;refine⟨v,b7 ev,?_⟩;subst e2;by_cases hu:CI u=OP
  ·rw[XI hu];exact Rep.CI hu rep
  ·rw[XM hu];exact Rep.mv (.up λa z=>.inl z) rep
 ·obtain⟨_,e5⟩:=gs e1;subst e5;split at hk<;>cases hk
theorem kY(h:ei Γ fn us=Od (.ok (k,u))):us.length=fn.np/\((k=.own\/k=.loc\/k=.any)/\(∃st',execs Γ fn.body (start us fn.ns)=Od (.ok (.rt k u),st'))\/(k=.loc/\u=.Ce/\∃st',execs Γ fn.body (start us fn.ns)=Od (.ok .nx,st'))):=by
 unfold ei at h;split at h
 ·rename_i hl;refine⟨hl,?_⟩;split at h
  ·rename_i e;cases h;exact .inl ⟨.inl rfl,_,e⟩
  ·rename_i e;cases h;exact .inl ⟨.inr (.inl rfl),_,e⟩
  ·rename_i e;cases h;exact .inl ⟨.inr (.inr rfl),_,e⟩
  ·rename_i e;cases h;exact .inr ⟨rfl,rfl,_,e⟩
  ·cases h
  ·cases h
 ·cases h
theorem xU{st:RY}(F:FY K fn.name qual st f fd)(S:cI N ps (aE st))(hN:N.length=fn.ns)(DZ:ps.length=fn.np)
  (GV:cE ck fn.body N (aE st) (bQ st)=OP) (blt:∀x∈bh,mg x=OQ) (fns:∀g∈ck.fns,wN P w K mg base d (Γ g) g)
  (EK:∀p∈ck.gl,∃val v,mg p.1=Od val/\RelV v val/\∀(C:Ct) S H,Rep C S H p.2 v) (DP:∀p∈ck.DP,wO P w K mg base d (Γ p.1) p.1 p.2):ig P w K mg base EE (d+1) f fd ps (spT P w K (ei Γ fn) fn.np):=by
 refine F.ok S (λvs H Q E h=>h.1.trans DZ.symm) (λC_ A outer s H vs Q E hr h=>?_);obtain⟨hl,us,k,u,Pr,GW,hk,N0,rep,cont⟩:=h;have Hj:=hr.un;have G:Gs ck Γ (Fm P w K H Pr) d (lC EE P w K mg base N qual (aE st) f C_ A outer s H E).G5 :=
  ⟨⟨rfl,rfl,rfl,by show(A.deeper (Td qual (aE st) s.heap.objs.size f C_)).units+60<Qr;omega,rfl,hr,blt,fns,λp hp=>let ⟨val,v,q1,q2,q3⟩:=EK p hp;⟨val,v,q1,q2,q3 _⟩,DP⟩,S.nd,λ_=>rfl,Vj,S.kind⟩
 refine⟨_,iT fn.body _ _ G GV,⟨λ_=>False,H,L2.start N vs,start us fn.ns,λ_=>[]⟩,rfl,rfl,tY N0 rep hN,?_⟩;obtain⟨_,K2⟩:=kY GW;have mk:∀(c:Cf),Ok (Fm P w K H Pr) c->∀v,zr (Fm P w K H Pr) c k u v->Back (Fm P w K H Pr) H c.H c.S k u v:=λc ok v r=>by
  refine⟨λa o e=>ok.same a o e λz=>z,λa z=>ok.D0 a z,λe=>?_,λe=>?_,λe=>?_⟩
  ·subst e;obtain⟨r0,e,h1,h2,h3,h4⟩:=r;exact⟨r0,e,h1,h2,h4⟩
  ·subst e;exact r
  ·subst e;exact r
 rcases K2 with⟨_,st',e⟩|⟨rfl,rfl,st',e⟩
 ·exact⟨_,st',e,λc ec ok n kp v r=>cont v c.H c.S (mk c ok v r)⟩
 ·exact⟨_,st',e,λc ec ok n kp=>cont .Ce c.H c.S (mk c ok .Ce rfl)⟩
theorem eZ(h:(bS is us n)[i]?=Od (Od (k,u))):us[i]?=Od u/\k=if i∈is then .io else if CI u=OP then .loc else .any:=by
 unfold bS at h;by_cases hi:i<us.length
 ·rw[PX (by simpa using hi),Pa,Vo]at h;rw[Pn hi]at h ⊢;simp only[SQ,R6,Uy,T2]at h;obtain⟨h1,h2⟩:=h;subst h2;exact⟨rfl,h1.symm⟩
 ·rw[PB (by simp;omega),Qy]at h;split at h<;>cases h
theorem rl(a:zy C C.H₀ is us vs)(hn:N.length=n):Ok C ⟨λ_=>False,C.H₀,L2.start N vs,bS is us n,λ_=>[]⟩:=by
 have GU:∀(j:Nat) (u:U),(bS is us n)[j]?≠Od (Od (.Ci,u)):=λj u e=>by
  have:=(eZ e).2;split at this
  ·cases this
  ·split at this<;>cases this
 have rt:∀(j:Nat) (k:Kd) (u:U),k.root=OP->(bS is us n)[j]?=Od (Od (k,u))->j∈is/\us[j]?=Od u:=λj k u hk e=>by
  obtain⟨e1,e2⟩:=eZ e;refine⟨?_,e1⟩;by_cases z:j∈is
  ·exact z
  ·rw[XM z]at e2;subst e2;split at hk<;>cases hk
 refine⟨λa o e _=>e,λa z=>z.elim,λx z=>a.par x z,λx z=>⟨a.LU x z,a.LU x z⟩,?_,λi k u e=>?_,λi j k k' u u' r hk CL e1 e2 e3 e4=>?_,⟨λj u r e _=>(GU j u e).elim,λi j a ⟨u,_,e,_⟩=>(GU i u e).elim,λj a ⟨u,_,e,_⟩=>(GU j u e).elim⟩⟩
 ·have:=a.len;simp[bS,L2.start,hn];omega
 ·obtain⟨e1,e2⟩:=eZ e;by_cases z:i∈is
  ·rw[XI z]at e2;subst e2;obtain⟨r,b1,b2,b3⟩:=a.io i u z e1;exact⟨_,b7 b1,r,rfl,λz=>z,λz=>(a.par r z).2 b2,b2,b3⟩
  ·rw[XM z]at e2;obtain⟨v,b1,b2⟩:=a.any i u z e1;refine⟨v,b7 b1,?_⟩;subst e2;by_cases hu:CI u=OP
   ·rw[XI hu];exact Rep.CI hu b2
   ·rw[XM hu];exact Rep.mv (.up λa z=>.inl z) b2
 ·obtain⟨i1,i2⟩:=rt i k u hk e1;obtain⟨j1,j2⟩:=rt j k' u' CL e2;obtain⟨r1,b1,_⟩:=a.io i u i1 i2;obtain⟨r2,b2,_⟩:=a.io j u' j1 j2;rw[b7 b1]at e3;rw[b7 b2]at e4;cases e3;cases e4;exact a.inj i j _ i1 j1 b1 b2
theorem pR:∀{is:List Nat}{st:ax}{ws:List U},GK is st=Od ws->ws.length=is.length/\∀(n i:Nat),is[n]?=Od i->∃w,ws[n]?=Od w/\st[i]?=Od (Od (.io,w))
 |[],_,_,h=>by cases h;exact⟨rfl,λn i e=>by simp at e⟩
 |i::is,st,ws,h=>by
  unfold GK at h;split at h
  ·rename_i u hu;rw[O1]at h;obtain⟨LK,h,rfl⟩:=h;obtain⟨a,b⟩:=pR h;refine⟨by simp[a],λn j e=>?_⟩;cases n with
   |zero=>simp at e;subst e;exact⟨u,rfl,hu⟩
   |succ n=>obtain⟨w,g1,g2⟩:=b n j (by simpa using e);exact⟨w,by simpa using g1,g2⟩
  ·cases h
theorem pS(h:ez Γ fn is body us=Od (.ok r)):us.length=fn.np/\∃f st k u ws,execs Γ body (bS is us fn.ns)=Od (.ok f,st)/\Jw f=Od (k,u)/\GK is st=Od ws/\r=(k,.tup (u::ws)):=by
 unfold ez at h;split at h
 ·rename_i hl;refine⟨hl,?_⟩;split at h
  ·rename_i f st e;obtain⟨⟨k,u⟩,h1,h⟩:=PF.mp h;rw[O1]at h;obtain⟨ws,h2,h3⟩:=h;cases h3;exact⟨f,st,k,u,ws,e,h1,h2,rfl⟩
  ·cases h
 ·cases h
theorem zG{st:RY}(F:FY K fn.name qual st f fd)(S:cI N ps (aE st))(hN:N.length=fn.ns)(DZ:ps.length=fn.np)(Dw:∀i∈is,Ec body i=OP)
  (GV:cE ck body N (aE st) (bQ st)=OP) (blt:∀x∈bh,mg x=OQ) (fns:∀g∈ck.fns,wN P w K mg base d (Γ g) g)
  (EK:∀p∈ck.gl,∃val v,mg p.1=Od val/\RelV v val/\∀(C:Ct) S H,Rep C S H p.2 v) (DP:∀p∈ck.DP,wO P w K mg base d (Γ p.1) p.1 p.2):ig P w K mg base EE (d+1) f fd ps (JB P w K (ez Γ fn is body) fn.np is):=by
 refine F.ok S (λvs H Q E h=>h.1.trans DZ.symm) (λC_ A outer s H vs Q E hr h=>?_);obtain⟨hl,us,k,u,ws,Pr,IO,GW,hk,arg,cont⟩:=h;have Hj:=hr.un;have G:Gs ck Γ (E8 P w K H Pr IO) d (lC EE P w K mg base N qual (aE st) f C_ A outer s H E).G5 :=
  ⟨⟨rfl,rfl,rfl,by show(A.deeper (Td qual (aE st) s.heap.objs.size f C_)).units+60<Qr;omega,rfl,hr,blt,fns,λp hp=>let ⟨val,v,q1,q2,q3⟩:=EK p hp;⟨val,v,q1,q2,q3 _⟩,DP⟩,S.nd,λ_=>rfl,Vj,S.kind⟩
 refine⟨_,iT body _ _ G GV,⟨λ_=>False,H,L2.start N vs,bS is us fn.ns,λ_=>[]⟩,rfl,rfl,rl (C:=E8 P w K H Pr IO) arg hN,?_⟩;obtain⟨_,fl,st',k',u',LK,e,e1,e2,e3⟩:=pS GW;cases e3;obtain⟨l1,l2⟩:=pR e2;have mk:∀(c:Cf),c.st=st'->Ok (E8 P w K H Pr IO) c->Kept (Ec body) ⟨λ_=>False,H,L2.start N vs,bS is us fn.ns,λ_=>[]⟩ c->∀v,zr (E8 P w K H Pr IO) c k u v->xP (E8 P w K H Pr IO) H c.H c.S is vs ws k u v:=λc ec ok kp v r=>by
  refine⟨ok.same,λa z=>ok.D0 a z,λe=>?_,λe=>?_,l1,λn i r w g1 g2 g3=>?_⟩
  ·subst e;obtain⟨r0,e,h1,h2,h3,h4⟩:=r;exact⟨r0,e,h1,h2,h4⟩
  ·subst e;exact r
  ·obtain⟨w',z1,z2⟩:=l2 n i g1;rw[g3]at z1;cases z1;rw[<-ec]at z2;obtain⟨v',y1,r',y2,_,_,_,y3⟩:=ok.sl i _ _ z2;have hi:i∈is:=P' g1;rw[kp.1 i (Dw i hi)]at y1;rw[show(L2.start N vs)[i]?=Od (Od (.ref r)) from b7 g2]at y1;cases y1;cases y2;exact y3
 refine⟨fl,st',e,λc ec ok n kp=>?_⟩;cases fl with
 |nx=>cases e1;exact cont .Ce c.H c.S (mk c ec ok kp .Ce rfl)
 |rt k0 u0=>cases k0<;>first|(cases e1;done)|(cases e1;exact λv r=>cont v c.H c.S (mk c ec ok kp v r))
 |_=>cases e1
def Fn.bd(fn:Fn):List S:=match fn.io with|some (_,b)=>b|none=>fn.body
def JD(fn:Fn):Bool:=match fn.io with|some (is,b)=>is.all λi=>Ec b i|none=>OP
def JE(ck:Ck)(Pg:List Fn):Bool:=ck.fns.all (λg=>Pg.any λfn=>OX (fn.name=g)&&fn.io.isNone)&&ck.DP.all λp=>Pg.any λfn=>OX (fn.name=p.1)&&OX (fn.io.map (·.1)=Od p.2)
structure Ld(ck:Ck)(K:PySem.W.Frag)(mg:Str->Option OW)(fn:Fn):Prop where
 ex:∃(qual:Str) (st:RY) (f:O8) (fd:SG) (N ps:List Str),FY K fn.name qual st f fd/\mg fn.name=Od (.ref f)/\Binds K fd ps []/\cI N ps (aE st)/\N.length=fn.ns/\ps.length=fn.np/\cE ck fn.bd N (aE st) (bQ st)=OP/\JD fn=OP
theorem wX{Pg:List Fn}(Dj:(Pg.map (·.name)).Nodup)(h:fn∈Pg):Pg.find? (λg=>OX (g.name=fn.name))=Od fn:=by
 induction Pg with
 |nil=>cases h
 |cons g Pg ih =>
  rw[O5,Qe]at Dj;rcases O_.mp h with rfl|h
  ·simp
  ·rw[Q_];have:OX (g.name=fn.name)=OR:=by
    apply XN;intro z;exact Dj.1 (z▸List.mem_map_of_mem h)
   rw[this];exact ih Dj.2 h
theorem oh(Dj:(Pg.map (·.name)).Nodup)(h:fn∈Pg):CJ Pg (d+1) fn.name=gh (CJ Pg d) fn:=by
 funext us
 show(match Pg.find? λg=>OX (g.name=fn.name) with|some fn=>gh (CJ Pg d) fn us|none=>OQ)=_;rw[wX Dj h]
theorem jL(h:fn.io=OQ):gh Γ fn=ei Γ fn:=by funext us;unfold gh;rw[h]
theorem rm(h:fn.io=Od (is,b)):gh Γ fn=ez Γ fn is b:=by funext us;unfold gh;rw[h]
theorem pT(Dj:(Pg.map (·.name)).Nodup)(Fp:JE ck Pg=OP)(blt:∀x∈bh,mg x=OQ)(EK:∀p∈ck.gl,∃val v,mg p.1=Od val/\RelV v val/\∀(C:Ct) S H,Rep C S H p.2 v)
  (ld:∀fn∈Pg,Ld ck K mg fn):∀d,(∀g∈ck.fns,wN P w K mg base d (CJ Pg d g) g)/\∀p∈ck.DP,wO P w K mg base d (CJ Pg d p.1) p.1 p.2:=by
 simp only[JE,OS,Pe,V3,XJ]at Fp;intro d;induction d with
 |zero =>
  refine⟨λg hg=>?_,λp hp=>?_⟩
  ·obtain⟨fn,D6,rfl,_⟩:=Fp.1 g hg;obtain⟨qual,st,f,fd,N,ps,F,hm,hb,S,hN,DZ,_⟩:=(ld fn D6).ex;exact⟨fn.np,f,fd,ps,⟨λvs H Q E h=>h.1.trans DZ.symm,λA outer s H args us vs Q E _ _ _ _ h=>by obtain⟨_,us,k,u,_,e,_⟩:=h;cases e⟩,hm,F.kp,hb,λus k u e=>by cases e⟩
  ·obtain⟨fn,D6,e,_⟩:=Fp.2 p hp;obtain⟨qual,st,f,fd,N,ps,F,hm,hb,S,hN,DZ,_⟩:=(ld fn D6).ex;exact⟨fn.np,f,fd,ps,⟨λvs H Q E h=>h.1.trans DZ.symm,λA outer s H args us vs Q E _ _ _ _ h=>by obtain⟨_,us,k,u,_,_,_,e,_⟩:=h;cases e⟩,e▸hm,F.kp,hb,λus k e=>by cases e⟩
 |succ d ih =>
  refine⟨λg hg=>?_,λp hp=>?_⟩
  ·obtain⟨fn,D6,rfl,C7⟩:=Fp.1 g hg;rw[Uz]at C7;obtain⟨qual,st,f,fd,N,ps,F,hm,hb,S,hN,DZ,hc,_⟩:=(ld fn D6).ex;rw[oh Dj D6,jL C7];rw[show fn.bd=fn.body by unfold Fn.bd;rw[C7]]at hc;refine⟨fn.np,f,fd,ps,xU F S hN DZ hc blt ih.1 EK ih.2,hm,F.kp,hb,λus k u e=>?_⟩;obtain⟨h1,h2⟩:=kY e;refine⟨?_,h1⟩;rcases h2 with⟨z,_⟩|⟨z,_⟩
   ·exact z
   ·exact .inr (.inl z)
  ·obtain⟨fn,D6,e,C7⟩:=Fp.2 p hp;rw[O1]at C7;obtain⟨⟨is,b⟩,C7,G'⟩:=C7;obtain⟨x,y⟩:=p
   dsimp only at e G'
   subst e G';obtain⟨qual,st,f,fd,N,ps,F,hm,hb,S,hN,DZ,hc,hB⟩:=(ld fn D6).ex;rw[oh Dj D6,rm C7];rw[show fn.bd=b by unfold Fn.bd;rw[C7]]at hc;unfold JD at hB;rw[C7]at hB;exact⟨fn.np,f,fd,ps,zG F S hN DZ (Pe.mp hB) hc blt ih.1 EK ih.2,hm,F.kp,hb,λus r e=>(pS e).1⟩
end
def oi(ns:List Int):U:=.lst (ns.map .int)
theorem jM{S:O8->Prop}:∀(ns:List Int),ai C S H (ns.map .int) (ns.map V.int)
 |[]=>rfl
 |n::ns=>⟨_,_,rfl,rfl,jM ns⟩
theorem oj(h:CF C.K H a (ns.map V.int)):Rep C (D3 H) H (oi ns) (.ref a):=by
 refine⟨a,_,rfl,?_,jM ns⟩;rcases h with(h|⟨o,h⟩)|h
 ·exact .inl ⟨⟨_,h⟩,.inl h⟩
 ·exact .inl ⟨⟨_,h⟩,.inr ⟨o,h⟩⟩
 ·exact .inr h
theorem mE:∀{l:List α},(∀a∈l,f a=g a)->l.filterMap f=l.filterMap g
 |[],_=>rfl
 |a::l,h=>by rw[QS,QS,h a (by simp),mE λb hb=>h b (by simp[hb])]
theorem pU:∀(l:List Str) (us:List OW),l.Nodup->us.length=l.length->l.filterMap (λn=>((l.zip us).lookup n).map (n,·))=l.zip us
 |[],_,_,_=>rfl
 |a::l,[],_,h=>nomatch h
 |a::l,u::us,nd,h=>by
  rw[Qe]at nd;have ih:=pU l us nd.2 (by simpa using h);simp only[RB,QS,PJ,beq_self_eq_true,SQ];congr 1
  conv=>rhs;rw[<-ih]
  refine mE λn hn=>?_;have:(n==a)=OR:=by
   rw[beq_eq_false_iff_ne];rintro rfl;exact nd.1 hn
  rw[this]
theorem tZ(l:List Str)(us:List OW)(h:us.length=l.length):l.filter (λn=>((l.zip us).lookup n).isNone)=[]:=by
 rw[List.filter_eq_nil_iff];intro n hn;induction l generalizing us with
 |nil=>cases hn
 |cons a l ih =>
  cases us with
  |nil=>cases h
  |cons u us =>
   simp only[RB,PJ];cases e:n==a with
   |true=>simp
   |false =>
    rcases O_.mp hn with rfl|hn
    ·simp at e
    ·exact ih us (by simpa using h) hn
theorem t5{kV doc pm C_ ct:OW}(nd:(as.map (·.arg)).Nodup)(hl:us.length=(as.map (·.arg)).length):
  V7 (PySem.W.fnOf x q ⟨[],as,OQ,[],[],OQ,[]⟩ body scope .none kV doc pm an C_ ct) ⟨us,[]⟩=pure ((as.map (·.arg)).zip us):=by
 have h1:=pU _ us nd hl;have h2:=tZ _ us hl;have hs:UJ Pu=pure OQ:=rfl;simp only[V7,PySem.W.fnOf,Q1,PH,Qn,hs,pure_bind,TU,SW,Nat.sub_zero,List.drop_nil,List.zip_nil_right,List.forIn_nil,h1];rw[XM (by simp[hl])];rw[OY,Q0 (by simp),h2];rfl
structure Me where
 fn:Fn
 i:Nat
 N:List Str
 a:O8
 c:O8
 m:OW
 cr:Obj
def Me.fd(top:Nat->RY)(m:Me):SG:=PySem.W.fnOf m.fn.name m.fn.name (dX (top m.i)) (bQ (top m.i)) (aE (top m.i)) .none .none .none m.m OQ (.ref m.c) .none
def Me.fo(top:Nat->RY)(m:Me):Obj:=⟨.type "function",OQ,.func (m.fd top),#[]⟩
def adr(ms:List Me):List O8:=3::ms.flatMap λm=>[m.c,m.a]
def Ee(top:Nat->RY)(g:Obj)(ms:List Me):PySem.W.Frag:=(3,g)::ms.flatMap λm=>[(m.c,m.cr),(m.a,m.fo top)]
theorem pV(top:Nat->RY)(g:Obj)(ms:List Me):adr ms=(Ee top g ms).map (·.1):=by
 unfold adr Ee;rw[O5,List.map_flatMap];rfl
def zH(v:Option (Option OW))(a:O8):Bool:=match v with|some (Od (.ref b))=>OX (b=a)|_=>OR
theorem wY(h:zH v a=OP):v=Od (Od (.ref a)):=by
 unfold zH at h;split at h
 ·rw[of_decide_eq_true h]
 ·cases h
def nn(o:Option (Option OW)):Bool:=match o with|some OQ=>OP|_=>OR
theorem Bb(h:nn o=OP):o=Od OQ:=by
 unfold nn at h;split at h
 ·rfl
 ·cases h
def Bc(p:Arguments)(ps:List Str):Bool:=p.posonlyargs.isEmpty&&p.vararg.isNone&&p.kwonlyargs.isEmpty&&p.kw_defaults.isEmpty&&p.kwarg.isNone&&p.defaults.isEmpty&&OX (p.args.map (·.arg)=ps)
def LZ(N:List Str)(np:Nat)(sc:Rg):Bool:=OX (sc.kind=.function)&&OX (sc.isCoroutine=OR)&&OX (sc.isGenerator=OR)&&decide N.Nodup&&(N.take np).all (mw sc)&&sc.names.all (λy=>OX (y.2≠.free))
def L0(ck:Ck)(top:Nat->RY)(K:PySem.W.Frag)(m:Me):Bool:=PySem.W.codeIn K (.ref m.c) m.fn.name&&PySem.W.keepIn K (.ref m.a)&&zH (PySem.W.nsIn K Qc m.fn.name) m.a&&Bc (dX (top m.i)) (m.N.take m.fn.np) &&
 LZ m.N m.fn.np (aE (top m.i))&&OX (m.N.length=m.fn.ns)&&OX (m.fn.np<=m.fn.ns)&&(cE ck m.fn.bd m.N (aE (top m.i)) (bQ (top m.i))&&JD m.fn)
def L3(K:PySem.W.Frag)(p:Str×U):Bool:=match p.2,PySem.W.nsIn K Qc p.1 with
 |.int i,Od (Od (.int j _))=>OX (i=j)
 |.str i,Od (Od (.str j _))=>OX (i=j)
 |_,_=>OR
def Ga(ck:Ck)(top:Nat->RY)(K:PySem.W.Frag)(ms:List Me):Bool:=ms.all (L0 ck top K)&&bh.all (λy=>nn (PySem.W.nsIn K Qc y))&&ck.gl.all (L3 K)&&OX (K.map (·.1)).Nodup
theorem Bd{K:PySem.W.Frag}(nd:(K.map (·.1)).Nodup)(h:(a,o)∈K):K.lookup a=Od o:=by
 induction K with
 |nil=>cases h
 |cons p K ih =>
  rw[O5,Qe]at nd;rw[PJ];rcases O_.mp h with rfl|h
  ·simp
  ·have:(a==p.1)=OR:=by
    rw[beq_eq_false_iff_ne];rintro rfl;exact nd.1 (Qk.mpr ⟨_,h,rfl⟩)
   rw[this];exact ih nd.2 h
section
theorem xV(hm:Ga ck top (Ee top g ms) ms=OP)(h:m∈ms):FY (Ee top g ms) m.fn.name m.fn.name (top m.i) m.a (m.fd top)/\PySem.W.nsIn (Ee top g ms) Qc m.fn.name=Od (Od (.ref m.a)) /\
  (∀us:List OW,us.length=(m.N.take m.fn.np).length->V7 (m.fd top) ⟨us,[]⟩=pure ((m.N.take m.fn.np).zip us))/\cI m.N (m.N.take m.fn.np) (aE (top m.i))/\m.N.length=m.fn.ns/\(m.N.take m.fn.np).length=m.fn.np/\(cE ck m.fn.bd m.N (aE (top m.i)) (bQ (top m.i))=OP/\JD m.fn=OP):=by
 simp only[Ga,OS,XJ]at hm;have z:=Pe.mp hm.1.1.1 m h;simp only[L0,OS,XJ]at z;obtain⟨⟨⟨⟨⟨⟨⟨z1,z2⟩,z3⟩,z4⟩,z5⟩,z6⟩,z7⟩,z8⟩:=z;simp only[LZ,OS,XJ]at z5;obtain⟨⟨⟨⟨⟨s1,s2⟩,s3⟩,s4⟩,s5⟩,s6⟩:=z5;have N1:(Ee top g ms).lookup m.a=Od (m.fo top):=Bd hm.2 (O_.mpr (.inr (List.mem_flatMap.mpr ⟨m,h,by simp⟩)));have hl:(m.N.take m.fn.np).length=m.fn.np:=by rw[Qa];omega
 refine⟨yC N1 z1 z2,wY z3,λus hu=>?_,⟨s1,s2,s3,s4,by rw[hl],λx hx=>?_,λy hy=>?_⟩,z6,hl,z8⟩
 ·unfold Me.fd;revert z4;cases dX (top m.i) with
  |mk po as va ko kd kw df =>
   intro z4;simp only[Bc,OS,Rn,Uz,XJ]at z4;obtain⟨⟨⟨⟨⟨⟨rfl,rfl⟩,rfl⟩,rfl⟩,rfl⟩,rfl⟩,e⟩:=z4;rw[<-e]at hu ⊢;exact t5 (by rw[e];exact(VW _ _).nodup s4) hu
 ·have:=Pe.mp s5 x hx;simpa[mw] using this
 ·have:=Pe.mp s6 y hy;simpa using this
theorem Be(hm:Ga ck top (Ee top g ms) ms=OP)(X:(Ee top g ms).In h)(G:h.Ns Qc mg)(hi:m∈ms):Ld ck (Ee top g ms) mg m.fn :=
 let ⟨a,b,c,d,e,f,k⟩:=xV hm hi
 ⟨_,_,_,_,_,_,a,PySem.W.mg_of X G b,.all c,d,e,f,k⟩
theorem zI(hm:Ga ck top (Ee top g ms) ms=OP)(X:(Ee top g ms).In h)(G:h.Ns Qc mg):∀p∈ck.gl,∃val v,mg p.1=Od val/\RelV v val/\∀(C:Ct) S H,Rep C S H p.2 v:=by
 intro p hp;simp only[Ga,OS,XJ]at hm;have z:=Pe.mp hm.1.2 p hp;unfold L3 at z;split at z
 ·rename_i i j k e1 e2;obtain rfl:=of_decide_eq_true z;exact⟨_,.int i,PySem.W.mg_of X G e2,⟨_,rfl⟩,λ_ _ _=>by rw[e1];rfl⟩
 ·rename_i i j k e1 e2;obtain rfl:=of_decide_eq_true z;exact⟨_,.str i,PySem.W.mg_of X G e2,⟨_,rfl⟩,λ_ _ _=>by rw[e1];rfl⟩
 ·cases z
end
theorem walk{l:PySem.W.OpenLaw}{K:VP->PySem.W.Frag}
  (hn:l.most=Od 63) (Gp:d.params.defaults=[]) (hr:d_ (dp+1) Ta) (hY:∀(w:Qj) (h:QA),YP w h->(K w.params).In h)
  (Dj:(Pg.map (·.name)).Nodup) (Fp:JE ck Pg=OP) (C7:fn.io=OQ) (D6:fn∈Pg) (E9:fn.name=d.name)
  (F:∀(w:Qj) (mg:Str->Option OW) (fa:O8) (h:QA),(K w.params).In h->h.Ns Qc mg->mg d.name=Od (.ref fa) ->
   (∀y∈bh,mg y=OQ)/\(∀p∈ck.gl,∃val v,mg p.1=Od val/\RelV v val/\∀(C:Ct) S H,Rep C S H p.2 v)/\(∀g∈Pg,Ld ck (K w.params) mg g) /\
   ∃(qual:Str) (st:RY) (fd:SG) (N:List Str),FY (K w.params) fn.name qual st fa fd/\cI N [x] (aE st)/\N.length=fn.ns/\1=fn.np/\cE ck fn.body N (aE st) (bQ st)=OP/\∀(s:O7) (u:OW),VS s fd ⟨[u],[]⟩ [(x,u)])
  (T:∀ns:List Int,ns.length<=63->CJ Pg (dp+1) fn.name [oi ns]=Od (.ok (.loc,.bl OP))) :
  PySem.W.WalkO q loose XP YP l.row.toRowW d [] (λf vs=>PySem.call f vs) :=
 L2.vK (n:=63) (k:=dp+1) (x:=x) (CX:=λ_=>EE) (sp:=λw=>spT l.prog w (K w.params) (ei (CJ Pg dp) fn) fn.np) hn (by decide) Gp hr hY
  (λw mg fa h KX G HE=>by
   obtain⟨blt,EK,ld,qual,st,fd,N,F1,S,hN,DZ,hc,hb⟩:=F w mg fa h KX G HE;exact⟨fd,hb,λbase _ _=>xU F1 S hN DZ hc blt (pT Dj Fp blt EK ld dp).1 EK (pT Dj Fp blt EK ld dp).2⟩)
  (λw H a ns hl _ hS=>by
   have t:=T ns hl;rw[oh Dj D6,jL C7]at t;have N2:fn.np=1:=(kY t).1.symm;exact⟨N2.symm,[oi ns],.loc,.bl OP,D3 H,t,.inr (.inl rfl),λ_ z=>z,⟨_,_,rfl,oj hS,rfl⟩,λv H' S' b=>b.loc rfl⟩)
  λ_ _ _ _ _ z=>z
theorem walk2{l:PySem.W.OpenLaw}{g:VP->Obj}
  (hn:l.most=Od 63) (Gp:d.params.defaults=[]) (hr:d_ (dp+1) Ta) (hP:ms.map (·.fn)=Pg) (Dj:(Pg.map (·.name)).Nodup) (Fp:JE ck Pg=OP) (C7:m.fn.io=OQ) (hm:m∈ms) (E9:m.fn.name=d.name) (hx:m.N.take m.fn.np=[x])
  (ok:∀P,Ga ck top (Ee top (g P) ms) ms=OP) (T:∀ns:List Int,ns.length<=63->CJ Pg (dp+1) m.fn.name [oi ns]=Od (.ok (.loc,.bl OP))) :
  PySem.W.WalkO q loose XP (PySem.W.kHook (λP=>Ee top (g P) ms) (adr ms) λP=>pV top (g P) ms).says l.row.toRowW d [] (λf vs=>PySem.call f vs) :=
 walk hn Gp hr (λw h Y=>PySem.W.kIn_of Y) Dj Fp C7 (hP▸Qk.mpr ⟨m,hm,rfl⟩) E9 (λw mg fa h X G Fo=>by
  have hk:=ok w.params;obtain⟨a,b,c,e,f,k,n⟩:=xV hk hm;rw[<-E9,PySem.W.mg_of X G b]at Fo;cases Fo;rw[hx]at c e k;refine⟨λy hy=>PySem.W.mg_none_of X G (Bb ?_),zI hk X G,λy hy=>?_,_,_,_,_,a,e,f,k,by have:=n.1;rw[show m.fn.bd=m.fn.body by unfold Fn.bd;rw[C7]]at this;exact this,λs u=>.of_eq (c [u] rfl)⟩
  ·simp only[Ga,OS]at hk;exact Pe.mp hk.1.1.2 y hy
  ·rw[<-hP]at hy;obtain⟨m',h1,rfl⟩:=Qk.mp hy;exact Be hk X G h1) T
def co(n:Str)(k l np:Nat)(r s:O8)(x y z:OW)(a b t:Nat):Obj:=⟨.type "code",OQ,.fields #[.str n k,.str n (k+1),.str "/claim/cut.py" (k+2),.int l 0,.int np 0,.int 0 0,.int 0 0,.int 3 0,.ref r,.bool OP,.int t 0,.ref s,.none,x,y,z,.int a 0,.int l 0,.str "/claim/cut.py" b],#[]⟩
def ge(P:VP)(x:Str)(k:Nat)(v:OW):DictEntry:=⟨PyData.keyHash P x,.str x k,v⟩
end TM
namespace TM
open PySem L2
section
def Run(m:M α)(st:ax)(a:α)(st':ax):Prop:=m st=Od (.ok a,st')
theorem aa(h1:Run m st a st1)(h2:Run (f a) st1 b st2):Run (m >>= f) st b st2:=by
 show M.bind m f st=_;unfold M.bind;rw[show m st=_ from h1];exact h2
theorem bb:Run (pure a:M α) st a st:=rfl
theorem cq(h:o=Od a):Run (M.Cu o) st a st:=by subst h;rfl
theorem aI(h:aU rs st):Run (ar rs) st () st:=by show ar rs st=_;unfold ar;rw[XI h]
def kv(i:Nat)(k:Kd):Kd:=if k.root=OP then .bor i else k
theorem dP(h:st[i]?=Od (Od (k,u)))(hk:k≠.Ci:=by intro z;cases z):Run (dG i) st (kv i k,u) st:=by
 show dG i st=_;unfold dG;rw[h];cases k<;>first|rfl|exact absurd rfl hk
theorem ab(h:st[i]?=Od (Od (.loc,u))):Run (ev Γ (.var i)) st (.loc,u) st:=dP h
theorem bx(h:st[i]?=Od (Od (.any,u))):Run (ev Γ (.var i)) st (.any,u) st:=dP h
theorem aM(h:st[i]?=Od (Od (.own,u))):Run (ev Γ (.var i)) st (.bor i,u) st:=dP h
theorem ah:Run (ev Γ (.cst u)) st (.loc,u) st:=rfl
theorem aX(h1:Run (ev Γ a) st x st1)(h2:Run (ev Γ b) st1 y st2)(h3:aU [x,y] st2)(h4:E1 op x y=Od r):Run (ev Γ (.bin op a b)) st r st2 :=
 aa h1 (aa h2 (aa (aI h3) (cq h4)))
theorem fP(h1:Run (ev Γ a) st x st1)(h2:Run (ev Γ b) st1 y st2)(h3:aU [x,y] st2)(h4:bg op x.2 y.2=Od c):Run (ev Γ (.cmp op a b)) st (.loc,.bl c) st2 :=
 aa h1 (aa h2 (aa (aI h3) (aa (cq h4) bb)))
theorem aJ(h1:Run (ev Γ a) st x st1)(h2:Run (ev Γ b) st1 y st2)(h3:aU [x,y] st2)(h4:dm x y.2=Od r):Run (ev Γ (.idx a b)) st r st2 :=
 aa h1 (aa h2 (aa (aI h3) (cq h4)))
theorem pW:Run (GJ Γ []) st OQ st:=rfl
theorem jN(h:Run (ev Γ e) st (k,.int i) st1):Run (GJ Γ [e]) st (Od i) st1:=aa h rfl
theorem mF(h1:Run (ev Γ a) st x st1)(h2:Run (GJ Γ lo) st1 l st2)(h3:Run (GJ Γ hi) st2 h CY)(h4:aU [x] CY)(h5:l_ x l h=Od r):Run (ev Γ (.EC a lo hi)) st r CY :=
 aa h1 (aa h2 (aa h3 (aa (aI h4) (cq h5))))
theorem ak:Run (a9 Γ []) st [] st:=rfl
theorem af(h1:Run (ev Γ e) st r st1)(h2:Run (a9 Γ es) st1 rs st2):Run (a9 Γ (e::es)) st (r::rs) st2:=aa h1 (aa h2 bb)
theorem cu(h1:Run (a9 Γ es) st rs st1)(h2:aU rs st1)(h3:DO f rs=Od r):Run (ev Γ (.bi f es)) st r st1:=aa h1 (aa (aI h2) (cq h3))
theorem Bg(h1:Run (a9 Γ es) st rs st1)(h2:aU rs st1)(h3:nN f rs=Od r):Run (ev Γ (.FF f es)) st r st1:=aa h1 (aa (aI h2) (cq h3))
theorem t6(h0:Run (ev Γ a) st x st1)(h1:Run (a9 Γ es) st1 rs st2)(h2:aU (x::rs) st2)(h3:iJ m x.2 rs=Od r):Run (ev Γ (.Fj m a es)) st r st2:=aa h0 (aa h1 (aa (aI h2) (cq h3)))
theorem pX(h:Γ f us=Od (.ok r))(hr:isAny r.1=OR):Run (iK Γ f us) st r st:=by
 obtain⟨k,u⟩:=r;show iK Γ f us st=_;unfold iK;rw[h];cases k<;>first|rfl|cases hr
theorem dQ(h1:Run (a9 Γ es) st rs st1)(h2:aU rs st1)(h3:Γ f (rs.map (·.2))=Od (.ok r))(hr:isAny r.1=OR:=by exact rfl):Run (ev Γ (.call f es)) st r st1:=aa h1 (aa (aI h2) (pX h3 hr))
theorem fQ(h1:Run (a9 Γ es) st rs st1)(h2:aU rs st1)(h3:Run (cp rs) st1 us st2)(h4:us.length<=OV):Run (ev Γ (.tup es)) st (.loc,.tup us) st2:=by
 refine aa h1 (aa (aI h2) (aa h3 ?_));rw[XI h4];exact bb
theorem gH(h1:Run (a9 Γ es) st rs st1)(h2:aU rs st1)(h3:Run (cp rs) st1 us st2)(h4:us.length<=OV):Run (ev Γ (.lst es)) st (.own,.lst us) st2:=by
 refine aa h1 (aa (aI h2) (aa h3 ?_));rw[XI h4];exact bb
theorem om:Run (ev Γ (.Du r)) st (.own,if r=OP then .Dt [] else .CU [] []) st:=rfl
theorem aG:Run (lift (.loc,u)) st u st:=rfl
theorem pY(h:CI u=OP):Run (lift (.any,u)) st u st:=by
 show(if CI u=OP then(pure u:M U) else M.fail) st=_;rw[XI h];rfl
theorem aZ:Run (cp []) st [] st:=rfl
theorem aA(h1:Run (lift r) st u st1)(h2:Run (cp rs) st1 us st2):Run (cp (r::rs)) st (u::us) st2:=aa h1 (aa h2 bb)
theorem zJ(h1:Run (Cv Γ c) st OP st1)(h2:Run (ev Γ a) st1 r st2):Run (ev Γ (.ite c a b)) st r st2:=aa h1 h2
theorem zK(h1:Run (Cv Γ c) st OR st1)(h2:Run (ev Γ b) st1 r st2):Run (ev Γ (.ite c a b)) st r st2:=aa h1 h2
theorem t7(h:Run (ev Γ e) st r st1):Run (fI Γ [e]) st r st1:=h
theorem zL(h:Run (ev Γ e) st (k,.bl p) st1)(h2:if p=OP then Run (fI Γ (e2::es)) st1 r st2 else st2=st1/\r=(.loc,.bl OR)):Run (fI Γ (e::e2::es)) st r st2:=by
 refine aa h ?_;cases p with
 |true=>exact h2
 |false=>obtain⟨rfl,rfl⟩:=h2;exact bb
theorem xW(h:Run (fI Γ es) st r st1):Run (ev Γ (.and es)) st r st1:=h
theorem aS(h1:Run (ev Γ a) st x st1)(h2:Run (ev Γ b) st1 y st2)(h3:aU [x,y] st2)(h4:bg op x.2 y.2=Od c):Run (Cv Γ (.cmp op a b)) st c st2:=aa h1 (aa h2 (aa (aI h3) (cq h4)))
theorem jO(h:Run (Cv Γ a) st c st1):Run (Cv Γ (.not a)) st (!c) st1:=aa h bb
theorem iU(h:Run (aP Γ es) st c st1):Run (Cv Γ (.and es)) st c st1:=h
theorem wZ(h:Run (dH Γ es) st c st1):Run (Cv Γ (.or es)) st c st1:=h
theorem gI:Run (aP Γ []) st OP st:=rfl
theorem e_(h:Run (Cv Γ e) st c st1):Run (aP Γ [e]) st c st1:=h
theorem iV(h:Run (Cv Γ e) st OP st1)(h2:Run (aP Γ (e2::es)) st1 c st2):Run (aP Γ (e::e2::es)) st c st2:=aa h h2
theorem oo(h:Run (Cv Γ e) st OR st1):Run (aP Γ (e::e2::es)) st OR st1:=aa h bb
theorem pZ(h:Run (Cv Γ e) st c st1):Run (dH Γ [e]) st c st1:=h
theorem Bh(h:Run (Cv Γ e) st OP st1):Run (dH Γ (e::e2::es)) st OP st1:=aa h bb
theorem p5(h:Run (Cv Γ e) st OR st1)(h2:Run (dH Γ (e2::es)) st1 c st2):Run (dH Γ (e::e2::es)) st c st2:=aa h h2
theorem cy:Run (dq i (.own,u)) st () (st.set i (Od (.own,u))):=rfl
theorem aD:Run (dq i (.loc,u)) st () (st.set i (Od (.loc,u))):=rfl
theorem iW:Run (dq i (.any,u)) st () (st.set i (Od (.any,u))):=rfl
theorem Bi(h1:Run (ev Γ e) st r st1)(h2:Run (dq i r) st1 () st2):Run (exec Γ (.set i e)) st .nx st2:=aa h1 (aa h2 bb)
theorem Bj(h0:∃k' Es,st[i]?=Od (Od (k',.lst Es))/\k'≠.Ci)(h1:Run (ev Γ e) st r st1)(h2:Run (lift r) st1 u st2)(h3:st2[i]?=Od (Od (k,.lst us)))(hk:k.root=OP)(hl:us.length<OV):
  Run (exec Γ (.app i e)) st .nx (st2.set i (Od (k,.lst (us++[u])))):=by
 obtain⟨k',Es,h0,hn⟩:=h0;refine aa (dP h0 hn) (aa (a:=()) (st1:=st) rfl (aa h1 (aa h2 (aa (a:=()) ?_ bb))));show modS i (sY u) st2=_;unfold modS;rw[h3];simp only[hk,if_true];have e:sY u (.lst us)=Od (.lst (us++[u])):=by show(if us.length<OV then _ else _)=_;rw[XI hl]
 rw[e]
theorem Bk(h1:Run (ev Γ e) st r st1)(h2:Run (retS r) st1 f st2):Run (exec Γ (.ret e)) st f st2:=aa h1 h2
theorem p6:Run (retS (.own,u)) st (.rt .own u) st:=rfl
theorem eJ:Run (retS (.loc,u)) st (.rt .loc u) st:=rfl
theorem mG(h:st[j]?=Od (Od (.own,u))):Run (retS (.bor j,u0)) st (.rt .own u) (st.set j OQ):=by
 show(match st[j]? with|some (Od (.own,u))=>Od (Ex.ok (Fl.rt .own u),st.set j OQ)|_=>OQ)=_;rw[h]
theorem t8(h1:Run (Cv Γ c) st OP st1)(h2:Run (execs Γ a) st1 f st2):Run (exec Γ (.ite c a b)) st f st2:=aa h1 h2
theorem zM(h1:Run (Cv Γ c) st OR st1)(h2:Run (execs Γ b) st1 f st2):Run (exec Γ (.ite c a b)) st f st2:=aa h1 h2
theorem aw:Run (execs Γ []) st .nx st:=rfl
theorem mH(h1:Run (exec Γ s) st .nx st1)(h2:Run (execs Γ ss) st1 f st2):Run (execs Γ (s::ss)) st f st2:=aa h1 h2
theorem w9(h1:Run (exec Γ s) st (.rt k u) st1):Run (execs Γ (s::ss)) st (.rt k u) st1:=aa h1 bb
theorem ay(h1:Run (ev Γ e) st r st1)(h2:Run (dq i r) st1 () st2)(h3:Run (execs Γ ss) st2 f CY):Run (execs Γ (.set i e::ss)) st f CY:=mH (Bi h1 h2) h3
theorem gJ(h0:st[i]?=Od (Od (k',.lst Es)))(h1:Run (ev Γ e) st r st1)(h2:Run (lift r) st1 u st2)(h3:st2[i]?=Od (Od (k,.lst us)))(hk:k.root=OP)(hl:us.length<OV)
  (h4:Run (execs Γ ss) (st2.set i (Od (k,.lst (us++[u])))) f CY) (hn:k'≠.Ci:=by intro z;cases z):Run (execs Γ (.app i e::ss)) st f CY:=mH (Bj ⟨_,_,h0,hn⟩ h1 h2 h3 hk hl) h4
theorem cF(h1:Run (ev Γ e) st r st1)(h2:Run (retS r) st1 (.rt k u) st2):Run (execs Γ (.ret e::ss)) st (.rt k u) st2:=w9 (Bk h1 h2)
theorem b8(h1:Run (Cv Γ c) st OP st1)(h2:Run (execs Γ a) st1 .nx st2)(h3:Run (execs Γ ss) st2 f CY):Run (execs Γ (.ite c a b::ss)) st f CY:=mH (t8 h1 h2) h3
theorem bc(h1:Run (Cv Γ c) st OR st1)(h2:Run (execs Γ b) st1 .nx st2)(h3:Run (execs Γ ss) st2 f CY):Run (execs Γ (.ite c a b::ss)) st f CY:=mH (zM h1 h2) h3
theorem kZ(h1:Run (Cv Γ c) st OP st1)(h2:Run (execs Γ a) st1 (.rt k u) st2):Run (execs Γ (.ite c a b::ss)) st (.rt k u) st2:=w9 (t8 h1 h2)
theorem xX(h1:Run (a9 Γ src) st rs st1)(h2:aU rs st1)(h3:DV ik rs=Od xs)(h4:pv rs is body=OP)(h5:Run (forM t is (execs Γ body) rs xs) st1 f st2):
  Run (exec Γ (.Cw t is ik src body)) st f st2:=by
 refine aa h1 (aa (aI h2) (aa (cq h3) ?_));rw[XI h4];exact h5
theorem eL(h1:Run (a9 Γ src) st rs st1)(h2:aU rs st1)(h3:DV ik rs=Od xs)(h4:pv rs is body=OP)(h5:Run (forM t is (execs Γ body) rs xs) st1 .nx st2)(h6:Run (execs Γ ss) st2 f CY):
  Run (execs Γ (.Cw t is ik src body::ss)) st f CY:=mH (xX h1 h2 h3 h4 h5) h6
theorem p7(h:aU rs st):Run (forM t is body rs []) st .nx st:=aa (aI h) bb
theorem w_(h:aU rs st)(h1:Run (cU t is x) st () st1)(h2:Run body st1 .nx st2)(h3:Run (forM t is body rs xs) st2 f CY):Run (forM t is body rs (x::xs)) st f CY:=aa (aI h) (aa h1 (aa h2 h3))
theorem B_(h:aU rs st)(h1:Run (cU t is x) st () st1)(h2:Run body st1 (.rt k u) st2):Run (forM t is body rs (x::xs)) st (.rt k u) st2:=aa (aI h) (aa h1 (aa h2 bb))
theorem iX(h:Run (dq i r) st () st1):Run (cU OR [i] r) st () st1:=h
theorem cL(hn:us.length=fn.np)(hk:k=.own\/k=.loc)(hs:start us fn.ns=st0)(h:Run (execs Γ fn.body) st0 (.rt k u) st):ei Γ fn us=Od (.ok (k,u)):=by
 subst hs;unfold ei;rw[XI hn,show execs Γ fn.body (start us fn.ns)=_ from h];rcases hk with rfl|rfl<;>rfl
theorem p8{cond:M Bool}(h:aU src st):Run (bA k t cond elt src [] acc) st acc st:=aa (aI h) bb
theorem k5{cond:M Bool}(h:aU src st)(h1:Run (cU t (Pl k) x) (Pc k OQ++st) () s1)(h2:Run cond s1 OP s2)(h3:Run elt s2 r s3)(h4:Run (lift r) s3 u s4)
  (hl:acc.length<OV) (h5:Run (bA k t cond elt src xs (acc++[u])) (s4.drop k) us st2):Run (bA k t cond elt src (x::xs) acc) st us st2:=by
 refine aa (aI h) (aa (a:=Od u) (st1:=s4.drop k) ?_ ?_)
 ·show inScope k _ st=_;unfold inScope;have hh:Run (cU t (Pl k) x >>= λ_=>cond >>= λb=>if b=OP then(elt >>= λr=>lift r >>= λu=>pure (Od u)) else pure OQ) (Pc k OQ++st) (Od u) s4 :=
   aa h1 (aa h2 (show Run (elt >>= λr=>lift r >>= λu=>pure (Od u)) s2 (Od u) s4 from aa h3 (aa (f:=λu=>pure (Od u)) h4 rfl)))
  rw[show _=_ from hh]
 ·show Run (if acc.length<OV then bA k t cond elt src xs (acc++[u]) else M.fail) _ _ _;rw[XI hl];exact h5
theorem t9{cond:M Bool}(h:aU src st)(h1:Run (cU t (Pl k) x) (Pc k OQ++st) () s1)(h2:Run cond s1 OR s2)
  (h5:Run (bA k t cond elt src xs acc) (s2.drop k) us st2):Run (bA k t cond elt src (x::xs) acc) st us st2:=by
 refine aa (aI h) (aa (a:=OQ) (st1:=s2.drop k) ?_ h5);show inScope k _ st=_;unfold inScope;have hh:Run (cU t (Pl k) x >>= λ_=>cond >>= λb=>if b=OP then(elt >>= λr=>lift r >>= λu=>pure (Od u)) else pure OQ) (Pc k OQ++st) OQ s2 :=
  aa h1 (aa h2 (show Run (pure OQ:M (Option U)) s2 OQ s2 from rfl))
 rw[show _=_ from hh]
theorem dc{src cond:List E}(h1:Run (a9 Γ src) st rs st1)(h2:aU rs st1)(h3:DV ik rs=Od xs)(h4:Run (bA k t (aP Γ cond) (ev Γ e) rs xs []) st1 us st2):Run (ev Γ (.comp k t ik src cond e)) st (.own,.lst us) st2 :=
 aa h1 (aa (aI h2) (aa (cq h3) (aa h4 bb)))
end
section
theorem oq(h1:Run (a9 Γ es) st rs st1)(h2:aU (rs.map (cH st1)) st1)(h3:Γ f ((rs.map (cH st1)).map (·.2))=Od (.ok (k,.tup (u::ws))))(hk:k=.own\/k=.loc)(h4:mf (rs.map (cH st1)) is=OP)(h5:eG (rs.map (cH st1)) is ws st1=Od st2):
  Run (ev Γ (.B' f es is)) st (k,u) st2:=by
 have hF:Run (a9 Γ es >>= v9) st (rs.map (cH st1)) st1:=aa h1 (show Run (v9 rs) st1 (rs.map (cH st1)) st1 from rfl);refine aa hF (aa (aI h2) ?_);show mi Γ f _ is st1=_;unfold mi;rw[h3];rcases hk with rfl|rfl
 ·show(if _ then _ else _)=_;rw[XI h4,h5]
 ·show(if _ then _ else _)=_;rw[XI h4,h5]
theorem Bl(h:st[i]?=Od (Od (k,.lst us)))(hk:k.root=OP)(hu:us[us.length - 1]?=Od u):Run (ev Γ (.pop i)) st (.loc,u) (st.set i (Od (k,.lst us.dropLast))):=by
 show sX i st=_;unfold sX;rw[h];show(if _ then _ else _)=_;rw[XI hk,hu]
theorem zN(h0:st[i]?=Od (Od (k0,.lst us0)))(DB:k0≠.Ci)(h1:Run (ev Γ e) st (ky,.int j) st1)(h:st1[i]?=Od (Od (k,.lst us)))(hk:k.root=OP)(j0:0<=j)(j1:j<1000000)(hu:us[j.toNat]?=Od u):Run (ev Γ (.DU i e)) st (.loc,u) (st1.set i (Od (k,.lst (us.eraseIdx j.toNat)))):=by
 refine aa (dP h0 DB) (aa (a:=()) (st1:=st) rfl (aa h1 ?_));show qY i (.int j) st1=_;unfold qY
 dsimp only
 rw[h];show(if _ then _ else _)=_;rw[XI ⟨hk,j0,j1⟩,hu]
theorem bG(hn:us.length=fn.np)(hs:bS is us fn.ns=st0)(h:Run (execs Γ body) st0 f st)(hf:Jw f=Od (k,u))(hw:GK is st=Od ws):ez Γ fn is body us=Od (.ok (k,.tup (u::ws))):=by
 subst hs;unfold ez;rw[XI hn,show execs Γ body (bS is us fn.ns)=_ from h];show(Jw f).bind _=_;rw[hf];show(GK is st).map _=_;rw[hw];rfl
end
def DL(Pg:List Fn)(f:Str)(fn:Fn):Prop:=(Pg.find? λg=>OX (g.name=f))=Od fn
section
theorem cv(h:DL Pg f fn)(us:List U)(C7:fn.io=OQ:=by rfl):CJ Pg (d+1) f us=ei (CJ Pg d) fn us:=by
 show(match Pg.find? λg=>OX (g.name=f) with|some fn=>gh (CJ Pg d) fn us|none=>OQ)=_;rw[show _=Od fn from h];show gh _ _ _=_;unfold gh;rw[C7]
theorem bO(h:DL Pg f fn)(us:List U)(C7:fn.io=Od (is,b)):CJ Pg (d+1) f us=ez (CJ Pg d) fn is b us:=by
 show(match Pg.find? λg=>OX (g.name=f) with|some fn=>gh (CJ Pg d) fn us|none=>OQ)=_;rw[show _=Od fn from h];show gh _ _ _=_;unfold gh;rw[C7]
end
theorem cM(h:0<j):E1 .mod (k,.int i) (k',.int j)=Od (.loc,.int (i % j)):=by show(vY i j).map _=_;rw[vY,XI h];rfl
theorem iY(h:0<j/\j<1073741824):E1 .Fi (k,.int i) (k',.int j)=Od (.loc,.int (i / j)):=by show(vX i j).map _=_;rw[vX,XI h];rfl
theorem ia(h:(-(2 ^ 64)<i/\i<2 ^ 64)\/(-(2 ^ 64)<j/\j<2 ^ 64)):E1 .mul (k,.int i) (k',.int j)=Od (.loc,.int (i * j)):=by show(vW i j).map _=_;rw[vW,XI h];rfl
theorem j7(h:0<=j/\j<=1000000/\i.natAbs<2 ^ 64):E1 .pow (k,.int i) (k',.int j)=Od (.loc,.int (i ^ j.toNat)):=by show(vZ i j).map _=_;rw[vZ,XI h];rfl
theorem bj:E1 .add (k,.int i) (k',.int j)=Od (.loc,.int (i+j)):=rfl
theorem b9(h:C4 xs i=Od u):dm (k,.lst xs) (.int i)=Od (kE k,u):=by show(C4 xs i).map _=_;rw[h];rfl
theorem ng(h:C4 xs i=Od u):dm (k,.tup xs) (.int i)=Od (kE k,u):=by show(C4 xs i).map _=_;rw[h];rfl
local macro_rules
 |`(tactic| sizeOf_list_dec)=>`(tactic| first|exact aw|apply ay|apply gJ|apply cF|exact ah|exact ab rfl|exact bx rfl|exact aM rfl|apply aX|apply fP|apply aJ|apply cu|apply dQ|apply t6|apply aS|exact ak|apply af|apply fQ|apply gH|exact aZ|apply aA|exact aG|exact Iz|(first|exact trivial|exact⟨⟨_,rfl,rfl⟩,trivial⟩|exact⟨⟨_,rfl,rfl⟩,⟨_,rfl,rfl⟩,trivial⟩)|exact bj|exact m6|exact cM (by first|omega|decide)|exact iY (by first|omega|decide)|exact ia (by first|omega|decide)|exact j7 (by decide)|exact aD|exact cy|exact iW|exact eJ|exact p6|exact mG rfl|exact Pt _|exact rfl|exact FN)
theorem p9(h:OX (i<j)=c):bg .lt (.int i) (.int j)=Od c:=by subst h;rfl
theorem jP(h:OX (j<i)=c):bg .gt (.int i) (.int j)=Od c:=by subst h;rfl
theorem bH(h:(i==j)=c):bg .eq (.int i) (.int j)=Od c:=by subst h;rfl
theorem cm:DO .len [(k,.lst xs)]=Od (.loc,.int (xs.length:Nat)):=rfl
theorem p_:DO .len [(k,.tup xs)]=Od (.loc,.int (xs.length:Nat)):=rfl
theorem t_(x:Kd×U):DV .CV [x]=sV x:=rfl
theorem gu(h:n<2 ^ 62):DV .CV [(k,.int (n:Nat))]=Od ((Pl n).map λi:Nat=>(Kd.loc,U.int (0+(i:Int)))):=by
 rw[t_,sV,XI ⋯,SA]
end TM
local macro_rules
 |`(tactic| sizeOf_list_dec)=>`(tactic| first|exact TM.aw|apply TM.ay|apply TM.gJ|apply TM.cF|exact TM.ah|exact TM.ab rfl|exact TM.bx rfl|exact TM.aM rfl|apply TM.aX|apply TM.fP|apply TM.aJ|apply TM.cu|apply TM.dQ|apply TM.t6|apply TM.aS|exact TM.ak|apply TM.af|apply TM.fQ|apply TM.gH|exact TM.aZ|apply TM.aA|exact TM.aG|exact TM.Iz|(first|exact trivial|exact⟨⟨_,rfl,rfl⟩,trivial⟩|exact⟨⟨_,rfl,rfl⟩,⟨_,rfl,rfl⟩,trivial⟩)|exact TM.bj|exact TM.m6|exact TM.cM (by first|omega|decide)|exact TM.iY (by first|omega|decide)|exact TM.ia (by first|omega|decide)|exact TM.j7 (by decide)|exact TM.aD|exact TM.cy|exact TM.iW|exact TM.eJ|exact TM.p6|exact TM.mG rfl|exact Pt _|exact rfl|exact TM.FN)
namespace CQ
open PySem L2
theorem len_list(x:Str):x.length=x.cps.toList.length:=by simp[Xz]
theorem rn(h0:0<=k)(h1:k<=99):(sr k).length<=2:=by
 obtain⟨m,rfl⟩:=P9 h0;have hm:m<100:=by omega
 clear h0 h1;revert m;decide +kernel
theorem dk:∀(ps:List Str) (acc:Array Nat),(ps.foldl (λacc p=>acc++PL.cps++p.cps) acc).toList=acc.toList++(ps.map λp=>p.cps.toList).flatten
 |[],acc=>by simp
 |p::ps,acc=>by
  rw[Ud,dk ps];have:PL.cps=#[]:=rfl;simp[this]
theorem join_list(ts:List Str):(Tc PL ts).cps.toList=(ts.map λp=>p.cps.toList).flatten:=by
 cases ts with
 |nil=>rfl
 |cons t ts =>
  show(ts.foldl (λacc p=>acc++PL.cps++p.cps) t.cps).toList=_;rw[dk];simp
def one(c:Nat):Str:=⟨#[c]⟩
theorem join_ones(cs:List Nat):(Tc PL (cs.map one)).cps.toList=cs:=by
 rw[join_list,PK];induction cs with
 |nil=>rfl
 |cons c cs ih=>rw[O5,List.flatten_cons,ih];rfl
theorem mI(cs:List Nat)(h:cs.length<=100):Wz PL (cs.map one)=OP:=by
 unfold Wz;have e:=PySem.StrLaws.joinTotal PL (cs.map one);have e0:PL.length=0:=rfl;have es:((cs.map one).map (·.length)).sum=cs.length:=by
  rw[PK];clear h e;induction cs with
  |nil=>rfl
  |cons c cs ih=>rw[O5,Rv,ih];show 1+cs.length=cs.length+1;omega
 rw[e,e0,es];have hm:cs.length+(cs.map one).length * 0<=100:=by omega
 revert hm;generalize cs.length+(cs.map one).length * 0=m;revert m;decide
theorem zO(x:Str)(j:Nat):(PySem.StrLaws.sliceText x OQ (Od (j:Int))).cps.toList=x.cps.toList.take j:=by
 by_cases h:j<=x.cps.toList.length
 ·rw[PySem.StrLaws.sliceText_to (x:=x) ⟨⋯,⋯⟩];simp
 ·have e:PySem.StrLaws.sliceText x OQ (Od (j:Int))=PySem.StrLaws.sliceText x OQ (Od (x.length:Int)):=by
   unfold PySem.StrLaws.sliceText;have hl:=len_list x;have:PySem.Builtin.Str.strSliceIndices OQ (Od (j:Int)) 1 x.length=PySem.Builtin.Str.strSliceIndices OQ (Od (x.length:Int)) 1 x.length:=by
    have h1:¬((j:Int)<0):=by omega
    have h2:¬((x.length:Int)<0):=by omega
    have e1:min (j:Int) (x.length:Int)=x.length:=by omega
    simp[PySem.Builtin.Str.strSliceIndices,h1,h2,e1]
   rw[this]
  have hl:=len_list x;rw[e,PySem.StrLaws.sliceText_to (x:=x) ⟨⋯,⋯⟩,List.drop_zero,Q0 (l:=x.cps.toList) (i:=j) ⋯];show(x.cps.toList.take ((x.length:Int) - 0).toNat).toArray.toList=_;rw[Q0 ⋯]
def small:Str:="abcdefghijklmnopqrstuvwxyz"
theorem mJ [DecidableEq α]:∀{l m:List α},l.Nodup->(∀x∈l,x∈m)->l.length<=m.length
 |[],_,_,_=>Pt _
 |x::l,m,hn,h=>by
  obtain⟨h1,h2⟩:=Qe.mp hn;have hx:=h x PY;have ih:=mJ (l:=l) (m:=m.erase x) h2 λy hy=>(Vm (by rintro rfl;exact h1 hy)).mpr (h y (PV _ hy));rw[List.length_erase_of_mem hx]at ih;have:0<m.length:=List.length_pos_of_mem hx;rw[Pw];omega
end CQ
namespace TM
open PySem L2 CQ
theorem kg(hx:x.length<=OV)(h:C4 x.cps.toList i=Od c):dm (k,.str x) (.int i)=Od (.loc,.str (CQ.one c)):=by
 simp only[dm];rw[XI hx,h];rfl
theorem mK:small.length<=OV:=by decide
theorem gv:∀(ss:List Str),strsOf (ss.map U.str)=Od ss
 |[]=>rfl
 |s::ss=>by show(strsOf (ss.map U.str)).map (s::·)=_;rw[gv ss];rfl
section
theorem k6(h:x.length+y.length<=OV):E1 .add (k,.str x) (k',.str y)=Od (.loc,.str (x++y)):=by
 simp only[E1,vV];rw[XI h]
theorem d7:∀(ss:List Str) (n:Nat),fG n (ss.map U.str)=OP
 |[],n=>by simp[fG]
 |s::ss,n=>by simp only[O5,fG,d7 ss n,Tt];cases n<;>rfl
theorem mL(x:Str):∀(ss:List Str),((ss.map U.str).any λy=>bw y (.str x))=OX (x∈ss)
 |[]=>by simp
 |s::ss=>by
  rw[O5,Ts,mL x ss];have:bw (.str s) (.str x)=OX (x=s):=by
   simp only[bw];by_cases h:x=s
   ·subst h;simp
   ·have h':s≠x:=λz=>h z.symm;simp[h,h']
  rw[this,RA];simp
theorem xa(x:Str)(ss:List Str):GI (.str x) (ss.map U.str)=Od (OX (x∈ss)):=by
 unfold GI;rw[XI ⟨by rfl,d7 ss 50⟩,mL]
theorem iZ{ss:List Str}:bg .CA (.str x) (.lst (ss.map U.str))=Od (OX (x∉ss)):=by
 show(GI (.str x) (ss.map U.str)).map (!·)=_;rw[xa];simp
end
section
end
theorem i5(h1:Run (ev Γ ve) st rv st1)(h2:st1[i]?=Od (Od (k',u')))(h3:Run (ev Γ ke) st1 rk st2)(h4:Run (cp [rv,rk]) st2 [uv,uk] CY)(h5:CY[i]?=Od (Od (k,u0)))(hk:k.root=OP)(h6:dI uk uv u0=Od u1)
  (h7:Run (execs Γ ss) (CY.set i (Od (k,u1))) f Hb) (hn:k'≠.Ci:=by intro z;cases z):Run (execs Γ (.put i ke ve::ss)) st f Hb:=by
 refine mH (aa h1 (aa (dP h2 hn) (aa h3 (aa h4 (aa (a:=()) (st1:=CY.set i (Od (k,u1))) ?_ bb))))) h7;show modS i (pq [uv,uk]) CY=_;unfold modS;rw[h5];simp only[hk,if_true];show(match dI uk uv u0 with|some u'=>_|none=>OQ)=_;rw[h6]
abbrev Row:=Str×List Str
def Cb(r:Row):U:=.tup [.str r.1,.tup (r.2.map .str)]
def keyOf(r:Row):Row:=(r.1,aH r.2)
theorem sorted_strs(h:ss.length<64):DO .sorted [(k,.tup (ss.map .str))]=Od (.own,.lst ((aH ss).map .str)):=by
 show(strsOf (ss.map U.str)).bind _=_;rw[gv];show(if ss.length<64 then _ else _)=_;rw[XI h]
section
theorem ua(h:Run (ev Γ e) st (k,.bl p) st)(h2:p=OP->Run (fI Γ (e2::es)) st (.loc,.bl q) st):Run (fI Γ (e::e2::es)) st (.loc,.bl (p&&q)) st:=by
 refine zL h ?_;cases p with
 |true=>rw[XI rfl];exact h2 rfl
 |false=>rw[XM Po];exact⟨rfl,rfl⟩
theorem xY(h:Run (Cv Γ e) st p st)(h2:p=OR->Run (dH Γ (e2::es)) st q st):Run (dH Γ (e::e2::es)) st (p||q) st:=by
 cases p with
 |true=>exact Bh h
 |false=>exact p5 h (h2 rfl)
theorem ub(h:Run (Cv Γ e) st p st)(h2:p=OP->Run (aP Γ (e2::es)) st q st):Run (aP Γ (e::e2::es)) st (p&&q) st:=by
 cases p with
 |true=>exact iV h (h2 rfl)
 |false=>exact oo h
theorem fb{cond:M Bool}(h:aU src st)(k:Kd)(hk:k=.loc\/k=.any)(enc g:α->U)(kd:Kd)(hc:∀y,Run cond (Od (k,enc y)::st) OP (Od (k,enc y)::st)):∀(ys:List α) (acc:List U),acc.length+ys.length<=OV ->
  (∀y∈ys,Run elt (Od (k,enc y)::st) (kd,g y) (Od (k,enc y)::st)/\Run (lift (kd,g y)) (Od (k,enc y)::st) (g y) (Od (k,enc y)::st))->Run (bA 1 OR cond elt src (ys.map λy=>(k,enc y)) acc) st (acc++ys.map g) st
 |[],acc,_,_=>by rw[Q1,Q1,Qn];exact p8 h
 |y::ys,acc,hl,hx=>by
  obtain⟨h2,h3⟩:=hx y (by simp);rw[Pw]at hl;refine k5 (s1:=Od (k,enc y)::st) (s2:=Od (k,enc y)::st) (s3:=Od (k,enc y)::st) (s4:=Od (k,enc y)::st) h ?_ (hc y) h2 h3 ⋯ ?_
  ·rcases hk with rfl|rfl
   ·exact iX aD
   ·exact iX iW
  ·have:=fb h k hk enc g kd hc ys (acc++[g y]) (by simp;omega) λz hz=>hx z (by simp[hz]);rw[O5];simpa using this
theorem ot{cond:M Bool}(h:aU src st)(k:Kd)(hk:k=.loc\/k=.any)(enc g:α->U)(p:α->Bool)(kd:Kd):∀(ys:List α) (acc:List U),acc.length+ys.length<=OV ->
  (∀y∈ys,Run cond (Od (k,enc y)::st) (p y) (Od (k,enc y)::st)/\(p y=OP->Run elt (Od (k,enc y)::st) (kd,g y) (Od (k,enc y)::st)/\Run (lift (kd,g y)) (Od (k,enc y)::st) (g y) (Od (k,enc y)::st)))->Run (bA 1 OR cond elt src (ys.map λy=>(k,enc y)) acc) st (acc++(ys.filter p).map g) st
 |[],acc,_,_=>by rw[Q1,Wk,Q1,Qn];exact p8 h
 |y::ys,acc,hl,hx=>by
  obtain⟨h1,N3⟩:=hx y (by simp);rw[Pw]at hl;have ht:Run (cU OR (Pl 1) (k,enc y)) (Pc 1 OQ++st) () (Od (k,enc y)::st):=by
   rcases hk with rfl|rfl
   ·exact iX aD
   ·exact iX iW
  cases hp:p y with
  |true =>
   rw[hp]at h1;obtain⟨h2,h3⟩:=N3 hp;refine k5 (s1:=Od (k,enc y)::st) (s2:=Od (k,enc y)::st) (s3:=Od (k,enc y)::st) (s4:=Od (k,enc y)::st) h ht h1 h2 h3 ⋯ ?_;have:=ot h k hk enc g p kd ys (acc++[g y]) (by simp;omega) λz hz=>hx z (by simp[hz]);rw[SN,XI hp,O5];simpa using this
  |false =>
   rw[hp]at h1;refine t9 (s1:=Od (k,enc y)::st) (s2:=Od (k,enc y)::st) h ht h1 ?_;have:=ot h k hk enc g p kd ys acc ⋯ λz hz=>hx z (by simp[hz]);rw[SN,XM (by simp[hp])];exact this
theorem dR(it:α->Kd×U)(I:List α->List α->ax->Prop)(hs:∀d r st,I d r st->aU rs st)
  (V4:∀d y r st,I d (y::r) st->∃st1 st2,Run (cU t is (it y)) st () st1/\Run body st1 .nx st2/\I (d++[y]) r st2):∀(r d:List α) (st:ax),I d r st->∃st',Run (forM t is body rs (r.map it)) st .nx st'/\I (d++r) [] st'
 |[],d,st,h=>⟨st,p7 (hs _ _ _ h),by rw[Qn];exact h⟩
 |y::r,d,st,h=>by
  obtain⟨s1,s2,h1,h2,h3⟩:=V4 d y r st h;obtain⟨s3,h4,h5⟩:=dR it I hs V4 r (d++[y]) s2 h3;exact⟨s3,w_ (hs _ _ _ h) h1 h2 h4,by simpa using h5⟩
theorem zP(h1:Run (a9 Γ es) st rs st1)(h2:aU rs st1)(h3:Γ f (rs.map (·.2))=Od (.ok r))(h4:jo r.2=Od b)(hr:isAny r.1=OR:=by exact rfl):Run (Cv Γ (.call f es)) st b st1:=aa h1 (aa (aI h2) (aa (pX h3 hr) (cq h4)))
theorem k7(h:Run (ev Γ (.bi f es)) st (k,.bl b) st1):Run (Cv Γ (.bi f es)) st b st1:=by
 have h':(a9 Γ es >>= λrs=>ar rs >>= λ_=>M.Cu (DO f rs)) st=Od (.ok (k,.bl b),st1):=h;obtain⟨rs,s1,e1,e2,s2,e3,r,s3,e4,e5⟩:∃rs s1,a9 Γ es st=Od (.ok rs,s1)/\∃(a:Unit) (s2:ax),ar rs s1=Od (.ok a,s2)/\∃r s3,M.Cu (DO f rs) s2=Od (.ok r,s3)/\(r,s3)=((k,U.bl b),st1):=by
  have w:W (a9 Γ es >>= λrs=>ar rs >>= λ_=>M.Cu (DO f rs)) st λr s=>(r,s)=((k,U.bl b),st1):=⟨_,_,h',rfl⟩
  rw[ae]at w;obtain⟨rs,s1,e1,w⟩:=w;rw[ae]at w;obtain⟨a,s2,e2,w⟩:=w;obtain⟨r,s3,e3,w⟩:=w;exact⟨rs,s1,e1,a,s2,e2,r,s3,e3,w⟩
 cases e5;exact aa e1 (aa (a:=e2) e3 (aa e4 (cq rfl)))
end
theorem jQ:∀ss:List Str,bJ (ss.map U.str)=OP
 |[]=>by simp[bJ]
 |s::ss=>by simp[bJ,CI,jQ ss]
theorem k8(r:Row):CI (Cb r)=OP:=by simp[Cb,CI,bJ,jQ]
theorem bP:∀rs:List Row,bJ (rs.map Cb)=OP
 |[]=>by simp[bJ]
 |r::rs=>by simp[bJ,k8,bP rs]
theorem i6:∀(a b:List Str),bL (a.map U.str) (b.map U.str)=OX (a=b)
 |[],[]=>by simp[bL]
 |[],_::_=>by simp[bL]
 |_::_,[]=>by simp[bL]
 |x::a,y::b=>by
  rw[O5,O5,bL,i6 a b];simp only[bw];by_cases h:x=y
  ·subst h;simp
  ·simp[h]
theorem fc(ss:List Str)(n:Nat):Dg (n+1) (.lst (ss.map U.str))=OP:=by simp[Dg,d7]
theorem uc{a b:List Str}:bg .eq (.lst (a.map U.str)) (.lst (b.map U.str))=Od (OX (a=b)):=by
 simp only[bg];rw[XI ⟨fc a 49,fc b 49⟩];simp only[bw,i6]
theorem qa:bg .eq (.str a) (.str b)=Od (OX (a=b)):=by
 simp only[bg];rw[XI ⟨rfl,rfl⟩];simp only[bw];by_cases h:a=b
 ·subst h;simp
 ·simp[h]
theorem xb(f:α->β)(xs:List α)(lo hi:Option Int):cut (xs.map f) lo hi=(cut xs lo hi).map f:=by simp[cut,WE,WG]
theorem xc(xs:List α)(lo hi:Option Int):(cut xs lo hi).length<=xs.length:=by simp[cut];omega
theorem ud(h:fF k (ds.map U.int)=OP):l_ (k,.lst (ds.map .int)) lo hi=Od (.own,.lst ((cut ds lo hi).map .int)):=by
 simp only[l_];rw[XI h,xb]
section
end
section
theorem ue(h1:Run (ev Γ a) st x st1)(h2:mj x.2 T=Od b):Run (ev Γ (.Er a T)) st (.loc,.bl b) st1:=aa h1 (aa (cq h2) bb)
theorem Bm(h1:Run (ev Γ a) st x st1)(h2:mj x.2 T=Od b):Run (Cv Γ (.Er a T)) st b st1:=aa h1 (cq h2)
end
theorem xf(h:ks.length<1000):dI (.str x) u (.CU ks us)=Od (.CU (dput ks us x u).1 (dput ks us x u).2):=by
 have hsz:(1000:Nat)<=OV:=by decide
 show(if ks.length<OV then _ else _)=_;rw[XI ⋯]
end TM
namespace Od
section
variable{W:Type}[DecidableEq W]{rows:List (W×List W)}
end
end Od
namespace TM
open PySem L2 CQ
section
theorem qd(h:Run c st OR st1):Run (eh c body (n+1)) st .nx st1:=aa h bb
theorem uf(h:Run c st OP st1)(h2:Run body st1 .nx st2)(h3:Run (eh c body n) st2 f CY):Run (eh c body (n+1)) st f CY:=aa h (aa h2 h3)
theorem ug(h:Run (eh (Cv Γ c) (execs Γ body) fuel) st .nx st1)(h2:Run (execs Γ ss) st1 f st2):Run (execs Γ (.EZ c body::ss)) st f st2:=mH h h2
theorem qe(hk:k=.loc\/k=.any):Run (cU OP [i,j] (k,.tup [a,b])) st () ((st.set i (Od (k,a))).set j (Od (k,b))):=by
 rcases hk with rfl|rfl<;>rfl
end
theorem Bn(h:OX (i<=j)=c):bg .le (.int i) (.int j)=Od c:=by subst h;rfl
theorem ou:bg .isin (.str x) (.CU ks vs)=Od (OX (x∈ks)):=rfl
theorem jR:bg .CA (.str x) (.CU ks vs)=Od (!OX (x∈ks)):=rfl
theorem zQ:bg .ne (.str a) (.str b)=Od (!OX (a=b)):=by
 have:bg .ne (.str a) (.str b)=(bg .eq (.str a) (.str b)).map (!·):=by
  simp only[bg];rw[XI ⟨rfl,rfl⟩,XI ⟨rfl,rfl⟩];rfl
 rw[this,qa];rfl
theorem qf(bs:List Bool):DO .all [(k,.lst (bs.map .bl))]=Od (.loc,.bl (bs.all id)):=by
 show(iI (bs.map U.bl)).map _=_;have:∀bs:List Bool,iI (bs.map U.bl)=Od bs:=λbs=>by
  induction bs with
  |nil=>rfl
  |cons b bs ih=>show(iI (bs.map U.bl)).map _=_;rw[ih];rfl
 rw[this];rfl
mutual
theorem jS:∀(n:Nat) (u:U),Dg n u=OP->bw u u=OP
 |_,.Ce,_=>rfl
 |_,.bl b,_=>by simp[bw]
 |_,.int i,_=>by simp[bw]
 |_,.str x,_=>by simp[bw]
 |0,.tup xs,h=>by simp[Dg]at h
 |0,.lst xs,h=>by simp[Dg]at h
 |n+1,.tup xs,h=>by rw[bw];exact fe n xs (by simpa[Dg] using h)
 |n+1,.lst xs,h=>by rw[bw];exact fe n xs (by simpa[Dg] using h)
 |_,.CU _ _,h=>by simp[Dg]at h
 |_,.Dt _,h=>by simp[Dg]at h
theorem fe:∀(n:Nat) (us:List U),fG n us=OP->bL us us=OP
 |_,[],_=>rfl
 |n,u::us,h=>by
  have h':Dg n u=OP/\fG n us=OP:=by simpa[fG] using h
  rw[bL,jS n u h'.1,fe n us h'.2];rfl
end
theorem rp(h:Dg 50 u=OP):bg .ne u u=Od OR:=by
 simp only[bg];rw[XI ⟨h,h⟩,jS 50 u h];rfl
section
theorem gw{told known:List Str}(hk:k=.loc\/k=.any)(hl:told.length<=1000)(hs:Run (ev Γ src) st (.loc,.tup (told.map .str)) st)(hj:st[j]?=Od (Od (k,w))\/st[j]?=Od (Od (.own,w)))(hw:∀x:Str,bg .isin (.str x) w=Od (OX (x∈known))):
  Run (ev Γ (.bi .all [.comp 1 OR .seq [src] [] (.cmp .isin (.var 0) (.var (j+1)))])) st (.loc,.bl (told.all λx=>OX (x∈known))) st:=by
 have hsz:(1000:Nat)<=OV:=by decide
 have hx:=fb (cond:=aP Γ []) (elt:=ev Γ (.cmp .isin (.var 0) (.var (j+1)))) (src:=[(.loc,.tup (told.map .str))]) (st:=st) trivial .loc (.inl rfl) U.str (λx=>.bl (OX (x∈known))) .loc (λ_=>gI) told [] (by simp;omega)
  (λy _=>⟨by
   rcases hj with hj|hj
   ·rcases hk with rfl|rfl
    ·exact fP (ab rfl) (ab (by simpa using hj)) trivial (hw y)
    ·exact fP (ab rfl) (bx (by simpa using hj)) trivial (hw y)
   ·exact fP (ab rfl) (aM (by simpa using hj)) ⟨⟨.own,rfl,by simpa using hj⟩,trivial⟩ (hw y),aG⟩)
 rw[PH]at hx;have e:(told.map U.str).map (λu=>(kE .loc,u))=told.map λr=>(Kd.loc,U.str r):=by rw[PK];rfl
 have e2:(told.map λx=>U.bl (OX (x∈known)))=(told.map λx=>OX (x∈known)).map U.bl:=by rw[PK];rfl
 rw[e2]at hx;have e3:(told.all λx=>OX (x∈known))=((told.map λx=>OX (x∈known)).all id):=by rw[U9];rfl
 rw[e3];exact cu (af (dc (rs:=[(.loc,.tup (told.map .str))]) (af hs ak) trivial (by show Od _=_;rw[e]) hx) ak) trivial (qf _)
end
theorem xg:bg .eq (.tup (ss.map U.str)) (.tup [])=Od (OX (ss=[])):=by
 simp only[bg];rw[XI ⟨by simp[Dg,d7],by simp[Dg,fG]⟩];cases ss with
 |_=>simp[bw,bL]
theorem ox{cond:M Bool}(h:aU src st)(a b g:α->U)(p:α->Bool):∀(ys:List α) (acc:List U),acc.length+ys.length<=OV ->
  (∀y∈ys,Run cond (Od (.loc,a y)::Od (.loc,b y)::st) (p y) (Od (.loc,a y)::Od (.loc,b y)::st)/\Run elt (Od (.loc,a y)::Od (.loc,b y)::st) (.loc,g y) (Od (.loc,a y)::Od (.loc,b y)::st)) ->
  Run (bA 2 OP cond elt src (ys.map λy=>(Kd.loc,U.tup [a y,b y])) acc) st (acc++(ys.filter p).map g) st
 |[],acc,_,_=>by rw[Q1,Wk,Q1,Qn];exact p8 h
 |y::ys,acc,hl,hx=>by
  obtain⟨h1,h2⟩:=hx y (by simp);rw[Pw]at hl;have ht:Run (cU OP (Pl 2) (.loc,.tup [a y,b y])) (Pc 2 OQ++st) () (Od (.loc,a y)::Od (.loc,b y)::st):=qe (.inl rfl);cases hp:p y with
  |true =>
   rw[hp]at h1;refine k5 (s1:=Od (.loc,a y)::Od (.loc,b y)::st) (s2:=Od (.loc,a y)::Od (.loc,b y)::st) (s3:=Od (.loc,a y)::Od (.loc,b y)::st) (s4:=Od (.loc,a y)::Od (.loc,b y)::st) h ht h1 h2 aG ⋯ ?_;have:=ox h a b g p ys (acc++[g y]) (by simp;omega) λz hz=>hx z (by simp[hz]);rw[SN,XI hp,O5];simpa using this
  |false =>
   rw[hp]at h1;refine t9 (s1:=Od (.loc,a y)::Od (.loc,b y)::st) (s2:=Od (.loc,a y)::Od (.loc,b y)::st) h ht h1 ?_;have:=ox h a b g p ys acc ⋯ λz hz=>hx z (by simp[hz]);rw[SN,XM (by simp[hp])];exact this
theorem xh{rows:List Row}{t:Nat}(h:rows[t]?=Od r):C4 (rows.map Cb) (t:Int)=Od (Cb r):=kb (by simp[h])
end TM
namespace TM
open PySem L2
section
theorem cw(h:st[i]?=Od (Od (.io,u))):Run (ev Γ (.var i)) st (.bor i,u) st:=dP h
end
def zR:List S :=
   [.ite (.cmp .eq (.bi .len [.var 0]) (.cst (.int 0)))
      [.ret (.lst [.var 1,.cst (.int 0),.cst (.int 1)])]
      [],
    .set 2 (.pop 0),
    .ret (.lst [(.bin .Fi (.var 2) (.cst (.int 2))),(.cst (.int 0)),(.bin .mod (.var 2) (.cst (.int 2)))])]
def xi:Fn:=⟨"_law_source",2,3,.DK [0]::zR⟩
theorem L4:(3:Nat)<=OV:=by decide
theorem uh:ez Γ xi [0] zR [.lst [],.int k]=Od (.ok (.own,.tup [.lst [.int k,.int 0,.int 1],.lst []])):=by
 refine bG (st0:=[Od (.io,.lst []),Od (.loc,.int k),OQ]) (f:=.rt .own (.lst [.int k,.int 0,.int 1])) (st:=[Od (.io,.lst []),Od (.loc,.int k),OQ]) rfl rfl ?_ rfl rfl;apply kZ
 all_goals repeat' (first|exact cw rfl|exact bH (by simp)|exact cm|exact L4|sizeOf_list_dec)
theorem ui:ez Γ xi [0] zR [.lst ((ns++[c]).map .int),.int k]=Od (.ok (.own,.tup [.lst [.int (c / 2),.int 0,.int (c % 2)],.lst (ns.map .int)])):=by
 have hl:bg .eq (.int (((ns++[c]).map U.int).length:Nat)) (.int 0)=Od OR:=bH (by simp;omega);have hd:((ns++[c]).map U.int).dropLast=ns.map .int:=by simp
 have hp:Run (ev Γ (.pop 0)) [Od (.io,.lst ((ns++[c]).map .int)),Od (.loc,.int k),OQ] (.loc,.int c) [Od (.io,.lst (ns.map .int)),Od (.loc,.int k),OQ]:=by
  have:=Bl (Γ:=Γ) (st:=[Od (.io,.lst ((ns++[c]).map .int)),Od (.loc,.int k),OQ]) (i:=0) (u:=.int c) (us:=(ns++[c]).map .int) (k:=.io) rfl rfl (by simp);rw[hd]at this;exact this
 refine bG (st0:=[Od (.io,.lst ((ns++[c]).map .int)),Od (.loc,.int k),OQ]) (f:=.rt .own (.lst [.int (c / 2),.int 0,.int (c % 2)])) (st:=[Od (.io,.lst (ns.map .int)),Od (.loc,.int k),Od (.loc,.int c)]) rfl rfl ?_ rfl rfl;refine bc (st1:=[Od (.io,.lst ((ns++[c]).map .int)),Od (.loc,.int k),OQ]) ?_ aw (ay (st2:=[Od (.io,.lst (ns.map .int)),Od (.loc,.int k),Od (.loc,.int c)]) hp aD ?_)
 all_goals repeat' (first|exact cw rfl|exact hl|exact cm|exact L4|sizeOf_list_dec)
def du(a t w:Int):U:=.lst [.int a,.int t,.int w]
def jT(a t w m:Int):Int:=if w=0 then a % m else((a % 10 ^ 15+1) * 48271+(t+1) * (t+1) * 16807+(t+1) * 7919) % 2147483647 * 69621 % 2147483629 % m
def uj(a w m:Int):Int:=if w=0 then a / m else a
def xZ:List S :=
   [.put 0 (.cst (.int 1)) (.bin .add (.idx (.var 0) (.cst (.int 1))) (.cst (.int 1))),
    .ite (.cmp .eq (.idx (.var 0) (.cst (.int 2))) (.cst (.int 0)))
      [.set 2 (.bin .mod (.idx (.var 0) (.cst (.int 0))) (.var 1)),
      .put 0 (.cst (.int 0)) (.bin .Fi (.idx (.var 0) (.cst (.int 0))) (.var 1)),
      .ret (.var 2)]
      [],
    .set 3 (.idx (.var 0) (.cst (.int 1))),
    .set 4 (.bin .add (.bin .add (.bin .mul (.bin .add (.bin .mod (.idx (.var 0) (.cst (.int 0))) (.bin .pow (.cst (.int 10)) (.cst (.int 15)))) (.cst (.int 1))) (.cst (.int 48271))) (.bin .mul (.bin .mul (.var 3) (.var 3)) (.cst (.int 16807)))) (.bin .mul (.var 3) (.cst (.int 7919)))),
    .ret (.bin .mod (.bin .mod (.bin .mul (.bin .mod (.var 4) (.cst (.int 2147483647))) (.cst (.int 69621))) (.cst (.int 2147483629))) (.var 1))]
def um:Fn:=⟨"_law_draw",2,5,.DK [0]::xZ⟩
theorem uo(t0:0<=t)(t1:t<2 ^ 62)(m0:0<m)(m1:m<1073741824):ez Γ um [0] xZ [du a t w,.int m]=Od (.ok (.loc,.tup [.int (jT a t w m),du (uj a w m) (t+1) w])):=by
 unfold jT uj du;have i0:∀a t w:Int,C4 [U.int a,.int t,.int w] 0=Od (.int a):=λa t w=>rfl;have i1:∀a t w:Int,C4 [U.int a,.int t,.int w] 1=Od (.int t):=λa t w=>rfl;have i2:∀a t w:Int,C4 [U.int a,.int t,.int w] 2=Od (.int w):=λa t w=>rfl;have p1:∀a t w x:Int,dI (.int 1) (.int x) (.lst [.int a,.int t,.int w])=Od (.lst [.int a,.int x,.int w]):=λa t w x=>rfl;have p0:∀a t w x:Int,dI (.int 0) (.int x) (.lst [.int a,.int t,.int w])=Od (.lst [.int x,.int t,.int w]):=λa t w x=>rfl;by_cases hw:w=0
 ·subst hw;rw[XI rfl,XI rfl];refine bG (st0:=[Od (.io,.lst [.int a,.int t,.int 0]),Od (.loc,.int m),OQ,OQ,OQ]) (f:=.rt .loc (.int (a % m))) (st:=[Od (.io,.lst [.int (a / m),.int (t+1),.int 0]),Od (.loc,.int m),Od (.loc,.int (a % m)),OQ,OQ]) rfl rfl ?_ rfl rfl;refine i5 (rv:=(.loc,.int (t+1))) (rk:=(.loc,.int 1)) (k:=.io) (k':=.io) (aX (aJ (cw rfl) ah (by(first|exact trivial|exact⟨⟨_,rfl,rfl⟩,trivial⟩|exact⟨⟨_,rfl,rfl⟩,⟨_,rfl,rfl⟩,trivial⟩)) (b9 (i1 _ _ _))) ah (by(first|exact trivial|exact⟨⟨_,rfl,rfl⟩,trivial⟩|exact⟨⟨_,rfl,rfl⟩,⟨_,rfl,rfl⟩,trivial⟩)) bj) rfl ah (aA aG (aA aG aZ)) rfl rfl (p1 _ _ _ _) ?_;apply kZ
  ·repeat' (first|exact cw rfl|exact b9 (i2 _ _ _)|exact bH (show((0:Int)==0)=OP from rfl)|sizeOf_list_dec)
  ·refine ay (st2:=[Od (.io,.lst [.int a,.int (t+1),.int 0]),Od (.loc,.int m),Od (.loc,.int (a % m)),OQ,OQ]) (aX (aJ (cw rfl) ah (by(first|exact trivial|exact⟨⟨_,rfl,rfl⟩,trivial⟩|exact⟨⟨_,rfl,rfl⟩,⟨_,rfl,rfl⟩,trivial⟩)) (b9 (i0 _ _ _))) (ab rfl) (by(first|exact trivial|exact⟨⟨_,rfl,rfl⟩,trivial⟩|exact⟨⟨_,rfl,rfl⟩,⟨_,rfl,rfl⟩,trivial⟩)) (cM m0)) aD ?_;refine i5 (rv:=(.loc,.int (a / m))) (rk:=(.loc,.int 0)) (k:=.io) (k':=.io) (aX (aJ (cw rfl) ah (by(first|exact trivial|exact⟨⟨_,rfl,rfl⟩,trivial⟩|exact⟨⟨_,rfl,rfl⟩,⟨_,rfl,rfl⟩,trivial⟩)) (b9 (i0 _ _ _))) (ab rfl) (by(first|exact trivial|exact⟨⟨_,rfl,rfl⟩,trivial⟩|exact⟨⟨_,rfl,rfl⟩,⟨_,rfl,rfl⟩,trivial⟩)) (iY ⟨m0,m1⟩)) rfl ah (aA aG (aA aG aZ)) rfl rfl (p0 _ _ _ _) ?_
   repeat' sizeOf_list_dec
 ·rw[XM hw,XM hw];refine bG (st0:=[Od (.io,.lst [.int a,.int t,.int w]),Od (.loc,.int m),OQ,OQ,OQ]) (f:=.rt .loc (.int (((a % 10 ^ 15+1) * 48271+(t+1) * (t+1) * 16807+(t+1) * 7919) % 2147483647 * 69621 % 2147483629 % m))) (st:=[Od (.io,.lst [.int a,.int (t+1),.int w]),Od (.loc,.int m),OQ,Od (.loc,.int (t+1)),Od (.loc,.int ((a % 10 ^ 15+1) * 48271+(t+1) * (t+1) * 16807+(t+1) * 7919))]) rfl rfl ?_ rfl rfl;refine i5 (rv:=(.loc,.int (t+1))) (rk:=(.loc,.int 1)) (k:=.io) (k':=.io) (aX (aJ (cw rfl) ah (by(first|exact trivial|exact⟨⟨_,rfl,rfl⟩,trivial⟩|exact⟨⟨_,rfl,rfl⟩,⟨_,rfl,rfl⟩,trivial⟩)) (b9 (i1 _ _ _))) ah (by(first|exact trivial|exact⟨⟨_,rfl,rfl⟩,trivial⟩|exact⟨⟨_,rfl,rfl⟩,⟨_,rfl,rfl⟩,trivial⟩)) bj) rfl ah (aA aG (aA aG aZ)) rfl rfl (p1 _ _ _ _) ?_;apply bc
  ·repeat' (first|exact cw rfl|exact b9 (i2 _ _ _)|exact bH (show(w==0)=OR by simp[hw])|sizeOf_list_dec)
  ·exact aw
  ·repeat' (first|exact cw rfl|exact b9 (i0 _ _ _)|exact b9 (i1 _ _ _)|exact cM m0|sizeOf_list_dec)
def Src(T:Int)(u:U):Prop:=∃a t w,u=du a t w/\0<=t/\t<=T
theorem Src.up(h:Src T u)(l:T<=T'):Src T' u:=let ⟨a,t,w,e,h0,h1⟩:=h;⟨a,t,w,e,h0,SX h1 l⟩
def bf(Γ:Tab):Prop:=∀(T m:Int) (u:U),Src T u->T<2 ^ 62->0<m->m<1073741824->∃n u',Γ "_law_draw" [u,.int m]=Od (.ok (.loc,.tup [.int n,u']))/\0<=n/\n<m/\Src (T+1) u'
theorem mM(m0:0<m):0<=jT a t w m/\jT a t w m<m:=by
 unfold jT;split
 ·exact⟨R_ _ ⋯,Sn _ m0⟩
 ·exact⟨R_ _ ⋯,Sn _ m0⟩
theorem uq(h:DL Pg "_law_draw" um):bf (CJ Pg (d+1)):=by
 rintro T m u ⟨a,t,w,rfl,t0,t1⟩ hT m0 m1;refine⟨jT a t w m,du (uj a w m) (t+1) w,?_,(mM m0).1,(mM m0).2,⟨_,_,_,rfl,⋯,⋯⟩⟩;rw[bO h _ rfl];exact uo t0 ⋯ m0 m1
section
theorem bz(hΓ:bf Γ)(h0:st[i]?=Od (Od (k0,u0)))(DB:k0.root=OP)(he:Run (ev Γ e) st (.loc,.int m) st1)(h1:st1[i]?=Od (Od (k,u)))(hk:k.root=OP)(hu:Src T u)(hT:T<2 ^ 62)(m0:0<m)(m1:m<1073741824):
  ∃n u',Run (ev Γ (.B' "_law_draw" [.var i,e] [0])) st (.loc,.int n) (st1.set i (Od (k,u')))/\0<=n/\n<m/\Src (T+1) u':=by
 obtain⟨n,u',e1,n0,n1,hs⟩:=hΓ T m u hu hT m0 m1;refine⟨n,u',?_,n0,n1,hs⟩;obtain⟨a,t,w,rfl,_,_⟩:=hs;obtain⟨a0,t0,w0,rfl,_,_⟩:=hu;have hg:Run (ev Γ (.var i)) st (.bor i,u0) st:=by
  have:=dP h0 (by rintro rfl;cases DB);unfold kv at this;rw[XI DB]at this;exact this
 have hf:[((Kd.bor i,u0):Kd×U),(.loc,.int m)].map (cH st1)=[(.bor i,du a0 t0 w0),(.loc,.int m)]:=by
  show [cH st1 (.bor i,u0),(.loc,.int m)]=_;unfold cH
  dsimp only
  rw[h1];simp[hk]
 refine oq (rs:=[(.bor i,u0),(.loc,.int m)]) (ws:=[du a t w]) (st1:=st1) (af hg (af he ak)) ?_ ?_ (.inr rfl) ?_ ?_
 ·rw[hf];exact⟨⟨k,hk,h1⟩,trivial⟩
 ·rw[hf];exact e1
 ·rw[hf];show((OP&&OX ([Od i].Nodup))&&(OP&&(OP&&OP)))=OP;simp
 ·rw[hf];show(match eW [(Kd.bor i,du a0 t0 w0),(.loc,.int m)] 0 with|some j=>(match du a t w,st1[j]? with|.lst us,Od (Od (k,_))=>eG _ [] [] (st1.set j (Od (k,.lst us)))|_,_=>OQ)|none=>OQ)=_;show(match du a t w,st1[i]? with|.lst us,Od (Od (k,_))=>eG _ [] [] (st1.set i (Od (k,.lst us)))|_,_=>OQ)=_;rw[h1];rfl
end
section
theorem de(h:st[i]?=Od (Od (.loc,.bl b))):Run (Cv Γ (.var i)) st b st:=aa (dP h) (cq rfl)
end
def ur:List S :=
   [.set 6 (.idx (.var 1) (.B' "_law_draw" [.var 0,.bi .len [.var 1]] [0])),
   .ite (.and [.var 3,.cmp .gt (.var 2) (.cst (.int 0))])
    [.set 6 (.idx (.var 1) (.B' "_law_draw" [.var 0,.var 2] [0]))]
    [],
   .ite (.cmp .CA (.var 6) (.var 4))
    [.app 4 (.var 6)]
    []]
def Bo:List U:=[.int 0,.int 1,.int 1,.int 2,.int 2,.int 3,.int 8,.int 2]
def Bp:List S :=
   [.set 4 (.lst []),
    .Cw OR [5] .CV [.idx (.lst [.cst (.int 0),.cst (.int 1),.cst (.int 1),.cst (.int 2),.cst (.int 2),.cst (.int 3),.cst (.int 8),.cst (.int 2)]) (.B' "_law_draw" [.var 0,.cst (.int 8)] [0])] ur,
    .ret (.tup [(.idx (.var 1) (.var 2)),(.bi .tuple [(.var 4)])])]
def Bq:Fn:=⟨"_law_row",4,7,.DK [0]::Bp⟩
def bX(u:U)(ws:List Str)(at_:Int)(b:Bool)(told:List Str)(o5 o6:Option (Kd×U)):ax:=[Od (.io,u),Od (.any,.lst (ws.map .str)),Od (.loc,.int at_),Od (.loc,.bl b),Od (.own,.lst (told.map .str)),o5,o6]
theorem k9{ws:List Str}{n:Int}(h0:0<=n)(h1:n<ws.length):∃x,x∈ws/\ws[n.toNat]?=Od x/\C4 (ws.map U.str) n=Od (.str x):=by
 obtain⟨k,rfl⟩:=P9 h0;have hn:k<ws.length:=by omega
 exact⟨ws[k],QU hn,by simp[hn],kb (by simp[hn])⟩
theorem uu(hΓ:bf Γ)(hu:Src T u)(hT:T+1<2 ^ 62)(hw:ws.length<1000000)(a0:0<=at_)(a1:at_<ws.length)(ht:told.length<=8):
  ∃u' x CM,Run (execs Γ ur) (bX u ws at_ b told o5 o6) .nx (bX u' ws at_ b CM o5 (Od (.any,.str x)))/\Src (T+2) u'/\(CM=told\/(x∈ws/\x∉told/\CM=told++[x])):=by
 have big:(8:Nat)<OV:=by decide
 obtain⟨n,u1,r1,n0,n1,s1⟩:=bz (st:=bX u ws at_ b told o5 o6) (st1:=bX u ws at_ b told o5 o6) hΓ (i:=0) (k:=.io) (k0:=.io) (e:=.bi .len [.var 1]) (m:=((ws.map U.str).length:Nat)) rfl rfl (cu (af (bx rfl) ak) trivial cm) rfl rfl hu ⋯ (by simp;omega) (by simp;omega);rw[OY]at n1;obtain⟨x,hx,_,ex⟩:=k9 n0 n1;have q1:Run (ev Γ (.idx (.var 1) (.B' "_law_draw" [.var 0,.bi .len [.var 1]] [0]))) (bX u ws at_ b told o5 o6) (.any,.str x) (bX u1 ws at_ b told o5 o6):=aJ (bx rfl) r1 trivial (b9 (k:=.any) ex);have fin:∀(u2:U) (y:Str),y∈ws->Src (T+2) u2->∃u' x CM,Run (execs Γ [.ite (.cmp .CA (.var 6) (.var 4)) [.app 4 (.var 6)] []]) (bX u2 ws at_ b told o5 (Od (.any,.str y))) .nx (bX u' ws at_ b CM o5 (Od (.any,.str x)))/\Src (T+2) u'/\(CM=told\/(x∈ws/\x∉told/\CM=told++[x])):=by
  intro u2 y hy hs;by_cases hn:y∈told
  ·refine⟨u2,y,told,?_,hs,.inl rfl⟩;refine bc (aS (bx rfl) (aM rfl) (by(first|exact trivial|exact⟨⟨_,rfl,rfl⟩,trivial⟩|exact⟨⟨_,rfl,rfl⟩,⟨_,rfl,rfl⟩,trivial⟩)) (iZ.trans (by simp[hn]))) aw aw
  ·refine⟨u2,y,told++[y],?_,hs,.inr ⟨hy,hn,rfl⟩⟩;refine b8 (aS (bx rfl) (aM rfl) (by(first|exact trivial|exact⟨⟨_,rfl,rfl⟩,trivial⟩|exact⟨⟨_,rfl,rfl⟩,⟨_,rfl,rfl⟩,trivial⟩)) (iZ.trans (by simp[hn]))) (gJ (k:=.own) (k':=.own) rfl (bx rfl) (pY rfl) rfl rfl (by simp;omega) aw) ?_;rw[show told.map U.str++[U.str y]=(told++[y]).map U.str by simp];exact aw
 by_cases hc:b=OP/\0<at_
 ·obtain⟨rfl,hp⟩:=hc;obtain⟨n',u2,r2,N4,OE,s2⟩:=bz (st:=bX u1 ws at_ OP told o5 (Od (.any,.str x))) (st1:=bX u1 ws at_ OP told o5 (Od (.any,.str x))) hΓ (i:=0) (k:=.io) (k0:=.io) (e:=.var 2) (m:=at_) rfl rfl (ab rfl) rfl rfl s1 ⋯ hp ⋯;obtain⟨y,hy,_,ey⟩:=k9 (ws:=ws) N4 ⋯;obtain⟨u',z,CM,q,hs,ho⟩:=fin u2 y hy (s2.up ⋯);refine⟨u',z,CM,ay q1 iW (b8 (iU (iV (de rfl) (e_ (aS (ab rfl) ah trivial (jP (by simp[hp])))))) (ay (aJ (bx rfl) r2 trivial (b9 (k:=.any) ey)) iW aw) q),hs,ho⟩
 ·obtain⟨u',z,CM,q,hs,ho⟩:=fin u1 x hx (s1.up ⋯);refine⟨u',z,CM,ay q1 iW (bc (st1:=bX u1 ws at_ b told o5 (Od (.any,.str x))) (iU ?_) aw q),hs,ho⟩;cases b with
  |false=>exact oo (de rfl)
  |true=>exact iV (de rfl) (e_ (aS (ab rfl) ah trivial (jP (by simp at hc ⊢;omega))))
def i7(Γ:Tab):Prop:=∀(T at_:Int) (u:U) (ws:List Str) (b:Bool),Src T u->T+17<2 ^ 62->ws.length<1000000->0<=at_->at_<ws.length->∃(x:Str) (told:List Str) (u':U),Γ "_law_row" [u,.lst (ws.map .str),.int at_,.bl b]=Od (.ok (.loc,.tup [.tup [.str x,.tup (told.map .str)],u']))/\ws[at_.toNat]?=Od x/\told.Nodup/\(∀y∈told,y∈ws)/\told.length<=8/\Src (T+17) u'
theorem xj(h0:0<=n)(h1:n<8):∃m:Nat,m<=8/\C4 Bo n=Od (.int (m:Nat)):=by
 obtain⟨k,rfl⟩:=P9 h0;have:k=0\/k=1\/k=2\/k=3\/k=4\/k=5\/k=6\/k=7:=by omega
 rcases this with rfl|rfl|rfl|rfl|rfl|rfl|rfl|rfl
 ·exact⟨0,⋯,rfl⟩
 ·exact⟨1,⋯,rfl⟩
 ·exact⟨1,⋯,rfl⟩
 ·exact⟨2,⋯,rfl⟩
 ·exact⟨2,⋯,rfl⟩
 ·exact⟨3,⋯,rfl⟩
 ·exact⟨8,⋯,rfl⟩
 ·exact⟨2,⋯,rfl⟩
theorem xk(hΓ:bf Γ){ws:List Str}{T at_:Int}(hu:Src T u)(hT:T+17<2 ^ 62)(hw:ws.length<1000000)(a0:0<=at_)(a1:at_<ws.length):
  ∃(x:Str) (told:List Str) (u':U),ez Γ Bq [0] Bp [u,.lst (ws.map .str),.int at_,.bl b]=Od (.ok (.loc,.tup [.tup [.str x,.tup (told.map .str)],u']))/\ws[at_.toNat]?=Od x/\told.Nodup/\(∀y∈told,y∈ws)/\told.length<=8/\Src (T+17) u':=by
 have big:(8:Nat)<OV:=by decide
 obtain⟨x,_,hx,ex⟩:=k9 a0 a1;obtain⟨n,u1,r1,n0,n1,s1⟩:=bz (st:=bX u ws at_ b [] OQ OQ) (st1:=bX u ws at_ b [] OQ OQ) hΓ (i:=0) (k:=.io) (k0:=.io) (e:=.cst (.int 8)) (m:=8) rfl rfl ah rfl rfl hu ⋯ ⋯ ⋯;obtain⟨m,hm,em⟩:=xj n0 n1;obtain⟨st',hf,u2,told,o5,o6,rfl,s2,t1,t2,t3,_⟩:=dR (rs:=[(.loc,.int (m:Nat))]) (t:=OR) (is:=[5]) (body:=execs Γ ur) (λi:Nat=>(Kd.loc,U.int (0+(i:Int)))) (λd r st=>∃(u2:U) (told:List Str) (o5 o6:Option (Kd×U)),st=bX u2 ws at_ b told o5 o6/\Src (T+1+2 * (d.length:Nat)) u2/\told.Nodup/\(∀y∈told,y∈ws)/\told.length<=d.length/\d.length+r.length=m)
  (λd r st _=>trivial) (λd y r st h=>by
   obtain⟨u2,told,o5,o6,rfl,s2,t1,t2,t3,t4⟩:=h;simp only[Pw]at t4;obtain⟨u3,z,CM,q,s3,ho⟩:=uu hΓ (u:=u2) (ws:=ws) (told:=told) (b:=b) (at_:=at_) (o5:=Od (.loc,.int (0+(y:Int)))) (o6:=o6) s2 ⋯ hw a0 a1 ⋯;refine⟨bX u2 ws at_ b told (Od (.loc,.int (0+(y:Int)))) o6,_,aD,q,u3,CM,_,_,rfl,s3.up (by simp;omega),?_⟩;rw[Pp,QI];rcases ho with rfl|⟨h1,h2,rfl⟩
   ·exact⟨t1,t2,⋯,⋯⟩
   ·refine⟨RH.mpr ⟨t1,by simp,λa ha c hc=>by rw[Pf]at hc;subst hc;exact λe=>h2 (e▸ha)⟩,λy hy=>?_,by simp;omega,⋯⟩;rcases Q9.mp hy with hy|hy
    ·exact t2 y hy
    ·rw[Pf]at hy;subst hy;exact h1) (Pl m) [] (bX u1 ws at_ b [] OQ OQ) ⟨u1,[],OQ,OQ,rfl,by simpa using s1,by simp,by simp,by simp,by simp⟩
 rw[PH,Ql]at s2 t3;refine⟨x,told,u2,?_,hx,t1,t2,⋯,s2.up ⋯⟩;refine bG (st0:=[Od (.io,u),Od (.any,.lst (ws.map .str)),Od (.loc,.int at_),Od (.loc,.bl b),OQ,OQ,OQ]) (f:=.rt .loc (.tup [.str x,.tup (told.map .str)])) (st:=bX u2 ws at_ b told o5 o6) rfl ?_ ?_ rfl rfl
 ·obtain⟨_,_,_,rfl,_⟩:=hu;rfl
 refine ay (st2:=bX u ws at_ b [] OQ OQ) (gH ak trivial aZ (Pt _)) cy ?_;refine eL (rs:=[(.loc,.int (m:Nat))]) (af (aJ (x:=(.own,.lst Bo)) (gH (by repeat (first|exact ak|exact af ah (by assumption)|apply af ah)) (by exact trivial) (by repeat (first|exact aZ|apply aA aG)) (by decide)) r1 trivial (b9 em)) ak) trivial (gu ⋯) rfl hf ?_;exact cF (fQ (af (aJ (bx rfl) (ab rfl) trivial (b9 (k:=.any) ex)) (af (cu (af (aM rfl) ak) (by(first|exact trivial|exact⟨⟨_,rfl,rfl⟩,trivial⟩|exact⟨⟨_,rfl,rfl⟩,⟨_,rfl,rfl⟩,trivial⟩)) rfl) ak)) trivial (aA (pY rfl) (aA aG aZ)) (by show 2<=OV;omega)) eJ
theorem Br(hD:bf (CJ Pg d))(h:DL Pg "_law_row" Bq):i7 (CJ Pg (d+1)):=by
 intro T at_ u ws b hu hT hw a0 a1;obtain⟨x,told,u',e,r⟩:=xk hD (b:=b) hu hT hw a0 a1;exact⟨x,told,u',by rw[bO h _ rfl];exact e,r⟩
def x2:List S :=
   [.ite (.and [.cmp .eq (.idx (.var 2) (.cst (.int 0))) (.idx (.var 1) (.cst (.int 0))),.cmp .eq (.bi .sorted [.idx (.var 2) (.cst (.int 1))]) (.bi .sorted [.idx (.var 1) (.cst (.int 1))])])
    [.Eb]
    []]
def Bs:List S:=[.Cw OR [2] .seq [.var 0] x2,.app 0 (.var 1)]
def zS:Fn:=⟨"_law_lay",2,3,.DK [0]::Bs⟩
def eM(rs:List Row)(r:Row)(o:Option (Kd×U)):ax:=[Od (.io,.lst (rs.map Cb)),Od (.loc,Cb r),o]
def layR(rs:List Row)(r:Row):List Row:=if keyOf r∈rs.map keyOf then rs else rs++[r]
theorem uw(hx:x.2.length<64)(hr:r.2.length<64):Run (Cv Γ (.and [.cmp .eq (.idx (.var 2) (.cst (.int 0))) (.idx (.var 1) (.cst (.int 0))),.cmp .eq (.bi .sorted [.idx (.var 2) (.cst (.int 1))]) (.bi .sorted [.idx (.var 1) (.cst (.int 1))])])) (eM rs r (Od (.loc,Cb x))) (OX (keyOf x=keyOf r)) (eM rs r (Od (.loc,Cb x))):=by
 have i0:∀y:Row,dm (.loc,Cb y) (.int 0)=Od (.loc,.str y.1):=λy=>rfl;have i1:∀y:Row,dm (.loc,Cb y) (.int 1)=Od (.loc,.tup (y.2.map .str)):=λy=>rfl;have h1:Run (Cv Γ (.cmp .eq (.idx (.var 2) (.cst (.int 0))) (.idx (.var 1) (.cst (.int 0))))) (eM rs r (Od (.loc,Cb x))) (OX (x.1=r.1)) (eM rs r (Od (.loc,Cb x))):=aS (aJ (ab rfl) ah trivial (i0 x)) (aJ (ab rfl) ah trivial (i0 r)) trivial qa;have h2:Run (Cv Γ (.cmp .eq (.bi .sorted [.idx (.var 2) (.cst (.int 1))]) (.bi .sorted [.idx (.var 1) (.cst (.int 1))]))) (eM rs r (Od (.loc,Cb x))) (OX (aH x.2=aH r.2)) (eM rs r (Od (.loc,Cb x))):=aS (cu (af (aJ (ab rfl) ah trivial (i1 x)) ak) trivial (sorted_strs hx)) (cu (af (aJ (ab rfl) ah trivial (i1 r)) ak) trivial (sorted_strs hr)) trivial uc;have e:OX (keyOf x=keyOf r)=(OX (x.1=r.1)&&OX (aH x.2=aH r.2)):=by
  rw[<-Bool.decide_and];exact decide_eq_decide.mpr (by unfold keyOf;exact Uy ..▸Iff.rfl)
 rw[e];exact iU (ub h1 λ_=>e_ h2)
theorem zT:Run (execs Γ (.Eb::ss)) st (.rt .loc .Ce) st:=w9 (bb)
theorem mN(hr:r.2.length<64):∀(xs:List Row) (o:Option (Kd×U)),(∀x∈xs,x.2.length<64) ->
  ∃o',Run (forM OR [2] (execs Γ x2) [(.bor 0,.lst (rs.map Cb))] (xs.map λx=>(Kd.loc,Cb x))) (eM rs r o) (if keyOf r∈xs.map keyOf then .rt .loc .Ce else .nx) (eM rs r o')
 |[],o,_=>⟨o,by rw[XM (by simp)];exact p7 ⟨⟨_,rfl,rfl⟩,trivial⟩⟩
 |x::xs,o,h=>by
  have ht:=uw (Γ:=Γ) (rs:=rs) (h x (by simp)) hr;by_cases hk:keyOf x=keyOf r
  ·refine⟨Od (.loc,Cb x),?_⟩;rw[XI (by simp[hk])];rw[XO hk]at ht;exact B_ ⟨⟨_,rfl,rfl⟩,trivial⟩ aD (kZ ht zT)
  ·rw[XN hk]at ht;obtain⟨o',q⟩:=mN (Γ:=Γ) (rs:=rs) hr xs (Od (.loc,Cb x)) λy hy=>h y (by simp[hy]);refine⟨o',?_⟩;have hm:(keyOf r∈(x::xs).map keyOf)↔(keyOf r∈xs.map keyOf):=by
    rw[O5,O_];exact⟨λz=>z.resolve_left λe=>hk e.symm,.inr⟩
   rw[show(if keyOf r∈(x::xs).map keyOf then Fl.rt .loc .Ce else Fl.nx)=(if keyOf r∈xs.map keyOf then Fl.rt .loc .Ce else Fl.nx) by simp only[hm]];exact w_ ⟨⟨_,rfl,rfl⟩,trivial⟩ aD (bc ht aw aw) q
theorem xl(hr:r.2.length<64)(h:∀x∈rs,x.2.length<64)(hl:rs.length<1000):ez Γ zS [0] Bs [.lst (rs.map Cb),Cb r]=Od (.ok (.loc,.tup [.Ce,.lst ((layR rs r).map Cb)])):=by
 have big:(1000:Nat)<OV:=by decide
 obtain⟨o',q⟩:=mN (Γ:=Γ) hr rs OQ h;have hs:bS [0] [.lst (rs.map Cb),Cb r] zS.ns=eM rs r OQ:=by
  show [Od (Kd.io,U.lst (rs.map Cb)),Od (if CI (Cb r)=OP then Kd.loc else Kd.any,Cb r),OQ]=_;rw[XI (k8 r)];rfl
 have hi:DV .seq [(Kd.bor 0,U.lst (rs.map Cb))]=Od (rs.map λx=>(Kd.loc,Cb x)):=by
  show Od ((rs.map Cb).map λu=>(kE (.bor 0),u))=_;rw[PK];rfl
 unfold layR;by_cases hk:keyOf r∈rs.map keyOf
 ·rw[XI hk]at q ⊢;exact bG (f:=.rt .loc .Ce) rfl hs (w9 (xX (af (cw rfl) ak) ⟨⟨_,rfl,rfl⟩,trivial⟩ hi rfl q)) rfl rfl
 ·rw[XM hk]at q ⊢;refine bG (f:=.nx) (st:=eM (rs++[r]) r o') rfl hs (eL (af (cw rfl) ak) ⟨⟨_,rfl,rfl⟩,trivial⟩ hi rfl q (gJ (k:=.io) (k':=.io) rfl (ab rfl) aG rfl rfl (by simp;omega) ?_)) rfl rfl;rw[show rs.map Cb++[Cb r]=(rs++[r]).map Cb by simp];exact aw
def i8(Γ:Tab):Prop:=∀(rs:List Row) (r:Row),r.2.length<64->(∀x∈rs,x.2.length<64)->rs.length<1000->Γ "_law_lay" [.lst (rs.map Cb),Cb r]=Od (.ok (.loc,.tup [.Ce,.lst ((layR rs r).map Cb)]))
theorem Bt(h:DL Pg "_law_lay" zS):i8 (CJ Pg (d+1)):=λrs r hr hx hl=>by
 rw[bO h _ rfl];exact xl hr hx hl
def IA:Kd×U->Bool
 |(.bor _,_)=>OR
 |_=>OP
section
theorem mO(h:IA r=OP):cH st r=r:=by
 obtain⟨k,u⟩:=r;cases k<;>first|rfl|cases h
theorem jU(h:IA r=OP):sW js r=OP:=by
 obtain⟨k,u⟩:=r;cases k<;>first|rfl|cases h
theorem mP(h:rs.all IA=OP):aU rs st:=by
 induction rs with
 |nil=>trivial
 |cons r rs ih =>
  obtain⟨k,u⟩:=r;rw[WI,OS]at h;have:=ih h.2;cases k<;>first|exact this|cases h.1
theorem ff(h0:st[i]?=Od (Od (k0,u0)))(DB:k0.root=OP)(he:Run (a9 Γ es) st rs st1)(h1:st1[i]?=Od (Od (k,.lst us)))(hk:k.root=OP)(GX:bJ us=OP)(GY:rs.all IA=OP)
  (h3:Γ f (.lst us::rs.map (·.2))=Od (.ok (kr,.tup [v,.lst Es]))) (K3:kr=.own\/kr=.loc):Run (ev Γ (.B' f (.var i::es) [0])) st (kr,v) (st1.set i (Od (k,.lst Es))):=by
 have hg:Run (ev Γ (.var i)) st (.bor i,u0) st:=by
  have:=dP h0 (by rintro rfl;cases DB);unfold kv at this;rw[XI DB]at this;exact this
 have hb:cH st1 (.bor i,u0)=(.bor i,.lst us):=by
  unfold cH
  dsimp only
  rw[h1];simp[hk]
 have hm:rs.map (cH st1)=rs:=by
  conv=>rhs;rw[<-Ua rs]
  exact QR λr hr=>mO (Pe.mp GY r hr)
 have hf:((Kd.bor i,u0)::rs).map (cH st1)=(.bor i,.lst us)::rs:=by rw[O5,hb,hm]
 have hj:eW ((Kd.bor i,U.lst us)::rs) 0=Od i:=by
  show(if bJ us=OP then Od i else OQ)=_;rw[XI GX]
 refine oq (rs:=(.bor i,u0)::rs) (ws:=[.lst Es]) (st1:=st1) (af hg he) ?_ ?_ K3 ?_ ?_
 ·rw[hf];exact⟨⟨k,hk,h1⟩,mP GY⟩
 ·rw[hf];exact h3
 ·rw[hf];unfold mf;rw[OS,OS];refine⟨⟨by simp[hj],by simp⟩,Pe.mpr λq hq=>?_⟩;cases q with
  |zero=>simp
  |succ q =>
   have hl:q<rs.length:=by have:=QT.mp hq;simpa using this
   rw[Qz];refine .inr (jU ?_);rw[show((Kd.bor i,U.lst us)::rs).getD (q+1) (.loc,.Ce)=rs[q] by simp[RE,hl]];exact Pe.mp GY _ (QU hl)
 ·rw[hf];unfold eG;rw[hj]
  dsimp only
  rw[h1];rfl
end
section
theorem uz(hR:i7 Γ){ws:List Str}(h0:st[i]?=Od (Od (k0,u0)))(DB:k0.root=OP)(hj:st[j]?=Od (Od (kw,.lst (ws.map .str))))(N5:kw=.loc\/kw=.any)(he:Run (ev Γ e) st (.loc,.int at_) st1)(ht:Run (ev Γ t) st1 (.loc,.bl b) st2)
  (h1:st2[i]?=Od (Od (k,u))) (hk:k.root=OP) (hu:Src T u) (hT:T+17<2 ^ 62) (hw:ws.length<1000000) (a0:0<=at_) (a1:at_<ws.length) :
  ∃(r:Row) (u':U),Run (ev Γ (.B' "_law_row" [.var i,.var j,e,t] [0])) st (.loc,Cb r) (st2.set i (Od (k,u')))/\ws[at_.toNat]?=Od r.1/\r.2.Nodup/\(∀y∈r.2,y∈ws)/\r.2.length<=8/\Src (T+17) u':=by
 obtain⟨x,told,u',e1,g1,g2,g3,g4,g5⟩:=hR T at_ u ws b hu hT hw a0 a1;refine⟨(x,told),u',?_,g1,g2,g3,g4,g5⟩;obtain⟨a,t',w,rfl,_,_⟩:=hu;obtain⟨a2,t2,w2,rfl,_,_⟩:=g5;rcases N5 with rfl|rfl
 ·exact ff (rs:=[(.loc,.lst (ws.map .str)),(.loc,.int at_),(.loc,.bl b)]) h0 DB (af (ab hj) (af he (af ht ak))) h1 hk rfl rfl e1 (.inr rfl)
 ·exact ff (rs:=[(.any,.lst (ws.map .str)),(.loc,.int at_),(.loc,.bl b)]) h0 DB (af (bx hj) (af he (af ht ak))) h1 hk rfl rfl e1 (.inr rfl)
theorem uA(hL:i8 Γ)(h0:st[i]?=Od (Od (k0,u0)))(DB:k0.root=OP)(he:Run (ev Γ e) st (.loc,Cb r) st1)(h1:st1[i]?=Od (Od (k,.lst (rs.map Cb))))(hk:k.root=OP)(hr:r.2.length<64)(hx:∀x∈rs,x.2.length<64)(hl:rs.length<1000):
  Run (ev Γ (.B' "_law_lay" [.var i,e] [0])) st (.loc,.Ce) (st1.set i (Od (k,.lst ((layR rs r).map Cb)))) :=
 ff (rs:=[(.loc,Cb r)]) h0 DB (af he ak) h1 hk (bP rs) rfl (hL rs r hr hx hl) (.inr rfl)
theorem x3(h1:Run (ev Γ e) st r st1)(h2:Run (execs Γ ss) st1 f st2):Run (execs Γ (.exp e::ss)) st f st2:=mH (aa h1 bb) h2
def fT(Γ:Tab):Prop:=(∀k:Int,Γ "_law_source" [.lst [],.int k]=Od (.ok (.own,.tup [du k 0 1,.lst []])))/\∀(ns:List Int) (c k:Int),Γ "_law_source" [.lst ((ns++[c]).map .int),.int k]=Od (.ok (.own,.tup [du (c / 2) 0 (c % 2),.lst (ns.map .int)]))
theorem uB(h:DL Pg "_law_source" xi):fT (CJ Pg (d+1)):=⟨λk=>by rw[bO h _ rfl];exact uh,λns c k=>by rw[bO h _ rfl];exact ui⟩
theorem d8:∀ns:List Int,bJ (ns.map U.int)=OP
 |[]=>rfl
 |n::ns=>by show(OP&&bJ (ns.map U.int))=OP;rw[d8 ns];rfl
theorem uC(hS:fT Γ)(h0:st[i]?=Od (Od (k0,u0)))(DB:k0.root=OP)(he:Run (ev Γ e) st (.loc,.int m) st1)(h1:st1[i]?=Od (Od (k,.lst ((ns++[c]).map .int))))(hk:k.root=OP):
  Run (ev Γ (.B' "_law_source" [.var i,e] [0])) st (.own,du (c / 2) 0 (c % 2)) (st1.set i (Od (k,.lst (ns.map .int)))) :=
 ff (rs:=[(.loc,.int m)]) h0 DB (af he ak) h1 hk (d8 _) rfl (hS.2 ns c m) (.inl rfl)
theorem zU(hS:fT Γ)(h0:st[i]?=Od (Od (k0,u0)))(DB:k0.root=OP)(he:Run (ev Γ e) st (.loc,.int m) st1)(h1:st1[i]?=Od (Od (k,.lst [])))(hk:k.root=OP):
  Run (ev Γ (.B' "_law_source" [.var i,e] [0])) st (.own,du m 0 1) (st1.set i (Od (k,.lst []))) :=
 ff (rs:=[(.loc,.int m)]) h0 DB (af he ak) h1 hk rfl rfl (hS.1 m) (.inl rfl)
end
def oy:List S :=
   [.set 6 (.B' "_law_draw" [.var 1,.bi .len [.var 2]] [0]),
   .ite (.cmp .eq (.var 4) (.cst (.int 3)))
    [.set 6 (.bin .mod (.var 5) (.bi .len [.var 2]))]
    [],
   .exp (.B' "_law_lay" [(.var 3),(.B' "_law_row" [(.var 1),(.var 2),(.var 6),(.cmp .gt (.var 4) (.cst (.int 1)))] [0])] [0])]
def oz:List S :=
   [.set 7 (.B' "_law_source" [.var 0,.cst (.int 0)] [0]),
   .exp (.B' "_law_lay" [(.var 3),(.B' "_law_row" [(.var 7),(.var 2),(.B' "_law_draw" [(.var 7),(.bi .len [(.var 2)])] [0]),(.cmp .eq (.var 4) (.cst (.int 2)))] [0])] [0])]
def bV(ns:List Int)(u:U)(ws:List Str)(rs:List Row)(way:Int)(o5 o6 o7:Option (Kd×U)):ax:=[Od (.io,.lst (ns.map .int)),Od (.io,u),Od (.any,.lst (ws.map .str)),Od (.own,.lst (rs.map Cb)),Od (.loc,.int way),o5,o6,o7]
def aR(ws:List Str)(r:Row):Prop:=r.1∈ws/\r.2.Nodup/\(∀y∈r.2,y∈ws)/\r.2.length<=8
def b_(ws:List Str)(rs:List Row):Prop:=(∀r∈rs,aR ws r)/\(rs.map keyOf).Nodup
theorem b_.lay(h:b_ ws rs)(hr:aR ws r):b_ ws (layR rs r):=by
 unfold layR;split
 ·exact h
 ·rename_i hk;refine⟨λx hx=>?_,?_⟩
  ·rcases Q9.mp hx with hx|hx
   ·exact h.1 x hx
   ·rw[Pf]at hx;subst hx;exact hr
  ·rw[Qf];exact RH.mpr ⟨h.2,by simp,λa ha c hc=>by rw[Tz,Pf]at hc;subst hc;exact λe=>hk (e▸ha)⟩
theorem mQ:(layR rs r).length<=rs.length+1:=by
 unfold layR;split
 ·omega
 ·simp
theorem rq(hD:bf Γ)(hR:i7 Γ)(hL:i8 Γ){k:Nat}(hu:Src T u)(hT:T+18<2 ^ 62)(w0:0<ws.length)(hw:ws.length<1000000)(hb:b_ ws rs)(hl:rs.length<1000):
  ∃u' CS E_,Run (execs Γ oy) (bV ns u ws rs way (Od (.loc,.int (0+(k:Int)))) o6 o7) .nx (bV ns u' ws CS way (Od (.loc,.int (0+(k:Int)))) E_ o7)/\Src (T+18) u'/\b_ ws CS/\CS.length<=rs.length+1:=by
 obtain⟨n,u1,r1,n0,n1,s1⟩:=bz (st:=bV ns u ws rs way (Od (.loc,.int (0+(k:Int)))) o6 o7) (st1:=bV ns u ws rs way (Od (.loc,.int (0+(k:Int)))) o6 o7) hD (i:=1) (k:=.io) (k0:=.io) (e:=.bi .len [.var 2]) (m:=((ws.map U.str).length:Nat)) rfl rfl (cu (af (bx rfl) ak) trivial cm) rfl rfl hu ⋯ (by simp;omega) (by simp;omega);rw[OY]at n1;have fin:∀at_:Int,0<=at_->at_<ws.length->∃u' CS E_,Run (execs Γ [.exp (.B' "_law_lay" [.var 3,.B' "_law_row" [.var 1,.var 2,.var 6,.cmp .gt (.var 4) (.cst (.int 1))] [0]] [0])]) (bV ns u1 ws rs way (Od (.loc,.int (0+(k:Int)))) (Od (.loc,.int at_)) o7) .nx (bV ns u' ws CS way (Od (.loc,.int (0+(k:Int)))) E_ o7)/\Src (T+18) u'/\b_ ws CS/\CS.length<=rs.length+1:=by
  intro at_ a0 a1;obtain⟨r,u2,q,g1,g2,g3,g4,g5⟩:=uz (st:=bV ns u1 ws rs way (Od (.loc,.int (0+(k:Int)))) (Od (.loc,.int at_)) o7) (st1:=bV ns u1 ws rs way (Od (.loc,.int (0+(k:Int)))) (Od (.loc,.int at_)) o7) (st2:=bV ns u1 ws rs way (Od (.loc,.int (0+(k:Int)))) (Od (.loc,.int at_)) o7) hR (i:=1) (j:=2) (e:=.var 6) (t:=.cmp .gt (.var 4) (.cst (.int 1))) (k0:=.io) (k:=.io) (kw:=.any) (b:=OX (1<way)) rfl rfl rfl (.inr rfl) (ab rfl) (fP (ab rfl) ah trivial (jP rfl)) rfl rfl s1 ⋯ hw a0 a1;have hr:aR ws r:=⟨P' g1,g2,g3,g4⟩
  exact⟨u2,layR rs r,_,x3 (uA hL (k0:=.own) (k:=.own) (rs:=rs) rfl rfl q rfl rfl ⋯ (λx hx=>by have:=(hb.1 x hx).2.2.2;omega) hl) aw,g5.up ⋯,hb.lay hr,mQ⟩
 by_cases h3:way=3
 ·subst h3;obtain⟨u',CS,E_,q,g⟩:=fin ((0+(k:Int)) % (ws.length:Nat)) (R_ _ ⋯) (Sn _ ⋯);refine⟨u',CS,E_,ay r1 aD (b8 (aS (ab rfl) ah trivial (bH rfl)) (ay (aX (ab rfl) (cu (af (bx rfl) ak) trivial cm) trivial (cM (by simp;omega))) aD aw) ?_),g⟩;rw[OY];exact q
 ·obtain⟨u',CS,E_,q,g⟩:=fin n n0 n1;exact⟨u',CS,E_,ay r1 aD (bc (aS (ab rfl) ah trivial (bH (by simp[h3]))) aw q),g⟩
theorem rA(hS:fT Γ)(hD:bf Γ)(hR:i7 Γ)(hL:i8 Γ)(w0:0<ws.length)(hw:ws.length<1000000)(hb:b_ ws rs)(hl:rs.length<1000):
  ∃CS Fq,Run (execs Γ oz) (bV (ns++[c]) u ws rs way o5 o6 o7) .nx (bV ns u ws CS way o5 o6 Fq)/\b_ ws CS/\CS.length<=rs.length+1:=by
 have q0:=uC (st:=bV (ns++[c]) u ws rs way o5 o6 o7) (st1:=bV (ns++[c]) u ws rs way o5 o6 o7) hS (i:=0) (k0:=.io) (k:=.io) (e:=.cst (.int 0)) (m:=0) rfl rfl ah rfl rfl;have s0:Src 0 (du (c / 2) 0 (c % 2)):=⟨_,_,_,rfl,⋯,⋯⟩
 generalize du (c / 2) 0 (c % 2)=v at q0 s0;obtain⟨n,u1,r1,n0,n1,s1⟩:=bz (st:=bV ns u ws rs way o5 o6 (Od (.own,v))) (st1:=bV ns u ws rs way o5 o6 (Od (.own,v))) hD (i:=7) (k:=.own) (k0:=.own) (e:=.bi .len [.var 2]) (m:=((ws.map U.str).length:Nat)) rfl rfl (cu (af (bx rfl) ak) trivial cm) rfl rfl s0 ⋯ (by simp;omega) (by simp;omega);rw[OY]at n1;obtain⟨r,u2,q,g1,g2,g3,g4,g5⟩:=uz (st:=bV ns u ws rs way o5 o6 (Od (.own,v))) (st1:=bV ns u ws rs way o5 o6 (Od (.own,u1))) (st2:=bV ns u ws rs way o5 o6 (Od (.own,u1))) hR (i:=7) (j:=2) (t:=.cmp .eq (.var 4) (.cst (.int 2))) (k0:=.own) (k:=.own) (kw:=.any) (b:=(way==2)) rfl rfl rfl (.inr rfl) r1 (fP (ab rfl) ah trivial (bH rfl)) rfl rfl s1 ⋯ hw n0 n1;have hr:aR ws r:=⟨P' g1,g2,g3,g4⟩
 exact⟨layR rs r,Od (.own,u2),ay (st2:=bV ns u ws rs way o5 o6 (Od (.own,v))) q0 cy (x3 (uA hL (k0:=.own) (k:=.own) (rs:=rs) rfl rfl q rfl rfl ⋯ (λx hx=>by have:=(hb.1 x hx).2.2.2;omega) hl) aw),hb.lay hr,mQ⟩
def oA:E:=.and [.cmp .gt (.bi .len [.var 0]) (.cst (.int 0)),.cmp .lt (.bi .len [.var 3]) (.cst (.int 60))]
theorem jV:Run (Cv Γ oA) (bV ns u ws rs way o5 o6 o7) (OX (0<ns.length)&&OX (rs.length<60)) (bV ns u ws rs way o5 o6 o7):=by
 refine iU (ub (aS (cu (af (cw rfl) ak) (by(first|exact trivial|exact⟨⟨_,rfl,rfl⟩,trivial⟩|exact⟨⟨_,rfl,rfl⟩,⟨_,rfl,rfl⟩,trivial⟩)) cm) ah trivial (jP ?_)) λ_=>e_ (aS (cu (af (aM rfl) ak) (by(first|exact trivial|exact⟨⟨_,rfl,rfl⟩,trivial⟩|exact⟨⟨_,rfl,rfl⟩,⟨_,rfl,rfl⟩,trivial⟩)) cm) ah trivial (p9 ?_)))
 ·rw[OY];exact decide_eq_decide.mpr ⋯
 ·rw[OY];exact decide_eq_decide.mpr ⋯
theorem oB(hS:fT Γ)(hD:bf Γ)(hR:i7 Γ)(hL:i8 Γ)(w0:0<ws.length)(hw:ws.length<1000000):
  ∀(k f:Nat) (ns:List Int) (rs:List Row) (o7:Option (Kd×U)),ns.length=k->k<f->b_ ws rs->rs.length<=60->∃Dc CS Fq,Run (eh (Cv Γ oA) (execs Γ oz) f) (bV ns u ws rs way o5 o6 o7) .nx (bV Dc u ws CS way o5 o6 Fq)/\b_ ws CS/\CS.length<=60/\Dc.length<=ns.length:=by
 intro k;induction k with
 |zero =>
  intro f ns rs o7 hk hf hb hl;obtain⟨f,rfl⟩:∃g,f=g+1:=⟨f - 1,⋯⟩
  have ht:=jV (Γ:=Γ) (ns:=ns) (u:=u) (ws:=ws) (rs:=rs) (way:=way) (o5:=o5) (o6:=o6) (o7:=o7);rw[XN (show ¬0<ns.length by omega)]at ht;exact⟨ns,rs,o7,qd ht,hb,hl,O2 _⟩
 |succ k ih =>
  intro f ns rs o7 hk hf hb hl;obtain⟨f,rfl⟩:∃g,f=g+1:=⟨f - 1,⋯⟩
  have ht:=jV (Γ:=Γ) (ns:=ns) (u:=u) (ws:=ws) (rs:=rs) (way:=way) (o5:=o5) (o6:=o6) (o7:=o7);rw[XO (show 0<ns.length by omega)]at ht;by_cases h6:rs.length<60
  ·rw[XO h6]at ht;obtain⟨ms,c,rfl⟩:∃ms c,ns=ms++[c]:=by
    have Ds:ns≠[]:=λe=>by rw[e]at hk;cases hk
    exact⟨ns.dropLast,ns.getLast Ds,(Ug Ds).symm⟩
   have hm:ms.length=k:=by simpa using hk
   obtain⟨N6,N7,q1,b1,l1⟩:=rA (u:=u) (ws:=ws) (way:=way) (o5:=o5) (o6:=o6) (o7:=o7) (ns:=ms) (c:=c) hS hD hR hL w0 hw hb ⋯;obtain⟨Dc,CS,Fq,q2,b2,l2,l3⟩:=ih f ms N6 N7 hm ⋯ b1 ⋯;exact⟨Dc,CS,Fq,uf ht q1 q2,b2,l2,by simp;omega⟩
  ·rw[XN h6]at ht;exact⟨ns,rs,o7,qd ht,hb,hl,O2 _⟩
def x4:List S :=
   [.set 3 (.lst []),
    .set 4 (.B' "_law_draw" [.var 1,.cst (.int 4)] [0]),
    .Cw OR [5] .CV [.B' "_law_draw" [.var 1,.cst (.int 25)] [0]] oy,
    .EZ oA oz,
    .ret (.bi .tuple [(.var 3)])]
def qg:Fn:=⟨"_law_book",3,8,.DK [0,1]::x4⟩
theorem oC(hS:fT Γ)(hD:bf Γ)(hR:i7 Γ)(hL:i8 Γ){ns:List Int}(hu:Src T u)(hT:T+500<2 ^ 62)(hn:ns.length<1000)(w0:0<ws.length)(hw:ws.length<1000000):
  ∃(rs:List Row) (Dc:List Int) (u':U),ez Γ qg [0,1] x4 [.lst (ns.map .int),u,.lst (ws.map .str)]=Od (.ok (.loc,.tup [.tup (rs.map Cb),.lst (Dc.map .int),u']))/\b_ ws rs/\rs.length<=60/\Dc.length<=ns.length/\Src (T+500) u':=by
 have big:(60:Nat)<OV:=by decide
 obtain⟨way,u1,r1,_,_,s1⟩:=bz (st:=[Od (.io,.lst (ns.map .int)),Od (.io,u),Od (.any,.lst (ws.map .str)),Od (.own,.lst []),OQ,OQ,OQ,OQ]) (st1:=[Od (.io,.lst (ns.map .int)),Od (.io,u),Od (.any,.lst (ws.map .str)),Od (.own,.lst []),OQ,OQ,OQ,OQ]) hD (i:=1) (k:=.io) (k0:=.io) (e:=.cst (.int 4)) (m:=4) rfl rfl ah rfl rfl hu ⋯ ⋯ ⋯;obtain⟨m,u2,r2,m0,m1,s2⟩:=bz (st:=bV ns u1 ws [] way OQ OQ OQ) (st1:=bV ns u1 ws [] way OQ OQ OQ) hD (i:=1) (k:=.io) (k0:=.io) (e:=.cst (.int 25)) (m:=25) rfl rfl ah rfl rfl s1 ⋯ ⋯ ⋯;obtain⟨m,rfl⟩:=P9 m0;obtain⟨st',hf,u3,GZ,o5,o6,rfl,s3,b3,l3,_⟩:=dR (rs:=[(.loc,.int (m:Nat))]) (t:=OR) (is:=[5]) (body:=execs Γ oy) (λi:Nat=>(Kd.loc,U.int (0+(i:Int)))) (λd r st=>∃(u3:U) (GZ:List Row) (o5 o6:Option (Kd×U)),st=bV ns u3 ws GZ way o5 o6 OQ/\Src (T+2+18 * (d.length:Nat)) u3/\b_ ws GZ/\GZ.length<=d.length/\d.length+r.length=m)
  (λd r st _=>trivial) (λd y r st h=>by
   obtain⟨u3,GZ,o5,o6,rfl,s3,b3,l3,t4⟩:=h;simp only[Pw]at t4;obtain⟨u4,N8,E_,q,s4,b4,l4⟩:=rq (ns:=ns) (way:=way) (k:=y) (o6:=o6) (o7:=OQ) hD hR hL s3 ⋯ w0 hw b3 ⋯;refine⟨bV ns u3 ws GZ way (Od (.loc,.int (0+(y:Int)))) o6 OQ,_,aD,q,u4,N8,_,_,rfl,s4.up (by simp;omega),b4,?_,?_⟩
   ·simp;omega
   ·simp;omega) (Pl m) [] (bV ns u2 ws [] way OQ OQ OQ) ⟨u2,[],OQ,OQ,rfl,s2.up (by simp;omega),⟨by simp,by simp⟩,by simp,by simp⟩
 rw[PH,Ql]at s3 l3;obtain⟨Dc,CS,Fq,q4,b4,l4,l5⟩:=oB hS hD hR hL (u:=u3) (way:=way) (o5:=o5) (o6:=o6) w0 hw ns.length fuel ns GZ OQ rfl (by unfold fuel;omega) b3 ⋯;refine⟨CS,Dc,u3,?_,b4,l4,l5,s3.up ⋯⟩;refine bG (st0:=[Od (.io,.lst (ns.map .int)),Od (.io,u),Od (.any,.lst (ws.map .str)),OQ,OQ,OQ,OQ,OQ]) (f:=.rt .loc (.tup (CS.map Cb))) (st:=bV Dc u3 ws CS way o5 o6 Fq) rfl ?_ ?_ rfl rfl
 ·obtain⟨_,_,_,rfl,_⟩:=hu;rfl
 refine ay (gH ak trivial aZ (Pt _)) cy (ay r1 aD ?_);refine eL (rs:=[(.loc,.int (m:Nat))]) (af r2 ak) trivial (gu ⋯) rfl hf (ug q4 ?_);exact cF (cu (af (aM rfl) ak) (by(first|exact trivial|exact⟨⟨_,rfl,rfl⟩,trivial⟩|exact⟨⟨_,rfl,rfl⟩,⟨_,rfl,rfl⟩,trivial⟩)) rfl) eJ
end TM
namespace TM
open PySem L2 CQ
theorem uD{cond:M Bool}(it:α->Kd×U)(I:List α->List α->List U->ax->Prop)(hs:∀d r a st,I d r a st->aU src st)
  (V4:∀d y q a st,I d (y::q) a st->∃s1 s2 s3 s4 r u,Run (cU t (Pl k) (it y)) (Pc k OQ++st) () s1/\Run cond s1 OP s2/\Run elt s2 r s3/\Run (lift r) s3 u s4/\I (d++[y]) q (a++[u]) (s4.drop k)) :
  ∀(ys d:List α) (acc:List U) (st:ax),I d ys acc st->acc.length+ys.length<=OV->∃us st',Run (bA k t cond elt src (ys.map it) acc) st us st'/\I (d++ys) [] us st'
 |[],d,acc,st,h,_=>⟨acc,st,p8 (hs _ _ _ _ h),by rw[Qn];exact h⟩
 |y::ys,d,acc,st,h,hl=>by
  rw[Pw]at hl;obtain⟨s1,s2,s3,s4,r,u,h1,h2,h3,h4,h5⟩:=V4 d y ys acc st h;obtain⟨us,st',h6,h7⟩:=uD it I hs V4 ys (d++[y]) (acc++[u]) _ h5 (by simp;omega);exact⟨us,st',k5 (hs _ _ _ _ h) h1 h2 h3 h4 ⋯ h6,by simpa using h7⟩
theorem mR(h0:0<=n)(h1:n<26):∃c,C4 small.cps.toList n=Od c:=by
 obtain⟨k,rfl⟩:=P9 h0;have hl:small.cps.toList.length=26:=by decide
 exact⟨small.cps.toList[k]'⋯,kb (by simp)⟩
theorem uE(hD:bf Γ)(hu:Src T u)(hT:T+8<2 ^ 62):
  ∃x u',Run (ev Γ (.Fj .join (.cst (.str "")) [.comp 1 OR .CV [.cst (.int 8)] [] (.idx (.var 2) (.B' "_law_draw" [.var 1,.cst (.int 26)] [0]))])) (Od (.io,u)::Od (.loc,.str small)::rest) (.loc,.str x) (Od (.io,u')::Od (.loc,.str small)::rest)/\x.length=8/\Src (T+8) u':=by
 have big:(100:Nat)<=OV:=by decide
 obtain⟨us,st',hc,u',cs,rfl,rfl,hl,hs,_⟩:=uD (k:=1) (t:=OR) (cond:=aP Γ []) (elt:=ev Γ (.idx (.var 2) (.B' "_law_draw" [.var 1,.cst (.int 26)] [0]))) (src:=[(.loc,.int (8:Nat))]) (λi:Nat=>(Kd.loc,U.int (0+(i:Int))))
  (λd r a st=>∃(u':U) (cs:List Nat),st=Od (.io,u')::Od (.loc,.str small)::rest/\a=(cs.map CQ.one).map U.str/\cs.length=d.length/\Src (T+(d.length:Nat)) u'/\d.length+r.length=8) (λ_ _ _ _ _=>trivial)
  (λd y q a st h=>by
   obtain⟨u',cs,rfl,rfl,hl,hs,h8⟩:=h;rw[Pw]at h8;obtain⟨n,u2,r,n0,n1,s2⟩:=bz (st:=Od (.loc,.int (0+(y:Int)))::Od (.io,u')::Od (.loc,.str small)::rest) (st1:=Od (.loc,.int (0+(y:Int)))::Od (.io,u')::Od (.loc,.str small)::rest) hD (i:=1) (k:=.io) (k0:=.io) (e:=.cst (.int 26)) (m:=26) rfl rfl ah rfl rfl hs ⋯ ⋯ ⋯;obtain⟨c,hc⟩:=mR n0 n1;refine⟨_,_,_,_,_,_,iX aD,gI,aJ (ab rfl) r trivial (kg mK hc),aG,u2,cs++[c],rfl,by simp,by simp[hl],s2.up (by simp;omega),by simp;omega⟩)
  (Pl 8) [] [] (Od (.io,u)::Od (.loc,.str small)::rest) ⟨u,[],rfl,rfl,rfl,by simpa using hu,by simp⟩ (by simp;omega)
 rw[PH,Ql]at hl hs;have IB:iJ .join (.str "") [(.own,.lst ((cs.map CQ.one).map U.str))]=Od (.loc,.str (Tc PL (cs.map CQ.one))):=by
  show(strsOf ((cs.map CQ.one).map U.str)).bind _=_;rw[gv];show(if Wz PL (cs.map CQ.one)=OP then _ else _)=_;rw[XI (CQ.mI cs ⋯)];rfl
 refine⟨Tc PL (cs.map CQ.one),u',t6 ah (af (dc (af ah ak) trivial (gu (n:=8) ⋯) hc) ak) trivial IB,?_,hs⟩;show(Tc PL (cs.map CQ.one)).cps.size=8;rw[<-Pq,CQ.join_ones,hl]
def uF:List S:=[.app 7 (.ite (.cmp .eq (.var 10) (.cst (.int 1))) (.var 9) (.bin .add (.bin .add (.var 9) (.cst (.str "/"))) (.bi .str [.var 10])))]
def uG:List S :=
   .ite (.cmp .eq (.var 4) (.cst (.int 3)))
    [.set 10 (.bin .add (.cst (.int 1)) (.B' "_law_draw" [.var 0,.cst (.int 99)] [0]))]
    []::uF
def uH:List S :=
   .ite (.cmp .gt (.var 4) (.cst (.int 1)))
    [.set 9 (.bin .add (.idx (.var 1) (.bin .mod (.bin .add (.var 6) (.bin .mul (.cst (.int 7)) (.var 8))) (.cst (.int 26)))) (.EC (.var 3) [.cst (.int 1)] [.var 5])),
    .set 10 (.cst (.int 1))]
    []::uG
def oD:List S :=
   .set 9 (.EC (.var 3) [] [.bin .add (.cst (.int 1)) (.bin .mod (.var 8) (.cst (.int 8)))]) ::
   .set 10 (.bin .add (.cst (.int 1)) (.bin .Fi (.var 8) (.cst (.int 8)))) ::
   .ite (.cmp .eq (.var 4) (.cst (.int 1)))
    [.set 9 (.EC (.var 3) [] [.var 5]),
    .set 10 (.bin .add (.cst (.int 1)) (.var 8))]
    []::uH
def uI:List S :=
   [.set 1 (.cst (.str "abcdefghijklmnopqrstuvwxyz")),
    .set 2 (.bin .add (.cst (.int 1)) (.B' "_law_draw" [.var 0,.idx (.lst [.cst (.int 8),.cst (.int 16),.cst (.int 24)]) (.B' "_law_draw" [.var 0,.cst (.int 3)] [0])] [0])),
    .set 3 (.Fj .join (.cst (.str "")) [.comp 1 OR .CV [.cst (.int 8)] [] (.idx (.var 2) (.B' "_law_draw" [.var 1,.cst (.int 26)] [0]))]),
    .set 4 (.B' "_law_draw" [.var 0,.cst (.int 4)] [0]),
    .set 5 (.bin .add (.cst (.int 1)) (.B' "_law_draw" [.var 0,.cst (.int 8)] [0])),
    .set 6 (.B' "_law_draw" [.var 0,.cst (.int 26)] [0]),
    .set 7 (.lst []),
    .Cw OR [8] .CV [.var 2] oD,
    .ret (.var 7)]
def mS:Fn:=⟨"_law_words",1,11,.DK [0]::uI⟩
def fU(u:U)(many:Int)(base:Str)(way size first:Int)(acc:List Str)(o8 o9 o10:Option (Kd×U)):ax:=[Od (.io,u),Od (.loc,.str small),Od (.loc,.int many),Od (.loc,.str base),Od (.loc,.int way),Od (.loc,.int size),Od (.loc,.int first),Od (.own,.lst (acc.map .str)),o8,o9,o10]
theorem g9(h:x.length<=OV):l_ (k,.str x) lo hi=Od (.loc,.str (PySem.StrLaws.sliceText x lo hi)):=by
 show(if x.length<=OV then _ else _)=_;rw[XI h]
theorem jW(ha:acc.length<1000)(hw:w.length<=9)(s0:1<=s)(s1:s<=99):
  ∃x,Run (execs Γ uF) (fU u many base way size first acc o8 (Od (.loc,.str w)) (Od (.loc,.int s))) .nx (fU u many base way size first (acc++[x]) o8 (Od (.loc,.str w)) (Od (.loc,.int s))):=by
 have big:(1000:Nat)<=OV:=by decide
 by_cases h:s=1
 ·subst h;refine⟨w,gJ (k:=.own) (k':=.own) rfl (zJ (aS (ab rfl) ah trivial (bH rfl)) (ab rfl)) aG rfl rfl (by simp;omega) ?_⟩;rw[show acc.map U.str++[U.str w]=(acc++[w]).map U.str by simp];exact aw
 ·have OF:=rn (k:=s) ⋯ s1;have GO:DO .str [(.loc,.int s)]=Od (.loc,.str (sr s)):=by
   simp only[DO,dn,v8];rw[XI (by
    have:s.natAbs<2 ^ 7:=by omega
    have h2:s.natAbs≠0:=by omega
    have:=(Nat.log2_lt h2).mpr this;omega)]
   rfl
  have K4:(w++("/":Str)).length=w.length+1:=by rw[len_list,len_list,app_list,Pp];rfl
  refine⟨w++("/":Str)++sr s,gJ (k:=.own) (k':=.own) rfl (zK (aS (ab rfl) ah trivial (bH (by simp[h]))) (aX (aX (ab rfl) ah trivial (k6 (by show w.length+1<=OV;omega))) (cu (af (ab rfl) ak) trivial GO) trivial (k6 (by rw[K4];omega)))) aG rfl rfl (by simp;omega) ?_⟩;rw[show acc.map U.str++[U.str (w++("/":Str)++sr s)]=(acc++[w++("/":Str)++sr s]).map U.str by simp];exact aw
theorem jX(hD:bf Γ)(hu:Src T u)(hT:T+1<2 ^ 62)(ha:acc.length<1000)(hw:w.length<=9)(s0:1<=s)(s1:s<=99):
  ∃u' x o9 o10,Run (execs Γ uG) (fU u many base way size first acc o8 (Od (.loc,.str w)) (Od (.loc,.int s))) .nx (fU u' many base way size first (acc++[x]) o8 o9 o10)/\Src (T+1) u':=by
 by_cases h:way=3
 ·subst h;obtain⟨n,u1,r1,n0,n1,h1⟩:=bz (st:=fU u many base 3 size first acc o8 (Od (.loc,.str w)) (Od (.loc,.int s))) (st1:=fU u many base 3 size first acc o8 (Od (.loc,.str w)) (Od (.loc,.int s))) hD (i:=0) (k:=.io) (k0:=.io) (e:=.cst (.int 99)) (m:=99) rfl rfl ah rfl rfl hu ⋯ ⋯ ⋯;obtain⟨x,q⟩:=jW (Γ:=Γ) (u:=u1) (many:=many) (base:=base) (way:=3) (size:=size) (first:=first) (acc:=acc) (o8:=o8) (w:=w) (s:=1+n) ha hw ⋯ ⋯;exact⟨u1,x,_,_,b8 (aS (ab rfl) ah trivial (bH rfl)) (ay (aX ah r1 trivial bj) aD aw) q,h1⟩
 ·obtain⟨x,q⟩:=jW (Γ:=Γ) (u:=u) (many:=many) (base:=base) (way:=way) (size:=size) (first:=first) (acc:=acc) (o8:=o8) (w:=w) (s:=s) ha hw s0 s1;exact⟨u,x,_,_,bc (aS (ab rfl) ah trivial (bH (by simp[h]))) aw q,hu.up ⋯⟩
theorem jY(hD:bf Γ){k:Nat}(hu:Src T u)(hT:T+1<2 ^ 62)(ha:acc.length<1000)(hw:w.length<=9)(s0:1<=s)(s1:s<=99)(hb:base.length=8)(z0:1<=size)(z1:size<=8)(f0:0<=first)(f1:first<26)(hk:k<1000):
  ∃u' x o9 o10,Run (execs Γ uH) (fU u many base way size first acc (Od (.loc,.int (0+(k:Int)))) (Od (.loc,.str w)) (Od (.loc,.int s))) .nx (fU u' many base way size first (acc++[x]) (Od (.loc,.int (0+(k:Int)))) o9 o10)/\Src (T+1) u':=by
 have big:(1000:Nat)<=OV:=by decide
 by_cases h:1<way
 ·have Jb:0<=(first+7 * (0+(k:Int))) % 26:=R_ _ ⋯;have Kz:(first+7 * (0+(k:Int))) % 26<26:=Sn _ ⋯;obtain⟨c,hc⟩:=mR Jb Kz;have OG:=len_list base;have OH:(PySem.StrLaws.sliceText base (Od 1) (Od size)).length<=8:=by
   rw[PySem.StrLaws.sliceText_plain ⟨⋯,z0,⋯⟩,len_list];simp;omega
  have EV:(CQ.one c).length=1:=rfl;have HD:(CQ.one c++PySem.StrLaws.sliceText base (Od 1) (Od size)).length<=9:=by rw[len_list,app_list,Pp,<-len_list,<-len_list];omega
  obtain⟨u',x,o9,o10,q,hs⟩:=jX (Γ:=Γ) hD (u:=u) (many:=many) (base:=base) (way:=way) (size:=size) (first:=first) (acc:=acc) (o8:=Od (.loc,.int (0+(k:Int)))) (w:=CQ.one c++PySem.StrLaws.sliceText base (Od 1) (Od size)) (s:=1) hu hT ha HD ⋯ ⋯;refine⟨u',x,o9,o10,b8 (aS (ab rfl) ah trivial (jP (by simp[h]))) (ay (aX (aJ (ab rfl) (aX (aX (ab rfl) (aX ah (ab rfl) trivial (ia ⋯)) trivial bj) ah trivial (cM ⋯)) trivial (kg mK hc)) (mF (ab rfl) (jN ah) (jN (ab rfl)) trivial (g9 ⋯)) trivial (k6 ⋯)) aD (ay ah aD aw)) q,hs⟩
 ·obtain⟨u',x,o9,o10,q,hs⟩:=jX (Γ:=Γ) hD (u:=u) (many:=many) (base:=base) (way:=way) (size:=size) (first:=first) (acc:=acc) (o8:=Od (.loc,.int (0+(k:Int)))) (w:=w) (s:=s) hu hT ha hw s0 s1;exact⟨u',x,o9,o10,bc (aS (ab rfl) ah trivial (jP (by simp[h]))) aw q,hs⟩
theorem uJ(h0:0<=j)(hx:x.length=8):(PySem.StrLaws.sliceText x OQ (Od j)).length<=9:=by
 obtain⟨j,rfl⟩:=P9 h0;have h:=len_list (PySem.StrLaws.sliceText x OQ (Od (j:Int)));have hl:=len_list x;rw[zO]at h;rw[h,Qa];omega
theorem rB(hD:bf Γ){k:Nat}(hu:Src T u)(hT:T+1<2 ^ 62)(ha:acc.length<1000)(hb:base.length=8)(z0:1<=size)(z1:size<=8)(f0:0<=first)(f1:first<26)(hk:k<98):
  ∃u' x L5 IC,Run (execs Γ oD) (fU u many base way size first acc (Od (.loc,.int (0+(k:Int)))) o9 o10) .nx (fU u' many base way size first (acc++[x]) (Od (.loc,.int (0+(k:Int)))) L5 IC)/\Src (T+1) u':=by
 have big:(1000:Nat)<=OV:=by decide
 have Jb:0<=(0+(k:Int)) % 8:=R_ _ ⋯;by_cases h:way=1
 ·obtain⟨u',x,o9,o10,q,hs⟩:=jY (Γ:=Γ) hD (u:=u) (many:=many) (base:=base) (way:=way) (size:=size) (first:=first) (acc:=acc) (k:=k) (w:=PySem.StrLaws.sliceText base OQ (Od size)) (s:=1+(0+(k:Int))) hu hT ha (uJ ⋯ hb) ⋯ ⋯ hb z0 z1 f0 f1 ⋯;exact⟨u',x,o9,o10,ay (mF (ab rfl) pW (jN (aX ah (aX (ab rfl) ah trivial (cM ⋯)) trivial bj)) trivial (g9 ⋯)) aD (ay (aX ah (aX (ab rfl) ah trivial (iY ⋯)) trivial bj) aD (b8 (aS (ab rfl) ah trivial (bH (by simp[h]))) (ay (mF (ab rfl) pW (jN (ab rfl)) trivial (g9 ⋯)) aD (ay (aX ah (ab rfl) trivial bj) aD aw)) q)),hs⟩
 ·obtain⟨u',x,o9,o10,q,hs⟩:=jY (Γ:=Γ) hD (u:=u) (many:=many) (base:=base) (way:=way) (size:=size) (first:=first) (acc:=acc) (k:=k) (w:=PySem.StrLaws.sliceText base OQ (Od (1+(0+(k:Int)) % 8))) (s:=1+(0+(k:Int)) / 8) hu hT ha (uJ ⋯ hb) ⋯ ⋯ hb z0 z1 f0 f1 ⋯;exact⟨u',x,o9,o10,ay (mF (ab rfl) pW (jN (aX ah (aX (ab rfl) ah trivial (cM ⋯)) trivial bj)) trivial (g9 ⋯)) aD (ay (aX ah (aX (ab rfl) ah trivial (iY ⋯)) trivial bj) aD (bc (aS (ab rfl) ah trivial (bH (by simp[h]))) aw q)),hs⟩
theorem Ca(h0:0<=n)(h1:n<3):∃m:Int,8<=m/\m<=24/\C4 [U.int 8,.int 16,.int 24] n=Od (.int m):=by
 obtain⟨k,rfl⟩:=P9 h0;have:k=0\/k=1\/k=2:=by omega
 rcases this with rfl|rfl|rfl
 ·exact⟨8,⋯,⋯,rfl⟩
 ·exact⟨16,⋯,⋯,rfl⟩
 ·exact⟨24,⋯,⋯,rfl⟩
theorem rC(hD:bf Γ)(hu:Src T u)(hT:T+100<2 ^ 62):
  ∃(ws:List Str) (u':U),ez Γ mS [0] uI [u]=Od (.ok (.own,.tup [.lst (ws.map .str),u']))/\1<=ws.length/\ws.length<=24/\Src (T+100) u':=by
 have big:(1000:Nat)<=OV:=by decide
 let S1:U->ax:=λv=>[Od (.io,v),Od (.loc,.str small),OQ,OQ,OQ,OQ,OQ,OQ,OQ,OQ,OQ]
 obtain⟨i,u1,r1,i0,i1,s1⟩:=bz (st:=S1 u) (st1:=S1 u) hD (i:=0) (k:=.io) (k0:=.io) (e:=.cst (.int 3)) (m:=3) rfl rfl ah rfl rfl hu ⋯ ⋯ ⋯;obtain⟨m,m0,m1,em⟩:=Ca i0 i1;obtain⟨n,u2,r2,n0,n1,s2⟩:=bz (st:=S1 u) (st1:=S1 u1) hD (i:=0) (k:=.io) (k0:=.io) (e:=.idx (.lst [.cst (.int 8),.cst (.int 16),.cst (.int 24)]) (.B' "_law_draw" [.var 0,.cst (.int 3)] [0])) (m:=m) rfl rfl (aJ (x:=(.own,.lst [U.int 8,.int 16,.int 24])) (gH (af ah (af ah (af ah ak))) trivial (aA aG (aA aG (aA aG aZ))) (by show 3<=OV;omega)) r1 trivial (b9 em)) rfl rfl s1 ⋯ ⋯ ⋯;obtain⟨base,u3,r3,hb,s3⟩:=uE (rest:=[Od (.loc,.int (1+n)),OQ,OQ,OQ,OQ,OQ,OQ,OQ,OQ]) hD s2 ⋯;obtain⟨way,u4,r4,_,_,s4⟩:=bz (st:=[Od (.io,u3),Od (.loc,.str small),Od (.loc,.int (1+n)),Od (.loc,.str base),OQ,OQ,OQ,OQ,OQ,OQ,OQ]) (st1:=[Od (.io,u3),Od (.loc,.str small),Od (.loc,.int (1+n)),Od (.loc,.str base),OQ,OQ,OQ,OQ,OQ,OQ,OQ]) hD (i:=0) (k:=.io) (k0:=.io) (e:=.cst (.int 4)) (m:=4) rfl rfl ah rfl rfl s3 ⋯ ⋯ ⋯;obtain⟨size,u5,r5,z0,z1,s5⟩:=bz (st:=[Od (.io,u4),Od (.loc,.str small),Od (.loc,.int (1+n)),Od (.loc,.str base),Od (.loc,.int way),OQ,OQ,OQ,OQ,OQ,OQ]) (st1:=[Od (.io,u4),Od (.loc,.str small),Od (.loc,.int (1+n)),Od (.loc,.str base),Od (.loc,.int way),OQ,OQ,OQ,OQ,OQ,OQ]) hD (i:=0) (k:=.io) (k0:=.io) (e:=.cst (.int 8)) (m:=8) rfl rfl ah rfl rfl s4 ⋯ ⋯ ⋯;obtain⟨first,u6,r6,f0,f1,s6⟩:=bz (st:=[Od (.io,u5),Od (.loc,.str small),Od (.loc,.int (1+n)),Od (.loc,.str base),Od (.loc,.int way),Od (.loc,.int (1+size)),OQ,OQ,OQ,OQ,OQ]) (st1:=[Od (.io,u5),Od (.loc,.str small),Od (.loc,.int (1+n)),Od (.loc,.str base),Od (.loc,.int way),Od (.loc,.int (1+size)),OQ,OQ,OQ,OQ,OQ]) hD (i:=0) (k:=.io) (k0:=.io) (e:=.cst (.int 26)) (m:=26) rfl rfl ah rfl rfl s5 ⋯ ⋯ ⋯;obtain⟨many,ID⟩:=P9 (show 0<=1+n by omega);obtain⟨st',hf,u7,ws,o8,o9,o10,rfl,s7,l7,_⟩:=dR (rs:=[(.loc,.int (1+n))]) (t:=OR) (is:=[8]) (body:=execs Γ oD) (λi:Nat=>(Kd.loc,U.int (0+(i:Int)))) (λd r st=>∃(u3:U) (ws:List Str) (o8 o9 o10:Option (Kd×U)),st=fU u3 (1+n) base way (1+size) first ws o8 o9 o10/\Src (T+13+(d.length:Nat)) u3/\ws.length=d.length/\∃j,d=Xf 0 j/\r=Xf j (many - j)/\j<=many)
  (λd r st _=>trivial) (λd y r st h=>by
   obtain⟨u3,ws,o8,o9,o10,rfl,s3,l3,j,rfl,er,hj⟩:=h;have OI:j<many:=by
    rcases Nat.lt_or_ge j many with z|z
    ·exact z
    ·rw[show many - j=0 by omega]at er;cases er
   rw[show many - j=(many - (j+1))+1 by omega,List.range'_succ]at er;cases er;rw[List.length_range']at s3 l3;obtain⟨u4,x,L5,IC,q,s4⟩:=rB (Γ:=Γ) hD (u:=u3) (many:=1+n) (base:=base) (way:=way) (size:=1+size) (first:=first) (acc:=ws) (k:=y) (o9:=o9) (o10:=o10) s3 ⋯ ⋯ hb ⋯ ⋯ f0 f1 ⋯;refine⟨fU u3 (1+n) base way (1+size) first ws (Od (.loc,.int (0+(y:Int)))) o9 o10,_,aD,q,u4,ws++[x],_,_,_,rfl,s4.up (by simp;omega),by simp[l3],y+1,by have:=@List.range'_1_concat 0 y;simpa using this.symm,rfl,⋯⟩) (Pl many) [] (fU u6 (1+n) base way (1+size) first [] OQ OQ OQ) ⟨u6,[],OQ,OQ,OQ,rfl,s6.up (by simp;omega),by simp,0,rfl,by rw[List.range_eq_range'];simp,⋯⟩
 rw[PH,Ql]at s7 l7;refine⟨ws,u7,?_,⋯,⋯,s7.up ⋯⟩;refine bG (st0:=[Od (.io,u),OQ,OQ,OQ,OQ,OQ,OQ,OQ,OQ,OQ,OQ]) (f:=.rt .own (.lst (ws.map .str))) (st:=(fU u7 (1+n) base way (1+size) first ws o8 o9 o10).set 7 OQ) rfl ?_ ?_ rfl rfl
 ·obtain⟨_,_,_,rfl,_⟩:=hu;rfl
 refine ay (st2:=S1 u) ah aD (ay (aX ah r2 trivial bj) aD (ay r3 aD (ay r4 aD (ay (aX ah r5 trivial bj) aD (ay r6 aD (ay (gH ak trivial aZ (Pt _)) cy ?_))))));refine eL (rs:=[(.loc,.int (1+n))]) (xs:=(Pl many).map λi:Nat=>(Kd.loc,U.int (0+(i:Int)))) (af (ab rfl) ak) trivial (by rw[ID];exact gu ⋯) rfl hf (cF (aM rfl) (mG rfl))
def k_(Γ:Tab):Prop:=∀(T:Int) (u:U),Src T u->T+100<2 ^ 62->∃(ws:List Str) (u':U),Γ "_law_words" [u]=Od (.ok (.own,.tup [.lst (ws.map .str),u']))/\1<=ws.length/\ws.length<=24/\Src (T+100) u'
theorem xm(hD:bf (CJ Pg d))(h:DL Pg "_law_words" mS):k_ (CJ Pg (d+1)):=by
 intro T u hu hT;obtain⟨ws,u',e,r⟩:=rC hD hu hT;exact⟨ws,u',by rw[bO h _ rfl];exact e,r⟩
def cG(ks:List Str)(x:Str):List Str:=if x∈ks then ks else ks++[x]
theorem uK:dput ks (ks.map f) x u=(cG ks x,(cG ks x).map λk=>if k=x then u else f k):=by
 unfold dput cG;by_cases h:x∈ks
 ·rw[XI h,XI h];congr 1
  clear h;induction ks with
  |nil=>rfl
  |cons k ks ih=>rw[O5,RB,O5,O5,ih]
 ·rw[XM h,XM h];congr 1
  rw[Qf,Tz,XI rfl];congr 1
  refine QR λk hk=>?_;rw[XM (λe:k=x=>h (e▸hk))]
theorem oE(h:ks.Nodup):(cG ks x).Nodup:=by
 unfold cG;split
 ·exact h
 ·rename_i hx;exact RH.mpr ⟨h,by simp,λa ha c hc=>by rw[Pf]at hc;subst hc;exact λe=>hx (e▸ha)⟩
theorem dS:y∈cG ks x↔y∈ks\/y=x:=by
 unfold cG;split
 ·rename_i h;exact⟨.inl,λz=>z.elim id λe=>e▸h⟩
 ·simp
theorem la(h:ks.length<1000):dI (.str x) u (.CU ks (ks.map f))=Od (.CU (cG ks x) ((cG ks x).map λk=>if k=x then u else f k)):=by
 rw[xf h,uK]
theorem cX(h:x∈ks):fH ks (ks.map f) x=Od (f x):=by
 induction ks with
 |nil=>cases h
 |cons k ks ih =>
  rw[O5];unfold fH;by_cases e:k=x
  ·rw[XI e,e]
  ·rw[XM e];exact ih ((O_.mp h).resolve_left λz=>e z.symm)
def x5:List S:=[.put 1 (.var 4) (.cst (.bl OP))]
def uL:List S:=[.put 1 (.var 2) (.cst (.bl OP)),.Cw OR [4] .seq [.var 3] x5]
def Bu:Fn:=⟨"_law_all",1,5,[.set 1 (.Du OR),.Cw OP [2,3] .seq [.var 0] uL,.ret (.bi .sorted [.var 1])]⟩
def xn(ks:List Str):U:=.CU ks (ks.map λ_=>.bl OP)
theorem qh(h:ks.length<1000):dI (.str x) (.bl OP) (xn ks)=Od (xn (cG ks x)):=by
 unfold xn;rw[la h];congr 3
 funext k
 split<;>rfl
def gU(ws ks:List Str):Prop:=ks.Nodup/\∀x∈ks,x∈ws
theorem gU.ins(h:gU ws ks)(hx:x∈ws):gU ws (cG ks x):=⟨oE h.1,λy hy=>(dS.mp hy).elim (h.2 y) λe=>e▸hx⟩
theorem gU.len(h:gU ws ks):ks.length<=ws.length:=mJ h.1 h.2
def lb(rs:List Row)(ks:List Str)(o2 o3 o4:Option (Kd×U)):ax:=[Od (.loc,.tup (rs.map Cb)),Od (.own,xn ks),o2,o3,o4]
theorem xo(hw:ws.length<1000)(hk:gU ws ks)(hr:aR ws r):
  ∃G0 Ef,Run (execs Γ uL) (lb rs ks (Od (.loc,.str r.1)) (Od (.loc,.tup (r.2.map .str))) o4) .nx (lb rs G0 (Od (.loc,.str r.1)) (Od (.loc,.tup (r.2.map .str))) Ef)/\gU ws G0:=by
 have l0:=hk.len;obtain⟨st',hf,G0,Ef,rfl,CL,_⟩:=dR (rs:=[(.loc,.tup (r.2.map .str))]) (t:=OR) (is:=[4]) (body:=execs Γ x5) (λx:Str=>(Kd.loc,U.str x)) (λd q st=>∃G0 Ef,st=lb rs G0 (Od (.loc,.str r.1)) (Od (.loc,.tup (r.2.map .str))) Ef/\gU ws G0/\∀x∈q,x∈ws)
  (λ_ _ _ _=>trivial) (λd y q st h=>by
   obtain⟨JF,Ef,rfl,h1,h2⟩:=h;have l1:=h1.len;exact⟨lb rs JF (Od (.loc,.str r.1)) (Od (.loc,.tup (r.2.map .str))) (Od (.loc,.str y)),_,aD,i5 (k:=.own) (k':=.own) ah rfl (ab rfl) (aA aG (aA aG aZ)) rfl rfl (qh ⋯) aw,cG JF y,_,rfl,h1.ins (h2 y (by simp)),λx hx=>h2 x (by simp[hx])⟩) r.2 [] (lb rs (cG ks r.1) (Od (.loc,.str r.1)) (Od (.loc,.tup (r.2.map .str))) o4) ⟨_,_,rfl,hk.ins hr.1,hr.2.2.1⟩
 refine⟨G0,Ef,?_,CL⟩;exact i5 (k:=.own) (k':=.own) ah rfl (ab rfl) (aA aG (aA aG aZ)) rfl rfl (qh ⋯) (eL (rs:=[(.loc,.tup (r.2.map .str))]) (af (ab rfl) ak) trivial (by show Od ((r.2.map U.str).map λu=>(kE .loc,u))=_;rw[PK];rfl) rfl hf aw)
theorem lh{rs:List Row}:DV .seq [(k,.tup (rs.map Cb))]=Od (rs.map λr=>(kE k,Cb r)):=by
 show Od ((rs.map Cb).map λu=>(kE k,u))=_;rw[PK];rfl
def uM(Γ:Tab):Prop:=∀(ws:List Str) (rs:List Row),ws.length<=24->(∀r∈rs,aR ws r)->∃ts,Γ "_law_all" [.tup (rs.map Cb)]=Od (.ok (.own,.lst (ts.map .str)))/\gU ws ts
theorem xp{rs:List Row}(hw:ws.length<=24)(hr:∀r∈rs,aR ws r):∃ts,ei Γ Bu [.tup (rs.map Cb)]=Od (.ok (.own,.lst (ts.map .str)))/\gU ws ts:=by
 obtain⟨st',hf,ks,o2,o3,o4,rfl,hk,_⟩:=dR (rs:=[(.loc,.tup (rs.map Cb))]) (t:=OP) (is:=[2,3]) (body:=execs Γ uL) (λr:Row=>(Kd.loc,Cb r)) (λd q st=>∃ks o2 o3 o4,st=lb rs ks o2 o3 o4/\gU ws ks/\∀r∈q,aR ws r)
  (λ_ _ _ _=>trivial) (λd y q st h=>by
   obtain⟨JF,o2,o3,o4,rfl,h1,h2⟩:=h;obtain⟨N9,Ef,q1,h3⟩:=xo (Γ:=Γ) (rs:=rs) (o4:=o4) ⋯ h1 (h2 y (by simp));exact⟨lb rs JF (Od (.loc,.str y.1)) (Od (.loc,.tup (y.2.map .str))) o4,_,qe (.inl rfl),q1,N9,_,_,_,rfl,h3,λr hr=>h2 r (by simp[hr])⟩) rs [] (lb rs [] OQ OQ OQ) ⟨[],OQ,OQ,OQ,rfl,⟨by simp,by simp⟩,hr⟩
 have hl:=hk.len;refine⟨aH ks,?_,⟨(bp _).nodup_iff.mpr hk.1,λx hx=>hk.2 x ((bp _).mem_iff.mp hx)⟩⟩;refine cL (st0:=[Od (.loc,.tup (rs.map Cb)),OQ,OQ,OQ,OQ]) rfl (.inl rfl) ?_ (ay (st2:=lb rs [] OQ OQ OQ) om cy (eL (rs:=[(.loc,.tup (rs.map Cb))]) (af (ab rfl) ak) trivial lh rfl hf (cF (cu (af (aM rfl) ak) (by(first|exact trivial|exact⟨⟨_,rfl,rfl⟩,trivial⟩|exact⟨⟨_,rfl,rfl⟩,⟨_,rfl,rfl⟩,trivial⟩)) ?_) p6)))
 ·show [Od (if CI (.tup (rs.map Cb))=OP then Kd.loc else Kd.any,U.tup (rs.map Cb)),OQ,OQ,OQ,OQ]=_;rw[XI (by show bJ (rs.map Cb)=OP;exact bP rs)]
 ·show(if ks.length<64 then Od (Kd.own,U.lst ((aH ks).map .str)) else OQ)=_;rw[XI ⋯]
theorem Bv(h:DL Pg "_law_all" Bu):uM (CJ Pg (d+1)):=λws rs hw hr=>by
 obtain⟨ts,e,k⟩:=xp (Γ:=CJ Pg d) hw hr;exact⟨ts,by rw[cv h];exact e,k⟩
def uN:List S :=
   [.set 7 (.DU 4 (.B' "_law_draw" [.var 0,.bi .len [.var 4]] [0])),
   .ite (.and [.cmp .CA (.var 7) (.var 3),.cmp .eq (.B' "_law_draw" [.var 0,.var 2] [0]) (.cst (.int 0))])
    [.app 5 (.tup [.var 7,.tup []])]
    []]
def Bw:List S :=
   [.ite (.cmp .ne (.B' "_law_draw" [.var 0,.cst (.int 8)] [0]) (.cst (.int 1)))
      [.ret (.var 1)]
      [],
    .set 2 (.bin .add (.cst (.int 1)) (.B' "_law_draw" [.var 0,.cst (.int 2)] [0])),
    .set 3 (.comp 1 OR .seq [.var 1] [.cmp .eq (.idx (.var 0) (.cst (.int 1))) (.tup [])] (.idx (.var 0) (.cst (.int 0)))),
    .set 4 (.call "_law_all" [.var 1]),
    .set 5 (.lst []),
    .Cw OR [6] .CV [.bi .len [.var 4]] uN,
    .ret (.bin .add (.var 1) (.bi .tuple [(.var 5)]))]
def zV:Fn:=⟨"_law_widened",2,8,.DK [0]::Bw⟩
theorem uO(h:(!(i==j))=c):bg .ne (.int i) (.int j)=Od c:=by subst h;rfl
def fV(u:U)(rs:List Row)(share:Int)(hs ts:List Str)(more:List Row)(o6 o7:Option (Kd×U)):ax:=[Od (.io,u),Od (.loc,.tup (rs.map Cb)),Od (.loc,.int share),Od (.own,.lst (hs.map .str)),Od (.own,.lst (ts.map .str)),Od (.own,.lst (more.map Cb)),o6,o7]
theorem uP(hD:bf Γ)(hu:Src T u)(hT:T+2<2 ^ 62)(p0:0<share)(p1:share<=2)(ht:0<ts.length)(OJ:ts.length<=24)(F5:∀x∈ts,x∈ws)(hm:∀r∈more,aR ws r)(OK:more.length<1000):
  ∃u' Fb Fc Fq,Run (execs Γ uN) (fV u rs share hs ts more o6 o7) .nx (fV u' rs share hs Fb Fc o6 Fq)/\Src (T+2) u'/\Fb.length+1=ts.length/\(∀x∈Fb,x∈ws)/\(∀r∈Fc,aR ws r)/\Fc.length<=more.length+1:=by
 have big:(1000:Nat)<=OV:=by decide
 obtain⟨n,u1,r1,n0,n1,s1⟩:=bz (st:=fV u rs share hs ts more o6 o7) (st1:=fV u rs share hs ts more o6 o7) hD (i:=0) (k:=.io) (k0:=.io) (e:=.bi .len [.var 4]) (m:=((ts.map U.str).length:Nat)) rfl rfl (cu (af (aM rfl) ak) (by(first|exact trivial|exact⟨⟨_,rfl,rfl⟩,trivial⟩|exact⟨⟨_,rfl,rfl⟩,⟨_,rfl,rfl⟩,trivial⟩)) cm) rfl rfl hu ⋯ (by simp;omega) (by simp;omega);rw[OY]at n1;have hn:n.toNat<ts.length:=by omega
 have hx:(ts.map U.str)[n.toNat]?=Od (.str ts[n.toNat]):=by simp[hn]
 have IE:ts[n.toNat]∈ws:=F5 _ (QU hn);generalize ts[n.toNat]=x at hx IE;have he:(ts.map U.str).eraseIdx n.toNat=(ts.eraseIdx n.toNat).map U.str:=by
  rw[T3,T3,Qf,WE,WG]
 have hl:(ts.eraseIdx n.toNat).length+1=ts.length:=by rw[List.length_eraseIdx_of_lt hn];omega
 have FO:∀y∈ts.eraseIdx n.toNat,y∈ws:=λy hy=>F5 y (List.mem_of_mem_eraseIdx hy);have q1:Run (ev Γ (.DU 4 (.B' "_law_draw" [.var 0,.bi .len [.var 4]] [0]))) (fV u rs share hs ts more o6 o7) (.loc,.str x) (fV u1 rs share hs (ts.eraseIdx n.toNat) more o6 o7):=by
  have:=zN (i:=4) (k0:=.own) (k:=.own) (us0:=ts.map U.str) (us:=ts.map U.str) rfl (by intro z;cases z) r1 rfl rfl n0 ⋯ hx;rw[he]at this;exact this
 generalize ts.eraseIdx n.toNat=Fb at q1 hl FO;have t1:Run (Cv Γ (.cmp .CA (.var 7) (.var 3))) (fV u1 rs share hs Fb more o6 (Od (.loc,.str x))) (OX (x∉hs)) (fV u1 rs share hs Fb more o6 (Od (.loc,.str x))):=aS (ab rfl) (aM rfl) (by(first|exact trivial|exact⟨⟨_,rfl,rfl⟩,trivial⟩|exact⟨⟨_,rfl,rfl⟩,⟨_,rfl,rfl⟩,trivial⟩)) iZ;by_cases hh:x∈hs
 ·rw[XN (by simp[hh])]at t1;exact⟨u1,Fb,more,_,ay q1 aD (bc (iU (oo t1)) aw aw),s1.up ⋯,hl,FO,hm,⋯⟩
 ·rw[XO hh]at t1;obtain⟨m,u2,r2,m0,m1,s2⟩:=bz (st:=fV u1 rs share hs Fb more o6 (Od (.loc,.str x))) (st1:=fV u1 rs share hs Fb more o6 (Od (.loc,.str x))) hD (i:=0) (k:=.io) (k0:=.io) (e:=.var 2) (m:=share) rfl rfl (ab rfl) rfl rfl s1 ⋯ p0 ⋯;by_cases hz:m=0
  ·refine⟨u2,Fb,more++[(x,[])],Od (.loc,.str x),ay q1 aD (b8 (iU (iV t1 (e_ (aS r2 ah trivial (bH (c:=OP) (by simp[hz])))))) (gJ (k:=.own) (k':=.own) rfl (fQ (af (ab rfl) (af (fQ ak trivial aZ (Pt _)) ak)) trivial (aA aG (aA aG aZ)) (by show 2<=OV;omega)) aG rfl rfl (by simp;omega) aw) ?_),s2.up ⋯,hl,FO,?_,by simp⟩
   ·rw[show more.map Cb++[U.tup [.str x,.tup []]]=(more++[(x,[])]).map Cb by simp[Cb]];exact aw
   ·intro r hr;rcases Q9.mp hr with hr|hr
    ·exact hm r hr
    ·rw[Pf]at hr;subst hr;exact⟨IE,by simp,by simp,by simp⟩
  ·exact⟨u2,Fb,more,_,ay q1 aD (bc (iU (iV t1 (e_ (aS r2 ah trivial (bH (c:=OR) (by simp[hz])))))) aw aw),s2.up ⋯,hl,FO,hm,⋯⟩
theorem uQ{rs:List Row}(hl:rs.length<=1000)(h:st[i]?=Od (Od (.loc,.tup (rs.map Cb)))):Run (ev Γ (.comp 1 OR .seq [.var i] [.cmp .eq (.idx (.var 0) (.cst (.int 1))) (.tup [])] (.idx (.var 0) (.cst (.int 0))))) st (.own,.lst (((rs.filter λr=>OX (r.2=[])).map (·.1)).map .str)) st:=by
 have big:(1000:Nat)<=OV:=by decide
 have i0:∀y:Row,dm (.loc,Cb y) (.int 0)=Od (.loc,.str y.1):=λy=>rfl;have i1:∀y:Row,dm (.loc,Cb y) (.int 1)=Od (.loc,.tup (y.2.map .str)):=λy=>rfl;have hx:=ot (cond:=aP Γ [.cmp .eq (.idx (.var 0) (.cst (.int 1))) (.tup [])]) (elt:=ev Γ (.idx (.var 0) (.cst (.int 0)))) (src:=[(.loc,.tup (rs.map Cb))]) (st:=st) trivial .loc (.inl rfl) Cb (λr:Row=>.str r.1) (λr=>OX (r.2=[])) .loc rs [] (by simp;omega)
  (λr _=>⟨e_ (aS (aJ (ab rfl) ah trivial (i1 r)) (fQ ak trivial aZ (Pt _)) trivial xg),λ_=>⟨aJ (ab rfl) ah trivial (i0 r),aG⟩⟩)
 rw[PH]at hx;rw[PK];exact dc (rs:=[(.loc,.tup (rs.map Cb))]) (af (ab h) ak) trivial lh hx
def uR(Γ:Tab):Prop:=∀(T:Int) (u:U) (ws:List Str) (rs:List Row),Src T u->T+60<2 ^ 62->ws.length<=24->(∀r∈rs,aR ws r)->rs.length<=60->∃(CS:List Row) (u':U),Γ "_law_widened" [u,.tup (rs.map Cb)]=Od (.ok (.loc,.tup [.tup (CS.map Cb),u']))/\(∀r∈CS,aR ws r)/\CS.length<=84/\Src (T+60) u'
theorem xq(hD:bf Γ)(hA:uM Γ){rs:List Row}(hu:Src T u)(hT:T+60<2 ^ 62)(hw:ws.length<=24)(hr:∀r∈rs,aR ws r)(hl:rs.length<=60):
  ∃(CS:List Row) (u':U),ez Γ zV [0] Bw [u,.tup (rs.map Cb)]=Od (.ok (.loc,.tup [.tup (CS.map Cb),u']))/\(∀r∈CS,aR ws r)/\CS.length<=84/\Src (T+60) u':=by
 have big:(1000:Nat)<=OV:=by decide
 let S0:U->ax:=λv=>[Od (.io,v),Od (.loc,.tup (rs.map Cb)),OQ,OQ,OQ,OQ,OQ,OQ]
 have Cp:bS [0] [u,.tup (rs.map Cb)] zV.ns=S0 u:=by
  obtain⟨_,_,_,rfl,_⟩:=hu;show [Od (Kd.io,_),Od (if CI (.tup (rs.map Cb))=OP then Kd.loc else Kd.any,U.tup (rs.map Cb)),OQ,OQ,OQ,OQ,OQ,OQ]=_;rw[XI (by show bJ (rs.map Cb)=OP;exact bP rs)]
 obtain⟨n,u1,r1,n0,n1,s1⟩:=bz (st:=S0 u) (st1:=S0 u) hD (i:=0) (k:=.io) (k0:=.io) (e:=.cst (.int 8)) (m:=8) rfl rfl ah rfl rfl hu ⋯ ⋯ ⋯;by_cases h1:n=1
 ·obtain⟨p,u2,r2,p0,p1,s2⟩:=bz (st:=S0 u1) (st1:=S0 u1) hD (i:=0) (k:=.io) (k0:=.io) (e:=.cst (.int 2)) (m:=2) rfl rfl ah rfl rfl s1 ⋯ ⋯ ⋯;obtain⟨ts,ea,L6⟩:=hA ws rs hw hr;have OL:=L6.len;generalize N_:((rs.filter λr=>OX (r.2=[])).map (·.1))=hs;have hh:=uQ (Γ:=Γ) (st:=[Od (.io,u2),Od (.loc,.tup (rs.map Cb)),Od (.loc,.int (1+p)),OQ,OQ,OQ,OQ,OQ]) (rs:=rs) (i:=1) ⋯ rfl;rw[N_]at hh;obtain⟨st',hf,u3,Gb,more,o6,o7,rfl,s3,l3,m3,i3,g3,_⟩:=dR (rs:=[(.loc,.int (ts.length:Nat))]) (t:=OR) (is:=[6]) (body:=execs Γ uN) (λi:Nat=>(Kd.loc,U.int (0+(i:Int)))) (λd r st=>∃(u3:U) (Gb:List Str) (more:List Row) (o6 o7:Option (Kd×U)),st=fV u3 rs (1+p) hs Gb more o6 o7/\Src (T+2+2 * (d.length:Nat)) u3/\Gb.length=r.length/\more.length<=d.length/\(∀x∈Gb,x∈ws)/\(∀r∈more,aR ws r)/\d.length+r.length=ts.length)
   (λd r st _=>trivial) (λd y r st h=>by
    obtain⟨u3,Gb,more,o6,o7,rfl,s3,l3,m3,i3,g3,t3⟩:=h;simp only[Pw]at l3 t3;obtain⟨u4,N',IF,Fq,q,s4,l4,i4,g4,m4⟩:=uP (Γ:=Γ) hD (u:=u3) (share:=1+p) (rs:=rs) (more:=more) (ws:=ws) (hs:=hs) (ts:=Gb) (o6:=Od (.loc,.int (0+(y:Int)))) (o7:=o7) s3 ⋯ ⋯ ⋯ ⋯ ⋯ i3 g3 ⋯;refine⟨fV u3 rs (1+p) hs Gb more (Od (.loc,.int (0+(y:Int)))) o7,_,aD,q,u4,N',IF,_,_,rfl,s4.up (by simp;omega),⋯,by simp;omega,i4,g4,by simp;omega⟩) (Pl ts.length) [] (fV u2 rs (1+p) hs ts [] OQ OQ) ⟨u2,ts,[],OQ,OQ,rfl,s2.up (by simp;omega),by simp,by simp,L6.2,by simp,by simp⟩
  rw[PH,Ql]at m3 s3;refine⟨rs++more,u3,?_,?_,by simp;omega,s3.up ⋯⟩
  ·refine bG (f:=.rt .loc (.tup ((rs++more).map Cb))) (st:=fV u3 rs (1+p) hs Gb more o6 o7) rfl Cp ?_ rfl rfl;refine bc (aS r1 ah trivial (uO (by simp[h1]))) aw (ay (aX ah r2 trivial bj) aD (ay hh cy (ay (dQ (af (ab rfl) ak) trivial ea) cy (ay (gH ak trivial aZ (Pt _)) cy ?_))));refine eL (rs:=[(.loc,.int (ts.length:Nat))]) (af (cu (af (aM rfl) ak) (by(first|exact trivial|exact⟨⟨_,rfl,rfl⟩,trivial⟩|exact⟨⟨_,rfl,rfl⟩,⟨_,rfl,rfl⟩,trivial⟩)) (by rw[cm,OY])) ak) trivial (gu ⋯) rfl hf (cF (aX (ab rfl) (cu (af (aM rfl) ak) (by(first|exact trivial|exact⟨⟨_,rfl,rfl⟩,trivial⟩|exact⟨⟨_,rfl,rfl⟩,⟨_,rfl,rfl⟩,trivial⟩)) rfl) trivial ?_) eJ);show(if (rs.map Cb).length+(more.map Cb).length<=OV then Od (kT .loc .loc,U.tup (rs.map Cb++more.map Cb)) else OQ)=_;rw[XI (by simp;omega),Qf];rfl
  ·intro r hm;rcases Q9.mp hm with hm|hm
   ·exact hr r hm
   ·exact g3 r hm
 ·exact⟨rs,u1,bG (f:=.rt .loc (.tup (rs.map Cb))) (st:=S0 u1) rfl Cp (kZ (aS r1 ah trivial (uO (by simp[h1]))) (cF (ab rfl) eJ)) rfl rfl,hr,⋯,s1.up ⋯⟩
theorem Bx(hD:bf (CJ Pg d))(hA:uM (CJ Pg d))(h:DL Pg "_law_widened" zV):uR (CJ Pg (d+1)):=by
 intro T u ws rs hu hT hw hr hl;obtain⟨CS,u',e,r⟩:=xq hD hA hu hT hw hr hl;exact⟨CS,u',by rw[bO h _ rfl];exact e,r⟩
section
variable{α:Type}[DecidableEq α]{c:α->Int}
theorem d9:∀{ks:List α},x∈ks->(ks.map c).sum=c x+((ks.erase x).map c).sum
 |k::ks,h=>by
  by_cases e:k=x
  ·subst e;simp
  ·rw[List.erase_cons_tail (by simp[e]),O5,O5,Rv,Rv,d9 ((O_.mp h).resolve_left λz=>e z.symm)];omega
theorem lj:∀{ks:List α},(∀k∈ks,0<=c k)->0<=(ks.map c).sum
 |[],_=>by simp
 |k::ks,h=>by
  have h1:=h k (by simp);have h2:=lj (ks:=ks) λy hy=>h y (by simp[hy]);rw[O5,Rv];omega
theorem qi:∀{ts ks:List α},ts.Nodup->(∀x∈ts,x∈ks)->(∀k∈ks,0<=c k)->(ts.map c).sum<=(ks.map c).sum
 |[],ks,_,_,h=>by simpa using lj h
 |x::ts,ks,hn,hs,h=>by
  rw[Qe]at hn;have ih:=qi (ts:=ts) (ks:=ks.erase x) hn.2 (λy hy=>(Vm (λe=>hn.1 (by subst e;exact hy))).mpr (hs y (by simp[hy]))) λk hk=>h k (List.mem_of_mem_erase hk);rw[d9 (hs x (by simp)),O5,Rv];omega
def upd(c:α->Int)(x:α)(p:Int):α->Int:=λk=>if k=x then p else c k
theorem qj{ks:List α}(h:x∉ks):(ks.map (upd c x p)).sum=(ks.map c).sum:=by
 congr 1
 refine QR λk hk=>?_;unfold upd;rw[XM (λe:k=x=>h (e▸hk))]
theorem xr{ks:List α}(hn:ks.Nodup)(h:x∈ks):(ks.map (upd c x p)).sum+c x=(ks.map c).sum+p:=by
 rw[d9 (c:=upd c x p) h,d9 (c:=c) h,qj hn.not_mem_erase];unfold upd;rw[XI rfl];omega
end
abbrev C8:=List Str×(Str->Int)
def CH(s:C8)(r:Row):Int:=1+(r.2.map s.2).sum
def may(s:C8)(r:Row):Bool:=r.2.all λx=>OX (x∈s.1)
def DM(s:C8)(r:Row):Bool:=!OX (r.1∈s.1)||decide (CH s r<s.2 r.1)
def DX(s:C8)(r:Row):C8:=if (may s r&&DM s r)=OP then(cG s.1 r.1,upd s.2 r.1 (CH s r)) else s
def Dm:List Row->C8×Bool->C8×Bool
 |[],s=>s
 |r::rs,(s,b)=>Dm rs (DX s r,b||(may s r&&DM s r))
def lim(rs:List Row):Nat->C8->C8
 |0,s=>s
 |n+1,s=>if (Dm rs (s,OR)).2=OP then lim rs n (Dm rs (s,OR)).1 else(Dm rs (s,OR)).1
def fg(ws:List Str)(s:C8):Prop:=gU ws s.1/\(∀k∈s.1,1<=s.2 k)/\(s.1.map s.2).sum<2 ^ s.1.length
def mu(s:C8):Int:=(24 - (s.1.length:Nat)) * 2 ^ 24+(s.1.map s.2).sum
theorem mT(hw:ws.length<=24)(h:fg ws s):0<=mu s:=by
 have h1:=h.1.len;have h2:=lj (c:=s.2) (ks:=s.1) λk hk=>by have:=h.2.1 k hk;omega
 unfold mu;omega
theorem ll(hw:ws.length<=24)(h:fg ws s)(hr:aR ws r):fg ws (DX s r)/\mu (DX s r)<=mu s/\((may s r&&DM s r)=OP->mu (DX s r)<mu s):=by
 unfold DX;split
 ·rename_i hc;rw[OS]at hc;obtain⟨hm,hb⟩:=hc;obtain⟨hk,h1,hs⟩:=h;have ht:∀x∈r.2,x∈s.1:=λx hx=>by have:=Pe.mp hm x hx;simpa using this
  have L7:∀k∈s.1,0<=s.2 k:=λk hk=>by have:=h1 k hk;omega
  have p1:CH s r<=1+(s.1.map s.2).sum:=by
   have:=qi (c:=s.2) hr.2.1 ht L7;unfold CH;omega
  have p0:1<=CH s r:=by
   have:=lj (c:=s.2) (ks:=r.2) λk hk=>L7 k (ht k hk);unfold CH;omega
  have CL:=hk.ins hr.1;have hv:∀k∈cG s.1 r.1,1<=upd s.2 r.1 (CH s r) k:=λk hk=>by
   unfold upd;split
   ·exact p0
   ·rename_i Ds;exact h1 k ((dS.mp hk).resolve_right Ds)
  have FR:=CL.len;by_cases hx:r.1∈s.1
  ·have e:cG s.1 r.1=s.1:=by unfold cG;rw[XI hx]
   have Cz:CH s r<s.2 r.1:=by
    unfold DM at hb;simpa[hx] using hb
   have FP:=xr (c:=s.2) (p:=CH s r) hk.1 hx;rw[e]at CL hv ⊢;have Oa:(s.1.map (upd s.2 r.1 (CH s r))).sum<(s.1.map s.2).sum:=by omega
   refine⟨⟨CL,hv,by show(s.1.map (upd s.2 r.1 (CH s r))).sum<2 ^ s.1.length;omega⟩,?_,λ_=>?_⟩<;>(unfold mu;dsimp only;omega)
  ·have e:cG s.1 r.1=s.1++[r.1]:=by unfold cG;rw[XM hx]
   have FP:((s.1++[r.1]).map (upd s.2 r.1 (CH s r))).sum=(s.1.map s.2).sum+CH s r:=by
    rw[Qf,List.sum_append,qj hx,Tz,List.sum_singleton];unfold upd;rw[XI rfl]
   rw[e]at CL hv FR ⊢;rw[Pp,QI]at FR;have K5:(2:Int) ^ (s.1.length+1)=2 * 2 ^ s.1.length:=by rw[Int.pow_succ];omega
   have hle:(2:Int) ^ s.1.length<=2 ^ 23:=by
    have h3:(2:Nat) ^ s.1.length<=2 ^ 23:=Nat.pow_le_pow_right ⋯ ⋯;have h4:=Int.ofNat_le.mpr h3;rw[Ws,Ws]at h4;exact h4
   refine⟨⟨CL,hv,?_⟩,?_,λ_=>?_⟩
   ·show((s.1++[r.1]).map (upd s.2 r.1 (CH s r))).sum<2 ^ (s.1++[r.1]).length;rw[FP,Pp,QI,K5];omega
   ·unfold mu
    dsimp only
    rw[FP,Pp,QI];omega
   ·unfold mu
    dsimp only
    rw[FP,Pp,QI];omega
 ·rename_i hc;exact⟨h,Tf _,λz=>absurd z hc⟩
theorem fW(hw:ws.length<=24):∀(rs:List Row) (s:C8) (b:Bool),(∀r∈rs,aR ws r)->fg ws s->fg ws (Dm rs (s,b)).1/\mu (Dm rs (s,b)).1<=mu s/\((Dm rs (s,b)).2=OP->b=OP\/mu (Dm rs (s,b)).1<mu s)
 |[],s,b,_,h=>⟨h,Tf _,.inl⟩
 |r::rs,s,b,hr,h=>by
  obtain⟨a1,a2,a3⟩:=ll hw h (hr r (by simp));obtain⟨b1,b2,b3⟩:=fW hw rs (DX s r) (b||(may s r&&DM s r)) (λy hy=>hr y (by simp[hy])) a1;refine⟨b1,SX b2 a2,λz=>?_⟩;rcases b3 z with z|z
  ·rw[Qz]at z;rcases z with z|z
   ·exact .inl z
   ·exact .inr (Int.lt_of_le_of_lt b2 (a3 z))
  ·exact .inr (Int.lt_of_lt_of_le z a2)
theorem lp(hw:ws.length<=24)(hr:∀r∈rs,aR ws r):∀(n:Nat) (s:C8),fg ws s->fg ws (lim rs n s)
 |0,s,h=>h
 |n+1,s,h=>by
  unfold lim;have:=(fW hw rs s OR hr h).1;split
  ·exact lp hw hr n _ this
  ·exact this
def oF : List S :=
        [.ite (.bi .all [.comp 1 OR .seq [.var 4] [] (.cmp .isin (.var 0) (.var 2))])
          [.set 5 (.bin .add (.cst (.int 1)) (.bi .sum [.comp 1 OR .seq [.var 4] [] (.idx (.var 2) (.var 0))])),
          .ite (.or [.cmp .CA (.var 3) (.var 1),.cmp .lt (.var 5) (.idx (.var 1) (.var 3))])
            [.put 1 (.var 3) (.var 5),
            .set 2 (.cst (.bl true))]
            []]
          []]
def oG:List S :=
   [.set 2 (.cst (.bl OR)),
   .Cw OP [3,4] .seq [(.var 0)] oF]
def uS:Fn:=⟨"_law_costs",1,6,[.set 1 (.Du OR),.set 2 (.cst (.bl OP)),.EZ (.var 2) oG,.ret (.var 1)]⟩
def cD(s:C8):U:=.CU s.1 (s.1.map λk=>.int (s.2 k))
def fh(rs:List Row)(s:C8)(b:Bool)(o3 o4 o5:Option (Kd×U)):ax:=[Od (.loc,.tup (rs.map Cb)),Od (.own,cD s),Od (.loc,.bl b),o3,o4,o5]
theorem lq{ss:List Str}:DV .seq [(k,.tup (ss.map .str))]=Od (ss.map λx=>(kE k,U.str x)):=by
 show Od ((ss.map U.str).map λu=>(kE k,u))=_;rw[PK];rfl
theorem qk(f:α->Int):∀(ns:List α),intsOf (ns.map λa=>U.int (f a))=Od (ns.map f)
 |[]=>rfl
 |n::ns=>by show(intsOf (ns.map λa=>U.int (f a))).map _=_;rw[qk f ns];rfl
theorem sum_ints(f:α->Int)(l:List α):DO .sum [(k,.lst (l.map λa=>U.int (f a)))]=Od (.loc,.int (l.map f).sum):=by
 show(intsOf (l.map λa=>U.int (f a))).map _=_;rw[qk];rfl
theorem uT{told:List Str}(hl:told.length<=1000)(ht:∀x∈told,x∈s.1)(h4:st[4]?=Od (Od (.loc,.tup (told.map .str))))(h1:st[1]?=Od (Od (.own,cD s))):
  Run (ev Γ (.bi .sum [.comp 1 OR .seq [.var 4] [] (.idx (.var 2) (.var 0))])) st (.loc,.int (told.map s.2).sum) st:=by
 have big:(1000:Nat)<=OV:=by decide
 have hx:=fb (cond:=aP Γ []) (elt:=ev Γ (.idx (.var 2) (.var 0))) (src:=[(.loc,.tup (told.map .str))]) (st:=st) trivial .loc (.inl rfl) U.str (λx=>.int (s.2 x)) .loc (λ_=>gI) told [] (by simp;omega)
  (λy hy=>⟨aJ (aM (u:=cD s) (by simpa using h1)) (ab rfl) ⟨⟨.own,rfl,by simpa using h1⟩,trivial⟩ (by show(fH s.1 (s.1.map λk=>U.int (s.2 k)) y).map _=_;rw[cX (ht y hy)];rfl),aG⟩)
 rw[PH]at hx;exact cu (af (dc (rs:=[(.loc,.tup (told.map .str))]) (af (ab h4) ak) trivial lq hx) ak) trivial (sum_ints _ _)
theorem uU(hw:ws.length<=24)(hs:fg ws s)(hr:aR ws r):
  ∃Eg,Run (execs Γ oF) (fh rs s b (Od (.loc,.str r.1)) (Od (.loc,.tup (r.2.map .str))) o5) .nx (fh rs (DX s r) (b||(may s r&&DM s r)) (Od (.loc,.str r.1)) (Od (.loc,.tup (r.2.map .str))) Eg):=by
 have h8:=hr.2.2.2;have hl:=hs.1.len;have t1:=k7 (gw (Γ:=Γ) (st:=fh rs s b (Od (.loc,.str r.1)) (Od (.loc,.tup (r.2.map .str))) o5) (src:=.var 4) (j:=1) (told:=r.2) (known:=s.1) (k:=.loc) (w:=cD s) (.inl rfl) ⋯ (ab rfl) (.inr rfl) λx=>ou);unfold DX;cases hm:may s r with
 |false =>
  rw[show(r.2.all λx=>OX (x∈s.1))=OR from hm]at t1;rw[XM (by simp),S7,Rw];exact⟨o5,bc t1 aw aw⟩
 |true =>
  rw[show(r.2.all λx=>OX (x∈s.1))=OP from hm]at t1;have ht:∀x∈r.2,x∈s.1:=λx hx=>by have:=Pe.mp hm x hx;simpa using this
  have q1:=uT (Γ:=Γ) (st:=fh rs s b (Od (.loc,.str r.1)) (Od (.loc,.tup (r.2.map .str))) o5) (s:=s) (told:=r.2) ⋯ ht rfl rfl;have q2:Run (ev Γ (.bin .add (.cst (.int 1)) (.bi .sum [.comp 1 OR .seq [.var 4] [] (.idx (.var 2) (.var 0))]))) (fh rs s b (Od (.loc,.str r.1)) (Od (.loc,.tup (r.2.map .str))) o5) (.loc,.int (CH s r)) (fh rs s b (Od (.loc,.str r.1)) (Od (.loc,.tup (r.2.map .str))) o5):=aX ah q1 trivial bj;have t2:Run (Cv Γ (.or [.cmp .CA (.var 3) (.var 1),.cmp .lt (.var 5) (.idx (.var 1) (.var 3))])) (fh rs s b (Od (.loc,.str r.1)) (Od (.loc,.tup (r.2.map .str))) (Od (.loc,.int (CH s r)))) (DM s r) (fh rs s b (Od (.loc,.str r.1)) (Od (.loc,.tup (r.2.map .str))) (Od (.loc,.int (CH s r)))) :=
   wZ (xY (aS (ab rfl) (aM rfl) (by(first|exact trivial|exact⟨⟨_,rfl,rfl⟩,trivial⟩|exact⟨⟨_,rfl,rfl⟩,⟨_,rfl,rfl⟩,trivial⟩)) jR) λhp=>pZ (aS (y:=(.loc,.int (s.2 r.1))) (ab rfl) (aJ (aM rfl) (ab rfl) (by(first|exact trivial|exact⟨⟨_,rfl,rfl⟩,trivial⟩|exact⟨⟨_,rfl,rfl⟩,⟨_,rfl,rfl⟩,trivial⟩)) (by show(fH s.1 (s.1.map λk=>U.int (s.2 k)) r.1).map _=_;rw[cX (by simpa using hp)];rfl)) trivial (p9 rfl)))
  cases hb:DM s r with
  |false =>
   rw[hb]at t2;rw[XM (by simp),Sj,Rw];exact⟨_,b8 t1 (ay q2 aD (bc t2 aw aw)) aw⟩
  |true =>
   rw[hb]at t2;rw[XI (by simp),Tt,W2];have e:dI (.str r.1) (.int (CH s r)) (cD s)=Od (cD (cG s.1 r.1,upd s.2 r.1 (CH s r))):=by
    unfold cD;rw[la ⋯];congr 3
    funext k
    show _=U.int (upd s.2 r.1 (CH s r) k);unfold upd;split<;>rfl
   exact⟨Od (.loc,.int (CH s r)),b8 t1 (ay q2 aD (b8 t2 (i5 (k:=.own) (k':=.own) (ab rfl) rfl (ab rfl) (aA aG (aA aG aZ)) rfl rfl e (ay ah aD aw)) aw)) aw⟩
theorem mU(hw:ws.length<=24):∀(ys:List Row) (s:C8) (b:Bool) (o3 o4 o5:Option (Kd×U)),(∀r∈ys,aR ws r)->fg ws s ->
  ∃G1 Ef Eg,Run (forM OP [3,4] (execs Γ oF) [(.loc,.tup (rs.map Cb))] (ys.map λr=>(Kd.loc,Cb r))) (fh rs s b o3 o4 o5) .nx (fh rs (Dm ys (s,b)).1 (Dm ys (s,b)).2 G1 Ef Eg)
 |[],s,b,o3,o4,o5,_,_=>⟨o3,o4,o5,p7 trivial⟩
 |r::ys,s,b,o3,o4,o5,hr,hs=>by
  obtain⟨Eg,q⟩:=uU (Γ:=Γ) (rs:=rs) (b:=b) (o5:=o5) hw hs (hr r (by simp));obtain⟨a,c,d,q2⟩:=mU hw ys (DX s r) (b||(may s r&&DM s r)) (Od (.loc,.str r.1)) (Od (.loc,.tup (r.2.map .str))) Eg (λy hy=>hr y (by simp[hy])) (ll hw hs (hr r (by simp))).1;exact⟨a,c,d,w_ trivial (qe (.inl rfl)) q q2⟩
theorem mV(hw:ws.length<=24)(hr:∀r∈rs,aR ws r):∀(f:Nat) (s:C8) (o3 o4 o5:Option (Kd×U)),fg ws s->mu s+1<f ->
  ∃G1 Ef Eg,Run (eh (Cv Γ (.var 2)) (execs Γ oG) f) (fh rs s OP o3 o4 o5) .nx (fh rs (lim rs f s) OR G1 Ef Eg)
 |0,s,_,_,_,hs,hf=>by have:=mT hw hs;omega
 |f+1,s,o3,o4,o5,hs,hf=>by
  obtain⟨a,c,d,q⟩:=mU (Γ:=Γ) (rs:=rs) hw rs s OR o3 o4 o5 hr hs;obtain⟨i1,i2,i3⟩:=fW hw rs s OR hr hs;have qb:Run (execs Γ oG) (fh rs s OP o3 o4 o5) .nx (fh rs (Dm rs (s,OR)).1 (Dm rs (s,OR)).2 a c d):=ay ah aD (eL (rs:=[(.loc,.tup (rs.map Cb))]) (af (ab rfl) ak) trivial lh rfl q aw);unfold lim;have m0:=mT hw hs;cases hb:(Dm rs (s,OR)).2 with
  |true =>
   rw[hb]at qb;rw[XI rfl];have Cz:=(i3 hb).resolve_left (by simp);obtain⟨a',c',d',q2⟩:=mV hw hr f (Dm rs (s,OR)).1 a c d i1 ⋯;exact⟨a',c',d',uf (de rfl) qb q2⟩
  |false =>
   rw[hb]at qb;rw[XM (by simp)];obtain⟨f,rfl⟩:∃g,f=g+1:=⟨f - 1,⋯⟩
   exact⟨a,c,d,uf (de rfl) qb (qd (de rfl))⟩
def s0:C8:=([],λ_=>0)
theorem i9(ws:List Str):fg ws s0:=⟨⟨UG,λx h=>(by cases h)⟩,λk h=>(by cases h),by decide⟩
def uV(Γ:Tab):Prop:=∀(ws:List Str) (rs:List Row),ws.length<=24->(∀r∈rs,aR ws r)->Γ "_law_costs" [.tup (rs.map Cb)]=Od (.ok (.own,cD (lim rs fuel s0)))
theorem rD(hw:ws.length<=24)(hr:∀r∈rs,aR ws r):ei Γ uS [.tup (rs.map Cb)]=Od (.ok (.own,cD (lim rs fuel s0))):=by
 obtain⟨a,c,d,q⟩:=mV (Γ:=Γ) hw hr fuel s0 OQ OQ OQ (i9 ws) (by unfold fuel;decide);refine cL (st0:=[Od (.loc,.tup (rs.map Cb)),OQ,OQ,OQ,OQ,OQ]) rfl (.inl rfl) ?_ (ay (om) cy (ay (st2:=fh rs s0 OP OQ OQ OQ) ah aD (ug q (cF (aM rfl) (mG rfl)))));show [Od (if CI (.tup (rs.map Cb))=OP then Kd.loc else Kd.any,U.tup (rs.map Cb)),OQ,OQ,OQ,OQ,OQ]=_;rw[XI (by show bJ (rs.map Cb)=OP;exact bP rs)]
theorem zW(h:DL Pg "_law_costs" uS):uV (CJ Pg (d+1)):=λws rs hw hr=>by
 rw[cv h];exact rD hw hr
def uW:Fn:=⟨"row_price",2,2,[.ret (.bin .add (.cst (.int 1)) (.bi .sum [.comp 1 OR .seq [.idx (.var 0) (.cst (.int 1))] [] (.idx (.idx (.var 2) (.var 0)) (.cst (.int 0)))]))]⟩
def uX : List S :=
        [.ite (.bi .all [.comp 1 OR .seq [.idx (.var 4) (.cst (.int 1))] [] (.cmp .isin (.var 0) (.var 2))])
          [.set 5 (.call "row_price" [.var 4,.var 1]),
          .ite (.or [.cmp .CA (.idx (.var 4) (.cst (.int 0))) (.var 1),.cmp .lt (.var 5) (.idx (.idx (.var 1) (.idx (.var 4) (.cst (.int 0)))) (.cst (.int 0)))])
            [.put 1 (.idx (.var 4) (.cst (.int 0))) (.tup [.var 5,.var 3]),
            .set 2 (.cst (.bl true))]
            []]
          []]
def uY:List S :=
   [.set 2 (.cst (.bl OR)),
   .Cw OP [3,4] .Hi [(.var 0)] uX]
def By:Fn:=⟨"prices_and_places",1,6,[.set 1 (.Du OR),.set 2 (.cst (.bl OP)),.EZ (.var 2) uY,.ret (.var 1)]⟩
def pD(s:C8)(pl:Str->Int):U:=.CU s.1 (s.1.map λk=>.tup [.int (s.2 k),.int (pl k)])
def gx(Γ:Tab):Prop:=∀(s:C8) (pl:Str->Int) (r:Row),(∀x∈r.2,x∈s.1)->r.2.length<=8->Γ "row_price" [Cb r,pD s pl]=Od (.ok (.loc,.int (CH s r)))
theorem uZ(ht:∀x∈r.2,x∈s.1)(h8:r.2.length<=8):ei Γ uW [Cb r,pD s pl]=Od (.ok (.loc,.int (CH s r))):=by
 have big:(1000:Nat)<=OV:=by decide
 have hx:=fb (cond:=aP Γ []) (elt:=ev Γ (.idx (.idx (.var 2) (.var 0)) (.cst (.int 0)))) (src:=[(.loc,.tup (r.2.map .str))]) (st:=[Od (.loc,Cb r),Od (.any,pD s pl)]) trivial .loc (.inl rfl) U.str (λx=>.int (s.2 x)) .any (λ_=>gI) r.2 [] (by simp;omega)
  (λy hy=>⟨aJ (x:=(.any,.tup [.int (s.2 y),.int (pl y)])) (aJ (bx rfl) (ab rfl) trivial (by show(fH s.1 (s.1.map λk=>U.tup [.int (s.2 k),.int (pl k)]) y).map _=_;rw[cX (ht y hy)];rfl)) ah trivial rfl,pY rfl⟩)
 rw[PH]at hx;refine cL (st0:=[Od (.loc,Cb r),Od (.any,pD s pl)]) rfl (.inr rfl) ?_ (cF (aX ah (cu (af (dc (rs:=[(.loc,.tup (r.2.map .str))]) (af (aJ (ab rfl) ah trivial rfl) ak) trivial lq hx) ak) trivial (sum_ints _ _)) trivial bj) eJ);show [Od (if CI (Cb r)=OP then Kd.loc else Kd.any,Cb r),Od (if CI (pD s pl)=OP then Kd.loc else Kd.any,pD s pl)]=_;rw[XI (k8 r),XM (by show ¬(OR=OP);decide)]
theorem zX(h:DL Pg "row_price" uW):gx (CJ Pg (d+1)):=λs pl r ht h8=>by
 rw[cv h];exact uZ ht h8
def DN(rs:List Row)(s:C8)(pl:Str->Int):Prop:=∀k∈s.1,∃(i:Nat) (r:Row),pl k=(i:Int)/\rs[i]?=Od r/\r.1=k/\(∀x∈r.2,x∈s.1)/\CH s r<=s.2 k
theorem u9{c c':α->Int}:∀{ts:List α},(∀x∈ts,c' x<=c x)->(ts.map c').sum<=(ts.map c).sum
 |[],_=>Tf _
 |x::ts,h=>by
  have h1:=h x (by simp);have h2:=u9 (ts:=ts) λy hy=>h y (by simp[hy]);rw[O5,O5,Rv,Rv];omega
theorem DN.step{i:Nat}(h:DN rs s pl)(hi:rs[i]?=Od r)(hm:may s r=OP)(hb:DM s r=OP):DN rs (cG s.1 r.1,upd s.2 r.1 (CH s r)) (upd pl r.1 (i:Int)):=by
 have ht:∀x∈r.2,x∈s.1:=λx hx=>by have:=Pe.mp hm x hx;simpa using this
 have hc:∀x∈s.1,upd s.2 r.1 (CH s r) x<=s.2 x:=λx hx=>by
  unfold upd;split
  ·rename_i e;subst e;unfold DM at hb;have:CH s r<s.2 r.1:=by simpa[hx] using hb
   omega
  ·exact Tf _
 have hp:∀q:Row,(∀x∈q.2,x∈s.1)->CH (cG s.1 r.1,upd s.2 r.1 (CH s r)) q<=CH s q:=λq hq=>by
  have:=u9 (ts:=q.2) λx hx=>hc x (hq x hx);unfold CH at this ⊢
  dsimp only
  omega
 intro k hk;by_cases e:k=r.1
 ·subst e;refine⟨i,r,by unfold upd;rw[XI rfl],hi,rfl,λx hx=>dS.mpr (.inl (ht x hx)),SX (hp r ht) ?_⟩;show CH s r<=upd s.2 r.1 (CH s r) r.1;unfold upd;rw[XI rfl];exact Tf _
 ·obtain⟨j,q,a1,a2,a3,a4,a5⟩:=h k ((dS.mp hk).resolve_right e);refine⟨j,q,by unfold upd;rw[XM e];exact a1,a2,a3,λx hx=>dS.mpr (.inl (a4 x hx)),SX (hp q a4) ?_⟩;show CH s q<=upd s.2 r.1 (CH s r) k;unfold upd;rw[XM e];exact a5
theorem DN.start(rs:List Row)(pl:Str->Int):DN rs s0 pl:=λk hk=>by cases hk
def fX(rs:List Row)(s:C8)(pl:Str->Int)(b:Bool)(o3 o4 o5:Option (Kd×U)):ax:=[Od (.loc,.tup (rs.map Cb)),Od (.own,pD s pl),Od (.loc,.bl b),o3,o4,o5]
theorem xt(hP:gx Γ){n:Nat}(hw:ws.length<=24)(hs:fg ws s)(hr:aR ws r)(hn:rs[n]?=Od r)(hI:DN rs s pl):
  ∃Ge Eg,Run (execs Γ uX) (fX rs s pl b (Od (.loc,.int (n:Int))) (Od (.loc,Cb r)) o5) .nx (fX rs (DX s r) Ge (b||(may s r&&DM s r)) (Od (.loc,.int (n:Int))) (Od (.loc,Cb r)) Eg)/\DN rs (DX s r) Ge:=by
 generalize Ob:(n:Int)=p;have big:(1000:Nat)<=OV:=by decide
 have h8:=hr.2.2.2;have hl:=hs.1.len;have i0:dm (.loc,Cb r) (.int 0)=Od (.loc,.str r.1):=rfl;have i1:dm (.loc,Cb r) (.int 1)=Od (.loc,.tup (r.2.map .str)):=rfl;have t1:=k7 (gw (Γ:=Γ) (st:=fX rs s pl b (Od (.loc,.int p)) (Od (.loc,Cb r)) o5) (src:=.idx (.var 4) (.cst (.int 1))) (j:=1) (told:=r.2) (known:=s.1) (k:=.loc) (w:=pD s pl) (.inl rfl) ⋯ (aJ (ab rfl) ah trivial i1) (.inr rfl) λx=>ou);unfold DX;cases hm:may s r with
 |false =>
  rw[show(r.2.all λx=>OX (x∈s.1))=OR from hm]at t1;rw[XM (by simp),S7,Rw];exact⟨pl,o5,bc t1 aw aw,hI⟩
 |true =>
  rw[show(r.2.all λx=>OX (x∈s.1))=OP from hm]at t1;have ht:∀x∈r.2,x∈s.1:=λx hx=>by have:=Pe.mp hm x hx;simpa using this
  have q2:Run (ev Γ (.call "row_price" [.var 4,.var 1])) (fX rs s pl b (Od (.loc,.int p)) (Od (.loc,Cb r)) o5) (.loc,.int (CH s r)) (fX rs s pl b (Od (.loc,.int p)) (Od (.loc,Cb r)) o5):=dQ (af (ab rfl) (af (aM rfl) ak)) (by(first|exact trivial|exact⟨⟨_,rfl,rfl⟩,trivial⟩|exact⟨⟨_,rfl,rfl⟩,⟨_,rfl,rfl⟩,trivial⟩)) (hP s pl r ht h8);have t2:Run (Cv Γ (.or [.cmp .CA (.idx (.var 4) (.cst (.int 0))) (.var 1),.cmp .lt (.var 5) (.idx (.idx (.var 1) (.idx (.var 4) (.cst (.int 0)))) (.cst (.int 0)))])) (fX rs s pl b (Od (.loc,.int p)) (Od (.loc,Cb r)) (Od (.loc,.int (CH s r)))) (DM s r) (fX rs s pl b (Od (.loc,.int p)) (Od (.loc,Cb r)) (Od (.loc,.int (CH s r)))) :=
   wZ (xY (aS (aJ (ab rfl) ah trivial i0) (aM rfl) (by(first|exact trivial|exact⟨⟨_,rfl,rfl⟩,trivial⟩|exact⟨⟨_,rfl,rfl⟩,⟨_,rfl,rfl⟩,trivial⟩)) jR) λhp=>pZ (aS (y:=(.loc,.int (s.2 r.1))) (ab rfl) (aJ (x:=(.loc,.tup [.int (s.2 r.1),.int (pl r.1)])) (aJ (aM rfl) (aJ (ab rfl) ah trivial i0) (by(first|exact trivial|exact⟨⟨_,rfl,rfl⟩,trivial⟩|exact⟨⟨_,rfl,rfl⟩,⟨_,rfl,rfl⟩,trivial⟩)) (by show(fH s.1 (s.1.map λk=>U.tup [.int (s.2 k),.int (pl k)]) r.1).map _=_;rw[cX (by simpa using hp)];rfl)) ah trivial rfl) trivial (p9 rfl)))
  cases hb:DM s r with
  |false =>
   rw[hb]at t2;rw[XM (by simp),Sj,Rw];exact⟨pl,_,b8 t1 (ay q2 aD (bc t2 aw aw)) aw,hI⟩
  |true =>
   rw[hb]at t2;rw[XI (by simp),Tt,W2];have e:dI (.str r.1) (.tup [.int (CH s r),.int p]) (pD s pl)=Od (pD (cG s.1 r.1,upd s.2 r.1 (CH s r)) (upd pl r.1 p)):=by
    unfold pD;rw[la ⋯];congr 3
    funext k
    show _=U.tup [.int (upd s.2 r.1 (CH s r) k),.int (upd pl r.1 p k)];unfold upd;split<;>rfl
   exact⟨upd pl r.1 p,Od (.loc,.int (CH s r)),b8 t1 (ay q2 aD (b8 t2 (i5 (k:=.own) (k':=.own) (fQ (af (ab rfl) (af (ab rfl) ak)) trivial (aA aG (aA aG aZ)) (by show 2<=OV;omega)) rfl (aJ (ab rfl) ah trivial i0) (aA aG (aA aG aZ)) rfl rfl e (ay ah aD aw)) aw)) aw,Ob▸hI.step hn hm hb⟩
theorem xu{rs:List Row}:DV .Hi [(.loc,.tup (rs.map Cb))]=Od (rs.zipIdx.map λp:Row×Nat=>(Kd.loc,U.tup [.int (p.2:Nat),Cb p.1])):=by
 show Od ((rs.map Cb).zipIdx.map λp=>(kE .loc,U.tup [.int p.2,p.1]))=_;rw[List.zipIdx_map,PK];rfl
theorem ql(hP:gx Γ)(hw:ws.length<=24):∀(ys:List Row) (n:Nat) (s:C8) (pl:Str->Int) (b:Bool) (o3 o4 o5:Option (Kd×U)),(∀r∈ys,aR ws r)->(∀(i:Nat) (r:Row),ys[i]?=Od r->rs[n+i]?=Od r)->fg ws s->DN rs s pl ->
  ∃Ge G1 Ef Eg,Run (forM OP [3,4] (execs Γ uX) [(.loc,.tup (rs.map Cb))] ((ys.zipIdx n).map λp:Row×Nat=>(Kd.loc,U.tup [.int (p.2:Nat),Cb p.1]))) (fX rs s pl b o3 o4 o5) .nx (fX rs (Dm ys (s,b)).1 Ge (Dm ys (s,b)).2 G1 Ef Eg)/\DN rs (Dm ys (s,b)).1 Ge
 |[],n,s,pl,b,o3,o4,o5,_,_,_,hI=>⟨pl,o3,o4,o5,p7 trivial,hI⟩
 |r::ys,n,s,pl,b,o3,o4,o5,hr,hn,hs,hI=>by
  obtain⟨IG,Eg,q,JG⟩:=xt hP (rs:=rs) (pl:=pl) (b:=b) (n:=n) (o5:=o5) hw hs (hr r (by simp)) (by simpa using hn 0 r rfl) hI;obtain⟨Ii,a,c,d,q2,K6⟩:=ql hP hw ys (n+1) (DX s r) IG (b||(may s r&&DM s r)) (Od (.loc,.int (n:Int))) (Od (.loc,Cb r)) Eg (λy hy=>hr y (by simp[hy])) (λi y hy=>by rw[Nat.add_assoc,Nat.add_comm 1 i];exact hn (i+1) y (by simpa using hy)) (ll hw hs (hr r (by simp))).1 JG;exact⟨Ii,a,c,d,w_ trivial (qe (.inl rfl)) q q2,K6⟩
theorem qm(hP:gx Γ)(hw:ws.length<=24)(hr:∀r∈rs,aR ws r):∀(f:Nat) (s:C8) (pl:Str->Int) (o3 o4 o5:Option (Kd×U)),fg ws s->DN rs s pl->mu s+1<f ->
  ∃Ge G1 Ef Eg,Run (eh (Cv Γ (.var 2)) (execs Γ uY) f) (fX rs s pl OP o3 o4 o5) .nx (fX rs (lim rs f s) Ge OR G1 Ef Eg)/\DN rs (lim rs f s) Ge
 |0,s,_,_,_,_,hs,_,hf=>by have:=mT hw hs;omega
 |f+1,s,pl,o3,o4,o5,hs,hI,hf=>by
  obtain⟨IG,a,c,d,q,JG⟩:=ql hP (rs:=rs) hw rs 0 s pl OR o3 o4 o5 hr (λi r h=>by rw[T2];exact h) hs hI;obtain⟨i1,i2,i3⟩:=fW hw rs s OR hr hs;have qb:Run (execs Γ uY) (fX rs s pl OP o3 o4 o5) .nx (fX rs (Dm rs (s,OR)).1 IG (Dm rs (s,OR)).2 a c d):=ay ah aD (eL (rs:=[(.loc,.tup (rs.map Cb))]) (af (ab rfl) ak) trivial xu rfl q aw);unfold lim;have m0:=mT hw hs;cases hb:(Dm rs (s,OR)).2 with
  |true =>
   rw[hb]at qb;rw[XI rfl];have Cz:=(i3 hb).resolve_left (by simp);obtain⟨Ii,a',c',d',q2,K6⟩:=qm hP hw hr f (Dm rs (s,OR)).1 IG a c d i1 JG ⋯;exact⟨Ii,a',c',d',uf (de rfl) qb q2,K6⟩
  |false =>
   rw[hb]at qb;rw[XM (by simp)];obtain⟨f,rfl⟩:∃g,f=g+1:=⟨f - 1,⋯⟩
   exact⟨IG,a,c,d,uf (de rfl) qb (qd (de rfl)),JG⟩
def u_(Γ:Tab):Prop:=∀(ws:List Str) (rs:List Row),ws.length<=24->(∀r∈rs,aR ws r)->∃pl,Γ "prices_and_places" [.tup (rs.map Cb)]=Od (.ok (.own,pD (lim rs fuel s0) pl))/\DN rs (lim rs fuel s0) pl
theorem xv(hP:gx Γ)(hw:ws.length<=24)(hr:∀r∈rs,aR ws r):∃pl,ei Γ By [.tup (rs.map Cb)]=Od (.ok (.own,pD (lim rs fuel s0) pl))/\DN rs (lim rs fuel s0) pl:=by
 obtain⟨pl,a,c,d,q,hI⟩:=qm hP hw hr fuel s0 (λ_=>0) OQ OQ OQ (i9 ws) (DN.start rs _) (by unfold fuel;decide);refine⟨pl,cL (st0:=[Od (.loc,.tup (rs.map Cb)),OQ,OQ,OQ,OQ,OQ]) rfl (.inl rfl) ?_ (ay (om) cy (ay (st2:=fX rs s0 (λ_=>0) OP OQ OQ OQ) ah aD (ug q (cF (aM rfl) (mG rfl))))),hI⟩;show [Od (if CI (.tup (rs.map Cb))=OP then Kd.loc else Kd.any,U.tup (rs.map Cb)),OQ,OQ,OQ,OQ,OQ]=_;rw[XI (by show bJ (rs.map Cb)=OP;exact bP rs)]
theorem Bz(hP:gx (CJ Pg d))(h:DL Pg "prices_and_places" By):u_ (CJ Pg (d+1)):=λws rs hw hr=>by
 obtain⟨pl,e,hI⟩:=xv hP hw hr;exact⟨pl,by rw[cv h];exact e,hI⟩
def Dq(c:Str->Int)(x:Str):U:=.tup [.str x,.int (c x)]
theorem qo(c:Str->Int):∀ks:List Str,jG (ks.map (Dq c))=Od ks
 |[]=>rfl
 |k::ks=>by
  show(jG (ks.map (Dq c))).map _=_;rw[qo c ks];rfl
theorem xw(c:Str->Int)(hl:ks.length<64)(hn:ks.Nodup):DO .sorted [(.own,.lst (ks.map (Dq c)))]=Od (.own,.lst ((aH ks).map (Dq c))):=by
 show v7 .own (ks.map (Dq c))=_;cases ks with
 |nil =>
  have e:aH []=[]:=WD.mp (bp []);show(if ([]:List Str).length<64 then Od (Kd.own,U.lst ((aH []).map U.str)) else OQ)=_;rw[e];rfl
 |cons k0 Oc =>
  generalize ES:k0::Oc=ks at hl hn;have e1:strsOf (ks.map (Dq c))=OQ:=by subst ES;rfl
  unfold v7;rw[e1];show v5 .own (ks.map (Dq c))=_;unfold v5;rw[qo];show(if _ then _ else _)=_;rw[XI ⟨hl,hn,rfl⟩,<-qU hn,PK];congr 3
  apply QR;intro i hi;have Dz:i<ks.length:=QT.mp ((cT _).mem_iff.mp hi);simp[RE,Dz]
theorem xx:DV .Ig [(.own,pD s pl)]=Od (s.1.map λk=>(Kd.loc,U.tup [.str k,.tup [.int (s.2 k),.int (pl k)]])):=by
 show Od (nO (s.1,s.1.map λk=>U.tup [.int (s.2 k),.int (pl k)]))=_;unfold nO;congr 1
 dsimp only
 generalize s.1=l;induction l with
 |nil=>rfl
 |cons k l ih=>rw[O5,RB,O5,ih,O5]
theorem BA(h:Run (ev Γ a) st (k,.bl c) st1):Run (ev Γ (.not a)) st (.loc,.bl !c) st1:=aa h rfl
section
theorem xy(CT:i≠j)(h0:st[i]?=Od (Od (k0,u0)))(DB:k0.root=OP)(Oe:st[j]?=Od (Od (k0',v0)))(K7:k0'.root=OP)(he:Run (a9 Γ es) st rs st1)
  (h1:st1[i]?=Od (Od (k,.lst us))) (hk:k.root=OP) (GX:bJ us=OP) (DW:st1[j]?=Od (Od (k',.lst vs))) (CL:k'.root=OP) (IH:bJ vs=OP) (GY:rs.all IA=OP)
  (h3:Γ f (.lst us::.lst vs::rs.map (·.2))=Od (.ok (kr,.tup [v,.lst Es,.lst De]))) (K3:kr=.own\/kr=.loc):Run (ev Γ (.B' f (.var i::.var j::es) [0,1])) st (kr,v) ((st1.set i (Od (k,.lst Es))).set j (Od (k',.lst De))):=by
 have hg:∀(i:Nat) (k0:Kd) (u0:U),st[i]?=Od (Od (k0,u0))->k0.root=OP->Run (ev Γ (.var i)) st (.bor i,u0) st:=λi k0 u0 h0 DB=>by
  have:=dP h0 (by rintro rfl;cases DB);unfold kv at this;rw[XI DB]at this;exact this
 have hb:∀(i:Nat) (k:Kd) (u0 u:U),st1[i]?=Od (Od (k,u))->k.root=OP->cH st1 (.bor i,u0)=(.bor i,u):=λi k u0 u h1 hk=>by
  unfold cH
  dsimp only
  rw[h1];simp[hk]
 have hm:rs.map (cH st1)=rs:=by
  conv=>rhs;rw[<-Ua rs]
  exact QR λr hr=>mO (Pe.mp GY r hr)
 have hf:((Kd.bor i,u0)::(Kd.bor j,v0)::rs).map (cH st1)=(.bor i,.lst us)::(.bor j,.lst vs)::rs:=by rw[O5,O5,hb i k u0 _ h1 hk,hb j k' v0 _ DW CL,hm]
 have hj:eW ((Kd.bor i,U.lst us)::(Kd.bor j,U.lst vs)::rs) 0=Od i:=by
  show(if bJ us=OP then Od i else OQ)=_;rw[XI GX]
 have FZ:eW ((Kd.bor i,U.lst us)::(Kd.bor j,U.lst vs)::rs) 1=Od j:=by
  show(if bJ vs=OP then Od j else OQ)=_;rw[XI IH]
 refine oq (rs:=(.bor i,u0)::(.bor j,v0)::rs) (ws:=[.lst Es,.lst De]) (st1:=st1) (af (hg i k0 u0 h0 DB) (af (hg j k0' v0 Oe K7) he)) ?_ ?_ K3 ?_ ?_
 ·rw[hf];exact⟨⟨k,hk,h1⟩,⟨k',CL,DW⟩,mP GY⟩
 ·rw[hf];exact h3
 ·rw[hf];unfold mf;rw[OS,OS];refine⟨⟨by simp[hj,FZ],by simp[hj,FZ,CT]⟩,Pe.mpr λq hq=>?_⟩
  match q with
  |0=>simp
  |1=>simp
  |q+2 =>
   have hl:q<rs.length:=by have:=QT.mp hq;simpa using this
   rw[Qz];refine .inr (jU ?_);rw[show((Kd.bor i,U.lst us)::(Kd.bor j,U.lst vs)::rs).getD (q+2) (.loc,.Ce)=rs[q] by simp[RE,hl]];exact Pe.mp GY _ (QU hl)
 ·rw[hf];unfold eG;rw[hj]
  dsimp only
  rw[h1]
  dsimp only
  unfold eG;rw[FZ]
  dsimp only
  rw[Pk CT,DW];rfl
end
def i_(Γ:Tab):Prop:=∀(ns:List Int) (u:U) (ws:List Str) (T:Int),Src T u->T+500<2 ^ 62->ns.length<1000->0<ws.length->ws.length<1000000 ->
  ∃(rs:List Row) (Dc:List Int) (u':U),Γ "_law_book" [.lst (ns.map .int),u,.lst (ws.map .str)]=Od (.ok (.loc,.tup [.tup (rs.map Cb),.lst (Dc.map .int),u']))/\b_ ws rs/\rs.length<=60/\Dc.length<=ns.length/\Src (T+500) u'
theorem vb(hS:fT (CJ Pg d))(hD:bf (CJ Pg d))(hR:i7 (CJ Pg d))(hL:i8 (CJ Pg d))(h:DL Pg "_law_book" qg):i_ (CJ Pg (d+1)):=by
 intro ns u ws T hu hT hn w0 hw;obtain⟨rs,Dc,u',e,r⟩:=oC hS hD hR hL hu hT hn w0 hw;exact⟨rs,Dc,u',by rw[bO h _ rfl];exact e,r⟩
theorem vc(hS:fT Γ){ns:List Int}:∃(Dc:List Int) (u:U),Run (ev Γ (.B' "_law_source" [.var 1,.cst (.int k)] [0])) (o0::Od (.own,.lst (ns.map .int))::rest) (.own,u) (o0::Od (.own,.lst (Dc.map .int))::rest)/\Dc.length<=ns.length/\Src 0 u:=by
 by_cases h:ns=[]
 ·subst h;exact⟨[],du k 0 1,zU (k0:=.own) (k:=.own) hS rfl rfl ah rfl rfl,O2 _,⟨_,_,_,rfl,⋯,⋯⟩⟩
 ·have e:=Ug h;generalize ns.dropLast=l at e;generalize ns.getLast h=c at e;subst e;exact⟨l,du (c / 2) 0 (c % 2),uC (k0:=.own) (k:=.own) hS rfl rfl ah rfl rfl,by simp,⟨_,_,_,rfl,⋯,⋯⟩⟩
theorem Src.lst(h:Src T u):∃us,u=.lst us/\bJ us=OP:=by
 obtain⟨a,t,w,rfl,_,_⟩:=h;exact⟨_,rfl,rfl⟩
theorem mW(hW:k_ Γ)(hB:i_ Γ)(hV:uR Γ){ns:List Int}(hn:ns.length<1000)(hu:Src 0 u):
  ∃(ws:List Str) (rs:List Row) (Dc:List Int) (u':U),Run (ev Γ (.B' "_law_widened" [.var 2,.B' "_law_book" [.var 1,.var 2,.B' "_law_words" [.var 2] [0]] [0,1]] [0])) (o0::Od (.own,.lst (ns.map .int))::Od (.own,u)::rest) (.loc,.tup (rs.map Cb)) (o0::Od (.own,.lst (Dc.map .int))::Od (.own,u')::rest)/\ws.length<=24/\(∀r∈rs,aR ws r)/\rs.length<=84:=by
 obtain⟨ws,u1,e1,w0,w1,s1⟩:=hW 0 u hu ⋯;obtain⟨us,rfl,im⟩:=hu.lst;obtain⟨L8,rfl,Of⟩:=s1.lst;have q1:=ff (Γ:=Γ) (st:=o0::Od (.own,.lst (ns.map .int))::Od (.own,.lst us)::rest) (i:=2) (es:=[]) (k0:=.own) (k:=.own) rfl rfl ak rfl rfl im rfl e1 (.inl rfl);obtain⟨rs,Dc,u2,e2,b2,l2,n2,s2⟩:=hB ns (.lst L8) ws _ s1 ⋯ hn ⋯ ⋯;obtain⟨L9,rfl,Og⟩:=s2.lst;have q2:=xy (Γ:=Γ) (st:=o0::Od (.own,.lst (ns.map .int))::Od (.own,.lst us)::rest) (st1:=o0::Od (.own,.lst (ns.map .int))::Od (.own,.lst L8)::rest) (i:=1) (j:=2) (k0:=.own) (k:=.own) (k0':=.own) (k':=.own) (rs:=[(.own,.lst (ws.map .str))]) ⋯ rfl rfl rfl rfl (af q1 ak) rfl rfl (d8 ns) rfl rfl Of rfl e2 (.inr rfl);obtain⟨CS,u3,e3,b3,l3,s3⟩:=hV _ (.lst L9) ws rs s2 ⋯ w1 b2.1 l2;obtain⟨Oh,rfl,OM⟩:=s3.lst;exact⟨ws,CS,Dc,.lst Oh,ff (Γ:=Γ) (st:=o0::Od (.own,.lst (ns.map .int))::Od (.own,.lst us)::rest) (st1:=o0::Od (.own,.lst (Dc.map .int))::Od (.own,.lst L9)::rest) (i:=2) (k0:=.own) (k:=.own) (rs:=[(.loc,.tup (rs.map Cb))]) rfl rfl (af q2 ak) rfl rfl Og rfl e3 (.inr rfl),w1,b3,l3⟩
def JH(rs:List Row)(s:C8):Prop:=∀r∈rs,(may s r&&DM s r)=OR
theorem qp:∀(rs:List Row) (s:C8) (b:Bool),(Dm rs (s,b)).2=OR->b=OR/\JH rs s/\(Dm rs (s,b)).1=s
 |[],s,b,h=>⟨h,λr hr=>(by cases hr),rfl⟩
 |r::rs,s,b,h=>by
  obtain⟨h1,h2,h3⟩:=qp rs (DX s r) (b||(may s r&&DM s r)) h;obtain⟨h4,h5⟩:=Bool.or_eq_false_iff.mp h1;have e:DX s r=s:=by unfold DX;rw[XM (by simp[h5])]
  rw[e]at h2;refine⟨h4,λq hq=>?_,?_⟩
  ·rcases O_.mp hq with rfl|hq
   ·exact h5
   ·exact h2 q hq
  ·show(Dm rs (DX s r,b||(may s r&&DM s r))).1=s;rw[h3,e]
theorem qq(hw:ws.length<=24)(hr:∀r∈rs,aR ws r):∀(n:Nat) (s:C8),fg ws s->mu s+1<n->JH rs (lim rs n s)
 |0,s,h,hn=>by have:=mT hw h;omega
 |n+1,s,h,hn=>by
  obtain⟨i1,i2,i3⟩:=fW hw rs s OR hr h;unfold lim;cases hb:(Dm rs (s,OR)).2 with
  |true =>
   rw[XI rfl];have:=(i3 hb).resolve_left (by simp);exact qq hw hr n _ i1 ⋯
  |false =>
   rw[XM (by simp)];obtain⟨_,h2,h3⟩:=qp rs s OR hb;rw[h3];exact h2
theorem DN.best(h:DN rs s pl)(hs:JH rs s)(hk:k∈s.1):∃(i:Nat) (r:Row),pl k=(i:Int)/\rs[i]?=Od r/\r.1=k/\(∀x∈r.2,x∈s.1)/\s.2 k=CH s r:=by
 obtain⟨i,r,a1,a2,a3,a4,a5⟩:=h k hk;refine⟨i,r,a1,a2,a3,a4,Int.le_antisymm ?_ a5⟩;have h1:=hs r (P' a2);have hm:may s r=OP:=Pe.mpr λx hx=>by simpa using a4 x hx
 rw[hm,Bool.true_and]at h1;unfold DM at h1;rw[a3]at h1;simp[hk]at h1;exact h1
def oH:Fn:=⟨"best_rows",1,1,[.ret (.bi .sorted [.comp 2 OP .Ig [.call "prices_and_places" [.var 0]] [] (.tup [.var 0,.idx (.var 1) (.cst (.int 1))])])]⟩
def qt(Γ:Tab):Prop:=∀(ws:List Str) (rs:List Row),ws.length<=24->(∀r∈rs,aR ws r)->∃pl,Γ "best_rows" [.tup (rs.map Cb)]=Od (.ok (.own,.lst ((aH (lim rs fuel s0).1).map (Dq pl))))/\DN rs (lim rs fuel s0) pl
theorem rE(hP:u_ Γ)(hw:ws.length<=24)(hr:∀r∈rs,aR ws r):∃pl,ei Γ oH [.tup (rs.map Cb)]=Od (.ok (.own,.lst ((aH (lim rs fuel s0).1).map (Dq pl))))/\DN rs (lim rs fuel s0) pl:=by
 have big:(1000:Nat)<=OV:=by decide
 obtain⟨pl,e,Dp⟩:=hP ws rs hw hr;refine⟨pl,?_,Dp⟩;have hI:=lp hw hr fuel s0 (i9 ws);generalize lim rs fuel s0=s at e hI;have hl:=hI.1.len;have hx:=ox (st:=[Od (.loc,.tup (rs.map Cb))]) (cond:=aP Γ []) (elt:=ev Γ (.tup [.var 0,.idx (.var 1) (.cst (.int 1))])) (src:=[(.own,pD s pl)]) trivial (λk:Str=>U.str k) (λk=>.tup [.int (s.2 k),.int (pl k)]) (Dq pl) (λ_=>OP) s.1 [] (by simp;omega)
  (λy _=>⟨gI,fQ (af (ab rfl) (af (aJ (ab rfl) ah trivial rfl) ak)) trivial (aA aG (aA aG aZ)) (by show 2<=OV;omega)⟩)
 rw[PH,show s.1.filter (λ_=>OP)=s.1 from List.filter_eq_self.mpr λ_ _=>rfl]at hx;refine cL (st0:=[Od (.loc,.tup (rs.map Cb))]) rfl (.inl rfl) ?_ (cF (cu (af (dc (rs:=[(.own,pD s pl)]) (af (dQ (af (ab rfl) ak) trivial e) ak) trivial xx hx) ak) trivial (xw pl ⋯ hI.1.1)) p6);show [Od (if CI (.tup (rs.map Cb))=OP then Kd.loc else Kd.any,U.tup (rs.map Cb))]=_;rw[XI (by show bJ (rs.map Cb)=OP;exact bP rs)]
theorem xA(hP:u_ (CJ Pg d))(h:DL Pg "best_rows" oH):qt (CJ Pg (d+1)):=λws rs hw hr=>by
 obtain⟨pl,e,i⟩:=rE hP hw hr;exact⟨pl,by rw[cv h];exact e,i⟩
def vd:Fn:=⟨"_law_whole",1,1,[.ret (.and [.Er (.var 0) .int,.not (.Er (.var 0) .bool)])]⟩
def qu:Fn:=⟨"_law_best",4,4,[.ite (.or [.not (.call "_law_whole" [.var 3]),.not (.Ea .le .lt (.cst (.int 0)) (.var 3) (.bi .len [.var 0])),.cmp .ne (.idx (.idx (.var 0) (.var 3)) (.cst (.int 0))) (.var 2)]) [.ret (.cst (.bl OR))] [],.ite (.not (.bi .all [.comp 1 OR .seq [.idx (.idx (.var 0) (.var 3)) (.cst (.int 1))] [] (.cmp .isin (.var 0) (.var 2))])) [.ret (.cst (.bl OR))] [],.ret (.cmp .eq (.idx (.var 1) (.var 2)) (.bin .add (.cst (.int 1)) (.bi .sum [.comp 1 OR .seq [.idx (.idx (.var 0) (.var 3)) (.cst (.int 1))] [] (.idx (.var 2) (.var 0))])))]⟩
def lr(Γ:Tab):Prop:=∀n:Int,Γ "_law_whole" [.int n]=Od (.ok (.loc,.bl OP))
theorem xB(h:DL Pg "_law_whole" vd):lr (CJ Pg (d+1)):=λn=>by
 rw[cv h];exact cL (st0:=[Od (.loc,.int n)]) rfl (.inr rfl) rfl (cF (xW (ua (p:=OP) (q:=OP) (ue (ab rfl) rfl) λ_=>t7 (BA (c:=OR) (ue (ab rfl) rfl)))) eJ)
theorem zY(h1:Run (ev Γ a) st x st1)(h2:Run (ev Γ b) st1 y st2)(h3:aU [x,y] st2)(h4:bg o1 x.2 y.2=Od OP)(h5:Run (ev Γ c) st2 z CY)(h6:aU [y,z] CY)(h7:bg o2 y.2 z.2=Od q):Run (Cv Γ (.Ea o1 o2 a b c)) st q CY :=
 aa h1 (aa h2 (aa (aI h3) (aa (cq h4) (aa h5 (aa (aI h6) (cq h7))))))
def oI(Γ:Tab):Prop:=∀(rs:List Row) (s:C8) (k:Str) (i:Nat) (r:Row),rs.length<=1000->rs[i]?=Od r->r.1=k->k∈s.1->(∀x∈r.2,x∈s.1)->r.2.length<=8->s.2 k=CH s r->Γ "_law_best" [.tup (rs.map Cb),cD s,.str k,.int (i:Int)]=Od (.ok (.loc,.bl OP))
theorem vf(hW:lr Γ){rs:List Row}{i:Nat}(hl:rs.length<=1000)(hi:rs[i]?=Od r)(hk:r.1=k)(ES:k∈s.1)(ht:∀x∈r.2,x∈s.1)(h8:r.2.length<=8)(hp:s.2 k=CH s r):ei Γ qu [.tup (rs.map Cb),cD s,.str k,.int (i:Int)]=Od (.ok (.loc,.bl OP)):=by
 have big:(1000:Nat)<=OV:=by decide
 have Cz:i<rs.length:=(O6.mp hi).1;let S:ax:=[Od (.loc,.tup (rs.map Cb)),Od (.any,cD s),Od (.loc,.str k),Od (.loc,.int (i:Int))]
 have hS:start [.tup (rs.map Cb),cD s,.str k,.int (i:Int)] qu.ns=S:=by
  show [Od (if CI (.tup (rs.map Cb))=OP then Kd.loc else Kd.any,U.tup (rs.map Cb)),Od (if CI (cD s)=OP then Kd.loc else Kd.any,cD s),Od (Kd.loc,U.str k),Od (Kd.loc,U.int (i:Int))]=_;rw[XI (by show bJ (rs.map Cb)=OP;exact bP rs),XM (by show ¬(OR=OP);decide)]
 have qr:∀st:ax,st[0]?=Od (Od (.loc,.tup (rs.map Cb)))->st[3]?=Od (Od (.loc,.int (i:Int)))->Run (ev Γ (.idx (.var 0) (.var 3))) st (.loc,Cb r) st:=λst h0 h3=>aJ (ab h0) (ab h3) trivial (ng (k:=.loc) (xh hi));have i0:dm (.loc,Cb r) (.int 0)=Od (.loc,.str r.1):=rfl;have i1:dm (.loc,Cb r) (.int 1)=Od (.loc,.tup (r.2.map .str)):=rfl;have q1:Run (ev Γ (.idx (.idx (.var 0) (.var 3)) (.cst (.int 1)))) S (.loc,.tup (r.2.map .str)) S:=aJ (qr S rfl rfl) ah trivial i1;have ta:=k7 (gw (Γ:=Γ) (st:=S) (src:=.idx (.idx (.var 0) (.var 3)) (.cst (.int 1))) (j:=1) (told:=r.2) (known:=s.1) (k:=.any) (w:=cD s) (.inr rfl) ⋯ q1 (.inl rfl) λx=>ou);rw[show(r.2.all λx=>OX (x∈s.1))=OP from Pe.mpr λx hx=>by simpa using ht x hx]at ta;have hx:=fb (cond:=aP Γ []) (elt:=ev Γ (.idx (.var 2) (.var 0))) (src:=[(.loc,.tup (r.2.map .str))]) (st:=S) trivial .loc (.inl rfl) U.str (λx=>.int (s.2 x)) .any (λ_=>gI) r.2 [] (by simp;omega)
  (λy hy=>⟨aJ (bx rfl) (ab rfl) trivial (by show(fH s.1 (s.1.map λk=>U.int (s.2 k)) y).map _=_;rw[cX (ht y hy)];rfl),pY rfl⟩)
 rw[PH]at hx;have qs:Run (ev Γ (.bi .sum [.comp 1 OR .seq [.idx (.idx (.var 0) (.var 3)) (.cst (.int 1))] [] (.idx (.var 2) (.var 0))])) S (.loc,.int (r.2.map s.2).sum) S:=cu (af (dc (rs:=[(.loc,.tup (r.2.map .str))]) (af q1 ak) trivial lq hx) ak) trivial (sum_ints _ _);have qc:Run (ev Γ (.idx (.var 1) (.var 2))) S (.any,.int (s.2 k)) S:=aJ (bx rfl) (ab rfl) trivial (by show(fH s.1 (s.1.map λk=>U.int (s.2 k)) k).map _=_;rw[cX ES];rfl);refine cL rfl (.inr rfl) hS (bc (wZ (p5 (jO (c:=OP) (zP (af (ab rfl) ak) trivial (hW _) rfl)) (p5 (jO (c:=OP) (zY ah (ab rfl) trivial (Bn (by simp)) (cu (af (ab rfl) ak) trivial p_) trivial (p9 (by simp;omega)))) (pZ (aS (aJ (qr S rfl rfl) ah trivial i0) (ab rfl) trivial (c:=OR) (by rw[zQ];simp[hk])))))) aw (bc (jO ta) aw (cF (fP (c:=OP) qc (aX ah qs trivial bj) trivial (bH ?_)) eJ)));rw[hp];simp[CH]
theorem zZ(hW:lr (CJ Pg d))(h:DL Pg "_law_best" qu):oI (CJ Pg (d+1)):=λrs s k i r hl hi hk ES ht h8 hp=>by
 rw[cv h];exact vf hW hl hi hk ES ht h8 hp
def lu:List S :=
   [.set 6 (.call "best_rows" [.var 3]),
   .ite (.or [.not (.Er (.var 6) .list),.not (.bi .all [.comp 1 OR .seq [.var 6] [] (.and [.Er (.var 0) .tuple,.cmp .eq (.bi .len [.var 0]) (.cst (.int 2))])])])
    [.ret (.cst (.bl OR))]
    [],
   .ite (.cmp .ne (.comp 1 OR .seq [.var 6] [] (.idx (.var 0) (.cst (.int 0)))) (.bi .sorted [.var 4]))
    [.ret (.cst (.bl OR))]
    [],
   .ite (.not (.bi .all [.comp 1 OR .seq [.var 6] [] (.call "_law_best" [.var 4,.var 5,.idx (.var 0) (.cst (.int 0)),.idx (.var 0) (.cst (.int 1))])]))
    [.ret (.cst (.bl OR))]
    [],
   .app 6 (.tup [(.cst (.str "a")),(.cst (.int 0))])]
def vg:Fn:=⟨"law",1,7,[.set 1 (.FF .DJ [.EC (.var 0) [] [.cst (.int 200)]]),.set 2 (.B' "_law_source" [.var 1,.cst (.int 1)] [0]),.set 3 (.B' "_law_widened" [.var 2,.B' "_law_book" [.var 1,.var 2,.B' "_law_words" [.var 2] [0]] [0,1]] [0]),.set 4 (.call "_law_costs" [.var 3]),.Cw OR [5] .CV [.cst (.int 2)] lu,.ret (.cst (.bl OP))]⟩
theorem mX{ks:List Str}(hl:ks.length<=1000)(hj:st[j]?=Od (Od (.own,.lst (ks.map (Dq c)))))(h:∀k∈ks,Run (ev Γ elt) (Od (.loc,Dq c k)::st) (.loc,.bl OP) (Od (.loc,Dq c k)::st)):Run (Cv Γ (.bi .all [.comp 1 OR .seq [.var j] [] elt])) st OP st:=by
 have big:(1000:Nat)<=OV:=by decide
 have hc:=fb (cond:=aP Γ []) (elt:=ev Γ elt) (src:=[(.bor j,.lst (ks.map (Dq c)))]) (st:=st) ⟨⟨.own,rfl,hj⟩,trivial⟩ .loc (.inl rfl) (Dq c) (λ_=>.bl OP) .loc (λ_=>gI) ks [] (by simp;omega) (λk hk=>⟨h k hk,aG⟩);rw[PH]at hc;have hb:DO .all [(.own,.lst (ks.map λ_=>U.bl OP))]=Od (.loc,.bl OP):=by
  have:=qf (k:=.own) (ks.map λ_=>OP);rw[PK]at this;refine Eq.trans this ?_;congr 3
  rw[U9];exact Pe.mpr λ_ _=>rfl
 exact k7 (cu (af (dc (rs:=[(.bor j,.lst (ks.map (Dq c)))]) (af (aM hj) ak) ⟨⟨.own,rfl,hj⟩,trivial⟩ (by show Od ((ks.map (Dq c)).map λu=>(kE (.bor j),u))=_;rw[PK];rfl) hc) ak) trivial hb)
theorem vh{ks:List Str}(hl:ks.length<=1000)(hj:st[j]?=Od (Od (.own,.lst (ks.map (Dq c))))):Run (ev Γ (.comp 1 OR .seq [.var j] [] (.idx (.var 0) (.cst (.int 0))))) st (.own,.lst (ks.map .str)) st:=by
 have big:(1000:Nat)<=OV:=by decide
 have hc:=fb (cond:=aP Γ []) (elt:=ev Γ (.idx (.var 0) (.cst (.int 0)))) (src:=[(.bor j,.lst (ks.map (Dq c)))]) (st:=st) ⟨⟨.own,rfl,hj⟩,trivial⟩ .loc (.inl rfl) (Dq c) U.str .loc (λ_=>gI) ks [] (by simp;omega) (λk hk=>⟨aJ (ab rfl) ah trivial rfl,aG⟩);rw[PH]at hc;exact dc (rs:=[(.bor j,.lst (ks.map (Dq c)))]) (af (aM hj) ak) ⟨⟨.own,rfl,hj⟩,trivial⟩ (by show Od ((ks.map (Dq c)).map λu=>(kE (.bor j),u))=_;rw[PK];rfl) hc
def rF(ns ns3:List Int)(u3:U)(rs:List Row)(s:C8)(o5 o6:Option (Kd×U)):ax:=[Od (.any,.lst (ns.map .int)),Od (.own,.lst (ns3.map .int)),Od (.own,u3),Od (.loc,.tup (rs.map Cb)),Od (.own,cD s),o5,o6]
theorem oJ(hE:oI Γ)(e6:Γ "best_rows" [.tup (rs.map Cb)]=Od (.ok (.own,.lst ((aH s.1).map (Dq pl)))))(Dp:DN rs s pl)(Cp:JH rs s)(hr:∀r∈rs,aR ws r)(hl:s.1.length<64)(ON:rs.length<=84):∃E_,Run (execs Γ lu) (rF ns ns3 u3 rs s o5 o6) .nx (rF ns ns3 u3 rs s o5 E_):=by
 have big:(1000:Nat)<=OV:=by decide
 have K8:(aH s.1).length<=1000:=by rw[bR];omega
 let S:ax:=rF ns ns3 u3 rs s o5 (Od (.own,.lst ((aH s.1).map (Dq pl))));have t1:Run (Cv Γ (.bi .all [.comp 1 OR .seq [.var 6] [] (.and [.Er (.var 0) .tuple,.cmp .eq (.bi .len [.var 0]) (.cst (.int 2))])])) S OP S:=mX (c:=pl) K8 rfl λk _=>xW (ua (p:=OP) (q:=OP) (ue (ab rfl) rfl) λ_=>t7 (fP (cu (af (ab rfl) ak) trivial p_) ah trivial (bH rfl)));have t2:Run (Cv Γ (.cmp .ne (.comp 1 OR .seq [.var 6] [] (.idx (.var 0) (.cst (.int 0)))) (.bi .sorted [.var 4]))) S OR S:=aS (y:=(.own,.lst ((aH s.1).map .str))) (vh (c:=pl) K8 rfl) (cu (af (aM rfl) ak) (by(first|exact trivial|exact⟨⟨_,rfl,rfl⟩,trivial⟩|exact⟨⟨_,rfl,rfl⟩,⟨_,rfl,rfl⟩,trivial⟩)) (by show(if s.1.length<64 then Od (Kd.own,U.lst ((aH s.1).map .str)) else OQ)=_;rw[XI hl])) trivial (rp (fc _ 49));have t3:Run (Cv Γ (.bi .all [.comp 1 OR .seq [.var 6] [] (.call "_law_best" [.var 4,.var 5,.idx (.var 0) (.cst (.int 0)),.idx (.var 0) (.cst (.int 1))])])) S OP S:=mX (c:=pl) K8 rfl λk hk=>by
  have CL:=(bp _).mem_iff.mp hk;obtain⟨i,r,a1,a2,a3,a4,a5⟩:=Dp.best Cp CL;have e:=hE rs s k i r ⋯ a2 a3 CL a4 (hr r (P' a2)).2.2.2 a5;rw[<-a1]at e;exact dQ (af (ab rfl) (af (aM rfl) (af (aJ (ab rfl) ah trivial rfl) (af (aJ (ab rfl) ah trivial rfl) ak)))) ⟨⟨.own,rfl,rfl⟩,trivial⟩ e
 exact⟨_,ay (dQ (af (ab rfl) ak) trivial e6) cy (bc (wZ (p5 (jO (c:=OP) (Bm (aM rfl) rfl)) (pZ (jO t1)))) aw (bc t2 aw (bc (jO t3) aw (gJ (k:=.own) (k':=.own) rfl (fQ (af ah (af ah ak)) trivial (aA aG (aA aG aZ)) (by show 2<=OV;omega)) aG rfl rfl (by rw[OY,bR];omega) aw))))⟩
theorem rG(hS:fT Γ)(hW:k_ Γ)(hB:i_ Γ)(hV:uR Γ)(hC:uV Γ)(hP:qt Γ)(hE:oI Γ){ns:List Int}(hn:ns.length<=63):ei Γ vg [.lst (ns.map .int)]=Od (.ok (.loc,.bl OP)):=by
 have II:nN .DJ [(.own,.lst ((cut ns OQ (Od 200)).map .int))]=Od (.own,.lst ((cut ns OQ (Od 200)).reverse.map .int)):=by
  show(if fF .own ((cut ns OQ (Od 200)).map U.int)=OP then Od (Kd.own,U.lst ((cut ns OQ (Od 200)).map U.int).reverse) else OQ)=_;rw[XI (show fF .own ((cut ns OQ (Od 200)).map U.int)=OP from rfl),List.map_reverse]
 have hlen:(cut ns OQ (Od 200)).reverse.length<=63:=by rw[R8];have:=xc ns OQ (Od 200);omega
 generalize (cut ns OQ (Od 200)).reverse=Oi at II hlen;obtain⟨Oj,u2,q2,l2,s2⟩:=vc (Γ:=Γ) hS (ns:=Oi) (rest:=[OQ,OQ,OQ,OQ,OQ]) (o0:=Od (.any,.lst (ns.map .int))) (k:=1);obtain⟨ws,rs,ns3,u3,q3,w3,r3,l3⟩:=mW (Γ:=Γ) hW hB hV (ns:=Oj) (rest:=[OQ,OQ,OQ,OQ]) (o0:=Od (.any,.lst (ns.map .int))) ⋯ s2;have e4:=hC ws rs w3 r3;obtain⟨pl,e6,Dp⟩:=hP ws rs w3 r3;have hI:=lp w3 r3 fuel s0 (i9 ws);have Cp:=qq w3 r3 fuel s0 (i9 ws) (by unfold fuel;decide);generalize lim rs fuel s0=s at e4 e6 hI Dp Cp;have hl:=hI.1.len;obtain⟨st',hf,o5,o6,rfl⟩:=dR (rs:=[(.loc,.int (2:Nat))]) (t:=OR) (is:=[5]) (body:=execs Γ lu) (λi:Nat=>(Kd.loc,U.int (0+(i:Int)))) (λd r st=>∃o5 o6,st=rF ns ns3 u3 rs s o5 o6)
  (λd r st _=>trivial) (λd y r st h=>by
   obtain⟨o5,o6,rfl⟩:=h;obtain⟨E_,q⟩:=oJ (Γ:=Γ) hE (ns:=ns) (ns3:=ns3) (u3:=u3) (o5:=Od (.loc,.int (0+(y:Int)))) (o6:=o6) e6 Dp Cp r3 ⋯ l3;exact⟨rF ns ns3 u3 rs s (Od (.loc,.int (0+(y:Int)))) o6,_,aD,q,_,_,rfl⟩) (Pl 2) [] (rF ns ns3 u3 rs s OQ OQ) ⟨OQ,OQ,rfl⟩
 refine cL (st0:=[Od (.any,.lst (ns.map .int)),OQ,OQ,OQ,OQ,OQ,OQ]) rfl (.inr rfl) rfl (ay (Bg (af (mF (bx rfl) pW (jN ah) trivial (ud (by show bJ _=OP;exact d8 ns))) ak) trivial II) cy (ay q2 cy (ay q3 aD (ay (dQ (af (ab rfl) ak) trivial e4) cy (eL (rs:=[(.loc,.int (2:Nat))]) (af ah ak) trivial (gu ⋯) rfl hf (cF ah eJ))))))
end TM
namespace K
open PySem L2 TM
def top(i:Nat):RY:=PySem.Challenge.pw_primer_k22_best_rows.main.body.getD i (.Pass ⟨0,0,0,0⟩)
def gK:Fn:=TM.uW
def cz:Fn:=⟨"prices_and_places",1,6,[.set 1 (.Du OR),.set 2 (.cst (.bl OP)),.EZ (.var 2) [.set 2 (.cst (.bl OR)),.Cw OP [3,4] .Hi [.var 0] [.ite (.bi .all [.comp 1 OR .seq [.idx (.var 4) (.cst (.int 1))] [] (.cmp .isin (.var 0) (.var 2))]) [.set 5 (.call "row_price" [.var 4,.var 1]),.ite (.or [.cmp .CA (.idx (.var 4) (.cst (.int 0))) (.var 1),.cmp .lt (.var 5) (.idx (.idx (.var 1) (.idx (.var 4) (.cst (.int 0)))) (.cst (.int 0)))]) [.put 1 (.idx (.var 4) (.cst (.int 0))) (.tup [.var 5,.var 3]),.set 2 (.cst (.bl OP))] []] []]],.ret (.var 1)]⟩
def gL:Fn:=TM.oH
def fY:Fn:=⟨"_law_source",2,3,[.DK [0],.ite (.cmp .eq (.bi .len [.var 0]) (.cst (.int 0))) [.ret (.lst [.var 1,.cst (.int 0),.cst (.int 1)])] [],.set 2 (.pop 0),.ret (.lst [.bin .Fi (.var 2) (.cst (.int 2)),.cst (.int 0),.bin .mod (.var 2) (.cst (.int 2))])]⟩
def ja:Fn:=⟨"_law_draw",2,5,[.DK [0],.put 0 (.cst (.int 1)) (.bin .add (.idx (.var 0) (.cst (.int 1))) (.cst (.int 1))),.ite (.cmp .eq (.idx (.var 0) (.cst (.int 2))) (.cst (.int 0))) [.set 2 (.bin .mod (.idx (.var 0) (.cst (.int 0))) (.var 1)),.put 0 (.cst (.int 0)) (.bin .Fi (.idx (.var 0) (.cst (.int 0))) (.var 1)),.ret (.var 2)] [],.set 3 (.idx (.var 0) (.cst (.int 1))),.set 4 (.bin .add (.bin .add (.bin .mul (.bin .add (.bin .mod (.idx (.var 0) (.cst (.int 0))) (.bin .pow (.cst (.int 10)) (.cst (.int 15)))) (.cst (.int 1))) (.cst (.int 48271))) (.bin .mul (.bin .mul (.var 3) (.var 3)) (.cst (.int 16807)))) (.bin .mul (.var 3) (.cst (.int 7919)))),.ret (.bin .mod (.bin .mod (.bin .mul (.bin .mod (.var 4) (.cst (.int 2147483647))) (.cst (.int 69621))) (.cst (.int 2147483629))) (.var 1))]⟩
def gM:Fn:=⟨"_law_words",1,11,[.DK [0],.set 1 (.cst (.str "abcdefghijklmnopqrstuvwxyz")),.set 2 (.bin .add (.cst (.int 1)) (.B' "_law_draw" [.var 0,.idx (.lst [.cst (.int 8),.cst (.int 16),.cst (.int 24)]) (.B' "_law_draw" [.var 0,.cst (.int 3)] [0])] [0])),.set 3 (.Fj .join (.cst (.str "")) [.comp 1 OR .CV [.cst (.int 8)] [] (.idx (.var 2) (.B' "_law_draw" [.var 1,.cst (.int 26)] [0]))]),.set 4 (.B' "_law_draw" [.var 0,.cst (.int 4)] [0]),.set 5 (.bin .add (.cst (.int 1)) (.B' "_law_draw" [.var 0,.cst (.int 8)] [0])),.set 6 (.B' "_law_draw" [.var 0,.cst (.int 26)] [0]),.set 7 (.lst []),.Cw OR [8] .CV [.var 2] [.set 9 (.EC (.var 3) [] [.bin .add (.cst (.int 1)) (.bin .mod (.var 8) (.cst (.int 8)))]),.set 10 (.bin .add (.cst (.int 1)) (.bin .Fi (.var 8) (.cst (.int 8)))),.ite (.cmp .eq (.var 4) (.cst (.int 1))) [.set 9 (.EC (.var 3) [] [.var 5]),.set 10 (.bin .add (.cst (.int 1)) (.var 8))] [],.ite (.cmp .gt (.var 4) (.cst (.int 1))) [.set 9 (.bin .add (.idx (.var 1) (.bin .mod (.bin .add (.var 6) (.bin .mul (.cst (.int 7)) (.var 8))) (.cst (.int 26)))) (.EC (.var 3) [.cst (.int 1)] [.var 5])),.set 10 (.cst (.int 1))] [],.ite (.cmp .eq (.var 4) (.cst (.int 3))) [.set 10 (.bin .add (.cst (.int 1)) (.B' "_law_draw" [.var 0,.cst (.int 99)] [0]))] [],.app 7 (.ite (.cmp .eq (.var 10) (.cst (.int 1))) (.var 9) (.bin .add (.bin .add (.var 9) (.cst (.str "/"))) (.bi .str [.var 10])))],.ret (.var 7)]⟩
def jZ:Fn:=⟨"_law_row",4,7,[.DK [0],.set 4 (.lst []),.Cw OR [5] .CV [.idx (.lst [.cst (.int 0),.cst (.int 1),.cst (.int 1),.cst (.int 2),.cst (.int 2),.cst (.int 3),.cst (.int 8),.cst (.int 2)]) (.B' "_law_draw" [.var 0,.cst (.int 8)] [0])] [.set 6 (.idx (.var 1) (.B' "_law_draw" [.var 0,.bi .len [.var 1]] [0])),.ite (.and [.var 3,.cmp .gt (.var 2) (.cst (.int 0))]) [.set 6 (.idx (.var 1) (.B' "_law_draw" [.var 0,.var 2] [0]))] [],.ite (.cmp .CA (.var 6) (.var 4)) [.app 4 (.var 6)] []],.ret (.tup [.idx (.var 1) (.var 2),.bi .tuple [.var 4]])]⟩
def j3:Fn:=⟨"_law_lay",2,3,[.DK [0],.Cw OR [2] .seq [.var 0] [.ite (.and [.cmp .eq (.idx (.var 2) (.cst (.int 0))) (.idx (.var 1) (.cst (.int 0))),.cmp .eq (.bi .sorted [.idx (.var 2) (.cst (.int 1))]) (.bi .sorted [.idx (.var 1) (.cst (.int 1))])]) [.Eb] []],.app 0 (.var 1)]⟩
def jb:Fn:=⟨"_law_book",3,8,[.DK [0,1],.set 3 (.lst []),.set 4 (.B' "_law_draw" [.var 1,.cst (.int 4)] [0]),.Cw OR [5] .CV [.B' "_law_draw" [.var 1,.cst (.int 25)] [0]] [.set 6 (.B' "_law_draw" [.var 1,.bi .len [.var 2]] [0]),.ite (.cmp .eq (.var 4) (.cst (.int 3))) [.set 6 (.bin .mod (.var 5) (.bi .len [.var 2]))] [],.exp (.B' "_law_lay" [.var 3,.B' "_law_row" [.var 1,.var 2,.var 6,.cmp .gt (.var 4) (.cst (.int 1))] [0]] [0])],.EZ (.and [.cmp .gt (.bi .len [.var 0]) (.cst (.int 0)),.cmp .lt (.bi .len [.var 3]) (.cst (.int 60))]) [.set 7 (.B' "_law_source" [.var 0,.cst (.int 0)] [0]),.exp (.B' "_law_lay" [.var 3,.B' "_law_row" [.var 7,.var 2,.B' "_law_draw" [.var 7,.bi .len [.var 2]] [0],.cmp .eq (.var 4) (.cst (.int 2))] [0]] [0])],.ret (.bi .tuple [.var 3])]⟩
def gN:Fn:=⟨"_law_costs",1,6,[.set 1 (.Du OR),.set 2 (.cst (.bl OP)),.EZ (.var 2) [.set 2 (.cst (.bl OR)),.Cw OP [3,4] .seq [.var 0] [.ite (.bi .all [.comp 1 OR .seq [.var 4] [] (.cmp .isin (.var 0) (.var 2))]) [.set 5 (.bin .add (.cst (.int 1)) (.bi .sum [.comp 1 OR .seq [.var 4] [] (.idx (.var 2) (.var 0))])),.ite (.or [.cmp .CA (.var 3) (.var 1),.cmp .lt (.var 5) (.idx (.var 1) (.var 3))]) [.put 1 (.var 3) (.var 5),.set 2 (.cst (.bl OP))] []] []]],.ret (.var 1)]⟩
def gO:Fn:=TM.vd
def jc:Fn:=TM.qu
def j4:Fn:=⟨"_law_all",1,5,[.set 1 (.Du OR),.Cw OP [2,3] .seq [.var 0] [.put 1 (.var 2) (.cst (.bl OP)),.Cw OR [4] .seq [.var 3] [.put 1 (.var 4) (.cst (.bl OP))]],.ret (.bi .sorted [.var 1])]⟩
def eN:Fn:=⟨"_law_widened",2,8,[.DK [0],.ite (.cmp .ne (.B' "_law_draw" [.var 0,.cst (.int 8)] [0]) (.cst (.int 1))) [.ret (.var 1)] [],.set 2 (.bin .add (.cst (.int 1)) (.B' "_law_draw" [.var 0,.cst (.int 2)] [0])),.set 3 (.comp 1 OR .seq [.var 1] [.cmp .eq (.idx (.var 0) (.cst (.int 1))) (.tup [])] (.idx (.var 0) (.cst (.int 0)))),.set 4 (.call "_law_all" [.var 1]),.set 5 (.lst []),.Cw OR [6] .CV [.bi .len [.var 4]] [.set 7 (.DU 4 (.B' "_law_draw" [.var 0,.bi .len [.var 4]] [0])),.ite (.and [.cmp .CA (.var 7) (.var 3),.cmp .eq (.B' "_law_draw" [.var 0,.var 2] [0]) (.cst (.int 0))]) [.app 5 (.tup [.var 7,.tup []])] []],.ret (.bin .add (.var 1) (.bi .tuple [.var 5]))]⟩
def x6:Fn:=⟨"law",1,7,[.set 1 (.FF .DJ [.EC (.var 0) [] [.cst (.int 200)]]),.set 2 (.B' "_law_source" [.var 1,.cst (.int 1)] [0]),.set 3 (.B' "_law_widened" [.var 2,.B' "_law_book" [.var 1,.var 2,.B' "_law_words" [.var 2] [0]] [0,1]] [0]),.set 4 (.call "_law_costs" [.var 3]),.Cw OR [5] .CV [.cst (.int 2)] [.set 6 (.call "best_rows" [.var 3]),.ite (.or [.not (.Er (.var 6) .list),.not (.bi .all [.comp 1 OR .seq [.var 6] [] (.and [.Er (.var 0) .tuple,.cmp .eq (.bi .len [.var 0]) (.cst (.int 2))])])]) [.ret (.cst (.bl OR))] [],.ite (.cmp .ne (.comp 1 OR .seq [.var 6] [] (.idx (.var 0) (.cst (.int 0)))) (.bi .sorted [.var 4])) [.ret (.cst (.bl OR))] [],.ite (.not (.bi .all [.comp 1 OR .seq [.var 6] [] (.call "_law_best" [.var 4,.var 5,.idx (.var 0) (.cst (.int 0)),.idx (.var 0) (.cst (.int 1))])])) [.ret (.cst (.bl OR))] [],.app 6 (.tup [.cst (.str "a"),.cst (.int 0)])],.ret (.cst (.bl OP))]⟩
def prog:List Fn:=[gK,cz,gL,fY,ja,gM,jZ,j3,jb,gN,gO,jc,j4,eN,x6]
def ck:Ck:=⟨(prog.filter λf=>f.io.isNone).map (·.name),[],prog.filterMap λf=>f.io.map λp=>(f.name,p.1)⟩
theorem pure(ns:List Int)(Dw:ns.length<=63):CJ prog 4 "law" [oi ns]=Od (.ok (.loc,.bl OP)):=by
 have hd:DL prog "_law_draw" um:=rfl;have hs:DL prog "_law_source" xi:=rfl;have D1:bf (CJ prog 1):=uq hd;have D2:bf (CJ prog 2):=uq hd;have hl:DL prog "law" vg:=rfl;rw[show CJ prog 4 "law" [oi ns]=_ from cv hl [oi ns]];exact rG (uB hs) (xm D2 rfl) (vb (uB hs) D2 (Br D1 rfl) (Bt rfl) rfl) (Bx D2 (Bv rfl) rfl) (zW rfl) (xA (Bz (zX rfl) rfl) rfl) (zZ (xB rfl) rfl) Dw
end K
namespace K
open PySem L2 TM PySem.W PyProof.Rows
def m0:OW:=.str "primer.prices" 187
def m1:OW:=.str "law_primer_k22_best_rows" 207
def ml:Me:=⟨x6,16,["_law_script","_law_left","_law_source_here","_law_book_here","_law_costs_here","_law_turn","_law_found"],103,102,m1,co "law" 307 119 1 99 100 .none .none (.ref 101) 310 311 181⟩
def ms:List Me:=[⟨gK,1,["row","found"],19,18,m0,co "row_price" 189 2 2 15 16 .none .none (.ref 17) 192 193 181⟩,
 ⟨cz,2,["book","found","fallen","place","row","price"],24,23,m0,co "prices_and_places" 195 4 1 20 21 .none .none (.ref 22) 198 199 181⟩,
 ⟨gL,3,["book"],29,28,m0,co "best_rows" 201 16 1 25 26 .none .none (.ref 27) 204 205 181⟩,
 ⟨fY,5,["_law_left","_law_k","_law_cell"],36,35,m1,co "_law_source" 209 19 2 30 31 (.ref 32) (.ref 33) (.ref 34) 215 216 181⟩,
 ⟨ja,6,["_law_source_here","_law_many","_law_number","_law_turn","_law_mixed"],43,42,m1,co "_law_draw" 218 24 2 37 38 (.ref 39) (.ref 40) (.ref 41) 226 227 181⟩,
 ⟨gM,7,["_law_source_here","_law_letters","_law_many","_law_base","_law_way","_law_size","_law_first","_law_words_here","_law_k","_law_word","_law_sense"],48,47,m1,co "_law_words" 229 33 1 44 45 .none .none (.ref 46) 232 233 181⟩,
 ⟨jZ,8,["_law_source_here","_law_words_here","_law_at","_law_below","_law_told","_law_k","_law_one"],55,54,m1,co "_law_row" 235 54 4 49 50 (.ref 51) (.ref 52) (.ref 53) 245 246 181⟩,
 ⟨j3,9,["_law_rows","_law_row_here","_law_other"],62,61,m1,co "_law_lay" 248 63 2 56 57 (.ref 58) (.ref 59) (.ref 60) 254 255 181⟩,
 ⟨jb,10,["_law_left","_law_source_here","_law_words_here","_law_rows","_law_way","_law_k","_law_at","_law_more"],69,68,m1,co "_law_book" 257 68 3 63 64 (.ref 65) (.ref 66) (.ref 67) 268 269 181⟩,
 ⟨gN,11,["_law_book_here","_law_costs_here","_law_fell","_law_word","_law_told","_law_length"],74,73,m1,co "_law_costs" 271 80 1 70 71 .none .none (.ref 72) 274 275 181⟩,
 ⟨gO,12,["_law_found"],81,80,m1,co "_law_whole" 277 92 1 75 76 (.ref 77) (.ref 78) (.ref 79) 281 282 181⟩,
 ⟨jc,13,["_law_book_here","_law_costs_here","_law_word","_law_place"],86,85,m1,co "_law_best" 284 94 4 82 83 .none .none (.ref 84) 287 288 181⟩,
 ⟨j4,14,["_law_book_here","_law_met","_law_word","_law_told","_law_one"],93,92,m1,co "_law_all" 290 100 1 87 88 (.ref 89) (.ref 90) (.ref 91) 298 299 181⟩,
 ⟨eN,15,["_law_source_here","_law_book_here","_law_share","_law_heads","_law_pool","_law_more","_law_k","_law_word"],98,97,m1,co "_law_widened" 301 107 2 94 95 .none .none (.ref 96) 304 305 181⟩,
 ml]
def gg(P:VP):Obj:=⟨.type "dict",OQ,.dict #[ge P "__name__" 165 (.str "law_primer_k22_best_rows" 207),ge P "__doc__" 166 .none,ge P "__package__" 167 .none,ge P "__loader__" 168 (.builtin "__main__.__loader__#opaque"),ge P "__spec__" 169 .none,ge P "__annotations__" 170 (.ref 6),ge P "__builtins__" 171 (.ref 4),ge P "__file__" 173 (.str "/claim/cut.py" 172),ge P "__cached__" 174 .none,ge P "row_price" 194 (.ref 19),ge P "prices_and_places" 200 (.ref 24),ge P "best_rows" 206 (.ref 29),ge P "_law_source" 217 (.ref 36),ge P "_law_draw" 228 (.ref 43),ge P "_law_words" 234 (.ref 48),ge P "_law_row" 247 (.ref 55),ge P "_law_lay" 256 (.ref 62),ge P "_law_book" 270 (.ref 69),ge P "_law_costs" 276 (.ref 74),ge P "_law_whole" 283 (.ref 81),ge P "_law_best" 289 (.ref 86),ge P "_law_all" 300 (.ref 93),ge P "_law_widened" 306 (.ref 98),ge P "law" 312 (.ref 103)] 24,#[]⟩
def vw:PZ:=view PySem.Challenge.pw_primer_k22_best_rows [1,2,3,5,6,7,8,9,10,11,12,13,14,15,16]
def hk:Hook:=kHook (λP=>Ee top (gg P) ms) (adr ms) λP=>pV top (gg P) ms
theorem hl:LeftO PySem.Challenge.rw_primer_k22_best_rows.row.prog vw [] (λs=>xlAt vw [] s&&recOk (RowW.records PySem.Challenge.rw_primer_k22_best_rows.row.toRowW) s) hk.obs hk.val 4000:=λw=>by kernel_rfl
theorem hs:PySem.Challenge.rw_primer_k22_best_rows.wellSaid=OP:=by kernel_rfl
theorem ho(P:VP):Ga ck top (Ee top (gg P) ms) ms=OP:=by kernel_rfl
end K
open PySem PySem.W PyProof.Rows K
theorem PySem.Challenge.cw_primer_k22_best_rows_holds : PySem.Challenge.rw_primer_k22_best_rows.Holds := by
 w_on
 refine holds_law hs λz => ?_;refine holds_open hl hk.of hk.keeps (λs e => xl_of s (QM.mp e).1) XL.keeps rfl rfl rfl (λs e => recFacts_of (QM.mp e).2) rfl z (by kernel_rfl) ⟨rfl, rfl, rfl, rfl, rfl, by decide +kernel⟩ ?hw ?hc
 (case hw => w_witness2)
 exact TM.walk2 (l := PySem.Challenge.rw_primer_k22_best_rows) (Pg := prog) (ck := ck) (dp := 3) (x := "_law_script") (m := ml) rfl rfl ⟨rfl, by decide, by decide, rfl⟩ rfl (by decide +kernel) (by decide +kernel) rfl (by simp [ms]) rfl rfl ho K.pure
