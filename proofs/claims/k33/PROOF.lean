import PyProof.Rows.All
import Wide.All
import OpenK.AllK
import Wide.FinOn
import Lean
import PyProof.EqAt
import PyProof.EqKinds
import PyProof.TupleCall
import PyProof.StrLawsChain
import PyProof.StrLawsFirst
import PyProof.Rows.StrNews2
import OpenK.AllK
import PySem.SetOps
import OpenK.AllK
import PyProof.DictItems
import PyProof.StationsW
import PyProof.ExcBaseAll.ValueError
import PyProof.RulesAs
import PyProof.NsDelKeeps
import OpenK.AllK
import PyProof.ExcArgsOwn
import PyProof.ExcAttrAll.ValueError
import PyProof.IsiBase
import PyProof.ReprBulk
import PySem.Challenge.RW_primer_k33_musts
set_option Elab.async false
set_option linter.all false
set_option bootstrap.genMatcherCode false
set_option maxRecDepth 100000
set_option maxHeartbeats 4000000
set_option genInjectivity false
set_option genSizeOf false
set_option autoImplicit true
set_option relaxedAutoImplicit true
open Option renaming some->a5,none->bD,map_eq_some_iff->gs,bind_eq_some_iff->sx,isNone_iff_eq_none->RQ,isSome_iff_exists->R',map_eq_none_iff->Sv,isSome_map->UL,getD_none->Vg,map_some->Vy
open PySem renaming wpAny_bind->b6,sizeLine->cL,wpAny_pure->df,Value->d3,wpAny->d6,Shared->d8,model->ez,Addr->eH,starEach->hW,mainGlobals->i8,Expr->mf,wpAny_mono->mh,wpAny_setState_of->mu,wpAny_Call_Name_kw->ro,bootBuiltins->tv,wpAny_holding->t6,rawInt->u7,Program->va,eval->ve,wpAny_newObj_type->x3,backTo->DD,scanBound->D6,World->H8,isSubtype_type->Jd,Heap->Jy,wpAny_call_entry->Kf,codeAny_builtin->Kz,cLine->LD,Scope->LS,compareOp->LW,wpAny_truthy_bool->L7,keywordEach->L9,foldedSetIterable->Mb,Stmt->Mi,holding->MX,Builtin->M6,wpAny_setField->Nk,Around->Nm,call->NQ,sysModules->NZ,wpAny_passesOwn->N5,wpAny_execs_nil->N6,isSubtype->N_,builtinLookup_eq_fast->Oa,Keyword->Oi,wpAny_rule->ON,binaryOp->OO,SetTable->OP,NameKind->OT,wpAny_isInstance->OX,swapsWith->O_,wpAny_pyIter_tuple->PM,tupleKind_room_in1->PN,assignEach->PV,wpAny_getItem_str_slice->Qa,wpAny_callSpecial?_slot->Qb,wpAny_loadPart_at->Qj,codeAny->Qk,backToKw->Ql,wpAny_askSetting->QM,typeLookup->QO,swapsWithSole->Q2,behindInMarks->Q6,sliceBounds->Rh,wpAny_updateSeq->RY,typeLookup_type->RZ,call_isinstance->R0,wpAny_setEntries_of->R7,codeAny_mono->Sa,call_meets->Sq,assign->Ss,FuncData->Su,notedBy->S0,plainId_quiet->Tb,attributeBase->Tc,setItem->TR,relabel->TU,pyNext->TV,callerA->TX,wpAny_specialOf->Ug,wpAny_loadPart'->Um,post_val_or_str->Uo,letOwnedTupleGo->Ux,wpAny_seqItems->UM,wpAny_field->UP,firstArgMember->UT,codeAny_call_builtin->UZ,tupleKind->Va,swappedStores->Vn,Params->VF,wpAny_typeOf->V9,wpAny_storeSet_of->V_,wpAny_setEpoch_of->V',wpAny_pyIter_list->Wc,wpAny_pyIter_enum->Wd,wpAny_Assign_Name->We,valueAt->Wf,sub_set_self->Wg,setNext->Wh,setField->Wj,release->Wk,getItem->Wm,fits_of_scanBound->Wo,concat_meets->Wq,compEnvC->Wr,wpAny_execs_cons->WN,typeOf->W2,seqItems?->W8,seqIndex?->W9,pickOrder->Xg,noFill_tuple_add->Xh,checkBuiltinCall->Xo,PassesOwn->Xp,wpAny_of_eq->Xz,unsupported->XH,subscripted->XI,standAt->X6,wpAny_runValue->YP,typeIs_str->YR,relayAll->YS,raiseNew->YZ,pyIter->Y1,entryFor_alias->Y2,atKey->Y3,GenState->Y5,codeAny_handlers_suite_as->Zl,wpAny_standAt->ZF,wpAny_newList->ZH,wpAny_comprehension_free->ZI,seq_tuple_add->ZJ,wpAny_Call_method0_late->ZY,bindL->Z0,bindC->Z1,wpAny_Call_method_late->Z7,setNextDrawn->Z8,newExc->Z9,collect->Z_,call_meetsIn->Z',IsEnum->Ä,BindsTo->Ç,wpAny_isTrue_Compare1->Ñ,codeAny_handlers_test->Ò,wpAny_pyIter_revIter->Ý,step->Þ,sizeLine_eq->ß,seqIndex_of->à,entryFor->á,codeAny_extend_loopS->â,bindArgs->ã,Operator->ä,wpAny_handleBy_cons->î,wpAny_Tuple_spliced->ï,wpAny_load->ö,wpAny_call->ø,wpAny_Name->ù,setsByText->ú,builtinsNs->û,WalksS->ü,JoinOk->þ,wpAny_pyIter_slot->Ĉ,wpAny_assign_Name->ĉ,spliced->Ċ,slot_list_getitem->ċ,newList->Č,ItemsOf->Ē,wpAny_setScan_of->ė,wpAny_eqBool_str->Ę,wpAny_eqBool_int->ę,wpAny_Try_except->Ě,updateSeq->ě,storeName->Ĝ,setDiscardHashed->ĝ,rule->Ğ,cellsFrom->ğ,codeAny_of_tree->ĩ,wpAny_Expr_any->İ,truthy->ı,recursionLimit->Ĳ,newTuple->ĳ,isSubtype_stop->Ĵ,field->ĵ,augStore->Ķ,argsOk->ķ,again->ĸ
open Bool renaming true->b8,and_eq_true->cb,false->cc,false_ne_true->i7,not_eq_true'->nH,false_eq_true->Jr,eq_iff_iff->Kk,or_eq_true->LJ,and_eq_true_iff->LO,and_false->TQ,or_false->XZ,not_true->X3,false_and->õ,and_true->Ć,and_self->ć
open Decidable renaming decide->cK
open PySem.Heap renaming get?_push_of_some->c4,lt_size->fx,get?_push_size->gj,SameBut->qs,get?_update_self->t7,get?_update_other->M1,get?_update_ne->OL,size_push->WE,ExtBut->ġ
open List renaming length_map->dt,getElem?_eq_some_iff->dV,mem_cons->d7,getElem?_set_self->ei,map_cons->et,size_toArray->hH,range->hJ,getElem?_set_ne->hQ,length_append->i0,mem_singleton->i2,replicate->i5,mem_append->i6,nil_append->i9,mem_map->js,length_cons->ke,all_eq_true->ki,map_map->kj,getElem?_map->ko,map_append->kr,mem_cons_of_mem->l0,nodup_cons->mx,mem_of_getElem?->my,mem_append_right->mA,mem_cons_self->mN,getElem?_eq_getElem->ri,getElem?_append_right->rr,length_filter_le->td,append_nil->tj,lookup_cons->t4,nodup_append->t5,getElem?_append_left->u3,mem_range->u5,mem_filter->vl,not_mem_nil->vr,filter_cons->vu,map_congr_left->w6,length_range->x2,length_take->C0,filterMap_cons->D7,isEmpty_iff->Jp,map_nil->Jz,length->J7,getElem?_replicate->Ki,getElem_mem->KX,mem_filterMap->K2,getElem?_drop->Lm,length_singleton->Lq,ext_getElem->Md,take_of_length_le->Nh,filter_append->Ni,find?_cons->Nw,filter_nil->NP,map_reverse->Om,getD->OB,filter_sublist->OM,filter_cons_of_pos->Py,filter_cons_of_neg->Pz,eraseIdx_eq_take_drop_succ->Qd,length_replicate->Qh,mem_append_left->Qs,of_mem_zip->Qy,length_nil->QL,mem_map_of_mem->QQ,getElem_of_mem->QR,filter_eq_self->QT,zip_cons_cons->RS,perm_ext_iff_of_nodup->RV,pairwise_cons->RX,reverse_cons->Sl,length_eq_zero_iff->Sz,getElem?_cons_succ->SA,eraseIdx_cons_succ->SD,any_eq_true->SE,length_eq_one_iff->S9,foldl_cons->Tj,getElem?_eq_none->Ts,nodup_nil->TC,getElem?_zipIdx->TF,length_reverse->UA,any_cons->UH,findIdx?_eq_some_iff_getElem->U2,flatten_cons->Vh,eraseIdxIfInBounds_toArray->Vm,mem_reverse->Vz,getElem_map->VB,forIn_cons->VT,drop_left'->VU,dropLast_concat_getLast->V1,map->WI,getD_eq_getElem?_getD->WJ,forIn_nil->WK,findIdx?_eq_none_iff->Xr,drop_eq_getElem_cons->Xs,length_erase_of_mem->XN,getElem?_take_of_lt->XQ,findIdx?->XR,length_pos_of_mem->Yt,filter_eq_nil_iff->Yu,all_map->YN,mem_iff_getElem?->Y9,getElem?_reverse->Y',dropLast_eq_take->Zb,reverse_reverse->Zr,mem_iff_getElem->Zt,mem_erase_of_ne->Zu,map_id->Zx,length_eraseIdx->Zy,flatten_append->ZR,map_singleton->Z4,take_sublist->Í,filter_congr->Î,ext_getElem?->Ï,append_assoc->Ð,mem_toArray->Ö,map_fst_zip->Ø,length_drop->Ù,getElem_inj->Ú,drop_length->Û,cons_append->Ü,range_succ->ë,length_zip->ì,length_set->í,set_comm->Ă,map_take->ă,map_drop->Ą,all_cons->ą,set_set->ĕ,range'->ĥ
open Array renaming length_toList->hU,getElem?_toList->sL,getElem?_eq_getElem->OH,size_map->RM,getD->UI,forIn_toList->UJ,size_append->U4,toList->X5,toList_extract->Zd,toArray_toList->Ze,append_assoc->ZX,toList_push->Z6
open Nat renaming le_refl->hV,ne_of_lt->hY,lt_of_lt_of_le->i3,zero_le->lg,lt_irrefl->uv,le_trans->wh,ne_of_gt->KU,le_succ->Ng,lt_succ_self->OJ,zero_add->P1,le_of_lt->P8,lt_succ_of_lt->Sn,lt_trans->Vk,mod_lt->Xq,add_sub_cancel_left->X',succ_pos->Y7,le_of_eq->Y8,lt_of_le_of_lt->Ì,not_lt_of_lt->ê,add_zero->Ĥ
open PySem.PyData renaming keyHash->i1
open PySem.Value renaming ref->l',none->nC,type->ti,str->t8,bool->N9,builtin->Si,isStrOf->Uy,isStrOf_shape->Zm,int->Á,isInt->ď
open Sum renaming inr->nc,inl->Vi
open PySem.Str renaming empty->oT,ofString->Rr,length->ļ
open PySem.Obj renaming mapSeq->rz,data_mapFields->Nl,putSet->Pw,isFreed_of_fields->Tx,cls_mapFields->Vj,mapFields->Đ
open Ne renaming symm->r6
open PySem.Builtin.List renaming listExtendWith->tA,listTooLong->K1,listSameRef->N0,listLengthHint->UG,listItems->Vs,listUpdate->ī
open Int renaming eq_ofNat_of_zero_le->uk,toNat_natCast->P9,emod_nonneg->QY,emod_lt_of_pos->R3,le_trans->Ĩ
open PySem.SetTable.layClean renaming free->u6
open Option.some renaming inj->wk,injEq->TB
open PySem.Heap.SameBut renaming update->y1,refl->Jo
open PyProof.Rows renaming seqObj->zy,callWith_type1->J1,callWith_builtin1->Ls,size_push'->MJ,StrsAre->Qm,AllBare->S6,envOfC->Uc,subscriptTail->Vt,listUpdate_at->Vx,subscriptTail_builtinR->È,listItems_at->É,IntsAre->Ë,seqEpoch_at->é,sortedHeap->Ā,Subscript_->ā,slot_str_getitem->ģ,joinParts_consE->Ĭ,get?_update_seq->ĭ,entry_list_sort->Į,call_isinstance_yes->į,sortedHeap_old->ľ,slot_list_sort->Ŀ,joinParts_cons->ŀ,isTrue_and_nil->Ł,args_list_sort->ł,IsTup->Ń
open PySem.Builtin.Frozenset renaming isAnySet->JG,difference->Pt,sizeOf->Qf,differenceUpdate->Sk,unchanged->To,copyOf->T9,baseOf->T_,addrOf->Ub,slot1->Uz,updateFrom->æ,slot0->ç,newClass->è
open PySem.Builtin.SmallTypes renaming nextOf->Kg
open PySem.Calls renaming callWith_builtin->Kq,evalArgs_plain->LF,spliced_cons->MM,spliced_nil->PB,Name_function_global->Wu,call_function_entry->WG
open PySem.SetTable renaming sizeAbove->Ku,below->LQ,grown->NY,bits->Og,eraseAt->PL,turns->Qt,layClean->RC,fits->RN,laid->Tu,runEnd->Ve,relaid->Vf,fill->VR,orStandIn->X8,fresh->Z3,leap->Â,drop->Ã
open PySem.NameKind renaming free->ML
open False renaming elim->MT
open PyProof.Rows.F renaming plain_set_update_loop->Np,entry_set_update_loop->Sm
open List.Perm renaming refl->NT,swap->ZV,cons->ZW
open PySem.Around renaming under_plainId->N4
open PySem.W renaming kas_sort->N7,Looks->Z2,looks_findIn->À,kas_ask->č,subIn->Ĺ,nsIn->ĺ,findIn->Ļ
open PySem.AutoSeq1 renaming wpAny_loadPart'->Oj,sub_tuple_tuple->VS,sub_tuple_list->Wv,sub_list_tuple->Ww,sub_list_list->WH,idx_int->Zp
open ForInStep renaming yield->OG
open List.cons renaming injEq->Qi
open LT renaming lt->Qn
open ToString renaming toString->Rg
open PySem.Shared renaming TypeIs->R_
open PySem.SeqAt renaming EqAt->SF,ne_of_list_tuple->X4,RcAt->ZN,RcNeAt->ý
open True renaming intro->SY
open PySem.Txt renaming join->TY
open PySem.F renaming typeOf_object_class->T7,slot_gs_get->Y6,excBase_ValueError->Å,args_list_extend_2->Æ,entry_list_extend->Ô,slot_list_extend->å,attr_ValueError->ñ,entry_list_pop->ÿ,slot_list_pop->Ĕ
open PySem.Code renaming quiet_builtin->UK
open Sum.inr renaming inj->U8
open Classical renaming byContradiction->VD,skolem->Zc
open PySem.Data renaming fields->VG,cell->Õ
open PySem.pickOrder renaming go->Wl
open PySem.SetTable.below renaming go->Ws
open Prod.mk renaming injEq->Wx
open PySem.SeqAt.EqAt renaming bool_bool->Wy
open List.Sublist renaming refl->Xu
open List.Nodup renaming sublist->XW
open PySem.W.Looks renaming ld->Y4
open PyProof.Rows.IsTup renaming new->Ê
open PySem.Flow renaming next->Ó
open PySem.ItemsOf renaming nil->ð
open PyProof.Rows.LSm renaming range_all->ò,kept_iter->ó
open Prod renaming fst->ô
open PySem.W.WShape renaming has->Ď
open PySem.Moved renaming trans->đ
open PySem.Heap.IsSliceOf renaming new->ē
open LE renaming le->Ė
open PySem.Walks renaming list->Ġ
open PySem.Builtin.Range renaming rangeSize->Ģ
open List.Pairwise renaming nil->Ħ,filter->ħ
open PySem.W.WData renaming int->Ī
open PySem.Heap.DictOf renaming new->Ľ
open ForIn renaming forIn->ń
abbrev Ņ:=@decide_eq_true_eq
abbrev ņ:=@if_pos
abbrev Ň:=@if_neg
abbrev ň:=@decide_eq_false
abbrev ŉ:=@decide_eq_true
abbrev Ŋ:=@congrArg
abbrev ŋ:=@of_decide_eq_true
abbrev Ō:=@beq_eq_false_iff_ne
abbrev ō:=@decide_eq_false_iff_not
local macro_rules|`(⋯)=>`(by lia)
local macro_rules|`(∅)=>`(by(first|exact trivial|exact⟨⟨_,rfl,rfl⟩,trivial⟩|exact⟨⟨_,rfl,rfl⟩,⟨_,rfl,rfl⟩,trivial⟩))
namespace L2
open PySem PySem.Spec PyProof.Rows
abbrev Key:=Sum Int Str
noncomputable def ku:Key->d3->Bool
 |.inl k,v=>ď k v
 |.inr x,v=>Uy x v
noncomputable def HN(w:H8):Key->Int
 |.inl k=>hashInt k
 |.inr x=>hashStr w x
theorem bB:∀{k:Key}{v:d3},ku k v=b8->(∃i t,k=Vi i/\v=Á i t)\/(∃x t,k=nc x/\v=t8 x t)
 |.inl i,v,h=>by
  obtain⟨t,e⟩:=Value.isInt_shape (k:=i) (v:=v) h;exact .inl ⟨i,t,rfl,e⟩
 |.inr x,v,h=>by
  obtain⟨t,e⟩:=Zm (x:=x) (v:=v) h;exact .inr ⟨x,t,rfl,e⟩
theorem vg(i:Int)(t:Tok):ku (.inl i) (.int i t)=b8:=by simp[ku,ď]
theorem vh(x:Str)(t:Tok):ku (.inr x) (.str x t)=b8:=by simp[ku,Uy]
theorem Dh(a b:Int):cK ((Vi a:Key)=Vi b)=(a==b):=by
 by_cases e:a=b
 ·subst e;simp
 ·have h:¬(Vi a:Key)=Vi b:=λq=>e (Sum.inl.inj q);rw[ň h];exact(Ō.mpr e).symm
theorem Di(a b:Str):cK ((nc a:Key)=nc b)=cK (a=b):=by
 by_cases e:a=b
 ·subst e;simp
 ·have h:¬(nc a:Key)=nc b:=λq=>e (U8 q);rw[ň h,ň e]
theorem Dj(a:Int)(b:Str):cK ((Vi a:Key)=nc b)=cc:=ň (λq=>nomatch q)
theorem Dk(a:Str)(b:Int):cK ((nc a:Key)=Vi b)=cc:=ň (λq=>nomatch q)
noncomputable def aZ(prog:va)(w:H8):PySem.KeyKind prog w Key where
 is:=ku
 hash:=HN w
 inj:=λv a b g f=>by
  rcases bB g with⟨i,t,rfl,rfl⟩|⟨x,t,rfl,rfl⟩
  ·rcases bB f with⟨j,u,rfl,e⟩|⟨y,u,rfl,e⟩
   ·injection e with c _;rw[c]
   ·exact nomatch e
  ·rcases bB f with⟨j,u,rfl,e⟩|⟨y,u,rfl,e⟩
   ·exact nomatch e
   ·injection e with c _;rw[c]
 byValue:=λk v h=>by
  rcases bB h with⟨i,t,rfl,rfl⟩|⟨x,t,rfl,rfl⟩<;>rfl
 pyHash:=λd h=>by
  rcases bB d with⟨i,t,rfl,rfl⟩|⟨x,t,rfl,rfl⟩
  ·exact wpAny_pyHash_int h
  ·exact wpAny_pyHash_str h
 eqBool:=λl d h=>by
  rcases bB l with⟨i,t,rfl,rfl⟩|⟨x,t,rfl,rfl⟩
  ·rcases bB d with⟨j,u,rfl,rfl⟩|⟨y,u,rfl,rfl⟩
   ·rw[Dh]at h;exact ę h
   ·rw[Dj]at h;exact SeqAt.EqAt.int_str i t y u _ _ _ _ h
  ·rcases bB d with⟨j,u,rfl,rfl⟩|⟨y,u,rfl,rfl⟩
   ·rw[Dk]at h;exact SeqAt.EqAt.str_int x t j u _ _ _ _ h
   ·rw[Di]at h;exact Ę h
 «strs»:=λk x t v h=>by
  rcases bB h with⟨i,u,rfl,e⟩|⟨y,u,rfl,e⟩
  ·exact nomatch e
  ·injection e with c _
   subst c;cases v<;>rfl
theorem pL(prog:va)(w:H8)(i:Int)(t:Tok):(aZ prog w).is (.inl i) (.int i t)=b8:=vg i t
theorem pM(prog:va)(w:H8)(x:Str)(t:Tok):(aZ prog w).is (.inr x) (.str x t)=b8:=vh x t
inductive V where
 |IU|bl (b:Bool)|int (i:Int)|str (x:Str)|QU (b:Array UInt8)|QV (b:UInt64)|ref (a:eH)|ty (n:String)
 deriving DecidableEq
def RelV:V->d3->Prop
 |.IU,u=>u=nC
 |.bl b,u=>u=N9 b
 |.int i,u=>∃t,u=Á i t
 |.str x,u=>∃t,u=t8 x t
 |.QU b,u=>∃t,u=Value.bytes b t
 |.QV b,u=>∃t,u=Value.float b t
 |.ref a,u=>u=l' a
 |.ty n,u=>u=ti n
abbrev Vals:List V->List d3->Prop:=Paired RelV
theorem Vals.length(r:Vals xs us):xs.length=us.length:=Paired.length r
theorem Vals.get:∀{xs:List V}{us:List d3}{i:Nat}{x:V},Vals xs us->xs[i]?=a5 x->∃u,us[i]?=a5 u/\RelV x u
 |_,_,_,_,.nil,e=>by simp at e
 |_,_,0,_,.cons r _,e=>by simp at e;subst e;exact⟨_,rfl,r⟩
 |_,_,i+1,x,.cons _ t,e=>by
  obtain⟨u,a,b⟩:=Vals.get (i:=i) (x:=x) t (by simpa using e);exact⟨u,by simpa using a,b⟩
theorem Vals.set(r:RelV x u):∀{xs:List V}{us:List d3} (i:Nat),Vals xs us->Vals (xs.set i x) (us.set i u)
 |_,_,_,.nil=>.nil
 |_,_,0,.cons _ t=>.cons r t
 |_,_,i+1,.cons q t=>.cons q (Vals.set r i t)
theorem Vals.append:∀{xs a:List V}{us ws:List d3},Vals xs us->Vals a ws->Vals (xs++a) (us++ws)
 |_,_,_,_,.nil,s=>s
 |_,_,_,_,.cons r t,s=>.cons r (Vals.append t s)
theorem Vals.take:∀{xs:List V}{us:List d3} (n:Nat),Vals xs us->Vals (xs.take n) (us.take n)
 |_,_,0,_=>.nil
 |_,_,_+1,.nil=>.nil
 |_,_,n+1,.cons r t=>.cons r (Vals.take n t)
theorem Vals.drop:∀{xs:List V}{us:List d3} (n:Nat),Vals xs us->Vals (xs.drop n) (us.drop n)
 |_,_,0,r=>r
 |_,_,_+1,.nil=>.nil
 |_,_,n+1,.cons _ t=>Vals.drop n t
def jT:Option V->Option d3->Prop
 |some v,a5 u=>RelV v u
 |none,bD=>True
 |_,_=>False
def KV{κ:Type}:List (κ×V)->List (κ×d3)->Prop:=Paired λ(p:κ×V) (q:κ×d3)=>p.1=q.1/\RelV p.2 q.2
noncomputable def kV:Key->V
 |.inl i=>.int i
 |.inr x=>.str x
inductive HO where
 |lst (xs:List V)
 |tup (xs:List V)
 |dK (kvs:List (Key×V))|dT (kvs:List (List Key×V))
 |set (S:Int->Bool) (n:Nat)
 |ins (C dx:eH) (fs:List (Str×V))
 |own (x:eH)
 |xd (fs:List (Str×V))
 |met (f x:eH)
 |QW (lo hi:Int)
 |KA (o:Obj) (u:HO)
 |Nj (ps:Array d3)
 |ext (φ:Jy->Prop)
abbrev Hp:=eH->Option HO
noncomputable def upd(H:Hp)(a:eH)(o:HO):Hp:=λb=>if b=a then a5 o else H b
theorem ay:upd H a o a=a5 o:=by unfold upd;rw[ņ rfl]
theorem au(h:b≠a):upd H a o b=H b:=by unfold upd;rw[Ň h]
theorem Az:upd (upd H a o) a u=upd H a u:=by
 funext b;unfold upd;split<;>rfl
theorem FJ{H:Hp}(h:H a=a5 o)(h':H b=a5 u)(d:o≠u):a≠b:=by
 intro e;subst e;rw[h]at h';exact d (wk h')
theorem bc{H:Hp}(h:H a=a5 o)(h':H b=bD):a≠b:=by
 intro e;subst e;rw[h]at h';cases h'
section
variable(P:va)(w:H8)
def bU(H:Hp)(h:Jy)(a:eH):HO->Prop
 |.lst xs=>xs.length<=cL/\∃(c:List d3) (n:Nat),Vals xs c/\h.get? a=a5 {cls:=.type "list",data:=.seq c.toArray n}
 |.tup xs=>xs.length<=cL/\∃c:List d3,Vals xs c/\Ń h a c.toArray
 |.dK kvs=>kvs.length<=cL/\(a==NZ)=cc/\∃vs,KV kvs vs/\h.DictOf (aZ P w) a vs
 |.dT kvs=>kvs.length<=cL/\(a==NZ)=cc/\∃xs:List (List Key×eH×d3),
   Paired (λ(p:List Key×V) (q:List Key×eH×d3)=>p.1=q.1/\H q.2.1=a5 (.tup (p.1.map kV))/\RelV p.2 q.2.2) kvs xs /\
   ∃o es ep,h.get? a=a5 o/\o.ExactDict/\o.data=.dict es ep/\es.toList=xs.map (entryOfKey (Va (aZ P w)))/\(xs.map (·.1)).Nodup
 |.set S n=>h.SetOf (intKind P w) a S n
 |.ins C e d=>H e=a5 (.own a)/\d.length<=1000/\e≠a/\h.get? a=a5 (PySem.W.instObj C e) /\
   ∃b,h.Ns1 e b/\(∀f,jT (d.lookup f) (b f))/\PySem.Within b (d.map (·.1))
 |.own _=>∃o,h.get? a=a5 o
 |.xd d=>∃b,h.Ns1 a b/\∀f,jT (d.lookup f) (b f)
 |.QW lo j=>∃t u v,h.get? a=a5 {cls:=.type "range",data:=.fields #[.int lo t,.int j u,.int 1 v]}
 |.KA o u=>h.get? a=a5 o/\bU H h a u
 |.Nj ps=>h.get? a=a5 {cls:=.none,data:=.fields ps}
 |.met f x=>h.get? a=a5 (PySem.W.methodObj (.ref f) (.ref x))
 |.ext φ=>φ h/\(∃o,h.get? a=a5 o)/\∀g i:Jy,φ g->(∀o,g.get? a=a5 o->i.get? a=a5 o)->φ i
def JV(H:Hp)(h:Jy):Prop:=∀a o,H a=a5 o->bU P w H h a o
end
section
theorem bU.lt(x:bU P w H h a o):a<h.objs.size:=by
 cases o with
 |lst xs=>obtain⟨_,_,_,_,e⟩:=x;exact fx e
 |tup xs=>obtain⟨_,_,_,p⟩:=x;exact p.lt
 |set S n=>obtain⟨o,_,_,_,e,_⟩:=x;exact fx e
 |ins C c b=>obtain⟨_,_,_,e,_⟩:=x;exact fx e
 |own y=>obtain⟨_,e⟩:=x;exact fx e
 |xd b=>obtain⟨_,⟨_,_,_,e,_⟩,_⟩:=x;exact fx e
 |QW lo d=>obtain⟨_,_,_,e⟩:=x;exact fx e
 |KA g u=>obtain⟨e,_⟩:=x;exact fx e
 |Nj ps=>exact fx (show h.get? a=a5 _ from x)
 |met f y=>exact fx (show h.get? a=a5 _ from x)
 |ext φ=>obtain⟨_,⟨_,e⟩,_⟩:=x;exact fx e
 |_=>obtain⟨_,_,_,_,o,_,_,e,_⟩:=x;exact fx e
theorem Paired.Dl:∀{c:List α}{d:List β},Paired F c d->(∀a b,F a b->G a b)->Paired G c d
 |_,_,.nil,_=>.nil
 |_,_,.cons r t,f=>.cons (f _ _ r) (Paired.Dl t f)
theorem bU.fM(x:bU P w H h a o)(k:∀b u,(b=a\/H b=a5 (.own a))->h.get? b=a5 u->h'.get? b=a5 u)
  (ho:∀b,H b=a5 (.own a)->H' b=a5 (.own a)) (m:∀b xs,H b=a5 (.tup xs)->H' b=a5 (.tup xs)):bU P w H' h' a o:=by
 induction o with
 |lst xs=>obtain⟨z,i,n,r,e⟩:=x;exact⟨z,i,n,r,k _ _ (.inl rfl) e⟩
 |tup xs=>obtain⟨z,i,r,g,e,c⟩:=x;exact⟨z,i,r,g,k _ _ (.inl rfl) e,c⟩
 |dK kvs=>obtain⟨z,y,vs,r,g,es,ep,e,c⟩:=x;exact⟨z,y,vs,r,g,es,ep,k _ _ (.inl rfl) e,c⟩
 |dT kvs =>
  obtain⟨z,y,xs,r,g,es,ep,e,c⟩:=x;exact⟨z,y,xs,Paired.Dl r λp q z=>⟨z.1,m _ _ z.2.1,z.2.2⟩,g,es,ep,k _ _ (.inl rfl) e,c⟩
 |set S n=>obtain⟨g,es,ep,t,e,c⟩:=x;exact⟨g,es,ep,t,k _ _ (.inl rfl) e,c⟩
 |ins C D s =>
  obtain⟨d,z,ne,e,j,⟨l,es,ep,A,c⟩,r⟩:=x;exact⟨ho _ d,z,ne,k _ _ (.inl rfl) e,j,⟨l,es,ep,k _ _ (.inr d) A,c⟩,r⟩
 |own y=>obtain⟨g,e⟩:=x;exact⟨g,k _ _ (.inl rfl) e⟩
 |xd s=>obtain⟨j,⟨l,es,ep,e,c⟩,r⟩:=x;exact⟨j,⟨l,es,ep,k _ _ (.inl rfl) e,c⟩,r⟩
 |QW lo G=>obtain⟨t,u,v,e⟩:=x;exact⟨t,u,v,k _ _ (.inl rfl) e⟩
 |KA g u B=>obtain⟨e,q⟩:=x;exact⟨k _ _ (.inl rfl) e,B q⟩
 |Nj ps =>
  have e:h.get? a=a5 {cls:=.none,data:=.fields ps}:=x;show h'.get? a=a5 {cls:=.none,data:=.fields ps};exact k a _ (.inl rfl) e
 |met f y =>
  have e:h.get? a=a5 (PySem.W.methodObj (.ref f) (.ref y)):=x;show h'.get? a=a5 (PySem.W.methodObj (.ref f) (.ref y));exact k a _ (.inl rfl) e
 |ext φ=>obtain⟨p,⟨o,e⟩,st⟩:=x;exact⟨st _ _ p λo q=>k _ _ (.inl rfl) q,⟨o,k _ _ (.inl rfl) e⟩,st⟩
theorem JV.lt(x:JV P w H h)(e:H a=a5 o):a<h.objs.size:=(x a o e).lt
theorem JV.fresh(x:JV P w H h)(e:h.objs.size<=a):H a=bD:=by
 cases q:H a with
 |none=>rfl
 |some u=>exact absurd (i3 (x.lt q) e) (uv _)
theorem JV.kept(x:JV P w H h)(k:∀b u,h.get? b=a5 u->h'.get? b=a5 u):JV P w H h':=λa o e =>
 (x a o e).fM (λb u _ q=>k b u q) (λ_ q=>q) λ_ _ q=>q
theorem JV.laid(x:JV P w H h)(k:∀b u,h.get? b=a5 u->h'.get? b=a5 u)(g:h.objs.size<=a)(new:bU P w (upd H a o) h' a o):JV P w (upd H a o) h':=λb u e=>by
 have d:=x.fresh g;by_cases f:b=a
 ·subst f;rw[ay]at e;cases e;exact new
 ·rw[au f]at e;exact(x b u e).fM (λc v _ q=>k c v q) (λc q=>by rw[au (bc q d)];exact q) λc xs q=>by rw[au (bc q d)];exact q
end
def Rd(H:Hp)(a:eH)(u:HO):Prop:=H a=a5 u\/∃o,H a=a5 (.KA o u)
theorem Rd.ok(r:Rd H a u)(x:JV P w H h):bU P w H h a u:=by
 rcases r with r|⟨o,r⟩
 ·exact x a u r
 ·obtain⟨_,q⟩:=x a _ r;exact q
def Pu:Option HO->Prop
 |some (.lst _)=>True
 |some (.dK _)=>True
 |some (.dT _)=>True
 |some (.set _ _)=>True
 |some (.ins _ _ _)=>True
 |some (.ext _)=>True
 |_=>False
section
theorem JV.write(m:JV P w H h)(a:Pu (H x))(g:e=x\/H e=a5 (.own x))(k:∀b u,b≠e->h.get? b=a5 u->h'.get? b=a5 u)(n:∃u,h'.get? e=a5 u)
  (new:bU P w (upd H x i) h' x i):JV P w (upd H x i) h':=λb u q=>by
 have j:∀c y,H c=a5 (.own y)->c≠x:=λc y r z=>by subst z;rw[r]at a;exact a
 have o:∀c xs,H c=a5 (.tup xs)->c≠x:=λc xs r z=>by subst z;rw[r]at a;exact a
 by_cases d:b=x
 ·subst d;rw[ay]at q;cases q;exact new
 ·rw[au d]at q;by_cases f:b=e
  ·have l:H b=a5 (.own x):=by
    rcases g with z|z
    ·exact absurd (f.trans z) d
    ·rw[f];exact z
   rw[q]at l;cases l;obtain⟨v,p⟩:=n;exact⟨v,by rw[f];exact p⟩
  ·refine(m b u q).fM (λc v hc r=>k c v ?_ r) (λc r=>by rw[au (j c b r)];exact r) λc xs r=>by rw[au (o c xs r)];exact r
   rcases hc with rfl|hc
   ·exact f
   ·rintro rfl;rcases g with z|z
    ·exact j c b hc z
    ·rw[hc]at z;cases z;exact d rfl
end
structure Un(fs ex:List eH)(H H':Hp)(h h':Jy):Prop where
 keep:∀b o,h.get? b=a5 o->H b=bD->b∉fs->b∉ex->h'.get? b=a5 o
 slot:∀b o,h.get? b=a5 o->H b=bD->b∈fs->b∉ex->∃sl,h'.get? b=a5 {o with slots:=sl}
 free:∀b o,h.get? b=a5 o->H b=bD->b∉ex->H' b=bD
 there:∀b o,h.get? b=a5 o->b∉ex->∃o',h'.get? b=a5 o'
 fT:∀b xs,H b=a5 (.tup xs)->H' b=a5 (.tup xs)
 JR:∀b o u,H b=a5 (.KA o u)->H' b=a5 (.KA o u)
 JW:∀b ps,H b=a5 (.Nj ps)->∃more,H' b=a5 (.Nj (ps++more))
section
theorem Un.any(u:Un e ex H i h f)(q:h.get? b=a5 a)(n:H b=bD)(c:b∉ex):∃g,f.get? b=a5 {a with slots:=g}:=by
 by_cases d:b∈e
 ·exact u.slot b a q n d c
 ·exact⟨a.slots,u.keep b a q n d c⟩
theorem Un.kept(k:∀b u,h.get? b=a5 u->h'.get? b=a5 u):Un c ex H H h h' :=
 ⟨λb a q _ _ _=>k b a q,λb a q _ _ _=>⟨a.slots,k b a q⟩,λ_ _ _ n _=>n,λb a q _=>⟨a,k b a q⟩,λ_ _ q=>q,λ_ _ _ q=>q,λ_ ps q=>⟨#[],by rw[q];simp⟩⟩
theorem Un.refl:Un a ex H H h h:=Un.kept λ_ _ q=>q
theorem Un.laid(k:∀b u,h.get? b=a5 u->h'.get? b=a5 u)(d:h.objs.size<=a)(c:H a=bD):Un e ex H (upd H a o) h h' where
 keep:=λb u q _ _ _=>k b u q
 slot:=λb u q _ _ _=>⟨u.slots,k b u q⟩
 free:=λb u q n _=>by rw[au (hY (i3 (fx q) d))];exact n
 there:=λb u q _=>⟨u,k b u q⟩
 fT:=λb xs q=>by rw[au (bc q c)];exact q
 JR:=λb u xs q=>by rw[au (bc q c)];exact q
 JW:=λb ps q=>⟨#[],by rw[au (bc q c),q];simp⟩
theorem Un.write(a:Pu (H x))(i:e=x\/H e=a5 (.own x))(k:∀b u,b≠e->h.get? b=a5 u->h'.get? b=a5 u)(j:∃u,h'.get? e=a5 u):Un l ex H (upd H x o) h h':=by
 have d:∀b,H b=bD->b≠x:=λb n z=>by subst z;rw[n]at a;exact a
 have f:∀b,H b=bD->b≠e:=λb n z=>by
  subst z;rcases i with r|r
  ·exact d b n r
  ·rw[n]at r;cases r
 have c:∀b u,H b=a5 u->¬Pu (a5 u)->b≠x:=λb u q nm z=>by subst z;rw[q]at a;exact nm a
 refine⟨λb u q n _ _=>k b u (f b n) q,λb u q n _ _=>⟨u.slots,k b u (f b n) q⟩,λb u q n _=>by rw[au (d b n)];exact n,λb u q _=>?_,
  λb xs q=>by rw[au (c b _ q λz=>z)];exact q,λb u xs q=>by rw[au (c b _ q λz=>z)];exact q,λb ps q=>⟨#[],by rw[au (c b _ q λz=>z),q];simp⟩⟩
 by_cases g:b=e
 ·subst g;exact j
 ·exact⟨u,k b u g q⟩
end
noncomputable def QX(h:Jy)(H:Hp):List eH:=(hJ h.objs.size).filter λa=>(H a).isSome
noncomputable def oa(h:Jy)(H:Hp):Jy:=PySem.W.hideAll h (QX h H)
theorem vi(h:Jy)(H:Hp):(oa h H).objs.size=h.objs.size:=PySem.W.hideAll_size _ _
theorem xb(e:h.get? b=a5 o)(n:H b=bD):(oa h H).get? b=a5 o :=
 PySem.W.hideAll_get _ e λa=>by
  have q:(H b).isSome=b8:=(vl.mp a).2;rw[n]at q;simp at q
theorem AA(e:(oa h H).get? b=a5 o):h.get? b=a5 o/\H b=bD:=by
 have a:h.get? b=a5 o:=PySem.W.of_hideAll (QX h H) e;refine⟨a,?_⟩;cases q:H b with
 |none=>rfl
 |some x =>
  have c:b∈QX h H:=vl.mpr ⟨u5.mpr (fx a),by simp[q]⟩;have z:(oa h H).get? b=bD:=PySem.W.hideAll_none (QX h H) c;rw[z]at e;cases e
structure Mod(K:PySem.W.Frag)(mg:Str->Option d3)(base:Jy):Prop where
 NU:K.In base
 glob:base.Ns i8 mg
 blt:∃mb,base.Ns û mb/\∀x:Str,x≠"__name__"->mb x=tv x
 nolimit:base.NoLimit
structure Cx where
 prog:va
 w:H8
 K:PySem.W.Frag
 mg:Str->Option d3
 base:Jy
 A:Nm
 N:List Str
 s₀:d8
 H₀:Hp
 env:Env
 outer:List Env
 stack:List Env
 ex:List eH
 fn:Str->Bool
 calm:Bool
 pn:List (eH×Obj)
 xe:d3->d8->Prop
noncomputable def JA(l:List Env):List eH:=l.filterMap (·.frame)
noncomputable abbrev Cx.fs(X:Cx):List eH:=JA X.outer
def KC(a:LS)(x:Str):Prop:=a.names.lookup x=a5 .local\/a.names.lookup x=a5 .cell\/a.names.lookup x=a5 .free
def Loc(a:LS)(x:Str):Prop:=a.names.lookup x=a5 .local\/a.names.lookup x=a5 .cell
def Look(env:Env)(h:Jy)(m:Str->Option d3)(x:Str)(u:d3):Prop :=
 (env.kindOf x=a5 .local/\m x=a5 u)\/((env.kindOf x=a5 .cell\/env.kindOf x=a5 .free)/\∃c,env.cells.lookup x=a5 c/\h.IsCell c (a5 u))
structure Cx.Ok(X:Cx):Prop where
 mod:Mod X.K X.mg X.base
 kind:X.env.scope.kind=.function
 glob:X.env.globals=i8
 blt:X.env.builtins=û
 above:X.s₀.heap.objs.size<=X.env.locals
 inj:∀x y c,X.env.cells.lookup x=a5 c->X.env.cells.lookup y=a5 c->x=y
 has:∀x,(X.env.kindOf x=a5 .cell\/X.env.kindOf x=a5 .free)->∃c,X.env.cells.lookup x=a5 c
 OS:∀x c,X.fn x=b8->X.env.cells.lookup x=a5 c->X.s₀.heap.objs.size<=c
 hd:X.calm=b8->X.A.handled=bD
 frames:X.A.frames=a5 X.stack
 Px:X.stack=X.outer\/(X.stack=X.env::X.outer/\X.env.frame=a5 X.env.locals)
 RT:∀b∈X.ex,b≠X.env.locals/\∀x c,X.env.cells.lookup x=a5 c->c≠b
 bs:∀b o,X.base.get? b=a5 o->X.s₀.heap.get? b=a5 o/\X.H₀ b=bD
 MU:X.base.objs.size<=X.s₀.heap.objs.size
 LU:∀b o,X.base.get? b=a5 o->b∉X.ex
 Mg:∀b∈X.ex,b∉X.fs
 jU:X.s₀.heap.FunFrames X.base X.outer
 NV:∀b∈X.fs,X.H₀ b=bD
structure Inv(X:Cx)(pins:List (eH×Obj))(σ:List (Option V))(H:Hp)(s:d8):Prop where
 ok:X.Ok
 os:s.os=X.s₀.os
 bare:S6 s.gens
 base:Un X.fs X.ex X.H₀ H X.s₀.heap s.heap
 loc:∃m,s.heap.Ns X.env.locals m/\∀(i:Nat) (x:Str) (v:V),X.N[i]?=a5 x->σ[i]?=a5 (a5 v)->KC X.env.scope x->∃u,RelV v u/\Look X.env s.heap m x u
 cell:∀x c,X.env.cells.lookup x=a5 c->∃v,s.heap.IsCell c v
 free:H X.env.locals=bD
 Jk:∀x c,X.env.cells.lookup x=a5 c->H c=bD
 pin:∀p∈X.pn++pins,s.heap.get? p.1=a5 p.2/\H p.1=bD/\p.1≠X.env.locals/\p.1∉X.fs/\∀v,p.2.data≠.cell v
 IQ:JV X.prog X.w H s.heap
 len:σ.length=X.N.length
section
variable{X:Cx}{pins:List (eH×Obj)}{σ:List (Option V)}{H H':Hp}{s:d8}{h':Jy}
theorem Cx.Ok.HP(a:X.Ok)(e:X.base.get? b=a5 o):b∉X.fs:=λc=>by
 have:=(a.jU.mem c).1;rw[e]at this;cases this
theorem Inv.bs(I:Inv X pins σ H s):∀b o,X.base.get? b=a5 o->s.heap.get? b=a5 o/\H b=bD:=λb o e =>
 ⟨I.base.keep b o (I.ok.bs b o e).1 (I.ok.bs b o e).2 (I.ok.HP e) (I.ok.LU b o e),I.base.free b o (I.ok.bs b o e).1 (I.ok.bs b o e).2 (I.ok.LU b o e)⟩
theorem Inv.bk(I:Inv X pins σ H s):∀b o,X.base.get? b=a5 o->s.heap.get? b=a5 o:=λb o e=>(I.bs b o e).1
theorem Inv.mod(I:Inv X pins σ H s):Mod X.K X.mg X.base:=I.ok.mod
theorem Inv.LH(I:Inv X pins σ H s):X.K.In s.heap:=I.ok.mod.NU.keeps I.bk
theorem Inv.lt(I:Inv X pins σ H s):X.env.locals<s.heap.objs.size:=let ⟨_,a,_⟩:=I.loc;a.lt
theorem Inv.sz(I:Inv X pins σ H s):X.s₀.heap.objs.size<=s.heap.objs.size:=wh I.ok.above (P8 I.lt)
theorem Inv.Dm(I:Inv X pins σ H s)(h:s.heap.objs.size<=a):a∉X.fs:=λb=>by
 obtain⟨_,o,ho,_⟩:=I.ok.jU.mem b;exact absurd (i3 (fx ho) (wh I.sz h)) (uv _)
theorem Inv.Mh(I:Inv X pins σ H s):∀x c,X.env.cells.lookup x=a5 c->c≠X.env.locals:=λx c e z=>by
 obtain⟨v,o,ho,a⟩:=I.cell x c e;obtain⟨m,⟨f,es,ep,b,d,_⟩,_⟩:=I.loc;rw[z,b]at ho;cases ho;rw[d]at a;cases a
theorem Inv.jU(I:Inv X pins σ H s):s.heap.FunFrames X.base X.outer:=by
 have all:∀(l:List Env),(∀b∈JA l,b∈X.fs)->X.s₀.heap.FunFrames X.base l->s.heap.FunFrames X.base l:=by
  intro l;induction l with
  |nil=>intro _ _;trivial
  |cons env r f =>
   intro hs hl;obtain⟨hk,⟨L,o,a,g,ho,h⟩,i⟩:=hl;have c:L∈X.fs:=hs L (by unfold JA;rw[D7,a];exact mN);obtain⟨j,e⟩:=I.base.slot L o ho (I.ok.NV L c) c λz=>I.ok.Mg L z c;exact⟨hk,⟨L,_,a,g,e,h⟩,f (λb d=>hs b (by unfold JA;rw[D7,a];exact l0 _ d)) i⟩
 exact all X.outer (λ_ d=>d) I.ok.jU
theorem Inv.stack(I:Inv X pins σ H s):s.heap.FunFrames X.base X.stack:=by
 rcases I.ok.Px with e|⟨e,a⟩
 ·rw[e];exact I.jU
 ·rw[e];obtain⟨m,b,_⟩:=I.loc;refine .cons (by rw[I.ok.kind];decide) a b ?_ I.jU;exact Heap.get?_none_of_le (wh I.ok.MU I.ok.above)
theorem Inv.kA(I:Inv X pins σ H s):∀b∈JA X.stack,b∈X.env.locals::X.fs:=λb a=>by
 rcases I.ok.Px with e|⟨e,c⟩
 ·rw[e]at a;exact l0 _ a
 ·rw[e]at a;unfold JA at a;rw[D7,c]at a;exact a
theorem Inv.iq(I:Inv X pins σ H s):∀b∈JA X.stack,H b=bD:=λb hb=>by
 rcases d7.mp (I.kA b hb) with e|hb
 ·rw[e];exact I.free
 ·obtain⟨_,o,ho,_⟩:=I.ok.jU.mem hb;exact I.base.free b o ho (I.ok.NV b hb) λz=>I.ok.Mg b z hb
theorem Inv.step{ch:List eH}(I:Inv X pins σ H s)
  (j:∀b∈ch,(b∈X.ex\/X.s₀.heap.objs.size<=b)/\b≠X.env.locals/\(∀x c,X.env.cells.lookup x=a5 c->c≠b)/\∀p∈X.pn++pins,p.1≠b)
  (keep:∀b o,b≠X.env.locals->b∉X.fs->b∉ch->s.heap.get? b=a5 o->H b=bD->h'.get? b=a5 o)
  (slot:∀b o,b≠X.env.locals->b∈X.fs->b∉ch->s.heap.get? b=a5 o->H b=bD->∃C,h'.get? b=a5 {o with slots:=C}) (free:∀b o,b∉ch->s.heap.get? b=a5 o->H b=bD->H' b=bD)
  (there:∀b o,b∉ch->s.heap.get? b=a5 o->∃t,h'.get? b=a5 t)
  (fT:∀b xs,H b=a5 (.tup xs)->H' b=a5 (.tup xs)) (JR:∀b o u,H b=a5 (.KA o u)->H' b=a5 (.KA o u)) (JW:∀b ps,H b=a5 (.Nj ps)->∃more,H' b=a5 (.Nj (ps++more)))
  (ns:∀m,s.heap.Ns X.env.locals m->h'.Ns X.env.locals m) (O:JV X.prog X.w H' h') (Q:S6 g') :
  Inv X pins σ H' {s with heap:=h',gens:=g',drawn:=d',toks:=t' }:=by
 have G:∀b o,X.s₀.heap.get? b=a5 o->b≠X.env.locals:=λb o e=>hY (i3 (fx e) I.ok.above);have B:∀b o,X.s₀.heap.get? b=a5 o->b∉X.ex->b∉ch:=λb o e a h=>by
  rcases(j b h).1 with z|z
  ·exact a z
  ·exact absurd (i3 (fx e) z) (uv _)
 have f:∀x c,X.env.cells.lookup x=a5 c->∀v,s.heap.IsCell c v->h'.IsCell c v:=λx c e v T=>by
  obtain⟨o,ho,D⟩:=T;have y:c∉ch:=λz=>(j c z).2.2.1 x c e rfl;by_cases J:c∈X.fs
  ·obtain⟨C,q⟩:=slot c o (I.Mh x c e) J y ho (I.Jk x c e);exact⟨_,q,D⟩
  ·exact⟨o,keep c o (I.Mh x c e) J y ho (I.Jk x c e),D⟩
 refine⟨I.ok,I.os,Q,⟨λb o e n h a=>?_,λb o e n h a=>?_,λb o e n a=>?_,λb o e a=>?_,λb xs e=>fT b xs (I.base.fT b xs e),λb o xs e=>JR b o xs (I.base.JR b o xs e),λb ps e=>?_⟩,?_,λx c e=>?_,?_,λx c e=>?_,λp L=>?_,O,I.len⟩
 ·exact keep b o (G b o e) h (B b o e a) (I.base.keep b o e n h a) (I.base.free b o e n a)
 ·obtain⟨C,g⟩:=I.base.slot b o e n h a;obtain⟨Y,A⟩:=slot b _ (G b o e) h (B b o e a) g (I.base.free b o e n a);exact⟨Y,A⟩
 ·obtain⟨t,g⟩:=I.base.there b o e a;exact free b t (B b o e a) g (I.base.free b o e n a)
 ·obtain⟨t,g⟩:=I.base.there b o e a;exact there b t (B b o e a) g
 ·obtain⟨m1,g⟩:=I.base.JW b ps e;obtain⟨m2,A⟩:=JW b _ g;exact⟨m1++m2,by rw[A,ZX]⟩
 ·obtain⟨m,hn,hl⟩:=I.loc;refine⟨m,ns m hn,λi x v g A e3=>?_⟩;obtain⟨u,r,l⟩:=hl i x v g A e3;refine⟨u,r,?_⟩;rcases l with l|⟨k,c,e,z⟩
  ·exact .inl l
  ·exact .inr ⟨k,c,e,f x c e _ z⟩
 ·obtain⟨v,z⟩:=I.cell x c e;exact⟨v,f x c e v z⟩
 ·obtain⟨m,⟨o,_,_,ho,_⟩,_⟩:=I.loc;exact free _ o (λz=>(j _ z).2.1 rfl) ho I.free
 ·obtain⟨v,o,ho,D⟩:=I.cell x c e;exact free c o (λz=>(j c z).2.2.1 x c e rfl) ho (I.Jk x c e)
 ·obtain⟨e,n,ne,N,d⟩:=I.pin p L;have y:p.1∉ch:=λz=>(j p.1 z).2.2.2 p L rfl;exact⟨keep p.1 p.2 ne N y e n,free p.1 p.2 y e n,ne,N,d⟩
theorem Inv.un(I:Inv X pins σ H s)(u:Un X.fs [] H H' s.heap h')(d:JV X.prog X.w H' h'):Inv X pins σ H' {s with heap:=h',toks:=t' }:=by
 obtain⟨m,⟨o,es,ep,ho,r⟩,_⟩:=id I.loc;obtain⟨k,f⟩:=u.any ho I.free (by simp);exact I.step (g':=s.gens) (d':=s.drawn) (ch:=[]) (λ_ z=>nomatch z) (λb o _ a _ e n=>u.keep b o e n a (by simp)) (λb o _ a _ e n=>u.slot b o e n a (by simp)) (λb o _ e n=>u.free b o e n (by simp)) (λb o _ e=>u.there b o e (by simp)) u.fT u.JR u.JW (λl g=>by
  obtain⟨p,h,i,c,j⟩:=g;rw[ho]at c;cases c;exact⟨_,h,i,f,j⟩) d I.bare
theorem Inv.call(I:Inv X pins σ H s)(u:Un (JA X.stack) ch H H' s.heap h')(h:JV X.prog X.w H' h')(i:S6 g')
  (f:∀b∈ch,(b∈X.ex\/X.s₀.heap.objs.size<=b)/\b≠X.env.locals/\(∀x c,X.env.cells.lookup x=a5 c->c≠b)/\∀p∈X.pn++pins,p.1≠b) :
  Inv X pins σ H' {s with heap:=h',gens:=g',drawn:=d',toks:=t' }:=by
 obtain⟨m,⟨o,es,ep,ho,r⟩,_⟩:=id I.loc;obtain⟨v,d⟩:=u.any ho I.free λz=>(f _ z).2.1 rfl;exact I.step (ch:=ch) f (λb o d j a e n=>u.keep b o e n (λz=>(d7.mp (I.kA b z)).elim d j) a) (λb o _ _ a e n=>u.any e n a) (λb o a e n=>u.free b o e n a) (λb o a e=>u.there b o e a) u.fT u.JR u.JW (λy k=>by
  obtain⟨A,l,q,g,t⟩:=k;rw[ho]at g;cases g;exact⟨_,l,q,d,t⟩) h i
theorem Inv.turned(I:Inv X pins σ H s)(k:∀b o,b≠it->s.heap.get? b=a5 o->h'.get? b=a5 o)(g:H it=bD)(d:it≠X.env.locals)
  (h:it∈X.ex\/X.s₀.heap.objs.size<=it) (i:∀x c,X.env.cells.lookup x=a5 c->c≠it) (j:∀p∈X.pn++pins,p.1≠it):Inv X pins σ H {s with heap:=h',toks:=t' }:=by
 have f:∀b u,H b=a5 u->b≠it:=λb u e z=>by rw[z,g]at e;cases e
 refine I.step (g':=s.gens) (d':=s.drawn) (ch:=[it]) (λb l=>?_) (λb o _ _ a e _=>k b o (λz=>a (by simp[z])) e) (λb o _ _ a e _=>⟨o.slots,k b o (λz=>a (by simp[z])) e⟩) (λ_ _ _ _ n=>n)
  (λb o a e=>⟨o,k b o (λz=>a (by simp[z])) e⟩) (λ_ _ e=>e) (λ_ _ _ e=>e) (λb ps e=>⟨#[],by rw[e];simp⟩) (λm t=>?_) (λb u e=>?_) I.bare
 ·have e:b=it:=by simpa using l
  subst e;exact⟨h,d,i,j⟩
 ·obtain⟨o,es,ep,ho,r⟩:=t;exact⟨o,es,ep,k _ o (r6 d) ho,r⟩
 ·refine(I.IQ b u e).fM (λc v a q=>k c v ?_ q) (λ_ q=>q) λ_ _ q=>q;rcases a with z|z
  ·rw[z];exact f b u e
  ·exact f c _ z
theorem Inv.tok(I:Inv X pins σ H s)(t:Nat):Inv X pins σ H {s with toks:=t}:=I.un (h':=s.heap) (t':=t) Un.refl I.IQ
theorem Inv.kept(I:Inv X pins σ H s)(k:∀b u,s.heap.get? b=a5 u->h'.get? b=a5 u):Inv X pins σ H {s with heap:=h',toks:=t' }:=I.un (Un.kept k) (I.IQ.kept k)
theorem Inv.laid(I:Inv X pins σ H s)(k:∀b u,s.heap.get? b=a5 u->h'.get? b=a5 u)(c:s.heap.objs.size<=a)(new:bU X.prog X.w (upd H a o) h' a o):
  Inv X pins σ (upd H a o) {s with heap:=h',toks:=t' }:=I.un (Un.laid k c (I.IQ.fresh c)) (I.IQ.laid k c new)
theorem Inv.write(I:Inv X pins σ H s)(a:Pu (H x))(c:e=x\/H e=a5 (.own x))(k:∀b u,b≠e->s.heap.get? b=a5 u->h'.get? b=a5 u)(d:∃u,h'.get? e=a5 u)
  (new:bU X.prog X.w (upd H x o) h' x o):Inv X pins σ (upd H x o) {s with heap:=h',toks:=t' }:=I.un (Un.write a c k d) (I.IQ.write a c k d new)
theorem Inv.weak(I:Inv X pins σ H s)(hl:a.length=σ.length)(w:∀(i:Nat) v,a[i]?=a5 (a5 v)->σ[i]?=a5 (a5 v)):Inv X pins a H s :=
 ⟨I.ok,I.os,I.bare,I.base,let ⟨m,b,c⟩:=I.loc;⟨m,b,λi x v d e f=>c i x v d (w i v e) f⟩,I.cell,I.free,I.Jk,I.pin,I.IQ,hl.trans I.len⟩
theorem Inv.eh(I:Inv X pins σ H s)(h:∀p∈a,s.heap.get? p.1=a5 p.2/\H p.1=bD/\p.1≠X.env.locals/\p.1∉X.fs/\∀v,p.2.data≠.cell v):Inv X a σ H s :=
 ⟨I.ok,I.os,I.bare,I.base,I.loc,I.cell,I.free,I.Jk,λp b=>(i6.mp b).elim (λz=>I.pin p (Qs _ z)) (h p),I.IQ,I.len⟩
theorem ir{N:List Str}(c:N.Nodup){i j:Nat}(a:N[i]?=a5 x)(b:N[j]?=a5 x):i=j:=by
 obtain⟨f,d⟩:=dV.mp a;obtain⟨g,e⟩:=dV.mp b;exact(Ú c).mp (d.trans e.symm)
theorem mG(I:Inv X pins σ H s)(hN:X.N.Nodup)(D:X.N[i]?=a5 x)(l:Loc X.env.scope x)(r:RelV v u)
  (h:∀s',Inv X pins (σ.set i (a5 v)) H s'->(∃a,qs a s.heap s'.heap/\(a=X.env.locals\/X.env.cells.lookup x=a5 a))->Q () s') (hf:X.fn x=b8\/X.env.scope.names.lookup x=a5 .local:=by first|exact .inl rfl|exact .inr rfl|assumption):d6 M A (Ĝ X.env x u) Q E s:=by
 obtain⟨m,L,hl⟩:=id I.loc;have NX:(X.env.scope.kind==.class||(X.env.scope.kind==.module&&X.env.locals != X.env.globals))=cc:=by rw[I.ok.kind];rfl
 have UU:i < σ.length:=by rw[I.len];exact(dV.mp D).1
 have O:=I.Mh;have f:∀{a:eH} {h':Jy},(∃o,s.heap.get? a=a5 o/\H a=bD)->qs a s.heap h'->JV X.prog X.w H h':=λ{a h'} ha hs b ob e=>by
  obtain⟨_,_,JK⟩:=ha;refine(I.IQ b ob e).fM (λc G hc q=>(hs.2 c ?_).trans q) (λ_ q=>q) λ_ _ q=>q;rintro rfl;rcases hc with rfl|hc
  ·rw[JK]at e;cases e
  ·rw[JK]at hc;cases hc
 rcases l with hk|hk
 ·refine wpAny_storeName_local hk L (λh' MV hs=>?_) NX;obtain⟨oL,_,_,MW,_⟩:=id L;refine h _ ⟨I.ok,I.os,I.bare,⟨λb o e n B l=>?_,λb o e n B l=>?_,I.base.free,λb o e l=>?_,I.base.fT,I.base.JR,I.base.JW⟩,⟨_,MV,λj y T g t Y=>?_⟩,λy c e=>?_,I.free,I.Jk,λp hp=>?_,f ⟨oL,MW,I.free⟩ hs,by simpa using I.len⟩ ⟨_,hs,.inl rfl⟩
  ·exact(hs.2 b (hY (i3 (fx e) I.ok.above))).trans (I.base.keep b o e n B l)
  ·obtain⟨sl,g⟩:=I.base.slot b o e n B l;exact⟨sl,(hs.2 b (hY (i3 (fx e) I.ok.above))).trans g⟩
  ·obtain⟨o',g⟩:=I.base.there b o e l;exact⟨o',(hs.2 b (hY (i3 (fx e) I.ok.above))).trans g⟩
  ·by_cases C:j=i
   ·subst C;rw[D]at g;cases g;rw[ei UU]at t;cases t;exact⟨u,r,.inl ⟨hk,by simp⟩⟩
   ·rw[hQ (r6 C)]at t;obtain⟨u',r',q⟩:=hl j y T g t Y;refine⟨u',r',?_⟩;rcases q with⟨k,e⟩|⟨k,c,e,z⟩
    ·refine .inl ⟨k,?_⟩;have:y≠x:=λe=>C (ir hN g (e▸D));simp[this,e]
    ·exact .inr ⟨k,c,e,z.sameBut hs (O y c e)⟩
  ·obtain⟨G,z⟩:=I.cell y c e;exact⟨G,z.sameBut hs (O y c e)⟩
  ·obtain⟨e,n,ne,nf,d⟩:=I.pin p hp;exact⟨(hs.2 p.1 ne).trans e,n,ne,nf,d⟩
 ·have Li:X.fn x=b8:=by
   rcases hf with z|z
   ·exact z
   ·rw[z]at hk;cases hk
  obtain⟨c,hc⟩:=I.ok.has x (.inl hk);obtain⟨G,z⟩:=I.cell x c hc;refine wpAny_storeName_cell I.ok.kind hk hc z (λh' OU hs=>?_);obtain⟨oc,UW,RU⟩:=id z;refine h {s with heap:=h' } ⟨I.ok,I.os,I.bare,⟨λb o e n B l=>?_,λb o e n B l=>?_,I.base.free,λb o e l=>?_,I.base.fT,I.base.JR,I.base.JW⟩,⟨m,L.sameBut hs (r6 (O x c hc)),λj y T g t Y=>?_⟩,λy J e=>?_,I.free,I.Jk,λp hp=>?_,f ⟨oc,UW,I.Jk x c hc⟩ hs,by simpa using I.len⟩ ⟨c,hs,.inr hc⟩
  ·exact(hs.2 b (hY (i3 (fx e) (I.ok.OS x c Li hc)))).trans (I.base.keep b o e n B l)
  ·obtain⟨sl,g⟩:=I.base.slot b o e n B l;exact⟨sl,(hs.2 b (hY (i3 (fx e) (I.ok.OS x c Li hc)))).trans g⟩
  ·obtain⟨o',g⟩:=I.base.there b o e l;exact⟨o',(hs.2 b (hY (i3 (fx e) (I.ok.OS x c Li hc)))).trans g⟩
  ·by_cases C:j=i
   ·subst C;rw[D]at g;cases g;rw[ei UU]at t;cases t;exact⟨u,r,.inr ⟨.inl hk,c,hc,OU⟩⟩
   ·rw[hQ (r6 C)]at t;obtain⟨u',r',q⟩:=hl j y T g t Y;refine⟨u',r',?_⟩;rcases q with q|⟨k,J,e,z'⟩
    ·exact .inl q
    ·refine .inr ⟨k,J,e,z'.sameBut hs ?_⟩;rintro rfl;exact C (ir hN g (I.ok.inj _ _ _ e hc▸D))
  ·by_cases UX:J=c
   ·subst UX;exact⟨_,OU⟩
   ·obtain⟨w2,z2⟩:=I.cell y J e;exact⟨w2,z2.sameBut hs UX⟩
  ·obtain⟨e,n,ne,nf,d⟩:=I.pin p hp;refine⟨(hs.2 p.1 ?_).trans e,n,ne,nf,d⟩;intro q;rw[q,UW]at e;have q':oc=p.2:=wk e;exact d G (by rw[<-q'];exact RU)
theorem eO(I:Inv X pins σ H s)(a:X.N.Nodup)(b:X.N[i]?=a5 x)(c:Loc X.env.scope x)(r:RelV v u)
  (h:∀s',Inv X pins (σ.set i (a5 v)) H s'->Q () s') (d:X.fn x=b8\/X.env.scope.names.lookup x=a5 .local:=by first|exact .inl rfl|exact .inr rfl|assumption):d6 M A (Ĝ X.env x u) Q E s :=
 mG I a b c r (λs' e _=>h s' e) d
theorem Inv.xf(I:Inv X pins σ H s)(ho:s'.os=s.os)(u:Un (JA X.stack) ch H H' s.heap s'.heap)(a:JV X.prog X.w H' s'.heap)(d:S6 s'.gens)
  (f:∀b∈ch,(b∈X.ex\/X.s₀.heap.objs.size<=b)/\b≠X.env.locals/\(∀x c,X.env.cells.lookup x=a5 c->c≠b)/\∀p∈X.pn++pins,p.1≠b):Inv X pins σ H' s':=by
 obtain⟨h',g',d',t',g⟩:=s';have e:g=s.os:=ho;subst e;exact I.call (g':=g') (t':=t') (d':=d') u a d f
end
abbrev XK:=d3->Option eH->Hp->Prop
abbrev St:=List (Option V)
abbrev VK:=V->Hp->Prop
abbrev TE:=St->Hp->VK->Prop
abbrev TT:=St->Hp->(Bool->Hp->Prop)->Prop
abbrev TA:=St->Hp->(List V->Hp->Prop)->Prop
structure Ends where
 nx:St->Hp->Prop
 rt:VK
 bk:St->Hp->Prop:=λ_ _=>False
 ct:St->Hp->Prop:=λ_ _=>False
abbrev TS:=Ends->St->Hp->Prop
def EP(X:Cx)(a:List (eH×Obj))(σ:St)(Q:VK)(u:d3)(s':d8):Prop:=∃v H',Inv X a σ H' s'/\RelV v u/\Q v H'
def TP(X:Cx)(a:List (eH×Obj))(σ:St)(Q:Bool->Hp->Prop)(b:Bool)(s':d8):Prop:=∃H',Inv X a σ H' s'/\Q b H'
def AP(X:Cx)(a:List (eH×Obj))(σ:St)(Q:List V->Hp->Prop)(us:List d3)(s':d8):Prop:=∃vs H',Inv X a σ H' s'/\Vals vs us/\Q vs H'
def SP(X:Cx)(a:List (eH×Obj))(D:Ends)(f:Flow)(s':d8):Prop :=
 match f with
 |.next=>∃b H',Inv X a b H' s'/\D.nx b H'
 |.brk=>∃b H',Inv X a b H' s'/\D.bk b H'
 |.cont=>∃b H',Inv X a b H' s'/\D.ct b H'
 |.ret u=>∃v b H',Inv X a b H' s'/\RelV v u/\D.rt v H'
def PE(X:Cx)(e:mf)(t:TE):Prop :=
 ∀(a:List (eH×Obj)) (s:d8) (σ:St) (H:Hp) (Q:VK),Inv X a σ H s->t σ H Q->d6 (ez X.prog X.w) X.A (ve e X.env) (EP X a σ Q) X.xe s
def PT(X:Cx)(e:mf)(t:TT):Prop :=
 ∀(a:List (eH×Obj)) (s:d8) (σ:St) (H:Hp) (Q:Bool->Hp->Prop),Inv X a σ H s->t σ H Q->d6 (ez X.prog X.w) X.A (isTrue e X.env (ve e X.env)) (TP X a σ Q) X.xe s
def PW(X:Cx)(e:mf)(t:TT):Prop :=
 ∀(b:Sem d3) (a:List (eH×Obj)) (s:d8) (σ:St) (H:Hp) (Q:Bool->Hp->Prop),Inv X a σ H s->t σ H Q->d6 (ez X.prog X.w) X.A (isTrue e X.env b) (TP X a σ Q) X.xe s
theorem PW.pt(h:PW X e t):PT X e t:=h _
def PA(X:Cx)(es:List mf)(t:TA):Prop :=
 ∀(pos:Pos) (a:List (eH×Obj)) (s:d8) (σ:St) (H:Hp) (Q:List V->Hp->Prop),Inv X a σ H s->t σ H Q->d6 (ez X.prog X.w) X.A (Ċ (DD pos (hW es X.env))) (AP X a σ Q) X.xe s
def PS(X:Cx)(st:Mi)(t:TS):Prop :=
 ∀(a:List (eH×Obj)) (s:d8) (σ:St) (H:Hp) (D:Ends),Inv X a σ H s->t D σ H->d6 (ez X.prog X.w) X.A (exec st X.env) (SP X a D) X.xe s
def J2(X:Cx)(st:List Mi)(t:TS):Prop :=
 ∀(a:List (eH×Obj)) (s:d8) (σ:St) (H:Hp) (D:Ends),Inv X a σ H s->t D σ H->d6 (ez X.prog X.w) X.A (execs st X.env) (SP X a D) X.xe s
theorem IX(h:d6 M A t Q E s)(b:∀a s,Q a s->Q' a s):d6 M A t Q' E s:=mh h b λ_ _ x=>x
section
def HQ(i:Nat):TE:=λσ H Q=>∃v,σ[i]?=a5 (a5 v)/\Q v H
def tC(v:V):TE:=λ_ H Q=>Q v H
theorem bN(j:X.N[i]?=a5 x)(k:KC X.env.scope x)(d:(x==("__debug__":Str))=cc:=by decide)(n:(x==("__classdict__":Str))=cc:=by decide):PE X (.Name x pos) (HQ i):=by
 intro b s σ H Q I h;obtain⟨v,e,h⟩:=h;obtain⟨m,o,hl⟩:=I.loc;obtain⟨u,r,l⟩:=hl i x v j e k;have a:EP X b σ Q u s:=⟨v,H,I,r,h⟩
 rcases l with⟨hk,p⟩|⟨hk,c,f,g⟩
 ·exact ù (wpAny_loadName_local I.ok.kind hk o p a) d
 ·rcases hk with hk|hk
  ·exact ù (wpAny_loadName_cell I.ok.kind hk f g a) d
  ·exact ù (wpAny_loadName_free I.ok.kind hk f g a n) d
theorem xg:PE X (.Constant (.int i) j pos) (tC (.int i)):=λ_ _ _ H _ I h=>wpAny_Constant_int ⟨.int i,H,I.tok _,⟨_,rfl⟩,h⟩
theorem pN:PE X (.Constant (.bool b) j pos) (tC (.bl b)):=λ_ _ _ H _ I h=>Constant_bool ⟨.bl b,H,I,rfl,h⟩
theorem xh:PE X (.Constant .none j pos) (tC .IU):=λ_ _ _ H _ I h=>Constant_none ⟨.IU,H,I,rfl,h⟩
theorem og:PE X (.Constant (.str x) j pos) (tC (.str x)):=λ_ _ _ H _ I h=>Calls.Constant_str ⟨.str x,H,I.tok _,⟨_,rfl⟩,h⟩
def Gl(X:Cx)(x:Str):Prop:=X.env.kindOf x=a5 .globalImplicit
theorem dy(I:Inv X a σ H s)(b:Gl X x)(c:X.mg x=a5 u)(h:Q u s)
  (d:(x==("__debug__":Str))=cc:=by decide):d6 (ez X.prog X.w) X.A (ve (.Name x pos) X.env) Q E s :=
 Wu I.ok.kind b (Calls.loadGlobal_global (by rw[I.ok.glob];exact I.mod.glob.keeps I.bk) c h) d
theorem cH(I:Inv X a σ H s)(b:Gl X x)(c:X.mg x=bD)(d:tv x=a5 u)(h:Q u s)
  (e:x≠"__name__":=by decide) (f:(x==("__debug__":Str))=cc:=by decide):d6 (ez X.prog X.w) X.A (ve (.Name x pos) X.env) Q E s:=by
 obtain⟨j,g,i⟩:=I.mod.blt;exact Wu I.ok.kind b (Calls.loadGlobal_builtin (by rw[I.ok.glob];exact I.mod.glob.keeps I.bk) c (by rw[I.ok.blt];exact g.keeps I.bk) ((i x e).trans d) h) f
theorem tw(a:Gl X x)(b:X.mg x=bD)(c:tv x=a5 u)(r:RelV v u)(d:x≠"__name__":=by decide)(e:(x==("__debug__":Str))=cc:=by decide):PE X (.Name x pos) (tC v) :=
 λ_ _ _ H _ I h=>cH I a b c ⟨v,H,I,r,h⟩ d e
def PC(X:Cx)(d:CmpOp)(a b:mf)(t:TE):Prop :=
 ∀(c:List (eH×Obj)) (s:d8) (σ:St) (H:Hp) (Q:VK),Inv X c σ H s->t σ H Q ->
  d6 (ez X.prog X.w) X.A (ve a X.env) (λv e=>d6 (ez X.prog X.w) X.A (ve b X.env) (λu f=>d6 (ez X.prog X.w) X.A (LW d v u) (EP X c σ Q) X.xe f) X.xe e) X.xe s
def tB(t:TE):TT:=λσ H Q=>t σ H λx a=>∃c,x=.bl c/\Q c a
theorem xj(h:PC X g a b t)(f:Q6 g b=cc:=by first|exact o _ (by decide) (by decide)|rfl):PT X (.Compare a [g] [b] pos) (tB t):=by
 intro e s σ H Q I i;refine Ñ (IX (h e s σ H _ I i) λv s1 f=>IX f λu s2 j=>IX j λc s3 ⟨x,k,l,m,n⟩=>?_) f;obtain⟨d,rfl,q⟩:=n;cases m;exact L7 ⟨k,l,q⟩
def HR(t u:TT):TT:=λσ H Q=>t σ H λc a=>if c=b8 then u σ a Q else Q cc a
def Wn(t u:TT):TT:=λσ H Q=>t σ H λc a=>if c=b8 then Q b8 a else u σ a Q
def HS(t:TT):TT:=λσ H Q=>t σ H λc a=>Q (!c) a
theorem AB(d:PT X a f):PW X (.BoolOp .And [a] pos) f:=by
 intro g b s σ H Q I h;refine isTrue_and (IX (d b s σ H Q I h) λc s1 e=>?_);cases c with
 |true=>exact Ł e
 |false=>exact e
theorem Dn(d:PT X a f):PW X (.BoolOp .Or [a] pos) f:=by
 intro g b s σ H Q I h;refine isTrue_or (IX (d b s σ H Q I h) λc s1 e=>?_);cases c with
 |false=>exact isTrue_or_nil e
 |true=>exact e
theorem Dp(i:PT X a j)(k:PW X (.BoolOp .And (b::rest) pos) l):PW X (.BoolOp .And (a::b::rest) pos) (HR j l):=by
 intro m d s σ H Q I h;refine isTrue_and (IX (i d s σ H _ I h) λc s1 n=>?_);obtain⟨e,f,g⟩:=n;cases c with
 |true=>exact k m d s1 σ e Q f g
 |false=>exact⟨e,f,g⟩
theorem FK(i:PT X a j)(k:PW X (.BoolOp .Or (b::rest) pos) l):PW X (.BoolOp .Or (a::b::rest) pos) (Wn j l):=by
 intro m d s σ H Q I h;refine isTrue_or (IX (i d s σ H _ I h) λc s1 n=>?_);obtain⟨e,f,g⟩:=n;cases c with
 |true=>exact⟨e,f,g⟩
 |false=>exact k m d s1 σ e Q f g
theorem Dq(d:PT X a e):PT X (.UnaryOp .Not a pos) (HS e):=by
 intro b s σ H Q I h;exact isTrue_not (d b s σ H (λc f=>Q (!c) f) I h)
def FL(b d:TE):TE:=λσ H Q=>b σ H λx a=>∃c,x=.bl c/\if c=b8 then d σ a Q else Q (.bl cc) a
def FN(a:TE):TE:=λσ H Q=>a σ H λx b=>∃c,x=.bl c/\Q (.bl (!c)) b
theorem Dr(h:PE X a t):PE X (.BoolOp d [a] pos) t:=λb s σ H Q I c=>BoolOp_one (h b s σ H Q I c)
theorem Ds(i:PE X a j)(k:PE X (.BoolOp .And (b::rest) pos) l):PE X (.BoolOp .And (a::b::rest) pos) (FL j l):=by
 intro d s σ H Q I h;refine BoolOp_and (IX (i d s σ H _ I h) λv s1 m=>?_);obtain⟨x,f,g,n,e⟩:=m;obtain⟨c,rfl,e⟩:=e;cases n;refine L7 ?_;cases c with
 |true=>exact k d s1 σ f Q g e
 |false=>exact⟨.bl cc,f,g,rfl,e⟩
theorem Dt(e:PE X a f):PE X (.UnaryOp .Not a pos) (FN f):=by
 intro b s σ H Q I h;refine UnaryOp_ (IX (e b s σ H _ I h) λv s1 g=>?_);obtain⟨x,i,j,k,d⟩:=g;obtain⟨c,rfl,d⟩:=d;cases k;exact not_of (L7 ⟨.bl (!c),i,j,rfl,d⟩)
def Wt(t:TT)(b d:TE):TE:=λσ H Q=>t σ H λc a=>if c=b8 then b σ a Q else d σ a Q
theorem xk(j:PT X c k)(l:PE X a m)(n:PE X b o):PE X (.IfExp c a b pos) (Wt k m o):=by
 intro e s σ H Q I h;refine wpAny_IfExp (IX (j e s σ H _ I h) λd s1 p=>?_);obtain⟨f,g,i⟩:=p;cases d with
 |true=>exact l e s1 σ f Q g i
 |false=>exact n e s1 σ f Q g i
end
def Jn(K:PySem.W.Frag)(H:Hp)(a:eH)(xs:List V):Prop :=
 Rd H a (.lst xs) \/
  ∃(o:Obj) (b:Array d3) (n:Nat),K.lookup a=a5 o/\o.cls=.type "list"/\o.dict=bD/\o.data=.seq b n/\b.size<=cL/\Vals xs b.toList
def JH(K:PySem.W.Frag)(H:Hp)(a:eH)(xs:List V):Prop :=
 Rd H a (.tup xs) \/
  ∃(o:Obj) (b:Array d3) (n:Nat),K.lookup a=a5 o/\o.cls=.type "tuple"/\o.data=.seq b n/\b.size<=cL/\Vals xs b.toList
noncomputable def HU:d3->Option V
 |.none=>a5 .IU
 |.bool b=>a5 (.bl b)
 |.int i _=>a5 (.int i)
 |.str x _=>a5 (.str x)
 |.bytes b _=>a5 (.QU b)
 |.float b _=>a5 (.QV b)
 |.ref a=>a5 (.ref a)
 |.type n=>a5 (.ty n)
 |_=>bD
theorem RelV.abs(r:RelV x u):HU u=a5 x:=by
 cases x with
 |IU=>cases r;rfl
 |bl _=>cases r;rfl
 |ref _=>cases r;rfl
 |ty _=>cases r;rfl
 |_=>obtain⟨t,rfl⟩:=r;rfl
theorem RelV.inj(r:RelV x u)(q:RelV y u):x=y:=wk (r.abs.symm.trans q.abs)
theorem Vals.inj:∀{xs a:List V}{us:List d3},Vals xs us->Vals a us->xs=a
 |_,_,_,.nil,.nil=>rfl
 |_,_,_,.cons r t,.cons b t'=>by rw[r.inj b,Vals.inj t t']
section
theorem Jn.of{K:PySem.W.Frag}(h:H a=a5 (.lst xs)):Jn K H a xs:=.inl (.inl h)
theorem JH.of{K:PySem.W.Frag}(h:H a=a5 (.tup xs)):JH K H a xs:=.inl (.inl h)
theorem Inv.list(I:Inv X c σ H s)(h:Jn X.K H a xs):∃b:List d3,Vals xs b/\PlainL s.heap a b.toArray/\xs.length<=cL:=by
 rcases h with h|⟨o,b,n,hk,d,f,hs,hz,r⟩
 ·obtain⟨z,b,n,r,e⟩:=h.ok I.IQ;exact⟨b,r,⟨_,n,e,rfl,rfl,rfl⟩,z⟩
 ·refine⟨b.toList,r,⟨o,n,I.LH a o hk,d,f,by simpa using hs⟩,?_⟩;have e:=r.length;simp only[hU]at e;lia
theorem Inv.tuple(I:Inv X c σ H s)(h:JH X.K H a xs):∃b:List d3,Vals xs b/\Ń s.heap a b.toArray/\xs.length<=cL:=by
 rcases h with h|⟨o,b,n,hk,d,hs,hz,r⟩
 ·obtain⟨z,b,r,p⟩:=h.ok I.IQ;exact⟨b,r,p,z⟩
 ·refine⟨b.toList,r,⟨o,I.LH a o hk,d,n,by simpa using hs⟩,?_⟩;have e:=r.length;simp only[hU]at e;lia
theorem Inv.kB(I:Inv X b σ H s)(h:Jn X.K H a xs)(h':Jn X.K H a f):xs=f:=by
 obtain⟨g,r,⟨o,n,e,_,_,d⟩,_⟩:=I.list h;obtain⟨its',i,⟨k,l,c,_,_,d'⟩,_⟩:=I.list h';rw[e]at c;cases c;rw[d]at d';injection d' with j _
 have:g=its':=by simpa using Ŋ X5 j
 subst this;exact r.inj i
theorem Inv.mH(I:Inv X b σ H s)(h:JH X.K H a xs)(h':JH X.K H a f):xs=f:=by
 obtain⟨g,r,⟨o,e,_,n,d⟩,_⟩:=I.tuple h;obtain⟨its',i,⟨k,c,_,l,d'⟩,_⟩:=I.tuple h';rw[e]at c;cases c;rw[d]at d';injection d' with j _
 have:g=its':=by simpa using Ŋ X5 j
 subst this;exact r.inj i
end
abbrev Cx.jh(X:Cx)(E:d3->d8->Prop):Cx:={X with xe:=E}
abbrev Cx.KD(X:Cx):Cx:=X.jh λ_ _=>False
theorem Cx.Ok.jh{X:Cx}(a:X.Ok)(E:d3->d8->Prop):(X.jh E).Ok :=
 ⟨a.mod,a.kind,a.glob,a.blt,a.above,a.inj,a.has,a.OS,a.hd,a.frames,a.Px,a.RT,a.bs,a.MU,a.LU,a.Mg,a.jU,a.NV⟩
theorem Cx.Ok.fg{X:Cx}(a:(X.jh E).Ok):X.Ok :=
 ⟨a.mod,a.kind,a.glob,a.blt,a.above,a.inj,a.has,a.OS,a.hd,a.frames,a.Px,a.RT,a.bs,a.MU,a.LU,a.Mg,a.jU,a.NV⟩
section
theorem Inv.jh(I:Inv X a σ H s)(E:d3->d8->Prop):Inv (X.jh E) a σ H s:=⟨I.ok.jh E,I.os,I.bare,I.base,I.loc,I.cell,I.free,I.Jk,I.pin,I.IQ,I.len⟩
theorem Inv.fg(I:Inv (X.jh E) a σ H s):Inv X a σ H s:=⟨I.ok.fg,I.os,I.bare,I.base,I.loc,I.cell,I.free,I.Jk,I.pin,I.IQ,I.len⟩
theorem SP.fg(h:SP (X.jh E) a D f s'):SP X a D f s':=by
 cases f with
 |ret u=>obtain⟨v,b,H',I,r,q⟩:=h;exact⟨v,b,H',I.fg,r,q⟩
 |_=>obtain⟨b,H',I,q⟩:=h;exact⟨b,H',I.fg,q⟩
theorem J2.KD{st:List Mi}(h:J2 X.KD st t):J2 X st t:=λa s σ H D I b =>
 mh (h a s σ H D (I.jh _) b) (λ_ _ q=>q.fg) λ_ _ z=>MT z
end
section
variable{X:Cx}{st:Mi}{rest:List Mi}{t u:TS}{e:mf}{te:TE}{pos:Pos}
def FO:TS:=λD σ H=>D.nx σ H
def HV(t u:TS):TS:=λD σ H=>t {D with nx:=u D} σ H
theorem oh:J2 X [] FO:=λ_ _ σ H _ I h=>N6 ⟨σ,H,I,h⟩
theorem kC(b:PS X st t)(c:J2 X rest u):J2 X (st::rest) (HV t u):=by
 intro a s σ H D I h;refine WN (IX (b a s σ H {D with nx:=u D} I h) λf s1 q=>?_);cases f with
 |next =>
  obtain⟨d,H',g,q⟩:=q;exact c a s1 d H' D g q
 |_=>exact q
theorem Inv.quiet(I:Inv X a σ H s):interactive X.env=cc:=by simp[interactive,I.ok.kind]
def FP(te:TE):TS:=λD σ H=>te σ H λ_ a=>D.nx σ a
theorem j8(b:PE X e te)(hs:O_ e bD pos.line X.env=pure cc:=by rfl):PS X (.Expr e pos) (FP te):=by
 intro a s σ H D I h;exact İ (IX (b a s σ H _ I h) λv s1 ⟨x,c,d,g,f⟩=>⟨σ,c,d,f⟩) I.quiet hs
def HW(te:TE):TS:=λD σ H=>te σ H D.rt
theorem Du(b:PE X e te):PS X (.Return (a5 e) pos) (HW te):=by
 intro a s σ H D I h;exact wpAny_Return_some (IX (b a s σ H _ I h) λv s1 ⟨x,c,d,f,g⟩=>⟨x,σ,c,d,f,g⟩)
def FQ:TS:=λD _ H=>D.rt .IU H
theorem AD:PS X (.Return bD pos) FQ:=λ_ _ σ H _ I h=>wpAny_Return_none ⟨.IU,σ,H,I,rfl,h⟩
def HX(c:TT)(t u:TS):TS:=λD σ H=>c σ H λb a=>if b=b8 then t D σ a else u D σ a
theorem FR(k:PT X c l)(m:J2 X a t)(n:J2 X b u):PS X (.If c a b pos) (HX l t u):=by
 intro f s σ H D I h;refine wpAny_If (IX (k f s σ H _ I h) λd s1 o=>?_);obtain⟨g,i,j⟩:=o;cases d with
 |true=>exact m f s1 σ g D i j
 |false=>exact n f s1 σ g D i j
end
abbrev TG:=V->St->Hp->(St->Hp->Prop)->Prop
abbrev OV:=List V->St->Hp->(St->Hp->Prop)->Prop
def PG(X:Cx)(a:mf)(t:TG):Prop :=
 ∀(b:List (eH×Obj)) (s:d8) (σ:St) (H:Hp) (v:V) (u:d3) (Q:St->Hp->Prop),Inv X b σ H s->RelV v u->t v σ H Q ->
  d6 (ez X.prog X.w) X.A (Ss a X.env u) (λ_ s'=>∃c H',Inv X b c H' s'/\Q c H') X.xe s
def PD(X:Cx)(ts:List mf)(t:OV):Prop :=
 ∀(a:List (eH×Obj)) (s:d8) (σ:St) (H:Hp) (vs:List V) (us:List d3) (Q:St->Hp->Prop),Inv X a σ H s->Vals vs us->t vs σ H Q ->
  d6 (ez X.prog X.w) X.A (assignInOrder ((PV ts X.env).map (·.2)) us) (λ_ s'=>∃b H',Inv X a b H' s'/\Q b H') X.xe s
abbrev Dv:=V->V->V->Hp->(Hp->Prop)->Prop
def oi(X:Cx)(t:Dv):Prop :=
 ∀(a:List (eH×Obj)) (s:d8) (σ:St) (H:Hp) (o i v:V) (b c u:d3) (Q:Hp->Prop),Inv X a σ H s->RelV o b->RelV i c->RelV v u->t o i v H Q ->
  d6 (ez X.prog X.w) X.A (TR b c u) (λ_ s'=>∃H',Inv X a σ H' s'/\Q H') X.xe s
abbrev RW:=V->V->Hp->VK->Prop
def QZ(X:Cx)(b:ä)(t:RW):Prop :=
 ∀(a:List (eH×Obj)) (s:d8) (σ:St) (H:Hp) (x y:V) (v u:d3) (Q:VK),Inv X a σ H s->RelV x v->RelV y u->t x y H Q ->
  d6 (ez X.prog X.w) X.A (inplaceOp b v u) (EP X a σ Q) X.xe s
section
def tD(i:Nat):TG:=λv σ H Q=>Q (σ.set i (a5 v)) H
theorem tE(b:X.N.Nodup)(c:X.N[i]?=a5 x)(d:Loc X.env.scope x)(e:X.fn x=b8\/X.env.scope.names.lookup x=a5 .local:=by first|exact .inl rfl|exact .inr rfl|assumption):PG X (.Name x pos) (tD i):=by
 intro a s σ H v u Q I r h;exact ĉ (eO I b c d r (λs' f=>⟨_,H,f,h⟩) e)
noncomputable def FT:OV:=λvs σ H Q=>vs=[]/\Q σ H
noncomputable def CM(t:TG)(u:OV):OV:=λvs σ H Q=>∃v r,vs=v::r/\t v σ H λa H'=>u r a H' Q
theorem AE:PD X [] FT:=by
 intro a s σ H vs us Q I r h;obtain⟨e,h⟩:=h;subst e;cases r;exact assignInOrder_nil ⟨σ,H,I,h⟩
theorem xm(b:PG X e t)(c:PD X es u)
  (hs:(PV (e::es) X.env).map (·.2)=Ss e X.env::(PV es X.env).map (·.2):=by rfl):PD X (e::es) (CM t u):=by
 intro a s σ H vs us Q I r h;obtain⟨v,m,d,h⟩:=h;subst d;cases r with
 |cons r f =>
  rw[hs];refine assignInOrder_cons (IX (b a s σ H _ _ _ I r h) λ_ s1 g=>?_);obtain⟨i,j,k,l⟩:=g;exact c a s1 i j _ _ Q k f l
def HY(K:PySem.W.Frag)(n:Nat)(t:OV):TG:=λv σ H Q=>∃a xs,v=.ref a/\JH K H a xs/\xs.length=n/\t xs σ H Q
theorem Dw(f:X.calm=b8)(h:PD X es t)
  (g:(PV es X.env).length=n:=by rfl) (i:(PV es X.env).findIdx? (·.1)=bD:=by rfl):PG X (.Tuple es k pos) (HY X.K n t):=by
 intro c s σ H v u Q I r d;obtain⟨a,xs,j,l,hl,d⟩:=d;subst j;cases r;obtain⟨w,rv,m,hz⟩:=I.tuple l;refine assign_Tuple_tuple (I.ok.hd f) m (by simp[g,<-hl,rv.length]) i λh' p=>?_;have q:Inv X c σ H {s with heap:=h' }:=I.kept (t':=s.toks) λb o e=>p b o (hY (fx e)) e;exact h c _ σ H xs _ Q q (by simpa using rv) d
def HZ(a b:TE)(t:Dv):TG:=λv σ H Q=>a σ H λo c=>b σ c λi d=>t o i v d λe=>Q σ e
theorem xn(ho:PE X o d)(e:PE X i f)(hs:oi X t)
  (g:∀v,Ss (.Subscript o i pos) X.env v=(do
   let b <-MX [v] (ve o X.env)
   let c <-MX [v,b] (ve i X.env)
   X6 pos
   MX [v,b,c] (TR b c v)
   Wk [v,b,c] []):=by intro _;rfl):PG X (.Subscript o i pos) (HZ d f t):=by
 intro a s σ H v u Q I r h;rw[g];refine b6 (t6 (IX (ho a s σ H _ I h) λb s1 j=>?_));obtain⟨x,k,l,m,n⟩:=j;refine b6 (t6 (IX (e a s1 σ k _ l n) λc s2 p=>?_));obtain⟨y,q,w,z,A⟩:=p;refine b6 (ZF (b6 (t6 (IX (hs a s2 σ q x y v b c u _ w m z r A) λ_ s3 B=>?_))));obtain⟨C,D,G⟩:=B;exact wpAny_release ⟨σ,C,D,G⟩
def Dx(te:TE)(g:TG):TS:=λD σ H=>te σ H λx a=>g x σ a D.nx
theorem rh(c:PE X e te)(d:PG X b g)(hs:Q2 [b] e pos.line X.env=pure cc:=by rfl)(f:Vn [b] e X.env=pure bD:=by rfl)
  (i:(PV [b] X.env).map (·.2)=[Ss b X.env]:=by rfl):PS X (.Assign [b] e pos) (Dx te g):=by
 intro a s σ H D I h;refine wpAny_Assign_stores (IX (c a s σ H _ I h) λv s1 ⟨x,j,k,l,m⟩=>?_) hs f;rw[i];exact IX (d a s1 σ j x v _ k l m) λ_ s2 q=>q
theorem oj(b:X.N.Nodup)(c:X.N[i]?=a5 x)(d:Loc X.env.scope x)(f:PE X e te)(hs:O_ e (a5 (.Name x pos')) pos.line X.env=pure cc:=by rfl)(g:X.fn x=b8\/X.env.scope.names.lookup x=a5 .local:=by first|exact .inl rfl|exact .inr rfl|assumption):
  PS X (.Assign [.Name x pos'] e pos) (Dx te (tD i)):=by
 intro a s σ H D I h;refine We (IX (f a s σ H _ I h) λv s1 ⟨y,j,k,l,m⟩=>?_) hs;exact eO k b c d l (λs2 n=>⟨_,j,n,m⟩) g
def FU(a b te:TE)(c:V->V->Hp->VK->Prop)(d:RW)(e:Dv):TS:=λD σ H=>a σ H λo f=>b σ f λi g=>c o i g λx h=>te σ h λy j=>d x y j λz k=>e o i z k λl=>D.nx σ l
def FV(X:Cx)(t:V->V->Hp->VK->Prop):Prop :=
 ∀(a:List (eH×Obj)) (s:d8) (σ:St) (H:Hp) (o i:V) (b c:d3) (Q:VK),Inv X a σ H s->RelV o b->RelV i c->t o i H Q ->
  d6 (ez X.prog X.w) X.A (Wm b c) (EP X a σ Q) X.xe s
theorem AF(ho:PE X o k)(l:PE X i m)(n:FV X p)(q:PE X e te)(r:QZ X t u)(hs:oi X w)
  (x:∀b c new,Ķ i b c new=(do MX [new,b,c] (TR b c new);Wk [new,b,c] [];pure .next):=by intros;rfl):PS X (.AugAssign (.Subscript o i Wz) t e pos) (FU k m te p u w):=by
 intro a s σ H D I h;refine wpAny_AugAssign_SubscriptAny (IX (ho a s σ H _ I h) λb s1 ⟨x1,y,z,f,A⟩=>?_) x;refine IX (l a s1 σ y _ z A) λc s2 B=>?_;obtain⟨g,C,G,j,J⟩:=B;refine IX (n a s2 σ C x1 g b c _ G f j J) λd s3 L=>?_;obtain⟨N,O,Q,T,Y⟩:=L;refine IX (q a s3 σ O _ Q Y) λv s4 R4=>?_;obtain⟨x4,H4,I4,r4,q4⟩:=R4;refine IX (r a s4 σ H4 N x4 d v _ I4 T r4 q4) λnew s5 R5=>?_;obtain⟨x5,H5,I5,r5,q5⟩:=R5;exact IX (hs a s5 σ H5 x1 g x5 b c new _ I5 f j r5 q5) λ_ s6 ⟨H6,I6,q6⟩=>⟨σ,H6,I6,q6⟩
noncomputable def R6(f:Int->Int->Int):RW:=λx y H Q=>∃i j,x=.int i/\y=.int j/\Q (.int (f i j)) H
theorem Dy:QZ X .Add (R6 λi j=>i+j):=by
 intro a s σ H x y v u Q I b c h;obtain⟨i,j,d,e,q⟩:=h;subst d;subst e;obtain⟨t,rfl⟩:=b;obtain⟨t',rfl⟩:=c;exact iadd_int ⟨.int _,H,I.tok _,⟨_,rfl⟩,q⟩
theorem Dz:QZ X .Sub (R6 λi j=>i - j):=by
 intro a s σ H x y v u Q I b c h;obtain⟨i,j,d,e,q⟩:=h;subst d;subst e;obtain⟨t,rfl⟩:=b;obtain⟨t',rfl⟩:=c;exact isub_int ⟨.int _,H,I.tok _,⟨_,rfl⟩,q⟩
end
section
def DA(c:TT)(f:TS):TS:=λD σ H=>∃W:Nat->St->Hp->Prop,(∃m,W m σ H)/\∀m σ H,W m σ H ->
 c σ H λb a=>if b=b8 then ∃N:St->Hp->Prop,(∀d H',N d H'->∃e,e<m/\W e d H')/\f {D with nx:=N,ct:=N,bk:=D.nx} σ a else D.nx σ a
theorem xp(r:Xp (ez X.prog X.w) X.A X.env X.xe)(z:PT X c B)(C:J2 X body G):PS X (.While c body [] pos) (DA B G):=by
 intro a s σ H D I h;obtain⟨W,⟨m0,J⟩,d⟩:=h;refine wpAny_While (codeAny_whileLoop (λn s'=>∃t H',Inv X a t H' s'/\W n t H') ?_ m0 ⟨σ,H,I,J⟩);rintro n s1 ⟨i,u,L,O⟩;refine N5 r (IX (z a s1 i u _ L (d n i u O)) λb s2 Q=>?_);obtain⟨v,x,j⟩:=Q;cases b with
 |true =>
  obtain⟨N,y,j⟩:=j;rw[ņ rfl];refine N5 r (IX (C a s2 i v _ x j) λf s3 k=>?_);cases f with
  |next =>
   obtain⟨e,g,l,m⟩:=k;obtain⟨o,p,q⟩:=y e g m;exact⟨o,p,e,g,l,q⟩
  |cont =>
   obtain⟨e,g,l,m⟩:=k;obtain⟨o,p,q⟩:=y e g m;exact⟨o,p,e,g,l,q⟩
  |_=>exact k
 |false =>
  rw[Ň i7];exact N6 ⟨i,v,x,j⟩
end
structure It where
 go:Nat->Hp->Prop
 Q0:Nat->Hp->V->Hp->Prop
 stop:Nat->Hp->Prop
def iu(X:Cx)(a:List (eH×Obj))(H:Hp)(b:eH):Prop :=
 H b=bD/\b≠X.env.locals/\b∉X.fs/\(b∈X.ex\/X.s₀.heap.objs.size<=b)/\(∀x c,X.env.cells.lookup x=a5 c->c≠b)/\∀p∈X.pn++a,p.1≠b
theorem Inv.xq(I:Inv X a σ H s)(d:s.heap.objs.size<=b)(f:H' b=bD):iu X a H' b:=by
 refine⟨f,KU (i3 I.lt d),I.Dm d,.inr (wh I.sz d),λx c e z=>?_,λp g z=>?_⟩
 ·obtain⟨v,q⟩:=I.cell x c e;exact absurd (i3 q.lt (by rw[z];exact d)) (uv _)
 ·exact absurd (i3 (fx (I.pin p g).1) (by rw[z];exact d)) (uv _)
structure Turn(P:va)(w:H8)(K:PySem.W.Frag)(tg:mf)(J:It)(fp:List eH)(it:eH)(tn:Nat->Jy->Prop):Prop where
 mem:it∈fp
 obj:∀i h,tn i h->∀b∈fp,∃o,h.get? b=a5 o/\∀v,o.data≠.cell v
 keep:∀i h h',tn i h->(∀b∈fp,∀o,h.get? b=a5 o->h'.get? b=a5 o)->tn i h'
 item:∀(X:Cx),X.prog=P->X.w=w->X.K=K->X.calm=b8->∀(i:Nat) (pins:List (eH×Obj)) (s:d8) (σ:St) (H:Hp) (E:d3->d8->Prop),Inv X pins σ H s->(∀b∈fp,iu X pins H b)->tn i s.heap->J.go i H ->
  d6 (ez P w) X.A (TV (.ref it)) (λr s1=>∃u,r=a5 u /\
   d6 (ez P w) X.A (Ux tg (.ref it) u) (λ_ s2=>∃x H',Inv X pins σ H' s2/\RelV x u/\J.Q0 i H x H'/\tn (i+1) s2.heap/\∀b∈fp,H' b=bD) E s1) E s
 done:∀(X:Cx),X.prog=P->X.w=w->X.K=K->X.calm=b8->∀(i:Nat) (pins:List (eH×Obj)) (s:d8) (σ:St) (H:Hp) (E:d3->d8->Prop),Inv X pins σ H s->(∀b∈fp,iu X pins H b)->tn i s.heap->J.stop i H ->
  d6 (ez P w) X.A (TV (.ref it)) (λr s1=>r=bD/\Inv X pins σ H s1) E s
 self:∀(A:Nm) (i:Nat) (s:d8) (Q:d3->d8->Prop) (E:d3->d8->Prop),tn i s.heap->Q (.ref it) s->d6 (ez P w) A (Y1 (.ref it)) Q E s
abbrev TI:=St->Hp->(It->Hp->Prop)->Prop
def UY(X:Cx)(a:List (eH×Obj))(σ:St)(e:mf)(R:It->Hp->Prop)(f:d3)(s2:d8):Prop :=
 ∃(it:eH) (c:List eH) (d:Nat->Jy->Prop) (J:It) (H':Hp),f=.ref it/\Inv X a σ H' s2/\Turn X.prog X.w X.K e J c it d/\d 0 s2.heap/\(∀b∈c,iu X a H' b)/\R J H'
def PI(X:Cx)(c b:mf)(d:TI):Prop :=
 ∀(a:List (eH×Obj)) (s:d8) (σ:St) (H:Hp) (R:It->Hp->Prop),Inv X a σ H s->d σ H R ->
  d6 (ez X.prog X.w) X.A (ve b X.env) (λv s1=>d6 (ez X.prog X.w) X.A (Y1 v) (UY X a σ c R) X.xe s1) X.xe s
theorem tF(ho:s.heap.get? it=a5 o)(b:o.cls=.type n)(c:o.data=.fields vs)
    (d:["enumerate","zip","dict_itemiterator","dict_reverseitemiterator","odict_iterator","itertools.zip_longest","itertools.pairwise"].contains n=cc) (a:Q () s):d6 M A (Ux e (.ref it) u) Q E s:=by
  unfold Ux;cases e<;>first
    | exact df a
    | (cases u<;>first
        | exact df a
        | (refine b6 (ö ho ?_)
           rw[b,c];show d6 M A (if (["enumerate","zip","dict_itemiterator","dict_reverseitemiterator","odict_iterator","itertools.zip_longest","itertools.pairwise"].contains n&&vs[0]?==a5 (u7 _))=b8 then _ else _) Q E s;rw[Ň (by intro h;rw[d,õ]at h;cases h)];exact df a))
noncomputable def R8(K:PySem.W.Frag)(a:eH):It :=
 ⟨λi H=>∃xs x,Jn K H a xs/\xs[i]?=a5 x,λi H x H'=>H'=H/\∀xs,Jn K H a xs->xs[i]?=a5 x,λi H=>∃xs,Jn K H a xs/\xs.length<=i⟩
noncomputable def R9(K:PySem.W.Frag)(a:eH):It :=
 ⟨λi H=>∃xs x,JH K H a xs/\xs[i]?=a5 x,λi H x H'=>H'=H/\∀xs,JH K H a xs->xs[i]?=a5 x,λi H=>∃xs,JH K H a xs/\xs.length<=i⟩
noncomputable def Q3(lo:Int)(n:Nat):It:=⟨λi _=>i<n,λi H x H'=>H'=H/\x=.int (lo+i),λi _=>n<=i⟩
theorem vj{K:PySem.W.Frag}(a it:eH):Turn P w K tg (R8 K a) [it] it (λi h=>h.IsListIter it a i) where
 mem:=by simp
 obj:=λi h st b g=>by
  have e:b=it:=by simpa using g
  subst e;obtain⟨o,e,c,d⟩:=st;exact⟨o,e,λv z=>by rw[d]at z;cases z⟩
 keep:=λi h h' st k=>st.at λo e=>k it (by simp) o e
 item:=by
  intro X m n q G i f s σ H E I j st r;subst m n q;obtain⟨xs,x,l,t⟩:=r;obtain⟨J,rv,p,hz⟩:=I.list l;obtain⟨u,L,N⟩:=rv.get t;obtain⟨y,A,O,B,C,D⟩:=j it (by simp);refine wpAny_pyNext_list_item st p.isList (x:=u) (by simpa using L) λh' st' Q=>?_;have T:Inv X f σ H {s with heap:=h' }:=I.turned (t':=s.toks) (λb o g e=>(Q.2 b g).trans e) y A B C D;obtain⟨o,e,c,d⟩:=id st';exact⟨u,rfl,tF (s:={s with heap:=h' }) e c d (by decide) ⟨x,H,T,N,⟨rfl,λys Y=>by rw[I.kB Y l];exact t⟩,st',λb g=>(j b g).1⟩⟩
 done:=by
  intro X m n q G i f s σ H E I j st r;subst m n q;obtain⟨xs,l,t⟩:=r;obtain⟨J,rv,p,hz⟩:=I.list l;obtain⟨y,A,O,B,C,D⟩:=j it (by simp);have hl:=rv.length;exact wpAny_pyNext_list_end (I.ok.hd G) st p.isList (by simp;lia) λh' eb=>⟨rfl,I.turned (t':=s.toks) (λb o g e=>eb b o g e) y A B C D⟩
 self:=λ_ _ _ _ _ st h=>wpAny_pyIter_listiter st h
theorem rj{K:PySem.W.Frag}(a it:eH):Turn P w K tg (R9 K a) [it] it (λi h=>h.IsTupleIter it a i) where
 mem:=by simp
 obj:=λi h st b g=>by
  have e:b=it:=by simpa using g
  subst e;obtain⟨o,e,c,d⟩:=st;exact⟨o,e,λv z=>by rw[d]at z;cases z⟩
 keep:=λi h h' st k=>st.at λo e=>k it (by simp) o e
 item:=by
  intro X m n q J i f s σ H E I j st r;subst m n q;obtain⟨xs,x,l,t⟩:=r;obtain⟨y,rv,p,hz⟩:=I.tuple l;obtain⟨u,L,N⟩:=rv.get t;obtain⟨A,B,O,C,D,G⟩:=j it (by simp);refine wpAny_pyNext_tuple_item st (show s.heap.IsTuple a y.toArray from p) (x:=u) (by simpa using L) λh' st' Q=>?_;have T:Inv X f σ H {s with heap:=h' }:=I.turned (t':=s.toks) (λb o g e=>(Q.2 b g).trans e) A B C D G;obtain⟨o,e,c,d⟩:=id st';exact⟨u,rfl,tF (s:={s with heap:=h' }) e c d (by decide) ⟨x,H,T,N,⟨rfl,λys Y=>by rw[I.mH Y l];exact t⟩,st',λb g=>(j b g).1⟩⟩
 done:=by
  intro X m n q J i f s σ H E I j st r;subst m n q;obtain⟨xs,l,t⟩:=r;obtain⟨y,rv,p,hz⟩:=I.tuple l;obtain⟨A,B,O,C,D,G⟩:=j it (by simp);have hl:=rv.length;exact wpAny_pyNext_tuple_end (I.ok.hd J) st (show s.heap.IsTuple a y.toArray from p) (by simp;lia) λh' eb=>⟨rfl,I.turned (t':=s.toks) (λb o g e=>eb b o g e) A B C D G⟩
 self:=λ_ _ _ _ _ st h=>wpAny_pyIter_tupleiter st h
theorem rm{K:PySem.W.Frag}(it:eH)(lo:Int)(n:Nat):Turn P w K L (Q3 lo n) [it] it (λi h=>IsRangeIter h it (lo+(i:Nat) * 1) ((n:Int) - (i:Nat)) 1) where
 mem:=by simp
 obj:=λi h st b c=>by
  have e:b=it:=by simpa using c
  subst e;exact⟨_,st,λv z=>by
   have A:VG _=Õ v:=z;cases A⟩
 keep:=λi h h' st k=>k it (by simp) _ st
 item:=by
  intro X f g j l i a s σ H E I d st m;subst f g j;obtain⟨p,q,B,r,u,x⟩:=d it (by simp);have W:=Walks.range (prog:=X.prog) (w:=X.w) (I.ok.hd l) it lo 1 n;refine W.item i s _ _ m st λv h' y C st' D=>?_;obtain⟨t,rfl⟩:=C;have G:Inv X a σ H {s with heap:=h',toks:=y}:=I.turned (λb o c e=>D b o (by simpa using c) e) p q r u x;refine⟨_,rfl,tF (s:={s with heap:=h',toks:=y}) (n:="range_iterator") st' rfl rfl (by decide) ⟨.int (lo+i),H,G,⟨t,?_⟩,⟨rfl,rfl⟩,st',λb c=>(d b c).1⟩⟩;rw[Int.mul_one]
 done:=by
  intro X f g j l i a s σ H E I d st m;subst f g j;obtain⟨p,q,B,r,u,x⟩:=d it (by simp);exact wpAny_pyNext_range_end (I.ok.hd l) st (by have:n<=i:=m;lia) λh' J=>⟨rfl,I.turned (t':=s.toks) (λb o c e=>J b o c e) p q r u x⟩
 self:=λ_ _ _ _ _ st h=>wpAny_pyIter_rangeiter st h
section
def FW(K:PySem.W.Frag)(c:TE):TI:=λσ H R=>c σ H λx b=>∃a,x=.ref a/\(∃xs,Jn K b a xs)/\R (R8 K a) b
def H0(K:PySem.W.Frag)(c:TE):TI:=λσ H R=>c σ H λx b=>∃a,x=.ref a/\(∃xs,JH K b a xs)/\R (R9 K a) b
theorem AG(hl:PE X l f):PI X r l (FW X.K f):=by
 intro c s σ H R I h;refine IX (hl c s σ H _ I h) λv s1 g=>?_;obtain⟨x,i,d,j,k⟩:=g;obtain⟨a,e,⟨xs,m⟩,q⟩:=k;subst e;cases j;obtain⟨t,rv,p,hz⟩:=d.list m;refine Wc p.isList ?_;refine⟨s1.heap.objs.size,[s1.heap.objs.size],_,_,i,rfl,d.kept (t':=s1.toks) λb o e=>c4 _ e,vj a _,⟨_,gj _ rfl,rfl,rfl⟩,λb n=>?_,q⟩;have e:b=s1.heap.objs.size:=by simpa using n
 subst e;exact d.xq (hV _) (d.IQ.fresh (hV _))
theorem DB(hl:PE X l f):PI X t l (H0 X.K f):=by
 intro c s σ H R I h;refine IX (hl c s σ H _ I h) λv s1 g=>?_;obtain⟨x,i,d,j,k⟩:=g;obtain⟨a,e,⟨xs,m⟩,q⟩:=k;subst e;cases j;obtain⟨n,rv,p,hz⟩:=d.tuple m;refine PM (show s1.heap.IsTuple a n.toArray from p) ?_;refine⟨s1.heap.objs.size,[s1.heap.objs.size],_,_,i,rfl,d.kept (t':=s1.toks) λb o e=>c4 _ e,rj a _,⟨_,gj _ rfl,rfl,rfl⟩,λb r=>?_,q⟩;have e:b=s1.heap.objs.size:=by simpa using r
 subst e;exact d.xq (hV _) (d.IQ.fresh (hV _))
theorem xr{lo a:Int}(I:Inv X c σ H s)(g:-(2 ^ 62)<=lo)(h:lo<2 ^ 62)(i:-(2 ^ 62)<=a)(j:a<2 ^ 62)
  (q:R (Q3 lo (a - lo).toNat) H):d6 (ez X.prog X.w) X.A (Y1 (.ref s.heap.objs.size)) (UY X c σ n R) E {s with heap:=s.heap.push {cls:=.type "range",data:=.fields #[.int lo t,.int a u,.int 1 v]},toks:=f}:=by
 refine wpAny_pyIter_range (IsRange.new ..) (small_one g h i j) ?_;have d:Inv X c σ H {s with heap:=s.heap.push {cls:=.type "range",data:=.fields #[.int lo t,.int a u,.int 1 v]},toks:=f}:=I.kept λb o e=>c4 _ e;refine⟨(s.heap.push {cls:=.type "range",data:=.fields #[.int lo t,.int a u,.int 1 v]}).objs.size,[(s.heap.push {cls:=.type "range",data:=.fields #[.int lo t,.int a u,.int 1 v]}).objs.size],_,_,H,rfl,
  d.kept (t':=f) λb o e=>c4 _ e,rm _ lo (a - lo).toNat,?_,λb k=>?_,q⟩
 ·have l:lo+((0:Nat):Int) * 1=lo:=by simp
  have m:(((a - lo).toNat:Nat):Int) - ((0:Nat):Int)=Ģ lo a 1:=by rw[rangeSize_one];split<;>lia
  show IsRangeIter _ _ (lo+((0:Nat):Int) * 1) ((((a - lo).toNat:Nat):Int) - ((0:Nat):Int)) 1;rw[l,m];exact gj _ rfl
 ·have e:b=(s.heap.push {cls:=.type "range",data:=.fields #[.int lo t,.int a u,.int 1 v]}).objs.size:=by simpa using k
  subst e;exact d.xq (hV _) (d.IQ.fresh (hV _))
def FX(a:TA):TI:=λσ H R=>a σ H λvs b=>∃j:Int,vs=[.int j]/\-(2 ^ 62)<=j/\j<2 ^ 62/\R (Q3 0 j.toNat) b
theorem vk(d:Gl X "range")(f:X.mg "range"=bD)(g:PA X [a] i)(hs:hW [a] X.env=[(cc,ve a X.env)]:=by rfl):PI X o (.Call (.Name "range" p) [a] [] pos) (FX i):=by
 intro b s σ H R I h;refine Call_ (cH I d f boot_range (J1 (IX (g pos b s σ H _ I h) λus s1 ⟨vs,u,k,l,c⟩=>?_) hs rfl));obtain⟨j,e,c,m,q⟩:=c;subst e;cases l with
 |cons r n =>
  cases n;obtain⟨t,rfl⟩:=r;exact call_range_1 (xr k ⋯ ⋯ c m (by simpa using q))
def H9(c:TI)(g:TG)(d:TS):TS:=λD σ H=>c σ H λJ e=>∃W:Nat->Nat->St->Hp->Prop,(∃m,W 0 m σ e)/\∀i m σ H,W i m σ H ->
 (J.stop i H/\D.nx σ H)\/(J.go i H/\∃N:St->Hp->Prop,(∀a H',N a H'->∃b,b<m/\W (i+1) b a H')/\∀x H',J.Q0 i H x H'->g x σ H' λf h=>d {D with nx:=N,ct:=N,bk:=D.nx} f h)
noncomputable def kD(a:List eH)(h:Jy):List (eH×Obj):=a.filterMap λb=>(h.get? b).map λo=>(b,o)
theorem fh(a:b∈c)(e:h.get? b=a5 o):(b,o)∈kD c h:=K2.mpr ⟨b,a,by rw[e];rfl⟩
theorem vm(a:p∈kD c h):p.1∈c/\h.get? p.1=a5 p.2:=by
 obtain⟨b,d,e⟩:=K2.mp a;cases q:h.get? b with
 |none=>rw[q]at e;cases e
 |some o =>
  rw[q]at e;have f:(b,o)=p:=wk e;subst f;exact⟨d,q⟩
theorem Inv.pinned(I:Inv X a σ H s)(h:∀b∈c,iu X a H b)(ho:∀b∈c,∃o,s.heap.get? b=a5 o/\∀v,o.data≠.cell v):Inv X (a++kD c s.heap) σ H s :=
 I.eh λp i=>(i6.mp i).elim (λz=>I.pin p (mA _ z)) λz=>by
  obtain⟨f,e⟩:=vm z;obtain⟨j,k,l,_⟩:=h p.1 f;obtain⟨o,g,d⟩:=ho p.1 f;rw[e]at g;cases g;exact⟨e,j,k,l,d⟩
theorem Inv.kF(I:Inv X (a++c) σ H s):Inv X a σ H s:=I.eh λp b=>I.pin p (mA _ (Qs _ b))
theorem DC(t:Xp (ez X.prog X.w) X.A X.env X.xe)(hc:X.calm=b8)(hi:PI X tg p wi)(hg:PG X tg g)(c:J2 X body tb)
  (hs:∀x,Mb p X.env x=pure x:=by intro _;rfl):PS X (.For tg p body [] pos) (H9 wi g tb):=by
 intro a s σ H D I h;refine wpAny_For (IX (hi a s σ H _ I h) λv s1 h1=>IX h1 λQ1 s2 h2=>?_) hs;obtain⟨it,y,tn,J,H2,e,I2,T,st2,f2,W,⟨m0,w0⟩,z⟩:=h2;subst e;have O:∀{H':Hp},(∀b∈y,H' b=bD)->∀b∈y,iu X a H' b:=λhn b c=>⟨hn b c,(f2 b c).2⟩
 refine codeAny_forLoop_any (λn s'=>∃i B H',Inv X a B H' s'/\tn i s'.heap/\(∀b∈y,H' b=bD)/\W i n B H') ?_ m0 ⟨0,σ,H2,I2,st2,λb c=>(f2 b c).1,w0⟩;rintro n s3 ⟨i,C,L,I3,JB,PF,w3⟩;rcases z i n C L w3 with⟨G,qn⟩|⟨go,N,hN,Þ⟩
 ·refine N5 t (IX (T.done X rfl rfl rfl hc i a s3 C L X.xe I3 (O PF) JB G) λr s4 Sb=>?_);obtain⟨Q,I4⟩:=Sb;subst Q;exact N6 ⟨C,L,I4,qn⟩
 ·refine N5 t (IX (T.item X rfl rfl rfl hc i a s3 C L X.xe I3 (O PF) JB go) λr s4 Sd=>?_);obtain⟨u,Q,h4⟩:=Sd;subst Q;refine N5 t (IX h4 λ_ s5 Se=>?_);obtain⟨x,H5,I5,r5,y5,Y,Sf⟩:=Se;have Sg:=I5.pinned (O Sf) (T.obj _ _ Y);refine N5 t (IX (hg _ s5 C H5 x u _ Sg r5 (Þ x H5 y5)) λ_ s6 Sh=>?_);obtain⟨σ6,H6,I6,q6⟩:=Sh;refine N5 t (IX (c _ s6 σ6 H6 _ I6 q6) λf s7 q=>?_);have ĸ:∀{j:St} {k:Hp},Inv X (a++kD y s5.heap) j k s7->N j k->∃m,m<n/\∃i B H',Inv X a B H' s7/\tn i s7.heap/\(∀b∈y,H' b=bD)/\W i m B H':=λ{j k} l n7=>by
   obtain⟨m',hm,w7⟩:=hN j k n7;refine⟨m',hm,i+1,j,k,l.kF,T.keep _ _ _ Y λb c o e=>(l.pin (b,o) (mA _ (mA _ (fh c e)))).1,λb c=>?_,w7⟩;obtain⟨o,e,d⟩:=T.obj _ _ Y b c;exact(l.pin (b,o) (mA _ (mA _ (fh c e)))).2.1
  cases f with
  |brk=>obtain⟨j,k,l,q⟩:=q;exact⟨j,k,l.kF,q⟩
  |ret v=>obtain⟨x7,j,k,l,r7,q⟩:=q;exact⟨x7,j,k,l.kF,r7,q⟩
  |_=>obtain⟨j,k,l,n7⟩:=q;exact ĸ l n7
end
abbrev R2:=V->V->Hp->VK->Prop
def Kr(X:Cx)(f:d3->d3->Sem d3)(r:R2):Prop :=
 ∀(a:List (eH×Obj)) (s:d8) (σ:St) (H:Hp) (x y:V) (v u:d3) (Q:VK),Inv X a σ H s->RelV x v->RelV y u->r x y H Q ->
  d6 (ez X.prog X.w) X.A (f v u) (EP X a σ Q) X.xe s
def jE(X:Cx)(f:d3)(r:List V->Hp->VK->Prop):Prop :=
 ∀(a:List (eH×Obj)) (s:d8) (σ:St) (H:Hp) (xs:List V) (us:List d3) (Q:VK),Inv X a σ H s->Vals xs us->r xs H Q ->
  d6 (ez X.prog X.w) X.A (NQ f us) (EP X a σ Q) X.xe s
def H_(X:Cx)(r:V->Hp->(Bool->Hp->Prop)->Prop):Prop :=
 ∀(a:List (eH×Obj)) (s:d8) (σ:St) (H:Hp) (x:V) (v:d3) (Q:Bool->Hp->Prop),Inv X a σ H s->RelV x v->r x H Q ->
  d6 (ez X.prog X.w) X.A (ı v) (TP X a σ Q) X.xe s
noncomputable def rI(C:Int->Int->Prop)(g:Int->Int->V):R2:=λx y H Q=>∃i j,x=.int i/\y=.int j/\C i j/\Q (g i j) H
noncomputable def N1(g:Int->Int->V):R2:=λx y H Q=>∃i j,x=.int i/\y=.int j/\Q (g i j) H
section
theorem Q4{g:Int->Int->Int}
  (Ğ:∀(i j:Int) (t u:Tok) (s:d8) (Q:d3->d8->Prop) (E:d3->d8->Prop),C i j->Q (.int (g i j) s.toks) {s with toks:=s.toks+1}->d6 (ez X.prog X.w) X.A (f (.int i t) (.int j u)) Q E s) :
  Kr X f (rI C λi j=>.int (g i j)):=by
 intro a s σ H x y v u Q I b c h;obtain⟨i,j,rfl,rfl,d,q⟩:=h;obtain⟨t,rfl⟩:=b;obtain⟨t',rfl⟩:=c;exact Ğ i j t t' s _ _ d ⟨.int (g i j),H,I.tok _,⟨_,rfl⟩,q⟩
theorem FY{g:Int->Int->Int}
  (Ğ:∀(i j:Int) (t u:Tok) (s:d8) (Q:d3->d8->Prop) (E:d3->d8->Prop),Q (.int (g i j) s.toks) {s with toks:=s.toks+1}->d6 (ez X.prog X.w) X.A (f (.int i t) (.int j u)) Q E s) :
  Kr X f (N1 λi j=>.int (g i j)):=by
 intro a s σ H x y v u Q I b c h;obtain⟨i,j,rfl,rfl,q⟩:=h;obtain⟨t,rfl⟩:=b;obtain⟨t',rfl⟩:=c;exact Ğ i j t t' s _ _ ⟨.int (g i j),H,I.tok _,⟨_,rfl⟩,q⟩
theorem DE{g:Int->Int->Bool}
  (Ğ:∀(i j:Int) (t u:Tok) (s:d8) (Q:d3->d8->Prop) (E:d3->d8->Prop),Q (.bool (g i j)) s->d6 (ez X.prog X.w) X.A (f (.int i t) (.int j u)) Q E s) :
  Kr X f (N1 λi j=>.bl (g i j)):=by
 intro a s σ H x y v u Q I b c h;obtain⟨i,j,rfl,rfl,q⟩:=h;obtain⟨t,rfl⟩:=b;obtain⟨t',rfl⟩:=c;exact Ğ i j t t' s _ _ ⟨.bl (g i j),H,I,rfl,q⟩
def Ia(i j:Int):Prop:=0<j/\j<1073741824
def Ib(i j:Int):Prop:=0<=j/\j<=1000000/\i.natAbs<2 ^ 64
def DF(i j:Int):Prop:=(-(2 ^ 64)<i/\i<2 ^ 64)\/(-(2 ^ 64)<j/\j<2 ^ 64)
theorem DF.ok(h:DF i j):IntMulOk i j:=by
 rcases h with⟨a,b⟩|⟨a,b⟩
 ·exact .of_left (intBits_le_64 a b)
 ·exact .of_right (intBits_le_64 a b)
theorem cA:Kr X (OO .Add) (N1 λi j=>.int (i+j)):=FY λ_ _ _ _ _ _ _ q=>add_int q
theorem rn:Kr X (OO .Sub) (N1 λi j=>.int (i - j)):=FY λ_ _ _ _ _ _ _ q=>sub_int q
theorem kG:Kr X (OO .Mult) (rI DF λi j=>.int (i * j)):=Q4 λ_ _ _ _ _ _ _ a q=>mul_int q a.ok
theorem AH:Kr X (OO .FloorDiv) (rI Ia λi j=>.int (i / j)):=Q4 λi j _ _ _ _ _ a q=>by
 have b:(0:Int)<j:=a.1;have c:j<1073741824:=a.2;exact floordiv_int ⋯ (by rw[Int.fdiv_eq_ediv_of_nonneg i ⋯];exact q) (.inl (PyProof.noPylong_small ⋯))
theorem eG:Kr X (OO .Mod) (rI (λ_ j=>0<j) λi j=>.int (i % j)):=Q4 λi j _ _ _ _ _ a q=>by
 have b:(0:Int)<j:=a;exact mod_int' ⋯ (by rw[Int.fmod_eq_emod_of_nonneg i ⋯];exact q)
theorem om:Kr X (OO .Pow) (rI Ib λi j=>.int (i ^ j.toNat)):=Q4 λ_ _ _ _ _ _ _ a q=>pow_int_small a.1 a.2.1 a.2.2 q
end
section
theorem oo(I:Inv X a σ H s)(q:Q (.bl k) H)(e:k=k'):EP X a σ Q (.bool k') s:=by
 subst e;exact⟨.bl k,H,I,rfl,q⟩
theorem FZ:Kr X (LW .Lt) (N1 λi j=>.bl (cK (i<j))):=DE λ_ _ _ _ _ _ _ q=>lt_int q
theorem F0:Kr X (LW .Gt) (N1 λi j=>.bl (cK (j<i))):=DE λ_ _ _ _ _ _ _ q=>gt_int q
theorem F5:Kr X (LW .GtE) (N1 λi j=>.bl (cK (j<=i))):=DE λ_ _ _ _ _ _ _ q=>ge_int q
theorem DG:Kr X (LW .Is) (λx y H Q=>y=.IU/\Q (.bl (cK (x=.IU))) H):=by
 intro a s σ H x y v u Q I b c h;obtain⟨rfl,q⟩:=h;cases c;refine is_none_gen (oo I q ?_);cases x<;>first
  |(cases b;rfl)
  |(obtain⟨t,rfl⟩:=b;rfl)
theorem AI:Kr X (LW .IsNot) (λx y H Q=>y=.IU/\Q (.bl (!cK (x=.IU))) H):=by
 intro a s σ H x y v u Q I b c h;obtain⟨rfl,q⟩:=h;cases c;refine isnot_none_gen (oo I q ?_);cases x<;>first
  |(cases b;rfl)
  |(obtain⟨t,rfl⟩:=b;rfl)
def F6(K:PySem.W.Frag)(x:V)(H:Hp)(k:Bool):Prop :=
 match x with
 |.IU=>k=cc
 |.bl b=>k=b
 |.int i=>k=(i != 0)
 |.str y=>y.length<=cL/\k=((y.length:Int) != 0)
 |.QU y=>y.size<=cL/\k=((y.size:Int) != 0)
 |.ref p=>(∃xs,Jn K H p xs/\k=!xs.isEmpty)\/(∃xs,JH K H p xs/\k=!xs.isEmpty)\/∃kvs,H p=a5 (.dK kvs)/\k=!kvs.isEmpty
 |_=>False
theorem rp(r:KV kvs vs):(!vs.isEmpty)=!kvs.isEmpty:=by
 cases r<;>rfl
theorem kH(r:Vals xs a):(!a.toArray.isEmpty)=!xs.isEmpty:=by
 cases r<;>simp
theorem fN:(cL:Nat)<2 ^ 63:=by rw[ß];decide
theorem DH:H_ X (λx H Q=>∃k,F6 X.K x H k/\Q k H):=by
 intro j s σ H x v Q I d h;obtain⟨k,e,q⟩:=h;have hl:=fN;have hs:cL=16777216:=ß;cases x with
 |IU =>
  cases d;have a:k=cc:=e;subst a;exact truthy_none ⟨H,I,q⟩
 |bl b =>
  cases d;have a:k=b:=e;subst a;exact L7 ⟨H,I,q⟩
 |int i =>
  obtain⟨t,rfl⟩:=d;have a:k=(i != 0):=e;subst a;exact PySem.P.truthy_int ⟨H,I,q⟩
 |str y =>
  obtain⟨t,rfl⟩:=d;obtain⟨l,a⟩:y.length<=cL/\k=((y.length:Int) != 0):=e;subst a;exact PySem.P.truthy_str ⋯ ⟨H,I.tok _,q⟩
 |QU y =>
  obtain⟨t,rfl⟩:=d;obtain⟨l,a⟩:y.size<=cL/\k=((y.size:Int) != 0):=e;subst a;exact PySem.W.truthy_bytes ⋯ ⟨H,I.tok _,q⟩
 |ref p =>
  cases d;have a:(∃xs,Jn X.K H p xs/\k=!xs.isEmpty)\/(∃xs,JH X.K H p xs/\k=!xs.isEmpty)\/∃kvs,H p=a5 (.dK kvs)/\k=!kvs.isEmpty:=e;rcases a with⟨xs,f,a⟩|⟨xs,f,a⟩|⟨kvs,f,a⟩
  ·subst a;obtain⟨n,r,g,hz⟩:=I.list f;have c:=r.length;exact wpAny_truthy_list g.isList (by simp only[hH];lia) ⟨H,I.tok _,by rw[kH r];exact q⟩
  ·subst a;obtain⟨n,r,g,hz⟩:=I.tuple f;have c:=r.length;exact truthy_tuple g (by simp only[hH];lia) ⟨H,I.tok _,by rw[kH r];exact q⟩
  ·subst a;obtain⟨hz,o,vs,r,m⟩:kvs.length<=cL/\(p==NZ)=cc/\∃vs,KV kvs vs/\s.heap.DictOf (aZ X.prog X.w) p vs:=I.IQ p _ f;have c:kvs.length=vs.length:=Paired.length r;exact wpAny_truthy_dict o m ⋯ ⟨H,I.tok _,by rw[rp r];exact q⟩
 |_=>exact(show False from e).elim
theorem xt(d:PE X a e)(f:∀b,isTrue a X.env b=(do let v <-b;X6 a.pos;MX [v] (ı v))):
  PT X a (λσ H Q=>e σ H λx H'=>∃k,F6 X.K x H' k/\Q k H'):=by
 intro c s σ H Q I h;exact isTrue_plain (IX (d c s σ H _ I h) λv s1 ⟨x,g,i,j,l⟩=>DH c s1 σ g x v Q i j l) (f _)
theorem rq:Kr X (OO .Add) (λx y H Q=>∃i j,x=.str i/\y=.str j/\i.length+j.length<=cL/\Q (.str (i++j)) H):=by
 intro a s σ H x y v u Q I b c h;obtain⟨i,j,rfl,rfl,hz,q⟩:=h;obtain⟨t,rfl⟩:=b;obtain⟨t',rfl⟩:=c;exact add_str (λt' d=>⟨.str (i++j),H,I.tok _,⟨_,rfl⟩,q⟩) hz
theorem vals1(r:Vals [x] us):∃u,us=[u]/\RelV x u:=by
 cases r with
 |cons a b=>cases b;exact⟨_,rfl,a⟩
theorem vals2(r:Vals [x,y] us):∃u a,us=[u,a]/\RelV x u/\RelV y a:=by
 cases r with
 |cons b c =>
  cases c with
  |cons d e=>cases e;exact⟨_,_,rfl,b,d⟩
theorem oq:jE X (.type "str") (λxs H Q=>∃i,xs=[.int i]/\i.natAbs.log2<1920/\Q (.str (Rg i)) H):=by
 intro a s σ H xs us Q I r h;obtain⟨i,rfl,hz,q⟩:=h;obtain⟨u,rfl,t,rfl⟩:=vals1 r;exact PySem.P.str_of_int hz ⟨.str _,H,I.tok _,⟨_,rfl⟩,q⟩
end
section
end
theorem jT.some_of(r:jT (a5 v) o):∃u,o=a5 u/\RelV v u:=by
 cases o with
 |none=>exact(show False from r).elim
 |some u=>exact⟨u,rfl,r⟩
section
end
structure WA(K:PySem.W.Frag)(C:eH):Prop where
 pg:PySem.W.plainGet K C oT=b8
 hd:PySem.W.hasDictIn K C=b8
 po:PySem.W.plainOver K C=b8
 sa:PySem.W.findIn K (.ref C) "__setattr__"=a5 (a5 (.builtin "object.__setattr__"))
section
end
section
end
section
inductive kI(K:PySem.W.Frag)(H:Hp):V->d3->Prop where
 |IU:kI K H .IU (.type "NoneType")
 |bl (x:Bool):kI K H (.bl x) (.type "bool")
 |int (i:Int):kI K H (.int i) (.type "int")
 |str (x:Str):kI K H (.str x) (.type "str")
 |QV (x:UInt64):kI K H (.QV x) (.type "float")
 |lst {a:eH} {xs:List V} (e:H a=a5 (.lst xs)):kI K H (.ref a) (.type "list")
 |KA {a:eH} {o:Obj} {xs:List V} (e:H a=a5 (.KA o (.lst xs))):kI K H (.ref a) (.type "list")
 |tup {a:eH} {xs:List V} (e:H a=a5 (.tup xs)):kI K H (.ref a) (.type "tuple")
 |dK {a:eH} {kvs:List (Key×V)} (e:H a=a5 (.dK kvs)):kI K H (.ref a) (.type "dict")
 |dT {a:eH} {kvs:List (List Key×V)} (e:H a=a5 (.dT kvs)):kI K H (.ref a) (.type "dict")
 |ins {a C dx:eH} {fs:List (Str×V)} (e:H a=a5 (.ins C dx fs)) (cl:WA K C) (ha:PySem.W.findIn K (.ref C) "__class__"=a5 (a5 (.builtin "object.__class__")))
   (hn:PySem.W.specialIn K (.builtin "object.__class__") "__get__"=a5 (a5 (.builtin "getset_descriptor.__get__"))) (WB:PySem.W.takesIn K (.builtin "object.__class__")=a5 b8)
   (hm:PySem.W.mroIn K C (.type "object")=a5 b8):kI K H (.ref a) (.ref C)
end
structure fi(k:Nat)(A:Nm):Prop where
 hd:A.handled=bD
 dp:A.depth+3 * k+5<Ĳ
 un:A.units+16 * k+200<LD
 gd:A.guards=a5 []
theorem fi.deeper(r:fi (k+1) A)(env:Env):fi k (A.deeper env) :=
 ⟨r.hd,by have:=r.dp;show A.depth+1+3 * k+5 < _;lia,by have:=r.un;show A.units+3+16 * k+200 < _;lia,r.gd⟩
theorem fi.depth(r:fi k A):A.depth<Ĳ:=by have:=r.dp;lia
def Ic:TA:=λ_ H Q=>Q [] H
def F7(a:TE)(b:TA):TA:=λσ H Q=>a σ H λx c=>b σ c λxs d=>Q (x::xs) d
section
theorem dH:PA X [] Ic:=λ_ _ _ _ H Q I h=>PB ⟨[],H,I,.nil,h⟩
theorem bS(b:PE X e te)(c:PA X es t)(hs:hW (e::es) X.env=(cc,ve e X.env)::hW es X.env:=by rfl):PA X (e::es) (F7 te t):=by
 intro pos a s σ H Q I h;rw[hs];show d6 _ _ (Ċ ((cc,ve e X.env)::DD pos (hW es X.env))) _ _ s;refine MM (IX (b a s σ H _ I h) λu s1 d=>?_);obtain⟨x,f,g,i,j⟩:=d;exact IX (c pos a s1 σ f _ g j) λus s2 ⟨xs,k,l,m,n⟩=>⟨x::xs,k,l,.cons i m,n⟩
def Ie(t:TA):TE:=λσ H Q=>t σ H λxs a=>xs.length<=cL/\∀p,a p=bD->Q (.ref p) (upd a p (.tup xs))
theorem DI(h:PA X es t):PE X (.Tuple es x1 pos) (Ie t):=by
 intro a s σ H Q I f;refine ï (IX (h pos a s σ H _ I f) λus s1 ⟨xs,c,d,r,z,q⟩=>⟨by rw[<-r.length];exact z,?_⟩);have g:c s1.heap.objs.size=bD:=d.IQ.fresh (hV _);refine⟨.ref s1.heap.objs.size,upd c s1.heap.objs.size (.tup xs),d.laid (t':=s1.toks) (λb u e=>c4 _ e) (hV _) ?_,rfl,q _ g⟩;exact⟨z,us,r,⟨_,gj _ rfl,rfl,_,rfl⟩⟩
end
abbrev Sp:=List V->Hp->VK->XK->Prop
abbrev N2:=List Env->Hp->d8->XK->d3->d8->Prop
structure AJ(P:va)(w:H8)(K:PySem.W.Frag)(mg:Str->Option d3)(base:Jy)(A:Nm)(outer:List Env)(s:d8)(H:Hp):Prop where
 frames:A.frames=a5 outer
 mod:Mod K mg base
 bs:∀b o,base.get? b=a5 o->s.heap.get? b=a5 o/\H b=bD
 MU:base.objs.size<=s.heap.objs.size
 jU:s.heap.FunFrames base outer
 NV:∀b∈JA outer,H b=bD
 IQ:JV P w H s.heap
 bare:S6 s.gens
def CE(outer:List Env)(P:va)(w:H8)(H:Hp)(s:d8)(Q:VK)(u:d3)(s':d8):Prop :=
 ∃v H',s'.os=s.os/\S6 s'.gens/\Un (JA outer) [] H H' s.heap s'.heap/\JV P w H' s'.heap/\RelV v u/\Q v H'
def CR(CX:N2)(outer:List Env)(P:va)(w:H8)(H:Hp)(s:d8)(Q:VK)(E:XK)(r:Result)(s':d8):Prop :=
 match r with
 |.ok (.ret u)=>CE outer P w H s Q u s'
 |.ok _=>False
 |.error e=>CX outer H s E e s'
structure iw(P:va)(w:H8)(K:PySem.W.Frag)(mg:Str->Option d3)(base:Jy)(CX:N2)(k:Nat)(f:eH)(fd:Su)(ps:List Str)(sp:Sp):Prop where
 len:∀vs H Q E,sp vs H Q E->vs.length=ps.length
 run:∀(A:Nm) (outer:List Env) (s:d8) (H:Hp) (args:Args) (us:List d3) (vs:List V) (Q:VK) (E:XK),fi k A->AJ P w K mg base A outer s H->Ç s fd args (ps.zip us)->Vals vs us->sp vs H Q E ->
  Qk (ez P w) A (.call (.ref f) args) (CR CX outer P w H s Q E) s
section
theorem Inv.F8(I:Inv X a σ H s):AJ X.prog X.w X.K X.mg X.base X.A X.stack s H :=
 ⟨I.ok.frames,I.ok.mod,I.bs,wh I.ok.MU I.sz,I.stack,I.iq,I.IQ,I.bare⟩
theorem Inv.after(I:Inv X a σ H s)(h:CE X.stack X.prog X.w H s Q u s'):EP X a σ Q u s':=by
 obtain⟨v,H',os,c,e,f,r,q⟩:=h;obtain⟨i,g,d,t,j⟩:=s';obtain rfl:j=s.os:=os;exact⟨v,H',I.call (h':=i) (g':=g) (d':=d) (t':=t) (ch:=[]) e f c (λb z=>absurd z (by simp)),r,q⟩
end
def Binds(K:PySem.W.Frag)(b:Su)(ps:List Str)(a:List d3):Prop :=
 ∀(s:d8) (us:List d3),K.In s.heap->(us++a).length=ps.length->Ç s b ⟨us,[]⟩ (ps.zip (us++a))
theorem Binds.all{K:PySem.W.Frag}(h:∀us:List d3,us.length=ps.length->ã a ⟨us,[]⟩=pure (ps.zip us)):Binds K a ps []:=λs us _ hl=>by
 rw[tj]at hl ⊢;exact .of_eq (h us hl)
def Passes(CX:N2)(X:Cx)(E:XK):Prop:=∀(a:List (eH×Obj)) (σ:St) (H:Hp) (s:d8) (e:d3) (s':d8),Inv X a σ H s->CX X.stack H s E e s'->X.xe e s'
section
theorem xu(F:iw X.prog X.w X.K X.mg X.base CX k f i ps sp)(j:fi k X.A)(l:Binds X.K i ps b)(m:Vals c b)(n:Passes CX X E)
  (I:Inv X a σ H s) (r:Vals vs us) (h:sp (vs++c) H Q E):d6 (ez X.prog X.w) X.A (NQ (.ref f) us) (EP X a σ Q) X.xe s:=by
 have g:Vals (vs++c) (us++b):=r.append m;have hl:(us++b).length=ps.length:=by rw[<-g.length];exact F.len _ _ _ _ h
 refine ø (Sa (F.run X.A X.stack s H ⟨us,[]⟩ (us++b) (vs++c) Q E j I.F8 (l s us I.LH hl) g h) λr s' d=>?_);cases r with
 |error e=>exact n a σ H s e s' I d
 |ok o =>
  cases o with
  |ret u=>exact I.after d
  |_=>exact MT d
end
section
end
structure eB(N P:List Str)(sc:LS):Prop where
 kind:sc.kind=.function
 co:sc.isCoroutine=cc
 gen:sc.isGenerator=cc
 nd:N.Nodup
 pre:N.take P.length=P
 par:∀x∈P,sc.names.lookup x=a5 .local\/sc.names.lookup x=a5 .cell
 N3:∀y∈sc.names,y.2≠.free
theorem mI{kindOf:Str->Option OT}:∀{a:List (Str×d3)}{m:Str->Option d3},(∀v,(x,v)∉a)->Z0 kindOf a m x=m x
 |[],_,_=>rfl
 |(n,v)::r,m,h=>by
  unfold Z0;rw[mI λw b=>h w (l0 _ b)];split
  ·have:x≠n:=by rintro rfl;exact h v mN
   simp[this]
  ·rfl
theorem mJ{kindOf:Str->Option OT}:∀{a:List (Str×d3)}{m:Str->Option d3},(∀v,(x,v)∉a)->Z1 kindOf a m x=m x
 |[],_,_=>rfl
 |(n,v)::r,m,h=>by
  unfold Z1;rw[mJ λw b=>h w (l0 _ b)];split
  ·rfl
  ·have:x≠n:=by rintro rfl;exact h v mN
   simp[this]
theorem mK{kindOf:Str->Option OT}:∀{P:List Str}{vs:List d3}{i:Nat}{m:Str->Option d3},P.Nodup->P[i]?=a5 x->vs[i]?=a5 v->kindOf x=a5 .local ->
  Z0 kindOf (P.zip vs) m x=a5 v
 |[],_,_,_,_,h,_,_=>by simp at h
 |_::_,[],_,_,_,_,h,_=>by simp at h
 |p::P,w::vs,0,m,c,a,b,hk=>by
  simp at a b;subst a;subst b;show Z0 kindOf ((p,w)::P.zip vs) m p=_;unfold Z0;rw[mI λv d=>(mx.mp c).1 (Qy d).1,ņ hk];simp
 |p::P,w::vs,i+1,m,c,a,b,hk=>by
  show Z0 kindOf ((p,w)::P.zip vs) m x=_;unfold Z0;exact mK (i:=i) (mx.mp c).2 (by simpa using a) (by simpa using b) hk
theorem mL{kindOf:Str->Option OT}:∀{P:List Str}{vs:List d3}{i:Nat}{m:Str->Option d3},P.Nodup->P[i]?=a5 x->vs[i]?=a5 v->kindOf x≠a5 .local ->
  Z1 kindOf (P.zip vs) m x=a5 v
 |[],_,_,_,_,h,_,_=>by simp at h
 |_::_,[],_,_,_,_,h,_=>by simp at h
 |p::P,w::vs,0,m,c,a,b,hk=>by
  simp at a b;subst a;subst b;show Z1 kindOf ((p,w)::P.zip vs) m p=_;unfold Z1;rw[mJ λv d=>(mx.mp c).1 (Qy d).1,Ň hk];simp
 |p::P,w::vs,i+1,m,c,a,b,hk=>by
  show Z1 kindOf ((p,w)::P.zip vs) m x=_;unfold Z1;exact mL (i:=i) (mx.mp c).2 (by simpa using a) (by simpa using b) hk
noncomputable def start(N:List Str)(vs:List V):St:=vs.map a5++i5 (N.length - vs.length) bD
noncomputable def pO(CX:N2)(P:va)(w:H8)(K:PySem.W.Frag)(mg:Str->Option d3)(base:Jy)(N:List Str)(a:Str)(scope:LS)(f:eH)(b:d3)(A:Nm)(outer:List Env)(s:d8)(H:Hp)(E:XK):Cx where
 prog:=P
 w:=w
 K:=K
 mg:=mg
 base:=base
 A:=A.deeper (Uc a scope s.heap.objs.size f b)
 N:=N
 s₀:=s
 H₀:=H
 env:=Uc a scope s.heap.objs.size f b
 outer:=outer
 stack:=Uc a scope s.heap.objs.size f b::outer
 ex:=[]
 calm:=b8
 fn:=λ_=>b8
 pn:=[]
 xe:=λe s'=>d6 (ez P w) (A.deeper (Uc a scope s.heap.objs.size f b)) (leaving (Uc a scope s.heap.objs.size f b) e) (λ_ c=>CX outer H s E e c) (λd c=>CX outer H s E d c) s'
theorem pP{a:LS}(h:a.names.lookup x=a5 .cell):∃c,(ğ n a.names []).lookup x=a5 c:=by
 have q:=PySem.W.cellsFrom_some a.names n [] (.inl h);exact R'.mp q
theorem vn{K:PySem.W.Frag}
  (S:eB N ps scope) (G:A.handled=bD) (j:AJ P w K mg base A outer s H) (hl:vs.length=ps.length) (r:Vals vs us)
  (x:InCallC s s.heap.objs.size (Z0 (Uc g scope s.heap.objs.size f t).kindOf (ps.zip us) λ_=>bD) (ğ (s.heap.objs.size+1) scope.names []) (Z1 (Uc g scope s.heap.objs.size f t).kindOf (ps.zip us) λ_=>bD) s1) :
  Inv (pO CX P w K mg base N g scope f t A outer s H E) [] (start N vs) H s1:=by
 have J:ps.length<=N.length:=by have:=Ŋ J7 S.pre;rw[C0]at this;lia
 obtain⟨m,L,rfl,hk⟩:=x.done;have B:∀b:eH,b∉(pO CX P w K mg base N g scope f t A outer s H E).ex:=λb z=>absurd (show b∈([]:List eH) from z) (by simp);refine⟨⟨j.mod,S.kind,rfl,rfl,hV _,λy z c m d=>?_,λy hy=>?_,λy c _ h=>?_,λ_=>G,Around.frames_deeper j.frames,.inr ⟨rfl,rfl⟩,λb z=>absurd z (B b),j.bs,j.MU,λb _ _=>B b,λb z=>absurd z (B b),j.jU,j.NV⟩,
  rfl,j.bare,Un.kept hk,⟨_,x.toInCall.ns,λi y v m d O=>?_⟩,λy c h=>⟨_,x.cell y c h⟩,j.IQ.fresh (hV _),λy c h=>?_,λp l=>absurd (show p∈([]:List (eH×Obj)) from l) (by simp),j.IQ.kept hk,?_⟩
 ·exact name_of_addr x.apart (PySem.mem_of_lookup m) (PySem.mem_of_lookup d)
 ·have hy:scope.names.lookup y=a5 .cell\/scope.names.lookup y=a5 .free:=hy;rcases hy with hy|hy
  ·exact pP hy
  ·exact absurd rfl (S.N3 _ (PySem.mem_of_lookup hy))
 ·exact P8 (x.above y c (PySem.mem_of_lookup h))
 ·have o:i<vs.length:=by
   unfold start at d;by_cases o:i<vs.length
   ·exact o
   ·rw[rr (by simpa using o)]at d;rw[Ki]at d;split at d<;>cases d
  have I:vs[i]?=a5 v:=by
   unfold start at d;rw[u3 (by simpa using o),ko]at d;cases e:vs[i]? with
   |none=>rw[e]at d;cases d
   |some a=>rw[e]at d;cases d;rfl
  obtain⟨u,C,rv⟩:=r.get I;have l:ps[i]?=a5 y:=by
   rw[<-S.pre,XQ ⋯];exact m
  have D:ps.Nodup:=by rw[<-S.pre];exact S.nd.sublist (Í _ _)
  refine⟨u,rv,?_⟩;rcases S.par y (my l) with k|k
  ·exact .inl ⟨k,mK D l C k⟩
  ·obtain⟨c,e⟩:=pP (n:=s.heap.objs.size+1) k;refine .inr ⟨.inl k,c,e,?_⟩;have q:=x.cell y c e;rw[mL D l C (by show scope.names.lookup y≠_;rw[k];decide)]at q;exact q
 ·exact j.IQ.fresh (P8 (x.above y c (PySem.mem_of_lookup h)))
 ·unfold start;show _=N.length;rw[i0,dt,Qh];lia
theorem CN{K:PySem.W.Frag}{z kV g B d ct G:d3}
 (lk:K.lookup f=a5 ⟨G,od,.func (PySem.W.fnOf name a c body scope z kV g B L d ct),OW⟩) (O:PySem.W.codeIn K d a=b8) (S:eB N ps scope)
    (h:∀vs H Q E,sp vs H Q E->vs.length=ps.length)
    (T:∀(A:Nm) (outer:List Env) (s:d8) (H:Hp) (vs:List V) (Q:VK) (E:XK),fi k (A.deeper (Uc a scope s.heap.objs.size f d))->sp vs H Q E ->
      ∃t,J2 (pO CX P w K mg base N a scope f d A outer s H E) body t/\t {nx:=λ_ H'=>Q .IU H',rt:=Q} (start N vs) H) :
    iw P w K mg base CX (k+1) f (PySem.W.fnOf name a c body scope z kV g B L d ct) ps sp:=by
  refine⟨h,λA outer s H args us vs Q E m i Y r C=>?_⟩;have hl:=h _ _ _ _ C;have D:K.In s.heap:=i.mod.NU.keeps λb o e=>(i.bs b o e).1;have p:s.heap.NoLimit:=i.mod.nolimit.keeps λb o e=>(i.bs b o e).1;have PK:∀y∈ps.zip us,scope.names.lookup y.1=a5 .local\/(scope.names.lookup y.1=a5 .cell/\((ğ (s.heap.objs.size+1) scope.names []).lookup y.1).isSome=b8):=λ⟨n,v⟩ hy=>by
    rcases S.par n (Qy hy).1 with q|q
    · exact .inl q
    · exact .inr ⟨q,PySem.W.cellsFrom_some _ _ _ (.inl q)⟩
  refine codeAny_call_function m.depth (D _ _ lk) rfl S.co S.gen rfl (PySem.W.codeRec_of D O) (Y _ _ _ _ ?_);refine wpAny_newFunctionEnv_cells S.kind PK λenv he s1 x=>?_;subst he;refine⟨p.keeps x.toInCall.keep,codeAny_func ?_⟩;obtain⟨t,ht,hq⟩:=T A outer s H vs Q E (m.deeper _) C;have I:Inv (pO CX P w K mg base N a scope f d A outer s H E) [] (start N vs) H s1:=vn S m.hd i hl r x;refine mh (ht [] s1 (start N vs) H _ I hq) (λfl s' hs=>?_) λe s' hs=>hs;have j:∀{l:St} {H':Hp} {v:V} {u:d3},Inv (pO CX P w K mg base N a scope f d A outer s H E) [] l H' s'->RelV v u->Q v H'->CE outer P w H s Q u s' :=
    λ{l H' v u} J rv q=>⟨v,H',J.os,J.bare,J.base,J.IQ,rv,q⟩
  cases fl with
  | ret u =>
    obtain⟨v,l,H',J,rv,q⟩:=hs;exact j J rv q
  | next =>
    obtain⟨l,H',J,q⟩:=hs;exact j (v:=V.IU) (u:=nC) J rfl q
  | brk =>
    obtain⟨_,_,_,q⟩:=hs;exact MT q
  | cont =>
    obtain⟨_,_,_,q⟩:=hs;exact MT q
section
end
end L2
namespace HT
open PySem PyProof.Rows
section
open PySem.SeqAt
open PySem.AutoSeq1 (wpAny_loadPart')
open PySem.MeetsSeq PySem.MeetsSeq2 PySem.MeetsSeq3
end
section
theorem AK(o:Ń s.heap t vs.toArray)(p:Ń s.heap b ws.toArray)(f:vs≠[])
  (q:ws=[]->Q (.ref t) s) (r:ws≠[]->Q (.ref s.heap.objs.size) {s with heap:=s.heap.push {cls:=.type "tuple",data:=.seq (vs++ws).toArray}})
  (hsz:vs.length+ws.length<=cL):d6 (ez prog w) A (OO .Add (.ref t) (.ref b)) Q E s:=by
 obtain⟨⟨cls,dd,data,g⟩,ho,h,n,i⟩:=id o;obtain⟨⟨u,j,data2,k⟩,c,l,m,a⟩:=id p;simp only at h i l a;subst h i l a;have e:vs.toArray++ws.toArray=(vs++ws).toArray:=by simp
 by_cases d:ws=[]
 ·exact Wq ⟨_,ho,rfl⟩ ⟨_,c,rfl⟩ Xh ZJ PySem.F.slot_tuple_add PySem.F.entry_tuple_add (PySem.F.args_tuple_add_2 _ _)
   (tuple_addW1 t b vs.toArray ws.toArray n m dd j g k (by simpa using f) (by simp[d])) ⟨ho,c,q d⟩
 ·refine Wq ⟨_,ho,rfl⟩ ⟨_,c,rfl⟩ Xh ZJ PySem.F.slot_tuple_add PySem.F.entry_tuple_add (PySem.F.args_tuple_add_2 _ _)
   (tuple_addW2 t b vs.toArray ws.toArray n m dd j g k (by simpa using f) (by simpa using d) (by rw[hH,hH];exact hsz)) ⟨ho,c,?_⟩
  rw[e];exact r d
noncomputable def KW(n d:Nat):Option Int->Nat
 |none=>d
 |some v=>if v<0 then(v+(n:Int)).toNat else min v.toNat n
end
end HT
namespace L2
open PySem PySem.Spec PyProof.Rows
abbrev TO:=St->Hp->(Option Int->Hp->Prop)->Prop
def PO(X:Cx)(e:Option mf)(t:TO):Prop :=
 ∀(a:List (eH×Obj)) (s:d8) (σ:St) (H:Hp) (Q:Option Int->Hp->Prop),Inv X a σ H s->t σ H Q ->
  d6 (ez X.prog X.w) X.A (evalPart e X.env) (λu s'=>∃o H',Inv X a σ H' s'/\IsPart u o/\Q o H') X.xe s
def AL:TO:=λ_ H Q=>Q bD H
def F9(t:TE):TO:=λσ H Q=>t σ H λx a=>∃i,x=.int i/\Q (a5 i) a
section
variable{X:Cx}{e:mf}{te:TE}{lo hi:Option mf}{tl th:TO}{pos p2:Pos}
theorem AM:PO X bD AL:=by
 intro a s σ H Q I h;rw[evalPart_none];exact df ⟨bD,H,I,.none,h⟩
theorem AN(h:PE X e te):PO X (a5 e) (F9 te):=by
 intro a s σ H Q I b;rw[evalPart_some];refine IX (h a s σ H _ I b) λu s1 c=>?_;obtain⟨x,d,f,g,j⟩:=c;obtain⟨i,rfl,q⟩:=j;obtain⟨t,rfl⟩:=g;exact⟨a5 i,d,f,.int i t,q⟩
def Nq(X:Cx)(r:V->Option Int->Option Int->Hp->VK->Prop):Prop :=
 ∀(a:List (eH×Obj)) (s:d8) (σ:St) (H:Hp) (x:V) (v b c:d3) (lo hi:Option Int) (d:eH) (Q:VK),Inv X a σ H s->RelV x v->s.heap.IsSliceOf d b c .none->IsPart b lo->IsPart c hi->r x lo hi H Q ->
  ∃T id,QO (.type T) "__getitem__"=pure (a5 (.builtin id))/\s.TypeIs v T/\d6 (ez X.prog X.w) X.A (Wm v (.ref d)) (EP X a σ Q) X.xe s
theorem Nq.or(h:Nq X r)(h':Nq X j):Nq X (λx lo hi H Q=>r x lo hi H Q\/j x lo hi H Q):=by
 intro a s σ H x v b c lo hi d Q I f hs g i q;rcases q with q|q
 ·exact h a s σ H x v b c lo hi d Q I f hs g i q
 ·exact h' a s σ H x v b c lo hi d Q I f hs g i q
def WC(r:V->Option Int->Option Int->Hp->VK->Prop)(te:TE)(tl th:TO):TE:=λσ H Q=>te σ H λx a=>tl σ a λl b=>th σ b λu c=>r x l u c Q
theorem xv(g:Nq X r)(i:PE X e te)(hl:PO X lo tl)(j:PO X hi th):PE X (.Subscript e (.Slice lo hi bD p2) pos) (WC r te tl th):=by
 intro a s σ H Q I h;refine ā (IX (i a s σ H _ I h) λv s1 k=>?_);obtain⟨x,m,n,o,p⟩:=k;refine wpAny_Slice (IX (hl a s1 σ m _ n p) λc s2 ⟨l,t,y,z,B⟩=>IX (j a s2 σ t _ y B) λd s3 C=>?_);obtain⟨u,f,D,G,J⟩:=C;rw[evalPart_none];refine df ?_;have L:Inv X a σ f {s3 with heap:=s3.heap.push {cls:=.type "slice",data:=.fields #[c,d,.none]}}:=D.kept (t':=s3.toks) λb ob q=>c4 _ q;obtain⟨T,id,N,O,Y⟩:=g a {s3 with heap:=s3.heap.push {cls:=.type "slice",data:=.fields #[c,d,.none]}} σ f x v c d l u s3.heap.objs.size Q L o (ē ..) z G J;show d6 (ez X.prog X.w) X.A (Vt e (.Slice lo hi bD p2) v (.ref s3.heap.objs.size)) (EP X a σ Q) X.xe {s3 with heap:=s3.heap.push {cls:=.type "slice",data:=.fields #[c,d,.none]}};exact tail_any (ops:=[.ref s3.heap.objs.size,v]) O N Y (by with_unfolding_all rfl)
noncomputable def vp(xs:List V)(lo hi:Option Int):List V:=(xs.drop (HT.KW xs.length 0 lo)).take (HT.KW xs.length xs.length hi - HT.KW xs.length 0 lo)
theorem pQ(xs:List V)(lo hi:Option Int):(vp xs lo hi).length<=xs.length:=by
 unfold vp;rw[C0,Ù];lia
noncomputable def F_(K:PySem.W.Frag):R2:=λx y H Q=>∃a b xs c,x=.ref a/\y=.ref b/\JH K H a xs/\JH K H b c/\xs≠[]/\xs.length+c.length<=cL /\
 (c=[]->Q (.ref a) H)/\(c≠[]->∀p,H p=bD->Q (.ref p) (upd H p (.tup (xs++c))))
theorem Vals.ot(r:Vals xs us):us=[]↔xs=[]:=by
 cases r with
 |_=>simp
theorem AO:Kr X (OO .Add) (F_ X.K):=by
 intro f s σ H x y v u Q I g i h;obtain⟨a,b,xs,j,rfl,rfl,k,l,m,hz,n,p⟩:=h;cases g;cases i;obtain⟨t,d,r,_⟩:=I.tuple k;obtain⟨A,c,p2,_⟩:=I.tuple l;refine HT.AK r p2 (λz=>m (d.ot.mp z)) (λz=>⟨.ref a,H,I,rfl,n (c.ot.mp z)⟩) (λz=>?_) (by rw[<-d.length,<-c.length];exact hz);refine⟨.ref s.heap.objs.size,_,I.laid (t':=s.toks) (o:=.tup (xs++j)) (λb B q=>c4 _ q) (hV _) ?_,rfl,p (λw=>z (c.ot.mpr w)) _ (I.IQ.fresh (hV _))⟩;exact⟨by rw[i0];exact hz,_,d.append c,Ê _ _⟩
end
noncomputable def Mj(n:Nat)(i:Int):Option Nat:=if 0<=i then(if i<n then a5 i.toNat else bD) else if -(n:Int)<=i then a5 (i+n).toNat else bD
noncomputable def JP{α:Type}(xs:List α)(i:Int):Option α:=(Mj xs.length i).bind λj=>xs[j]?
theorem tH{n:Nat}(h:Mj n i=a5 j):W9 i n=a5 j/\j<n/\-(n:Int)<=i/\i<n:=by
 unfold Mj at h;by_cases b:0<=i
 ·rw[ņ b]at h;by_cases a:i<n
  ·rw[ņ a]at h;have e:i.toNat=j:=wk h;exact⟨by rw[à b a,e],⋯,⋯,a⟩
  ·rw[Ň a]at h;cases h
 ·rw[Ň b]at h;by_cases a:-(n:Int)<=i
  ·rw[ņ a]at h;have e:(i+n).toNat=j:=wk h;exact⟨by rw[seqIndex_neg ⋯ a,e],⋯,a,⋯⟩
  ·rw[Ň a]at h;cases h
theorem ou(h:JP xs i=a5 v):∃j,W9 i xs.length=a5 j/\xs[j]?=a5 v/\j<xs.length/\-(xs.length:Int)<=i/\i<xs.length:=by
 unfold JP at h;cases e:Mj xs.length i with
 |none=>rw[e]at h;cases h
 |some j =>
  rw[e]at h;obtain⟨a,b,c,d⟩:=tH e;exact⟨j,a,h,b,c,d⟩
theorem eC{j:Nat}(h:xs[j]?=a5 v):JP xs (j:Int)=a5 v:=by
 have a:j<xs.length:=(dV.mp h).1;have e:Mj xs.length (j:Int)=a5 j:=by
  unfold Mj;rw[ņ ⋯,ņ ⋯];simp
 unfold JP;rw[e];exact h
def ox(b:mf):Prop:=∀o i,XI b cc o i=operate [o,i] (Wm o i)
def So(X:Cx)(r:R2):Prop :=
 ∀(c a:mf) (b:List (eH×Obj)) (s:d8) (σ:St) (H:Hp) (x y:V) (v u:d3) (Q:VK),Inv X b σ H s->RelV x v->RelV y u->r x y H Q ->
  XI a cc v u=operate [v,u] (Wm v u)->d6 (ez X.prog X.w) X.A (Vt c a v u) (EP X b σ Q) X.xe s
def Sr(X:Cx)(id:String)(r:V->List V->Hp->VK->Prop):Prop :=
 ∀(a:List (eH×Obj)) (s:d8) (σ:St) (H:Hp) (x:V) (xs:List V) (v:d3) (us:List d3) (Q:VK),Inv X a σ H s->RelV x v->Vals xs us->r x xs H Q ->
  d6 (ez X.prog X.w) X.A (NQ (.builtin id) (v::us)) (EP X a σ Q) X.xe s
section
noncomputable def Ig(K:PySem.W.Frag):R2:=λx y H Q=>∃p xs i v,x=.ref p/\y=.int i/\Jn K H p xs/\JP xs i=a5 v/\Q v H
noncomputable def Ih(K:PySem.W.Frag):R2:=λx y H Q=>∃p xs i v,x=.ref p/\y=.int i/\JH K H p xs/\JP xs i=a5 v/\Q v H
noncomputable def Ii:R2:=λx y H Q=>∃z i c,x=.str z/\y=.int i/\z.length<=cL/\JP z.cps.toList i=a5 c/\Q (.str ⟨#[c]⟩) H
theorem AQ:So X (Ig X.K):=by
 intro d f a s σ H x y v u Q I n A h hs;obtain⟨p,xs,i,z,rfl,rfl,B,C,q⟩:=h;cases n;obtain⟨t,rfl⟩:=A;obtain⟨D,r,g,hz⟩:=I.list B;obtain⟨j,c,G,O,J,L⟩:=ou C;obtain⟨w,l,N⟩:=r.get G;have hl:=r.length;have Y:=fN;have b:EP X a σ Q w s:=⟨z,H,I,N,q⟩
 by_cases m:0<=i
 ·have k:i.toNat=j:=by
   rw[à m L]at c;exact wk c
  exact item_listR g.isList m ⋯ (by rw[k];simpa using l) b hs
 ·have k:(i+(D.toArray.size:Int)).toNat=j:=by
   rw[seqIndex_neg ⋯ J]at c;rw[hH,<-hl];exact wk c
  exact È (x:=w) g.isList.typeIs ċ.lookup
   (wpAny_getItem_list_neg (Q:=λr s'=>r=w/\EP X a σ Q r s') g.isList ⋯ (by rw[hH]<;>lia) ⋯ (by rw[k];simpa using l) ⟨rfl,b⟩) hs
theorem dI:So X (Ih X.K):=by
 intro b c a s σ H x y v u Q I g k h hs;obtain⟨p,xs,i,z,rfl,rfl,l,m,q⟩:=h;cases g;obtain⟨t,rfl⟩:=k;obtain⟨D,r,f,hz⟩:=I.tuple l;obtain⟨j,n,A,G,J,L⟩:=ou m;obtain⟨w,B,C⟩:=r.get A;have hl:=r.length;have N:=fN;have d:EP X a σ Q w s:=⟨z,H,I,C,q⟩
 exact È (x:=w) f.typeIs slot_tuple_getitem.lookup
  (getItem_tuple (j:=j) (Q:=λr s'=>r=w/\EP X a σ Q r s') f ⋯ ⋯ (by rw[hH,<-hl];exact n) (by simpa using B) ⟨rfl,d⟩) hs
theorem oy:So X Ii:=by
 intro a b d s σ H x y v u Q I g k h hs;obtain⟨z,i,c,rfl,rfl,hz,l,q⟩:=h;obtain⟨t,rfl⟩:=g;obtain⟨t',rfl⟩:=k;obtain⟨j,f,m,B,n,p⟩:=ou l;have hl:z.cps.toList.length=z.length:=by simp[ļ]
 rw[hl]at f n p;have C:=fN;exact tail_any (YR s z t) ģ.lookup (getItem_str (c:=c) (by
  have w:cK (i < -(2 ^ 63:Int))=cc:=ň ⋯;have A:cK (i >= 2 ^ 63)=cc:=ň ⋯;rw[w,A,XZ]) (by rw[f];simpa using m) ⟨.str ⟨#[c]⟩,H,I.tok _,⟨_,rfl⟩,q⟩) hs
theorem rA(a:List d3)(n j:Nat)(u:d3):rz (·.setIfInBounds j u) {cls:=.type "list",data:=.seq a.toArray n}={cls:=.type "list",data:=.seq (a.set j u).toArray n}:=by
 simp[rz]
theorem Inv.lst(I:Inv X b σ H s)(h:H p=a5 (.lst xs)):
  ∃(a:List d3) (n:Nat),Vals xs a/\s.heap.get? p=a5 {cls:=.type "list",data:=.seq a.toArray n}/\xs.length<=cL:=by
 obtain⟨z,a,n,r,e⟩:=I.IQ p _ h;exact⟨a,n,r,e,z⟩
theorem Inv.DJ{c its':List d3}(I:Inv X a σ H s)(h:H p=a5 (.lst xs))
  (ho:s.heap.get? p=a5 {cls:=.type "list",data:=.seq c.toArray n}) (d:f {cls:=.type "list",data:=.seq c.toArray n}={cls:=.type "list",data:=.seq its'.toArray g }) (r:Vals i its') (hz:i.length<=cL) (t:Nat) :
  Inv X a σ (upd H p (.lst i)) {s with heap:=s.heap.update p f,toks:=t}:=by
 have e:(s.heap.update p f).get? p=a5 {cls:=.type "list",data:=.seq its'.toArray g }:=by
  rw[t7 f ho (by rw[d]<;>rfl),d]
 refine I.write (x:=p) (e:=p) (by rw[h];trivial) (.inl rfl) (λb u j q=>(M1 _ _ (r6 j)).trans q) ⟨_,e⟩ ?_;exact⟨hz,its',g,r,e⟩
def Ga:V->V->V->Hp->(Hp->Prop)->Prop:=λo i v H Q=>∃p xs k j,o=.ref p/\i=.int k/\H p=a5 (.lst xs)/\Mj xs.length k=a5 j/\Q (upd H p (.lst (xs.set j v)))
theorem set_list:oi X Ga:=by
 intro a s σ H o i v z A u Q I w x rv h;obtain⟨p,xs,k,j,rfl,rfl,c,y,q⟩:=h;cases w;obtain⟨t,rfl⟩:=x;obtain⟨d,n,r,ho,hz⟩:=I.lst c;obtain⟨b,B,f,g⟩:=tH y;have hl:=r.length;have C:=fN;have l:Inv X a σ (upd H p (.lst (xs.set j v))) {s with heap:=s.heap.update p (rz (·.setIfInBounds j u))} :=
  I.DJ c ho (rA d n j u) (r.set rv j) (by rw[í];exact hz) s.toks
 by_cases m:0<=k
 ·have hk:k.toNat=j:=by
   rw[à m g]at b;exact wk b
  exact PySem.W.ki_setAt ho m ⋯ (by rw[hH,<-hl];exact g) (by rw[hk];exact⟨_,l,q⟩)
 ·have hk:(k+(d.toArray.size:Int)).toNat=j:=by
   rw[seqIndex_neg ⋯ f]at b;rw[hH,<-hl];exact wk b
  exact PySem.W.ki_setBack ho ⋯ (by rw[hH,<-hl];exact f) ⋯ (by rw[hk];exact⟨_,l,q⟩)
theorem oz(lo a:Option Int)(n:Nat):(Rh lo a bD n).1=((HT.KW n 0 lo:Nat):Int)/\(Rh lo a bD n).2.1=((HT.KW n n a:Nat):Int)/\(Rh lo a bD n).2.2=1:=by
 refine⟨?_,?_,rfl⟩
 ·cases lo with
  |none=>simp[Rh,HT.KW]
  |some i =>
   simp only[Rh,HT.KW,Vg,show(1:Int)>0 by decide,if_true];by_cases h:i<0
   ·simp only[h,if_true]<;>lia
   ·simp only[h,if_false]<;>lia
 ·cases a with
  |none=>simp[Rh,HT.KW]
  |some i =>
   simp only[Rh,HT.KW,Vg,show(1:Int)>0 by decide,if_true];by_cases h:i<0
   ·simp only[h,if_true]<;>lia
   ·simp only[h,if_false]<;>lia
theorem mj(a:List d3)(lo b:Option Int):slicePick a.toArray lo b bD=((a.drop (HT.KW a.length 0 lo)).take (HT.KW a.length a.length b - HT.KW a.length 0 lo)).toArray:=by
 obtain⟨c,d,f⟩:=oz lo b a.toArray.size;unfold slicePick;rw[c,d,f];simp only[sliceRange_one,pick_run,hH]<;>rfl
def Gb(K:PySem.W.Frag):V->Option Int->Option Int->Hp->VK->Prop:=λx lo b H Q=>∃a xs,x=.ref a/\Jn K H a xs/\∀p,H p=bD->Q (.ref p) (upd H p (.lst (vp xs lo b)))
theorem AR:Nq X (Gb X.K):=by
 intro f s σ H x v m n lo d p Q I i hs j k h;obtain⟨a,xs,rfl,l,q⟩:=h;cases i;obtain⟨u,r,g,hz⟩:=I.list l;have c:=r.length;refine⟨"list",_,ċ.lookup,g.isList.typeIs,?_⟩;refine wpAny_getItem_list_slice g.isList hs j k .none (by simp) ?_ (by rw[hH]<;>lia);rw[mj,<-c];refine⟨.ref s.heap.objs.size,_,I.laid (t':=s.toks) (o:=.lst (vp xs lo d)) (λb w q=>c4 _ q) (hV _) ?_,rfl,q _ (I.IQ.fresh (hV _))⟩;exact⟨wh (pQ xs lo d) hz,_,0,(r.drop (HT.KW xs.length 0 lo)).take (HT.KW xs.length xs.length d - HT.KW xs.length 0 lo),gj _ rfl⟩
theorem iy:jE X (.builtin "len") (λxs H Q=>∃p b,xs=[.ref p]/\(Jn X.K H p b\/JH X.K H p b)/\Q (.int b.length) H):=by
 intro f s σ H xs us Q I r h;obtain⟨p,b,rfl,hq,q⟩:=h;obtain⟨u,rfl,g⟩:=vals1 r;cases g;have j:=fN;rcases hq with hq|hq
 ·obtain⟨i,c,d,hz⟩:=I.list hq;have a:=c.length;exact Calls.call_len_list d.isList (by simp only[hH]<;>lia) ⟨.int b.length,H,I.tok _,⟨s.toks+1,by rw[hH,a]⟩,q⟩
 ·obtain⟨i,c,d,hz⟩:=I.tuple hq;have a:=c.length;exact len_tuple d (by simp only[hH]<;>lia) ⟨.int b.length,H,I.tok _,⟨s.toks+1,by rw[hH,a]⟩,q⟩
theorem oA:jE X (.builtin "len") (λxs H Q=>∃z,xs=[.str z]/\z.length<=cL/\Q (.int z.length) H):=by
 intro a s σ H xs us Q I r h;obtain⟨z,rfl,hz,q⟩:=h;obtain⟨u,rfl,t,rfl⟩:=vals1 r;have b:=fN;exact len_str ⋯ ⟨.int z.length,H,I.tok _,⟨_,rfl⟩,q⟩
theorem gI:jE X (.type "tuple") (λxs H Q=>∃p c,xs=[.ref p]/\((Jn X.K H p c/\∀l,H l=bD->Q (.ref l) (upd H l (.tup c)))\/(JH X.K H p c/\Q (.ref p) H))):=by
 intro a s σ H xs us Q I r h;obtain⟨p,c,rfl,h⟩:=h;obtain⟨u,rfl,m⟩:=vals1 r;cases m;rcases h with⟨d,q⟩|⟨d,q⟩
 ·obtain⟨f,g,i,hz⟩:=I.list d;have j:=g.length;refine call_tuple_list i.isList (λh' n=>?_) (by simp only[hH]<;>lia);have k:Inv X a σ H {s with heap:=h' }:=I.kept (t':=s.toks) n;have v:Inv X a σ (upd H h'.objs.size (.tup c)) {s with heap:=h'.push {cls:=.type "tuple",data:=.seq f.toArray}} :=
   k.laid (t':=s.toks) (λb o e=>c4 _ e) (hV _) (show bU X.prog X.w _ _ _ (.tup c) from⟨hz,f,g,Ê _ _⟩)
  exact⟨.ref h'.objs.size,_,v,rfl,q _ (k.IQ.fresh (hV _))⟩
 ·obtain⟨f,g,i,hz⟩:=I.tuple d;exact call_tuple_same i ⟨.ref p,H,I,rfl,q⟩
def Q5(K:PySem.W.Frag)(T:String)(x:V)(H:Hp):Prop:=match x with
 |.str _=>T="str"
 |.int _=>T="int"
 |.ref p=>(T="list"/\∃xs,Jn K H p xs)\/(T="tuple"/\∃o,K.lookup p=a5 o/\o.cls=.type "tuple"/\o.dict=bD) \/
   (T="dict"/\((∃kvs,H p=a5 (.dK kvs))\/∃kvs,H p=a5 (.dT kvs)))\/(T="set"/\∃S n,H p=a5 (.set S n))
 |_=>False
theorem oB(I:Inv X f σ H s)(r:RelV x v)(ty:Q5 X.K T x H):
  s.TypeIs v T/\∀a,v=.ref a->∃g,s.heap.get? a=a5 g/\g.dict=bD:=by
 cases x with
 |str z =>
  obtain⟨t,rfl⟩:=r;cases(show T="str" from ty);exact⟨YR s z t,λ_ e=>nomatch e⟩
 |int i =>
  obtain⟨t,rfl⟩:=r;cases(show T="int" from ty);exact⟨typeIs_int s i t,λ_ e=>nomatch e⟩
 |ref p =>
  cases r;rcases ty with⟨rfl,xs,j⟩|⟨rfl,o,hk,k,b⟩|⟨rfl,hk⟩|⟨rfl,S,n,hk⟩
  ·obtain⟨l,_,h,_⟩:=I.list j;refine⟨h.isList.typeIs,λa e=>?_⟩;cases e;obtain⟨o,n,e,c,b,_⟩:=h;exact⟨o,e,b⟩
  ·refine⟨⟨o,I.LH p o hk,k⟩,λa e=>?_⟩;cases e;exact⟨o,I.LH _ o hk,b⟩
  ·have z:∃o,s.heap.get? p=a5 o/\o.ExactDict:=by
    rcases hk with⟨kvs,hk⟩|⟨kvs,hk⟩
    ·obtain⟨_,_,_,_,o,_,_,e,ex,_⟩:=I.IQ p _ hk;exact⟨o,e,ex⟩
    ·obtain⟨_,_,_,_,o,_,_,e,ex,_⟩:=I.IQ p _ hk;exact⟨o,e,ex⟩
   obtain⟨o,e,ex⟩:=z;refine⟨⟨o,e,ex.1⟩,λa d=>?_⟩;cases d;exact⟨o,e,ex.2.1⟩
  ·obtain⟨o,_,_,_,e,ex,_⟩:=I.IQ p _ hk;refine⟨⟨o,e,ex.1⟩,λa d=>?_⟩;cases d;exact⟨o,e,ex.2.1⟩
 |_=>exact MT ty
def Ij(K:PySem.W.Frag)(T:String)(r:V->List V->Hp->VK->Prop)(to:TE):TE:=λσ H Q=>to σ H λx a=>Q5 K T x a/\r x [] a Q
def WD(K:PySem.W.Frag)(T:String)(r:V->List V->Hp->VK->Prop)(to:TE)(t:TA):TE:=λσ H Q=>to σ H λx a=>Q5 K T x a/\t σ a λxs b=>r x xs b Q
variable{o e:mf}{es:List mf}{to:TE}{t:TA}{name:Str}{apos G':Pos}{T id:String}{r:V->List V->Hp->VK->Prop}
theorem DK(d:PlainAttrs T)(slot:Slot T name id)(f:W2 (.builtin id)=pure (.type "method_descriptor"))(g:Sr X id r)(ho:PE X o to)
  (i:Tc o name X.env (ve o X.env)=ve o X.env:=by rfl) (j:(apos.endLine==G'.line)=b8:=by rfl):PE X (.Call (.Attribute o name apos) [] [] G') (Ij X.K T r to):=by
 intro a s σ H Q I h;refine ZY i j (IX (ho a s σ H _ I h) λv s1 k=>?_);obtain⟨x,l,b,c,ty,m⟩:=k;obtain⟨n,p⟩:=oB b c ty;exact⟨T,id,d,slot,f,n,p,Kq rfl (PySem.evalArgs_none (g a s1 σ l x [] v [] Q b c .nil m))⟩
theorem mM(f:PlainAttrs T)(slot:Slot T name id)(g:W2 (.builtin id)=pure (.type "method_descriptor"))(i:Sr X id r)(ho:PE X o to)(j:PA X (e::es) t)
  (k:Tc o name X.env (ve o X.env)=ve o X.env:=by rfl)
  (l:((DD G' (hW (e::es) X.env)).all (λx=>!x.1)&&(Ql G' (L9 [] X.env)).all (λx=>x.1.isSome)
   && cK ((e::es).length+([]:List Oi).length+(if ([]:List Oi).isEmpty then 0 else 1)<30))=b8:=by rfl)
  (m:(apos.endLine==G'.line)=b8:=by rfl) (hs:hW (e::es) X.env=(cc,ve e X.env)::hW es X.env:=by rfl) (n:(DD G' (hW es X.env)).any (·.1)=cc:=by rfl) :
  PE X (.Call (.Attribute o name apos) (e::es) [] G') (WD X.K T r to t):=by
 intro a s σ H Q I h;refine Z7 k l m rfl (IX (ho a s σ H _ I h) λv s1 p=>?_);obtain⟨x,q,b,c,ty,u⟩:=p;obtain⟨w,y⟩:=oB b c ty;refine⟨T,id,f,slot,g,w,y,?_⟩;have d:=j G' a s1 σ q _ b u;rw[hs]at d ⊢;refine Kq (by show(cc||(DD G' (hW es X.env)).any (·.1))=cc;rw[n]<;>rfl) (LF ?_);exact IX d λus s2 ⟨vs,z,A,B,C⟩=>i a s2 σ z x vs v us Q A c B C
end
def OY(X:Cx)(id:String)(r:V->List V->Hp->VK->Prop):Prop :=
 ∀(a:List (eH×Obj)) (s:d8) (σ:St) (H:Hp) (x:V) (xs:List V) (v:d3) (us:List d3) (Q:VK),Inv X a σ H s->RelV x v->Vals xs us->r x xs H Q ->
  d6 (ez X.prog X.w) X.A (NQ (.builtin id) (v::us)) (EP X a σ Q) X.xe s
theorem Vals.one:∀{x:V}{us:List d3},Vals [x] us->∃u,us=[u]/\RelV x u
 |_,_,.cons r .nil=>⟨_,rfl,r⟩
theorem Vals.zero:∀{us:List d3},Vals [] us->us=[]
 |_,.nil=>rfl
theorem Vals.dropLast(h:Vals xs us):Vals xs.dropLast us.dropLast:=by
 induction h with
 |nil=>exact .nil
 |cons r t a =>
  cases t with
  |nil=>exact .nil
  |cons q t'=>exact .cons r a
theorem Vals.eraseIdx:∀{xs:List V}{us:List d3} (i:Nat),Vals xs us->Vals (xs.eraseIdx i) (us.eraseIdx i)
 |_,_,_,.nil=>.nil
 |_,_,0,.cons _ t=>t
 |_,_,i+1,.cons r t=>.cons r (Vals.eraseIdx i t)
theorem Vals.reverse(h:Vals xs us):Vals xs.reverse us.reverse:=by
 induction h with
 |nil=>exact .nil
 |cons r t a=>rw[Sl,Sl];exact Vals.append a (.cons r .nil)
theorem rB(l:List α):l.eraseIdx (l.length - 1)=l.dropLast:=by
 induction l with
 |nil=>rfl
 |cons a r c =>
  cases r with
  |nil=>rfl
  |cons b r =>
   have e:(a::b::r).length - 1=((b::r).length - 1)+1:=by
    have d:(a::b::r).length=r.length+2:=rfl;have f:(b::r).length=r.length+1:=rfl;lia
   rw[e,SD,c]
   all_goals rfl
theorem mO:∀(l:List α) (i:Nat),(l.eraseIdx i).length<=l.length
 |[],_=>hV _
 |_::_,0=>Ng _
 |_::r,i+1=>Nat.succ_le_succ (mO r i)
section
theorem Inv.mn{b its':List d3}(I:Inv X a σ H s)(d:H l=a5 (.lst xs))
  (e:s.heap.get? l=a5 {cls:=.type "list",data:=.seq b.toArray n}) (g:f b.toArray=its'.toArray) (h:Vals c its') (hz:c.length<=cL) :
  Inv X a σ (upd H l (.lst c)) {s with heap:=s.heap.update l (rz f),toks:=t' }:=by
 have q:=PySem.IsL.update e f;rw[g]at q;refine I.write (x:=l) (e:=l) (by rw[d];exact trivial) (.inl rfl) (λk u i j=>(M1 s.heap (rz f) (r6 i)).trans j) ⟨_,q⟩ ?_;exact⟨hz,its',_,h,q⟩
theorem Inv.Il(I:Inv X a σ H s)(d:Vals b c)(hz:b.length<=cL):
  Inv X a σ (upd H s.heap.objs.size (.lst b)) {s with heap:=s.heap.push {cls:=.type "list",data:=.seq c.toArray},toks:=t' } :=
 I.laid (λ_ _ q=>c4 _ q) (hV _) ⟨hz,c,0,d,gj _ rfl⟩
theorem Inv.fresh(I:Inv X a σ H s):H s.heap.objs.size=bD:=I.IQ.fresh (hV _)
theorem Inv.vq(I:Inv X b σ H s)(c:H l=a5 (.lst xs)):xs.length<=cL/\∃(a:List d3) (n:Nat),Vals xs a/\xs.length=a.length/\s.heap.get? l=a5 {cls:=.type "list",data:=.seq a.toArray n}:=by
 obtain⟨z,a,n,r,e⟩:=I.IQ l _ c;exact⟨z,a,n,r,r.length,e⟩
theorem xx(h:n<=cL):K1 n=cc:=by
 unfold K1;exact ň ⋯
end
section
def AS:V->List V->Hp->VK->Prop:=λx vs H Q=>∃l xs y,x=.ref l/\vs=[y]/\H l=a5 (.lst xs)/\xs.length<cL/\Q .IU (upd H l (.lst (xs++[y])))
theorem mP:OY X "list.append" AS:=by
 intro a s σ H x vs v us Q I d rv h;obtain⟨l,xs,y,rfl,rfl,b,hz,q⟩:=h;cases d;obtain⟨u,rfl,f⟩:=rv.one;obtain⟨z,c,n,r,hl,e⟩:=I.vq b;refine Sq F.slot_list_append ⟨_,e,rfl⟩ F.entry_list_append (F.args_list_append_2 _ _) (PySem.list_append l c.toArray n u (by rw[hH];lia)) ⟨e,?_⟩;refine⟨.IU,_,I.mn (its':=c++[u]) b e (by simp) (r.append (.cons f .nil)) ?_,rfl,q⟩;rw[i0,Lq];lia
def Im:V->List V->Hp->VK->Prop:=λx vs H Q=>∃l xs y,x=.ref l/\vs=[]/\H l=a5 (.lst xs)/\xs[xs.length - 1]?=a5 y/\Q y (upd H l (.lst xs.dropLast))
theorem DL:OY X "list.pop" Im:=by
 intro b s σ H x vs v us Q I d rv h;obtain⟨l,xs,y,rfl,rfl,c,f,q⟩:=h;cases d;have g:=rv.zero;subst g;obtain⟨z,a,n,r,hl,e⟩:=I.vq c;obtain⟨u,i,j⟩:=r.get f;have k:a.toArray[a.toArray.size - 1]?=a5 u:=by
  show a.toArray[a.length - 1]?=a5 u;rw[<-sL,<-hl];exact i
 refine Sq Ĕ ⟨_,e,rfl⟩ ÿ (F.args_list_pop_1 _) (MeetsSeq.list_pop_last l a.toArray n u k (by rw[hH];lia)) ⟨e,?_⟩;refine⟨y,_,I.mn (its':=a.dropLast) c e ?_ r.dropLast ?_,j,q⟩
 ·show a.toArray.eraseIdxIfInBounds (a.toArray.size - 1)=a.dropLast.toArray;rw[hH,Vm,rB]
 ·rw[List.length_dropLast];lia
def DM:V->List V->Hp->VK->Prop:=λx vs H Q=>∃l xs i k y,x=.ref l/\vs=[.int i]/\H l=a5 (.lst xs)/\-(2 ^ 63)<=i/\i<2 ^ 63/\W9 i xs.length=a5 k/\xs[k]?=a5 y/\Q y (upd H l (.lst (xs.eraseIdx k)))
theorem xy:OY X "list.pop" DM:=by
 intro b s σ H x vs v us Q I d rv h;obtain⟨l,xs,i,k,y,rfl,rfl,c,f,g,hk,j,q⟩:=h;cases d;obtain⟨u,rfl,m⟩:=rv.one;obtain⟨t,rfl⟩:=m;obtain⟨z,a,n,r,hl,e⟩:=I.vq c;obtain⟨w,o,p⟩:=r.get j;refine Sq Ĕ ⟨_,e,rfl⟩ ÿ (F.args_list_pop_2 _ _)
  (MeetsSeq.list_pop_at l a.toArray n i t k w (fitsIndex_both f g) (by rw[hH,<-hl];exact hk) (by rw[<-sL];exact o) (by rw[hH];lia)) ⟨e,?_⟩
 refine⟨y,_,I.mn (its':=a.eraseIdx k) c e ?_ (r.eraseIdx k) ?_,p,q⟩
 ·show a.toArray.eraseIdxIfInBounds k=(a.eraseIdx k).toArray;rw[Vm]
 ·have:=mO xs k;lia
end
section
set_option maxRecDepth 100000 in
end
section
end
end L2
namespace U0
open PySem PySem.W PySem.Calls PyProof.Rows
theorem jV:∀(ns:List Int) (vs:List d3),WellAll P h vs (ns.map Ī)->Ë vs ns:=by
 intro ns;induction ns with
 |nil =>
  intro vs w;rw[Jz]at w;cases w;exact .nil
 |cons n ns c =>
  intro vs w;rw[et]at w;cases w with
  |cons a b =>
   cases a;exact .cons _ _ (c _ b)
theorem vt{l:OpenLaw}(i:l.most=a5 n)
  (f:l.row.toRowW.claim.pre args=b8) (j:WellAll P h vals args) :
  ∃a vs ns,vals=[l' a]/\args=[WData.list (ns.map Ī)]/\h.get? a=a5 {cls:=.type "list",data:=.seq vs.toArray}/\Ë vs ns/\ns.length<=n:=by
 have k:WShape.hasAll [] args [.list .int]=b8:=(pre_splitW f).1;have g:l.pre.holds [] {args:=args}=b8:=(pre_splitW f).2;obtain⟨d,r,rfl,m,o⟩:=hasAllW_cons k;obtain rfl:=hasAllW_nil o;obtain⟨xs,rfl,p⟩:=hasW_list m;obtain⟨ns,rfl⟩:=items_int p;have b:ns.length<=n:=by
  unfold OpenLaw.pre at g;have c:(WTm.not (.lt (.lit (.int (n:Int))) (.len (.arg 0)))).holds [] {args:=[.list (ns.map .int)]}=b8:=by
   have c:=(holds_andW g).1;rw[i]at c;exact c
  have e:=condW_of c (w_not (w_lt w_lit (w_len_list (w_arg rfl))));rw[dt]at e;refine Nat.le_of_not_lt λq=>?_;have s:(n:Int)<((ns.length:Nat):Int):=by lia
  first
   |(rw[ŉ s]at e;exact absurd e (by decide))
   |(simp at e;lia)
 cases j with
 |cons t u =>
  cases u;cases t with
  |list ho v=>exact⟨_,_,ns,rfl,rfl,ho,jV ns _ v,b⟩
theorem vv(l:OpenLaw)(args:List WData):l.row.toRowW.claim.post args (.bool b8) args=b8 :=
 postW_of (r:=l.row.toRowW) (X:=(b8==b8))
  (show Ď [] (.bool b8) .bool=b8 by first|rfl|decide|simp[Ď,WShape.arms,WShape.armsAll])
  (show(WTm.eq .res (.lit (.bool b8))).value [] {args:=args,res:=a5 (.bool b8),after:=args}=a5 (.bool (b8==b8)) from w_eq_bool (w_res rfl) w_lit) rfl
theorem pR{l:OpenLaw}
  (p:l.most=a5 n) (s:d.params.defaults=[])
  (NQ:∀(w:H8) (s₀ b:d8) (mg j:Str->Option d3) (fa:eH) (o:Obj) (k i c:d3) (a:eH) (vs:List d3) (ns:List Int),
   Ground q e [] t w s₀ mg j b.heap->u w b.heap ->
   b.heap.get? fa=a5 o->o.data=.func (docDef d.name d.params d.body d.scope k i c)->b.heap.CodeRec i d.name->mg d.name=a5 (.ref fa) ->
   b.heap.get? a=a5 {cls:=.type "list",data:=.seq vs.toArray}->Ë vs ns->ns.length<=n->b.gens=#[] ->
   Qk (ez l.prog w) TX (.call (.ref fa) ⟨[.ref a],[]⟩) (λr s'=>r=.ok (.ret (.bool b8))/\OldK b.heap s'.heap/\s'.os=b.os/\S6 s'.gens) b) :
  WalkO q e t u l.row.toRowW d [] (λf vs=>PySem.call f vs):=by
 intro w s₀ b mg j G Y fa o k i c v kV ho x y m z A args vals as B O Q C T;obtain rfl:v=.none:=Dflts.none m s;obtain rfl:kV=.none:=Dflts.noKw m;obtain⟨a,vs,ns,rfl,rfl,D,g,h⟩:=vt p B C;refine enter_call (Sa (NQ w s₀ b mg j fa o k i c a vs ns G Y ho (fd_plain x) y z D g h A) λr s' H=>?_);obtain⟨rfl,I,J,L⟩:=H;exact⟨.inl ⟨.bool b8,.bool b8,[],rfl,λ_=>rfl,.bool b8,vv l _,λ_=>⟨Ħ,λ_ N=>(nomatch N)⟩⟩,I,J,L⟩
section
end
end U0
namespace L2
open PySem PySem.Spec PyProof.Rows
theorem mQ:∀{vs:List d3}{ns:List Int},Ë vs ns->Vals (ns.map V.int) vs
 |_,_,.nil=>.nil
 |_,_,.cons n t h=>.cons ⟨t,rfl⟩ (mQ h)
def DN(H:Hp):Prop:=∀b,H b=bD\/∃o xs,H b=a5 (.KA o (.lst xs))
theorem xA{K:PySem.W.Frag}
  (y:K.In c.heap) (A:c.heap.Ns i8 mg) (f:c.heap.Ns û B) (O:∀x:Str,x≠"__name__"->B x=tv x) (Q:c.heap.NoLimit) (T:c.gens=#[])
  (l:c.heap.get? a=a5 {cls:=.type "list",data:=.seq vs.toArray}) (C:Ë vs ns) (hl:ns.length<=cL) (Y:fi k TX)
  (F:∀base:Jy,K.In base->base.Ns i8 mg->iw P w K mg base CX k fa fd [x] sp) (PQ:∀(s:d8) (u:d3),Ç s fd ⟨[u],[]⟩ [(x,u)])
  (Kj:∀H:Hp,DN H->Jn K H a (ns.map V.int)->sp [.ref a] H (λv _=>v=.bl b8) λ_ _ _=>False)
  (Sw:∀H e s',CX [] H c (λ_ _ _=>False) e s'->False) :
  Qk (ez P w) TX (.call (.ref fa) ⟨[.ref a],[]⟩) (λr s'=>r=.ok (.ret (.bool b8))/\OldK c.heap s'.heap/\s'.os=c.os/\S6 s'.gens) c:=by
 have rv:=mQ C;have Sx:=C.length;have g:∀H:Hp,DN H->Jn K H a (ns.map V.int)->JV P w H c.heap->(∀b,H b≠bD->b=a)->(H a≠bD->K.lookup a=bD) ->
   Qk (ez P w) TX (.call (.ref fa) ⟨[.ref a],[]⟩) (λr s'=>r=.ok (.ret (.bool b8))/\OldK c.heap s'.heap/\s'.os=c.os/\S6 s'.gens) c:=by
  intro H D hS G I hK;have kl:∀{b:eH} {o:Obj},c.heap.get? b=a5 o->H b=bD->(oa c.heap H).get? b=a5 o:=λe n=>xb e n;have PH:∀{b:eH} {o:Obj} {es:Array DictEntry} {ep:Nat},c.heap.get? b=a5 o->o.data=.dict es ep->H b=bD:=λ{b o es ep} e d=>by
   cases q:H b with
   |none=>rfl
   |some u =>
    have t:b=a:=I b (by rw[q];simp);subst t;rw[l]at e;cases e;have d':Data.seq vs.toArray _=Data.dict es ep:=d;cases d'
  have p:∀{b:eH} {m:Str->Option d3},c.heap.Ns b m->(oa c.heap H).Ns b m:=λ{b m} ⟨o,es,ep,e,d,r⟩=>⟨o,es,ep,kl e (PH e d),d,r⟩
  have J:K.In (oa c.heap H):=λb o e=>kl (y b o e) (by
   cases q:H b with
   |none=>rfl
   |some u =>
    have t:b=a:=I b (by rw[q];simp);subst t;rw[hK (by rw[q];simp)]at e;cases e)
  have hM:Mod K mg (oa c.heap H):=⟨J,p A,⟨B,p f,O⟩,let ⟨mc,h1,h2⟩:=Q;⟨mc,p h1,h2⟩⟩
  have e0:AJ P w K mg (oa c.heap H) TX [] c H:=⟨rfl,hM,λb o e=>AA e,Y8 (vi _ _),trivial,λb f=>absurd (show b∈([]:List eH) from f) (by simp),G,.of_eq T⟩
  refine Sa ((F _ J (p A)).run TX [] c H ⟨[.ref a],[]⟩ [.ref a] [.ref a] _ _ Y e0 (PQ c (.ref a)) (.cons rfl .nil) (Kj H D hS)) λr s' h=>?_;cases r with
  |error e=>exact(Sw H e s' h).elim
  |ok fl =>
   cases fl with
   |ret u =>
    obtain⟨v,H',os,i,L,Sy,r',q⟩:=h;have q':v=.bl b8:=q;subst q';obtain rfl:u=N9 b8:=r';refine⟨rfl,OldK.of_keep λb o e=>?_,os,i⟩;cases q:H b with
    |none=>exact L.keep b o e q (by intro z;exact absurd (show b∈([]:List eH) from z) (by simp)) (by simp)
    |some u =>
     rcases D b with z|⟨ob,xs,z⟩
     ·rw[q]at z;cases z
     ·have z2:=L.JR b ob _ z;obtain⟨N,_⟩:=G b _ z;obtain⟨e2,_⟩:=Sy b _ z2;rw[e]at N;cases N;exact e2
   |_=>exact MT h
 cases hk:K.lookup a with
 |some o =>
  have e:=y a o hk;rw[l]at e;cases e;refine g (λ_=>bD) (λ_=>.inl rfl) (.inr ⟨_,vs.toArray,_,hk,rfl,rfl,rfl,by rw[hH,Sx];exact hl,by simpa using rv⟩) (λb u z=>by have j:(bD:Option HO)=a5 u:=z;cases j) (λb z=>absurd rfl z) λz=>absurd rfl z
 |none =>
  refine g (λb=>if b=a then a5 (.KA {cls:=.type "list",data:=.seq vs.toArray} (.lst (ns.map V.int))) else bD) (λb=>?_) (.inl (.inr ⟨{cls:=.type "list",data:=.seq vs.toArray},ņ rfl⟩)) (λb u z=>?_) (λb z=>?_) λ_=>hk
  ·by_cases f:b=a
   ·exact .inr ⟨_,_,ņ f⟩
   ·exact .inl (Ň f)
  ·by_cases f:b=a
   ·have j:=(ņ f).symm.trans z;cases j;subst f;exact⟨l,by rw[dt];exact hl,vs,_,rv,l⟩
   ·have j:=(Ň f).symm.trans z;cases j
  ·by_cases f:b=a
   ·exact f
   ·exact absurd (Ň f) z
theorem AU{l:PySem.W.OpenLaw}{K:VF->PySem.W.Frag}{CX:H8->N2}{sp:H8->Sp}
  (r:l.most=a5 n) (t:n<=cL) (y:d.params.defaults=[]) (z:fi k TX)
  (A:∀(w:H8) (h:Jy),B w h->(K w.params).In h)
  (F:∀(w:H8) (mg:Str->Option d3) (fa:eH) (h:Jy),(K w.params).In h->h.Ns i8 mg->mg d.name=a5 (.ref fa) ->
   ∃j:Su,(∀(s:d8) (u:d3),Ç s j ⟨[u],[]⟩ [(x,u)]) /\
    ∀base:Jy,(K w.params).In base->base.Ns i8 mg->iw l.prog w (K w.params) mg base (CX w) k fa j [x] (sp w))
  (C:∀(w:H8) (H:Hp) (a:eH) (ns:List Int),ns.length<=n->DN H->Jn (K w.params) H a (ns.map V.int)->sp w [.ref a] H (λv _=>v=.bl b8) λ_ _ _=>False)
  (D:∀(w:H8) (H:Hp) (s:d8) (e:d3) (s':d8),CX w [] H s (λ_ _ _=>False) e s'->False) :
  PySem.W.WalkO q m XP B l.row.toRowW d [] (λf vs=>PySem.call f vs):=by
 refine U0.pR r y λw s₀ I mg mb fa o pm cd J a vs ns G Y ho hd Js L N i c O=>?_;have p:=A w _ Y;obtain⟨j,Q,hF⟩:=F w mg fa _ p G.T.g L;exact xA p G.T.g G.T.b G.T.builtins G.T.nolimit O N i (wh c t) z hF Q (λH hO hS=>C w H a ns c hO hS) λH e s'=>D w H I e s'
noncomputable def gh(s:Mi):Arguments:=match s with
 |.FunctionDef _ a _ _ _ _ _ _ _ _=>a
 |_=>{posonlyargs:=[],args:=[],vararg:=bD,kwonlyargs:=[],kw_defaults:=[],kwarg:=bD,defaults:=[]}
noncomputable def cU(s:Mi):List Mi:=match s with
 |.FunctionDef _ _ b _ _ _ _ _ _ _=>b
 |_=>[]
noncomputable def aQ(s:Mi):LS:=match s with
 |.FunctionDef _ _ _ _ _ _ a _ _ _=>a
 |_=>{kind:=.function,names:=[],isGenerator:=cc,isCoroutine:=cc}
abbrev N8:N2:=λ_ _ _ _ _ _=>False
abbrev E0:XK:=λ_ _ _=>False
theorem Ge:Passes N8 X E0:=λ_ _ _ _ _ _ _ h=>h.elim
structure Nr(K:PySem.W.Frag)(x qual:Str)(st:Mi)(f:eH)(fd:Su):Prop where
 ex:∃(oc:d3) (od:Option eH) (kV doc pm:d3) (an:Option eH) (J3 ct:d3) (OW:Array (Option d3)),
  fd=PySem.W.fnOf x qual (gh st) (cU st) (aQ st) .none kV doc pm an J3 ct/\K.lookup f=a5 ⟨oc,od,.func fd,OW⟩/\PySem.W.codeIn K J3 qual=b8
 kp:PySem.W.keepIn K (.ref f)=b8
section
variable{P:va}{w:H8}{K:PySem.W.Frag}{mg:Str->Option d3}{base:Jy}
theorem Nr.ok{st:Mi}(F:Nr K x a st f d)(S:eB N ps (aQ st))(c:∀vs H Q E,sp vs H Q E->vs.length=ps.length)
  (e:∀(b:d3) (A:Nm) (outer:List Env) (s:d8) (H:Hp) (vs:List V) (Q:VK) (E:XK),fi k (A.deeper (Uc a (aQ st) s.heap.objs.size f b))->sp vs H Q E ->
   ∃t,J2 (pO N8 P w K mg base N a (aQ st) f b A outer s H E).KD (cU st) t/\t {nx:=λ_ H'=>Q .IU H',rt:=Q} (start N vs) H):iw P w K mg base N8 (k+1) f d ps sp:=by
 obtain⟨m,n,kV,g,o,p,b,ct,r,rfl,lk,i⟩:=F.ex;refine CN lk i S c λA outer s H vs Q E j l=>?_;obtain⟨t,h,q⟩:=e b A outer s H vs Q E j l;exact⟨t,h.KD,q⟩
theorem DO{st:Mi}{kV b e d ct:d3}(l:K.lookup f=a5 ⟨h,i,.func (PySem.W.fnOf x a (gh st) (cU st) (aQ st) .none kV b e g d ct),j⟩)
  (c:PySem.W.codeIn K d a=b8) (k:PySem.W.keepIn K (.ref f)=b8):Nr K x a st f (PySem.W.fnOf x a (gh st) (cU st) (aQ st) .none kV b e g d ct):=⟨⟨h,i,kV,b,e,g,d,ct,j,rfl,l,c⟩,k⟩
end
section
end
def c8(H H':Hp):Prop:=∀b o,H b=a5 o->H' b=a5 o
section
variable{κ:Type}[DecidableEq κ]
noncomputable def dz(kvs:List (κ×V))(k:κ):Option V:=(kvs.find? λkv=>cK (kv.1=k)).map (·.2)
noncomputable def putK(kvs:List (κ×V))(k:κ)(v:V):List (κ×V) :=
 if (kvs.any λkv=>cK (kv.1=k))=b8 then kvs.map (λkv=>if kv.1=k then(kv.1,v) else kv) else kvs++[(k,v)]
theorem eQ{p:κ×V}{k:κ}(e:p.1=k):dz (p::r) k=a5 p.2:=by simp[dz,Nw,e]
theorem eR{p:κ×V}{k:κ}(e:¬p.1=k):dz (p::r) k=dz r k:=by simp[dz,Nw,e]
theorem iz(k:κ):∀kvs:List (κ×V),(kvs.any λkv=>cK (kv.1=k))=(dz kvs k).isSome
 |[]=>rfl
 |p::r=>by
  rw[UH];by_cases e:p.1=k
  ·simp only[eQ e,ŉ e,Bool.true_or,Option.isSome_some]
  ·rw[eR e,ň e,Bool.false_or];exact iz k r
theorem fO(kvs:List (κ×V))(k:κ)(v:V):(putK kvs k v).length<=kvs.length+1:=by
 unfold putK;split
 ·rw[dt];lia
 ·rw[i0,ke,QL];lia
theorem xB{k:κ}(v:V)(h:dz kvs k=bD):putK kvs k v=kvs++[(k,v)]:=by
 unfold putK;rw[iz,h];exact Ň (by decide)
theorem jT.eS(r:jT o u):o.isSome=u.isSome:=by
 cases o with
 |none=>cases u with
  |none=>rfl
  |some _=>exact(show False from r).elim
 |some _=>cases u with
  |none=>exact(show False from r).elim
  |some _=>rfl
theorem jT.getD(r:jT o u)(a:RelV d d'):RelV (o.getD d) (u.getD d'):=by
 cases o with
 |none=>cases u with
  |none=>exact a
  |some _=>exact(show False from r).elim
 |some _=>cases u with
  |none=>exact(show False from r).elim
  |some _=>exact r
theorem KV.val(r:KV kvs vs)(k:κ):jT (dz kvs k) (Wf vs k):=by
 unfold KV at r;induction r with
 |nil=>exact SY
 |@cons p q ps a h t f =>
  obtain⟨d,g⟩:=h;by_cases e:p.1=k
  ·have c:q.1=k:=d.symm.trans e;have b:Wf (q::a) k=a5 q.2:=by simp[Wf,Nw,c]
   rw[eQ e,b];exact g
  ·have c:¬q.1=k:=λz=>e (d.trans z);have b:Wf (q::a) k=Wf a k:=by simp[Wf,Nw,c]
   rw[eR e,b];exact f
theorem KV.any(r:KV kvs vs)(k:κ):(kvs.any λkv=>cK (kv.1=k))=vs.any λkv=>cK (kv.1=k):=by
 unfold KV at r;induction r with
 |nil=>rfl
 |cons h t a=>rw[UH,UH,a,h.1]
theorem KV.DP(r:KV kvs vs)(k:κ)(b:RelV y u):
  KV (kvs.map λkv=>if kv.1=k then(kv.1,y) else kv) (vs.map λkv=>if kv.1=k then(kv.1,u) else kv):=by
 unfold KV at r ⊢;induction r with
 |nil=>exact .nil
 |@cons p q ps f h t c =>
  rw[et,et];refine .cons ?_ c;obtain⟨a,d⟩:=h;by_cases e:p.1=k
  ·rw[ņ e,ņ (a.symm.trans e)];exact⟨a,b⟩
  ·rw[Ň e,Ň (λz=>e (a.trans z))];exact⟨a,d⟩
theorem KV.put(r:KV kvs vs)(k:κ)(a:RelV y u):KV (putK kvs k y) (stored vs k u):=by
 unfold putK stored;rw[r.any k];by_cases e:(vs.any λkv=>cK (kv.1=k))=b8
 ·rw[ņ e,ņ e];exact r.DP k a
 ·rw[Ň e,Ň e];exact Paired.snoc r ⟨rfl,a⟩
theorem KV.length(r:KV kvs vs):kvs.length=vs.length:=Paired.length r
end
theorem kJ(r:RelV (kV k) u):(aZ P w).is k u=b8:=by
 cases k with
 |inl i=>obtain⟨t,e⟩:=(show ∃t,u=Á i t from r);subst e;exact pL P w i t
 |inr x=>obtain⟨t,e⟩:=(show ∃t,u=t8 x t from r);subst e;exact pM P w x t
theorem mR:∀{ks:List Key}{us:List d3},Vals (ks.map kV) us->ItemsAre (aZ P w) ks us
 |[],_,r=>by rw[Jz]at r;cases r;exact .nil
 |k::ks,_,r=>by
  rw[et]at r;cases r with
  |cons h t=>exact .cons (kJ h) (mR t)
abbrev KT(H:Hp):List (List Key×V)->List (List Key×eH×d3)->Prop:=Paired λp q=>p.1=q.1/\H q.2.1=a5 (.tup (p.1.map kV))/\RelV p.2 q.2.2
theorem KT.val(r:KT H kvs xs)(k:List Key):jT (dz kvs k) ((Y3 xs k).map (·.2)):=by
 induction r with
 |nil=>exact SY
 |@cons p q ps a h t f =>
  obtain⟨d,_,g⟩:=h;by_cases e:p.1=k
  ·have c:q.1=k:=d.symm.trans e;have b:Y3 (q::a) k=a5 q.2:=by simp[Y3,Nw,c]
   rw[eQ e,b];exact g
  ·have c:¬q.1=k:=λz=>e (d.trans z);have b:Y3 (q::a) k=Y3 a k:=by simp[Y3,Nw,c]
   rw[eR e,b];exact f
theorem KT.DP(r:KT H kvs xs)(k:List Key)(c:RelV y u):
  KT H (kvs.map λkv=>if kv.1=k then(kv.1,y) else kv) (xs.map (putAt k u)):=by
 induction r with
 |nil=>exact .nil
 |@cons p q ps g h t d =>
  rw[et,et];refine .cons ?_ d;obtain⟨a,b,f⟩:=h;unfold putAt;by_cases e:p.1=k
  ·rw[ņ e,ņ (a.symm.trans e)];exact⟨a,b,c⟩
  ·rw[Ň e,Ň (λz=>e (a.trans z))];exact⟨a,b,f⟩
theorem KT.put(r:KT H kvs xs)(k:List Key)(c:H b=a5 (.tup (k.map kV)))(a:RelV y u):
  KT H (putK kvs k y) (storedH xs k b u):=by
 have e:(kvs.any λkv=>cK (kv.1=k))=(Y3 xs k).isSome:=by
  rw[iz,(r.val k).eS,UL]
 unfold putK storedH;rw[e];by_cases q:(Y3 xs k).isSome=b8
 ·rw[ņ q,ņ q];exact r.DP k a
 ·rw[Ň q,Ň q];exact Paired.snoc r ⟨rfl,c,a⟩
theorem KT.keeps(r:KT H kvs xs)(c:∀b a,H b=a5 (.tup a)->H' b=a5 (.tup a)):KT H' kvs xs :=
 Paired.Dl r λ_ _ z=>⟨z.1,c _ _ z.2.1,z.2.2⟩
section
theorem CO(b:JV P w H h)(e:Rd H a u):bU P w H h a u:=e.ok b
theorem kK(b:JV P w H h)(e:Rd H a (.dK kvs)):kvs.length<=cL/\(a==NZ)=cc/\∃vs,KV kvs vs/\h.DictOf (aZ P w) a vs :=
 show bU P w H h a (.dK kvs) from CO b e
theorem tI(b:JV P w H h)(e:H a=a5 (.dK kvs)):kvs.length<=cL/\(a==NZ)=cc/\∃vs,KV kvs vs/\h.DictOf (aZ P w) a vs:=kK b (.inl e)
theorem ji(b:JV P w H h)(e:H a=a5 (.tup (ks.map kV))):(Va (aZ P w)).is h ks a:=by
 obtain⟨_,c,r,o,d,f,n,g⟩:=(show bU P w H h a (.tup (ks.map kV)) from b a _ e)
 exact⟨o,c.toArray,n,d,f,g,by simpa using mR r⟩
theorem kL(b:JV P w H h)(e:Rd H a (.dT kvs)):kvs.length<=cL/\(a==NZ)=cc /\
  ∃xs,KT H kvs xs/\h.DictOfH (Va (aZ P w)) a xs:=by
 obtain⟨z,y,xs,r,o,es,ep,d,f,g,i,j⟩:=(show bU P w H h a (.dT kvs) from CO b e)
 refine⟨z,y,xs,r,o,es,ep,d,f,g,i,λx hx=>?_,j⟩;have all:∀{l:List (List Key×V)} {m:List (List Key×eH×d3)},KT H l m->∀x∈m,(Va (aZ P w)).is h x.1 x.2.1:=by
  intro l m q;induction q with
  |nil=>intro x hx;exact nomatch hx
  |@cons p q ps n c t k =>
   intro x hx;rcases d7.mp hx with e|hx
   ·subst e;exact ji b (by rw[<-c.1];exact c.2.1)
   ·exact k x hx
 exact all r x hx
theorem Gf(b:JV P w H h)(e:H a=a5 (.dT kvs)):kvs.length<=cL/\(a==NZ)=cc /\
  ∃xs,KT H kvs xs/\h.DictOfH (Va (aZ P w)) a xs:=kL b (.inl e)
end
def fj(H:Hp)(a:eH)(y:V)(r:Option V):Prop :=
 (∃kvs k,Rd H a (.dK kvs)/\y=kV k/\r=dz kvs k)\/∃kvs k b,Rd H a (.dT kvs)/\y=.ref b/\H b=a5 (.tup (k.map kV))/\r=dz kvs k
def vA(H:Hp)(a:eH)(y v:V)(H':Hp):Prop :=
 (∃kvs k,H a=a5 (.dK kvs)/\y=kV k/\kvs.length<cL/\H'=upd H a (.dK (putK kvs k v))) \/
 ∃kvs k b,H a=a5 (.dT kvs)/\y=.ref b/\H b=a5 (.tup (k.map kV))/\kvs.length<cL/\H'=upd H a (.dT (putK kvs k v))
theorem fj.k{H:Hp}{a:eH}{kvs:List (Key×V)}{k:Key}(e:H a=a5 (.dK kvs)):fj H a (kV k) (dz kvs k):=.inl ⟨kvs,k,.inl e,rfl,rfl⟩
theorem vA.k{H:Hp}{a:eH}{kvs:List (Key×V)}{k:Key}{v:V}(e:H a=a5 (.dK kvs))(hl:kvs.length<cL):vA H a (kV k) v (upd H a (.dK (putK kvs k v))):=.inl ⟨kvs,k,e,rfl,hl,rfl⟩
section
theorem Inv.big(I:Inv X a σ H s):NZ<s.heap.objs.size:=by
 have h:i8<s.heap.objs.size:=(I.mod.glob.keeps I.bk).lt;exact Vk (by decide) h
theorem vB(q:A.units+1<LD)(I:Inv X f σ H s)(g:fj H a y (a5 v))(n:RelV y u)(h:∀d s',Inv X f σ H s'->RelV v d->Q d s'):
  d6 (ez X.prog X.w) A (Wm (.ref a) u) Q E s:=by
 rcases g with⟨kvs,k,e,i,l⟩|⟨kvs,k,b,e,i,r,l⟩
 ·subst i;obtain⟨z,t,vs,c,dd⟩:=kK I.IQ e;obtain⟨d,j,m⟩:=jT.some_of (v:=v) (o:=Wf vs k) (by rw[l];exact c.val k);exact wpAny_getItem_of (kJ n) dd.mapOf j (h d _ (I.tok _) m)
 ·subst i;cases(show u=l' b from n);obtain⟨z,t,xs,c,dd⟩:=kL I.IQ e;obtain⟨d,j,m⟩:=jT.some_of (v:=v) (o:=(Y3 xs k).map (·.2)) (by rw[l];exact c.val k);obtain⟨p,x,B⟩:=gs.mp j;refine wpAny_getItem_heap (PN q) (ji I.IQ r) dd x ?_;rw[B];exact h d _ (I.tok _) m
theorem Gg(m:A.units+1<LD)(I:Inv X d σ H s)(g:fj H a y o)(j:RelV y u)(h:∀s',Inv X d σ H s'->Q (.bool o.isSome) s'):
  d6 (ez X.prog X.w) A (LW .In u (.ref a)) Q E s:=by
 rcases g with⟨kvs,k,e,f,l⟩|⟨kvs,k,b,e,f,n,l⟩
 ·subst f;obtain⟨z,i,vs,c,dd⟩:=kK I.IQ e;refine wpAny_in_of (kJ j) i dd.mapOf ?_;rw[<-(c.val k).eS,<-l];exact h _ (I.tok _)
 ·subst f;cases(show u=l' b from j);obtain⟨z,i,xs,c,dd⟩:=kL I.IQ e;refine wpAny_in_heap (PN m) (ji I.IQ n) i dd ?_;have q:=(c.val k).eS;rw[UL]at q;rw[<-q,<-l];exact h _ (I.tok _)
theorem tJ(m:A.units+1<LD)(I:Inv X d σ H s)(g:fj H a y o)(j:RelV y u)(h:∀s',Inv X d σ H s'->Q (.bool (!o.isSome)) s'):
  d6 (ez X.prog X.w) A (LW .NotIn u (.ref a)) Q E s:=by
 rcases g with⟨kvs,k,e,f,l⟩|⟨kvs,k,b,e,f,n,l⟩
 ·subst f;obtain⟨z,i,vs,c,dd⟩:=kK I.IQ e;refine wpAny_notIn_of (kJ j) i dd.mapOf ?_;rw[<-(c.val k).eS,<-l];exact h _ (I.tok _)
 ·subst f;cases(show u=l' b from j);obtain⟨z,i,xs,c,dd⟩:=kL I.IQ e;refine wpAny_notIn_heap (PN m) (ji I.IQ n) i dd ?_;have q:=(c.val k).eS;rw[UL]at q;rw[<-q,<-l];exact h _ (I.tok _)
theorem oC(I:Inv X c σ H s)(f:Pu (H a))(hs:qs a s.heap h')(g:∃q,h'.get? a=a5 q)(new:bU X.prog X.w (upd H a d) h' a d):
  Inv X c σ (upd H a d) {s with heap:=h',toks:=t' } :=
 I.write (x:=a) (e:=a) f (.inl rfl) (λb q h z=>(hs.2 b h).trans z) g new
theorem xC(z:kvs.length<=cL)(c:(a==NZ)=cc)(b:KV kvs vs)(dd:h'.DictOf (aZ P w) a vs):
  bU P w H' h' a (.dK kvs):=⟨z,c,vs,b,dd⟩
theorem vC(B:A.units+1<LD)(I:Inv X f σ H s)(g:vA H a y v H')(p:RelV y u)(rv:RelV v r)(h:∀s',Inv X f σ H' s'->Q () s'):
  d6 (ez X.prog X.w) A (TR (.ref a) u r) Q E s:=by
 rcases g with⟨kvs,k,e,m,l,n⟩|⟨kvs,k,b,e,m,t,l,n⟩
 ·subst m n;obtain⟨z,o,vs,d,dd⟩:=tI I.IQ e;have hz:vs.length<=cL:=by rw[<-d.length];exact z
  have hl:(putK kvs k v).length<=cL:=by have:=fO kvs k v;lia
  refine wpAny_setItem_pairs (hsz:=hz) (kJ p) dd λh' i hs=>h _ ?_;have C:∃q,h'.get? a=a5 q:=let ⟨q,_,_,j,_⟩:=i;⟨q,j⟩;exact oC I (by rw[e];exact SY) hs C (xC hl o (d.put k rv) i)
 ·subst m n;cases(show u=l' b from p);obtain⟨z,o,xs,d,dd⟩:=Gf I.IQ e;have hz:xs.length<=cL:=by rw[<-Paired.length d];exact z
  have hl:(putK kvs k v).length<=cL:=by have:=fO kvs k v;lia
  refine wpAny_setItem_heap (hsz:=hz) (PN B) (ji I.IQ t) dd λh' i hs=>h _ ?_;obtain⟨q,es,ep,j,D,G,J,_,L⟩:=i;refine oC I (by rw[e];exact SY) hs ⟨q,j⟩ ⟨hl,o,_,(d.put k t rv).keeps λc N x=>?_,q,es,ep,j,D,G,J,L⟩;rw[au (FJ x e (λz=>nomatch z))];exact x
end
section
end
def DQ(i:mf):Prop:=∀a b,XI i cc a b=operate [a,b] (Wm a b)
theorem AV{T id:String}
  (hl:QO (.type T) "__getitem__"=pure (a5 (.builtin id))) (hs:DQ a)
  (h:d6 (ez prog w) A (ve b env) (λo f=>d6 (ez prog w) A (ve a env) (λi d=>d.TypeIs o T/\d6 (ez prog w) A (Wm o i) Q E d) E f) E s) :
  d6 (ez prog w) A (ve (.Subscript b a pos) env) Q E s:=by
 refine ā (mh h (λo f k=>mh k (λi d e=>?_) λ_ _ x=>x) λ_ _ x=>x);obtain⟨g,e⟩:=e;unfold Vt;refine b6 ?_;rw[getitemInPython_of_ne g.not_modules];refine b6 (Ug g hl ?_);have c:d6 (ez prog w) A (XI a cc o i) (λr j=>d6 (ez prog w) A (letTemporaryGo b o r >>= λ_=>pure r) Q E j) E d:=by
  rw[hs o i];exact wpAny_operating (mh e (λr j l=>b6 (wpAny_letTemporaryGo (df l))) λ_ _ x=>x)
 first
  |exact df (b6 c)
  |exact b6 (df (b6 c))
  |exact b6 c
theorem pS(I:Inv X c σ H s)(g:fj H a y o):s.TypeIs (.ref a) "dict":=by
 rcases g with⟨kvs,k,e,_,_⟩|⟨kvs,k,b,e,_,_,_⟩
 ·obtain⟨_,_,vs,_,dd⟩:=kK I.IQ e;exact dd.typeIs
 ·obtain⟨_,_,xs,_,dd⟩:=kL I.IQ e;exact dd.typeIs
def Gh(c ty:TE):TE:=λσ H Q=>c σ H λx d=>ty σ d λy b=>∃a v,x=.ref a/\fj b a y (a5 v)/\Q v b
def Io(ty c:TE):TE:=λσ H Q=>ty σ H λy d=>c σ d λx b=>∃a o,x=.ref a/\fj b a y o/\Q (.bl o.isSome) b
def AW(ty c:TE):TE:=λσ H Q=>ty σ H λy d=>c σ d λx b=>∃a o,x=.ref a/\fj b a y o/\Q (.bl (!o.isSome)) b
section
theorem AX(d:X.A.units+1<LD)(ho:PE X o e)(f:PE X i ty)(hs:DQ i):PE X (.Subscript o i pos) (Gh e ty):=by
 intro b s σ H Q I h;refine AV PySem.F.slot_dict_getitem.lookup hs (IX (ho b s σ H _ I h) λu s1 ⟨x,j,k,l,m⟩=>IX (f b s1 σ j _ k m) λz s2 n=>?_);obtain⟨y,p,c,q,a,v,ex,g,r⟩:=n;subst ex;obtain rfl:u=l' a:=l;exact⟨pS c g,vB d c g q λB s3 t w=>⟨v,p,t,w,r⟩⟩
theorem DR(c:X.A.units+1<LD)(d:PE X i ty)(ho:PE X o e):PC X .In i o (Io ty e):=by
 intro b s σ H Q I h;refine IX (d b s σ H _ I h) λw s1 ⟨y,f,j,k,l⟩=>IX (ho b s1 σ f _ j l) λu s2 m=>?_;obtain⟨x,n,p,q,a,r,ex,g,t⟩:=m;subst ex;obtain rfl:u=l' a:=q;exact Gg c p g k λs3 v=>⟨.bl r.isSome,n,v,rfl,t⟩
theorem vE(c:X.A.units+1<LD)(d:PE X i ty)(ho:PE X o e):PC X .NotIn i o (AW ty e):=by
 intro b s σ H Q I h;refine IX (d b s σ H _ I h) λw s1 ⟨y,f,j,k,l⟩=>IX (ho b s1 σ f _ j l) λu s2 m=>?_;obtain⟨x,n,p,q,a,r,ex,g,t⟩:=m;subst ex;obtain rfl:u=l' a:=q;exact tJ c p g k λs3 v=>⟨.bl (!r.isSome),n,v,rfl,t⟩
end
theorem pT(h:Jy)(a:NZ<h.objs.size):bU P w H (h.push {cls:=.type "dict",data:=.dict #[]}) h.objs.size (.dK []) :=
 ⟨lg _,Ō.mpr (r6 (hY a)),[],.nil,Ľ h⟩
def DS:TE:=λ_ H Q=>∀p,H p=bD->Q (.ref p) (upd H p (.dK []))
section
theorem pU:PE X (.Dict [] [] pos) DS:=λb s σ H Q I h =>
 wpAny_Dict_empty ⟨.ref s.heap.objs.size,_,I.laid (a:=s.heap.objs.size) (o:=.dK []) (t':=s.toks) (λ_ _ q=>c4 _ q) (hV _) (pT s.heap I.big),rfl,h _ (I.IQ.fresh (hV _))⟩
end
def rC:List (TE×TE)->St->Hp->(List (V×V)->Hp->Prop)->Prop
 |[],_,H,Q=>Q [] H
 |(a,b)::r,σ,H,Q=>a σ H λx c=>b σ c λy d=>rC r σ d λps e=>Q ((x,y)::ps) e
abbrev VV:List (V×V)->List (d3×d3)->Prop:=Paired λp q=>RelV p.1 q.1/\RelV p.2 q.2
def Q7(X:Cx)(pos:Pos)(c:List (Option mf))(a:List mf)(d:List (TE×TE)):Prop :=
 ∀(b:List (eH×Obj)) (s:d8) (σ:St) (H:Hp) (Q:List (V×V)->Hp->Prop),Inv X b σ H s->rC d σ H Q ->
  d6 (ez X.prog X.w) X.A (evalPairs (pairTrees c a X.env pos)) (λvs s'=>∃ps H',Inv X b σ H' s'/\VV ps vs/\Q ps H') X.xe s
theorem AY:Q7 X pos [] [] []:=λa s σ H Q I h=>pairTrees_nil_walk ⟨[],H,I,.nil,h⟩
theorem xD(hk:PE X k c)(d:PE X v e)(f:Q7 X pos ks vs g):
  Q7 X pos (a5 k::ks) (v::vs) ((c,e)::g):=λa s σ H Q I h =>
 pairTrees_cons_walk (IX (hk a s σ H _ I h) λu s1 ⟨x,i,j,l,m⟩=>IX (d a s1 σ i _ j m) λz s2 ⟨y,n,o,p,q⟩ =>
  IX (f a s2 σ n _ o q) λws s3 ⟨ps,r,t,b,w⟩=>⟨(x,y)::ps,r,t,.cons ⟨l,p⟩ b,w⟩)
noncomputable def kM(kvs more:List (Key×V)):List (Key×V):=more.foldl (λacc kv=>putK acc kv.1 kv.2) kvs
theorem KV.merge:∀{more:List (Key×V)}{rs:List (Key×d3)}{kvs:List (Key×V)}{vs:List (Key×d3)},KV more rs->KV kvs vs->KV (kM kvs more) (merged vs rs):=by
 intro more rs kvs vs r;unfold KV at r;induction r generalizing kvs vs with
 |nil=>intro q;exact q
 |@cons p q ps c h t a =>
  intro b;have e:KV (putK kvs p.1 p.2) (stored vs q.1 q.2):=by
   have:=b.put p.1 h.2;rw[<-h.1];exact this
  exact a e
theorem gJ:∀(more kvs:List (Key×V)),(kM kvs more).length<=kvs.length+more.length
 |[],kvs=>by show kvs.length<=kvs.length+0;lia
 |p::r,kvs=>by
  have a:=gJ r (putK kvs p.1 p.2);have b:=fO kvs p.1 p.2;show(kM (putK kvs p.1 p.2) r).length<=_;rw[ke];lia
theorem kN:∀{kvs:List (Key×V)}{ws:List (d3×d3)},VV (kvs.map λkv=>(kV kv.1,kv.2)) ws->∃rs,Carries (aZ P w) ws rs/\KV kvs rs
 |[],_,r=>by rw[Jz]at r;cases r;exact⟨[],SY,.nil⟩
 |p::kvs,_,r=>by
  rw[et]at r;cases r with
  |@cons a b as bs h t =>
   obtain⟨rs,c,q⟩:=kN (P:=P) (w:=w) t;obtain⟨b1,d⟩:=b;exact⟨(p.1,d)::rs,⟨kJ h.1,rfl,c⟩,.cons ⟨rfl,h.2⟩ q⟩
def Gi(b:List (TE×TE)):TE:=λσ H Q=>∀p,H p=bD->rC b σ (upd H p (.dK [])) λps a=>a p=a5 (.dK [])/\∃kvs:List (Key×V),ps=kvs.map (λkv=>(kV kv.1,kv.2))/\kvs.length<=15/\Q (.ref p) (upd a p (.dK (kM [] kvs)))
theorem AZ(h:Q7 X pos b d k)(l:b.all (·.isSome)=b8)(hl:b.length=d.length)(m:b≠[])
  (n:b.length<=15):PE X (.Dict b d pos) (Gi k):=by
 intro f s σ H Q I q;have p:=I.IQ.fresh (hV s.heap.objs.size);have r:=I.laid (a:=s.heap.objs.size) (o:=.dK []) (h':=s.heap.push {cls:=.type "dict",data:=.dict #[]}) (t':=s.toks) (λ_ _ q=>c4 _ q) (hV _) (pT s.heap I.big);refine wpAny_Dict_walk (knd:=aZ X.prog X.w) l hl m n (IX (h f _ σ _ _ r (q _ p)) λws s2 t=>?_);obtain⟨ps,C,i,g,e,kvs,ep,lk,u⟩:=t;subst ep;obtain⟨rs,c,rk⟩:=kN (P:=X.prog) (w:=X.w) g;obtain⟨z,v,D,x,dd⟩:=tI i.IQ e;cases x;refine⟨rs,c,dd,λh' j hs=>⟨.ref s.heap.objs.size,_,?_,rfl,u⟩⟩;have hz:(kM [] kvs).length<=cL:=by
  have y:=gJ kvs [];rw[QL]at y;rw[ß];lia
 have A:∃q,h'.get? s.heap.objs.size=a5 q:=let ⟨q,_,_,B,_⟩:=j;⟨q,B⟩;exact oC i (by rw[e];exact SY) hs A (xC hz v (rk.merge .nil) j)
structure M2(X:Cx)(o:mf)(m:Str)(apos:Pos)(e f:mf)(G':Pos):Prop where
 base:Tc o m X.env (ve o X.env)=ve o X.env
 MY:((DD G' (hW [e,f] X.env)).all (λx=>!x.1)&&(Ql G' (L9 [] X.env)).all (λx=>x.1.isSome)
  && cK (([e,f]:List mf).length+([]:List Oi).length+(if ([]:List Oi).isEmpty then 0 else 1)<30))=b8
 line:(apos.endLine==G'.line)=b8
 trees:DD G' (hW [e,f] X.env)=[(cc,ve e X.env),(cc,ve f X.env)]
def U3(H:Hp)(a:eH):Prop:=(∃kvs,Rd H a (.dK kvs))\/∃kvs,Rd H a (.dT kvs)
theorem DT(I:Inv X i σ H s)(d:U3 H a):
  s.TypeIs (.ref a) "dict"/\(∀b,l' a=.ref b->∃c,s.heap.get? b=a5 c/\c.dict=bD)/\(a==NZ)=cc:=by
 rcases d with⟨kvs,e⟩|⟨kvs,e⟩
 ·obtain⟨_,f,vs,_,dd⟩:=kK I.IQ e;refine⟨dd.typeIs,λb q=>?_,f⟩;cases q;obtain⟨c,_,_,g,h,_⟩:=dd;exact⟨c,g,h.2.1⟩
 ·obtain⟨_,f,xs,_,dd⟩:=kL I.IQ e;refine⟨dd.typeIs,λb q=>?_,f⟩;cases q;obtain⟨c,_,_,g,h,_⟩:=dd;exact⟨c,g,h.2.1⟩
section
theorem DU(q:A.units+1<LD)(I:Inv X f σ H s)(g:fj H a y o)(m:RelV y u)(n:RelV d r)(h:∀p s',Inv X f σ H s'->RelV (o.getD d) p->Q p s'):
  d6 (ez X.prog X.w) A (NQ (.builtin "dict.get") [.ref a,u,r]) Q E s:=by
 rcases g with⟨kvs,k,e,i,l⟩|⟨kvs,k,b,e,i,t,l⟩
 ·subst i;obtain⟨z,j,vs,c,dd⟩:=kK I.IQ e;refine Z' PySem.F.slot_dict_get dd.typeIs PySem.F.entry_dict_get (PySem.F.args_dict_get_3 _ _ _) (meets_dict_get_default (aZ X.prog X.w) a (kJ m) j r) ⟨_,dd.mapOf,h _ _ (I.tok _) ?_⟩;rw[l];exact(c.val k).getD n
 ·subst i;cases(show u=l' b from m);obtain⟨z,j,xs,c,dd⟩:=kL I.IQ e;refine Z' PySem.F.slot_dict_get dd.typeIs PySem.F.entry_dict_get (PySem.F.args_dict_get_3 _ _ _) (meetsH_dict_get_default (Va (aZ X.prog X.w)) a b j r) ⟨PN q,k,xs,ji I.IQ t,dd,h _ _ (I.tok _) ?_⟩;rw[l];exact(c.val k).getD n
end
def DV(d ty e:TE):TE:=λσ H Q=>d σ H λx b=>∃a,x=.ref a/\U3 b a/\ty σ b λy f=>e σ f λz c=>∃o,fj c a y o/\Q (o.getD z) c
section
theorem xE(j:X.A.units+1<LD)(ho:PE X o k)(l:PE X e ty)(n:PE X f p)(m:M2 X o "get" c e f q):PE X (.Call (.Attribute o "get" c) [e,f] [] q) (DV k ty p):=by
 intro b s σ H Q I h;refine wpAny_Call_method m.base m.MY m.line PySem.F.plainAttrs_dict PySem.F.slot_dict_get PySem.F.type_dict_get (IX (ho b s σ H _ I h) λu s1 r=>?_);obtain⟨x,t,i,v,a,ex,d,w⟩:=r;subst ex;obtain rfl:u=l' a:=v;obtain⟨B,C,_⟩:=DT i d;refine⟨B,C,?_⟩;rw[m.trees];refine Kq rfl (LF (MM (IX (l b s1 σ t _ i w) λiv s2 ⟨y,D,G,J,L⟩ =>
  MM (IX (n b s2 σ D _ G L) λfv s3 ⟨z,N,O,T,ov,g,Y⟩=>PB ?_))))
 exact DU j O g J T λw' s4 I4 Lk=>⟨_,N,I4,Lk,Y⟩
end
section
end
section
end
end L2
namespace Jt
open PySem PySem.Builtin.Str PySem.StrLaws
noncomputable def xF(i:Int):Str:=Rr (Rg i)
theorem app_list(x y:Str):(x++y).cps.toList=x.cps.toList++y.cps.toList:=by
 show(x.cps++y.cps).toList=_;simp
end Jt
namespace L2
open PySem PySem.Spec PyProof.Rows
noncomputable def bH(env:Env):List (Str×OT)->List (Str×eH)->List (Str×eH)
 |[],b=>b
 |(n,k)::r,b=>bH env r (if k==.free then(match env.cells.lookup n with|some a=>(n,a)::b|none=>b) else b)
theorem eT(h:∀y∈scope.names,y.2=.free->∃a,env.cells.lookup y.1=a5 a):closureFor scope env=pure (bH env scope.names []):=by
 unfold closureFor;generalize scope.names=names at h
 suffices H:∀b,(ń names b (λ(x:Str×OT) (r:List (Str×eH))=>if (x.2==ML)=b8 then do let a <-cellOf env x.1;pure (OG ((x.1,a)::r)) else pure (OG r)):Sem (List (Str×eH)))=pure (bH env names b) by
  have:=H [];exact Ŋ (λ(m:Sem (List (Str×eH)))=>m >>= pure) this
 induction names with
 |nil=>intro b;rfl
 |cons y r d =>
  intro b;obtain⟨n,k⟩:=y;rw[VT];have c:=d λy e=>h y (l0 _ e);by_cases hk:(k==ML)=b8
  ·obtain⟨a,f⟩:=h (n,k) mN (by simpa using hk);have g:env.cells.lookup n=a5 a:=f;simp only[hk,if_true,cellOf,g,bH];exact c _
  ·simp only[hk,if_false,bH];exact c _
theorem fk:∀(names:List (Str×OT)) (b:List (Str×eH)),(∀n c,b.lookup n=a5 c->env.cells.lookup n=a5 c)->∀n c,(bH env names b).lookup n=a5 c->env.cells.lookup n=a5 c
 |[],_,h=>h
 |(m,k)::r,b,h=>by
  unfold bH;refine fk r _ λn c e=>?_;by_cases hk:(k==ML)=b8
  ·rw[ņ hk]at e;cases q:env.cells.lookup m with
   |none=>rw[q]at e;exact h n c e
   |some a =>
    rw[q]at e;simp only[t4]at e;cases d:n==m with
    |true =>
     rw[d]at e;have f:n=m:=by simpa using d
     subst f;simp only at e;rw[q];exact e
    |false=>rw[d]at e;exact h n c e
  ·rw[Ň hk]at e;exact h n c e
theorem jF(d:env.cells.lookup n=a5 a):∀(names:List (Str×OT)) (c:List (Str×eH)),c.lookup n=a5 a->(bH env names c).lookup n=a5 a
 |[],_,h=>h
 |(m,k)::r,c,h=>by
  unfold bH;refine jF d r _ ?_;by_cases hk:(k==ML)=b8
  ·rw[ņ hk];cases q:env.cells.lookup m with
   |none=>exact h
   |some b =>
    simp only[t4];cases e:n==m with
    |true =>
     have f:n=m:=by simpa using e
     subst f;rw[d]at q;cases q;rfl
    |false=>exact h
  ·rw[Ň hk];exact h
theorem gZ(b:env.cells.lookup n=a5 a):∀(names:List (Str×OT)) (c:List (Str×eH)),(n,ML)∈names->(bH env names c).lookup n=a5 a
 |[],_,h=>by cases h
 |(m,k)::r,c,h=>by
  unfold bH;rcases d7.mp h with e|e
  ·cases e;refine jF b r _ ?_;rw[ņ (by decide),b];simp[t4]
  ·exact gZ b r _ e
theorem bT{env:Env}:∀{names:List (Str×OT)}{x:Str}{k:OT},
  (names.map λ(n,k)=>if (k==ML&&env.scope.kind==.function&&env.kindOf n==a5 .cell) then(n,NameKind.cell) else(n,k)).lookup x=a5 k ->
  names.lookup x=a5 k\/(k=.cell/\names.lookup x=a5 .free)
 |[],_,_,h=>by simp at h
 |(n,k0)::r,x,k,h=>by
  have e:=@bT env r x k;rw[et]at h;by_cases b:(k0==ML&&env.scope.kind==.function&&env.kindOf n==a5 .cell)=b8
  ·simp only[ņ b,t4]at h;cases a:x==n with
   |true =>
    rw[a]at h;have f:k0=.free:=by
     have:=(LO.mp (LO.mp b).1).1;simpa using this
    refine .inr ⟨by simpa using h.symm,by simp[t4,a,f]⟩
   |false =>
    rw[a]at h;rcases e h with z|⟨c,d⟩
    ·exact .inl (by simp[t4,a,z])
    ·exact .inr ⟨c,by simp[t4,a,d]⟩
  ·simp only[Ň b,t4]at h;cases a:x==n with
   |true=>rw[a]at h;exact .inl (by simpa[t4,a] using h)
   |false =>
    rw[a]at h;rcases e h with z|⟨c,d⟩
    ·exact .inl (by simp[t4,a,z])
    ·exact .inr ⟨c,by simp[t4,a,d]⟩
noncomputable def JY(X:Cx)(N:List Str)(scope:LS)(C:eH)(s:d8)(H:Hp)(ex:List eH):Cx where
 prog:=X.prog
 w:=X.w
 K:=X.K
 mg:=X.mg
 base:=X.base
 A:=X.A
 N:=N
 s₀:=s
 H₀:=H
 env:=Wr scope (bH X.env scope.names []) C X.env
 outer:=X.stack
 stack:=X.stack
 ex:=ex
 fn:=λ_=>cc
 calm:=X.calm
 pn:=[]
 xe:=λ_ _=>False
def eI(D N:List Str):Prop:=D.length=N.length/\∀(i:Nat) (y:Str),D[i]?=a5 y->N[i]?=a5 y\/y="."\/y=".."
theorem eI.refl(N:List Str):eI N N:=⟨rfl,λ_ _ h=>.inl h⟩
theorem eI.set{D N:List Str}(h:eI D N)(j:Nat){m:Str}(b:m="."\/m=".."):eI (D.set j m) N:=by
 refine⟨by rw[í];exact h.1,λi y e=>?_⟩;by_cases a:j=i
 ·subst a;rw[List.getElem?_set,ņ rfl]at e;split at e
  ·cases e;exact .inr b
  ·cases e
 ·rw[hQ a]at e;exact h.2 i y e
structure eJ(X:Cx)(N own:List Str)(scope:LS):Prop where
 kind:scope.kind=.function
 Ll:∀y∈scope.names,y.2≠.cell
 names:∀y∈scope.names,y.2=.local->scope.names.lookup y.1=a5 .local
 nd:N.Nodup
 pre:N.take own.length=own
 loc:∀y∈scope.names,y.2=.local->y.1∈own\/y.1=".0"
 WL:(".0":Str)∉N
 tail:eI (N.drop own.length) X.N
 free:∀y∈scope.names,y.2=.free->X.env.scope.names.lookup y.1=a5 .cell\/X.env.scope.names.lookup y.1=a5 .free
 dot:∀y∈scope.names,y.1≠"."/\y.1≠".."
theorem mem_lookup{names:List (Str×OT)}(h:names.lookup x=a5 k):(x,k)∈names:=PySem.mem_of_lookup h
theorem eJ.cells(S:eJ X N c scope)(b:X.Ok):∀y∈scope.names,y.2=.free->∃a,X.env.cells.lookup y.1=a5 a:=λy d e=>by
 rcases S.free y d e with z|z
 ·exact b.has y.1 (.inl z)
 ·exact b.has y.1 (.inr z)
theorem xG(S:eJ X N d scope)(I:Inv X A σ H s)
  (G:s.heap.objs.size<=C) (SG:s4.os=s.os) (hg:s4.gens=s.gens) (keep:∀b o,s.heap.get? b=a5 o->s4.heap.get? b=a5 o) (ns:∃m,s4.heap.Ns C m)
  (f:∀b∈ex,iu X A H b/\b<s.heap.objs.size):Inv (JY X N scope C s H ex) [] (i5 d.length bD++σ) H s4:=by
 obtain⟨m0,Q8⟩:=ns;have sub:=fk (env:=X.env) scope.names [] (λn c e=>by simp at e);have SH:∀b∈ex,b<C:=λb g=>i3 (f b g).2 G;have tl:d.length<=N.length:=by have:=Ŋ J7 S.pre;rw[C0]at this;lia
 refine⟨⟨I.ok.mod,?_,I.ok.glob,I.ok.blt,G,λx y c B w=>I.ok.inj x y c (sub x c B) (sub y c w),λx hx=>?_,λx c h _=>absurd (show cc=b8 from h) (by decide),I.ok.hd,I.ok.frames,.inl rfl,λb g=>⟨hY (SH b g),λx c e=>?_⟩,λb o e=>I.bs b o e,?_,λb o e g=>?_,λb g=>?_,I.stack,I.iq⟩,
  SG,(by rw[hg];exact I.bare),Un.kept keep,⟨m0,Q8,λi y v B w h3=>?_⟩,λx c e=>?_,I.IQ.fresh G,λx c e=>I.Jk x c (sub x c e),λp hp=>absurd (show p∈([]:List (eH×Obj)) from hp) (by simp),I.IQ.kept keep,?_⟩
 ·show(TU scope X.env).kind=.function;exact S.kind
 ·
  have SJ:(TU scope X.env).names.lookup x=a5 .cell\/(TU scope X.env).names.lookup x=a5 .free:=hx;have t:scope.names.lookup x=a5 .free:=by
   rcases SJ with z|z
   ·rcases bT z with q|⟨_,q⟩
    ·exact absurd rfl (S.Ll _ (mem_lookup q))
    ·exact q
   ·rcases bT z with q|⟨q,_⟩
    ·exact q
    ·cases q
  obtain⟨a,ha⟩:=S.cells I.ok (x,.free) (mem_lookup t) rfl;exact⟨a,gZ ha scope.names [] (mem_lookup t)⟩
 ·exact(f b g).1.2.2.2.2.1 x c (sub x c e)
 ·exact wh I.ok.MU I.sz
 ·obtain⟨f0,O,Q,T,f4,f5⟩:=(f b g).1;rcases T with z|z
  ·exact I.ok.LU b o e z
  ·exact absurd (i3 (fx e) (wh I.ok.MU z)) (uv _)
 ·intro Ka;obtain⟨f0,O,Q,T,f4,f5⟩:=(f b g).1;rcases d7.mp (I.kA b Ka) with z|z
  ·exact O z
  ·exact Q z
 ·
  have J:d.length<=i:=by
   by_cases J:i<d.length
   ·rw[u3 (by simpa using J),Ki]at w;split at w<;>cases w
   ·lia
  rw[rr (by simpa using J),Qh]at w;have WM:(N.drop d.length)[i - d.length]?=a5 y:=by
   rw[Lm];have e:d.length+(i - d.length)=i:=by lia
   rw[e];exact B
  have Y:(TU scope X.env).names.lookup y=a5 .local\/(TU scope X.env).names.lookup y=a5 .cell\/(TU scope X.env).names.lookup y=a5 .free:=h3;have t:scope.names.lookup y=a5 .free:=by
   rcases Y with z|z|z
   ·rcases bT z with q|⟨q,_⟩
    ·exfalso
     have KG:y∈d:=by
      rcases S.loc (y,.local) (mem_lookup q) rfl with z|z
      ·exact z
      ·have z':y=".0":=z;exact absurd (my B) (by rw[z'];exact S.WL)
     obtain⟨j,hj,ej⟩:=QR KG;have LK:N[j]?=a5 y:=by
      have e1:(N.take d.length)[j]?=a5 y:=by rw[S.pre,ri hj,ej]
      rw[XQ hj]at e1;exact e1
     have:=ir S.nd LK B;lia
    ·cases q
   ·rcases bT z with q|⟨_,q⟩
    ·exact absurd rfl (S.Ll _ (mem_lookup q))
    ·exact q
   ·rcases bT z with q|⟨q,_⟩
    ·exact q
    ·cases q
  have hX:X.N[i - d.length]?=a5 y:=by
   rcases S.tail.2 _ _ WM with e|e|e
   ·exact e
   ·exact absurd e (S.dot _ (mem_lookup t)).1
   ·exact absurd e (S.dot _ (mem_lookup t)).2
  obtain⟨m,hn,hl⟩:=I.loc;have hv:X.env.scope.names.lookup y=a5 .cell\/X.env.scope.names.lookup y=a5 .free:=S.free (y,.free) (mem_lookup t) rfl;obtain⟨u,r,l⟩:=hl _ y v hX w (.inr hv);refine⟨u,r,?_⟩;rcases l with⟨k,_⟩|⟨k,c,e,z⟩
  ·have k':X.env.scope.names.lookup y=a5 .local:=k;rcases hv with q|q<;>(rw[k']at q;cases q)
  ·have hk:(TU scope X.env).names.lookup y=a5 .cell\/(TU scope X.env).names.lookup y=a5 .free:=by
    rcases Y with q|q|q
    ·rcases bT q with D|⟨D,_⟩
     ·rw[t]at D;cases D
     ·cases D
    ·exact .inl q
    ·exact .inr q
   obtain⟨o,ho,L⟩:=z;exact .inr ⟨hk,c,gZ e scope.names [] (mem_lookup t),o,keep c o ho,L⟩
 ·obtain⟨v,o,ho,L⟩:=I.cell x c (sub x c e);exact⟨v,o,keep c o ho,L⟩
 ·rw[i0,Qh,I.len];have e:N.length=d.length+(N.drop d.length).length:=by rw[Ù];lia
  show _=N.length;rw[e,S.tail.1]
theorem pV(I:Inv X f σ H s)
  (d:Inv (JY X N scope C s H ex) Y σ' k s4) (w:s.heap.objs.size<=D) (x:s.heap.objs.size<=C) (y:D≠C) (h:k D=bD) (rv:Vals m p) (A:s4.heap.PlainList D p.toArray) (hl:m.length<=cL)
  (i:qs C s4.heap h') (l:∀b∈ex,iu X f H b):Inv X f σ (upd k D (.lst m)) {s4 with heap:=h' }:=by
 have r:k C=bD:=d.free;have lt:∀{b:eH} {o:Obj},s.heap.get? b=a5 o->b≠C/\b≠D:=λe=>⟨hY (i3 (fx e) x),hY (i3 (fx e) w)⟩
 refine I.xf (s':={s4 with heap:=h' }) (ch:=ex) d.os ⟨λb o e n j g=>?_,λb o e n j g=>?_,λb o e n g=>?_,λb o e g=>?_,λb xs e=>?_,λb o u e=>?_,λb ps e=>?_⟩ (λa o e=>?_) d.bare λb j=>?_
 ·exact(i.2 b (lt e).1).trans (d.base.keep b o e n j g)
 ·obtain⟨B,q⟩:=d.base.slot b o e n j g;exact⟨B,(i.2 b (lt e).1).trans q⟩
 ·rw[au (lt e).2];exact d.base.free b o e n g
 ·obtain⟨G,q⟩:=d.base.there b o e g;exact⟨G,(i.2 b (lt e).1).trans q⟩
 ·have q:=d.base.fT b xs e;rw[au (bc q h)];exact q
 ·have q:=d.base.JR b o u e;rw[au (bc q h)];exact q
 ·obtain⟨more,q⟩:=d.base.JW b ps e;exact⟨more,by rw[au (bc q h)];exact q⟩
 ·by_cases t:a=D
  ·subst t;rw[ay]at e;cases e;obtain⟨n,q⟩:=A;exact⟨hl,p,n,rv,(i.2 _ y).trans q⟩
  ·rw[au t]at e;refine(d.IQ a o e).fM (λc v J q=>(i.2 c ?_).trans q) (λc q=>?_) λc xs q=>?_
   ·rintro rfl;rcases J with z|z
    ·rw[<-z,r]at e;cases e
    ·rw[r]at z;cases z
   ·rw[au (bc q h)];exact q
   ·rw[au (bc q h)];exact q
 ·obtain⟨f0,L,f2,O,Q,T⟩:=l b j;exact⟨O,L,Q,T⟩
section
theorem oD(I:Nat->d8->Prop)
  (b:∀n s,I n s->d6 (ez prog w) A (TV it) (λr d=>match r with
   |none=>R (.ok .next) d
   |some v=>d6 (ez prog w) A (Ux a it v) (λ_ d=>d6 (ez prog w) A (Ss a env v) (λ_ j =>
     d6 (ez prog w) A (ń f b8 λc r=>if r=b8 then do let ok <-isTrue c env (ve c env);pure (OG ok) else pure (OG r)) (λok i =>
      if ok=b8 then d6 (ez prog w) A (ve elt env) (λx k =>
       d6 (ez prog w) A (NQ (.builtin "list.append") [acc,x]) (λ_ l=>∃m,m<n/\I m l) (S0 (ez prog w) A env λe s'=>R (.error e) s') k) (S0 (ez prog w) A env λe s'=>R (.error e) s') i
      else ∃m,m<n/\I m i) (S0 (ez prog w) A env λe s'=>R (.error e) s') j) (S0 (ez prog w) A env λe s'=>R (.error e) s') d) (S0 (ez prog w) A env λe s'=>R (.error e) s') d) (S0 (ez prog w) A env λe s'=>R (.error e) s') s)
  (n:Nat) (h:I n s) :
  Qk (ez prog w) A (.compLoop (.ListComp elt [⟨a,g,f,0⟩] scope pos) 0 it acc env) R s:=by
 refine codeAny_loop rfl I (λn s q=>?_) n h;show d6 _ A ((compTurn (.ListComp elt [⟨a,g,f,0⟩] scope pos) 0 it acc env).onRaise (λx=>do noteFrame x env;theTreesLotGoes x)) _ _ s;refine wpAny_noted ?_;rw[compTurn_list];refine b6 (ZF (b6 (mh (b n s q) (λr d o=>?_) λ_ _ h'=>h')));cases r with
 |none=>exact df o
 |some v =>
  refine b6 (mh o (λ_ B t=>?_) λ_ _ h'=>h');refine b6 (mh t (λ_ j u=>b6 (mh u (λok i p=>?_) λ_ _ h'=>h')) λ_ _ h'=>h');cases ok with
  |false=>exact df ⟨rfl,p⟩
  |true =>
   exact b6 (b6 (mh p (λx k y=>b6 (mh y (λ_ l z=>df (df ⟨rfl,z⟩)) λ_ _ h'=>h')) λ_ _ h'=>h'))
end
def MZ(X:Cx)(b:List mf)(t:TT):Prop :=
 ∀(a:List (eH×Obj)) (s:d8) (σ:St) (H:Hp) (Q:Bool->Hp->Prop),Inv X a σ H s->t σ H Q ->
  d6 (ez X.prog X.w) X.A (ń b b8 λc r=>if r=b8 then do let d <-isTrue c X.env (ve c X.env);pure (OG d) else pure (OG r)) (TP X a σ Q) X.xe s
def Ip:TT:=λ_ H Q=>Q b8 H
theorem tK:MZ X [] Ip:=λ_ _ _ H _ I h=>wpAny_tests_nil ⟨H,I,h⟩
theorem tL(h:PT X c t):MZ X [c] t:=λa s σ H Q I q=>wpAny_tests_one (h a s σ H Q I q)
def tM(k:Nat)(J:It)(g:TG)(l:TT)(te:TE)(Q:VK)(σ:St)(n:Hp):Prop :=
  ∃W:Nat->Nat->List V->Hp->Prop,(∃m,W 0 m [] n)/\∀i m a H,W i m a H->a.length<=cL /\
    ((J.stop i H/\∀p,H p=bD->Q (.ref p) (upd H p (.lst a))) \/
     (J.go i H/\∃d:List V->Hp->Prop,(∀f H',d f H'->∃h,h<m/\W (i+1) h f H')/\∀x H',J.Q0 i H x H'->g x (i5 k bD++σ) H' λe o=>∃c:St,c.length=k/\e=c++σ /\
        l e o λb j=>if b=b8 then te e j λy q=>d (a++[y]) q else d a j))
def xH(k:Nat)(a:TI)(g:TG)(b:TT)(te:TE):TE:=λσ H Q=>a σ H λJ c=>tM k J g b te Q σ c
section
theorem xI
  (S:eJ X N B scope) (hc:X.calm=b8) (hg:∀C s H ex,PG (JY X N scope C s H ex) tg g) (hf:∀C s H ex,MZ (JY X N scope C s H ex) al tt) (he:∀C s H ex,PE (JY X N scope C s H ex) elt te)
  (I:Inv X am σ H s) (T:Turn X.prog X.w X.K tg J G it tn) (st:tn 0 s.heap) (f2:∀b∈G,iu X am H b) (W:tM B.length J g tt te Q σ H)
  (hD:@Eq Nat D s.heap.objs.size) (hC:@Eq Nat C (s.heap.objs.size+1)) (SG:s4.os=s.os) (WO:s4.gens=s.gens) (keep:∀b o,s.heap.get? b=a5 o->s4.heap.get? b=a5 o) (ns:∃m,s4.heap.Ns C m) (pl:s4.heap.PlainList D #[])
  (an:∀s5 Y O k,Inv (JY X N scope C s H G) [] (i5 B.length bD++σ) Y s5->Y D=bD->Vals O k->s5.heap.PlainList D k.toArray->O.length<=cL->(∀p,Y p=bD->Q (.ref p) (upd Y p (.lst O)))->R (.ok .next) s5) :
  Qk (ez X.prog X.w) X.A (.compStart (.ListComp elt [⟨tg,ap,al,0⟩] scope pos) 0 (.ref it) (.ref D) (Wr scope (bH X.env scope.names []) C X.env)) R s4:=by
 have M0:∀b∈G,@Qn Nat _ b s.heap.objs.size:=λb h=>by
  obtain⟨o,e,_⟩:=T.obj 0 s.heap st b h;exact fx e
 have I4:Inv (JY X N scope C s H G) [] (i5 B.length bD++σ) H s4:=xG S I ⋯ SG WO keep ns λb h=>⟨f2 b h,M0 b h⟩
 have O2:tn 0 s4.heap:=T.keep 0 s.heap s4.heap st λb _ o e=>keep b o e;have nD:H D=bD:=I.IQ.fresh ⋯;obtain⟨W,⟨m0,w0⟩,Þ⟩:=W;generalize l:JY X N scope C s H G=f at I4 an;have eP:f.prog=X.prog:=by rw[<-l];rfl
 have ew:f.w=X.w:=by rw[<-l];rfl
 have eK:f.K=X.K:=by rw[<-l];rfl
 have ec:f.calm=b8:=by rw[<-l];exact hc
 have eA:f.A=X.A:=by rw[<-l];rfl
 have ee:f.env=Wr scope (bH X.env scope.names []) C X.env:=by rw[<-l];rfl
 have SN:f.xe=λ_ _=>False:=by rw[<-l];rfl
 have el:f.env.locals=C:=by rw[ee];rfl
 have SO:PG f tg g:=by rw[<-l];exact hg _ _ _ _
 have SQ:MZ f al tt:=by rw[<-l];exact hf _ _ _ _
 have SR:PE f elt te:=by rw[<-l];exact he _ _ _ _
 have s0:f.s₀=s:=by rw[<-l];rfl
 have PU:f.pn=[]:=by rw[<-l];rfl
 have SS:∀{H':Hp} {o:Obj},(∀b∈G,H' b=bD)->∀b∈G,iu f [(D,o)] H' b:=λ{H' o} hn b h=>by
  have ex:f.ex=G:=by rw[<-l];rfl
  refine⟨hn b h,?_,?_,.inl (by rw[ex];exact h),λx c e=>?_,λp L=>?_⟩
  ·rw[el];have:=M0 b h;exact hY (by show @Qn Nat _ b C;lia)
  ·have e1:f.fs=JA X.stack:=by rw[<-l];rfl
   rw[e1];intro z;obtain⟨f0,f1,WQ,f3,f4,f5⟩:=f2 b h;rcases d7.mp (I.kA b z) with q|q
   ·exact f1 q
   ·exact WQ q
  ·have e1:f.env.cells=bH X.env scope.names []:=by rw[ee];rfl
   rw[e1]at e;exact(f2 b h).2.2.2.2.1 x c (fk scope.names [] (λn c e=>by simp at e) x c e)
  ·rw[PU,i9]at L;have:p=(D,o):=by simpa using L
   subst this;have:=M0 b h;exact KU (by show @Qn Nat _ b D;lia)
 have SU:∀{σ':St} {H':Hp} {s':d8} {o:Obj},Inv f [] σ' H' s'->H' D=bD->s'.heap.get? D=a5 o->(∀v,o.data≠.cell v)->Inv f [(D,o)] σ' H' s':=λ{σ' H' s' o} I' n e d =>
  I'.eh λp L=>by
   have:p=(D,o):=by simpa using L
   subst this;refine⟨e,n,?_,?_,d⟩
   ·rw[el];exact hY (by show @Qn Nat _ D C;lia)
   ·have e1:f.fs=JA X.stack:=by rw[<-l];rfl
    rw[e1];intro z;have zz:(D:eH)∈JA X.stack:=z;rcases d7.mp (I.kA D zz) with q|q
    ·have:=I.lt;rw[<-q]at this;exact absurd this (by show ¬@Qn Nat _ D s.heap.objs.size;lia)
    ·exact I.Dm (a:=D) ⋯ q
 have start:∀s':d8,s'=s4->Qk (ez X.prog X.w) X.A (.compLoop (.ListComp elt [⟨tg,ap,al,0⟩] scope pos) 0 (.ref it) (.ref D) (Wr scope (bH X.env scope.names []) C X.env)) R s':=by
  rintro s' rfl;refine oD (λn s'=>∃i O k H',Inv f [] (i5 B.length bD++σ) H' s'/\tn i s'.heap/\(∀b∈G,H' b=bD)/\H' D=bD/\Vals O k/\s'.heap.PlainList D k.toArray/\W i n O H') ?_ m0
   ⟨0,[],[],H,I4,O2,λb h=>(f2 b h).1,nD,.nil,pl,w0⟩
  rintro n s3 ⟨i,O,k,H3,I3,JB,PF,U5,Q9,⟨nn,WR⟩,w3⟩;obtain⟨ab,LL⟩:=Þ i n O H3 w3;have IP:=SU I3 U5 WR (λv z=>by have z':Data.seq _ _=Õ v:=z;cases z');rcases LL with⟨ar,qn⟩|⟨go,NN,U6,as⟩
  ·have d:=T.done f eP ew eK ec i _ s3 _ H3 (S0 (ez X.prog X.w) X.A (Wr scope (bH X.env scope.names []) C X.env) λe s'=>R (.error e) s') IP (SS PF) JB ar;rw[eA]at d;refine IX d λr s4 SV=>?_;obtain⟨hr,I5⟩:=SV;subst hr;have e5:=(I5.pin (D,({cls:=.type "list",data:=.seq k.toArray nn}:Obj)) (by rw[PU];simp)).1;exact an s4 H3 O k (I5.eh λp L=>by cases L) U5 Q9 ⟨nn,e5⟩ ab qn
  ·have d:=T.item f eP ew eK ec i _ s3 _ H3 (S0 (ez X.prog X.w) X.A (Wr scope (bH X.env scope.names []) C X.env) λe s'=>R (.error e) s') IP (SS PF) JB go;rw[eA]at d;refine IX d λr s4 SW=>?_;obtain⟨u,hr,h4⟩:=SW;subst hr;refine IX h4 λ_ s5 SX=>?_;obtain⟨x,Y,I5,r5,y5,L8,Sf⟩:=SX;have Zz:Y D=bD:=(I5.pin (D,({cls:=.type "list",data:=.seq k.toArray nn}:Obj)) (by rw[PU];simp)).2.1;have Sg:=I5.pinned (SS Sf) (T.obj _ _ L8);have a6:=SO _ s5 _ Y x u _ Sg r5 (as x Y y5);rw[eP,ew,eA,ee,SN]at a6;refine mh a6 (λ_ s6 ⟨σ6,H6,I6,q6⟩=>?_) λ_ _ z=>MT z;obtain⟨ow,a0,rfl,q6⟩:=q6;have a7:=SQ _ s6 _ H6 _ I6 q6;rw[eP,ew,eA,ee,SN]at a7;refine mh a7 (λb s7 ⟨H7,I7,q7⟩=>?_) λ_ _ z=>MT z;have ac:∀{s8:d8} {t:Hp} {KH:List V} {its':List d3} {nn':Nat},Inv f [] (ow++σ) t s8->tn (i+1) s8.heap->(∀b∈G,t b=bD)->t D=bD->Vals KH its'->s8.heap.PlainList D its'.toArray->(∃m',m'<n/\W (i+1) m' KH t) ->
     ∃m,m<n/\∃i O k H',Inv f [] (i5 B.length bD++σ) H' s8/\tn i s8.heap/\(∀b∈G,H' b=bD)/\H' D=bD/\Vals O k/\s8.heap.PlainList D k.toArray/\W i m O H':=λ{s8 t KH its' nn'} I8 WS WT n8 WU WV w8=>by
    obtain⟨m',hm,w8⟩:=w8;refine⟨m',hm,i+1,KH,its',t,I8.weak (by simp[a0]) (λj v e=>?_),WS,WT,n8,WU,WV,w8⟩;by_cases hj:j<B.length
    ·rw[u3 (by simpa using hj),Ki]at e;split at e<;>cases e
    ·rw[rr (by simpa using(Nat.not_lt.mp hj)),Qh]at e;rw[rr ⋯,a0];exact e
   have ag:∀{σ':St} {t:Hp} {s8:d8},Inv f ([(D,({cls:=.type "list",data:=.seq k.toArray nn}:Obj))]++kD G s5.heap) σ' t s8->s8.heap.get? D=a5 {cls:=.type "list",data:=.seq k.toArray nn}/\t D=bD/\tn (i+1) s8.heap/\∀b∈G,t b=bD:=λ{σ' t s8} I8=>by
    have p1:=I8.pin (D,({cls:=.type "list",data:=.seq k.toArray nn}:Obj)) (by rw[PU];simp);refine⟨p1.1,p1.2.1,T.keep _ _ _ L8 λb h o e=>(I8.pin (b,o) (mA _ (mA _ (fh h e)))).1,λb h=>?_⟩;obtain⟨o,e,d⟩:=T.obj _ _ L8 b h;exact(I8.pin (b,o) (mA _ (mA _ (fh h e)))).2.1
   cases b with
   |false =>
    rw[Ň i7]at q7 ⊢;obtain⟨p1,p2,p3,p4⟩:=ag I7;exact ac (nn':=0) (I7.eh λp L=>by cases L) p3 p4 p2 Q9 ⟨nn,p1⟩ (U6 _ _ q7)
   |true =>
    rw[ņ rfl]at q7 ⊢;have a8:=SR _ s7 _ H7 _ I7 q7;rw[eP,ew,eA,ee,SN]at a8;refine mh a8 (λy s8 ⟨yv,t,I8,r8,q8⟩=>?_) λ_ _ z=>MT z;obtain⟨p1,p2,p3,p4⟩:=ag I8;have hsz:k.toArray.size<=cL:=by rw[hH,<-Q9.length];exact ab
    refine wpAny_list_append_plain (hsz:=hsz) ⟨nn,p1⟩ λh9 WW U7=>?_;have WX:Inv f [] (ow++σ) t s8:=I8.eh λp L=>by cases L
    have Q_:∀x c,f.env.cells.lookup x=a5 c->c≠D:=λx c e=>by
     have e1:f.env.cells=bH X.env scope.names []:=by rw[ee];rfl
     rw[e1]at e;have q:=fk scope.names [] (λn c e=>by simp at e) x c e;obtain⟨v,z⟩:=I.cell x c q;have:@Qn Nat _ c s.heap.objs.size:=z.lt;exact hY (by show @Qn Nat _ c D;lia)
    have I9:Inv f [] (ow++σ) t {s8 with heap:=h9,toks:=s8.toks}:=WX.turned (it:=D) (λb o h e=>(U7.2 b h).trans e) p2 (by rw[el];exact hY (by show @Qn Nat _ D C;lia)) (.inr (by rw[s0];show @Ė Nat _ s.heap.objs.size D;lia)) Q_ (λp L=>by rw[PU]at L;cases L);have WY:(k++[y]).toArray=k.toArray.push y:=by simp
    refine ac (nn':=0) (s8:={s8 with heap:=h9,toks:=s8.toks}) I9 (T.keep _ _ _ p3 λb h o e=>(U7.2 b ?_).trans e) p4 p2 (Q9.append (.cons r8 .nil)) (by rw[WY];exact WW) (U6 _ _ q8);have:=M0 b h;exact hY (by show @Qn Nat _ b D;lia)
 exact codeAny_compStart_list (start _ rfl) (T.self _ _ _ _ _ O2 (start _ rfl))
theorem kO{RR:d3->eH->Result->d8->Prop}
    (S:eJ X N d scope) (L:X.calm=b8) (O:∀C s H ex,PG (JY X N scope C s H ex) x g) (Y:∀C s H ex,MZ (JY X N scope C s H ex) m tt) (he:∀C s H ex,PE (JY X N scope C s H ex) elt te)
 (I:Inv X f σ H s) (T:Turn X.prog X.w X.K x J z it tn) (st:tn 0 s.heap) (f2:∀b∈z,iu X f H b) (W:tM d.length J g tt te Q σ H)
    (n:∀D C h c i k,@Eq Nat D s.heap.objs.size->@Eq Nat C (s.heap.objs.size+1)->Inv (JY X N scope C s H z) [] (i5 d.length bD++σ) c h->c D=bD->Vals i k->h.heap.PlainList D k.toArray->i.length<=cL->(∀p,c p=bD->Q (.ref p) (upd c p (.lst i)))->RR (.ref D) C (.ok .next) h) :
    d6 (ez X.prog X.w) X.A (Č []) (λacc s₃=>d6 (ez X.prog X.w) X.A (newFunctionEnv scope X.env.globals (bH X.env scope.names []) [] X.env.qual bD .none (a5 X.env)) (λB s₄ =>
      Qk (ez X.prog X.w) X.A (.compStart (.ListComp elt [⟨x,G,m,0⟩] scope pos) 0 (.ref it) acc {B with scope:=TU scope X.env}) (RR acc B.locals) s₄) E s₃) E s:=by
  refine x3 (wpAny_newFunctionEnv S.Ll (by intro y hy;simp at hy) (λq r l=>?_) S.kind)
  dsimp only at r l ⊢
  generalize t:s.heap.push {cls:=.type "list",dict:=bD,data:=.seq ([]:List d3).toArray}=j at r l ⊢;have u:j.objs.size=s.heap.objs.size+1:=by rw[<-t,WE]
  have SM:s.heap.objs.size≠j.objs.size:=by rw[u];exact hY (OJ _)
  have a:∀b:eH,b<s.heap.objs.size->b≠j.objs.size:=λb hb=>hY (by have Ka:@Qn Nat _ b s.heap.objs.size:=hb;show @Qn Nat _ b j.objs.size;lia);have v:∀b o,s.heap.get? b=a5 o->q.get? b=a5 o:=λb o e=>l.extBut b o (a b (fx e)) (c4 _ (t▸c4 _ e));have JO:q.PlainList s.heap.objs.size #[]:=⟨_,l.extBut _ _ SM (c4 _ (t▸gj _ rfl))⟩
  exact xI (s:=s) (s4:={s with heap:=q,toks:=s.toks+([]:List (Str×d3)).length}) (C:=j.objs.size) (D:=s.heap.objs.size) S L O Y he I T st f2 W rfl u rfl rfl v ⟨_,r⟩ JO
    λh c i k I5 n5 PX PY PZ q5=>n _ _ h c i k rfl u I5 n5 PX PY PZ q5
theorem A0(S:eJ X N c scope)(m:X.calm=b8)(n:PI X f a o)(p:∀C s H ex,PG (JY X N scope C s H ex) f g)(q:∀C s H ex,MZ (JY X N scope C s H ex) d r)(t:∀C s H ex,PE (JY X N scope C s H ex) elt te)
  (hs:∀x,Mb a X.env x=pure x:=by intro _;rfl):PE X (.ListComp elt [⟨f,a,d,0⟩] scope pos) (xH c.length o g r te):=by
 intro b s σ H Q I h;rw[eval_ListComp];refine ZI (use:=bD) (cl:=bH X.env scope.names []) rfl hs (eT (S.cells I.ok)) S.kind S.names ?_;refine IX (n b s σ H _ I h) λv s1 u=>IX u λQ1 s2 y=>?_;obtain⟨it,fp,tn,J,H2,e,i,T,st2,j,W⟩:=y;subst e;refine kO (RR:=λacc C=>compPost (ez X.prog X.w) X.A X.xe bD (EP X b σ Q) acc C) S m p q t i T st2 j W ?_;intro D C s5 H5 ys A' z hC k l B G L O;obtain⟨Y,S3,_⟩:=k.loc;exact⟨Y,S3,λh' sb=>⟨.ref D,_,pV i k (Y8 z.symm) (by show @Ė Nat _ s2.heap.objs.size C;lia) (hY (by show @Qn Nat _ D C;lia)) l B G L sb j,rfl,O D l⟩⟩
theorem A4(S:eJ X N r scope)(hc:X.calm=b8)(hN:X.N.Nodup)(Ra:X.N[i]?=a5 y)(G:X.env.scope.names.lookup y=a5 .local)
  (hi:PI X n d wi) (hg:∀C s H ex,PG (JY X N scope C s H ex) n g) (hf:∀C s H ex,MZ (JY X N scope C s H ex) k tt) (he:∀C s H ex,PE (JY X N scope C s H ex) elt te)
  (MN:O_ (.ListComp elt [⟨n,d,k,0⟩] scope pos) (a5 (.Name y m)) LV.line X.env=pure b8:=by rfl)
  (hs:∀x,Mb d X.env x=pure x:=by intro _;rfl):PS X (.Assign [.Name y m] (.ListComp elt [⟨n,d,k,0⟩] scope pos) LV) (Dx (xH r.length wi g tt te) (tD i)):=by
 intro f s σ H D I h;rw[exec_Assign_Name_used _ _ _ _ MN];refine b6 (ZF (b6 ?_));show d6 _ X.A (do let _ <-comprehension (.ListComp elt [⟨n,d,k,0⟩] scope pos) scope X.env _ (Č []) cc (ve d X.env) (a5 (Ss (.Name y m) X.env))) _ _ s;refine b6 (mh (ZI (use:=a5 (Ss (.Name y m) X.env)) (cl:=bH X.env scope.names []) (Q:=λ_ s'=>SP X f D .next s') rfl hs (eT (S.cells I.ok)) S.kind S.names ?_) (λ_ s' hq=>df (df hq)) λ_ _ e=>e);refine IX (hi f s σ H _ I h) λv s1 h1=>IX h1 λQ1 s2 h2=>?_;obtain⟨it,fp,tn,J,H2,e,l,T,st2,L,W⟩:=h2;subst e;refine kO (RR:=λacc C=>compPost (ez X.prog X.w) X.A X.xe (a5 (Ss (.Name y m) X.env)) (λ_ s'=>SP X f D .next s') acc C) S hc hg hf he l T st2 L W ?_;intro j C q t O A' hD hC u Y PX PY PZ q5;obtain⟨m5,S3,_⟩:=u.loc;have WZ:t C=bD:=u.free;have B:Inv X f σ (upd t j (.lst O)) {q with heap:=q.heap}:=pV l u (Y8 hD.symm) (by show @Ė Nat _ s2.heap.objs.size C;lia) (hY (by show @Qn Nat _ j C;lia)) Y PX PY PZ (Jo ..) L;show d6 _ X.A (Ss (.Name y m) X.env (.ref j)) _ _ q;refine ĉ (mG (s:=q) B hN Ra (.inl G) (show RelV (.ref j) (.ref j) from rfl) (λs6 I6 ⟨a,sb,ha⟩=>?_) (.inr G));have Q_:@Qn Nat _ X.env.locals C:=by have:@Qn Nat _ X.env.locals s2.heap.objs.size:=l.lt;lia
 have Mk:∀x c,X.env.cells.lookup x=a5 c->c≠C:=λx c e=>by
  obtain⟨v,z⟩:=l.cell x c e;have:@Qn Nat _ c s2.heap.objs.size:=z.lt;exact hY (by show @Qn Nat _ c C;lia)
 have W0:C≠a:=by
  rcases ha with z|z
  ·rw[z];exact KU Q_
  ·exact(Mk _ _ z).symm
 refine⟨m5,S3.sameBut sb W0,λh' P0=>?_⟩;refine⟨σ.set i (a5 (.ref j)),upd t j (.lst O),I6.turned (it:=C) (t':=s6.toks) (λb o hb e=>(P0.2 b hb).trans e) ?_ (KU Q_) (.inr (by have:@Ė Nat _ X.s₀.heap.objs.size s2.heap.objs.size:=l.sz;show @Ė Nat _ X.s₀.heap.objs.size C;lia)) Mk (λp hp=>?_),q5 j Y⟩
 ·rw[au (KU (by show @Qn Nat _ j C;lia))];exact WZ
 ·have:@Qn Nat _ p.1 s2.heap.objs.size:=fx (l.pin p hp).1;exact hY (by show @Qn Nat _ p.1 C;lia)
end
section
end
section
def Gj:V->Option Int->Option Int->Hp->VK->Prop:=λx lo a H Q=>∃z,x=.str z/\z.length<=cL/\Q (.str (PySem.StrLaws.sliceText z lo a)) H
theorem mq(x:Str)(lo a:Option Int)(hz:x.length<=cL):(PySem.StrLaws.sliceText x lo a).length<=cL:=wh (Txt.slice_le x lo a) hz
theorem DW:Nq X Gj:=by
 intro b s σ H x v n o lo c p Q I g hs m e h;obtain⟨z,rfl,hz,q⟩:=h;obtain⟨t,rfl⟩:=g;refine⟨"str",_,ģ.lookup,YR _ _ _,?_⟩;have a:(PySem.StrLaws.sliceText z lo c).length<=cL/\∀t' k,EP X b σ Q (.str (PySem.StrLaws.sliceText z lo c) t') {s with toks:=k}:=⟨mq z lo c hz,λt' k=>⟨.str _,H,I.tok k,⟨_,rfl⟩,q⟩⟩
 cases m with
 |none =>
  cases e with
  |none=>exact Qa (l:=bD) (u:=bD) (st:=bD) hs rfl (Uo a)
  |int j d=>exact Qa (l:=bD) (u:=a5 (j,d)) (st:=bD) hs rfl (Uo a)
 |int i f =>
  cases e with
  |none=>exact Qa (l:=a5 (i,f)) (u:=bD) (st:=bD) hs rfl (Uo a)
  |int j d=>exact Qa (l:=a5 (i,f)) (u:=a5 (j,d)) (st:=bD) hs rfl (Uo a)
theorem iA:∀{a:List Str}{b:List d3},Vals (a.map V.str) b->∃l:List (Str×Tok),b=strValues l/\l.map (·.1)=a
 |[],_,.nil=>⟨[],rfl,rfl⟩
 |y::a,_,.cons r t=>by
  obtain⟨c,rfl⟩:=r;obtain⟨l,rfl,e⟩:=iA t;exact⟨(y,c)::l,rfl,by rw[et,e]⟩
theorem A5:Sr X "str.join" (λx xs H Q=>∃a p b,x=.str a/\xs=[.ref p]/\Jn X.K H p (b.map V.str)/\þ a b=b8/\Q (.str (TY a b)) H):=by
 intro c s σ H x xs v us Q I d rs h;obtain⟨a,p,b,rfl,rfl,f,g,q⟩:=h;obtain⟨t,rfl⟩:=d;obtain⟨u,rfl,r⟩:=vals1 rs;cases r;obtain⟨j,rv,i,hz⟩:=I.list f;obtain⟨l,rfl,e⟩:=iA rv;exact SC.join i.isList e g λt' k=>⟨.str _,H,I.tok k,⟨_,rfl⟩,q⟩
theorem jG:∀{bs:List Bool}{a:List d3},Vals (bs.map V.bl) a->a=bs.map N9
 |[],_,.nil=>rfl
 |b::bs,_,.cons r t=>by
  cases r;rw[jG t];rfl
theorem xJ:X.calm=b8->jE X (.builtin "all") (λxs H Q=>∃(p:eH) (bs:List Bool),xs=[.ref p]/\Jn X.K H p (bs.map V.bl)/\Q (.bl (bs.all id)) H):=by
 intro g d s σ H xs us Q I rs h;obtain⟨p,bs,rfl,j,q⟩:=h;obtain⟨u,rfl,r⟩:=vals1 rs;cases r;obtain⟨n,rv,c,hz⟩:=I.list j;have e:=jG rv;subst e;have k:p<s.heap.objs.size:=by obtain⟨_,_,e,_⟩:=c;exact fx e
 refine call_all_walk (Wc c.isList ?_);refine⟨s.heap.objs.size,[s.heap.objs.size,p],[s.heap.objs.size],(bs.map N9).toArray.size,_,_,λi=>(bs[i]?).getD b8,rfl,Ġ (A:=X.A.in1) (I.ok.hd g) _ p (hY k) (bs.map N9).toArray,
  ⟨⟨_,gj _ rfl,rfl,rfl⟩,c.isList.push _⟩,λi v s' Q' o l f=>?_,λh' m hk=>?_⟩
 ·have a:(bs.map N9)[i]?=a5 v:=by simpa using l
  rw[ko]at a;cases e:bs[i]? with
  |none=>rw[e]at a;cases a
  |some b =>
   rw[e]at a;cases a;simp only[e,Option.getD_some]at f;exact L7 f
 ·have e:((hJ (bs.map N9).toArray.size).all λi=>(bs[i]?).getD b8)=bs.all id:=by
   rw[hH,dt];exact ò bs
  rw[e];exact⟨.bl _,H,I.kept (t':=m) (ó hk),rfl,q⟩
end
section
end
noncomputable def DX(N a:List Str)(scope:LS)(out:List (Str×OT)):Bool :=
 cK (scope.kind=.function)&&scope.names.all (λy=>cK (y.2≠.cell))&&scope.names.all (λy=>cK (y.2≠.local)||decide (scope.names.lookup y.1=a5 .local))&&decide N.Nodup&&cK (N.take a.length=a) &&
 scope.names.all (λy=>cK (y.2≠.local)||decide (y.1∈a)||decide (y.1=".0"))&&cK ((".0":Str)∉N)&&scope.names.all (λy=>cK (y.2≠.free)||decide (out.lookup y.1=a5 .cell)||decide (out.lookup y.1=a5 .free))&&scope.names.all (λy=>cK (y.1≠".")&&cK (y.1≠".."))
theorem xK(c:X.env.scope.names=out)(d:eI (N.drop a.length) X.N)(h:DX N a scope out=b8):eJ X N a scope:=by
 unfold DX at h;simp only[cb,ki,LJ,Ņ]at h;obtain⟨⟨⟨⟨⟨⟨⟨⟨f,g⟩,i⟩,j⟩,k⟩,l⟩,m⟩,n⟩,o⟩:=h;refine⟨f,g,λy b e=>?_,j,k,λy b e=>?_,m,d,λy b e=>?_,o⟩
 ·rcases i y b with z|z
  ·exact absurd e z
  ·exact z
 ·rcases l y b with(z|z)|z
  ·exact absurd e z
  ·exact .inl z
  ·exact .inr z
 ·rw[c];rcases n y b with(z|z)|z
  ·exact absurd e z
  ·exact .inl z
  ·exact .inr z
section
end
section
end
noncomputable def K8(a b:Str):Bool:=!cK (b.cps.toList<a.cps.toList)
theorem j9(a b:Str):K8 a b=b8↔a.cps.toList<=b.cps.toList:=by
 simp only[K8,nH,ō];exact List.not_lt
theorem mS(a b c:Str)(d:K8 a b=b8)(e:K8 b c=b8):K8 a c=b8:=by
 rw[j9]at d e ⊢;exact List.le_trans d e
theorem vF(a b:Str):(K8 a b||K8 b a)=b8:=by
 rw[LJ,j9,j9];exact List.le_total _ _
theorem xM{x y:Str}(h:x.cps.toList=y.cps.toList):x=y:=by
 cases x;cases y;congr
 exact Array.toList_inj.mp h
theorem oE(c:K8 a b=b8)(d:K8 b a=b8):a=b:=by
 rw[j9]at c d;exact xM (List.le_antisymm c d)
noncomputable def aB(l:List Str):List Str:=l.mergeSort K8
theorem bt(l:List Str):(aB l).Perm l:=List.mergeSort_perm l K8
theorem fP(l:List Str):(aB l).Pairwise (λa b=>K8 a b=b8):=List.pairwise_mergeSort mS vF l
theorem iB:∀(l:List Str) (p:Str),risingS p l=b8->(p::l).Pairwise (λa b=>K8 a b=b8)
 |[],p,_=>by simp
 |x::r,p,h=>by
  have h':(!ltCps x.cps.toList p.cps.toList&&risingS x r)=b8:=h;obtain⟨c,g⟩:=LO.mp h';have d:=iB r x g;have f:K8 p x=b8:=by rw[ltCps_eq]at c;exact c
  refine RX.mpr ⟨λy i=>?_,d⟩;rcases d7.mp i with e|e
  ·rw[e];exact f
  ·exact mS _ _ _ f ((RX.mp d).1 y e)
theorem oF(h:sortedS l=b8):l.Pairwise (λa b=>K8 a b=b8):=by
 cases l with
 |nil=>exact .nil
 |cons x r=>exact iB r x h
theorem gk:∀{l m:List Str},l.Perm m->l.Pairwise (λa b=>K8 a b=b8)->m.Pairwise (λa b=>K8 a b=b8)->l=m
 |[],m,c,_,_=>(List.Perm.nil_eq c)
 |x::l,m,c,d,f=>by
  cases m with
  |nil=>exact absurd c.length_eq (by simp)
  |cons y m =>
   obtain⟨g,h⟩:=RX.mp d;obtain⟨b1,i⟩:=RX.mp f;have j:x=y:=by
    have m1:x∈y::m:=c.mem_iff.mp mN;have m2:y∈x::l:=c.mem_iff.mpr mN;rcases d7.mp m1 with e|e
    ·exact e
    ·rcases d7.mp m2 with e'|e'
     ·exact e'.symm
     ·exact oE (g y e') (b1 x e)
   subst j;rw[gk (List.Perm.cons_inv c) h i]
theorem xN(a:l.Perm m)(hs:sortedS l=b8):l=aB m:=gk (a.trans (bt m).symm) (oF hs) (fP m)
theorem eD(a:l.Perm m):aB l=aB m:=gk ((bt l).trans (a.trans (bt m).symm)) (fP l) (fP m)
theorem bx(l:List Str):(aB l).length=l.length:=(bt l).length_eq
section
theorem cI:∀{a:List Str}{b:List d3},Vals (a.map V.str) b->Qm b a
 |[],_,.nil=>.nil
 |y::a,_,.cons r t=>by
  obtain⟨c,rfl⟩:=r;exact .cons y c (cI t)
theorem dA:∀{a:List d3}{b:List Str},Qm a b->Vals (b.map V.str) a
 |_,_,.nil=>.nil
 |_,_,.cons x t h=>.cons ⟨t,rfl⟩ (dA h)
theorem fm(hc:d6 (ez prog w) A.in1 (Z_ x) (λvs s1=>∃ss,Qm vs ss/\vs.length<64 /\
      ∀(h':Jy) (Jq:List d3) (e:Nat),(∀b o,s1.heap.get? b=a5 o->h'.get? b=a5 o)->h'.get? s1.heap.objs.size=a5 (zy "list" Jq.toArray e)->Qm Jq (aB ss)->Q (.ref s1.heap.objs.size) {s1 with heap:=h' }) E s) :
    d6 (ez prog w) A (NQ (.builtin "sorted") [x]) Q E s:=by
  refine WG kind_sorted plain_sorted entry_sorted (args_sorted1 _) ?_;unfold M6.«sorted»;refine b6 (m:=checkCount "sorted" 1 1 _) (df ?_);refine b6 (mh hc (λvs s1 h1=>?_) λ_ _ e=>e);obtain⟨ss,hS,Le,h⟩:=h1
  refine wpAny_bind (wpAny_newList ?_ (by have : (64 : Nat) ≤ sizeLine := by decide
                                          lia))
  have MW:(s1.heap.push (zy "list" vs.toArray 0)).get? s1.heap.objs.size=a5 (zy "list" vs.toArray 0):=gj _ rfl;show d6 _ _ _ _ _ {s1 with heap:=s1.heap.push (zy "list" vs.toArray 0)};refine b6 (t6 (Kf Ŀ ⟨_,MW,rfl⟩ Į (list_sort_treeK strKind_oneLt MW hS.keysOf (λv₁ v₂ rest e=>keyKind_strs (by rw[<-e];exact hS)) Le λst' a1 a2=>⟨_,rfl,?_⟩) (ł _)));obtain⟨Lo,b1,b2,b3⟩:=sorted_out_str hS a1 a2;obtain⟨e,he⟩:=sortedHeap_at (out:=(arrOf st').map (·.2)) MW;rw[xN b2 b3]at b1;refine df ⟨_,rfl,h _ ((arrOf st').map (·.2)).toList e (λb o q=>?_) (by rw[Ze];exact he) b1⟩;have Jf:b<s1.heap.objs.size:=fx q;show(Ā (s1.heap.push (zy "list" vs.toArray 0)) s1.heap.objs.size vs ((arrOf st').map (·.2))).get? b=a5 o;rw[ľ (hY Jf) (by rw[MJ];exact Sn Jf)];exact c4 _ q
theorem mr(hl:Ń s.heap l vs.toArray)
  (h:Q vs {s with heap:=(s.heap.push (zy "list" #[] 0)).update s.heap.objs.size (rz (·++vs.toArray))}) (hsz:vs.length<=cL) :
  d6 (ez prog w) A (Z_ (.ref l)) Q E s:=by
 obtain⟨o,ho,b,n,c⟩:=id hl;unfold Z_;refine b6 (YP (Kz entry_proto_collect' ?_));show d6 _ _ (do ĸ (.builtin "list.__iadd__" ⟨[<-Č [],.ref l],[]⟩)) _ _ s;refine b6 (ZH (df ⟨UK _ (by decide +kernel),Kz entry_list_iadd' ?_⟩));show d6 _ _ (tA (.ref s.heap.objs.size) (.ref l) (.ref s.heap.objs.size)) _ _ {s with heap:=s.heap.push (zy "list" #[] 0)};unfold tA;have a:(s.heap.push (zy "list" #[] 0)).get? l=a5 o:=c4 _ ho;refine b6 (V9 (T:="tuple") ⟨o,a,b⟩ ?_);have d:(ti "tuple"==ti "tuple")=b8:=by rfl
 rw[ņ (by rw[d];simp)];refine b6 (É a c ?_);refine b6 (É (xs:=#[]) (n:=0) (gj _ rfl) rfl ?_);rw[Ň (by simp)];refine b6 (Vx (xs:=#[]) (n:=0) (gj _ rfl) rfl ?_ (lg _) (by show(#[]++vs.toArray).size<=cL+1;simp only[U4,hH,QL];lia));refine df ?_;show d6 (ez prog w) A (do
   let o <-load s.heap.objs.size
   match o.data with
   |.seq xs _=>pure xs.toList
   |_=>XH "internal:collect") Q E {s with heap:=(s.heap.push (zy "list" #[] 0)).update s.heap.objs.size (rz (·++vs.toArray))}
 refine b6 (ö (ĭ (gj _ rfl) _) ?_);show d6 _ _ (pure ((#[]:Array d3)++vs.toArray).toList) Q E _;rw[show((#[]:Array d3)++vs.toArray).toList=vs by simp];exact df h
end
section
theorem mw{h:Jy}{vs:List d3}(e:h.get? b=a5 o):((h.push (zy "list" #[] 0)).update h.objs.size (rz (·++vs.toArray))).get? b=a5 o:=by
 rw[OL _ _ _ _ (hY (fx e))];exact c4 _ e
theorem pW(I:Inv X a σ H s)(k1:∀b o,s.heap.get? b=a5 o->s1.heap.get? b=a5 o)(h:∃d c,s1={s with heap:=d,toks:=c})
  (hk:∀b o,s1.heap.get? b=a5 o->h'.get? b=a5 o) (i:h'.get? s1.heap.objs.size=a5 (zy "list" f.toArray e)) (j:Qm f (aB ss)) (hsz:s.heap.objs.size<=s1.heap.objs.size) (hl:ss.length<=cL)
  (q:∀p,H p=bD->Q (.ref p) (upd H p (.lst ((aB ss).map V.str)))):EP X a σ Q (.ref s1.heap.objs.size) {s1 with heap:=h' }:=by
 obtain⟨d,c,rfl⟩:=h;have g:Inv X a σ H {s with heap:=d,toks:=c}:=I.kept (t':=c) k1;refine⟨.ref d.objs.size,_,g.laid (t':=c) (o:=.lst ((aB ss).map V.str)) hk (hV _) ⟨by rw[dt,bx];exact hl,f,e,dA j,i⟩,rfl,q _ (g.IQ.fresh (hV _))⟩
theorem jH:jE X (.builtin "sorted") (λxs H Q=>∃(p:eH) (c:List Str),xs=[.ref p]/\(Jn X.K H p (c.map V.str)\/JH X.K H p (c.map V.str))/\c.length<64/\∀q,H q=bD->Q (.ref q) (upd H q (.lst ((aB c).map V.str)))):=by
 intro f s σ H xs us Q I rs h;obtain⟨p,c,rfl,hq,l,q⟩:=h;obtain⟨u,rfl,r⟩:=vals1 rs;cases r;have hl:c.length<=cL:=P8 (i3 l (by decide));have g:∀(a:List d3),Vals (c.map V.str) a->∀(h':Jy) (d:List d3) (e:Nat),(∀b o,((s.heap.push (zy "list" #[] 0)).update s.heap.objs.size (rz (·++a.toArray))).get? b=a5 o->h'.get? b=a5 o) ->
   h'.get? ((s.heap.push (zy "list" #[] 0)).update s.heap.objs.size (rz (·++a.toArray))).objs.size=a5 (zy "list" d.toArray e)->Qm d (aB c) ->
   EP X f σ Q (.ref ((s.heap.push (zy "list" #[] 0)).update s.heap.objs.size (rz (·++a.toArray))).objs.size) {s with heap:=h' }:=λa rv h' d e hk i j =>
  pW (s1:={s with heap:=(s.heap.push (zy "list" #[] 0)).update s.heap.objs.size (rz (·++a.toArray))}) I (λb o z=>mw z) ⟨_,s.toks,rfl⟩ hk i j (by show s.heap.objs.size<=((s.heap.push (zy "list" #[] 0)).update s.heap.objs.size (rz (·++a.toArray))).objs.size;rw[Heap.size_update,MJ];exact Ng _) hl q
 rcases hq with hq|hq
 ·obtain⟨a,rv,k,hz⟩:=I.list hq;have m:a.length=c.length:=by rw[<-rv.length,dt]
  exact fm (collect_list k.isList ⟨c,cI rv,⋯,λh' d e hk i j=>g a rv h' d e hk i j⟩ ⋯)
 ·obtain⟨a,rv,k,hz⟩:=I.tuple hq;have m:a.length=c.length:=by rw[<-rv.length,dt]
  exact fm (mr k ⟨c,cI rv,⋯,λh' d e hk i j=>g a rv h' d e hk i j⟩ ⋯)
end
abbrev sK(P:va)(w:H8):=PySem.strKind P w
def aP(P:va)(w:H8)(h:Jy)(a:eH)(led:Bool)(D:List Str):Prop :=
 ∃(L:List (Str×Tok)) (es:Array (Int×d3)) (ep:Nat) (t:OP),h.get? a=a5 {cls:=.type "set",dict:=bD,data:=.set es ep t}/\es.toList=L.map (λp=>((sK P w).hash p.1,t8 p.1 p.2)) /\
  (L.map (·.1)).Perm D/\D.Nodup/\t.fits es.size=b8/\es.size<D6/\t.led=led/\(es.size=0\/t.plain=cc)
section
theorem kP{L:List (Str×Tok)}:ElemsOf (sK prog w) (L.map λp=>((sK prog w).hash p.1,t8 p.1 p.2)):=by
 intro e a;obtain⟨p,_,rfl⟩:=js.mp a;exact⟨⟨p.1,by simp[PySem.strKind,Uy],rfl⟩,rfl⟩
theorem gK(x y:Str)(t:Tok):(sK prog w).is x (.str y t)=cK (x=y):=by
 rw[Kk];simp[PySem.strKind,Uy];exact⟨λh=>h.symm,λh=>h.symm⟩
theorem rD(t:OP)(es:Array (Int×d3))(h:Int)(x:d3):(layNew t es h x).2.1.led=t.led:=by
 unfold layNew;split
 ·show(X8 (t.put _).1 _).led=t.led;unfold X8;split<;>rfl
 ·rfl
theorem oG(t:OP)(es:Array (Int×d3))(n:Nat):(YS t es n).2.1.led=t.led:=by
 unfold YS;split
 ·rename_i t' b a;have:t'.led=t.led:=by
   unfold Vf Tu at a;cases c:RC (Ku n - 1) (es.map (·.1)) with
   |none=>rw[c]at a;cases a
   |some o=>rw[c]at a;cases a;rfl
  dsimp only
  split
  ·exact this
  ·rfl
 ·rfl
theorem kQ(t:OP)(es:Array (Int×d3))(n:Nat)(h:t.plain=cc):(YS t es n).2.1.plain=cc:=by
 unfold YS;split
 ·rename_i t' b a;have:t'.plain=t.plain:=by
   unfold Vf Tu at a;cases c:RC (Ku n - 1) (es.map (·.1)) with
   |none=>rw[c]at a;cases a
   |some o=>rw[c]at a;cases a;rfl
  dsimp only
  split
  ·rw[this];exact h
  ·rfl
 ·rfl
theorem c_(h:l.Perm (L.map λp=>((sK prog w).hash p.1,t8 p.1 p.2))):∃L':List (Str×Tok),l=L'.map (λp=>((sK prog w).hash p.1,t8 p.1 p.2))/\L'.Perm L:=by
 have all:∀e∈l,∃p:Str×Tok,e=((sK prog w).hash p.1,t8 p.1 p.2):=λe a=>by
  obtain⟨p,_,rfl⟩:=js.mp (h.mem_iff.mp a);exact⟨p,rfl⟩
 have ex:∀l:List (Int×d3),(∀e∈l,∃p:Str×Tok,e=((sK prog w).hash p.1,t8 p.1 p.2))->∃L':List (Str×Tok),l=L'.map (λp=>((sK prog w).hash p.1,t8 p.1 p.2)):=by
  intro l;induction l with
  |nil=>intro _;exact⟨[],rfl⟩
  |cons e l c =>
   intro b;obtain⟨p,rfl⟩:=b e mN;obtain⟨L',rfl⟩:=c λe a=>b e (l0 _ a);exact⟨p::L',rfl⟩
 obtain⟨L',rfl⟩:=ex l all;refine⟨L',rfl,?_⟩;have g:(L'.map λp=>((sK prog w).hash p.1,t8 p.1 p.2)).map (λe=>match e.2 with|.str x t=>(x,t)|_=>(oT,0))=L':=by
  rw[kj];exact Zx _
 have d:(L.map λp=>((sK prog w).hash p.1,t8 p.1 p.2)).map (λe=>match e.2 with|.str x t=>(x,t)|_=>(oT,0))=L:=by
  rw[kj];exact Zx _
 have:=h.map (λe=>match e.2 with|.str x t=>(x,t)|_=>(oT,0));rw[g,d]at this;exact this
theorem kR(hS:aP prog w s.heap a led D)(Nt:D.length+1<D6)
    (h:∀h',qs a s.heap h'->aP prog w h' a led (if x∈D then D else D++[x])->Q (cK (x∉D)) {s with heap:=h' }) :
    d6 (ez prog w) A (setAddHashed a (.str x tk) ((sK prog w).hash x)) Q E s:=by
  obtain⟨L,es,ep,t,ho,JJ,IS,Je,hf,hb,JL,JC⟩:=hS;have Ob:(sK prog w).is x (.str x tk)=b8:=by rw[gK];simp
  have P2:ElemsOf (sK prog w) es.toList:=by rw[JJ];exact kP
  have hlen:es.size=D.length:=by rw[<-hU,JJ,dt,<-dt (f:=ô) (as:=L),IS.length_eq]
  unfold setAddHashed setAddHashedIn;refine t6 (b6 (mu ho rfl hf ?_))
  dsimp only
  rw[byScan_of (knd:=sK prog w) rfl hb P2];simp only[↓reduceIte];unfold setAddByScan;refine b6 ?_;refine b6 (ON ?_);refine b6 (ė (knd:=sK prog w) Ob ho rfl hf P2 ?_);have mem_iff:(∃e∈es.toList,(sK prog w).is x e.2=b8)↔x∈D:=by
    rw[JJ,<-IS.mem_iff,js];constructor
    · rintro⟨e,he,hi⟩
      obtain⟨p,hp,rfl⟩:=js.mp he;rw[gK,Ņ]at hi;exact⟨p,hp,hi.symm⟩
    · rintro⟨p,hp,e⟩
      exact⟨_,js.mpr ⟨p,hp,rfl⟩,by rw[gK];simp[e]⟩
  cases hr:XR (λe=>(sK prog w).is x e.2) es.toList with
  | some j =>
    dsimp only
    obtain⟨hj,Rb,_⟩:=U2.mp hr;have hx:x∈D:=mem_iff.mp ⟨es.toList[j],KX hj,Rb⟩;refine df (df ?_);have e:s={s with heap:=s.heap}:=by cases s;rfl
    have:=h s.heap (Jo a s.heap) (by rw[ņ hx];exact⟨L,es,ep,t,ho,JJ,IS,Je,hf,hb,JL,JC⟩);rw[ň (λz=>z hx)]at this;rw[e];exact this
  | none =>
    dsimp only
    have hx:x∉D:=λhx=>by
      obtain⟨e,he,hp⟩:=mem_iff.mpr hx;have:=Xr.mp hr e he;rw[hp]at this;exact Bool.noConfusion this
    have W3:∀(b:Bool) {s₁:d8} {Q':Unit->d8->Prop},Q' () s₁->d6 (ez prog w) A (match b with|true=>Ğ "set.scan.the-table-gave-way"|false=>pure ()) Q' E s₁ :=
      λb s₁ Q' hq=>by cases b<;>first|exact df hq|exact ON hq
    have O3:=layNew_perm t es ((sK prog w).hash x) (.str x tk);have LM:=layNew_fits t es ((sK prog w).hash x) (.str x tk);have Ml:=rD t es ((sK prog w).hash x) (.str x tk);generalize hL:layNew t es ((sK prog w).hash x) (.str x tk)=NL at O3 LM Ml ⊢;obtain⟨JD,t1,Mm,W4⟩:=NL
    dsimp only at O3 LM Ml ⊢
    rw[Z6,JJ,show [((sK prog w).hash x,t8 x tk)]=[(x,tk)].map (λp=>((sK prog w).hash p.1,t8 p.1 p.2)) from rfl,<-kr]at O3;obtain⟨L1,e1,W5⟩:=c_ O3;have Oc:JD.size=D.length+1:=by rw[<-hU,O3.length_eq,dt,i0,<-hlen,<-hU,JJ,dt];rfl
    have U9:JD.size<D6:=by lia
    have Nu:(L1.map (·.1)).Perm (D++[x]):=(W5.map _).trans (by rw[kr];exact IS.append_right _);have U_:(D++[x]).Nodup:=by
      rw[t5]
      exact ⟨Je, by simp, fun y hy z hz => by have : z = x := by simpa using hz
                                              subst this;rintro rfl;exact hx hy⟩
    refine b6 (W3 _ ?_);have M3:∀h',qs a s.heap h'->aP prog w h' a led (D++[x])->Q b8 {s with heap:=h' }:=λh' sb hs=>by
      have:=h h' sb (by rw[Ň hx];exact hs);rw[ŉ hx]at this;exact this
    have tail:∀(g:Bool->Sem Unit),(∀(b:Bool) (s₁:d8) (Q':Unit->d8->Prop),Q' () s₁->d6 (ez prog w) A (g b) Q' E s₁)->∀(R:Option Bool->d8->Prop),(∀h',qs a s.heap h'->aP prog w h' a led (D++[x])->R (a5 b8) {s with heap:=h' })->∀t2:OP,t2.fits JD.size=b8->t2.led=led->t2.plain=cc->d6 (ez prog w) A (do
        storeSet a JD t2
        if (!Mm&&t2.tooFull)=true then do
            g (relayAll t2 JD (SetTable.grown JD.size)).2.2
            storeSet a (relayAll t2 JD (SetTable.grown JD.size)).1 (relayAll t2 JD (SetTable.grown JD.size)).2.1
            pure (some true)
          else pure (a5 b8)) R E s:=by
      intro g hg R hR t2 W6 M4 M5;refine b6 (V_ ho rfl ?_ (Wo U9));have MO:(s.heap.update a (Pw JD t2)).get? a=a5 {cls:=.type "set",dict:=bD,data:=.set JD (ep+1) t2}:=by
        have:=t7 (Pw JD t2) ho rfl;exact this
      have P4:=y1 s.heap a (Pw JD t2);split
      · have hp:=relayAll_perm t2 JD (NY JD.size)
        have KZ:=relayAll_fits t2 JD (NY JD.size);have S4:=oG t2 JD (NY JD.size);have O4:=kQ t2 JD (NY JD.size) M5;generalize S5:YS t2 JD (NY JD.size)=Rl at hp KZ S4 O4 ⊢;obtain⟨Ks,t3,U'⟩:=Rl
        dsimp only at hp KZ S4 O4 ⊢
        rw[e1]at hp;obtain⟨L2,e2,W7⟩:=c_ hp;have hsz:Ks.size=JD.size:=by rw[<-hU,hp.length_eq,<-e1,hU]
        refine b6 (hg _ _ _ ?_);refine b6 (V_ MO rfl ?_ (Wo ⋯));have Nv:((s.heap.update a (Pw JD t2)).update a (Pw Ks t3)).get? a=a5 {cls:=.type "set",dict:=bD,data:=.set Ks (ep+1+1) t3}:=t7 (Pw Ks t3) MO rfl;refine df (hR _ (P4.trans (y1 _ a _)) ⟨L2,Ks,_,t3,Nv,e2,(W7.map _).trans Nu,U_,KZ,⋯,S4.trans M4,.inr O4⟩)
      · exact df (hR _ P4 ⟨L1,JD,_,t2,MO,e1,Nu,U_,W6,U9,M4,.inr M5⟩)
    split
    · rename_i hp
      refine b6 ?_;rw[hashByValue_scannable 8 rfl];refine df ?_;have ep:(if plainKind (t8 x tk)=b8 then t1 else {t1 with plain:=cc})={t1 with plain:=cc}:=rfl;rw[ep];refine tail _ ?_ _ ?_ {t1 with plain:=cc} (SetTable.fits_plain_off LM) (Ml.trans JL) rfl
      · intro b s₁ Q' hq;cases b<;>first|exact df hq|exact ON hq
      · intro h' Mn Kv;dsimp only;exact df (M3 h' Mn Kv)
    · rename_i hp
      refine b6 (df ?_);simp only[↓reduceIte];refine tail _ ?_ _ ?_ t1 LM (Ml.trans JL) (Bool.eq_false_iff.mpr hp)
      · intro b s₁ Q' hq;cases b<;>first|exact df hq|exact ON hq
      · intro h' Mn Kv;dsimp only;exact df (M3 h' Mn Kv)
end
noncomputable def jk(D:List Str)(x:Str):List Str:=if x∈D then D else D++[x]
noncomputable def aK(l:List Str):List Str:=l.foldl jk []
theorem rE(h:D.Nodup):(jk D x).Nodup:=by
  unfold jk;split
  · exact h
  · rename_i hx
    rw[t5]
    exact ⟨h, by simp, fun y hy z hz => by have : z = x := by simpa using hz
                                           subst this;rintro rfl;exact hx hy⟩
theorem fq:∀(l D:List Str),D.Nodup->(l.foldl jk D).Nodup/\(∀x,x∈l.foldl jk D↔x∈D\/x∈l)/\(l.foldl jk D).length<=D.length+l.length
 |[],D,h=>⟨h,by simp,by simp⟩
 |y::l,D,h=>by
  obtain⟨a,b,f⟩:=fq l (jk D y) (rE h);have c:∀x,x∈jk D y↔x∈D\/x=y:=λx=>by
   unfold jk;split
   ·rename_i d;exact⟨.inl,λz=>z.elim id (λe=>e▸d)⟩
   ·simp
  have hl:(jk D y).length<=D.length+1:=by
   unfold jk;split
   ·lia
   ·simp
  refine⟨a,λx=>?_,by rw[Tj,ke];lia⟩;rw[Tj,b,c,d7,or_assoc]
theorem ft(l:List Str):(aK l).Nodup:=(fq l [] TC).1
theorem da(l:List Str)(x:Str):x∈aK l↔x∈l:=by rw[aK,(fq l [] TC).2.1];simp
theorem rF(l:List Str):(aK l).length<=l.length:=by have:=(fq l [] TC).2.2;simpa[aK] using this
theorem pX(l:List Str)(x:Str):aK (l++[x])=jk (aK l) x:=by unfold aK;rw[List.foldl_append];rfl
section
variable{prog:va}{w:H8}{A:Nm}{R:Result->d8->Prop}{I:eH}{fp wr:List eH}{G:Array Y5->Array Y5->Prop}{n:Nat}{P:Nat->d3->Prop}{St:Nat->d8->Prop}
theorem jl(W:ü prog w A.in1 I fp wr G n P St)(S:eH)(l:S∉fp)(led:Bool)
  (a:List Str) (hn:a.length=n) (u:∀i v,P i v->∃x t,a[i]?=a5 x/\v=.str x t) (c:n+1<D6) :
  ∀(k i:Nat) (s:d8),n - i=k->i<=n->St i s->aP prog w s.heap S led (aK (a.take i)) ->
   (∀s',Moved (S::wr) G s s'->aP prog w s'.heap S led (aK a)->R (.ok (.ret .none)) s') ->
   Qk (ez prog w) A (.builtin "set.update.loop" ⟨[.ref S,.ref I],[]⟩) R s:=by
 have m:S∉wr:=λh=>l (W.sub _ h);have p:∀b∈wr,b∈S::wr:=λb c=>l0 _ c;intro k;induction k with
 |zero =>
  intro i s hk y g f j;have z:i=n:=by lia
  subst z;refine Kz Sm ?_;rw[N4 Np _];show d6 _ A.in1 (TV (.ref I) >>= _) _ _ s;refine b6 (W.done s _ _ g λs' d=>?_);show d6 _ A.in1 (ret nC) _ _ s';rw[Nh ⋯]at f;exact df (j s' (d.mono p) (by
   obtain⟨L,es,ep,t,ho,rest⟩:=f;exact⟨L,es,ep,t,d.heap S _ m ho,rest⟩))
 |succ k B =>
  intro i s hk y g f j;have q:i<n:=by lia
  refine Kz Sm ?_;rw[N4 Np _];show d6 _ A.in1 (TV (.ref I) >>= _) _ _ s;refine b6 (W.item i s _ _ q g λv s' C D d=>?_);obtain⟨x,t,H,rfl⟩:=u i v C;have J:aP prog w s'.heap S led (aK (a.take i)):=by
   obtain⟨L,es,ep,N,ho,rest⟩:=f;exact⟨L,es,ep,N,d.heap S _ m ho,rest⟩
  show d6 _ A.in1 (MX [t8 x t] (setAdd S (.str x t)) >>= _) _ _ s';refine b6 (t6 ?_);unfold setAdd;refine t6 ?_;refine b6 ((sK prog w).pyHash (k:=x) (by rw[gK];simp) ?_);have O:(aK (a.take i)).length+1<D6:=by have:=rF (a.take i);rw[C0]at this;lia
  refine kR (s:={s' with toks:=s'.toks+1}) J O λh' r Q=>?_;have T:aP prog w h' S led (aK (a.take (i+1))):=by
   rw[List.take_add_one,H];show aP prog w h' S led (aK (a.take i++[x]));rw[pX];exact Q
  refine df ⟨Tb Np _,B (i+1) _ ⋯ q (W.frame _ s' _ _ D (Ng _) λb c o e=>?_) T λY S7 S8=>?_⟩
  ·rw[r.2 b (λh:b=S=>l (by rw[<-h];exact c))];exact e
  ·refine j Y (đ W.gtrans ((d.mono p).then_heap (Ng _) λb o c e=>?_) S7) S8;rw[r.2 b (λh:b=S=>c (by rw[h];exact mN))];exact e
end
section
theorem mz(a:d3)
  (h:Q₁ (.ref s.heap.objs.size) {s with heap:=s.heap.push {cls:=.type "set",dict:=bD,data:=.set #[] 0 (.fresh 0 0 (!w.params.followText "set-order"))}}) :
  Qk (ez prog w) A (.call (.builtin "set.__new__") ⟨[.type "set",a],[]⟩) (wants Q₁ E) s:=by
 refine ĩ ?_;show d6 _ A.in1 (do Xo "set.__new__" ⟨[.type "set",a],[]⟩;ĸ (.builtin "set.__new__" ⟨[.type "set",a],[]⟩)) _ _ s;refine b6 (Xz (PySem.F.newCall_set_1 a) (df ⟨Tb PySem.F.plain_set_new _,Kz PySem.F.entry_set_new ?_⟩));rw[N4 PySem.F.plain_set_new _];unfold M6.«set.__new__» è;have b:=Wg;obtain⟨c,g,d,e,os⟩:=s
 dsimp only
 wp_walk
 refine QM (df ?_)
 dsimp only
 simp only[newObj];refine b6 (wpAny_alloc (df ?_));exact df h
theorem g9(b:h.get? a=a5 {cls:=.type "set",dict:=bD,data:=.set #[] 0 (.fresh 0 0 led)}):aP prog w h a led [] :=
 ⟨[],#[],0,_,b,rfl,.nil,TC,rfl,by unfold D6;decide,rfl,.inl rfl⟩
end
theorem sub_tuple_set:N_ (.type "tuple") (.type "set")=pure cc:=by rw[Jd];kernel_rfl
theorem sub_tuple_frozenset:N_ (.type "tuple") (.type "frozenset")=pure cc:=by rw[Jd];kernel_rfl
section
abbrev aE(w:H8):Bool:=!w.params.followText "set-order"
abbrev rG(led:Bool):Obj:={cls:=.type "set",dict:=bD,data:=.set #[] 0 (.fresh 0 0 led)}
theorem iC
  (L:s.TypeIs (.ref l) T) (W_:N_ (.type T) (.type "set")=pure cc) (W':N_ (.type T) (.type "frozenset")=pure cc) (JM:(ti T==ti "dict")=cc)
  (N:a.length+1<D6)
  (k:∀(s1:d8) (B:Nm) (Q':d3->d8->Prop),B.handled=A.handled->(∀b o,s.heap.get? b=a5 o->s1.heap.get? b=a5 o)->s.heap.objs.size<s1.heap.objs.size ->
   (∀I m n G P St d,ü prog w B.in1 I m n G a.length P St->(∀g g',G g g'->g'=g)->s.heap.objs.size∉m->(∀b∈n,s.heap.objs.size<b)->(∀i v,P i v->∃x t,a[i]?=a5 x/\v=.str x t)->St 0 {s1 with heap:=d}->(∀b o,s1.heap.get? b=a5 o->d.get? b=a5 o)->Q' (.ref I) {s1 with heap:=d})->d6 (ez prog w) B (Y1 (.ref l)) Q' E s1)
  (h:∀(h':Jy) (f:Nat),aP prog w h' s.heap.objs.size (aE w) (aK a)->(∀b o,b<s.heap.objs.size->s.heap.get? b=a5 o->h'.get? b=a5 o)->Q (.ref s.heap.objs.size) {s with heap:=h',toks:=f}) :
  d6 (ez prog w) A (NQ (.type "set") [.ref l]) Q E s:=by
 obtain⟨c,tl,Xa⟩:=PySem.F.called_set.mro;have Vb:=PySem.F.called_set.made;have Lp:=PySem.F.called_set.sub;refine ø (ĩ ?_);show d6 _ _ (callAny (.type "set") _) _ _ _;refine df ⟨UK _ (by decide +kernel),Kz PySem.F.entry_type_call ?_⟩;rw[Around.under_plain (weight_type_call_type "set" [.ref l] []) rfl];have d:=PySem.F.called_set.notType;have h2:=PySem.F.called_set.canCreate;have ZA:=PySem.F.typeCall_set_1 (.ref l)
 repeat (any_goals (first|assumption|wp_step))
 refine Sa (mz (.ref l) (E:=E) (Q₁:=λobj C=>obj=.ref s.heap.objs.size/\C={s with heap:=s.heap.push (rG (aE w))}) ⟨rfl,rfl⟩) λr C p=>?_;cases r with
 |error e=>exact p
 |ok O =>
  cases O with
  |ret obj =>
   obtain⟨rfl,rfl⟩:=p;have D:(s.heap.push (rG (aE w))).get? s.heap.objs.size=a5 (rG (aE w)):=gj _ rfl;have Y:R_ {s with heap:=s.heap.push (rG (aE w))} (.ref s.heap.objs.size) "set":=⟨_,D,rfl⟩
   have ZC:=PySem.F.called_set.init.lookup;have ZD:=PySem.F.called_set.init.bind (.ref s.heap.objs.size)
   repeat (any_goals (first|assumption|wp_step))
   refine Sa (UZ (R:=wants (λr H=>r=.none/\∃h' f,H={s with heap:=h',toks:=f} /\
     aP prog w h' s.heap.objs.size (aE w) (aK a) /\
     (∀b o,b<s.heap.objs.size->s.heap.get? b=a5 o->h'.get? b=a5 o)) E) PySem.F.called_set.init.plain PySem.F.entry_set_init (check_set_init_1 Y ?_)) λr₂ H q=>?_
   ·obtain⟨ol,P5,J⟩:=L;obtain⟨Xb,P6,P7,Of⟩:=ol;simp only at J;subst J;have S_:(s.heap.push (rG (aE w))).get? l=a5 {cls:=.type T,dict:=P6,data:=P7,slots:=Of}:=c4 _ P5;have Vc:R_ {s with heap:=s.heap.push (rG (aE w))} (.ref l) T:=⟨_,S_,rfl⟩
    unfold M6.«set.__init__» noKeywords æ;generalize Xc:Y1=PI
    wp_walk
    subst Xc;refine k {s with heap:=s.heap.push (rG (aE w))} _ _ rfl (λb o e=>c4 _ e) (by rw[MJ];exact OJ _) λI m n G P St d W hG hf Xd Oe IZ hk=>?_;refine b6 (YP ?_);refine jl W s.heap.objs.size hf (aE w) a rfl Oe N (a.length - 0) 0 _ ⋯ (lg _) IZ (g9 (hk _ _ D)) ?_;intro s' j u;obtain⟨h',g',d',Xe,Sj⟩:=s';have eg:g'=s.gens:=hG _ _ j.gens;have ed:d'=s.drawn:=j.drawn;have eo:Sj=s.os:=j.os;subst eg;subst ed;subst eo;show d6 _ _ _ _ _ _;refine df ?_;show d6 _ _ (ret nC) _ _ _;refine df ⟨rfl,h',Xe,rfl,u,λb o y e=>?_⟩;exact j.heap b o (λz=>by
     rcases d7.mp z with z|z
     ·rw[z]at y;exact uv _ y
     ·exact absurd (Xd b z) (ê y)) (hk _ _ (c4 _ e))
   ·cases r₂ with
    |error e=>exact q
    |ok Xf =>
     cases Xf with
     |ret r =>
      obtain⟨rfl,h',f,rfl,u,Jv⟩:=q
      repeat (any_goals (first|assumption|wp_step))
      exact h _ _ u Jv
     |_=>exact q.elim
  |_=>exact p.elim
end
section
theorem oH:∀{vs:List d3}{ss:List Str},Qm vs ss->∀(i:Nat) (v:d3),vs[i]?=a5 v->∃x t,ss[i]?=a5 x/\v=.str x t
 |_,_,.nil,i,v,h=>by simp at h
 |_,_,.cons x t h,0,v,e=>by simp at e;exact⟨x,t,rfl,e.symm⟩
 |_,_,.cons x t h,i+1,v,e=>by rw[SA]at e;rw[SA];exact oH h i v e
theorem iD:∀{vs:List d3}{ss:List Str},Qm vs ss->vs.length=ss.length
 |_,_,.nil=>rfl
 |_,_,.cons x t h=>by simp[iD h]
theorem tN(a:n≠S)(b:n≠l):n∉[S,l]:=by simp[a,b]
theorem fQ(k:A.handled=bD)(hl:s.heap.IsList l vs.toArray)(f:Qm vs a)(c:a.length+1<D6)
  (h:∀(h':Jy) (m:Nat),aP prog w h' s.heap.objs.size (aE w) (aK a)->(∀b o,b<s.heap.objs.size->s.heap.get? b=a5 o->h'.get? b=a5 o)->Q (.ref s.heap.objs.size) {s with heap:=h',toks:=m}) :
  d6 (ez prog w) A (NQ (.type "set") [.ref l]) Q E s:=by
 have g:l<s.heap.objs.size:=let ⟨o,ho,_⟩:=hl;fx ho;refine iC hl.typeIs PySem.F.sub_list_set PySem.F.sub_list_frozenset (by decide) c (λs1 B Q' n hk d p=>?_) h;have j:s1.heap.IsList l vs.toArray:=let ⟨o,ho,r⟩:=hl;⟨o,hk _ _ ho,r⟩;refine Wc j ?_;have q:l≠s1.heap.objs.size:=hY (Vk g d);have W:=(Ġ (prog:=prog) (w:=w) (A:=B.in1) (by simp[n,k]) s1.heap.objs.size l q vs.toArray).toS;have t:vs.toArray.size=a.length:=by simp[iD f]
 rw[t]at W;refine p _ _ _ _ _ _ _ W (λ_ _ e=>e) (tN (hY d) (KU g)) (λb c=>by rw[i2.mp c];exact d) (λi v u=>oH f i v (by simpa using u)) ⟨⟨_,gj _ rfl,rfl,rfl⟩,j.push _⟩ λb o e=>c4 _ e
theorem gL(k:A.handled=bD)(hl:s.heap.IsTuple l vs.toArray)(f:Qm vs a)(c:a.length+1<D6)
  (h:∀(h':Jy) (m:Nat),aP prog w h' s.heap.objs.size (aE w) (aK a)->(∀b o,b<s.heap.objs.size->s.heap.get? b=a5 o->h'.get? b=a5 o)->Q (.ref s.heap.objs.size) {s with heap:=h',toks:=m}) :
  d6 (ez prog w) A (NQ (.type "set") [.ref l]) Q E s:=by
 have g:l<s.heap.objs.size:=let ⟨o,ho,_⟩:=hl;fx ho;refine iC hl.typeIs sub_tuple_set sub_tuple_frozenset (by decide) c (λs1 B Q' n hk d p=>?_) h;have j:s1.heap.IsTuple l vs.toArray:=let ⟨o,ho,r⟩:=hl;⟨o,hk _ _ ho,r⟩;refine PM j ?_;have q:l≠s1.heap.objs.size:=hY (Vk g d);have W:=(Walks.tuple (prog:=prog) (w:=w) (A:=B.in1) (by simp[n,k]) s1.heap.objs.size l q vs.toArray).toS;have t:vs.toArray.size=a.length:=by simp[iD f]
 rw[t]at W;refine p _ _ _ _ _ _ _ W (λ_ _ e=>e) (tN (hY d) (KU g)) (λb c=>by rw[i2.mp c];exact d) (λi v u=>oH f i v (by simpa using u)) ⟨⟨_,gj _ rfl,rfl,rfl⟩,let ⟨o,ho,r⟩:=j;⟨o,c4 _ ho,r⟩⟩ λb o e=>c4 _ e
theorem oI(a:n≠0)(h:∀i<n,Q i {s with drawn:=s.drawn.bump src}):d6 M A (choose src n) Q E s:=λΓ p b=>by
 show Sem.wp M Γ (.choose src n .pure) _ _ p s;rw[Sem.wp_choose];exact⟨a,h _ (Xq _ (Nat.pos_of_ne_zero a))⟩
theorem g_:∀{xs:List α}{i:Nat}{x:α},xs[i]?=a5 x->(x::xs.eraseIdx i).Perm xs
 |[],i,x,h=>by simp at h
 |y::a,0,x,h=>by simp at h;subst h;exact .refl _
 |y::a,i+1,x,h=>by
  rw[SA]at h;rw[SD];exact(ZV y x _).trans ((g_ h).cons y)
theorem gM:∀(n:Nat) (xs:List α) (s:d8) (Q:List α->d8->Prop),xs.length=n->(∀a d,a.Perm xs->Q a {s with drawn:=d})->d6 M A (drawOrder n xs) Q E s
 |0,xs,s,Q,b,h=>by
  have:xs=[]:=Sz.mp b;subst this;exact df (h [] s.drawn (.refl _))
 |n+1,[],s,Q,b,h=>by simp at b
 |n+1,y::a,s,Q,b,h=>by
  show d6 M A (choose .order (y::a).length >>= _) Q E s;refine b6 (oI (by simp) λi c=>?_);have e:(y::a)[i]?=a5 ((y::a)[i]'c):=ri c;have f:=g_ e;generalize (y::a)[i]'c=x at e f;simp only[e];refine b6 (gM n _ _ _ (by have:=f.length_eq;simp at this b ⊢;lia) λg d hz=>?_);exact df (h (x::g) d ((hz.cons x).trans f))
theorem jI(next:Nat->Nat):∀(fuel k:Nat) (left:List α) (out:Array α),left.length=fuel->(Wl next fuel k left out).toList.Perm (out.toList++left)
 |0,k,left,out,hl=>by
  have:left=[]:=Sz.mp hl;subst this;simp[Wl]
 |fuel+1,k,left,out,hl=>by
  unfold Wl;have a:next k % left.length<left.length:=Xq _ ⋯;have e:left[next k % left.length]?=a5 (left[next k % left.length]'a):=ri a;have b:=g_ e;generalize left[next k % left.length]'a=x at e b;simp only[e];refine(jI next fuel _ _ _ (by have:=b.length_eq;simp at this;lia)).trans ?_;rw[Z6,Ð];exact(b.append_left _)
theorem dJ(next:Nat->Nat)(xs:Array α):(Xg next xs).toList.Perm xs.toList:=by
 have:=jI next xs.size 0 xs.toList #[] (by simp);simpa[Xg] using this
end
namespace SI
theorem pY:Manifest.owners.lookup (String.ofList ['r','o','t','a','r','e','t','i','_','t','e','s'].reverse)=a5 Manifest.sig_set_iterator:=by kernel_rfl
theorem slot_next:Slot "set_iterator" "__next__" "set_iterator.__next__" :=
 .of (owner:="set_iterator") (n:="__next__") (by rw[RZ,Oa];kernel_rfl) (by decide +kernel) (by decide +kernel) (by decide +kernel)
  (by first|exact .inl (by decide +kernel)|exact .inr (by decide +kernel)) (by rw[Jd];kernel_rfl)
theorem entry_next:á table "set_iterator.__next__"=a5 M6.«set_iterator.__next__»:=entryFor_of_tree (by kernel_rfl)
theorem args_next(a:d3):ķ "set_iterator.__next__" ⟨[a],[]⟩:=by
 unfold ķ;rw[signature?_of (id:="set_iterator.__next__") (n:=['_','_','t','x','e','n','_','_']) (o:=['r','o','t','a','r','e','t','i','_','t','e','s']) (by kernel_rfl) pY];kernel_rfl
theorem mT:Slot "set_iterator" "__iter__" "set_iterator.__iter__" :=
 .of (owner:="set_iterator") (n:="__iter__") (by rw[RZ,Oa];kernel_rfl) (by decide +kernel) (by decide +kernel) (by decide +kernel)
  (by first|exact .inl (by decide +kernel)|exact .inr (by decide +kernel)) (by rw[Jd];kernel_rfl)
theorem vG(a:d3):ķ "set_iterator.__iter__" ⟨[a],[]⟩:=by
 unfold ķ;rw[signature?_of (id:="set_iterator.__iter__") (n:=['_','_','r','e','t','i','_','_']) (o:=['r','o','t','a','r','e','t','i','_','t','e','s']) (by kernel_rfl) pY];kernel_rfl
theorem rH:á table "set_iterator.__iter__"=a5 M6.«dict_keyiterator.__iter__» :=
 Y2 (id':="dict_keyiterator.__iter__") (by kernel_rfl) (by first|rfl|decide +kernel|(unfold String.splitOn;simp +decide [String.splitOnAux])) (by decide +kernel) (by kernel_rfl)
theorem kS:á table "set.__iter__"=a5 M6.«frozenset.__iter__» :=
 Y2 (id':="frozenset.__iter__") (by kernel_rfl) rfl (by decide +kernel) (by kernel_rfl)
end SI
section
variable{prog:va}{w:H8}{A:Nm}{E:d3->d8->Prop}{s:d8}
def hZ(h:Jy)(I:eH)(first:d3)(i:Nat)(S:eH)(n ep:Nat):Prop:=∃o,h.get? I=a5 o/\o.cls=.type "set_iterator"/\o.data=.fields #[first,u7 i,.ref S,u7 n,u7 ep]
theorem hZ.typeIs(x:hZ s.heap I f i S n ep):s.TypeIs (.ref I) "set_iterator":=let ⟨o,ho,a,_⟩:=x;⟨o,ho,a⟩
theorem A6(a:hZ s.heap I f i S n ep)(h:Q (.ref I) s):d6 (ez prog w) A (Y1 (.ref I)) Q E s:=by
 refine Ĉ a.typeIs SI.mT (Kf SI.mT a.typeIs SI.rH ?_ (SI.vG _));show d6 _ _ (ret (.ref I)) _ _ s;exact df ⟨_,rfl,"set_iterator",_,a.typeIs,SI.slot_next.lookup,h⟩
theorem cJ(h:Q (M.w.params.followText "set-order") s):d6 M A ú Q E s:=by
 unfold ú;exact b6 (QM (df h))
end
end L2
namespace L2
open PySem PySem.Spec PyProof.Rows
section
variable{prog:va}{w:H8}{A:Nm}{E:d3->d8->Prop}{s:d8}
abbrev oJ(es:Array (Int×d3))(ep:Nat)(t:OP):Obj:={cls:=.type "set",dict:=bD,data:=.set es ep t}
theorem pZ{I:eH}{B:Nm}{Q:Option d3->d8->Prop}{c:Jy}{k:d3->Sem (Option d3)}(d:B.handled=bD)
  (f:∀h',(∀b o,c.get? b=a5 o->h'.get? b=a5 o)->∀e,R_ {s with heap:=h' } e "StopIteration"->E e {s with heap:=h' }) {Q':Fin->d8->Prop} :
  d6 (ez prog w) B (Z9 (.type "StopIteration") [] >>= λe=>(YZ e:Sem Fin)) Q' E {s with heap:=c}:=by
 refine b6 ?_;simp only[Z9,ĳ];refine b6 (x3 ?_ (by size_fits));refine b6 (m:=UT _ _) (Xz (a:=nC) (by first|rfl|(simp only[UT];rfl)) ?_);refine x3 ?_ (by size_fits);simp only[YZ];refine b6 (wpAny_handled ?_);rw[d];refine b6 (df (wpAny_throw ?_));exact f _ (λb o e=>c4 _ (c4 _ e)) _ ⟨_,gj _ rfl,rfl⟩
theorem tP{I S:eH}{first:d3}{i ep:Nat}{es:Array (Int×d3)}{t:OP}(d:hZ s.heap I first i S es.size ep)(ho:s.heap.get? S=a5 (oJ es ep t))(j:t.fits es.size=b8)
  (k:∀(Q':Fin->d8->Prop) (h:d3->d8->Prop) ,(∀v s',Q (a5 v) s'->Q' (.done (.ret v)) s')->(∀e s',s'.TypeIs e "StopIteration"->Q bD s'->h e s') ->
   d6 (ez prog w) A.in1 (if let .int slot _:=first then(do
     match <-Wh S slot.toNat i ep with
     |some (x,next) =>
      Wj (.ref I) 0 (u7 next)
      Wj (.ref I) 1 (u7 ((i:Int)+1))
      ret x
     |none=>Wj (.ref I) 2 .none;YZ (<-Z9 (.type "StopIteration") []))
    else(do
     let a5 c <-W8 first|unsupported "internal:set_iterator"
     match c[i]? with
     |some (.int f _) =>
      let x <-Z8 S f.toNat ep
      Wj (.ref I) 1 (u7 ((i:Int)+1))
      ret x
     |some _=>XH "internal:set_iterator"
     |none=>Wj (.ref I) 0 (u7 0);Wj (.ref I) 2 .none;YZ (<-Z9 (.type "StopIteration") []))) Q' h s):d6 (ez prog w) A (TV (.ref I)) Q E s:=by
 obtain⟨o,l,n,m⟩:=id d;unfold TV;refine b6 (wpAny_attempt (Qb (name:=Rr "__next__") d.typeIs SI.slot_next
  (Kf SI.slot_next d.typeIs SI.entry_next ?_ (SI.args_next _))))
 unfold M6.«set_iterator.__next__»;refine b6 (Xz (a:=(l' I,[])) rfl ?_)
 try dsimp only
 refine b6 (wpAny_fieldsOf l m ?_)
 try dsimp only
 refine b6 (R7 ho rfl j ?_);rw[Ň (by simp)];refine mh (k (λg s'=>∃r,g=.done (.ret r)/\Q (a5 r) s') (λe s'=>s'.TypeIs e "StopIteration"/\Q bD s') (λv s' q=>⟨v,rfl,q⟩) λe s' z q=>⟨z,q⟩) ?_ ?_
 ·rintro g s' ⟨r,rfl,q⟩;exact⟨r,rfl,df q⟩
 ·rintro e s' ⟨z,q⟩;refine b6 (OX (T:="StopIteration") (b:=b8) z Ĵ ?_);exact df q
end
section
theorem tQ{I S:eH}{f f':d3}{i n ep:Nat}{h:Jy}{o:Obj}(b:h.get? I=a5 o)(c:o.cls=.type "set_iterator")(a:o.data=.fields #[f,u7 i,.ref S,u7 n,u7 ep]):
  hZ (h.update I (Đ (·.setIfInBounds 1 (u7 ((i:Int)+1))))) I f (i+1) S n ep :=
 ⟨_,t7 _ b (Tx (Nl a _)),(Vj ..).trans c,by rw[Nl a];simp⟩
theorem p_{h:Jy}(c:h.get? I=a5 o)(d:o.cls=.type "set_iterator")(b:o.data=.fields #[f,u7 i,.ref S,u7 n,u7 ep]):
  ∃a,(h.update I (Đ (·.setIfInBounds 0 f'))).get? I=a5 a/\a.cls=.type "set_iterator"/\a.data=.fields #[f',u7 i,.ref S,u7 n,u7 ep] :=
 ⟨_,t7 _ c (Tx (Nl b _)),(Vj ..).trans d,by rw[Nl b];simp⟩
theorem xO{I S:eH}{slot i ep:Nat}{es:Array (Int×d3)}{t:OP}{Q:Option d3->d8->Prop}(a:hZ s.heap I (u7 slot) i S es.size ep)(ho:s.heap.get? S=a5 (oJ es ep t))(j:t.fits es.size=b8)(l:A.handled=bD)
  {r:Option (d3×Nat)} (m:∀(B:Nm) (f:d3->d8->Prop) (Q':Option (d3×Nat)->d8->Prop),Q' r s->d6 (ez prog w) B (Wh S slot i ep) Q' f s)
  (n:∀x nx,r=a5 (x,nx)->∀h',hZ h' I (u7 nx) (i+1) S es.size ep->qs I s.heap h'->Q (a5 x) {s with heap:=h' })
  (q:r=bD->∀h',(∀b o,b≠I->s.heap.get? b=a5 o->h'.get? b=a5 o)->Q bD {s with heap:=h' }):d6 (ez prog w) A (TV (.ref I)) Q E s:=by
 refine tP a ho j λQ' f u v=>?_;obtain⟨o,c,y,d⟩:=id a;show d6 _ _ (Wh S slot i ep >>= _) _ _ s;refine b6 (m _ _ _ ?_);cases r with
 |some p =>
  obtain⟨x,nx⟩:=p
  dsimp only
  refine b6 (Nk c d (by simp) ?_);obtain⟨J,g,z,h⟩:=p_ (f':=u7 nx) c y d;refine b6 (Nk (s:={s with heap:=_}) g h (by simp) ?_);exact df (u _ _ (n x nx rfl _ (tQ (f':=u7 nx) g z h) ((y1 ..).trans (y1 ..))))
 |none =>
  dsimp only
  refine b6 (Nk c d (by simp) ?_);refine pZ (I:=I) (k:=λ_=>pure bD) (Q:=λ_ _=>True) (s:=s) (by simpa using l) λh' hk e C=>v e _ C (q rfl h' λb D G H=>hk b D ?_);rw[OL _ _ _ _ G];exact H
theorem DY{I S T:eH}{i ep:Nat}{es:Array (Int×d3)}{t:OP}{a:List Nat}{Q:Option d3->d8->Prop}(c:hZ s.heap I (.ref T) i S es.size ep)(ho:s.heap.get? S=a5 (oJ es ep t))(m:t.fits es.size=b8)(r:A.handled=bD)
  (u:s.heap.IsTuple T ((a.map λ(j:Nat)=>u7 j).toArray))
  (v:∀(j:Nat) (e:Int×d3),a[i]?=a5 j->es[j]?=a5 e->∀h',hZ h' I (.ref T) (i+1) S es.size ep->qs I s.heap h'->Q (a5 e.2) {s with heap:=h' })
  (x:∀j∈a,j<es.size)
  (y:a[i]?=bD->∀h',(∀b o,b≠I->s.heap.get? b=a5 o->h'.get? b=a5 o)->Q bD {s with heap:=h' }):d6 (ez prog w) A (TV (.ref I)) Q E s:=by
 refine tP c ho m λQ' O z B=>?_;obtain⟨o,d,n,f⟩:=id c;obtain⟨Y,C,ZE,nT,D⟩:=u;show d6 _ _ (W8 (.ref T) >>= _) _ _ s;refine b6 (UM C D ?_);cases e:a[i]? with
 |some j =>
  have g:(a.map λ(j:Nat)=>u7 j).toArray[i]?=a5 (u7 j):=by simp[e]
  simp only[g];have h:j<es.size:=x j (my e);have l:es[j]?=a5 (es[j]'h):=by simp[h]
  show d6 _ _ (Z8 S (j:Int).toNat ep >>= _) _ _ s;unfold Z8;rw[P9];refine b6 (b6 (mu ho rfl m ?_))
  dsimp only
  rw[Ň (by simp)];generalize es[j]'h=p at l;simp only[l];refine df ?_;refine b6 (Nk d f (by simp) ?_);exact df (z _ _ (v j p e l _ (tQ (f':=.ref T) d n f) (y1 ..)))
 |none =>
  have g:(a.map λ(j:Nat)=>u7 j).toArray[i]?=bD:=by simp at e ⊢;exact e
  simp only[g];refine b6 (Nk d f (by simp) ?_);obtain⟨o',G,e2,H⟩:=p_ (f':=u7 0) d n f;refine b6 (Nk (s:={s with heap:=_}) G H (by simp) ?_);refine pZ (I:=I) (k:=λ_=>pure bD) (Q:=λ_ _=>True) (s:=s) (by simpa using r) λh' hk ex J=>B ex _ J (y e h' λb L q N=>hk b L ?_);rw[OL _ _ _ _ q,OL _ _ _ _ q];exact N
end
section
theorem hZ.at(x:hZ h I f i S n ep)(e:∀o,h.get? I=a5 o->h'.get? I=a5 o):hZ h' I f i S n ep:=let ⟨o,ho,r⟩:=x;⟨o,e _ ho,r⟩
theorem kU(r:A.handled=bD)(n:S≠I)(u:t.fits es.size=b8)(T:eH)(p:T≠I)(c:List d3)(k:c.length=es.size)
  (first:Nat->d3) (a:Jy->Prop) (l:∀h h',a h->(∀o,h.get? T=a5 o->h'.get? T=a5 o)->a h')
  (m:∀(s:d8) (i:Nat) (E:d3->d8->Prop) (Q:Option d3->d8->Prop),i<=es.size->a s.heap->hZ s.heap I (first i) i S es.size ep->s.heap.get? S=a5 (oJ es ep t) ->
   (∀x,c[i]?=a5 x->∀h',hZ h' I (first (i+1)) (i+1) S es.size ep->qs I s.heap h'->Q (a5 x) {s with heap:=h' }) ->
   (c[i]?=bD->∀h',(∀b o,b≠I->s.heap.get? b=a5 o->h'.get? b=a5 o)->Q bD {s with heap:=h' })->d6 (ez prog w) A (TV (.ref I)) Q E s) :
  Walks prog w A I [I,S,T] [I] es.size (λi v=>c[i]?=a5 v) (λi h=>i<=es.size/\hZ h I (first i) i S es.size ep/\h.get? S=a5 (oJ es ep t)/\a h) where
 sub:=λb d=>by rw[i2.mp d];simp
 frame:=λi h h' x hk=>⟨x.1,x.2.1.at λo e=>hk I (by simp) o e,hk S (by simp) _ x.2.2.1,l h h' x.2.2.2 λo e=>hk T (by simp) o e⟩
 item:=λi s Q E q x f=>by
  refine m s i E Q x.1 x.2.2.2 x.2.1 x.2.2.1 (λv g h' j hs=>?_) λz=>absurd z (by simp;lia);refine f v h' s.toks g ⟨q,j,?_,l _ h' x.2.2.2 λo e=>?_⟩ λb o d e=>?_
  ·rw[hs.2 S n];exact x.2.2.1
  ·rw[hs.2 T p];exact e
  ·rw[hs.2 b λz=>d (by simp[z])];exact e
 done:=λs Q E x f=>by
  refine m s es.size E Q x.1 x.2.2.2 x.2.1 x.2.2.1 (λv g=>absurd g (by rw[Ts ⋯];simp)) λ_ h' hk=>f h' s.toks λb o d e=>hk b o (λz=>d (by simp[z])) e
 self:=λi s Q E x f=>A6 x.2.1 f
theorem oK(ho:s.heap.get? S=a5 (oJ es ep t))(a:t.fits es.size=b8)(h:Q (!w.params.followText "set-order"&&(!t.plain&&cK (es.size>1))) s):d6 (ez prog w) A (setDrawn S) Q E s:=by
 unfold setDrawn;refine b6 (mu ho rfl a ?_)
 dsimp only
 exact b6 (cJ (df h))
theorem oM(a:w.params.followText "set-order"=b8)(ho:s.heap.get? S=a5 (oJ es ep t))(b:t.fits es.size=b8)
  (h:Q ((Xg (w.params.setOrder S ep) es)[i]?.map λe=>(e.2,0)) s):d6 (ez prog w) A (Wh S 0 i ep) Q E s:=by
 unfold Wh;refine b6 (mu ho rfl b ?_)
 dsimp only
 refine b6 (cJ ?_);show d6 _ _ (if (w.params.followText "set-order")=b8 then _ else _) _ _ s;rw[ņ a];rw[Ň (by simp)];unfold setWalk;refine b6 (b6 (mu ho rfl b ?_))
 dsimp only
 refine b6 (cJ ?_);show d6 _ _ (if (w.params.followText "set-order")=b8 then _ else _) _ _ s;rw[ņ a];refine b6 (QM (df ?_));exact df h
theorem qa(hw:w.params.followText "set-order"=cc)(ho:s.heap.get? S=a5 (oJ es ep t))(hf:t.fits es.size=b8)(hl:t.led=b8)(h1:es.size<=1)
    (h:Q (match es[LQ t.place slot]?,t.place[LQ t.place slot]? with|some (_,x),a5 j=>a5 (x,j+1)|_,_=>bD) s):d6 (ez prog w) A (Wh S slot i ep) Q E s:=by
  unfold Wh;refine b6 (mu ho rfl hf ?_)
  dsimp only
  refine b6 (cJ ?_);show d6 _ _ (if (w.params.followText "set-order")=b8 then _ else _) _ _ s;rw[Ň (by rw[hw];simp)];show d6 _ _ (if (!t.plain&&cK (es.size>1))=b8 then _ else _) _ _ s
  rw [if_neg (by have : decide (es.size > 1) = false := decide_eq_false (by lia)
                 rw[this];simp)]
  show d6 _ _ ((if (!t.led&&!es.isEmpty)=b8 then _ else _) >>= _) _ _ s;rw[Ň (by rw[hl];simp)];exact b6 (df (df h))
theorem qb(es:Array (Int×d3))(a:Array Nat)(i:Nat)(c:es.size<=1)(d:a.size=es.size)(b:i<=es.size):
  (match es[LQ a (if i=0 then 0 else(a[0]?).getD 0+1)]?,a[LQ a (if i=0 then 0 else(a[0]?).getD 0+1)]? with|some (_,x),a5 j=>a5 (x,j+1)|_,_=>bD)=es[i]?.map λe=>(e.2,(a[0]?).getD 0+1):=by
 obtain⟨es⟩:=es;obtain⟨a⟩:=a
 match es,a,c,d,b with
 |[],[],_,_,b=>simp
 |[e],[p],_,_,b =>
  match i,b with
  |0,_ =>
   have:LQ #[p] 0=0:=by simp[LQ,Ws]
   simp[this]
  |1,_ =>
   have:LQ #[p] (p+1)=1:=by simp[LQ,Ws]
   simp[this]
  |n+2,h=>simp at h
 |[],_::_,_,h,_=>simp at h
 |[_],[],_,h,_=>simp at h
 |[_],_::_::_,_,h,_=>simp at h
 |_::_::_,_,h,_,_=>simp at h
theorem xP(G:B.handled=bD)(hS:aP prog w s.heap S (aE w) D)
  (h:∀(I:eH) (fp:List eH) (n:Nat) (P:Nat->d3->Prop) (St:Nat->Jy->Prop) (c:List Str) (h':Jy) (d':Drawn),Walks prog w B I fp [I] n P St->c.Perm D->n=c.length->(∀i v,P i v->∃x Y,c[i]?=a5 x/\v=.str x Y)->s.heap.objs.size<=I->(∀b∈fp,b=S\/s.heap.objs.size<=b)->St 0 h' ->
   (∀b o,s.heap.get? b=a5 o->h'.get? b=a5 o)->Q (.ref I) {s with heap:=h',drawn:=d' }):d6 (ez prog w) A (Y1 (.ref S)) Q E s:=by
 obtain⟨L,es,ep,t,ho,JJ,IS,Je,a,d,JL,JC⟩:=hS;have Vd:s.TypeIs (.ref S) "set":=⟨_,ho,rfl⟩
 have Mp:S<s.heap.objs.size:=fx ho;refine Ĉ Vd PySem.F.slot_set_iter (Kf PySem.F.slot_set_iter Vd SI.kS ?_ (PySem.F.args_set_iter_1 _));unfold M6.«frozenset.__iter__» ç slotArgs;simp only[List.isEmpty_nil,X3,Jr,↓reduceIte,bind_assoc,QL,bne_self_eq_false];unfold Ub Qf;refine b6 (df ?_)
 try dsimp only
 refine b6 (df ?_);refine b6 (b6 (R7 ho rfl a (df ?_)));have Xi:D.length=es.size:=by rw[<-IS.length_eq,dt,<-hU,JJ,dt]
 have f:∀(l:List (Int×d3)),l.Perm es.toList->∃c:List Str,c.Perm D/\c.length=es.size/\∀(i:Nat) (v:d3),(l.map (·.2))[i]?=a5 v->∃(x:Str) (Y:Tok),c[i]?=a5 x/\v=t8 x Y:=by
  intro l hl;rw[JJ]at hl;obtain⟨L',e',p'⟩:=c_ hl;refine⟨L'.map (·.1),(p'.map _).trans IS,by rw[((p'.map _).trans IS).length_eq,Xi],λi v H=>?_⟩;subst e';rw[kj,ko]at H;rw[ko];cases q:L'[i]? with
  |none=>rw[q]at H;simp at H
  |some p=>rw[q]at H;simp at H;exact⟨p.1,p.2,rfl,H.symm⟩
 refine b6 (oK ho a ?_);cases hw:w.params.followText "set-order" with
 |true =>
  simp only[X3,õ,Jr,↓reduceIte];refine b6 (df ?_);refine b6 (b6 (mu ho rfl a (df ?_)));refine b6 (x3 ?_);have u:S≠s.heap.objs.size:=hY Mp;obtain⟨c,J,N,O⟩:=f (Xg (w.params.setOrder S ep) es).toList (dJ _ _);have W:=kU (prog:=prog) (w:=w) (A:=B) (I:=s.heap.objs.size) (S:=S) (es:=es) (ep:=ep) (t:=t) G u a S u ((Xg (w.params.setOrder S ep) es).toList.map (·.2)) (by rw[dt,(dJ _ _).length_eq,hU]) (λ_=>u7 0) (λ_=>True) (λ_ _ _ _=>trivial)
   (λs i E Q _ _ g y k1 k2=>xO (slot:=0) g y a G (λB E' Q' q=>oM hw y a q) (λx nx e h' T hs=>by
    rw[gs]at e;obtain⟨p,C,e2⟩:=e;cases e2;exact k1 _ (by rw[ko,sL,C];rfl) h' T hs) (λe=>k2 (by rw[ko,sL,Sv];rwa [Sv]at e)))
  refine df ⟨_,rfl,"set_iterator",_,⟨_,gj _ rfl,rfl⟩,SI.slot_next.lookup,?_⟩;exact h _ _ _ _ _ c _ s.drawn W J N.symm O (hV _) (λb d=>by
   simp only[d7,vr,or_false]at d;rcases d with rfl|rfl|rfl
   ·exact .inr (hV _)
   ·exact .inl rfl
   ·exact .inl rfl) ⟨lg _,⟨_,gj _ rfl,rfl,rfl⟩,c4 _ ho,trivial⟩ λb o e=>c4 _ e
 |false =>
  by_cases hsz:es.size>1
  ·have JS:t.plain=cc:=by
    rcases JC with z|z
    ·lia
    ·exact z
   have C:(!cc&&(!t.plain&&cK (es.size>1)))=b8:=by rw[JS,ŉ hsz];rfl
   rw[C];simp only[↓reduceIte];refine b6 (gM _ _ _ _ x2 λm d' hp=>?_);simp only[ĳ];have M5:∀j∈m,j<es.size:=λj hj=>by have:=hp.mem_iff.mp hj;simpa using this
   have P_:m.length=es.size:=by rw[hp.length_eq];simp
   refine b6 (x3 ?_ (by
    show(m.map λ(j:Nat)=>u7 j).toArray.size<=_;have:es.size<4096:=d;simp only[hH,dt,P_];have:(4096:Nat)<=cL:=by decide
    lia))
   have LX:(s.heap.push {cls:=.type "tuple",data:=.seq (m.map λ(j:Nat)=>u7 j).toArray}).get? S=a5 (oJ es ep t):=c4 _ ho;refine b6 (b6 (mu (s:={s with heap:=_,drawn:=d' }) LX rfl a (df ?_)));refine b6 (x3 ?_);have Xj:s.heap.objs.size≠(s.heap.push {cls:=.type "tuple",data:=.seq (m.map λ(j:Nat)=>u7 j).toArray}).objs.size:=by rw[MJ];exact hY (OJ _)
   have u:S≠(s.heap.push {cls:=.type "tuple",data:=.seq (m.map λ(j:Nat)=>u7 j).toArray}).objs.size:=by rw[MJ];exact hY (Sn Mp)
   have Oh:(m.map λj=>(es[j]?).getD (0,nC)).Perm es.toList:=by
    refine(hp.map _).trans ?_;have:(hJ es.size).map (λj=>(es[j]?).getD (0,nC))=es.toList:=by
     apply Md
     ·simp
     ·intro i h1 h2;simp at h1 ⊢;simp[h1]
    rw[this]
   obtain⟨c,J,N,O⟩:=f _ Oh;have W:=kU (prog:=prog) (w:=w) (A:=B) (I:=(s.heap.push {cls:=.type "tuple",data:=.seq (m.map λ(j:Nat)=>u7 j).toArray}).objs.size) (S:=S) (es:=es) (ep:=ep) (t:=t) G u a s.heap.objs.size Xj ((m.map λj=>(es[j]?).getD (0,nC)).map (·.2)) (by simp[P_]) (λ_=>.ref s.heap.objs.size) (λh=>h.IsTuple s.heap.objs.size (m.map λ(j:Nat)=>u7 j).toArray) (λh h' ⟨o,ho,r⟩ k=>⟨o,k _ ho,r⟩)
    (λs' i E Q _ LN g y k1 k2=>DY g y a G LN (λj e ej ee h' T hs=>k1 _ (by rw[ko,ko,ej];simp[ee]) h' T hs) M5 (λe=>k2 (by rw[ko,ko,e];rfl)))
   refine df ⟨_,rfl,"set_iterator",_,⟨_,gj _ rfl,rfl⟩,SI.slot_next.lookup,?_⟩;refine h _ _ _ _ _ c _ d' W J N.symm O (by rw[MJ];exact Ng _) (λb d=>?_) ⟨lg _,⟨_,gj _ rfl,rfl,rfl⟩,c4 _ LX,⟨_,c4 _ (gj _ rfl),rfl,_,rfl⟩⟩ λb o e=>c4 _ (c4 _ e);rw[MJ]at d;simp only[d7,vr,or_false]at d;rcases d with rfl|rfl|rfl
   ·exact .inr (Ng _)
   ·exact .inl rfl
   ·exact .inr (hV _)
  ·have C:(!cc&&(!t.plain&&cK (es.size>1)))=cc:=by rw[ň hsz];simp
   rw[C];simp only[Jr,↓reduceIte];refine b6 (df ?_);refine b6 (b6 (mu ho rfl a (df ?_)));refine b6 (x3 ?_);have u:S≠s.heap.objs.size:=hY Mp;have Xk:t.led=b8:=by rw[JL];show(!w.params.followText "set-order")=b8;rw[hw];rfl
   obtain⟨c,J,N,O⟩:=f es.toList (.refl _);have Lf:t.place.size=es.size:=by
    unfold RN at a;simp only[cb,beq_iff_eq]at a;exact a.1
   have W:=kU (prog:=prog) (w:=w) (A:=B) (I:=s.heap.objs.size) (S:=S) (es:=es) (ep:=ep) (t:=t) G u a S u (es.toList.map (·.2)) (by simp) (λi=>u7 ((if i=0 then 0 else(t.place[0]?).getD 0+1:Nat):Nat)) (λ_=>True) (λ_ _ _ _=>trivial)
    (λs' i E Q hi _ g y k1 k2=>xO (slot:=if i=0 then 0 else(t.place[0]?).getD 0+1) g y a G (λB E' Q' q=>qa hw y a Xk ⋯ q) (λx nx e h' T hs=>by
     rw[qb es t.place i ⋯ Lf hi,gs]at e;obtain⟨p,C,e2⟩:=e;cases e2;refine k1 _ (by rw[ko,sL,C];rfl) h' ?_ hs;rw[Ň (Nat.succ_ne_zero i)];exact T) (λe=>by
     rw[qb es t.place i ⋯ Lf hi,Sv]at e;exact k2 (by rw[ko,sL,e];rfl)))
   refine df ⟨_,rfl,"set_iterator",_,⟨_,gj _ rfl,rfl⟩,SI.slot_next.lookup,?_⟩;exact h _ _ _ _ _ c _ s.drawn W J N.symm O (hV _) (λb d=>by
    simp only[d7,vr,or_false]at d;rcases d with rfl|rfl|rfl
    ·exact .inr (hV _)
    ·exact .inl rfl
    ·exact .inl rfl) ⟨lg _,⟨_,gj _ rfl,rfl,rfl⟩,c4 _ ho,trivial⟩ λb o e=>c4 _ e
end
theorem qc:QO (.type "set") "__len__"=pure (a5 (.builtin "set.__len__")):=by rw[RZ,Oa];kernel_rfl
section
theorem kW:∀{vs:List d3}{a:List Str},vs.length=a.length->(∀(i:Nat) (v:d3),vs[i]?=a5 v->∃x t,a[i]?=a5 x/\v=.str x t)->Qm vs a
 |[],[],_,_=>.nil
 |[],_::_,h,_=>by simp at h
 |_::_,[],h,_=>by simp at h
 |v::vs,y::a,h,k=>by
  obtain⟨x,t,b,c⟩:=k 0 v rfl;cases b;subst c;exact .cons y t (kW (by simpa using h) λi w d=>k (i+1) w d)
theorem qd(J:A.handled=bD)(N:aP prog w s.heap S (aE w) D)(O:D.length<=cL)
  (T:∀(vs:List d3) (c:List Str) (h':Jy) (d':Drawn) (h:Nat),c.Perm D->Qm vs c->s.heap.objs.size<=h'.objs.size->s.toks<=h->(∀b o,s.heap.get? b=a5 o->h'.get? b=a5 o)->Q vs {s with heap:=h',drawn:=d',toks:=h}) :
  d6 (ez prog w) A (Z_ (.ref S)) Q E s:=by
 obtain⟨L,es,ep,t,ho,rest⟩:=id N;have Y:S<s.heap.objs.size:=fx ho;unfold Z_;refine b6 (YP (Kz PySem.F.entry_proto_collect ?_));rw[N4 PySem.F.plain_proto_collect _];show d6 _ A.in1 (Č [] >>= λl=>ĸ (.builtin "list.__iadd__" ⟨[l,.ref S],[]⟩)) _ _ s;refine b6 (x3 ?_);refine df ⟨Tb PySem.F.plain_list_iadd _,Kz PySem.F.entry_list_iadd ?_⟩;rw[N4 PySem.F.plain_list_iadd _];have f:(s.heap.push {cls:=.type "list",data:=.seq ([]:List d3).toArray}).get? S=a5 {cls:=.type "set",dict:=bD,data:=.set es ep t}:=c4 _ ho;have hT:R_ {s with heap:=s.heap.push {cls:=.type "list",data:=.seq ([]:List d3).toArray}} (.ref S) "set":=⟨_,f,rfl⟩
 show d6 _ A.in1 (tA (.ref s.heap.objs.size) (.ref S) (.ref s.heap.objs.size)) _ _ _;unfold tA;refine b6 (V9 hT ?_);have j:s.heap.objs.size≠S:=KU Y;have h1:N0 (.ref s.heap.objs.size) (.ref S)=cc:=by simp[N0,j]
 have h2:(ti "set"==ti "list")=cc:=by decide
 have h3:(ti "set"==ti "tuple")=cc:=by decide
 simp only[h1,h2,h3,XZ,Jr,if_false];refine b6 (xP (B:=A.in1) (by simpa using J) ⟨L,es,ep,t,f,rest⟩ ?_);intro I fp n P St c h' d' W k m hP p Ta IZ hk;have g:R_ {s with heap:=h',drawn:=d' } (.ref S) "set":=⟨_,hk _ _ f,rfl⟩
 refine b6 (t6 ?_);unfold UG;refine b6 (Ug g qc ?_);have Kj:splitId "set.__len__"=a5 ("set","__len__"):=by decide +kernel
 dsimp only
 rw[Kj]
 dsimp only
 refine b6 (OX g Wg ?_);rw[Ň (by decide)];rw[ņ (by decide +kernel)];refine b6 (V9 g ?_);refine df ?_;rw[ņ (by decide +kernel)];have q:s.heap.objs.size∉fp:=λa=>by
  rcases Ta _ a with z|z
  ·exact j z
  ·rw[MJ]at z;exact absurd z (Nat.not_succ_le_self _)
 have r:h'.get? s.heap.objs.size=a5 {cls:=.type "list",data:=.seq ([]:List d3).toArray}:=hk _ _ (gj _ rfl);refine b6 (ON ?_);refine b6 ?_;show d6 _ A.in1 (ě s.heap.objs.size (·.push .none) >>= λ_=>ě s.heap.objs.size (·.pop)) _ _ _;refine b6 (RY r rfl ?_);have u:=t7 (rz (·.push nC)) r rfl;refine RY u rfl ?_;have Xl:=t7 (rz (·.pop)) u rfl;have x:∀b o,b≠s.heap.objs.size->h'.get? b=a5 o->((h'.update s.heap.objs.size (rz (·.push nC))).update s.heap.objs.size (rz (·.pop))).get? b=a5 o :=
  λb o d e=>(M1 _ _ (r6 d)).trans ((M1 _ _ (r6 d)).trans e)
 refine df ⟨Tb PySem.F.plain_extend_loop _,â W.toS (by rw[m,k.length_eq];exact O) _ q _ n 0 _ _ _ rfl (lg _) (W.frame 0 h' _ IZ λb d o e=>x b o (λz=>q (z▸d)) e) Xl (ð P) λs' JN c' a y C=>?_⟩;show d6 _ A (load s.heap.objs.size >>= _) _ _ s';refine b6 (ö y ?_);obtain⟨Rf,g2,G,Xm,Xn⟩:=s';have eg:g2=s.gens:=a.gens;have ed:G=d':=a.drawn;have eo:Xn=s.os:=a.os;subst eg;subst ed;subst eo;refine df (T _ c Rf G Xm k (kW (by rw[hU,C.1,m]) λi v hv=>hP i v (C.2 i v (by rwa [sL]at hv))) (P8 (fx y)) a.toks λb o e=>?_);have H:b≠s.heap.objs.size:=λz=>by rw[z]at e;exact absurd (fx e) (uv _)
 refine a.heap b o (λz=>?_) (x b o H (hk _ _ (c4 _ e)));rcases d7.mp z with z|z
 ·exact H z
 ·rw[i2.mp z]at e;have:=fx e;rw[MJ]at p;exact absurd (i3 this (wh (Ng _) p)) (uv _)
end
section
theorem Inv.drawn(I:Inv X a σ H s)(d:Drawn):Inv X a σ H {s with drawn:=d}:=⟨I.ok,I.os,I.bare,I.base,I.loc,I.cell,I.free,I.Jk,I.pin,I.IQ,I.len⟩
theorem oN(l:X.calm=b8)(I:Inv X c σ H s)(hq:Jn X.K H p (d.map V.str)\/JH X.K H p (d.map V.str))(i:d.length+1<D6)
  (h:∀(S:eH) (h':Jy) (a:Nat),aP X.prog X.w h' S (aE X.w) (aK d)->Inv X c σ H {s with heap:=h',toks:=a}->Q (.ref S) {s with heap:=h',toks:=a}) :
  d6 (ez X.prog X.w) X.A (NQ (.type "set") [.ref p]) Q X.xe s:=by
 have j:X.A.handled=bD:=I.ok.hd l;rcases hq with hq|hq
 ·obtain⟨m,rv,f,hz⟩:=I.list hq;exact fQ j f.isList (cI rv) i λh' a g k=>h _ h' a g (I.kept λb o e=>k b o (fx e) e)
 ·obtain⟨m,rv,f,hz⟩:=I.tuple hq;exact gL j f (cI rv) i λh' a g k=>h _ h' a g (I.kept λb o e=>k b o (fx e) e)
theorem gN(i:X.calm=b8)(I:Inv X a σ H s)(j:aP X.prog X.w s.heap S (aE X.w) D)(d:D.length<64)
  (q:∀p,H p=bD->Q (.ref p) (upd H p (.lst ((aB D).map V.str)))):d6 (ez X.prog X.w) X.A (NQ (.builtin "sorted") [.ref S]) (EP X a σ Q) X.xe s:=by
 have k:X.A.handled=bD:=I.ok.hd i;have hl:D.length<=cL:=P8 (i3 d (by decide));refine fm (qd (A:=X.A.in1) (by simpa using k) j hl λvs l h' d' b f g hsz r hk=>⟨l,g,by rw[iD g,f.length_eq];exact d,λt m e k2 c s2=>?_⟩);rw[eD f]at s2;have n:Inv X a σ H {s with heap:=h',toks:=b}:=I.kept (t':=b) hk;have h:Inv X a σ H {s with heap:=h',drawn:=d',toks:=b}:=n.drawn d';exact⟨.ref h'.objs.size,_,h.laid (t':=b) (o:=.lst ((aB D).map V.str)) k2 (hV _) ⟨by rw[dt,bx];exact hl,m,e,dA s2,c⟩,rfl,q _ (h.IQ.fresh (hV _))⟩
theorem rJ(I:Inv X a σ H s)(c:aP X.prog X.w s.heap S (aE X.w) D)
  (q:Q (.int D.length) H):d6 (ez X.prog X.w) X.A (NQ (.builtin "len") [.ref S]) (EP X a σ Q) X.xe s:=by
 obtain⟨L,es,ep,t,ho,d,g,j,h,i,k,l⟩:=c;have b:es.size=D.length:=by rw[<-hU,d,dt,<-dt (f:=ô) (as:=L),g.length_eq]
 have m:es.size<4096:=i;refine call_len_set ho ⟨rfl,rfl,rfl⟩ rfl h ⋯ ?_;exact⟨.int es.size,_,I.kept (t':=s.toks+1+1) (λ_ _ e=>e),⟨_,rfl⟩,by rw[b];exact q⟩
end
end L2
namespace L2
open PySem
noncomputable def dM(mask:Nat):Nat->Nat×Nat->Nat×Nat
 |0,q=>q
 |t+1,q=>dM mask t (Â mask q.1 q.2)
theorem mU(mask:Nat):∀(a b:Nat) (q:Nat×Nat),dM mask (a+b) q=dM mask b (dM mask a q)
 |0,b,q=>by rw[P1];rfl
 |a+1,b,q=>by rw[show a+1+b=(a+b)+1 by lia];exact mU mask a b _
theorem mV(mask:Nat):∀(t:Nat) (q:Nat×Nat),(dM mask t q).2=q.2 / 32 ^ t
 |0,q=>by simp[dM]
 |t+1,q=>by
  show(dM mask t (Â mask q.1 q.2)).2=_;rw[mV mask t];show q.2 / 32 / 32 ^ t=_;rw[Nat.div_div_eq_div_mul,Nat.pow_succ,Nat.mul_comm]
theorem qe(mask:Nat):∀(t:Nat) (q:Nat×Nat),q.1<mask+1->(dM mask t q).1<mask+1
 |0,q,h=>h
 |t+1,q,h=>qe mask t _ (Xq _ (Y7 _))
noncomputable def Mr(m:Nat):Nat->Nat->Nat
 |0,i=>i
 |t+1,i=>Mr m t ((i * 5+1) % m)
theorem mW(mask:Nat):∀(t i:Nat),dM mask t (i,0)=(Mr (mask+1) t i,0)
 |0,i=>rfl
 |t+1,i=>by
  show dM mask t ((i * 5+1+0 / 32) % (mask+1),0 / 32)=(Mr (mask+1) t ((i * 5+1) % (mask+1)),0)
  rw[Nat.zero_div,Ĥ];exact mW mask t _
theorem j_(m:Nat):∀(a b i:Nat),Mr m (a+b) i=Mr m b (Mr m a i)
 |0,b,i=>by rw[P1];rfl
 |a+1,b,i=>by rw[show a+1+b=(a+b)+1 by lia];exact j_ m a b _
noncomputable def vH(m:Nat):Nat->Nat->List Nat
 |0,_=>[]
 |t+1,i=>i::vH m t ((i * 5+1) % m)
theorem tR(m:Nat):∀(n i t:Nat),t<n->(vH m n i)[t]?=a5 (Mr m t i)
 |0,_,_,h=>by lia
 |n+1,i,0,_=>rfl
 |n+1,i,t+1,h=>by
  show(vH m n ((i * 5+1) % m))[t]?=_;exact tR m n _ t ⋯
theorem qf(m:Nat):∀(n i:Nat),(vH m n i).length=n
 |0,_=>rfl
 |n+1,i=>by show(vH m n _).length+1=_;rw[qf m n]
noncomputable def Full(m:Nat):Bool:=(hJ m).all (λj=>(vH m m 0).contains j)&&(Mr m m 0==0)
theorem CP:Full 8=b8:=by decide +kernel
theorem xQ:Full 16=b8:=by decide +kernel
theorem xR:Full 32=b8:=by decide +kernel
theorem xS:Full 64=b8:=by decide +kernel
theorem tS:Full 128=b8:=by decide +kernel
theorem vI(h:Full m=b8)(l:i<m)(n:j<m):∃t,t<m/\Mr m t i=j:=by
 unfold Full at h;rw[cb,ki]at h;obtain⟨o,d⟩:=h;have d:Mr m m 0=0:=by simpa using d
 have get:∀k,k<m->∃a,a<m/\Mr m a 0=k:=λk hk=>by
  have:=o k (u5.mpr hk);rw[List.contains_iff_mem]at this;obtain⟨a,c⟩:=Y9.mp this;have e:a<m:=by have:=(dV.mp c).1;rw[qf]at this;exact this
  rw[tR m m 0 a e]at c;exact⟨a,e,by simpa using c⟩
 obtain⟨a,c,f⟩:=get i l;obtain⟨b,p,g⟩:=get j n;by_cases q:a<=b
 ·exact⟨b - a,⋯,by rw[<-f,<-j_,show a+(b - a)=b by lia,g]⟩
 ·refine⟨m - a+b,⋯,?_⟩;rw[<-f,<-j_,show a+(m - a+b)=m+b by lia,j_,d,g]
theorem mX:∀(f i p:Nat),u6 mask owner f i p=bD->∀t,t<f->(owner.getD (dM mask t (i,p)).1 (a5 0)).isNone=cc
 |0,_,_,_,t,h=>by lia
 |f+1,i,p,h,t,b=>by
  unfold u6 at h;cases a:(hJ (Ve mask i+1 - i)).find? (λk=>(owner.getD (i+k) (a5 0)).isNone) with
  |some k=>rw[a]at h;cases h
  |none =>
   rw[a]at h;cases t with
   |zero =>
    have:=List.find?_eq_none.mp a 0 (u5.mpr (by unfold Ve;split<;>lia));rw[Ĥ]at this;show(owner.getD i (a5 0)).isNone=cc;cases e:(owner.getD i (a5 0)).isNone with
    |false=>rfl
    |true=>exact absurd e this
   |succ t=>exact mX f _ _ h t ⋯
theorem mY:∀(f i p j:Nat),u6 mask owner f i p=a5 j->owner[j]?=a5 bD
 |0,_,_,_,h=>by cases h
 |f+1,i,p,j,h=>by
  unfold u6 at h;cases b:(hJ (Ve mask i+1 - i)).find? (λk=>(owner.getD (i+k) (a5 0)).isNone) with
  |some k =>
   rw[b]at h;cases h;have a:=List.find?_some b;have c:i+k<owner.size:=by
    refine VD λz=>?_;have:owner.getD (i+k) (a5 0)=a5 0:=by simp[UI,z]
    rw[this]at a;cases a
   have d:owner.getD (i+k) (a5 0)=owner[i+k]:=by simp[UI,c]
   rw[d]at a;rw[OH c];cases e:owner[i+k] with
   |none=>rfl
   |some _=>rw[e]at a;cases a
  |none =>
   rw[b]at h;exact mY f _ _ j h
theorem A7(c:Full (mask+1)=b8){j0:Nat}(a:owner[j0]?=a5 bD)(hsz:owner.size=mask+1)(d:i<mask+1)(f:p<2 ^ 64):∃j,u6 mask owner (Qt mask) i p=a5 j/\owner[j]?=a5 bD:=by
 cases e:u6 mask owner (Qt mask) i p with
 |some j=>exact⟨j,rfl,mY _ _ _ _ e⟩
 |none =>
  have g:j0<mask+1:=by rw[<-hsz];exact(Array.getElem?_eq_some_iff.mp a).1
  have h:(dM mask 13 (i,p)).2=0:=by
   rw[mV];exact Nat.div_eq_of_lt (Vk f (by decide))
  obtain⟨t,n,k⟩:=vI c (qe mask 13 (i,p) d) g;have l:dM mask (13+t) (i,p)=(j0,0):=by
   rw[mU,show dM mask 13 (i,p)=((dM mask 13 (i,p)).1,0) from Prod.ext rfl h,mW,k]
  have:=mX _ _ _ e (13+t) (by unfold Qt;lia);rw[l]at this;have m:owner.getD j0 (a5 0)=bD:=by
   have b:j0<owner.size:=by lia
   rw[OH b]at a;simp[UI,b];exact wk a
  rw[m]at this;cases this
noncomputable def vals(L:List (Option Nat)):List Nat:=L.filterMap id
theorem qg:∀{L:List (Option Nat)}{j:Nat},L[j]?=a5 bD->(vals (L.set j (a5 k))).Perm (k::vals L)
 |[],j,h=>by simp at h
 |x::L,0,h=>by
  have:x=bD:=by simpa using h
  subst this;exact NT _
 |x::L,j+1,h=>by
  have a:=qg (k:=k) (L:=L) (j:=j) (by simpa using h);cases x with
  |none=>exact a
  |some y =>
   show(y::vals (L.set j (a5 k))).Perm (k::y::vals L);exact(ZW y a).trans (ZV k y _)
theorem mZ:∀{L:List (Option Nat)},(vals L).length<L.length->∃j:Nat,L[j]?=a5 bD
 |[],h=>by simp at h
 |none::L,_=>⟨0,rfl⟩
 |some y::L,h=>by
  obtain⟨j,a⟩:=mZ (L:=L) (by
   have:(vals L).length+1<L.length+1:=h;lia)
  exact⟨j+1,by simpa using a⟩
theorem xT(d:Full (mask+1)=b8):∀(hs:List Int) (owner:Array (Option Nat)) (k:Nat),owner.size=mask+1->(vals owner.toList).Perm (hJ k)->k+hs.length<=mask ->
  ∃c,hs.foldl (λacc h=>do
   let (owner,k) <-acc
   let j <-u6 mask owner (Qt mask) (Og h % (mask+1)) (Og h)
   pure (owner.setIfInBounds j (a5 k),k+1)) (a5 (owner,k))=a5 (c,k+hs.length)/\c.size=mask+1/\(vals c.toList).Perm (hJ (k+hs.length))
 |[],owner,k,a,b,_=>⟨owner,rfl,a,b⟩
 |h::hs,owner,k,a,b,f=>by
  rw[ke]at f;obtain⟨j0,g⟩:=mZ (L:=owner.toList) (by rw[b.length_eq,x2,hU];lia);obtain⟨j,e,l⟩:=A7 d (owner:=owner) (j0:=j0) (by rw[<-sL];exact g) a (i:=Og h % (mask+1)) (p:=Og h) (Xq _ (Y7 _)) (by unfold Og;lia);have m:owner.toList[j]?=a5 bD:=by rw[sL];exact l
  have n:(vals (owner.setIfInBounds j (a5 k)).toList).Perm (hJ (k+1)):=by
   rw[Array.toList_setIfInBounds,ë];exact(qg m).trans ((ZW k b).trans (List.perm_append_singleton k _).symm)
  obtain⟨o,q,r,s⟩:=xT d hs (owner.setIfInBounds j (a5 k)) (k+1) (by rw[Array.size_setIfInBounds];exact a) n ⋯;refine⟨o,?_,r,by rw[show k+(h::hs).length=k+1+hs.length by simp;lia];exact s⟩;rw[Tj,show k+(h::hs).length=k+1+hs.length by simp;lia,<-q];congr 1
  show(u6 mask owner (Qt mask) (Og h % (mask+1)) (Og h)).bind _=_;rw[e];rfl
theorem rK(L:List (Option Nat)):(hJ L.length).filterMap (λj=>L.getD j bD)=vals L:=by
 have h:(hJ L.length).map (λj=>L.getD j bD)=L:=by
  apply Md
  ·simp
  ·intro i b a;simp[OB,a]
 have a:vals ((hJ L.length).map (λj=>L.getD j bD))=vals L:=Ŋ vals h;unfold vals at a;rw[List.filterMap_map]at a;exact a
theorem tT{led plain:Bool}(e:Full (mask+1)=b8)(f:hs.size<=mask):∃t a,Tu mask finger moves led plain hs=a5 (t,a)/\t.fits hs.size=b8/\t.led=led/\t.plain=plain/\t.mask=mask/\t.dummies=#[]/\a.toList.Perm (hJ hs.size):=by
 obtain⟨owner,c,g,b⟩:=xT e hs.toList (Array.replicate (mask+1) bD) 0 (by simp) (by
  have:∀n:Nat,vals (i5 n bD)=[]:=λn=>by
   induction n with
   |zero=>rfl
   |succ n h=>rw[List.replicate_succ];exact h
  rw[Array.toList_replicate,this];exact NT _) (by rw[hU];lia)
 rw[P1,hU]at c b;have i:RC mask hs=a5 owner:=by
  unfold RC;rw[<-Array.foldl_toList];rw[c];rfl
 have k:((hJ (mask+1)).filterMap λj=>owner.getD j bD)=vals owner.toList:=by
  rw[<-rK,hU,g];congr 1
  funext j
  simp only[Array.getD_eq_getD_getElem?,WJ,sL]
 have d:(((hJ (mask+1)).filterMap λj=>(owner.getD j bD).map (j,·)).map (·.2))=vals owner.toList:=by
  rw[<-k,List.map_filterMap];congr 1
  funext j
  cases owner.getD j bD<;>rfl
 have hl:((hJ (mask+1)).filterMap λj=>(owner.getD j bD).map (j,·)).length=hs.size:=by
  have:=Ŋ J7 d;rw[dt,b.length_eq,x2]at this;exact this
 refine⟨_,_,by unfold Tu;rw[i];rfl,?_,rfl,rfl,rfl,rfl,?_⟩
 ·unfold RN VR;simp only[hH,dt,hl];simp;exact f
 ·show(((hJ (mask+1)).filterMap λj=>(owner.getD j bD).map (j,·)).map (·.2)).Perm _;rw[d];exact b
end L2
namespace L2
open PySem PySem.Spec PyProof.Rows
noncomputable def DZ(P:va)(w:H8)(p:Str×Tok):Int×d3:=((sK P w).hash p.1,t8 p.1 p.2)
section
theorem aP.perm(b:aP prog w h a led D)(p:D.Perm c):aP prog w h a led c :=
 let ⟨L,es,ep,t,d,e,f,g,i⟩:=b;⟨L,es,ep,t,d,e,f.trans p,p.nodup_iff.mp g,i⟩
theorem aP.at(b:aP prog w h a led D)(k:∀o,h.get? a=a5 o->h'.get? a=a5 o):aP prog w h' a led D :=
 let ⟨L,es,ep,t,c,d⟩:=b;⟨L,es,ep,t,k _ c,d⟩
theorem aP.sz{h:Jy}{a:eH}{led:Bool}{D:List Str}{L:List (Str×Tok)}{es:Array (Int×d3)}(b:es.toList=L.map (λp=>((sK prog w).hash p.1,t8 p.1 p.2)))(c:(L.map (·.1)).Perm D):es.size=D.length:=by
 rw[<-hU,b,dt,<-c.length_eq,dt]
theorem aP.of(g:aP prog w h a led D):h.SetOf (sK prog w) a (λx=>cK (x∈D)) D.length:=by
 obtain⟨L,es,ep,t,ho,b,d,l,i,j,m,n⟩:=g;refine⟨_,es,ep,t,ho,⟨rfl,rfl,rfl⟩,rfl,by rw[b];exact kP,λx=>?_,j,i,aP.sz (h:=h) (a:=a) (led:=led) b d⟩;rw[Ņ,b,<-d.mem_iff,js];constructor
 ·rintro⟨p,c,e⟩;exact⟨_,js.mpr ⟨p,c,rfl⟩,by rw[gK];simp[e]⟩
 ·rintro⟨e,k,f⟩;obtain⟨p,c,rfl⟩:=js.mp k;rw[gK,Ņ]at f;exact⟨p,c,f.symm⟩
theorem qh(b:aP prog w s.heap a led D)(h:∀r:Option Nat,r.isSome=cK (x∈D)->Q r s):
  d6 (ez prog w) A (setFind a (.str x c) ((sK prog w).hash x)) Q E s :=
 wpAny_setFind_of (knd:=sK prog w) (by rw[gK];simp) rfl b.of h
theorem eU{L':List (Str×Tok)}(ho:s.heap.get? a=a5 {cls:=.type "set",dict:=bD,data:=.set es ep t})(f:b.toList=L'.map (λp=>((sK prog w).hash p.1,t8 p.1 p.2)))(g:(L'.map (·.1)).Perm c)(i:c.Nodup)
  (j:t'.fits b.size=b8) (d:b.size<D6) (hl:t'.led=led) (k:b.size=0\/t'.plain=cc) (h:∀h',qs a s.heap h'->h'.get? a=a5 {cls:=.type "set",dict:=bD,data:=.set b (ep+1) t' }->aP prog w h' a led c->Q () {s with heap:=h' }) :
  d6 (ez prog w) A (storeSet a b t') Q E s:=by
 refine V_ ho rfl ?_ (Wo d);have e:(s.heap.update a (Pw b t')).get? a=a5 {cls:=.type "set",dict:=bD,data:=.set b (ep+1) t' }:=t7 (Pw b t') ho rfl;exact h _ (y1 s.heap a (Pw b t')) e ⟨L',b,ep+1,t',e,f,g,i,j,d,hl,k⟩
theorem fu(xs:Array α)(i:Nat):(PL xs i).toList=xs.toList.eraseIdx i:=by
 unfold PL;rw[Array.toList_append,Zd,Zd,Qd];simp[List.extract];rw[Nh (by simp)]
theorem vJ{t:OP}(h:t.fits n=b8)(e:i<n):(t.drop i).fits (n - 1)=b8:=by
 simp only[RN,cb,beq_iff_eq,Ņ]at h;obtain⟨f,b⟩:=h;have a:i<t.place.size:=by lia
 have c:(PL t.place i).size=t.place.size - 1:=by
  rw[<-hU,fu,Zy,ņ (by simpa using a),hU]
 have d:∀p x,(SetTable.insertAt t.dummies p x).size=t.dummies.size+1:=λp x=>by
  have:=(SetTable.insertAt_perm t.dummies p x).length_eq;rw[hU,hU,Array.size_push]at this;exact this
 unfold Ã;rw[OH a];simp only[RN,VR,cb,beq_iff_eq,Ņ,c,d]at b ⊢;constructor<;>lia
theorem xU(t:OP)(i:Nat):(t.drop i).led=t.led/\(t.drop i).plain=t.plain:=by
 unfold Ã;split<;>exact⟨rfl,rfl⟩
theorem erase_filter:∀{l:List Str}{j:Nat}{x:Str},l.Nodup->l[j]?=a5 x->l.eraseIdx j=l.filter λy=>cK (y≠x)
 |[],j,x,_,h=>by simp at h
 |y::l,0,x,a,h=>by
  obtain⟨b,c⟩:=mx.mp a;have:y=x:=by simpa using h
  subst this;rw[List.eraseIdx_cons_zero,Pz (by simp)];exact(QT.mpr λz hz=>by
   have:z≠y:=λe=>b (e▸hz);simpa using this).symm
 |y::l,j+1,x,a,h=>by
  obtain⟨b,c⟩:=mx.mp a;have d:l[j]?=a5 x:=by simpa using h
  have:y≠x:=λe=>b (e▸my d);rw[SD,erase_filter c d,Py (by simpa using this)]
theorem fR(f:α->β):∀(l:List α) (j:Nat),(l.map f).eraseIdx j=(l.eraseIdx j).map f
 |[],_=>rfl
 |x::l,0=>rfl
 |x::l,j+1=>by
  show f x::(l.map f).eraseIdx j=f x::(l.eraseIdx j).map f;rw[fR f l j]
theorem qi{a:eH}{led:Bool}{D:List Str}{x:Str}{k:Tok}{Q:Bool->d8->Prop}(l:aP prog w s.heap a led D)(h:∀b h',qs a s.heap h'->aP prog w h' a led (D.filter λy=>cK (y≠x))->Q b {s with heap:=h' }):
  d6 (ez prog w) A (ĝ a (.str x k) ((sK prog w).hash x)) Q E s:=by
 have u:=l;obtain⟨L,es,ep,t,ho,c,d,m,f,v,B,C⟩:=l;have G:(sK prog w).is x (.str x k)=b8:=by rw[gK];simp
 have n:ElemsOf (sK prog w) es.toList:=by rw[c];exact kP
 have hsz:=aP.sz (h:=s.heap) (a:=a) (led:=led) c d;unfold ĝ setFind setFindIn;refine b6 (b6 (mu ho rfl f ?_))
 dsimp only
 rw[byScan_of (knd:=sK prog w) rfl v n];simp only[↓reduceIte];refine b6 (ON ?_);refine b6 (ė (knd:=sK prog w) G ho rfl f n ?_);cases o:XR (λe=>(sK prog w).is x e.2) es.toList with
 |none =>
  dsimp only
  refine df (df ?_);have g:x∉D:=λg=>by
   rw[<-d.mem_iff,js]at g;obtain⟨p,H,e⟩:=g;have I:((sK prog w).hash p.1,t8 p.1 p.2)∈es.toList:=by rw[c];exact js.mpr ⟨p,H,rfl⟩
   have:=Xr.mp o _ I;rw[gK,ō]at this;exact this e.symm
  have e:D.filter (λy=>cK (y≠x))=D:=QT.mpr λz hz=>by
   have:z≠x:=λe=>g (e▸hz);simpa using this
  have J:s={s with heap:=s.heap}:=by cases s;rfl
  rw[J];exact h cc s.heap (Jo a s.heap) (by rw[e];exact u)
 |some j =>
  dsimp only
  obtain⟨i,q,_⟩:=U2.mp o;rw[P1];refine df ?_
  dsimp only
  refine b6 (mu ho rfl f ?_)
  dsimp only
  have N:j<L.length:=by rw[c,dt]at i;exact i
  have O:j<es.size:=by simpa using i
  have T:L[j].1=x:=by
   have e:es.toList[j]=((sK prog w).hash L[j].1,t8 L[j].1 L[j].2):=by simp[c]
   rw[e,gK,Ņ]at q;exact q.symm
  have Y:(L.map (·.1)).Nodup:=d.nodup_iff.mpr m;have Xt:(L.eraseIdx j).map (·.1)=(L.map (·.1)).filter λy=>cK (y≠x):=by
   rw[<-erase_filter Y (j:=j) (by simp[N,T]),fR]
  have Td:(PL es j).toList=(L.eraseIdx j).map (λp=>((sK prog w).hash p.1,t8 p.1 p.2)):=by
   rw[fu,c,fR]
  have r:(PL es j).size=es.size - 1:=by rw[<-hU,fu,Zy,ņ i,hU]
  obtain⟨d1,d2⟩:=xU t j;refine b6 (eU (t':=t.drop j) (led:=led) ho Td (by rw[Xt];exact d.filter _) (XW OM m) (by rw[r];exact vJ f O) (by rw[r];lia) (d1.trans B) (.inr (d2.trans (C.resolve_left ⋯))) λh' sb hg Km=>?_);refine b6 (wpAny_point ?_);exact df (h b8 h' sb Km)
end
theorem A8:Full 256=b8:=by decide +kernel
section
theorem iE{es:Array (Int×d3)}{a:Array Nat}(h:a.toList.Perm (hJ es.size)):(a.filterMap (es[·]?)).toList.Perm es.toList:=by
 rw[Array.toList_filterMap];exact(h.filterMap _).trans (by rw[filterMap_getElem?_range])
theorem m6{L:List (Str×Tok)}(ho:s.heap.get? a=a5 {cls:=.type "set",dict:=bD,data:=.set es ep t})(n:es.toList=L.map (λp=>((sK prog w).hash p.1,t8 p.1 p.2)))(o:(L.map (·.1)).Perm D)(q:D.Nodup)
  (r:t.fits es.size=b8) (u:es.size<D6) (i:t.led=led) (v:es.size=0\/t.plain=cc) (j:Ku c=m+1) (x:Full (m+1)=b8) (y:es.size<=m) (Y:m<1000)
  (h:∀h' (d:Array (Int×d3)) (t':OP) (z:Nat),qs a s.heap h'->h'.get? a=a5 {cls:=.type "set",dict:=bD,data:=.set d z t' }->aP prog w h' a led D->t'.fits d.size=b8->t'.mask=m->t'.dummies=#[]->t'.led=led->d.size=es.size->Q () {s with heap:=h' }) :
  d6 (ez prog w) A (setRelay a c) Q E s:=by
 have B:(2000:Nat)<=cL:=by decide
 obtain⟨t',b,C,f,k,G,H,I,l⟩:=tT (mask:=m) (finger:=t.finger) (moves:=t.movedTo m) (led:=t.led) (plain:=t.plain) (hs:=es.map (·.1)) x (by rw[RM];exact y);rw[RM]at f l;have e:t.relaid (es.map (·.1)) c=a5 (t',b):=by
  unfold Vf;rw[j,Nat.add_sub_cancel];exact C
 unfold setRelay;refine b6 (mu ho rfl r ?_)
 dsimp only
 rw[Ň (by rw[j];lia)];refine b6 ?_;rw[e];show d6 (ez prog w) A (if ((b.filterMap (es[·]?)).size != es.size)=b8 then((XH "internal:set-table-lost-an-element":Sem Unit) >>= λ_=>pure (b.filterMap (es[·]?),t')) else pure (b.filterMap (es[·]?),t')) _ E s;have g:=iE l;have hsz:(b.filterMap (es[·]?)).size=es.size:=by rw[<-hU,g.length_eq,hU]
 rw[Ň (by rw[hsz];simp)];refine df ?_;rw[n]at g;obtain⟨L',J,N⟩:=c_ g;exact eU (led:=led) ho J ((N.map _).trans o) q (by rw[hsz];exact f) (by rw[hsz];exact u) (k.trans i) (by rw[hsz,G];exact v) λh' O T hs=>h h' _ t' _ O T hs (by rw[hsz];exact f) H I (k.trans i) hsz
theorem xV(b:5<=n)(a:n<64):∃m,Ku (2 * n)=m+1/\Full (m+1)=b8/\n<=m/\m<1000:=by
 have:∀n:_root_.Fin 64,Ku (2 * n.val)=(if n.val<4 then 8 else if n.val<8 then 16 else if n.val<16 then 32 else if n.val<32 then 64 else 128):=by decide +kernel
 have e:=this ⟨n,a⟩
 dsimp only at e
 rw[e,Ň ⋯];split
 ·exact⟨15,rfl,xQ,⋯,⋯⟩
 ·split
  ·exact⟨31,rfl,xR,⋯,⋯⟩
  ·split
   ·exact⟨63,rfl,xS,⋯,⋯⟩
   ·exact⟨127,rfl,tS,⋯,⋯⟩
theorem vK(a:n<64):∃m,Ku (NY n)=m+1/\Full (m+1)=b8/\n<=m/\m<1000:=by
 have:∀n:_root_.Fin 64,Ku (NY n.val)=(if n.val<2 then 8 else if n.val<4 then 16 else if n.val<8 then 32 else if n.val<16 then 64 else if n.val<32 then 128 else 256):=by decide +kernel
 have e:=this ⟨n,a⟩
 dsimp only at e
 rw[e];split
 ·exact⟨7,rfl,CP,⋯,⋯⟩
 ·split
  ·exact⟨15,rfl,xQ,⋯,⋯⟩
  ·split
   ·exact⟨31,rfl,xR,⋯,⋯⟩
   ·split
    ·exact⟨63,rfl,xS,⋯,⋯⟩
    ·split
     ·exact⟨127,rfl,tS,⋯,⋯⟩
     ·exact⟨255,rfl,A8,⋯,⋯⟩
theorem xW{a:eH}{led:Bool}{D:List Str}{Q:Unit->d8->Prop}(b:aP prog w s.heap a led D)(q:D.length<64)(h:∀h',qs a s.heap h'->aP prog w h' a led D->Q () {s with heap:=h' }):
  d6 (ez prog w) A (setTidy a) Q E s:=by
 have f:=b;obtain⟨L,es,ep,t,ho,c,d,g,e,i,j,k⟩:=b;have hsz:=aP.sz (h:=s.heap) (a:=a) (led:=led) c d;unfold setTidy;refine b6 (mu ho rfl e ?_)
 dsimp only
 split
 ·obtain⟨m,m1,m2,m3,l⟩:=vK (n:=es.size) ⋯;exact m6 ho c d g e i j k m1 m2 m3 l λh' _ _ _ o _ hs _ _ _ _ _=>h h' o hs
 ·have p:s={s with heap:=s.heap}:=by cases s;rfl
  refine df ?_;rw[p];exact h s.heap (Jo a s.heap) f
theorem vL{a b:eH}{es:Array (Int×d3)}{D:List Str}{Q:Unit->d8->Prop}(v:a≠b)(ho:s.heap.get? a=a5 {cls:=.type "set",dict:=bD,data:=.set #[] 0 (.fresh 0 0 (aE w))})(x:aP prog w s.heap b (aE w) D)(Le:D.length<64)
  (h:∀h',qs a s.heap h'->aP prog w h' a (aE w) D->Q () {s with heap:=h' }):d6 (ez prog w) A (setMerge a b) Q E s:=by
 have O6:=x;obtain⟨L,d,Xv,f,y,l,n,B,C,G,Qc,Te⟩:=x;have hsz:=aP.sz (h:=s.heap) (a:=b) (led:=aE w) l n;have o:(Z3 0 0 (aE w)).fits (#[]:Array (Int×d3)).size=b8:=rfl;unfold setMerge;rw[Ň (by simpa using v)];refine b6 (mu y rfl C ?_)
 dsimp only
 split
 ·rename_i Tf;have hD:D=[]:=by
   have:d.size=0:=by simpa using Tf
   exact List.eq_nil_of_length_eq_zero ⋯
  subst hD;have p:s={s with heap:=s.heap}:=by cases s;rfl
  refine df ?_;rw[p];exact h s.heap (Jo a s.heap) (g9 ho)
 ·rename_i JM;have Tg:d.size≠0:=λz=>JM (by simpa using z);refine b6 ?_;unfold setRoomFor;refine b6 (mu ho rfl o ?_)
  dsimp only
  refine mh (Q:=λ_ s1=>∃(g:Jy) (ts:OP) (H:Nat) (k:Array (Int×d3)),s1={s with heap:=g}/\k.size=0/\qs a s.heap g/\g.get? a=a5 {cls:=.type "set",dict:=bD,data:=.set k H ts}/\ts.fits k.size=b8/\Full (ts.mask+1)=b8/\d.size<=ts.mask/\ts.dummies=#[]/\ts.led=aE w) ?_ (λ_ s1 ⟨g,ts,H,k,e,z,i,j,I,hF,q,Th,hl⟩=>?_) λ_ _ e=>e
  ·unfold SetTable.roomFor;by_cases h5:5<=d.size
   ·rw[ņ (by show(0+d.size) * 5 >= 7 * 3;lia)]
    dsimp only
    obtain⟨m,m1,m2,m3,m4⟩:=xV h5 ⋯;have ew:((Z3 0 0 (aE w)).place.size+d.size) * 2=2 * d.size:=by show(0+d.size) * 2=_;lia
    rw[ew];exact m6 (L:=[]) (D:=[]) (led:=aE w) ho rfl (NT _) .nil o (by decide) rfl (.inl rfl) m1 m2 (by show 0<=m;lia) m4 λh' IL t' NW i j _ SQ J hd hl hz=>⟨h',t',NW,IL,rfl,hz,i,j,SQ,by rw[J];exact m2,by rw[J];exact m3,hd,hl⟩
   ·rw[Ň (by show ¬(0+d.size) * 5 >= 7 * 3;lia)]
    dsimp only
    have p:s={s with heap:=s.heap}:=by cases s;rfl
    exact df ⟨s.heap,_,0,#[],p,rfl,Jo a s.heap,ho,o,CP,by show d.size<=7;lia,rfl,rfl⟩
  ·subst e;refine b6 (mu j rfl I ?_)
   dsimp only
   have Ti:ts.place.size=0:=by
    simp only[RN,cb,beq_iff_eq]at I;lia
   have Qe:ts.road f=if ts.mask==f.mask&&f.dummies.isEmpty then .slotForSlot else .clean:=by
    unfold SetTable.road VR;rw[Ti,Th];rfl
   have Xw:g.get? b=a5 {cls:=.type "set",dict:=bD,data:=.set d Xv f}:=(i.2 b (r6 v)).trans y;have N:(ts.plain&&f.plain)=cc:=by rw[Te.resolve_left Tg,TQ]
   have O:(ts.led&&f.led)=aE w:=by rw[hl,Qc,ć]
   rw[Qe];by_cases T:(ts.mask==f.mask&&f.dummies.isEmpty)=b8
   ·rw[ņ T]
    dsimp only
    exact eU (s:={s with heap:=g}) (led:=aE w) (L':=L) (t':={f with finger:=ts.finger,led:=ts.led&&f.led,moves:=ts.moves,plain:=ts.plain&&f.plain}) j l n B C G O (.inr N) λh' r _ hs=>h h' (i.trans r) hs
   ·rw[Ň T]
    dsimp only
    obtain⟨t',c,q1,Y,q3,q4,q5,q6,q7⟩:=tT (mask:=ts.mask) (finger:=ts.finger) (moves:=ts.moves) (led:=ts.led&&f.led) (plain:=ts.plain&&f.plain) (hs:=d.map (·.1)) hF (by rw[RM];exact q);rw[RM]at Y q7;refine b6 ?_;rw[q1];show d6 (ez prog w) A (if ((c.filterMap (d[·]?)).size != d.size)=b8 then((XH "internal:set-table-lost-an-element":Sem Unit) >>= λ_=>pure (c.filterMap (d[·]?),t')) else pure (c.filterMap (d[·]?),t')) _ E _;have t:=iE q7;have u:(c.filterMap (d[·]?)).size=d.size:=by rw[<-hU,t.length_eq,hU]
    rw[Ň (by rw[u];simp)];refine df ?_;rw[l]at t;obtain⟨L',e',p'⟩:=c_ t;exact eU (s:={s with heap:=g}) (led:=aE w) j e' ((p'.map _).trans n) B (by rw[u];exact Y) (by rw[u];exact G) (q3.trans O) (.inr (q4.trans N)) λh' r _ hs=>h h' (i.trans r) hs
end
section
theorem h_:∀{l:List α},(∀x∈l,∀Q':ForInStep β->d8->Prop,Q' (.yield b) s->d6 M A (body x b) Q' E s)->Q b s->d6 M A (ń l b body) Q E s
 |[],_,h=>by rw[WK];exact df h
 |x::l,a,h=>by
  rw[VT];exact b6 (a x (by simp) _ (h_ (λy c=>a y (by simp[c])) h))
theorem vM(hs:∀b∈sets,∃led D,aP prog w s.heap b led D)(h:Q b8 s):d6 (ez prog w) A (setsQuiet sets) Q E s:=by
 unfold setsQuiet;refine b6 (h_ (λb c Q' d=>?_) (df h));obtain⟨led,D,L,es,ep,t,f,g,k,l,i,m,n,o⟩:=hs b c;refine b6 (R7 f rfl i ?_);rw[<-UJ];refine b6 (h_ (λe a q j=>?_) (df d));rw[g]at a;obtain⟨p,_,rfl⟩:=js.mp a;exact df j
theorem qj(l:aP prog w s.heap a (aE w) D)(ho:∀b∈others,∃led B,aP prog w s.heap b led B)(m:∀r,f=a5 r->aP prog w s.heap r (aE w) [])
  (h:∀(es:Array (Int×d3)) (L:List (Str×Tok)) (h':Jy),es.toList=L.map (DZ prog w)->(L.map (·.1)).Perm D->(f=bD->h'=s.heap)->(∀r,f=a5 r->qs r s.heap h'/\aP prog w h' r (aE w) [])->Q es {s with heap:=h' }) :
  d6 (ez prog w) A (setWalkUnseen a others f) Q E s:=by
 have C:=l;obtain⟨L,es,ep,t,j,n,o,Je,k,hb,G,H⟩:=l;have I:s={s with heap:=s.heap}:=by cases s;rfl
 have c:∀(d:Array (Int×d3)),d.toList.Perm es.toList->Q d s:=λd p=>by
  rw[n]at p;obtain⟨L',J,N⟩:=c_ p;rw[I];exact h d L' s.heap J ((N.map _).trans o) (λ_=>rfl) λr e=>⟨Jo r s.heap,m r e⟩
 unfold setWalkUnseen;refine b6 (mu j rfl k ?_)
 dsimp only
 refine b6 (cJ ?_);cases g:w.params.followText "set-order" with
 |true =>
  rw[ņ (by show(w.params.followText "set-order"||t.led&&t.plain||decide (es.size<=1))=b8;rw[g];rfl)];unfold setWalk;refine b6 (mu j rfl k ?_)
  dsimp only
  refine b6 (cJ ?_);rw[ņ (by exact g)];refine b6 (QM ?_);exact df (c _ (dJ _ _))
 |false =>
  by_cases q:es.size<=1
  ·rw[ņ (by rw[ŉ q];simp)];unfold setWalk;refine b6 (mu j rfl k ?_)
   dsimp only
   refine b6 (cJ ?_);rw[Ň (by show ¬w.params.followText "set-order"=b8;rw[g];simp)];show d6 _ _ (if (!t.plain&&cK (es.size>1))=b8 then _ else _) _ _ s;rw[Ň (by rw[ň (show ¬es.size>1 by lia)];simp)];show d6 _ _ ((if (!t.led&&cK (es.size>1))=b8 then _ else _) >>= _) _ _ s;rw[Ň (by rw[ň (show ¬es.size>1 by lia)];simp)];exact b6 (df (df (c es (NT _))))
  ·have O:t.plain=cc:=H.resolve_left ⋯;rw[Ň (by show ¬(w.params.followText "set-order"||t.led&&t.plain||decide (es.size<=1))=b8;rw[g,O,ň q];simp)];refine b6 (vM (λb Ka=>by
    rcases d7.mp Ka with rfl|Ka
    ·exact⟨_,_,C⟩
    ·exact ho b Ka) ?_)
   rw[Ň (by simp)];refine b6 (ON ?_);cases f with
   |none=>exact df (c es (NT _))
   |some r =>
    dsimp only
    obtain⟨Lr,T,ZG,i,u,v,x,Y,y,Xx,Qg,Xy⟩:=m r rfl;refine b6 (mu u rfl y ?_)
    dsimp only
    have O8:T.size=0:=by
     have:=aP.sz (h:=s.heap) (a:=r) (led:=aE w) v x;simpa using this
    split
    ·refine b6 (eU (t':={i with led:=i.led&&t.led,plain:=i.plain&&t.plain}) (led:=aE w) u v x Y y Xx (by show(i.led&&t.led)=_;rw[Qg,G,ć]) (.inl O8) λh' sb _ hs=>?_);exact df (h es L h' n o (λz=>nomatch z) λr' e=>by cases e;exact⟨sb,hs⟩)
    ·exact df (c es (NT _))
end
section
variable{prog:va}{w:H8}{A:Nm}{E:d3->d8->Prop}{s:d8}
theorem jm(J:List (Str×Tok)->d8->Prop)(a:∀d p r s,d++p::r=L->J d s->∀Q':ForInStep PUnit->d8->Prop,(∀s',J (d++[p]) s'->Q' (.yield ⟨⟩) s')->d6 M A (body (DZ prog w p) ⟨⟩) Q' E s)(b:∀s',J L s'->Q ⟨⟩ s'):
  ∀(r d:List (Str×Tok)) (s:d8),d++r=L->J d s->d6 M A (ń (r.map (DZ prog w)) ⟨⟩ body) Q E s
 |[],d,s,e,h=>by
  rw[tj]at e;subst e;rw[Jz,WK];exact df (b s h)
 |p::r,d,s,e,h=>by
  rw[et,VT];exact b6 (a d p r s e h _ λs' h'=>jm J a b r (d++[p]) s' (by rw[<-e];simp) h')
theorem aP.ty(h:aP prog w s.heap a led D):s.TypeIs (.ref a) "set":=let ⟨_,_,_,_,ho,_⟩:=h;⟨_,ho,rfl⟩
theorem gp(b:aP prog w s.heap a led D)(h:Q b8 s):d6 (ez prog w) A (JG (.ref a)) Q E s:=by
 unfold JG;refine b6 (OX b.ty Wg ?_);exact df h
theorem iF{a:eH}{led:Bool}{D:List Str}{Q:Nat->d8->Prop}(b:aP prog w s.heap a led D)(h:Q D.length s):d6 (ez prog w) A (Qf a) Q E s:=by
 obtain⟨L,es,ep,t,ho,c,d,f,e,_⟩:=b;unfold Qf;refine b6 (R7 ho rfl e (df ?_));rw[aP.sz (h:=s.heap) (a:=a) (led:=led) c d];exact h
theorem qk(b:aP prog w s.heap a led D)(h:Q (.type "set") s):d6 (ez prog w) A (T_ a) Q E s:=by
 unfold T_;refine b6 (OX b.ty Wg ?_);exact df h
theorem tU(h:Q (.ref s.heap.objs.size) {s with heap:=s.heap.push {cls:=.type "set",dict:=bD,data:=.set #[] 0 (.fresh 0 0 (aE w))}}):d6 (ez prog w) A (newSet (.type "set")) Q E s:=by
 unfold newSet ú;refine b6 (b6 (QM (df ?_)))
 dsimp only
 simp only[newObj];exact b6 (wpAny_alloc (df h))
theorem xX{a:eH}{D:List Str}{Q:d3->d8->Prop}(b:aP prog w s.heap a (aE w) D)(c:D.length<64)(h:∀h',qs s.heap.objs.size (s.heap.push {cls:=.type "set",dict:=bD,data:=.set #[] 0 (.fresh 0 0 (aE w))}) h'->aP prog w h' s.heap.objs.size (aE w) D->Q (.ref s.heap.objs.size) {s with heap:=h' }):
  d6 (ez prog w) A (T9 a) Q E s:=by
 unfold T9;refine b6 (qk b (b6 (tU ?_)));refine b6 (df ?_);have d:s.heap.objs.size≠a:=λe=>by obtain⟨_,_,_,_,ho,_⟩:=b;exact uv _ (e▸fx ho)
 refine b6 (vL (es:=#[]) (s:={s with heap:=s.heap.push {cls:=.type "set",dict:=bD,data:=.set #[] 0 (.fresh 0 0 (aE w))}}) d (gj _ rfl) (b.at λo e=>c4 _ e) c λh' f hs=>?_);exact df (h h' f hs)
theorem kX{id:String}(ho:s.heap.get? a=a5 {cls:=.type "set",dict:=bD,data:=.set es ep t})(b:t.fits es.size=b8)(h:Q () s):d6 (ez prog w) A (To id a ep) Q E s:=by
 unfold To;refine b6 (V' ho rfl b ?_);rw[Ň (by simp)];exact df h
theorem xY{id:String}(v:a≠b)(o:aP prog w s.heap a (aE w) g)(j:aP prog w s.heap b (aE w) q)(B:g.length<64)(i:q.length<=g.length)
  (h:∀h',qs a s.heap h'->aP prog w h' a (aE w) (g.filter λx=>cK (x∉q))->Q () {s with heap:=h' }):d6 (ez prog w) A (Sk id a (.ref b)) Q E s:=by
 unfold Sk;rw[Ň (by simpa using r6 v)];refine b6 (gp j ?_);rw[ņ rfl];refine b6 (df ?_);refine b6 (iF j (b6 (iF o ?_)));rw[Ň ⋯];obtain⟨L2,I,J,N,y,O,T,Y,z,U1,Vl,XA⟩:=_root_.id j;refine b6 (V' y rfl z ?_);refine b6 (t6 ?_);refine b6 (qj j (others:=[a]) (f:=bD) (λc C=>by rw[i2.mp C];exact⟨_,_,o⟩) (λr e=>nomatch e) λes L h0 D G t _=>?_);have t:=t rfl;subst t;rw[<-UJ,D];refine b6 (jm (prog:=prog) (w:=w) (L:=L) (λd s'=>∃h',s'={s with heap:=h' }/\qs a s.heap h'/\aP prog w h' a (aE w) (g.filter λx=>cK (x∉d.map (·.1)))) (λd p r s' ed ⟨h',u,k,l⟩ Q' H=>?_) (λs' ⟨h',u,k,l⟩=>?_) L [] _ rfl ⟨s.heap,by cases s;rfl,Jo a s.heap,by rw[QT.mpr λx _=>by simp];exact o⟩)
 ·subst u;refine b6 (t6 (qi (s:={s with heap:=h' }) l λb' i m n=>?_));refine b6 (kX (s:={s with heap:=i}) (((k.trans m).2 b (r6 v)).trans y) z ?_);refine df (H _ ⟨i,rfl,k.trans m,?_⟩);rw[List.filter_filter]at n;have e:(g.filter λx=>cK (x≠p.1)&&cK (x∉d.map (·.1)))=g.filter λx=>cK (x∉(d++[p]).map (·.1)):=by
   refine Î λx _=>?_;rw[Kk];simp[not_or,and_comm]
  rw[<-e];exact n
 ·subst u;refine df ?_;have e:(g.filter λx=>cK (x∉L.map (·.1)))=g.filter λx=>cK (x∉q):=by
   refine Î λx _=>?_;rw[Kk];simp only[Ņ];rw[G.mem_iff]
  rw[e]at l;exact xW (s:={s with heap:=h' }) l (Ì (td _ _) B) λi m n=>h i (k.trans m) n
theorem xZ{id:String}(Ms:a≠b)(l:aP prog w s.heap a (aE w) m)(j:aP prog w s.heap b (aE w) g)(D:m.length<64)(k:g.length<64)
  (h:∀h',(∀c o,s.heap.get? c=a5 o->h'.get? c=a5 o)->aP prog w h' s.heap.objs.size (aE w) (m.filter λx=>cK (x∉g))->Q (.ref s.heap.objs.size) {s with heap:=h' }):d6 (ez prog w) A (Pt id a (.ref b)) Q E s:=by
 have keep:∀h',qs s.heap.objs.size (s.heap.push {cls:=.type "set",dict:=bD,data:=.set #[] 0 (.fresh 0 0 (aE w))}) h'->∀c o,s.heap.get? c=a5 o->h'.get? c=a5 o:=λh' i c o e =>
  (i.2 c (hY (fx e))).trans (c4 _ e)
 have G:a<s.heap.objs.size:=by obtain⟨_,_,_,_,ho,_⟩:=l;exact fx ho
 have v:b<s.heap.objs.size:=by obtain⟨_,_,_,_,ho,_⟩:=j;exact fx ho
 unfold Pt
 dsimp only
 refine b6 (gp j ?_);rw[Ň (by simp)];refine b6 (df ?_);rw[Ň (by simp),ņ rfl];refine b6 (iF j (b6 (iF l ?_)));by_cases H:m.length / 4>g.length
 ·rw[ņ H];refine b6 (ON ?_);refine b6 (xX l D λh' i hs=>?_);refine b6 (df ?_);refine b6 (t6 (xY (s:={s with heap:=h' }) (KU v) hs (j.at λo e=>keep h' i b o e) D ⋯ λk n t=>?_));exact df (h k (keep k (i.trans n)) t)
 ·rw[Ň H];refine b6 (qk l (b6 (tU ?_)));refine b6 (df ?_);have I:=l.at (h':=s.heap.push {cls:=.type "set",dict:=bD,data:=.set #[] 0 (.fresh 0 0 (aE w))}) λo e=>c4 _ e;have Vc:=j.at (h':=s.heap.push {cls:=.type "set",dict:=bD,data:=.set #[] 0 (.fresh 0 0 (aE w))}) λo e=>c4 _ e;have J:aP prog w (s.heap.push {cls:=.type "set",dict:=bD,data:=.set #[] 0 (.fresh 0 0 (aE w))}) s.heap.objs.size (aE w) []:=g9 (gj _ rfl);obtain⟨La,ea,XB,ta,N,M7,ZK,Tn,y,ZL,Vo,XC⟩:=_root_.id I;refine b6 (V' N rfl y ?_);refine b6 (t6 ?_);rw[ņ rfl];refine b6 (qj (s:={s with heap:=s.heap.push {cls:=.type "set",dict:=bD,data:=.set #[] 0 (.fresh 0 0 (aE w))}}) I (others:=[b,s.heap.objs.size]) (f:=a5 s.heap.objs.size) (λc hc=>by
   rcases d7.mp hc with rfl|hc
   ·exact⟨_,_,Vc⟩
   ·rw[i2.mp hc];exact⟨_,_,J⟩) (λr e=>by cases e;exact J) λes L h0 he B _ e0=>?_)
  obtain⟨XD,Ri⟩:=e0 _ rfl;rw[<-UJ,he];have XE:L.length=m.length:=by rw[<-B.length_eq,dt]
  refine b6 (jm (prog:=prog) (w:=w) (L:=L) (λd s'=>∃h',s'={s with heap:=h' }/\qs s.heap.objs.size (s.heap.push {cls:=.type "set",dict:=bD,data:=.set #[] 0 (.fresh 0 0 (aE w))}) h'/\aP prog w h' s.heap.objs.size (aE w) ((d.map (·.1)).filter λx=>cK (x∉g))) (λd p r s' O ⟨h',C,i,u⟩ Q' T=>?_) (λs' ⟨h',C,i,u⟩=>?_) L [] _ rfl ⟨h0,rfl,XD,Ri⟩)
  ·subst C;have Y:(L.map (·.1)).Nodup:=B.nodup_iff.mpr Tn;have XF:p.1∉d.map (·.1):=λz=>by
    rw[<-O,kr,t5]at Y;exact Y.2.2 p.1 z p.1 (by simp) rfl
   have XG:aP prog w h' b (aE w) g:=j.at λo e=>keep h' i b o e;have Vp:h'.get? a=a5 {cls:=.type "set",dict:=bD,data:=.set ea XB ta}:=(i.2 a (hY G)).trans N;have Mt:d.length<64:=by have:=Ŋ J7 O;simp at this;lia
   refine b6 (t6 ?_);rw[ņ rfl];refine b6 (qh (s:={s with heap:=h' }) XG λr hr=>?_);refine b6 (df ?_);have em:((d++[p]).map (·.1)).filter (λx=>cK (x∉g))=(d.map (·.1)).filter (λx=>cK (x∉g))++if p.1∈g then [] else [p.1]:=by
    rw[kr,Ni];congr 1
    by_cases z:p.1∈g<;>simp[z]
   by_cases z:p.1∈g
   ·rw[Ň (by rw[hr,ŉ z];simp)];refine df ?_;refine b6 (kX (s:={s with heap:=h' }) Vp y ?_);refine df (T _ ⟨h',rfl,i,?_⟩);rw[em,ņ z,tj];exact u
   ·rw[ņ (by rw[hr,ň z];rfl)];refine b6 (kR (s:={s with heap:=h' }) u (by
     have:((d.map (·.1)).filter λx=>cK (x∉g)).length<=d.length:=wh (td _ _) (by simp);have Mn:D6=4096:=rfl;lia) λk n t=>?_)
    refine df ?_;refine b6 (kX (s:={s with heap:=k}) ((n.2 a (hY G)).trans Vp) y ?_);refine df (T _ ⟨k,rfl,i.trans n,?_⟩);rw[em,Ň z];rw[Ň (λq=>XF (vl.mp q).1)]at t;exact t
  ·subst C;refine df ?_;refine df (h h' (keep h' i) (u.perm ?_));exact B.filter _
end
theorem mB:á table "set.__sub__"=a5 M6.«frozenset.__sub__» :=
 Y2 (id':="frozenset.__sub__") (by kernel_rfl) rfl (by decide +kernel) (by kernel_rfl)
section
theorem ka(n:a≠b)(g:aP prog w s.heap a (aE w) j)(i:aP prog w s.heap b (aE w) k)(p:j.length<64)(q:k.length<64)
  (h:∀h',(∀c o,s.heap.get? c=a5 o->h'.get? c=a5 o)->aP prog w h' s.heap.objs.size (aE w) (j.filter λx=>cK (x∉k))->Q (.ref s.heap.objs.size) {s with heap:=h' }):d6 (ez prog w) A (OO .Sub (.ref a) (.ref b)) Q E s:=by
 refine wpAny_binaryOp_same (T:="set") g.ty i.ty PySem.F.fills_set_sub PySem.F.slot_set_sub (Kf PySem.F.slot_set_sub g.ty mB ?_ (PySem.F.args_set_sub_2 _ _));unfold M6.«frozenset.__sub__»;show d6 (ez prog w) _ (do
  let x <-Uz "__sub__" ⟨[.ref a,.ref b],[]⟩
  match x with
  |(self,f) =>
   match if cc=b8 then(f,self) else(self,f) with
   |(l,r)=>do
    let c <-JG l <&&> JG r
    if (!c)=b8 then do
      Ğ (Rg "frozenset."++Rg "__sub__"++Rg ".declined")
      ret Value.notImplemented
     else do
      let d <-Ub l
      let e <-Pt (Rg "frozenset."++Rg "__sub__") d r
      ret e) _ _ _
 refine b6 (m:=Uz "__sub__" ⟨[.ref a,.ref b],[]⟩) (df (a:=(l' a,l' b)) ?_)
 dsimp only
 refine b6 (b6 (gp g ?_));show d6 _ _ (JG (.ref b)) _ _ _;refine gp i ?_;rw[Ň (by simp)];refine b6 (df ?_);refine b6 (xZ n g i p q λh' hk hs=>?_);exact df ⟨_,rfl,(λz=>by cases z),h h' hk hs⟩
end
section
theorem rL(n:X.calm=b8)(I:Inv X a σ H s)(hq:Jn X.K H p (g.map V.str)\/JH X.K H p (g.map V.str))(j:g.length+1<D6)
  (h:∀(S:eH) (o:Obj) (s1:d8),s.heap.objs.size<=S->s1.heap.get? S=a5 o->aP X.prog X.w s1.heap S (aE X.w) (aK g)->Inv X ((S,o)::a) σ H s1->Q (.ref S) s1) :
  d6 (ez X.prog X.w) X.A (NQ (.type "set") [.ref p]) Q X.xe s:=by
 have l:X.A.handled=bD:=I.ok.hd n;have f:∀(h':Jy) (c:Nat),aP X.prog X.w h' s.heap.objs.size (aE X.w) (aK g)->(∀b o,b<s.heap.objs.size->s.heap.get? b=a5 o->h'.get? b=a5 o)->Q (.ref s.heap.objs.size) {s with heap:=h',toks:=c}:=λh' c d k=>by
  obtain⟨L,es,ep,t,ho,r⟩:=_root_.id d;have m:Inv X a σ H {s with heap:=h',toks:=c}:=I.kept λb o e=>k b o (fx e) e;refine h _ _ _ (hV _) ho d (m.eh λq hq=>?_);rcases d7.mp hq with rfl|hq
  ·exact⟨ho,I.IQ.fresh (hV _),KU I.lt,I.Dm (hV _),λv z=>nomatch z⟩
  ·exact m.pin q (mA _ hq)
 rcases hq with hq|hq
 ·obtain⟨u,rv,i,hz⟩:=I.list hq;exact fQ l i.isList (cI rv) j λh' c d k=>f h' c d k
 ·obtain⟨u,rv,i,hz⟩:=I.tuple hq;exact gL l i (cI rv) j λh' c d k=>f h' c d k
end
theorem rM:QO (.type "list_reverseiterator") "__len__"=pure bD:=by rw[RZ,Oa];kernel_rfl
theorem x6:QO (.type "list_reverseiterator") "__length_hint__"=pure (a5 (.builtin "list_reverseiterator.__length_hint__")):=by rw[RZ,Oa];kernel_rfl
theorem oO:N_ (.type "list_reverseiterator") (.type "list_reverseiterator")=pure b8:=by rw[Jd];kernel_rfl
section
variable{I:eH}{fp wr:List eH}{G:Array Y5->Array Y5->Prop}{n:Nat}{P:Nat->d3->Prop}{St:Nat->d8->Prop}
theorem rN(W:ü prog w A.in1 I fp wr G n P St)(c:∀i s,St i s->s.TypeIs (.ref I) "list_reverseiterator")(S:eH)(res:d3)(j:Nat)(a:St 0 s)(h:S∉fp)(k:I∈fp)
  (l:s.heap.get? S=a5 {cls:=.type "list",data:=.seq #[] j})
  (m:∀s' d b,Moved (S::wr) G s s'->s'.heap.get? S=a5 {cls:=.type "list",dict:=bD,data:=.seq d b,slots:=#[]}->Ē P d n->R (.ok (.ret res)) s') (o:n<=cL) :
  d6 (ez prog w) A.in1 (tA (.ref S) (.ref I) res)
   (λg s'=>match g with|.done f=>R (.ok f) s'|.again b=>b.quiet=b8/\Qk (ez prog w) A b R s') (λe s'=>R (.error e) s') s:=by
 have p:S≠I:=λe=>h (e▸k);unfold tA;refine b6 (V9 (c 0 _ a) ?_);have q:N0 (.ref S) (.ref I)=cc:=by simp[N0,p]
 have r:(ti "list_reverseiterator"==ti "list")=cc:=by decide
 have t:(ti "list_reverseiterator"==ti "tuple")=cc:=by decide
 simp only[q,r,t,XZ,Jr,if_false];refine b6 (W.self 0 _ _ _ a ?_);refine b6 (t6 ?_);unfold UG;refine b6 (Ug (c 0 _ a) rM ?_);show d6 _ A.in1 (specialOf (l' I) (Rr "__length_hint__") >>= _) _ _ _;refine b6 (Ug (c 0 _ a) x6 ?_);have u:splitId "list_reverseiterator.__length_hint__"=a5 ("list_reverseiterator","__length_hint__"):=by decide +kernel
 dsimp only
 rw[u]
 dsimp only
 refine b6 (OX (c 0 _ a) oO ?_);rw[Ň (by decide)];rw[ņ (by decide +kernel)];rw[Ň (by decide +kernel)];refine df ?_;rw[Ň (by decide +kernel)];refine df ⟨Tb PySem.F.plain_extend_loop _,â W o _ h _ n 0 _ _ _ rfl (lg _) a l (ð P) λs' d b v x y=>?_⟩;exact m s' d b v x y
theorem mC(W:ü prog w A.in1 I fp wr G n P St)(p:∀i s,St i s->s.TypeIs (.ref I) "list_reverseiterator")(S:eH)(q:St 0 s)(l:S∉fp)(r:I∈fp)
  (g:s.heap.get? S=a5 {cls:=.type "list",data:=.seq #[]})
  (t:∀s' d a,Moved (S::wr) G s s'->s'.heap.get? S=a5 {cls:=.type "list",dict:=bD,data:=.seq d a,slots:=#[]}->Ē P d n->R (.ok (.ret .none)) s') (u:n<=cL) :
  d6 (ez prog w) A.in1 (M6.«list.__init__» ⟨[.ref S,.ref I],[]⟩)
   (λj s'=>match j with|.done f=>R (.ok f) s'|.again a=>a.quiet=b8/\Qk (ez prog w) A a R s') (λe s'=>R (.error e) s') s:=by
 show d6 _ A.in1 (do let k <-Vs (.ref S);ī (.ref S) (λ_=>#[]);letGo k.toList.reverse;tA (.ref S) (.ref I) .none) _ _ s;refine b6 ?_;unfold Vs;refine b6 (UM g rfl (df ?_));show d6 _ A.in1 (ě S (λ_=>#[]) >>= λ_=>letGo (#[]:Array d3).toList.reverse >>= λ_=>tA (.ref S) (.ref I) .none) _ _ s;refine b6 (RY g rfl ?_);have v:=t7 (rz (λ_=>(#[]:Array d3))) g rfl;have m:∀b o,b≠S->s.heap.get? b=a5 o->(s.heap.update S (rz (λ_=>(#[]:Array d3)))).get? b=a5 o :=
  λb o c e=>(M1 _ _ (r6 c)).trans e
 refine b6 (wpAny_letGo ?_);refine rN W p S .none _ (W.frame 0 s _ s.toks q (hV _) λb c o e=>m b o (λh=>l (h▸c)) e) l r v (λs' d a x y z=>?_) u;exact t s' d a (đ W.gtrans ((Moved.refl W.grefl).then_heap (hV _) λb o c e=>m b o (λh=>c (h▸mN)) e) x) y z
theorem ql(W:ü prog w A.in1.in1 I fp wr G n P St)(h:∀i s,St i s->s.TypeIs (.ref I) "list_reverseiterator")(j:St 0 s)(k:∀b∈fp,b<s.heap.objs.size)(l:I∈fp)
  (m:∀s' a c,Moved (s.heap.objs.size::wr) G {s with heap:=s.heap.push {cls:=.type "list",data:=.seq #[]}} s' ->
   s'.heap.get? s.heap.objs.size=a5 {cls:=.type "list",dict:=bD,data:=.seq a c,slots:=#[]}->Ē P a n->Q (.ref s.heap.objs.size) s') (p:n<=cL) :
  d6 (ez prog w) A (NQ (.type "list") [.ref I]) Q E s:=by
 have q:s.heap.objs.size∉fp:=λd=>uv _ (k _ d);refine callType_codes (Q₁:=λobj f=>obj=.ref s.heap.objs.size/\f={s with heap:=s.heap.push {cls:=.type "list",data:=.seq #[]}}) PySem.F.called_list (PySem.F.typeCall_list_1 _) PySem.F.entry_list_init
  (code_list_new _ ⟨rfl,rfl⟩) λobj f r=>?_
 obtain⟨rfl,rfl⟩:=r;have g:(s.heap.push {cls:=.type "list",data:=.seq #[]}).get? s.heap.objs.size=a5 {cls:=.type "list",data:=.seq #[]}:=gj _ rfl;refine⟨⟨_,g,rfl⟩,PySem.F.args_list_init_2 _ _,mC W h _ (W.frame 0 s _ s.toks j (hV _) λb _ o e=>c4 _ e) q l g (λs' a c d t u=>?_) p⟩;exact⟨rfl,m s' a c d t u⟩
open AutoSeq1 (wpAny_loadPart') in
end
section
theorem iG(a:s.heap.IsTupleIter it l i)
  (hl:s.heap.IsTuple l b) (d:b[i]?=a5 x)
  (e:∀h',h'.IsTupleIter it l (i+1)->qs it s.heap h'->Q x {s with heap:=h' }) :
  d6 (ez prog w) A (Kg (.ref it)) Q E s:=by
 obtain⟨o,ho,f,c⟩:=id a;obtain⟨j,g,_,k,h⟩:=hl;unfold Kg;refine b6 (Qb (name:=Rr "__next__") a.typeIs PySem.F.slot_tuple_iterator_next
  (Kf PySem.F.slot_tuple_iterator_next a.typeIs PySem.F.entry_tuple_iterator_next ?_ (PySem.F.args_tuple_iterator_next_1 _)))
 show d6 _ _ (ĵ (.ref it) 0 >>= _) _ _ s;refine b6 (UP ho c (x:=.ref l) rfl ?_);show d6 _ _ (if (l' l==nC)=b8 then _ else _) _ _ s;rw[Ň (show ¬((l' l==nC)=b8) from i7)];show d6 _ _ (ĵ (.ref it) 1 >>= _) _ _ s;refine b6 (UP ho c (x:=.int i 0) rfl ?_);show d6 _ _ (W8 (.ref l) >>= _) _ _ s;refine b6 (UM g h ?_);simp only[P9,d];refine b6 (Nk ho c (by simp) (df ⟨x,rfl,df (e _ ?_ (y1 ..))⟩));exact⟨_,t7 _ ho (Tx (Nl c _)),(Vj ..).trans f,by
  rw[Nl c];simp[u7]⟩
theorem eV(f:A.handled=bD)
  (b:s.heap.IsTupleIter it l i) (hl:s.heap.IsTuple l c) (g:c[i]?=bD)
  (h:∀h' e,ġ it s.heap h'->(∃o,h'.get? e=a5 o/\o.cls=.type "StopIteration")->E (.ref e) {s with heap:=h' }) :
  d6 (ez prog w) A (Kg (.ref it)) Q E s:=by
 obtain⟨o,ho,n,d⟩:=id b;obtain⟨p,j,_,q,k⟩:=hl;unfold Kg;refine b6 (Qb (name:=Rr "__next__") b.typeIs PySem.F.slot_tuple_iterator_next
  (Kf PySem.F.slot_tuple_iterator_next b.typeIs PySem.F.entry_tuple_iterator_next ?_ (PySem.F.args_tuple_iterator_next_1 _)))
 show d6 _ _ (ĵ (.ref it) 0 >>= _) _ _ s;refine b6 (UP ho d (x:=.ref l) rfl ?_);show d6 _ _ (if (l' l==nC)=b8 then _ else _) _ _ s;rw[Ň (show ¬((l' l==nC)=b8) from i7)];show d6 _ _ (ĵ (.ref it) 1 >>= _) _ _ s;refine b6 (UP ho d (x:=.int i 0) rfl ?_);show d6 _ _ (W8 (.ref l) >>= _) _ _ s;refine b6 (UM j k ?_);simp only[P9,g];refine b6 (ON (b6 (Nk ho d (by simp) ?_)));show d6 _ _ (Z9 (.type "StopIteration") [] >>= _) _ _ _;refine b6 ?_;simp only[Z9,ĳ];refine b6 (x3 ?_ (by size_fits));refine b6 (m:=UT _ _) (Xz (a:=nC) (by first|rfl|(simp only[UT];rfl)) ?_);refine x3 ?_ (by size_fits);simp only[YZ];refine b6 (wpAny_handled ?_)
 first|rw[show A.in1.handled=bD from f]|rw[f]
 refine b6 (df (wpAny_throw ?_));exact h _ _ (((y1 ..).extBut.push _).push _) ⟨_,gj _ rfl,rfl⟩
end
theorem qm(d:A.handled=bD)(it l:eH)(f:l≠it)(a:Array d3):
  Draws prog w A it [it,l] a.size (λi v=>a[i]?=a5 v) (λi h=>h.IsTupleIter it l i/\h.IsTuple l a) where
 live:=λ_ _ st=>let ⟨o,ho,_⟩:=st.1;⟨o,ho⟩
 frame:=λ_ _ _ st hk=>⟨st.1.at λo e=>hk it (by simp) o e,let ⟨o,ho,r⟩:=st.2;⟨o,hk l (by simp) o ho,r⟩⟩
 item:=λi s Q E b st g=>by
  refine iG st.1 st.2 (x:=a[i]) (by simp[b]) λh' j c=>?_;exact g _ h' s.toks (by simp[b]) ⟨j,let ⟨o,ho,r⟩:=st.2;⟨o,(c.2 l f).trans ho,r⟩⟩ c
 done:=λs Q E st k=>eV d st.1 st.2 (by simp) k
open AutoSeq1 (wpAny_loadPart') in
theorem kY(l:eH)(a:Array d3)(n:Nat)(e:Option eH)(f:Array (Option d3)):
  Meets (M6.«enumerate.__new__» ⟨[.type "enumerate",.ref l],[]⟩) (λ_ R s=>s.heap.get? l=a5 {cls:=.type "tuple",dict:=e,data:=.seq a n,slots:=f} /\
   R (.ok (.ret (.ref (s.heap.push {cls:=.type "tuple_iterator",data:=.fields #[.ref l,.int 0 0]}).objs.size)))
    {s with heap:=(s.heap.push {cls:=.type "tuple_iterator",data:=.fields #[.ref l,.int 0 0]}).push {cls:=.type "enumerate",data:=.fields #[.none,.bool cc,.ref s.heap.objs.size,u7 0,.none,.none]}}) :=
 .of_wp λprog w A R s h=>by
  obtain⟨i,g,d,j,os⟩:=s;obtain⟨hl,h⟩:=h;have k:=sub_enumerate;have b:Heap.IsTuple (Shared.heap ⟨i,g,d,j,os⟩) l a:=⟨_,hl,rfl,n,rfl⟩
  wp_walk using Um hl
  refine wpAny_stack_any λst=>df ?_;split
  ·rename_i c _ _ _ _ _;cases(c==ti "enumerate")
   ·wp_walk using Um hl,PM b
    exact⟨_,rfl,h⟩
   ·wp_walk using Um hl,PM b
    exact⟨_,rfl,h⟩
  ·wp_walk using Um hl,PM b
   exact⟨_,rfl,h⟩
section
theorem fS(g:s.heap.IsTuple l a)
  (h:∀h',Ä h' (s.heap.objs.size+1) s.heap.objs.size 0 .none->h'.IsTupleIter s.heap.objs.size l 0->h'.objs.size=s.heap.objs.size+2 ->
   (∀b o,s.heap.get? b=a5 o->h'.get? b=a5 o)->Q (.ref (s.heap.objs.size+1)) {s with heap:=h' }) :
  d6 (ez prog w) A (NQ (.type "enumerate") [.ref l]) Q E s:=by
 obtain⟨⟨c,i,j,k⟩,hl,d,n,e⟩:=g
 replace d:c=.type "tuple":=d
 replace e:j=.seq a n:=e
 subst d e;refine callType_new PySem.F.called_enumerate (by decide) (PySem.F.typeCall_enumerate_1 _) (PySem.F.newCall_enumerate_1 _) (λobj=>PySem.F.args_object_init_2 obj _) PySem.F.entry_enumerate_new
  (kY l a n i k) ⟨hl,?_⟩
 have hz:(s.heap.push {cls:=.type "tuple_iterator",data:=.fields #[.ref l,.int 0 0]}).objs.size=s.heap.objs.size+1:=WE ..;show _/\_;rw[hz];have f:Ä ((s.heap.push {cls:=.type "tuple_iterator",data:=.fields #[.ref l,.int 0 0]}).push
   {cls:=.type "enumerate",data:=.fields #[.none,.bool cc,.ref s.heap.objs.size,u7 0,.none,.none]}) (s.heap.objs.size+1) s.heap.objs.size 0 .none:=by
  have:=gj (s.heap.push {cls:=.type "tuple_iterator",data:=.fields #[.ref l,.int 0 0]})
   (o:={cls:=.type "enumerate",data:=.fields #[.none,.bool cc,.ref s.heap.objs.size,u7 0,.none,.none]}) rfl
  rw[hz]at this;exact this
 refine⟨⟨_,f,rfl⟩,h _ f ⟨_,c4 _ (gj _ rfl),rfl,rfl⟩ (by rw[WE,hz]) λb o x=>c4 _ (c4 _ x)⟩
end
end L2
namespace L2
open PySem PySem.Spec PyProof.Rows
section
theorem Inv.tV{ch:List eH}(I:Inv X a σ H s)(f:∀b∈ch,iu X a H b)(k:∀b o,b∉ch->s.heap.get? b=a5 o->h'.get? b=a5 o):Inv X a σ H {s with heap:=h',toks:=t' }:=by
 have g:∀b u,H b=a5 u->b∉ch:=λb u e z=>by rw[(f b z).1]at e;cases e
 refine I.step (g':=s.gens) (d':=s.drawn) (ch:=ch) (λb h=>?_) (λb o _ _ d e _=>k b o d e) (λb o _ _ d e _=>⟨o.slots,k b o d e⟩) (λ_ _ _ _ n=>n)
  (λb o d e=>⟨o,k b o d e⟩) (λ_ _ e=>e) (λ_ _ _ e=>e) (λb ps e=>⟨#[],by rw[e];simp⟩) (λm i=>?_) (λb u e=>?_) I.bare
 ·obtain⟨w,j,x,l,p,t⟩:=f b h;exact⟨l,j,p,t⟩
 ·obtain⟨o,es,ep,ho,r⟩:=i;exact⟨o,es,ep,k _ o (λz=>(f _ z).2.1 rfl) ho,r⟩
 ·refine(I.IQ b u e).fM (λc v d q=>k c v ?_ q) (λ_ q=>q) λ_ _ q=>q;rcases d with z|z
  ·rw[z];exact g b u e
  ·exact g c _ z
theorem Inv.rO{ch:List eH}(I:Inv X a σ H s)(h:∀b∈ch,iu X a H b)(k:∀b o,b∉ch->s.heap.get? b=a5 o->h'.get? b=a5 o)(i:s.heap.objs.size<=T)(new:bU X.prog X.w (upd H T o) h' T o):
  Inv X a σ (upd H T o) {s with heap:=h',toks:=t' }:=by
 have j:Inv X a σ H {s with heap:=h',toks:=t' }:=I.tV h k;have l:H T=bD:=I.IQ.fresh i;have p:∀b o,s.heap.get? b=a5 o->b≠T:=λb o e z=>by rw[z]at e;exact absurd (i3 (fx e) i) (uv _)
 have d:∀b u,H b=a5 u->b≠T:=λb u e z=>by rw[z,l]at e;cases e
 refine I.step (g':=s.gens) (d':=s.drawn) (ch:=ch) (λb g=>?_) (λb o _ _ f e _=>k b o f e) (λb o _ _ f e _=>⟨o.slots,k b o f e⟩) (λb o _ e n=>by rw[au (p b o e)];exact n)
  (λb o f e=>⟨o,k b o f e⟩) (λb _ e=>by rw[au (d b _ e)];exact e) (λb _ _ e=>by rw[au (d b _ e)];exact e) (λb ps e=>⟨#[],by rw[au (d b _ e),e];simp⟩) (λm t=>?_) (λb u e=>?_) I.bare
 ·obtain⟨C,x,D,y,A,B⟩:=h b g;exact⟨y,x,A,B⟩
 ·obtain⟨o,es,ep,ho,r⟩:=t;exact⟨o,es,ep,k _ o (λz=>(h _ z).2.1 rfl) ho,r⟩
 ·by_cases g:b=T
  ·subst g;rw[ay]at e;cases e;exact new
  ·rw[au g]at e;exact(j.IQ b u e).fM (λc v _ q=>q) (λc q=>by rw[au (d c _ q)];exact q) λc xs q=>by rw[au (d c _ q)];exact q
end
noncomputable def O9(a:Hp->List V->Prop):It :=
 ⟨λi H=>∃xs x,a H xs/\xs[i]?=a5 x,λi H x H'=>∃p,H p=bD/\x=.ref p/\∀xs v,a H xs->xs[i]?=a5 v->H'=upd H p (.tup [.int i,v]),λi H=>∃xs,a H xs/\xs.length<=i⟩
theorem m7{K:PySem.W.Frag}(r:Hp->List V->Prop)(a e it:eH)(O:e≠it)(At:Nat->Jy->Prop)(t:Jy->Array d3->Prop)
  (KY:∀i h h',At i h->(∀o,h.get? it=a5 o->h'.get? it=a5 o)->At i h') (Vq:∀i h,At i h->∃o,h.get? it=a5 o/\∀v,o.data≠.cell v)
  (Rj:∀(X:Cx) (d:List (eH×Obj)) (s:d8) (σ:St) (H:Hp) (xs:List V),X.K=K->Inv X d σ H s->r H xs->∃l:List d3,Vals xs l/\t s.heap l.toArray)
  (Tq:∀(X:Cx) (d:List (eH×Obj)) (s:d8) (σ:St) (H:Hp) (xs B:List V),X.K=K->Inv X d σ H s->r H xs->r H B->xs=B)
  (M7:∀h c i f,t h c->Ä h e it i f->e≠a)
  (hD:∀(A:Nm) (c:Array d3),A.handled=bD->Draws P w A it [it,a] c.size (λi v=>c[i]?=a5 v) (λi h=>At i h/\t h c))
  (M3:∀(A:Nm) (s:d8) (i:Nat) (c:Array d3) (Q:d3->d8->Prop) (E:d3->d8->Prop),A.handled=bD->At i s.heap->t s.heap c->c[i]?=bD ->
   (∀h' x,ġ it s.heap h'->(∃o,h'.get? x=a5 o/\o.cls=.type "StopIteration")->E (.ref x) {s with heap:=h' })->d6 (ez P w) A (Kg (.ref it)) Q E s) :
  Turn P w K (.Tuple es kx ps) (O9 r) [e,it] e (λi h=>(∃f,Ä h e it i f)/\At i h) where
 mem:=by simp
 obj:=λi h st b g=>by
  obtain⟨⟨f,j⟩,hl⟩:=st;rcases d7.mp g with z|z
  ·rw[z];exact⟨_,j,λv z=>by
    have z':VG _=Õ v:=z;cases z'⟩
  ·rw[i2.mp z];exact Vq i h hl
 keep:=λi h h' ⟨⟨f,j⟩,hl⟩ k=>⟨⟨f,k e (by simp) _ j⟩,KY i h h' hl λo q=>k it (by simp) o q⟩
 item:=by
  intro X Y hw C hc i d s σ H E I G ⟨⟨f,j⟩,hl⟩ hg;subst Y hw;obtain⟨xs,x,J,hx⟩:=hg;obtain⟨l,rv,p⟩:=Rj X d s σ H xs C I J;obtain⟨u,hu,ru⟩:=rv.get hx;have Jf:i<l.toArray.size:=by simpa using(dV.mp hu).1
  have D:=hD X.A.in1 l.toArray (by simpa using I.ok.hd hc);have Tr:=M7 _ _ _ _ p j;refine wpAny_pyNext_enum_itemD D j ⟨hl,p⟩ Jf O (by simp[O,Tr]) λy h1 m L ho st1 N hsz hk=>?_;have ey:y=u:=by
   have:l.toArray[i]?=a5 u:=by simpa using hu
   rw[this]at L;cases L;rfl
  subst ey;refine⟨_,rfl,wpAny_letOwnedTupleGo_enum (s:={s with heap:=h1,toks:=m+1}) ho λn XJ Kb=>?_⟩;have Vr:e<s.heap.objs.size:=fx j;have XM:n.get? s.heap.objs.size=a5 {cls:=.type "tuple",data:=.seq #[.int i m,y]}:=(Kb.2 _ (KU Vr)).trans N;have k2:∀b o,b∉[e,it]->s.heap.get? b=a5 o->n.get? b=a5 o:=λb o g q=>by
   simp only[d7,vr,or_false,not_or]at g;exact(Kb.2 b g.1).trans (hk b o g.1 g.2 q)
  have I2:Inv X d σ (upd H s.heap.objs.size (.tup [.int i,x])) {s with heap:=n,toks:=m+1}:=I.rO G k2 (hV _)
   (show bU X.prog X.w _ n _ (.tup [.int i,x]) from⟨by show 2<=cL;decide,[.int i m,y],.cons ⟨m,rfl⟩ (.cons ru .nil),⟨_,XM,rfl,_,rfl⟩⟩)
  refine⟨.ref s.heap.objs.size,_,I2,rfl,⟨_,I.IQ.fresh (hV _),rfl,λB v L hv=>?_⟩,⟨⟨_,XJ⟩,KY (i+1) h1 n st1.1 λo q=>(Kb.2 it (r6 O)).trans q⟩,λb g=>?_⟩
  ·have:=Tq X d s σ H B xs C I L J;subst this;rw[hx]at hv;cases hv;rfl
  ·have Ka:b≠s.heap.objs.size:=by
    rcases d7.mp g with z|z
    ·rw[z];exact hY Vr
    ·rw[i2.mp z];obtain⟨o,q,_⟩:=Vq i _ hl;exact hY (fx q)
   rw[au Ka];exact(G b g).1
 done:=by
  intro X Y hw C hc i d s σ H E I G ⟨⟨f,j⟩,hl⟩ hg;subst Y hw;obtain⟨xs,J,hx⟩:=hg;obtain⟨l,rv,p⟩:=Rj X d s σ H xs C I J;have ab:=rv.length;have N:s.TypeIs (.ref e) "enumerate":=⟨_,j,rfl⟩
  unfold TV;refine b6 (wpAny_attempt (Qb (name:=Rr "__next__") N PySem.F.slot_enumerate_next
   (Kf PySem.F.slot_enumerate_next N PySem.F.entry_enumerate_next ?_ (PySem.F.args_enumerate_next_1 _))))
  show d6 _ _ (ĵ (.ref e) 2 >>= _) _ _ _;refine b6 (UP j rfl (x:=.ref it) rfl ?_);refine b6 (M3 _ _ i l.toArray _ _ (by simpa using I.ok.hd hc) hl p (by simp;lia) λh' x SR SJ=>?_);obtain⟨o,ho,Mo⟩:=SJ;refine b6 (OX (T:="StopIteration") (b:=b8) ⟨o,ho,Mo⟩ Ĵ ?_);refine df ⟨rfl,I.tV (t':=s.toks) (ch:=[it]) (λb g=>G b (l0 _ g)) λb o g q=>SR b o (λz=>g (by simp[z])) q⟩
 self:=λA i s Q E ⟨⟨f,j⟩,hl⟩ h=>Wd j h
section
variable{X:Cx}{es:List mf}{kx:Nat}{ps p pos:Pos}
theorem vN:tv "enumerate"=a5 (.type "enumerate"):=by decide +kernel
def Iq(K:PySem.W.Frag)(c:TA):TI:=λσ H R=>c σ H λvs b=>∃a,vs=[.ref a]/\((∃xs,Jn K b a xs)/\R (O9 λH xs=>Jn K H a xs) b\/(∃xs,JH K b a xs)/\R (O9 λH xs=>JH K H a xs) b)
theorem D0(a e it:eH)(q:e≠it)(r:a≠it):Turn X.prog X.w X.K (.Tuple es kx ps) (O9 λH xs=>Jn X.K H a xs) [e,it] e (λi h=>(∃c,Ä h e it i c)/\h.IsListIter it a i):=by
 refine m7 _ a e it q (λi h=>h.IsListIter it a i) (λh b=>h.IsList a b) (λi h h' x k=>x.at k) (λi h ⟨o,ho,l,t⟩=>⟨o,ho,λv z=>by rw[t]at z;cases z⟩)
  (λY d s σ H xs g I m=>?_) (λY d s σ H xs G g I f n=>?_) (λh b i c ⟨o,ho,l,_⟩ u z=>?_) (λA b j=>Draws.list j it a r b) (λA s i b Q E j hl y f B=>wpAny_nextOf_list_end j hl y f B)
 ·rw[<-g]at m;obtain⟨C,rv,p,hz⟩:=I.list m;exact⟨C,rv,p.isList⟩
 ·rw[<-g]at f n;exact I.kB f n
 ·rw[<-z,u]at ho;cases ho;have D:ti "enumerate"=ti "list":=l;exact absurd D (by decide)
theorem D3(a e it:eH)(q:e≠it)(r:a≠it):Turn X.prog X.w X.K (.Tuple es kx ps) (O9 λH xs=>JH X.K H a xs) [e,it] e (λi h=>(∃c,Ä h e it i c)/\h.IsTupleIter it a i):=by
 refine m7 _ a e it q (λi h=>h.IsTupleIter it a i) (λh b=>h.IsTuple a b) (λi h h' x k=>x.at k) (λi h ⟨o,ho,l,t⟩=>⟨o,ho,λv z=>by rw[t]at z;cases z⟩)
  (λY d s σ H xs g I m=>?_) (λY d s σ H xs G g I f n=>?_) (λh b i c ⟨o,ho,l,_⟩ u z=>?_) (λA b j=>qm j it a r b) (λA s i b Q E j hl y f B=>eV j hl y f B)
 ·rw[<-g]at m;obtain⟨C,rv,p,hz⟩:=I.tuple m;exact⟨C,rv,p⟩
 ·rw[<-g]at f n;exact I.mH f n
 ·rw[<-z,u]at ho;cases ho;have D:ti "enumerate"=ti "tuple":=l;exact absurd D (by decide)
theorem A9(n:Gl X "enumerate")(t:X.mg "enumerate"=bD)(v:PA X [a] w)(hs:hW [a] X.env=[(cc,ve a X.env)]):PI X (.Tuple es kx ps) (.Call (.Name "enumerate" p) [a] [] pos) (Iq X.K w):=by
 intro c s σ H R I h;refine Call_ (cH I n t vN (J1 (IX (v pos c s σ H _ I h) λus s1 ⟨vs,j,d,x,y⟩=>?_) hs rfl));obtain⟨a',e,q⟩:=y;subst e;obtain⟨u,rfl,r⟩:=vals1 x;cases r;have f:s1.heap.objs.size+1≠s1.heap.objs.size:=Nat.succ_ne_self _;have g:∀(h':Jy),(∀b∈[s1.heap.objs.size+1,s1.heap.objs.size],iu X c j b):=λh' b A=>by
  have m:s1.heap.objs.size<=b:=by
   rcases d7.mp A with z|z
   ·rw[z];exact Ng _
   ·rw[i2.mp z];exact hV _
  exact d.xq m (d.IQ.fresh m)
 rcases q with⟨⟨xs,k⟩,q⟩|⟨⟨xs,k⟩,q⟩
 ·obtain⟨B,rv,p,hz⟩:=d.list k;have l:a'<s1.heap.objs.size:=let ⟨o,ho,_⟩:=p.isList;fx ho;refine call_enumerate_list p.isList λh' i hl hsz hk=>?_;refine Wd i ⟨_,[s1.heap.objs.size+1,s1.heap.objs.size],_,_,j,rfl,d.kept (t':=s1.toks) hk,D0 a' _ _ f (hY l),⟨⟨_,i⟩,hl⟩,g h',q⟩
 ·obtain⟨B,rv,p,hz⟩:=d.tuple k;have l:a'<s1.heap.objs.size:=let ⟨o,ho,_⟩:=p;fx ho;refine fS p λh' i hl hsz hk=>?_;refine Wd i ⟨_,[s1.heap.objs.size+1,s1.heap.objs.size],_,_,j,rfl,d.kept (t':=s1.toks) hk,D3 a' _ _ f (hY l),⟨⟨_,i⟩,hl⟩,g h',q⟩
end
theorem A_{a:List d3}(h:Ē (λi v=>a.toArray[a.toArray.size - 1 - i]?=a5 v) acc a.toArray.size):acc.toList=a.reverse:=by
 apply Ï;intro i;have hs:acc.size=a.length:=by have:=h.1;simpa using this
 by_cases c:i<a.length
 ·have b:i<acc.size:=by lia
  have:=h.2 i (acc[i]'b) (by simp[b]);rw[sL,OH b,Y' c];simpa using this.symm
 ·rw[Ts (by rw[hU];lia),Ts (by rw[UA];lia)]
section
theorem qo(j:X.calm=b8)(I:Inv X f σ H s)(k:Jn X.K H a xs)
  (h:∀c,Vals xs c->xs.length<=cL->∀(R:eH) (d:Jy),R=s.heap.objs.size->d.objs.size=s.heap.objs.size+1->(∀b o,s.heap.get? b=a5 o->d.get? b=a5 o)->(∀B:Nm,B.handled=X.A.handled ->
   Walks X.prog X.w B R [R,a] [R] c.toArray.size (λi v=>c.toArray[c.toArray.size - 1 - i]?=a5 v) (λi h=>i<=c.toArray.size/\h.IsRevIter R a ((c.toArray.size:Int) - 1 - (i:Int))/\h.IsList a c.toArray)) ->
   d.IsRevIter R a ((c.toArray.size:Int) - 1 - ((0:Nat):Int))->d.IsList a c.toArray->a<s.heap.objs.size->Q (.ref R) {s with heap:=d}):d6 (ez X.prog X.w) X.A (NQ (.type "reversed") [.ref a]) Q X.xe s:=by
 obtain⟨c,rv,p,hz⟩:=I.list k;have g:a<s.heap.objs.size:=let ⟨o,ho,_⟩:=p.isList;fx ho;refine call_reversed_list p.isList (h c rv hz _ _ rfl (by rw[MJ]) (λb o e=>c4 _ e) (λB l=>Walks.listRev (by rw[l];exact I.ok.hd j) _ a (hY g) c.toArray) ?_ (p.isList.push _) g);refine⟨_,gj _ rfl,rfl,?_⟩;show VG _=VG _;congr 3
 simp
theorem x8(p:X.calm=b8)(I:Inv X c σ H s)(r:Jn X.K H a xs)(q:∀l,H l=bD->Q (.ref l) (upd H l (.lst xs.reverse))):
  d6 (ez X.prog X.w) X.A (NQ (.type "reversed") [.ref a]) (λv s1=>d6 (ez X.prog X.w) X.A (NQ (.type "list") [v]) (EP X c σ Q) X.xe s1) X.xe s:=by
 refine qo p I r λh rv hz R d j hsz hk t u hl x=>?_;have Y:h.length=xs.length:=rv.length.symm;refine ql (s:={s with heap:=d}) (t X.A.in1.in1 rfl).toS (λi s st=>st.2.1.typeIs) ⟨lg _,u,hl⟩ (λb f=>?_) (by simp) (λs' acc k g y B=>?_) (by simp;lia)
 ·show b<d.objs.size;rw[hsz];rcases d7.mp f with z|z
  ·rw[z,j];exact OJ _
  ·rw[i2.mp z];exact Sn x
 ·obtain⟨m,C,D,G,o2⟩:=s';have J:C=s.gens:=g.gens;have L:D=s.drawn:=g.drawn;have N:o2=s.os:=g.os;subst J L N;have k2:∀b o,s.heap.get? b=a5 o->m.get? b=a5 o:=λb o e=>g.heap b o (λz=>by
   have f:=fx e;rcases d7.mp z with z|z
   ·rw[z]at f;have n:d.objs.size<s.heap.objs.size:=f;rw[hsz]at n;exact absurd n (ê (OJ _))
   ·rw[i2.mp z,j]at e;exact absurd (fx e) (uv _)) (c4 _ (hk b o e))
  have O:=A_ B;refine⟨.ref d.objs.size,_,I.laid (t':=G) (o:=.lst xs.reverse) k2 (by rw[hsz];exact Ng _) ⟨by rw[UA];exact hz,h.reverse,k,rv.reverse,?_⟩,rfl,q _ (I.IQ.fresh (by rw[hsz];exact Ng _))⟩;have T:m.get? d.objs.size=a5 {cls:=.type "list",dict:=bD,data:=.seq acc k,slots:=#[]}:=y;rw[T,<-O,Ze]
end
noncomputable def Tt(K:PySem.W.Frag)(a:eH)(n:Nat):It :=
 ⟨λi H=>i<n/\∃xs,Jn K H a xs/\xs.length=n,λi H x H'=>H'=H/\∀xs,Jn K H a xs->xs[n - 1 - i]?=a5 x,λi _=>n<=i⟩
theorem x9{K:PySem.W.Frag}(a it:eH)(n:Nat):Turn P w K tg (Tt K a n) [it] it (λi h=>i<=n/\h.IsRevIter it a ((n:Int) - 1 - (i:Nat))) where
 mem:=by simp
 obj:=λi h st b g=>by
  have e:b=it:=by simpa using g
  subst e;obtain⟨_,o,e,c,d⟩:=st;exact⟨o,e,λv z=>by rw[d]at z;cases z⟩
 keep:=λi h h' st k=>⟨st.1,st.2.at λo e=>k it (by simp) o e⟩
 item:=by
  intro X l m q D i f s σ H E I j st r;subst l m q;obtain⟨L,xs,G,hn⟩:=r;obtain⟨A',rv,p,hz⟩:=I.list G;have J:n - 1 - i<xs.length:=by lia
  obtain⟨u,N,O⟩:=rv.get (ri J);obtain⟨t,y,Q,A,B,C⟩:=j it (by simp);have st2:s.heap.IsRevIter it a ((n - 1 - i:Nat):Int):=by rw[show((n - 1 - i:Nat):Int)=(n:Int) - 1 - (i:Nat) by lia];exact st.2
  refine wpAny_pyNext_rev_item st2 p.isList (x:=u) (by simpa using N) λh' st' T=>?_;have Y:Inv X f σ H {s with heap:=h' }:=I.turned (t':=s.toks) (λb o g e=>(T.2 b g).trans e) t y A B C;obtain⟨o,e,c,d⟩:=id st';exact⟨u,rfl,tF (s:={s with heap:=h' }) e c d (by decide) ⟨_,H,Y,O,⟨rfl,λys hy=>by rw[I.kB hy G];exact ri J⟩,⟨⋯,by rw[show(n:Int) - 1 - ((i+1:Nat):Int)=((n - 1 - i:Nat):Int) - 1 by lia];exact st'⟩,λb g=>(j b g).1⟩⟩
 done:=by
  intro X l m q D i f s σ H E I j st r;subst l m q;have L:n<=i:=r;obtain⟨t,y,Q,A,B,C⟩:=j it (by simp);have st2:s.heap.IsRevIter it a (-1):=by rw[show(-1:Int)=(n:Int) - 1 - (i:Nat) by have:=st.1;lia];exact st.2
  exact wpAny_pyNext_rev_end (I.ok.hd D) st2 λh' eb=>⟨rfl,I.turned (t':=s.toks) (λb o g e=>eb b o g e) t y A B C⟩
 self:=λ_ _ _ _ _ st h=>Ý st.2 h
section
theorem vO:tv "reversed"=a5 (.type "reversed"):=by decide +kernel
def Ir(K:PySem.W.Frag)(c:TA):TI:=λσ H R=>c σ H λvs b=>∃a xs,vs=[.ref a]/\Jn K b a xs/\R (Tt K a xs.length) b
theorem D4(j:X.calm=b8)(k:Gl X "reversed")(l:X.mg "reversed"=bD)(m:PA X [a] n)(hs:hW [a] X.env=[(cc,ve a X.env)]):PI X B (.Call (.Name "reversed" p) [a] [] pos) (Ir X.K n):=by
 intro c s σ H R I h;refine Call_ (cH I k l vO (J1 (IX (m pos c s σ H _ I h) λus s1 ⟨vs,o,d,t,v⟩=>?_) hs rfl));obtain⟨a',xs,e,w,q⟩:=v;subst e;obtain⟨u,rfl,r⟩:=vals1 t;cases r;refine qo j d w λx rv hz g C y hsz hk D f hl G=>?_;have z:x.toArray.size=xs.length:=by simpa using rv.length.symm
 rw[z]at f;refine Ý f ⟨_,[g],_,_,o,rfl,d.kept (t':=s1.toks) hk,x9 a' g xs.length,⟨lg _,f⟩,λb A=>?_,q⟩;have i:s1.heap.objs.size<=b:=by rw[i2.mp A,y];exact hV _
 exact d.xq i (d.IQ.fresh i)
end
theorem vP(l:eH)(a:Array d3)(n:Nat)(b:eH)(c:Array d3)(e:Nat)(dd:Option eH)(f:Array (Option d3))(o:¬(!a.isEmpty&&K1 (a.size+c.size))=b8)(i:a.size<=cL)(j:a.size+c.size<=cL+1):
  Meets (M6.«list.extend» ⟨[.ref l,.ref b],[]⟩) (λ_ R s=>s.heap.get? l=a5 {cls:=.type "list",dict:=bD,data:=.seq a n,slots:=#[]}/\s.heap.get? b=a5 {cls:=.type "list",dict:=dd,data:=.seq c e,slots:=f}/\R (.ok (.ret nC)) {s with heap:=s.heap.update l (rz λx=>x++c),toks:=s.toks}) :=
 .of_wp λprog w A R s h=>by
  obtain⟨p,g,d,q,os⟩:=s;obtain⟨hl,k,h⟩:=h;have r:=Zp;have t:=VS;have u:=WH;have v:=Wv;have y:=Ww;
  have m:(a++c).size<=cL+1:=by rw[U4];exact j
  wp_walk using(RY hl rfl (hz:=i) (_hz':=m)),Oj hl,Oj k;exact⟨_,rfl,h⟩
theorem vQ(l:eH)(a:Array d3)(n:Nat)(b:eH)(c:Array d3)(e:Nat)(dd:Option eH)(f:Array (Option d3))(o:¬(!a.isEmpty&&K1 (a.size+c.size))=b8)(i:a.size<=cL)(j:a.size+c.size<=cL+1):
  Meets (M6.«list.extend» ⟨[.ref l,.ref b],[]⟩) (λ_ R s=>s.heap.get? l=a5 {cls:=.type "list",dict:=bD,data:=.seq a n,slots:=#[]}/\s.heap.get? b=a5 {cls:=.type "tuple",dict:=dd,data:=.seq c e,slots:=f}/\R (.ok (.ret nC)) {s with heap:=s.heap.update l (rz λx=>x++c),toks:=s.toks}) :=
 .of_wp λprog w A R s h=>by
  obtain⟨p,g,d,q,os⟩:=s;obtain⟨hl,k,h⟩:=h;have r:=Zp;have t:=VS;have u:=WH;have v:=Wv;have y:=Ww;
  have m:(a++c).size<=cL+1:=by rw[U4];exact j
  wp_walk using(RY hl rfl (hz:=i) (_hz':=m)),Oj hl,Oj k;exact⟨_,rfl,h⟩
section
theorem rP:OY X "list.extend" (λx vs H Q=>∃l b xs c,x=.ref l/\vs=[.ref b]/\H l=a5 (.lst xs)/\(Jn X.K H b c\/JH X.K H b c)/\xs.length+c.length<=cL/\Q .IU (upd H l (.lst (xs++c)))):=by
 intro g s σ H x vs v us Q I B rv h;obtain⟨l,b,xs,c,rfl,rfl,y,hB,hz,q⟩:=h;cases B;obtain⟨u,rfl,C⟩:=rv.one;cases C;obtain⟨z,f,n,r,hl,e⟩:=I.vq y;have i:∀a:List d3,Vals c a->EP X g σ Q nC {s with heap:=s.heap.update l (rz λx=>x++a.toArray),toks:=s.toks}:=λa d=>by
  refine⟨.IU,_,I.mn (its':=f++a) y e (by simp) (r.append d) ?_,rfl,q⟩;rw[i0];lia
 have o:∀a:List d3,c.length=a.length->f.toArray.size+a.toArray.size<=cL:=λa h=>by rw[hH,hH];lia
 have A:∀a:List d3,c.length=a.length->¬(!f.toArray.isEmpty&&K1 (f.toArray.size+a.toArray.size))=b8:=λa h=>by
  rw[xx (o a h),TQ];exact i7
 rcases hB with hB|hB
 ·obtain⟨a,d,p,_⟩:=I.list hB;obtain⟨⟨cls,dd,data,t⟩,ho,j,w,k⟩:=p.isList;simp only at j k;subst j k;have m:=d.length;have D:=o a m;exact Sq å ⟨_,e,rfl⟩ Ô (Æ _ _) (vP l f.toArray n b a.toArray w dd t (A a m) ⋯ ⋯) ⟨e,ho,i a d⟩
 ·obtain⟨a,d,p,_⟩:=I.tuple hB;obtain⟨⟨cls,dd,data,t⟩,ho,j,w,k⟩:=p;simp only at j k;subst j k;have m:=d.length;have D:=o a m;exact Sq å ⟨_,e,rfl⟩ Ô (Æ _ _) (vQ l f.toArray n b a.toArray w dd t (A a m) ⋯ ⋯) ⟨e,ho,i a d⟩
end
end L2
namespace L2
open PySem PySem.W PyProof.Rows
section
theorem vR{vs:List (Key×d3)}(hk:vs.map (·.1)=ks.map nc)(hl:acc.length=vs.length)(h:∀(j:Nat) (v:d3),acc[j]?=a5 v->∃k x,vs[j]?=a5 (k,x)/\(aZ P w).is k v=b8):Qm acc ks:=by
 induction acc generalizing ks vs with
 |nil =>
  cases vs with
  |nil=>cases ks with
   |nil=>exact .nil
   |cons _ _=>cases hk
  |cons _ _=>cases hl
 |cons v acc b =>
  cases vs with
  |nil=>cases hl
  |cons p vs =>
   cases ks with
   |nil=>cases hk
   |cons k ks =>
    simp only[et,Qi]at hk;obtain⟨k',x,a,c⟩:=h 0 v rfl;simp only[List.getElem?_cons_zero,TB]at a;subst a;have d:k'=nc k:=hk.1;subst d;rcases bB (show ku (nc k) v=b8 from c) with⟨i,t,e,rfl⟩|⟨y,t,e,rfl⟩
    ·cases e
    ·cases e;exact .cons _ _ (b hk.2 (by simpa using hl) λj u f=>h (j+1) u (by simpa using f))
theorem jn:X.calm=b8->jE X (.builtin "sorted") (λxs H Q=>∃(d:eH) (kvs:List (Key×V)) (ks:List Str),xs=[.ref d]/\H d=a5 (.dK kvs)/\kvs.map (·.1)=ks.map nc/\ks.length<64/\∀q,H q=bD->Q (.ref q) (upd H q (.lst ((aB ks).map V.str)))):=by
 intro l a s σ H xs us Q I rs h;obtain⟨d,kvs,ks,rfl,e,hk,D,q⟩:=h;obtain⟨u,rfl,r⟩:=vals1 rs;cases r;obtain⟨hz,lo,vs,kv,dd⟩:=tI I.IQ e;have b:vs.length=kvs.length:=(Paired.length kv).symm;have m:kvs.length=ks.length:=by rw[<-dt (f:=(·.1)),hk,dt]
 have n:vs.map (·.1)=ks.map nc:=by
  rw[<-hk];clear dd b hk m e q hz;induction kv with
  |nil=>rfl
  |cons r _ p=>rw[et,et,p,r.1]
 obtain⟨o,es,ep,t⟩:=id dd;have x:(64:Nat)<=cL:=by decide
 refine fm (kdu_collect (A:=X.A.in1) (kdl_dict (knd:=aZ X.prog X.w) (kvs:=vs) (ep:=ep) lo) (I.ok.hd l) ⟨o,es,t⟩ ⋯ λh' c acc y g=>⟨ks,vR n (by rw[hU];exact g.1) (λj v z=>g.2 j v (by rw[<-sL];exact z)),by rw[hU,g.1];lia,λG B C k2 i s2=>?_⟩);have k:Inv X a σ H {s with heap:=h',toks:=c}:=I.kept (t':=c) y;exact⟨.ref h'.objs.size,_,k.laid (t':=c) (o:=.lst ((aB ks).map V.str)) k2 (hV _) ⟨by rw[dt,bx];lia,B,C,dA s2,i⟩,rfl,q _ (k.IQ.fresh (hV _))⟩
end
noncomputable def ia{α:Type}(lt:Nat->Nat->Bool):KasT α->α
 |.ret x=>x
 |.ask i j k=>ia lt (k (lt i j))
def J6{α:Type}(n:Nat)(P:α->Prop):KasT α->Prop
 |.ret x=>P x
 |.ask i j k=>i<n/\j<n/\∀b,J6 n P (k b)
theorem J6.O'{P:α->Prop}{Q:β->Prop}{f:α->KasT β}(a:∀x,P x->J6 n Q (f x)):∀{t:KasT α},J6 n P t->J6 n Q (t.bind f)
 |.ret x,h=>a x h
 |.ask i j k,h=>⟨h.1,h.2.1,λb=>J6.O' a (h.2.2 b)⟩
theorem J6.got:∀{t:KasT α},J6 n P t->P (ia lt t)
 |.ret _,h=>h
 |.ask i j k,h=>J6.got (t:=k (lt i j)) (h.2.2 _)
theorem J6.wp(b:∀i j,i<n->j<n->∀C:Bool->d8->Prop,C (lt i j) s->a i j C s):
  ∀{t:KasT α},J6 n P t->Q (ia lt t) s->t.kasWp a Q s
 |.ret _,_,q=>q
 |.ask i j k,h,q=>b i j h.1 h.2.1 _ (J6.wp b (t:=k (lt i j)) (h.2.2 _) q)
def Pm(n:Nat)(p:Array Nat):Prop:=p.toList.Perm (hJ n)
section
variable{n:Nat}(hn:0<n)
include hn
theorem Pm.at(h:Pm n p)(i:Nat):p.getD i 0<n:=by
 by_cases a:i<p.size
 ·have:p.getD i 0=p[i]:=by simp[UI,a]
  rw[this];have b:p[i]∈p.toList:=by simp
  exact u5.mp (h.mem_iff.mp b)
 ·have:p.getD i 0=0:=by simp[UI,a]
  rw[this];exact hn
omit hn in
theorem Pm.rev(h:Pm n p)(i j:Nat):Pm n (kas_rev p i j):=(mirror_perm p i j _).toList.trans h
omit hn in
theorem Pm.XO(h:Pm n p)(i j:Nat):Pm n (bubble p i j):=(bubble_perm p i j).toList.trans h
theorem rQ(h:Pm n p):∀(f m:Nat),J6 n (λ_=>True) (kas_asc p f m)
 |0,m=>trivial
 |f+1,m=>⟨h.at hn _,h.at hn _,λb=>by
  cases b
  ·exact rQ h f (m+1)
  ·exact trivial⟩
theorem kb:∀(f:Nat) (p:Array Nat) (m q:Nat),Pm n p->J6 n (λr=>Pm n r.1) (kas_desc f p m q)
 |0,p,m,q,h=>h
 |f+1,p,m,q,h=>⟨h.at hn _,h.at hn _,λb=>by
  cases b
  ·exact⟨h.at hn _,h.at hn _,λb=>by
    cases b
    ·exact kb f p (m+1) (q+1) h
    ·exact h⟩
  ·show J6 n _ (if q>0 then _ else _);split
   ·exact kb f _ _ _ (h.rev _ _)
   ·exact kb f _ _ _ h⟩
theorem tW(h:Pm n p)(m r:Nat):J6 n (λx=>Pm n x.2) (kas_tail3 m r p):=by
 unfold kas_tail3;refine J6.O' (λx _=>?_) (rQ hn (h.rev _ _) _ _);exact h.rev _ _
theorem tX(h:Pm n p)(m r:Nat):J6 n (λx=>Pm n x.2) (kas_descPart m r p):=by
 unfold kas_descPart;refine J6.O' (λx a=>?_) (kb hn _ _ _ _ h);split
 ·exact tW hn (a.rev _ _) _ _
 ·exact tW hn a _ _
theorem x_(h:Pm n p)(r:Nat):J6 n (λx=>Pm n x.2) (kas_count r p):=by
 unfold kas_count;refine J6.O' (λm _=>?_) (rQ hn h _ _);split
 ·exact h
 ·split
  ·exact⟨h.at hn _,h.at hn _,λb=>by
    cases b
    ·exact tX hn (h.rev _ _) _ _
    ·exact h⟩
  ·exact tX hn h _ _
theorem kZ(h:Pm n p)(k:Nat):∀(f l r:Nat),J6 n (λ_=>True) (kas_place p k f l r)
 |0,l,r=>trivial
 |f+1,l,r=>by
  unfold kas_place;split
  ·exact trivial
  ·exact⟨h.at hn _,h.at hn _,λb=>by
    cases b
    ·exact kZ h k f _ _
    ·exact kZ h k f _ _⟩
theorem ya:∀(f:Nat) (p:Array Nat) (k:Nat),Pm n p->J6 n (Pm n) (kas_bin f p k)
 |0,p,k,h=>h
 |f+1,p,k,h=>J6.O' (λl _=>ya f _ _ (h.XO _ _)) (kZ hn h _ _ _ _)
theorem tY:J6 n (Pm n) (N7 n):=by
 unfold N7;refine J6.O' (λx a=>?_) (x_ hn (p:=List.toArray (hJ n)) (by unfold Pm;simp) n);split
 ·exact ya hn _ _ _ a
 ·exact a
end
theorem k7(lt:Nat->Nat->Bool)(n:Nat):(ia lt (N7 n)).toList.Perm (hJ n):=by
 cases n with
 |zero=>exact NT _
 |succ n=>exact(tY (Y7 n)).got
section
theorem vT(ho:s.heap.get? a=a5 (zy "list" vs.toArray n))(l:vs.length<64)
  (m:2<=vs.length->∀s1:d8,(∀b o,b≠a->s.heap.get? b=a5 o->s1.heap.get? b=a5 o)->d6 (ez prog w) A (keyKind' vs.toArray) (λκ s'=>s'=s1/\∀i j,i<vs.length->j<vs.length->∀C:Bool->d8->Prop,C (lt i j) s1->č prog w A κ vs i j C s1) (λ_ _=>False) s1)
  (h:P (.done (.ret .none)) {s with heap:=Ā s.heap a vs (((ia lt (N7 vs.length)).toList.map λi=>vs.getD i nC).toArray)}) :
  d6 (ez prog w) A (M6.«list.sort» ⟨[.ref a],[]⟩) P E s:=by
 have N:a<s.heap.objs.size:=fx ho;have u:(64:Nat)<=cL:=by decide
 rw[list_sort_plain];refine b6 (É ho rfl (b6 (Vx ho rfl ?_ (by rw[hH];lia) (lg _))));obtain⟨k,q⟩:∃k,(s.heap.update a (rz λ_=>(#[]:Array d3))).get? a=a5 (zy "list" #[] k):=⟨_,ĭ ho λ_=>#[]⟩
 refine b6 (é q rfl (b6 (wpAny_newTuple (b6 (ZH (t6 ?_) (lg _))) (by show vs.length<=_;lia))));have d:(((s.heap.update a (rz λ_=>(#[]:Array d3))).push (zy "tuple" vs.toArray 0)).push (zy "list" #[] 0)).get? a=a5 (zy "list" #[] k):=c4 _ (c4 _ q);have f:∀b o,b≠a->s.heap.get? b=a5 o->(((s.heap.update a (rz λ_=>(#[]:Array d3))).push (zy "tuple" vs.toArray 0)).push (zy "list" #[] 0)).get? b=a5 o:=λb o y e =>
  c4 _ (c4 _ (by rw[OL _ _ _ _ y];exact e))
 show d6 (ez prog w) A _ P E {s with heap:=((s.heap.update a (rz λ_=>(#[]:Array d3))).push (zy "tuple" vs.toArray 0)).push (zy "list" #[] 0)}
 dsimp only
 have r:((ia lt (N7 vs.length)).toList.map λi=>vs.getD i nC).length=vs.length:=by rw[dt,(k7 lt _).length_eq,x2]
 by_cases c:vs.toArray.size<2
 ·rw[ņ c,ņ c];refine b6 (df ?_);rw[StateT.run_pure];refine b6 (df ?_);have z:((ia lt (N7 vs.length)).toList.map λi=>vs.getD i nC).toArray=(vs.toArray.zip vs.toArray).map (·.2):=by
   have g:=k7 lt vs.length;clear h m r f d ho l
   match vs,c,g with
   |[],_,g=>rw[show(ia lt (N7 ([]:List d3).length)).toList=[] from List.perm_nil.mp g];simp
   |[v],_,g=>rw[show(ia lt (N7 [v].length)).toList=[0] from List.perm_singleton.mp g];simp
   |_::_::_,c,_=>simp at c;lia
  rw[z]at h
  dsimp only
  refine b6 (é d rfl (b6 (Vx d rfl ?_ (lg _) (by rw[RM];show(pairsOf vs).size<=_;rw[pairsOf_size];lia))));simp only[bne_self_eq_false,Jr,if_false];exact df h
 ·rw[Ň c,Ň c];have t:2<=vs.length:=by rw[hH]at c;lia
  refine b6 (mh (m t _ f) (λκ O hk=>?_) λ_ _ x=>x.elim);obtain⟨rfl,hk⟩:=hk;refine b6 (mh (kat_run (κ:=κ) (ks:=vs) (vs:=vs) (G:=λp s'=>p=ia lt (N7 vs.length)/\s'={s with heap:=((s.heap.update a (rz λ_=>(#[]:Array d3))).push (zy "tuple" vs.toArray 0)).push (zy "list" #[] 0)})
   (Q:=λst' s'=>∃p:Array Nat,arrOf st'=p.map (kas_item (vs.toArray.zip vs.toArray))/\failedOf st'=bD/\p=ia lt (N7 vs.length)/\s'={s with heap:=((s.heap.update a (rz λ_=>(#[]:Array d3))).push (zy "tuple" vs.toArray 0)).push (zy "list" #[] 0)})
   rfl t l (λp st' s' T B D H=>⟨p,B,D,H⟩) (J6.wp hk (tY ⋯) ⟨rfl,rfl⟩)) ?_ λ_ _ e=>e)
  rintro⟨⟨⟩,st'⟩ s' ⟨p,I,J,rfl,rfl⟩
  dsimp only
  have L:=kat_snds rfl I;rw[L,J];refine b6 (é d rfl (b6 (Vx d rfl ?_ (lg _) (by rw[hH,r];lia))));simp only[bne_self_eq_false,Jr,if_false];exact df h
end
abbrev Ba:=Str×Int
noncomputable def Nz(ks:List Str)(i j:Nat):Bool:=cK ((ks.getD i oT).cps.toList<(ks.getD j oT).cps.toList)
noncomputable def jW(ks:List Str):List Nat:=(ia (Nz ks) (N7 ks.length)).toList
theorem gq(ks:List Str):(jW ks).Perm (hJ ks.length):=k7 _ _
noncomputable def Gk(x:Str)(n:Int)(t u:Tok):Obj:={cls:=.type "tuple",data:=.seq #[.str x t,.int n u]}
def fI(h:Jy)(as:List eH)(ps:List Ba):Prop:=as.length=ps.length/\∀(j:Nat) (a:eH),as[j]?=a5 a->∃p t u,ps[j]?=a5 p/\h.get? a=a5 (Gk p.1 p.2 t u)
theorem fI.keeps(x:fI h as ps)(k:∀b o,b∈as->h.get? b=a5 o->h'.get? b=a5 o):fI h' as ps :=
 ⟨x.1,λj a e=>let ⟨p,t,u,c,d⟩:=x.2 j a e;⟨p,t,u,c,k a _ (my e) d⟩⟩
theorem fI.tail(x:fI h (a::as) (p::ps)):fI h as ps :=
 ⟨by have:=x.1;simpa using this,λj b e=>by
  obtain⟨q,t,u,c,d⟩:=x.2 (j+1) b (by simpa using e);exact⟨q,t,u,by simpa using c,d⟩⟩
theorem fI.fT:∀{as:List eH}{ps:List Ba},fI h as ps->∃b:List d3,KatTups h (as.map l') b/\b.length=as.length/\∀v∈b,∃x t,v=t8 x t
 |[],_,_=>⟨[],KatTups.nil,rfl,by simp⟩
 |a::as,[],x=>by have:=x.1;simp at this
 |a::as,p::ps,x=>by
  obtain⟨b,c,d,e⟩:=fI.fT x.tail;obtain⟨q,t,u,g,f⟩:=x.2 0 a rfl;refine⟨.str q.1 t::b,KatTups.cons f rfl rfl rfl c,by simp[d],λv hv=>?_⟩;rcases d7.mp hv with rfl|hv
  ·exact⟨_,_,rfl⟩
  ·exact e v hv
theorem m8:∀{l:List α}{m:List β}{i:Nat}{x:α},Paired F l m->l[i]?=a5 x->∃y,m[i]?=a5 y/\F x y
 |_,_,_,_,.nil,e=>by simp at e
 |_,_,0,_,.cons r _,e=>by simp at e;subst e;exact⟨_,rfl,r⟩
 |_,_,i+1,x,.cons _ t,e=>by
  obtain⟨u,a,b⟩:=m8 (i:=i) (x:=x) t (by simpa using e);exact⟨u,by simpa using a,b⟩
section
theorem D5(x:fI s.heap as ps)(g:(ps.map (·.1)).Nodup)(e:i<as.length)(f:j<as.length)(q:C (Nz (ps.map (·.1)) i j) s):
  č prog w A (tuples' b8) (as.map l') i j C s:=by
 obtain⟨p,t,u,d,k⟩:=x.2 i as[i] (by simp[e]);obtain⟨a,t',u',c,l⟩:=x.2 j as[j] (by simp[f]);have hl:=x.1;have m:i<ps.length:=by lia
 have n:j<ps.length:=by lia
 have o:(as.map l').getD i nC=.ref as[i]:=by simp[OB,e]
 have r:(as.map l').getD j nC=.ref as[j]:=by simp[OB,f]
 have v:(ps.map (·.1)).getD i oT=p.1:=by simp[OB,d]
 have y:(ps.map (·.1)).getD j oT=a.1:=by simp[OB,c]
 unfold č;rw[o,r];refine kat_lt (b:=b8) k rfl l rfl ?_;unfold Nz at q;rw[v,y]at q;show KatLex prog w A b8 (cK (2<2)) C [(.str p.1 t,.str a.1 t'),(.int p.2 u,.int a.2 u')] 0 s;refine kat_cons (Ę ?_);by_cases h:p.1=a.1
 ·have z:i=j:=by
   have B:(ps.map (·.1))[i]'(by simpa using m)=(ps.map (·.1))[j]'(by simpa using n):=by
    obtain⟨_,D⟩:=dV.mp d;obtain⟨_,G⟩:=dV.mp c;simp[D,G,h]
   exact(Ú g).mp B
  subst z;rw[d]at c;cases c;rw[ŉ rfl];refine kat_yes (kat_cons (ę ?_));rw[show(p.2==p.2)=b8 by simp];refine kat_yes (kat_nil ?_);have:cK (p.1.cps.toList<p.1.cps.toList)=cc:=ň (List.lt_irrefl _);rw[this]at q;exact q
 ·rw[ň h];exact kat_no (oneLt_str q)
theorem D8(x:fI s.heap as ps)(c:(ps.map (·.1)).Nodup)(g:2<=as.length):
  d6 (ez prog w) A (keyKind' (as.map l').toArray) (λκ s'=>s'=s/\∀i j,i<(as.map l').length->j<(as.map l').length->∀C:Bool->d8->Prop,C (Nz (ps.map (·.1)) i j) s->č prog w A κ (as.map l') i j C s) (λ_ _=>False) s:=by
 obtain⟨h,d,k,e⟩:=x.fT;refine kat_kind (T:=.type "str") d ⋯ (λv f=>?_) rfl ⟨rfl,λi j a b C q=>?_⟩
 ·obtain⟨y,t,rfl⟩:=e v f;exact Looks.of_pure rfl
 ·rw[dt]at a b;exact D5 x c a b q
end
noncomputable def jX(H:Hp):List (eH×List V)->Hp
 |[]=>H
 |(a,vs)::r=>upd (jX H r) a (.tup vs)
theorem k8:∀{l:List (eH×List V)}{b:eH}{o:HO},jX H l b=a5 o->(∃vs,(b,vs)∈l/\o=.tup vs)\/H b=a5 o
 |[],b,o,h=>.inr h
 |(a,vs)::r,b,o,h=>by
  by_cases c:b=a
  ·subst c;rw[jX,ay]at h;cases h;exact .inl ⟨vs,by simp,rfl⟩
  ·rw[jX,au c]at h;rcases k8 h with⟨ws,d,e⟩|q
   ·exact .inl ⟨ws,by simp[d],e⟩
   ·exact .inr q
theorem k9:∀{l:List (eH×List V)}{b:eH},(∀p∈l,p.1≠b)->jX H l b=H b
 |[],b,_=>rfl
 |(a,vs)::r,b,h=>by
  rw[jX,au (r6 (h _ mN))];exact k9 λp c=>h p (by simp[c])
theorem tZ:∀{l:List (eH×List V)}{b:eH}{vs:List V},(l.map (·.1)).Nodup->(b,vs)∈l->jX H l b=a5 (.tup vs)
 |(a,ws)::r,b,vs,d,h=>by
  have c:a∉r.map (·.1)/\(r.map (·.1)).Nodup:=by simpa using d
  rcases d7.mp h with h|h
  ·cases h;exact ay
  ·have:b≠a:=λz=>c.1 (by rw[<-z];exact js.mpr ⟨_,h,rfl⟩);rw[jX,au this];exact tZ c.2 h
section
theorem Inv.many(I:Inv X a σ H s)(k:∀b u,s.heap.get? b=a5 u->h'.get? b=a5 u)(d:∀b o,H b=a5 o->H' b=a5 o)
  (f:∀b o,H' b=a5 o->H b=a5 o\/(s.heap.objs.size<=b/\bU X.prog X.w H' h' b o)):Inv X a σ H' {s with heap:=h',toks:=t' }:=by
 refine I.un ⟨λb u q _ _ _=>k b u q,λb u q _ _ _=>⟨u.slots,k b u q⟩,λb u q n _=>?_,λb u q _=>⟨u,k b u q⟩,λb xs q=>d b _ q,λb u xs q=>d b _ q,λb ps q=>⟨#[],by rw[d b _ q];simp⟩⟩ λb o e=>?_
 ·cases e:H' b with
  |none=>rfl
  |some o =>
   rcases f b o e with z|⟨z,_⟩
   ·rw[n]at z;cases z
   ·exact absurd (i3 (fx q) z) (uv _)
 ·rcases f b o e with z|⟨_,z⟩
  ·exact(I.IQ b o z).fM (λc v _ q=>k c v q) (λc q=>d c _ q) λc xs q=>d c _ q
  ·exact z
noncomputable def MP(p:Ba):List V:=[.str p.1,.int p.2]
theorem oP{ps:List Ba}(hc:X.calm=b8)(I:Inv X g σ H s)(e:H d=a5 (.dK (ps.map λp=>((nc p.1:Key),V.int p.2))))(Je:(ps.map (·.1)).Nodup)(Le:ps.length<64)
  (q:∀(as:List eH) (L:eH),as.length=ps.length->as.Nodup->(∀a∈L::as,H a=bD)->L∉as->Q (.ref L) (upd (jX H (as.zip (ps.map MP))) L (.lst ((jW (ps.map (·.1))).map λi=>V.ref (as.getD i 0))))) :
  d6 (ez X.prog X.w) X.A (NQ (.builtin "dict.items") [.ref d]) (λv s1=>d6 (ez X.prog X.w) X.A (NQ (.builtin "sorted") [v]) (EP X g σ Q) X.xe s1) X.xe s:=by
 have ab:(64:Nat)<=cL:=by decide
 obtain⟨hz,lo,vs,kv,dd⟩:=tI I.IQ e;have C:vs.length=ps.length:=by
  have:=Paired.length kv;simpa using this.symm
 obtain⟨o,es,ep,r⟩:=id dd;refine Z' PySem.F.slot_dict_items (show s.TypeIs (.ref d) "dict" from⟨o,r.1,r.2.1.1⟩) PySem.F.entry_dict_items (PySem.F.args_dict_items_1 _) (meets_dict_items (aZ X.prog X.w) d lo) ⟨⟨vs,dd⟩,?_⟩;show d6 (ez X.prog X.w) X.A (NQ (.builtin "sorted") [.ref s.heap.objs.size]) (EP X g σ Q) X.xe {s with heap:=s.heap.push {cls:=.type "dict_items",data:=.fields #[.ref d]}};have k1:∀b u,s.heap.get? b=a5 u->(s.heap.push {cls:=.type "dict_items",data:=.fields #[.ref d]}).get? b=a5 u:=λb u z=>c4 _ z;have ZM:(s.heap.push {cls:=.type "dict_items",data:=.fields #[.ref d]}).DictOf (aZ X.prog X.w) d vs:=⟨o,es,ep,k1 _ _ r.1,r.2⟩
 have KY:(s.heap.push {cls:=.type "dict_items",data:=.fields #[.ref d]}).DictAt (aZ X.prog X.w) d vs ep:=⟨o,es,k1 _ _ r.1,r.2⟩
 refine WG kind_sorted plain_sorted entry_sorted (args_sorted1 _) ?_;unfold M6.«sorted»;refine b6 (m:=checkCount "sorted" 1 1 _) (df ?_);refine b6 (kdx_collect (A:=X.A.in1) (knd:=aZ X.prog X.w) (kvs:=vs) (ep:=ep) (I.ok.hd hc) ⟨_,gj _ rfl,rfl,rfl⟩ KY ⋯ λc tk as hk hl D=>?_);have G:as.length=ps.length:=hl.trans C;have f:∀a∈as,s.heap.objs.size<=a:=λa ha=>by
  have:=D.above a ha;have z:(s.heap.push {cls:=.type "dict_items",data:=.fields #[.ref d]}).objs.size=s.heap.objs.size+1:=MJ ..;have Vu:(s.heap.push {cls:=.type "dict_items",data:=.fields #[.ref d]}).objs.size<a:=this;lia
 have pa:fI c as ps:=⟨G,λj a ea=>by
  obtain⟨key,k,x,N,O,e3⟩:=D.pairs j a ea;have B:j<ps.length:=by rw[<-G];exact(dV.mp ea).1
  obtain⟨y,ey,r1,r2⟩:=m8 kv (i:=j) (x:=((nc ps[j].1:Key),V.int ps[j].2)) (by simp[B]);rw[N]at ey;cases ey;obtain⟨tx,rfl⟩:∃t,x=.int ps[j].2 t:=r2;have XS:k=nc ps[j].1:=r1.symm;subst XS;obtain⟨t,rfl⟩:=Zm (x:=ps[j].1) (v:=key) O;exact⟨ps[j],t,tx,by simp[B],e3⟩⟩
 have nd:as.Nodup:=D.rise.imp λh=>hY h;refine b6 (ZH ?_ (by rw[dt];lia));have T:(c.push (zy "list" (as.map l').toArray 0)).get? c.objs.size=a5 (zy "list" (as.map l').toArray 0):=gj _ rfl;show d6 _ _ _ _ _ {s with heap:=c.push (zy "list" (as.map l').toArray 0),toks:=tk};have Vv:∀a∈as,a<c.objs.size:=λa ha=>D.there ha;refine b6 (t6 (Kf Ŀ ⟨_,T,rfl⟩ Į (vT (lt:=Nz (ps.map (·.1))) T (by rw[dt];lia) (λh2 s1 ks=>?_) ⟨_,rfl,?_⟩) (ł _)))
 ·refine D8 (pa.keeps λb o J z=>ks b o (hY (Vv b J)) (c4 _ z)) Je (by rw[dt]at h2;exact h2)
 ·obtain⟨ee,he⟩:=sortedHeap_at (out:=((ia (Nz (ps.map (·.1))) (N7 (as.map l').length)).toList.map λi=>(as.map l').getD i nC).toArray) T;have n:∀b o,c.get? b=a5 o->(Ā (c.push (zy "list" (as.map l').toArray 0)) c.objs.size (as.map l') ((ia (Nz (ps.map (·.1))) (N7 (as.map l').length)).toList.map λi=>(as.map l').getD i nC).toArray).get? b=a5 o:=λb o z=>by
   have Jf:b<c.objs.size:=fx z;rw[ľ (hY Jf) (by rw[MJ];exact Sn Jf)];exact c4 _ z
  have Oc:s.heap.objs.size<=c.objs.size:=P8 (fx (hk _ _ (gj _ rfl)));have eP:((ia (Nz (ps.map (·.1))) (N7 (as.map l').length)).toList)=jW (ps.map (·.1)):=by
   unfold jW;rw[dt,dt,G]
  have Pa:H c.objs.size=bD:=I.IQ.fresh Oc;have XT:c.objs.size∉as:=λz=>uv _ (Vv _ z);have Vw:∀a∈as,H a=bD:=λa ha=>I.IQ.fresh (f a ha);have Tw:∀{b:eH} {ws:List V},(b,ws)∈as.zip (ps.map MP)->b∈as:=λz=>(Qy z).1;refine df ⟨_,rfl,.ref c.objs.size,upd (jX H (as.zip (ps.map MP))) c.objs.size (.lst ((jW (ps.map (·.1))).map λi=>V.ref (as.getD i 0))),?_,rfl,q as _ G nd (λa ha=>?_) XT⟩
  ·refine I.many (λb u z=>n b u (hk b u (k1 b u z))) (λb o z=>?_) λb o z=>?_
   ·have n1:b≠c.objs.size:=λy=>by rw[y,Pa]at z;cases z
    rw[au n1,k9 λp hp y=>?_]
    ·exact z
    ·have:=Vw p.1 (Tw (b:=p.1) (ws:=p.2) hp);rw[y,z]at this;cases this
   ·by_cases J:b=c.objs.size
    ·subst J;rw[ay]at z;cases z;refine .inr ⟨Oc,by rw[dt,(gq _).length_eq,x2,dt];lia,(jW (ps.map (·.1))).map λi=>(as.map l').getD i nC,ee,?_,?_⟩
     ·have Y:∀i∈jW (ps.map (·.1)),i<as.length:=λi hi=>by
       have:=u5.mp ((gq _).mem_iff.mp hi);rw[dt]at this;lia
      generalize jW (ps.map (·.1))=l at Y;induction l with
      |nil=>exact .nil
      |cons i l ih =>
       refine .cons ?_ (ih λj B=>Y j (by simp[B]));have hi:=Y i (by simp);show RelV (.ref (as.getD i 0)) ((as.map l').getD i nC);have:(as.map l').getD i nC=.ref (as.getD i 0):=by simp[OB,hi]
       rw[this];rfl
     ·rw[<-eP];exact he
    ·rw[au J]at z;rcases k8 z with⟨ws,z1,rfl⟩|z1
     ·obtain⟨j,B,ej⟩:=Zt.mp z1;have Tz:j<as.length:=by simp at B;lia
      have Tv:j<ps.length:=by lia
      have XU:as[j]=b/\MP ps[j]=ws:=by simpa using ej
      obtain⟨rfl,rfl⟩:=XU;obtain⟨p,t,u,N,O⟩:=pa.2 j as[j] (by simp[Tz]);have:p=ps[j]:=by simpa[Tv] using N.symm
      subst this;exact .inr ⟨f _ (by simp),by show 2<=cL;lia,[.str ps[j].1 t,.int ps[j].2 u],.cons ⟨t,rfl⟩ (.cons ⟨u,rfl⟩ .nil),_,n _ _ O,rfl,0,rfl⟩
     ·exact .inl z1
  ·rcases d7.mp ha with rfl|ha
   ·exact Pa
   ·exact Vw a ha
end
end L2
namespace L2
open PySem PySem.Spec PyProof.Rows
theorem oQ:∀{bs:List Bool}{us:List d3},Vals (bs.map V.bl) us->us=bs.map N9
 |[],_,.nil=>rfl
 |_::_,_,.cons r t=>by rw[show _=N9 _ from r,oQ t];rfl
noncomputable def yb(b:Bool):d3->Bool
 |.bool c=>c==b
 |_=>cc
section
def D9:V->List V->Hp->VK->Prop:=λx vs H Q=>∃(l:eH) (bs:List Bool) (b:Bool),x=.ref l/\vs=[.bl b]/\H l=a5 (.lst (bs.map V.bl))/\Q (.int (bs.count b:Nat)) H
theorem yc:OY X "list.count" D9:=by
 intro a s σ H x vs v us Q I d rv h;obtain⟨l,bs,b,rfl,rfl,f,q⟩:=h;cases d;obtain⟨u,rfl,g⟩:=rv.one;cases g;obtain⟨z,j,n,r,hl,e⟩:=I.vq f;obtain rfl:=oQ r;refine Sq F.slot_list_count ⟨_,e,rfl⟩ F.entry_list_count (F.args_list_count_2 _ _) (SeqAt.list_countAt l _ n bD #[] (.bool b) (yb b)) ⟨e,λy i=>?_,?_⟩
 ·obtain⟨c,_,rfl⟩:=js.mp (Ö.mp i);exact Wy c b
 ·have:(bs.map N9).countP (yb b)=bs.count b:=by rw[List.countP_map];rfl
  exact⟨.int (bs.count b:Nat),H,I.tok _,⟨s.toks,by rw[<-this]⟩,q⟩
def D_:V->List V->Hp->VK->Prop:=λx vs H Q=>∃(l:eH) (bs:List Bool) (b:Bool) (j:Nat),x=.ref l/\vs=[.bl b]/\H l=a5 (.lst (bs.map V.bl))/\bs[j]?=a5 b/\(∀m,m<j->bs[m]?≠a5 b)/\Q (.int j) H
theorem yd:OY X "list.index" D_:=by
 intro a s σ H x vs v us Q I d rv h;obtain⟨l,bs,b,j,rfl,rfl,f,g,i,q⟩:=h;cases d;obtain⟨u,rfl,k⟩:=rv.one;cases k;obtain⟨z,C,n,r,hl,e⟩:=I.vq f;obtain rfl:=oQ r;obtain⟨o,p⟩:=dV.mp g;have hz:cL<2 ^ 62:=by decide
 rw[dt]at z;refine Sq F.slot_list_index ⟨_,e,rfl⟩ F.entry_list_index (F.args_list_index_2 _ _) (SeqAt.list_indexAt l _ n bD #[] (.bool b) (yb b) j (by simpa using o) ⋯ (by simp[yb,p]) (λm t w=>?_)) ⟨e,λy A=>?_,?_⟩
 ·have B:m<bs.length:=by simpa using t
  have:=i m w;rw[ri B]at this;simp only[List.getElem_toArray,VB,yb];rw[Ō];exact λz=>this (by rw[z])
 ·obtain⟨c,_,rfl⟩:=js.mp (Ö.mp A);exact Wy c b
 ·exact⟨.int j,H,I.tok _,⟨_,rfl⟩,q⟩
end
end L2
namespace L2
open PySem PyProof.Rows PySem.W
def Iu(h:Jy)(e C:eH)(a0:d3)(T:Option eH)(c:d3):Prop:=∃a vs,h.get? e=a5 a/\a.cls=.ref C/\a.data=.fields vs/\vs[0]?=a5 a0/\match T with
 |none=>vs[1]?=a5 .none
 |some T=>T≠e/\vs[1]?=a5 (.ref T)/\∃b ts,h.get? T=a5 b/\b.data=.fields ts/\ts[3]?=a5 c
structure bM(P:va)(w:H8)(stack:List Env)(H:Hp)(s:d8)(e C:eH)(T:Option eH)(fl:d3)(H':Hp)(s':d8):Prop where
 os:s'.os=s.os
 bare:S6 s'.gens
 un:Un (JA stack) [] H H' s.heap s'.heap
 IQ:JV P w H' s'.heap
 new:s.heap.get? e=bD
 he:H' e=bD
 exc:∃a0,Iu s'.heap e C a0 T fl
 hT:∀a,T=a5 a->s.heap.get? a=bD/\H' a=bD
noncomputable def NA(P:va)(w:H8):N2:=λouter H s E v s'=>∃e C T H',v=.ref e/\bM P w outer H s e C (a5 T) .none H' s'/\E (.ref C) bD H'
theorem bU.there(x:bU P w H h a o):∃u,h.get? a=a5 u:=by
 cases o with
 |lst xs=>obtain⟨_,_,_,_,e⟩:=x;exact⟨_,e⟩
 |tup xs=>obtain⟨_,_,_,_,e,_⟩:=x;exact⟨_,e⟩
 |set S n=>obtain⟨o,_,_,_,e,_⟩:=x;exact⟨_,e⟩
 |ins C c b=>obtain⟨_,_,_,e,_⟩:=x;exact⟨_,e⟩
 |own y=>exact x
 |xd b=>obtain⟨_,⟨_,_,_,e,_⟩,_⟩:=x;exact⟨_,e⟩
 |QW lo d=>obtain⟨_,_,_,e⟩:=x;exact⟨_,e⟩
 |KA g u=>exact⟨_,x.1⟩
 |Nj ps=>exact⟨_,x⟩
 |met f y=>exact⟨_,x⟩
 |ext φ=>exact x.2.1
 |_=>obtain⟨_,_,_,_,o,_,_,e,_⟩:=x;exact⟨_,e⟩
section
variable{P:va}{w:H8}{stack outer:List Env}{H H':Hp}{s s':d8}{e C L:eH}{T:Option eH}{fl:d3}{base:Jy}{env:Env}{M:Model}{A:Nm}{E:d3->d8->Prop}{Q:Unit->d8->Prop}
theorem t9(u:Un (JA stack) [] H H' s.heap s'.heap)(a:∀b∈JA stack,H b=bD):∀l:List Env,(∀b∈JA l,b∈JA stack)->s.heap.FunFrames base l->s'.heap.FunFrames base l
 |[],_,_=>trivial
 |env::l,hs,⟨hk,⟨L,o,c,d,ho,f⟩,g⟩=>by
  have h:JA (env::l)=L::JA l:=by unfold JA;rw[D7,c]
  rw[h]at hs;obtain⟨j,q⟩:=u.any ho (a L (hs L mN)) λz=>nomatch z
  exact⟨hk,⟨L,_,c,d,q,f⟩,t9 u a l (λb i=>hs b (l0 _ i)) g⟩
theorem bM.next(F:bM P w stack H s e C T fl H' s')(l:s.heap.FunFrames base stack)(m:∀b∈JA stack,H b=bD)(I:B=hideAll s'.heap (e::(T.toList++JA stack))):
  B.StaysIn s'.heap/\s'.heap.FunFrames B stack/\B.get? e=bD/\(∀a,T=a5 a->B.get? a=bD) /\
   ∀h' i,B.StaysIn h'->h'.FunFrames B stack->h'.TracedAtW B e (.ref C) a0 i->s'.heap.UpToSlots h'->∃c,bM P w stack H s e C (a5 c) i H' {s' with heap:=h' }:=by
 have p:=t9 F.un m _ (λ_ z=>z) l;subst I;refine⟨λb o q=>of_hideAll _ q,funFrames_hide p λJ N a O=>l0 _ (mA _ (K2.mpr ⟨J,N,O⟩)),hideAll_none _ mN,λa z=>hideAll_none _ (l0 _ (Qs _ (by simp[z]))),λh' i k1 k2 ⟨Y,Jq,c,XX,Ma,b1,⟨b2,b0⟩,b3,b4,b5,r,t,v,b9⟩ k4=>?_⟩;have XY:∀a,a∈e::(T.toList++JA stack)->H' a=bD:=λa ha=>by
  rcases d7.mp ha with rfl|ha
  ·exact F.he
  rcases i6.mp ha with ha|ha
  ·exact(F.hT a (by simpa using ha)).2
  ·obtain⟨_,o,ho,_⟩:=l.mem ha;exact F.un.free a o ho (m a ha) λz=>nomatch z
 have keep:∀b o,b∉e::(T.toList++JA stack)->s'.heap.get? b=a5 o->h'.get? b=a5 o:=λb o hb q=>k1 b o (hideAll_get _ q hb);have slot:∀b o,b∈JA stack->s'.heap.get? b=a5 o->∃x,h'.get? b=a5 {o with slots:=x}:=λb o hb q=>by
  obtain⟨_,j,d,k⟩:=p.mem hb;rw[q]at d;cases d;exact k4 b o q k
 have y:∀b o,s.heap.get? b=a5 o->b∉JA stack->b∉e::(T.toList++JA stack):=λb o q hb z=>by
  rcases d7.mp z with z|z
  ·rw[z,F.new]at q;cases q
  rcases i6.mp z with z|z
  ·rw[(F.hT b (by simpa using z)).1]at q;cases q
  ·exact hb z
 have tn:s.heap.get? c=bD/\H' c=bD:=by
  by_cases z:c∈e::(T.toList++JA stack)
  ·rcases d7.mp z with z|z
   ·exact absurd z r
   rcases i6.mp z with z|z
   ·exact F.hT c (by simpa using z)
   ·obtain⟨_,j,d,k⟩:=k2.mem z;rw[t]at d;cases d;exact absurd v (k _)
  ·have q:s'.heap.get? c=bD:=by
    cases q:s'.heap.get? c with
    |none=>rfl
    |some o=>have:=hideAll_get _ q z;rw[b5]at this;cases this
   refine⟨?_,?_⟩
   ·cases f:s.heap.get? c with
    |none=>rfl
    |some o=>obtain⟨j,D⟩:=F.un.there _ o f λz=>nomatch z;rw[q]at D;cases D
   ·cases f:H' c with
    |none=>rfl
    |some u =>
     obtain⟨o,z⟩:=(F.IQ c u f).there;rw[q]at z;cases z
 refine⟨c,F.os,F.bare,⟨λb o q n hb g=>keep b o (y b o q hb) (F.un.keep b o q n hb g),λb o q n hb g=>?_,F.un.free,λb o q g=>?_,F.un.fT,F.un.JR,F.un.JW⟩,λa u q=>(F.IQ a u q).fM (λb o hb d=>?_) (λ_ z=>z) λ_ _ z=>z,F.new,F.he,⟨_,Y,Jq,b1,b2,b3,b0,r,b4,XX,Ma,t,v,b9⟩,λa z=>by cases z;exact tn⟩
 ·obtain⟨x,h⟩:=F.un.slot b o q n hb g;obtain⟨G,f⟩:=slot b _ hb h;exact⟨G,f⟩
 ·obtain⟨j,h⟩:=F.un.there b o q g;by_cases hb:b∈JA stack
  ·obtain⟨G,f⟩:=slot b _ hb h;exact⟨_,f⟩
  ·exact⟨_,keep b _ (y b o q hb) h⟩
 ·refine keep b o (λz=>?_) d;have:=XY b z;rcases hb with rfl|hb
  ·rw[q]at this;cases this
  ·rw[hb]at this;cases this
theorem bM.leave(F:bM P w (env::outer) H s e C T .none H' s')(c:A.frames=a5 (env::outer))(d:env.frame=a5 L)(q:s.heap.FunFrames base (env::outer))(r:∀b∈JA (env::outer),H b=bD)
  (h:∀f g,bM P w (env::outer) H s e C (a5 f) .none H' g->Q () g):d6 M A (leaving env (.ref e)) Q E s':=by
 obtain⟨a0,t,vs,i,j,k,l,m⟩:=F.exc;obtain⟨B,u⟩:∃B,B=hideAll s'.heap (e::(T.toList++JA (env::outer))):=⟨_,rfl⟩
 obtain⟨n,o,p,v,x⟩:=F.next (a0:=a0) q r u;have a:∀h',Heap.LeftW B (env::outer) e (.ref C) a0 s'.heap h'->Q () {s' with heap:=h' }:=λh' y=>by
  obtain⟨k1,k2,k3,D⟩:=y;obtain⟨f,z⟩:=x h' .none k1 k2 k3 D;exact h _ _ z
 cases T with
 |none=>exact wpAny_leaving_firstW c o d i n p k m l λh' z=>a h' (j▸z)
 |some T =>
  obtain⟨G,I,J,ts,N,O,Y⟩:=m;exact wpAny_leaving_nextW c o d ⟨t,vs,T,J,ts,i,⟨j,l⟩,k,I,v T rfl,G,N,O,Y⟩ n p a
theorem bM.note{T:eH}(F:bM P w (env::outer) H s e C (a5 T) .none H' s')(d:A.frames=a5 (env::outer))(f:env.frame=a5 L)(g:s.heap.FunFrames base (env::outer))(i:∀b∈JA (env::outer),H b=bD)
  (h:∀a c,bM P w (env::outer) H s e C (a5 a) (u7 L) H' c->Q () c):d6 M A (noteFrame (.ref e) env) Q E s':=by
 obtain⟨a0,j,vs,k,l,m,n,o,p,q,ts,r,t,u⟩:=F.exc;obtain⟨v,x,y,B,D⟩:=F.next (a0:=a0) g i rfl;refine wpAny_noteFrame_onW d x f ⟨j,vs,T,q,ts,k,⟨l,n⟩,m,p,B T rfl,o,r,t,u⟩ v y λh' G=>?_;obtain⟨k1,k2,k3,I⟩:=G;obtain⟨a,z⟩:=D h' _ k1 k2 k3 I;exact h _ _ z
theorem bM.land{T:eH}(F:bM P w stack H s e C (a5 T) fl H' s')(d:s.heap.FunFrames base stack)(f:∀b∈JA stack,H b=bD)
  (h:∀a c,bM P w stack H s e C (a5 a) .none H' c->Q () c):d6 M A (setFlight (.ref e) bD) Q E s':=by
 obtain⟨a0,g,vs,i,j,k,l,m,p,r,ts,t,u,v⟩:=F.exc;obtain⟨x,y,I,B,D⟩:=F.next (a0:=a0) d f rfl;refine wpAny_setFlight_noneW x y ⟨g,vs,T,r,ts,i,⟨j,l⟩,k,p,B T rfl,m,t,u,v⟩ λh' k1 k2 k3 G=>?_;obtain⟨a,z⟩:=D h' _ k1 k2 k3 λb o q n=>⟨o.slots,G b o q n⟩
 exact h _ _ z
end
section
theorem bM.down(I:Inv X j σ H s)(l:X.ex=[])(hs:X.stack=X.env::X.outer)(m:X.env.frame=a5 X.env.locals)(F:bM X.prog X.w X.stack H s e C T p H' s'):bM X.prog X.w X.outer X.H₀ X.s₀ e C T p H' s':=by
 have nx:∀b:eH,b∉X.ex:=λb z=>by rw[l]at z;cases z
 have k:JA X.stack=X.env.locals::JA X.outer:=by rw[hs];unfold JA;rw[D7,m]
 have c:∀b,s.heap.get? b=bD->X.s₀.heap.get? b=bD:=λb q=>by
  cases z:X.s₀.heap.get? b with
  |none=>rfl
  |some o=>obtain⟨g,z⟩:=I.base.there b o z (nx b);rw[q]at z;cases z
 have hl:∀b o,X.s₀.heap.get? b=a5 o->b≠X.env.locals:=λb o q=>hY (i3 (fx q) I.ok.above);have h:∀b:eH,b∉([]:List eH):=λb z=>nomatch z
 refine⟨F.os.trans I.os,F.bare,⟨λb o q n f _=>?_,λb o q n f _=>?_,λb o q n _=>?_,λb o q _=>?_,λb xs q=>F.un.fT b xs (I.base.fT b xs q),λb o u q=>F.un.JR b o u (I.base.JR b o u q),λb ps q=>?_⟩,F.IQ,c _ F.new,F.he,F.exc,λa z=>⟨c _ (F.hT a z).1,(F.hT a z).2⟩⟩
 ·exact F.un.keep b o (I.base.keep b o q n f (nx b)) (I.base.free b o q n (nx b)) (λz=>by rw[k]at z;exact(d7.mp z).elim (hl b o q) f) (h b)
 ·obtain⟨t,d⟩:=I.base.slot b o q n f (nx b);obtain⟨r,i⟩:=F.un.slot b _ d (I.base.free b o q n (nx b)) (by rw[k];exact l0 _ f) (h b);exact⟨r,i⟩
 ·obtain⟨g,d⟩:=I.base.there b o q (nx b);exact F.un.free b g d (I.base.free b o q n (nx b)) (h b)
 ·obtain⟨g,d⟩:=I.base.there b o q (nx b);exact F.un.there b g d (h b)
 ·obtain⟨m1,d⟩:=I.base.JW b ps q;obtain⟨m2,i⟩:=F.un.JW b _ d;exact⟨m1++m2,by rw[i,ZX]⟩
theorem bM.made(I:Inv X c σ H s)(b:Heap.MadeExcOf s.heap h' e (.ref C) vs):bM X.prog X.w X.stack H s e C bD .none H {s with heap:=h' }:=by
 obtain⟨t,d,_⟩:=b.there;refine⟨rfl,I.bare,Un.kept b.keeps,I.IQ.kept b.keeps,b.new,?_,⟨_,_,_,d,rfl,rfl,rfl,rfl⟩,λa z=>nomatch z⟩;cases z:H e with
 |none=>rfl
 |some u=>obtain⟨o,q⟩:=(I.IQ e u z).there;rw[b.new]at q;cases q
noncomputable def Pb:List d3:=[.type "ValueError",.type "Exception",.type "BaseException",.type "object"]
theorem Ea{K:Frag}(b:K.In h)(q:excIn K C Pb a=b8):∃c N nm d bs hdct sn sub ab col dd k0 k1 k2 k3 k5 f,h.get? C=a5 (excClassObj nm d C N bs c hdct sn sub ab col dd k0 k1 k2 k3 k5 a)/\h.Ns N f/\f "__init__"=bD/\OwnTail h Pb c:=by
 unfold excIn at q;split at q
 ·rename_i dd k m ho;split at q
  ·rename_i s c k0 k1 k2 k3 n k5 g hs;simp only[cb,beq_iff_eq,nH]at q;obtain⟨⟨⟨⟨⟨rfl,rfl⟩,i⟩,o⟩,e⟩,j⟩:=q;obtain⟨nm,bs,mro,ns,d,p,sn,sub,ab,col,r⟩:=k
   dsimp only at g i e j
   subst g i;obtain⟨l⟩:=m;obtain rfl:l=_:=hs;exact⟨c,ns,nm,d,bs,p,sn,sub,ab,col,dd,k0,k1,k2,k3,k5,_,b _ _ ho,.of_isNs (isNs_of_in b e),nsMap_none_of_in b e j,tail_of_in b o⟩
  ·cases q
 ·cases q
theorem ye(i:X.calm=b8)(j:Gl X x)(f:X.mg x=a5 (.ref C))(k:(x==("__debug__":Str))=cc)(l:excIn X.K C Pb "ValueError.__new__"=b8)(m:PE X a n)
  (g:hW [a] X.env=[(cc,ve a X.env)]) :
  PS X (.Raise (a5 (.Call (.Name x p) [a] [] A)) bD pos) (λD σ H=>n σ H λv d=>∀b s e s',Inv X b σ d s->bM X.prog X.w X.stack d s e C bD .none d s'->X.xe (.ref e) s'):=by
 intro b s σ H D I h;obtain⟨B,N,nm,o,bs,hdct,sn,sub,ab,col,dd,k0,k1,k2,k3,k5,G,r,t,y,T⟩:=Ea I.mod.NU l;refine wpAny_Raise_call_subT (nm:=nm) (q:=o) (N:=N) (bs:=bs) (hdct:=hdct) (sn:=sn) (sub:=sub) (ab:=ab) (col:=col) (dd:=dd) (k0:=k0) (k1:=k1) (k2:=k2) (k3:=k3) (k5:=k5) Å (T.hasType Å.hasBase) (I.ok.hd i) (by rw[g];rfl) y (dy I j f ⟨rfl,?_⟩ k);rw[g];refine LF (MM (IX (m b s σ H _ I h) λu s1 ⟨v,d,c,J,z⟩=>PB ⟨rfl,?_,c.bk _ _ r,t.keeps c.bk,T.keeps c.bk,λh' e f=>z b s1 e _ c (.made c f)⟩));exact(by decide:1<=cL)
theorem Gm:Passes (NA X.prog X.w) X E0:=λ_ _ _ _ _ _ _ ⟨_,_,_,_,_,_,h⟩=>h.elim
theorem kf(F:iw X.prog X.w X.K X.mg X.base CX k f d ps sp)(g:fi k X.A)(i:Binds X.K d ps [])(I:Inv X a σ H s)(r:Vals vs us)(h:sp vs H Q E)
  (j:∀e s',CX X.stack H s E e s'->EE e s'):d6 (ez X.prog X.w) X.A (NQ (.ref f) us) (EP X a σ Q) EE s:=by
 have hl:us.length=ps.length:=by rw[<-r.length];exact F.len _ _ _ _ h
 have c:=i s us I.LH (by rw[tj];exact hl);rw[tj]at c;refine ø (Sa (F.run X.A X.stack s H ⟨us,[]⟩ us vs Q E g I.F8 c r h) λr s' b=>?_);cases r with
 |error e=>exact j e s' b
 |ok l =>
  cases l with
  |ret u=>exact I.after b
  |_=>exact MT b
end
theorem Eb{K:Frag}(b:K.In s.heap)(c:s.heap.get? e=a5 f)(i:f.cls=.ref C)(hk:(kitCls K (.ref C) (.ref D)==a5 b8&&C != D)=b8)(h:Q (.bool b8) s):
  d6 (ez prog w) A (NQ (.builtin "isinstance") [.ref e,.ref D]) Q E s:=by
 refine R0 (S:=λ_ R s=>(K.In s.heap/\s.heap.get? e=a5 f)/\R (.ok (.ret (.bool b8))) s) (λprog w A R s hs=>isinstance_outer ?_ λz=>nomatch z) ⟨⟨b,c⟩,h⟩;obtain⟨j,g,d,o,os⟩:=s;obtain⟨⟨b,c⟩,a⟩:=hs;rw[cb,beq_iff_eq,bne_iff_ne]at hk;obtain⟨hk,k⟩:=hk;have LT:Z2 (ez prog w) j (W2 (.ref e)) (.ref C):=by
  refine(Y4 c).andThen ?_;rw[i];exact .now
 obtain⟨l,m,n⟩:=kit_cls (M:=ez prog w) b hk;unfold M6.«isinstance.nested»;refine b6 (LT.at ?_);rw[Ň (by simp;exact k)];refine b6 (l.at ?_);rw[ņ (by decide)]
 k_delta "plainIsInstance"
 refine b6 (b6 (m.at ?_));simp only[X3,Jr,if_false];refine b6 ((LT.andThen n).at ?_)
 first
  |exact df (df a)
  |(simp only[if_true];first|exact df (df a)|exact df a|exact b6 (df (df a)))
abbrev Cx.Kw(X:Cx)(e:eH)(a:Obj)(E:d3->d8->Prop):Cx:={X with A:=X.A.mark (a5 (.ref e)),calm:=cc,pn:=(e,a)::X.pn,xe:=E}
section
theorem Inv.Kw(I:Inv X a σ H s)(c:s.heap.get? e=a5 b)(d:H e=bD)(f:e≠X.env.locals)(g:e∉X.fs)(h:∀v,b.data≠.cell v):Inv (X.Kw e b E) a σ H s :=
 ⟨⟨I.ok.mod,I.ok.kind,I.ok.glob,I.ok.blt,I.ok.above,I.ok.inj,I.ok.has,I.ok.OS,λz=>(nomatch z),I.ok.frames,I.ok.Px,I.ok.RT,I.ok.bs,I.ok.MU,I.ok.LU,I.ok.Mg,I.ok.jU,I.ok.NV⟩,I.os,I.bare,I.base,I.loc,I.cell,I.free,I.Jk,
  λp i=>(d7.mp (show p∈(e,b)::(X.pn++a) from i)).elim (λz=>by subst z;exact⟨c,d,f,g,h⟩) λz=>I.pin p z,I.IQ,I.len⟩
theorem Inv.Gn(b:X.Ok)(I:Inv (X.Kw e d E) a σ H s):Inv X a σ H s :=
 ⟨b,I.os,I.bare,I.base,I.loc,I.cell,I.free,I.Jk,λp c=>I.pin p (l0 _ c),I.IQ,I.len⟩
theorem Inv.gone(I:Inv X f σ H s)(D:X.N.Nodup)(w:X.N[j]?=a5 n)(hl:X.env.scope.names.lookup n=a5 .local)
  (h:∀s',Inv X f (σ.set j bD) H s'->Q () s'):d6 M A (do bindName X.env n .none;unbindBehindTheSuite X.env n pos) Q E s:=by
 obtain⟨m,G,J⟩:=id I.loc;have L:(X.env.scope.kind==.class||(X.env.scope.kind==.module&&X.env.locals != X.env.globals))=cc:=by rw[I.ok.kind];rfl
 refine wpAny_nameGoes_keeps hl G L λh' v O hs=>h _ ?_;have x:=I.Mh;have T:j < σ.length:=by rw[I.len];exact(dV.mp w).1
 have ne:∀b o,X.s₀.heap.get? b=a5 o->b≠X.env.locals:=λb o q=>hY (i3 (fx q) I.ok.above);refine⟨I.ok,I.os,I.bare,⟨λb o e n t g=>(hs.2 b (ne b o e)).trans (I.base.keep b o e n t g),λb o e n t g=>?_,I.base.free,λb o e g=>?_,I.base.fT,I.base.JR,I.base.JW⟩,⟨_,O,λi y u B k Y=>?_⟩,λy c e=>?_,I.free,I.Jk,λp hp=>?_,λb ob e=>(I.IQ b ob e).fM (λc w' hc q=>(hs.2 c ?_).trans q) (λ_ q=>q) λ_ _ q=>q,by simpa using I.len⟩
 ·obtain⟨sl,q⟩:=I.base.slot b o e n t g;exact⟨sl,(hs.2 b (ne b o e)).trans q⟩
 ·obtain⟨o',q⟩:=I.base.there b o e g;exact⟨o',(hs.2 b (ne b o e)).trans q⟩
 ·have C:i≠j:=λz=>by subst z;rw[ei T]at k;cases k
  rw[hQ (r6 C)]at k;obtain⟨u',r,l⟩:=J i y u B k Y;refine⟨u',r,l.imp (λ⟨a,b⟩=>⟨a,?_⟩) λ⟨a,c,b,d⟩=>⟨a,c,b,d.sameBut hs (x y c b)⟩⟩;show(if y=n then v else m y)=a5 u';rw[Ň λ(z:y=n)=>C (ir D B (by rw[z];exact w))];exact b
 ·obtain⟨u,z⟩:=I.cell y c e;exact⟨u,z.sameBut hs (x y c e)⟩
 ·obtain⟨a,b,c,d⟩:=I.pin p hp;exact⟨(hs.2 p.1 c).trans a,b,c,d⟩
 ·rintro rfl;rcases hc with hc|hc
  ·rw[<-hc,I.free]at e;cases e
  ·rw[I.free]at hc;cases hc
end
section
variable{prog:va}{w:H8}{A:Nm}{E:d3->d8->Prop}{h:Jy}{g:Array Y5}{d:Drawn}{t:Nat}{os:OsState}{a C:eH}{o:Obj}{K:Frag}
theorem qp(e:K.In h)(hs:Ĺ K (.ref C) (.type "object")=a5 b8)(b:h.get? a=a5 o)(c:o.cls=.ref C)(j:R (.ok (.ret (.ref C))) ⟨h,g,d,t,os⟩):
  Qk (ez prog w) A (.call (.builtin "getset_descriptor.__get__") ⟨[.builtin "object.__class__",.ref a,.ref C],[]⟩) R ⟨h,g,d,t,os⟩:=by
 have f:(⟨h,g,d,t,os⟩:d8).TypeIs (.builtin "object.__class__") "getset_descriptor":=T7;have i:Z2 (ez prog w) h (N_ (.ref C) (.type (".".intercalate ("object.__class__".cutAt '.').dropLast))) b8:=by rw[F.owner_object_class];exact looks_subIn e hs
 refine UZ Y6.plain F.entry_gs_get (Y6.check _ _ _ _ _ _ _ _ f (F.args_gs_get _ _ _) ?_)
 repeat (any_goals (first|assumption|(with_reducible refine Qj b ?_;rw[c])|with_reducible refine i.at ?_|wp_step))
 refine⟨UK _ (by decide +kernel),Kz F.entry_object_class ?_⟩
 repeat (any_goals (first|assumption|(with_reducible refine Qj b ?_;rw[c])|wp_step))
theorem mD(b:K.In h)(hs:Ĺ K (.ref C) (.type "object")=a5 b8)(f:Ļ K (.ref C) "__class__"=a5 (a5 (.builtin "object.__class__")))(c:h.get? a=a5 o)(e:o.cls=.ref C)(j:Q (.done (.ret (.ref C))) ⟨h,g,d,t,os⟩):
  d6 (ez prog w) A (M6.«object.__getattribute__» ⟨[.ref a,.str "__class__" k],[]⟩) Q E ⟨h,g,d,t,os⟩:=by
 have l:(⟨h,g,d,t,os⟩:d8).TypeIs (.builtin "object.__class__") "getset_descriptor":=T7;have i:Z2 (ez prog w) h (QO (.ref C) "__class__") (a5 (.builtin "object.__class__")):=À b f;have m:=T7;have n:=Y6.lookup;have p:=F.slot_gs_set.lookup
 repeat (any_goals (first|assumption|(with_reducible refine Qj c ?_;rw[e])|with_reducible refine i.at ?_|wp_step))
 refine qp b hs c e ?_
 repeat (any_goals (first|assumption|wp_step))
theorem rR(b:K.In h)(hs:Ĺ K (.ref C) (.type "BaseException")=a5 b8)(c:h.get? a=a5 o)(e:o.cls=.ref C)(f:Q () ⟨h,g,d,t,os⟩):d6 M A (Xo "BaseException.__getattribute__" ⟨[.ref a,i],[]⟩) Q E ⟨h,g,d,t,os⟩:=by
 have hk:builtinKind "BaseException.__getattribute__"=a5 .slot:=by decide +kernel
 have j:splitId "BaseException.__getattribute__"=a5 ("BaseException","__getattribute__"):=by decide +kernel
 have k:Z2 M h (N_ (.ref C) (.type "BaseException")) b8:=looks_subIn b hs;have l:=F.args_bexc_ga (.ref a) i;simp only[Xo,hk,j];refine b6 ?_
 ·unfold isInstance
  repeat (first|(with_reducible refine Qj c ?_;rw[e])|with_reducible refine k.at ?_|wp_step)
  exact f
noncomputable def fU(K:Frag)(C:eH):Bool:=Ĺ K (.ref C) (.type "object")==a5 b8&&Ĺ K (.ref C) (.type "BaseException")==a5 b8&&Ļ K (.ref C) "__class__"==a5 (a5 (.builtin "object.__class__"))&&Ļ K (.ref C) "__getattribute__"==a5 (a5 (.builtin "BaseException.__getattribute__"))&&Ļ K (.ref C) "__getattr__"==a5 bD&&(clsIn K C).isSome
theorem rS(b:K.In h)(f:fU K C=b8)(c:h.get? a=a5 o)(e:o.cls=.ref C)(k:Q (.ref C) ⟨h,g,d,t,os⟩):d6 (ez prog w) A (getAttrBy (.ref a) (.str "__class__" l) cc) Q E ⟨h,g,d,t,os⟩:=by
 simp only[fU,cb,beq_iff_eq]at f;obtain⟨⟨⟨⟨⟨o1,o2⟩,o3⟩,o4⟩,o5⟩,_⟩:=f;have m:=ñ.ga.bind (.ref a);have n:(cc&&onTheHeap (Si "BaseException.__getattribute__"))=cc:=rfl;have i:(Si "BaseException.__getattribute__"==Si "object.__getattribute__")=cc:=by decide +kernel
 have p:(onTheHeap (l' C)&&Si "BaseException.__getattribute__"==Si "object.__getattribute__")=cc:=by rw[i];rfl
 have j:Z2 (ez prog w) h (QO (.ref C) "__getattribute__") (a5 (.builtin "BaseException.__getattribute__")):=À b o4;have L2:Z2 (ez prog w) h (QO (.ref C) "__getattr__") bD:=À b o5
 repeat (any_goals (first|assumption|(with_reducible refine Qj c ?_;rw[e])|with_reducible refine j.at ?_|with_reducible refine L2.at ?_|wp_step))
 refine UZ ñ.ga.plain F.entry_bexc_ga (rR b o2 c e (mD b o1 o3 c e ?_))
 repeat (any_goals (first|assumption|wp_step))
theorem oR(b:K.In h)(c:fU K C=b8)(e:h.get? a=a5 o)(f:o.cls=.ref C)(i:Q (a5 (.ref C)) ⟨h,g,d,t+1,os⟩):d6 (ez prog w) A (getAttr? (.ref a) "__class__") Q E ⟨h,g,d,t,os⟩:=by
 unfold getAttr? getAttrBy?
 repeat (any_goals (first|assumption|with_reducible apply rS b c e f|wp_step))
end
theorem yf{K:Frag}(b:fU K C=b8):KitX K (.ref a) (.ref C) (λh=>∃o,h.get? a=a5 o/\o.cls=.ref C) where
 ty:=λM h _ j=>by
  obtain⟨o,f,i⟩:=j;refine(Y4 f).andThen ?_;rw[i];exact .now
 it:=λM h c _ A Q E s k q=>by
  simp only[fU,cb]at b;have z:=b.2;unfold clsIn at z;split at z
  ·rename_i ho;unfold isType loadHead;exact b6 (wpAny_loadPart (k _ _ (c _ _ ho)) (df q))
  ·cases z
 ne:=λh l dd m n p c e=>by
  simp only[fU,cb]at b;have z:=b.2;unfold clsIn at z;split at z
  ·rename_i ho;rw[Ō];intro q;cases q;have:=c _ _ ho;rw[e]at this;cases this
  ·cases z
 ca:=λ{_ _ _ _ _ s} c ⟨o,f,i⟩ q=>by
  obtain⟨h,g,d,t,os⟩:=s;exact oR c b f i q
theorem Inv.Gp(I:Inv X d σ H s)(f:s.heap.get? e=a5 g)(i:H e=bD)(j:X.s₀.heap.get? e=bD)(k:e≠X.env.locals)(l:∀x c,X.env.cells.lookup x=a5 c->c≠e)(r:∀p∈X.pn++d,p.1≠e):
  Inv X d σ (upd H e (.KA g (.ext λ_=>True))) s:=by
 have ne:∀b o,H b=a5 o->b≠e:=λb o q=>bc q i;refine⟨I.ok,I.os,I.bare,⟨I.base.keep,I.base.slot,λb o q n t=>?_,I.base.there,λb xs q=>?_,λb o u q=>?_,λb ps q=>?_⟩,I.loc,I.cell,?_,λx c q=>?_,λp h=>?_,λb u q=>?_,I.len⟩
 ·rw[au (λz=>by rw[z,j]at q;cases q)];exact I.base.free b o q n t
 ·have:=I.base.fT b xs q;rw[au (ne b _ this)];exact this
 ·have:=I.base.JR b o u q;rw[au (ne b _ this)];exact this
 ·obtain⟨m,q⟩:=I.base.JW b ps q;exact⟨m,by rw[au (ne b _ q)];exact q⟩
 ·rw[au (r6 k)];exact I.free
 ·rw[au (l x c q)];exact I.Jk x c q
 ·obtain⟨a,b,c⟩:=I.pin p h;exact⟨a,by rw[au (r p h)];exact b,c⟩
 ·by_cases z:b=e
  ·subst z;rw[ay]at q;cases q;exact⟨f,trivial,⟨g,f⟩,λ_ _ _ _=>trivial⟩
  ·rw[au z]at q;exact(I.IQ b u q).fM (λ_ _ _ q=>q) (λc q=>by rw[au (ne c _ q)];exact q) λc xs q=>by rw[au (ne c _ q)];exact q
end L2
namespace TM
open PySem L2
inductive U where
 |IU|bl (b:Bool)|int (i:Int)|str (x:Str)
 |tup (xs:List U)|lst (xs:List U)
 |IM (ks:List Str) (vs:List U)
 |exc (c:Str)
mutual
noncomputable def Jl:U->Bool
 |.tup xs=>cB xs
 |.lst _=>cc
 |.IM _ _=>cc
 |.exc _=>b8
 |.IU=>b8|.bl _=>b8|.int _=>b8|.str _=>b8
noncomputable def cB:List U->Bool
 |[]=>b8
 |u::us=>Jl u&&cB us
end
inductive Kd where|own|io|loc|any|bor (j:Nat)|IK
deriving DecidableEq
noncomputable def Kd.root:Kd->Bool
 |.own=>b8
 |.io=>b8
 |_=>cc
abbrev aw:=List (Option (Kd×U))
structure Ct where
 P:va
 w:H8
 K:PySem.W.Frag
 H₀:Hp
 Lv:eH->Prop
 IO:eH->Prop
 xw:U->Hp->Prop
def KL(K:PySem.W.Frag)(a:eH)(xs:List V):Prop :=
 ∃(o:Obj) (b:Array d3) (n:Nat),K.lookup a=a5 o/\o.cls=.type "list"/\o.dict=bD/\o.data=.seq b n/\b.size<=cL/\Vals xs b.toList
def Qo(K:PySem.W.Frag)(S:eH->Prop)(H:Hp)(a:eH)(vs:List V):Prop:=(S a/\Rd H a (.lst vs))\/KL K a vs
theorem Qo.sq(h:Qo K S H a vs):Jn K H a vs:=h.elim (λz=>.inl z.2) .inr
def NB(H:Hp)(R:List V->Prop)(a:eH)(ks:List Str):Prop:=∃kvs:List (Key×V),H a=a5 (.dK kvs)/\kvs.map (·.1)=ks.map nc/\R (kvs.map (·.2))
def Iv(K:PySem.W.Frag)(H:Hp)(a:eH)(c:Str):Prop:=∃o C,H a=a5 (.KA o (.ext λ_=>True))/\o.cls=.ref C/\PySem.W.nsIn K i8 c=a5 (a5 (.ref C))
section
variable(C:Ct)(S:eH->Prop)(H:Hp)
mutual
def Rep:U->V->Prop
 |.IU,v=>v=.IU
 |.bl b,v=>v=.bl b
 |.int i,v=>v=.int i
 |.str x,v=>v=.str x
 |.tup us,v=>∃a vs,v=.ref a/\JH C.K H a vs/\aq us vs
 |.lst us,v=>∃a vs,v=.ref a/\Qo C.K S H a vs/\aq us vs
 |.IM ks us,v=>∃a,v=.ref a/\S a/\NB H (aq us) a ks
 |.exc c,v=>∃a,v=.ref a/\Iv C.K H a c
def aq:List U->List V->Prop
 |[],vs=>vs=[]
 |u::us,vs=>∃v r,vs=v::r/\Rep u v/\aq us r
end
end
def Tp:HO->Prop
 |.tup _=>True
 |.KA _ (.tup _)=>True
 |.KA _ (.ext _)=>True
 |_=>False
structure Mv(S:eH->Prop)(H:Hp)(S':eH->Prop)(H':Hp):Prop where
 sub:∀a,S a->S' a
 Pc:∀a o,H a=a5 o->Tp o->H' a=a5 o
 TH:∀a o,S a->H a=a5 o->H' a=a5 o
theorem Mv.X0(m:Mv S H S' H')(h:JH K H a vs):JH K H' a vs:=by
 rcases h with(h|⟨o,h⟩)|h
 ·exact .inl (.inl (m.Pc a _ h trivial))
 ·exact .inl (.inr ⟨o,m.Pc a _ h trivial⟩)
 ·exact .inr h
theorem Mv.X1(m:Mv S H S' H')(h:Qo K S H a vs):Qo K S' H' a vs:=by
 rcases h with⟨s,h|⟨o,h⟩⟩|h
 ·exact .inl ⟨m.sub a s,.inl (m.TH a _ s h)⟩
 ·exact .inl ⟨m.sub a s,.inr ⟨o,m.TH a _ s h⟩⟩
 ·exact .inr h
theorem NB.mv(b:∀o,H a=a5 o->H' a=a5 o)(c:∀vs,R vs->d vs)(h:NB H R a ks):NB H' d a ks :=
 let ⟨kvs,e,f,g⟩:=h;⟨kvs,b _ e,f,c _ g⟩
section
mutual
theorem Rep.NC(m:Mv S H S' H'):∀(u:U) (v:V),Rep C S H u v->Rep C S' H' u v
 |.IU,_,h=>h
 |.bl _,_,h=>h
 |.int _,_,h=>h
 |.str _,_,h=>h
 |.tup us,v,h=>by
  obtain⟨a,vs,e,b,d⟩:=h;exact⟨a,vs,e,m.X0 b,aq.NC m us vs d⟩
 |.lst us,v,h=>by
  obtain⟨a,vs,e,b,d⟩:=h;exact⟨a,vs,e,m.X1 b,aq.NC m us vs d⟩
 |.IM ks us,v,h=>by
  obtain⟨a,e,b,d⟩:=h;exact⟨a,e,m.sub a b,d.mv (λo q=>m.TH a o b q) λvs q=>aq.NC m us vs q⟩
 |.exc c,v,h=>let ⟨a,e,o,f,b,d⟩:=h;⟨a,e,o,f,m.Pc a _ b trivial,d⟩
theorem aq.NC(m:Mv S H S' H'):∀(us:List U) (vs:List V),aq C S H us vs->aq C S' H' us vs
 |[],_,h=>h
 |u::us,vs,h=>by
  obtain⟨v,r,e,a,b⟩:=h;exact⟨v,r,e,Rep.NC m u v a,aq.NC m us r b⟩
end
mutual
theorem Rep.vU:∀(u:U) (v:V),Jl u=b8->Rep C S H u v->Rep C S' H u v
 |.IU,_,_,h=>h
 |.bl _,_,_,h=>h
 |.int _,_,_,h=>h
 |.str _,_,_,h=>h
 |.tup us,v,i,h=>by
  obtain⟨a,vs,e,b,c⟩:=h;exact⟨a,vs,e,b,aq.vU us vs (by simpa[TM.Jl] using i) c⟩
 |.lst us,v,i,h=>by simp[TM.Jl]at i
 |.IM ks us,v,i,h=>by simp[TM.Jl]at i
 |.exc _,_,_,h=>h
theorem aq.vU:∀(us:List U) (vs:List V),cB us=b8->aq C S H us vs->aq C S' H us vs
 |[],_,_,h=>h
 |u::us,vs,i,h=>by
  obtain⟨v,r,e,b,c⟩:=h;have a:TM.Jl u=b8/\cB us=b8:=by simpa[cB] using i
  exact⟨v,r,e,Rep.vU u v a.1 b,aq.vU us r a.2 c⟩
end
theorem Rep.mv(m:Mv S H S' H')(h:Rep C S H u v):Rep C S' H' u v:=Rep.NC m u v h
theorem aq.mv(m:Mv S H S' H')(h:aq C S H us vs):aq C S' H' us vs:=aq.NC m us vs h
theorem Rep.Jl(i:TM.Jl u=b8)(h:Rep C S H u v):Rep C S' H u v:=Rep.vU u v i h
theorem aq.Jl(i:cB us=b8)(h:aq C S H us vs):aq C S' H us vs:=aq.vU us vs i h
theorem Mv.up(sub:∀a,S a->S' a):Mv S H S' H:=⟨sub,λ_ _ h _=>h,λ_ _ _ h=>h⟩
theorem aq.len:∀{us:List U}{vs:List V},aq C S H us vs->us.length=vs.length
 |[],_,h=>by cases h;rfl
 |u::us,vs,h=>by
  obtain⟨v,r,rfl,_,a⟩:=h;rw[ke,ke,aq.len a]
theorem aq.get:∀{us:List U}{vs:List V}{i:Nat}{u:U},aq C S H us vs->us[i]?=a5 u->∃v,vs[i]?=a5 v/\Rep C S H u v
 |[],_,_,_,_,e=>by simp at e
 |u::us,vs,0,w,h,e=>by
  obtain⟨v,r,rfl,a,_⟩:=h;simp at e;subst e;exact⟨v,rfl,a⟩
 |u::us,vs,i+1,w,h,e=>by
  obtain⟨v,r,rfl,_,b⟩:=h;obtain⟨c,d,h'⟩:=aq.get (i:=i) (u:=w) b (by simpa using e);exact⟨c,by simpa using d,h'⟩
theorem aq.append:∀{us ws:List U}{vs a:List V},aq C S H us vs->aq C S H ws a->aq C S H (us++ws) (vs++a)
 |[],_,_,_,h,h'=>by cases h;exact h'
 |u::us,ws,vs,a,h,h'=>by
  obtain⟨v,r,rfl,b,c⟩:=h;exact⟨v,r++a,rfl,b,c.append h'⟩
theorem aq.take:∀{us:List U}{vs:List V} (n:Nat),aq C S H us vs->aq C S H (us.take n) (vs.take n)
 |_,_,0,_=>by simp[aq]
 |[],_,n+1,h=>by cases h;simp[aq]
 |u::us,vs,n+1,h=>by
  obtain⟨v,r,rfl,a,b⟩:=h;exact⟨v,r.take n,rfl,a,b.take n⟩
theorem aq.drop:∀{us:List U}{vs:List V} (n:Nat),aq C S H us vs->aq C S H (us.drop n) (vs.drop n)
 |_,_,0,h=>h
 |[],_,n+1,h=>by cases h;simp[aq]
 |u::us,vs,n+1,h=>by
  obtain⟨v,r,rfl,b,a⟩:=h;exact a.drop n
theorem aq.set:∀{us:List U}{vs:List V} (n:Nat) {u:U}{v:V},aq C S H us vs->Rep C S H u v->aq C S H (us.set n u) (vs.set n v)
 |[],_,n,_,_,h,_=>by cases h;simp[aq]
 |u::us,vs,0,_,_,h,h'=>by
  obtain⟨v,r,rfl,b,a⟩:=h;exact⟨_,r,rfl,h',a⟩
 |u::us,vs,n+1,_,_,h,h'=>by
  obtain⟨v,r,rfl,b,a⟩:=h;exact⟨v,_,rfl,b,a.set n h'⟩
theorem aq.snoc(h:aq C S H us vs)(h':Rep C S H u v):aq C S H (us++[u]) (vs++[v]):=h.append ⟨v,[],rfl,h',rfl⟩
theorem aq.strs:∀{xs:List Str}{vs:List V},aq C S H (xs.map .str) vs↔vs=xs.map V.str
 |[],vs=>by simp[aq]
 |x::xs,vs=>by
  constructor
  ·rintro⟨v,r,rfl,a,b⟩;rw[aq.strs.mp b];have:v=.str x:=a;rw[this];rfl
  ·rintro rfl;exact⟨_,_,rfl,rfl,aq.strs.mpr rfl⟩
end
structure Ct.Eqv(C C':Ct):Prop where
 P:C.P=C'.P
 w:C.w=C'.w
 K:C.K=C'.K
section
mutual
theorem Rep.ND(q:C.Eqv f):∀(u:U) (v:V),Rep C S H u v->Rep f S H u v
 |.IU,_,h=>h
 |.bl _,_,h=>h
 |.int _,_,h=>h
 |.str _,_,h=>h
 |.tup us,v,h=>by
  obtain⟨a,vs,e,b,d⟩:=h;exact⟨a,vs,e,q.K▸b,aq.ND q us vs d⟩
 |.lst us,v,h=>by
  obtain⟨a,vs,e,b,d⟩:=h;exact⟨a,vs,e,q.K▸b,aq.ND q us vs d⟩
 |.IM ks us,v,h=>by
  obtain⟨a,e,b,d⟩:=h;exact⟨a,e,b,d.mv (λ_ q=>q) λvs z=>aq.ND q us vs z⟩
 |.exc c,v,h=>by
  obtain⟨a,e,h⟩:=h;exact⟨a,e,q.K▸h⟩
theorem aq.ND(q:C.Eqv a):∀(us:List U) (vs:List V),aq C S H us vs->aq a S H us vs
 |[],_,h=>h
 |u::us,vs,h=>by
  obtain⟨v,r,e,b,c⟩:=h;exact⟨v,r,e,Rep.ND q u v b,aq.ND q us r c⟩
end
theorem Rep.cg(q:C.Eqv a)(h:Rep C S H u v):Rep a S H u v:=Rep.ND q u v h
theorem aq.cg(q:C.Eqv a)(h:aq C S H us vs):aq a S H us vs:=aq.ND q us vs h
end
def cV(C:Ct)(S:eH->Prop)(H:Hp)(r:eH):U->Prop
 |.lst us=>∃vs,H r=a5 (.lst vs)/\aq C S H us vs
 |.IM ks us=>NB H (aq C S H us) r ks
 |_=>False
theorem cV.mv(m:Mv S H S' H')(a:∀o,H r=a5 o->H' r=a5 o)(h:cV C S H r u):cV C S' H' r u:=by
 cases u with
 |lst us=>obtain⟨vs,b,c⟩:=h;exact⟨vs,a _ b,c.mv m⟩
 |IM ks us=>exact NB.mv a (λvs q=>q.mv m) h
 |_=>exact h
theorem cV.rep(hs:∀a,S a->S' a)(b:S' r)(h:cV C S H r u):Rep C S' H u (.ref r):=by
 cases u with
 |lst us=>obtain⟨vs,c,d⟩:=h;exact⟨r,vs,rfl,.inl ⟨b,.inl c⟩,d.mv (.up hs)⟩
 |IM ks us=>exact⟨r,rfl,b,NB.mv (λ_ q=>q) (λvs q=>q.mv (.up hs)) h⟩
 |_=>exact h.elim
theorem cV.cg(q:C.Eqv a)(h:cV C S H r u):cV a S H r u:=by
 cases u with
 |lst us=>obtain⟨vs,b,c⟩:=h;exact⟨vs,b,c.cg q⟩
 |IM ks us=>exact NB.mv (λ_ q=>q) (λvs z=>z.cg q) h
 |_=>exact h
theorem cV.some(h:cV C S H r u):∃o,H r=a5 o/\¬Tp o:=by
 cases u with
 |lst us=>obtain⟨vs,a,_⟩:=h;exact⟨_,a,λz=>z⟩
 |IM ks us=>obtain⟨kvs,a,_⟩:=h;exact⟨_,a,λz=>z⟩
 |_=>exact h.elim
structure Cf where
 S:eH->Prop
 H:Hp
 σ:St
 st:aw
 kid:Nat->List eH
def Cf.R1(c:Cf)(a:eH):Prop:=∃(j:Nat) (k:Kd) (u:U),k.root=b8/\c.st[j]?=a5 (a5 (k,u))/\c.σ[j]?=a5 (a5 (.ref a))
def Cf.RD(c:Cf)(j:Nat)(a:eH):Prop:=∃(u:U) (r:eH),c.st[j]?=a5 (a5 (.IK,u))/\c.σ[j]?=a5 (a5 (.ref r))/\(a=r\/a∈c.kid j)
def Cf.R(c:Cf)(a:eH):Prop:=c.R1 a\/∃j,c.RD j a
def PS(C:Ct)(S:eH->Prop):eH->Prop:=λa=>C.Lv a\/S a
def fV(C:Ct)(S:eH->Prop)(H:Hp):Kd->U->V->Prop
 |.own,u,v=>∃r,v=.ref r/\¬S r/\¬C.Lv r/\C.H₀ r=bD/\cV C S H r u
 |.io,u,v=>∃r,v=.ref r/\¬S r/\¬C.Lv r/\C.IO r/\cV C S H r u
 |.loc,u,v=>Rep C S H u v
 |.any,u,v=>Rep C (PS C S) H u v
 |.bor _,_,_=>False
 |.IK,_,v=>∃r,v=.ref r
def dr(C:Ct)(S:eH->Prop)(H:Hp):List U->List eH->Prop
 |[],as=>as=[]
 |u::us,as=>∃a as' b vs,as=a::as'/\u=.lst b/\H a=a5 (.lst vs)/\aq C S H b vs/\dr C S H us as'
def cy(C:Ct)(S:eH->Prop)(H:Hp)(r:eH)(as:List eH):U->Prop
 |.IM ks us=>∃kvs:List (Key×V),H r=a5 (.dK kvs)/\kvs.map (·.1)=ks.map nc/\kvs.map (·.2)=as.map V.ref/\(r::as).Nodup/\(∀a∈r::as,¬S a/\¬C.Lv a/\C.H₀ a=bD)/\dr C S H us as
 |_=>False
structure LZ(C:Ct)(c:Cf):Prop where
 kd:∀(j:Nat) (u:U) (r:eH),c.st[j]?=a5 (a5 (.IK,u))->c.σ[j]?=a5 (a5 (.ref r))->cy C c.S c.H r (c.kid j) u
 dj:∀(i j:Nat) (a:eH),c.RD i a->c.RD j a->i=j
 d1:∀(j:Nat) (a:eH),c.RD j a->¬c.R1 a
structure Ok(C:Ct)(c:Cf):Prop where
 same:∀a o,C.H₀ a=a5 o->¬C.IO a->c.H a=a5 o
 K5:∀a,c.S a->C.H₀ a=bD/\∃o,c.H a=a5 o
 par:∀a,C.Lv a->(∃o,C.H₀ a=a5 o)/\¬C.IO a
 io:∀a,C.IO a->(∃o,C.H₀ a=a5 o)/\∃o,c.H a=a5 o
 len:c.st.length=c.σ.length
 sl:∀(i:Nat) (k:Kd) (u:U),c.st[i]?=a5 (a5 (k,u))->∃v,c.σ[i]?=a5 (a5 v)/\fV C c.S c.H k u v
 inj:∀(i j:Nat) (k k':Kd) (u u':U) (r:eH),k.root=b8->k'.root=b8->c.st[i]?=a5 (a5 (k,u))->c.st[j]?=a5 (a5 (k',u'))->c.σ[i]?=a5 (a5 (.ref r))->c.σ[j]?=a5 (a5 (.ref r))->i=j
 dd:LZ C c
structure Ns(c c':Cf):Prop where
 keep:∀a o,c.H a=a5 o->¬c.R a->c'.H a=a5 o
 there:∀a o,c.H a=a5 o->∃o',c'.H a=a5 o'
 roots:∀a,c'.R a->c.R a\/c.H a=bD
 sub:∀a,c.S a->c'.S a
 new:∀a,c'.S a->c.S a\/c.R a\/c.H a=bD
section
theorem Ns.refl(c:Cf):Ns c c:=⟨λ_ _ h _=>h,λ_ o h=>⟨o,h⟩,λ_ h=>.inl h,λ_ h=>h,λ_ h=>.inl h⟩
theorem Ns.none(n:Ns c b)(h:b.H a=.none):c.H a=.none:=by
 cases e:c.H a with
 |none=>rfl
 |some o=>obtain⟨d,q⟩:=n.there a o e;rw[h]at q;cases q
theorem Ns.trans(m:Ns c d)(n:Ns d e):Ns c e where
 keep:=λa o h b=>by
  refine n.keep a o (m.keep a o h b) λz=>?_;rcases m.roots a z with z|z
  ·exact b z
  ·rw[h]at z;cases z
 there:=λa o h=>let ⟨f,h'⟩:=m.there a o h;n.there a f h'
 roots:=λa h=>by
  rcases n.roots a h with z|z
  ·exact m.roots a z
  ·exact .inr (m.none z)
 sub:=λa h=>n.sub a (m.sub a h)
 new:=λa h=>by
  rcases n.new a h with z|z|z
  ·exact m.new a z
  ·rcases m.roots a z with z|z
   ·exact .inr (.inl z)
   ·exact .inr (.inr z)
  ·exact .inr (.inr (m.none z))
theorem fV.rt(hk:k.root=b8)(h:fV C S H k u v):∃r,v=.ref r/\¬S r/\¬C.Lv r/\(C.H₀ r=bD\/C.IO r)/\cV C S H r u:=by
 cases k with
 |own=>obtain⟨r,a,b,c,d,e⟩:=h;exact⟨r,a,b,c,.inl d,e⟩
 |io=>obtain⟨r,a,b,c,d,e⟩:=h;exact⟨r,a,b,c,.inr d,e⟩
 |_=>cases hk
theorem dr.mem:∀{us:List U}{as:List eH}{a:eH},dr C S H us as->a∈as->∃vs,H a=a5 (.lst vs)
 |[],as,a,h,ha=>by cases h;cases ha
 |u::us,as,a,h,ha=>by
  obtain⟨a',as',d,vs,rfl,_,b,_,c⟩:=h;rcases d7.mp ha with rfl|ha
  ·exact⟨vs,b⟩
  ·exact dr.mem c ha
theorem dr.mv(m:Mv S H S' H'):∀{us:List U}{as:List eH},(∀a∈as,∀o,H a=a5 o->H' a=a5 o)->dr C S H us as->dr C S' H' us as
 |[],as,_,h=>h
 |u::us,as,b,h=>by
  obtain⟨a,as',c,vs,rfl,e,d,f,g⟩:=h;exact⟨a,as',c,vs,rfl,e,b a (by simp) _ d,f.mv m,dr.mv m (λa i=>b a (by simp[i])) g⟩
theorem cy.fr(h:cy C S H r as u):∀a∈r::as,¬S a/\¬C.Lv a/\C.H₀ a=bD:=by
 cases u<;>first|exact h.elim|(obtain⟨kvs,_,_,_,_,b,_⟩:=h;exact b)
theorem cy.there(h:cy C S H r as u):∀a∈r::as,∃o,H a=a5 o/\¬Tp o:=by
 cases u<;>first|exact h.elim|skip
 obtain⟨kvs,b,_,_,_,_,c⟩:=h;intro a ha;rcases d7.mp ha with rfl|ha
 ·exact⟨_,b,λz=>z⟩
 ·obtain⟨vs,e⟩:=c.mem ha;exact⟨_,e,λz=>z⟩
theorem cy.mv(m:Mv S H S' H')(c:∀a∈r::as,¬S' a/\∀o,H a=a5 o->H' a=a5 o)(h:cy C S H r as u):cy C S' H' r as u:=by
 cases u<;>first|exact h.elim|skip
 obtain⟨kvs,d,e,f,g,i,j⟩:=h;exact⟨kvs,(c r (by simp)).2 _ d,e,f,g,λa b=>⟨(c a b).1,(i a b).2⟩,j.mv m λa b=>(c a (by simp[b])).2⟩
theorem LZ.of(d:LZ C c)(hk:e.kid=c.kid)(p:∀(j:Nat) (u:U),e.st[j]?=a5 (a5 (.IK,u))->c.st[j]?=a5 (a5 (.IK,u))/\e.σ[j]?=c.σ[j]?)(s:∀a,e.R1 a->c.R1 a\/∀j,¬c.RD j a)
  (m:Mv c.S c.H e.S e.H) (t:∀j a,c.RD j a->¬e.S a/\∀o,c.H a=a5 o->e.H a=a5 o):LZ C e:=by
 have b:∀j a,e.RD j a->c.RD j a:=λj a v=>by
  obtain⟨u,r,k,f,q⟩:=v;obtain⟨g,l⟩:=p j u k;rw[l]at f;rw[hk]at q;exact⟨u,r,g,f,q⟩
 refine⟨λj u r k f=>?_,λi j a h n=>d.dj i j a (b i a h) (b j a n),λj a h n=>?_⟩
 ·obtain⟨g,l⟩:=p j u k;rw[l]at f;rw[hk];exact cy.mv m (λa w=>t j a ⟨u,r,g,f,d7.mp w⟩) (d.kd j u r g f)
 ·rcases s a n with z|z
  ·exact d.d1 j a (b j a h) z
  ·exact z j (b j a h)
theorem LZ.hs(d:LZ C c)(m:Mv c.S c.H S' H')(b:∀j a,c.RD j a->¬S' a/\∀o,c.H a=a5 o->H' a=a5 o):LZ C {c with H:=H',S:=S' } :=
 d.of rfl (λ_ _ e=>⟨e,rfl⟩) (λ_ z=>.inl z) m b
theorem Ok.root(f:Ok C c)(h:c.R r):¬c.S r/\¬C.Lv r/\(C.H₀ r=bD\/C.IO r)/\∃o,c.H r=a5 o/\¬Tp o:=by
 rcases h with⟨j,k,u,hk,b,d⟩|⟨j,u,g,b,d,a⟩
 ·obtain⟨v,e,hs⟩:=f.sl j _ _ b;obtain⟨g,ev,a,l,m,n⟩:=hs.rt hk;rw[d]at e;cases e;cases ev;exact⟨a,l,m,n.some⟩
 ·have i:=f.dd.kd j u g b d;obtain⟨p,q,s⟩:=cy.fr i r (d7.mpr a);exact⟨p,q,.inl s,cy.there i r (d7.mpr a)⟩
theorem Ok.mv(b:Ok C c)(n:Ns c d):Mv c.S c.H d.S d.H:=⟨n.sub,λa o h t=>n.keep a o h λz=>by
  obtain⟨_,_,_,f,h',e⟩:=b.root z;rw[h]at h';cases h';exact e t,λa o s h=>n.keep a o h λz=>(b.root z).1 s⟩
theorem Ok.M8(b:Ok C c)(n:Ns c d):Mv (PS C c.S) c.H (PS C d.S) d.H:=⟨λa h=>h.imp id (n.sub a),(b.mv n).Pc,λa o s h=>n.keep a o h λz=>by
  rcases s with s|s
  ·exact(b.root z).2.1 s
  ·exact(b.root z).1 s⟩
theorem Ok.k_(a:Ok C c)(h:c.H p=bD):C.H₀ p=bD/\¬c.S p/\¬C.Lv p/\¬C.IO p/\¬c.R p:=by
 have b:¬C.IO p:=λz=>by obtain⟨_,o,q⟩:=a.io p z;rw[h]at q;cases q
 have d:C.H₀ p=bD:=by
  cases e:C.H₀ p with
  |none=>rfl
  |some o=>have:=a.same p o e b;rw[h]at this;cases this
 refine⟨d,λz=>?_,λz=>?_,b,λz=>?_⟩
 ·obtain⟨_,o,q⟩:=a.K5 p z;rw[h]at q;cases q
 ·obtain⟨⟨o,q⟩,_⟩:=a.par p z;rw[d]at q;cases q
 ·obtain⟨_,_,_,o,q,_⟩:=a.root z;rw[h]at q;cases q
theorem fV.mv(m:Mv S H S' H')(i:Mv (PS C S) H (PS C S') H')(g:k.root=b8->∀r,v=.ref r->¬S' r/\∀o,H r=a5 o->H' r=a5 o)(h:fV C S H k u v):fV C S' H' k u v:=by
 cases k with
 |own =>
  obtain⟨r,e,l,a,b,c⟩:=h;obtain⟨d,f⟩:=g rfl r e;exact⟨r,e,d,a,b,c.mv m f⟩
 |io =>
  obtain⟨r,e,l,a,b,c⟩:=h;obtain⟨d,f⟩:=g rfl r e;exact⟨r,e,d,a,b,c.mv m f⟩
 |loc=>exact Rep.mv m h
 |any=>exact Rep.mv i h
 |bor j=>exact h.elim
 |IK=>exact h
structure Nx(c c':Cf):Prop extends Ns c c' where
instance {c a:Cf}:Coe (Nx c a) (Ns c a):=⟨Nx.toNs⟩
theorem Nx.refl(c:Cf):Nx c c:=⟨.refl c⟩
theorem Nx.trans(m:Nx c a)(n:Nx a b):Nx c b:=⟨m.toNs.trans n.toNs⟩
theorem Nx.none(n:Nx c b)(h:b.H a=.none):c.H a=.none:=n.toNs.none h
theorem Ok.lay(d:Ok C c)(h:c.H p=bD):Ok C {c with H:=upd c.H p o}/\Nx c {c with H:=upd c.H p o}:=by
 have ne:∀{a:eH} {b:HO},c.H a=a5 b->a≠p:=λe z=>by subst z;rw[h]at e;cases e
 have f:∀a b,c.H a=a5 b->(upd c.H p o) a=a5 b:=λa b e=>by rw[au (ne e)];exact e
 have nx:Nx c {c with H:=upd c.H p o}:=⟨⟨λa b e _=>f a b e,λa b e=>⟨b,f a b e⟩,λa z=>.inl z,λ_ z=>z,λ_ z=>.inl z⟩⟩
 refine⟨⟨λa b e z=>f a b (d.same a b e z),λa z=>⟨(d.K5 a z).1,let ⟨b,q⟩:=(d.K5 a z).2;⟨b,f a b q⟩⟩,d.par,λa z=>⟨(d.io a z).1,let ⟨b,q⟩:=(d.io a z).2;⟨b,f a b q⟩⟩,d.len,λi k u e=>?_,d.inj,d.dd.hs (d.mv nx.toNs) λj a z=>⟨(d.root (.inr ⟨j,z⟩)).1,λb e=>f a b e⟩⟩,nx⟩;obtain⟨v,m,g⟩:=d.sl i k u e;refine⟨v,m,g.mv (d.mv nx.toNs) (d.M8 nx.toNs) λhk r n=>?_⟩;obtain⟨t,l,s,_⟩:=g.rt hk;rw[n]at l;cases l;exact⟨s,λb e=>f r b e⟩
theorem Ok.grow(d:Ok C c)(hs:c8 c.H H')(h:∀a,S' a->c.S a\/(c.H a=bD/\∃o,H' a=a5 o))(s:∀a,c.S a->S' a):Ok C {c with H:=H',S:=S' }/\Nx c {c with H:=H',S:=S' }:=by
 have nx:Nx c {c with H:=H',S:=S' }:=⟨⟨λa b e _=>hs a b e,λa b e=>⟨b,hs a b e⟩,λa z=>.inl z,s,λa z=>(h a z).imp id λq=>.inr q.1⟩⟩
 refine⟨⟨λa b e z=>hs a b (d.same a b e z),λa z=>?_,d.par,λa z=>⟨(d.io a z).1,let ⟨b,q⟩:=(d.io a z).2;⟨b,hs a b q⟩⟩,d.len,λi k u e=>?_,d.inj,d.dd.hs (d.mv nx.toNs) λj a z=>⟨λf=>?_,λb e=>hs a b e⟩⟩,nx⟩
 rotate_left 2
 ·obtain⟨g,_,_,o,l,_⟩:=d.root (.inr ⟨j,z⟩);rcases h a f with f|⟨f,_⟩
  ·exact g f
  ·rw[l]at f;cases f
 ·rcases h a z with q|⟨g,m⟩
  ·exact⟨(d.K5 a q).1,let ⟨b,q⟩:=(d.K5 a q).2;⟨b,hs a b q⟩⟩
  ·exact⟨(d.k_ g).1,m⟩
 ·obtain⟨v,t,n⟩:=d.sl i k u e;refine⟨v,t,n.mv (d.mv nx.toNs) (d.M8 nx.toNs) λhk r w=>?_⟩;obtain⟨x,p,g,m,y,l⟩:=n.rt hk;rw[w]at p;cases p;obtain⟨o,ho,_⟩:=l.some;refine⟨λz=>?_,λb e=>hs r b e⟩;rcases h r z with z|⟨z,_⟩
  ·exact g z
  ·rw[z]at ho;cases ho
def aM(C:Ct)(a c:Cf):Kd->U->V->Prop
 |.own,u,v=>∃r,v=.ref r/\a.H r=bD/\¬c.S r/\¬c.R r/\cV C c.S c.H r u
 |.loc,u,v=>Rep C c.S c.H u v
 |.any,u,v=>Rep C (PS C c.S) c.H u v
 |.bor j,u,v=>(∃k:Kd,k.root=b8/\c.st[j]?=a5 (a5 (k,u)))/\c.σ[j]?=a5 (a5 v)
 |.io,_,_=>False
 |.IK,_,_=>False
def fW(C:Ct)(a c:Cf):Kd->U->V->Prop
 |.own,u,v=>∃r,v=.ref r/\a.H r=bD/\¬c.S r/\¬c.R r/\cV C c.S c.H r u
 |.loc,u,v=>Rep C c.S c.H u v
 |.any,u,v=>Rep C (PS C c.S) c.H u v
 |.bor j,u,v=>c.σ[j]?=a5 (a5 v)
 |.io,_,_=>False
 |.IK,_,_=>False
theorem aM.w(h:aM C a c k u v):fW C a c k u v:=by
 cases k with
 |bor j=>exact h.2
 |_=>exact h
theorem fW.VA(a:Ok C c)(n:Ns c b)(g:∀j,k=.bor j->b.σ[j]?=c.σ[j]?)(h:fW C i c k u v):fW C i b k u v:=by
 cases k with
 |own =>
  obtain⟨r,e,l,m,d,f⟩:=h;obtain⟨o,ho,_⟩:=f.some;refine⟨r,e,l,λz=>?_,λz=>?_,f.mv (a.mv n) λo q=>n.keep r o q d⟩
  ·rcases n.new r z with z|z|z
   ·exact m z
   ·exact d z
   ·rw[z]at ho;cases ho
  ·rcases n.roots r z with z|z
   ·exact d z
   ·rw[z]at ho;cases ho
 |loc=>exact Rep.mv (a.mv n) h
 |any=>exact Rep.mv (a.M8 n) h
 |bor j=>show b.σ[j]?=_;rw[g j rfl];exact h
 |_=>exact h
theorem fW.on(b:Ok C c)(n:Ns c a)(d:a.σ=c.σ)(h:fW C e c k u v):fW C e a k u v:=h.VA b n λj _=>by rw[d]
theorem fW.from(n:Ns a b)(h:fW C b c k u v):fW C a c k u v:=by
 cases k with
 |own=>obtain⟨r,e,d,f⟩:=h;exact⟨r,e,n.none d,f⟩
 |_=>exact h
theorem aM.from(n:Ns a b)(h:aM C b c k u v):aM C a c k u v:=by
 cases k with
 |own=>obtain⟨r,e,d,f⟩:=h;exact⟨r,e,n.none d,f⟩
 |_=>exact h
def SK(C:Ct)(c:Cf):Kd->eH->Prop
 |.any=>PS C c.S
 |_=>c.S
noncomputable def kE:Kd->Kd
 |.any=>.any
 |_=>.loc
theorem Ok.rootOf(b:Ok C c){j:Nat}(h:∃k:Kd,k.root=b8/\c.st[j]?=a5 (a5 (k,u)))(e:c.σ[j]?=a5 (a5 v)):∃r,v=.ref r/\¬c.S r/\¬C.Lv r/\(C.H₀ r=bD\/C.IO r)/\cV C c.S c.H r u:=by
 obtain⟨k,hk,h⟩:=h;obtain⟨f,a,d⟩:=b.sl j _ _ h;rw[e]at a;cases a;exact d.rt hk
theorem aM.list(f:Ok C c)(h:aM C g c k (.lst us) v):∃a vs,v=.ref a/\Jn C.K c.H a vs/\aq C (SK C c k) c.H us vs:=by
 cases k with
 |own=>obtain⟨r,e,_,_,_,vs,b,d⟩:=h;exact⟨r,vs,e,Jn.of b,d⟩
 |bor j=>obtain⟨r,e,_,_,_,vs,b,d⟩:=f.rootOf h.1 h.2;exact⟨r,vs,e,Jn.of b,d⟩
 |io=>exact h.elim
 |IK=>exact h.elim
 |_=>obtain⟨a,vs,e,b,d⟩:=h;exact⟨a,vs,e,b.sq,d⟩
theorem aM.tuple(b:Ok C c)(h:aM C g c k (.tup us) v):∃a vs,v=.ref a/\JH C.K c.H a vs/\aq C (SK C c k) c.H us vs:=by
 cases k with
 |own=>obtain⟨r,e,_,_,_,h⟩:=h;exact h.elim
 |bor j=>obtain⟨r,e,_,_,_,h⟩:=b.rootOf h.1 h.2;exact h.elim
 |io=>exact h.elim
 |IK=>exact h.elim
 |_=>obtain⟨a,vs,e,d,f⟩:=h;exact⟨a,vs,e,d,f⟩
theorem aM.flat(b:Ok C c)(a:Jl u=b8)(h:aM C d c k u v):Rep C c.S c.H u v:=by
 cases k with
 |own=>obtain⟨r,e,_,_,_,h⟩:=h;cases u<;>simp[Jl]at a<;>exact h.elim
 |loc=>exact h
 |any=>exact Rep.Jl a h
 |bor j=>obtain⟨r,e,_,_,_,h⟩:=b.rootOf h.1 h.2;cases u<;>simp[Jl]at a<;>exact h.elim
 |_=>exact h.elim
theorem aM.int(a:Ok C c)(h:aM C b c k (.int i) v):v=.int i:=h.flat a rfl
theorem aM.str(a:Ok C c)(h:aM C b c k (.str x) v):v=.str x:=h.flat a rfl
theorem aM.bl(a:Ok C c)(h:aM C d c k (.bl b) v):v=.bl b:=h.flat a rfl
theorem aM.IU(a:Ok C c)(h:aM C b c k .IU v):v=.IU:=h.flat a rfl
theorem aM.item(h:Rep C (SK C c k) c.H u v):aM C a c (kE k) u v:=by
 cases k<;>exact h
def Kl(H:Hp):eH->Prop:=λa=>∃o,H a=a5 o
theorem Ok.yg(b:Ok C c):∀a,c.S a->Kl c.H a:=λa h=>(b.K5 a h).2
theorem Ok.Gq(b:Ok C c):∀a,PS C c.S a->Kl c.H a:=λa h=>by
 rcases h with h|h
 ·obtain⟨⟨o,e⟩,n⟩:=b.par a h;exact⟨o,b.same a o e n⟩
 ·exact b.yg a h
theorem aM.read(a:Ok C c)(h:aM C d c k u v):Rep C (Kl c.H) c.H u v:=by
 cases k with
 |own =>
  obtain⟨r,e,_,_,_,b⟩:=h;rw[e];obtain⟨o,ho,_⟩:=b.some;exact b.rep a.yg ⟨o,ho⟩
 |loc=>exact Rep.mv (.up a.yg) h
 |any=>exact Rep.mv (.up a.Gq) h
 |bor j =>
  obtain⟨r,e,_,_,_,b⟩:=a.rootOf h.1 h.2;rw[e];obtain⟨o,ho,_⟩:=b.some;exact b.rep a.yg ⟨o,ho⟩
 |_=>exact h.elim
theorem Ok.newList(a:Ok C c)(n:Nx b c)(h:c.H p=bD)(e:aq C c.S c.H us vs):
  Ok C {c with H:=upd c.H p (.lst vs)}/\Nx b {c with H:=upd c.H p (.lst vs)}/\aM C b {c with H:=upd c.H p (.lst vs)} .own (.lst us) (.ref p):=by
 obtain⟨f,d⟩:=a.lay (o:=.lst vs) h;obtain⟨j,g,k,l,i⟩:=a.k_ h;exact⟨f,n.trans d,p,rfl,n.none h,g,i,vs,ay,e.mv (a.mv d.toNs)⟩
theorem Ok.Ec(a:Ok C c)(n:Nx b c)(h:c.H p=bD)(e:aq C c.S c.H us vs):
  Ok C {c with H:=upd c.H p (.tup vs)}/\Nx b {c with H:=upd c.H p (.tup vs)}/\aM C b {c with H:=upd c.H p (.tup vs)} .loc (.tup us) (.ref p):=by
 obtain⟨f,d⟩:=a.lay (o:=.tup vs) h;exact⟨f,n.trans d,p,vs,rfl,JH.of ay,e.mv (a.mv d.toNs)⟩
end
inductive Ex(α:Type) where|ok (a:α)|exc (c:Str)
noncomputable def M(α:Type):=aw->Option (Ex α×aw)
namespace M
noncomputable def pure(a:α):M α:=λst=>a5 (.ok a,st)
noncomputable def fail:M α:=λ_=>bD
noncomputable def bind(m:M α)(f:α->M β):M β:=λst=>match m st with
 |none=>bD
 |some (.ok a,st')=>f a st'
 |some (.exc c,st')=>a5 (.exc c,st')
noncomputable def Jb(o:Option α):M α:=λst=>match o with
 |none=>bD
 |some a=>a5 (.ok a,st)
end M
noncomputable instance:Monad M:={pure:=M.pure,bind:=M.bind}
def W{α:Type}(m:M α)(st:aw)(Q:α->aw->Prop):Prop:=∃a st',m st=a5 (.ok a,st')/\Q a st'
section
theorem ao:W (pure a) st Q↔Q a st:=by
 constructor
 ·rintro⟨b,st',e,h⟩;cases e;exact h
 ·intro h;exact⟨a,st,rfl,h⟩
theorem ah:W (m >>= f) st Q↔W m st λa st'=>W (f a) st' Q:=by
 constructor
 ·rintro⟨b,st',e,h⟩;have d:M.bind m f st=a5 (.ok b,st'):=e;unfold M.bind at d;cases q:m st with
  |none=>rw[q]at d;cases d
  |some r =>
   obtain⟨r,s1⟩:=r;rw[q]at d;cases r with
   |ok a=>exact⟨a,s1,q,b,st',d,h⟩
   |exc c=>cases d
 ·rintro⟨a,s1,q,b,st',e,h⟩;refine⟨b,st',?_,h⟩;show M.bind m f st=_;unfold M.bind;rw[q];exact e
theorem bE:W (M.Jb o) st Q↔∃a,o=a5 a/\Q a st:=by
 cases o with
 |none=>exact⟨λ⟨_,_,e,_⟩=>(by cases e),λ⟨_,e,_⟩=>(by cases e)⟩
 |some a=>exact⟨λ⟨_,_,e,h⟩=>(by cases e;exact⟨a,rfl,h⟩),λ⟨_,e,h⟩=>(by cases e;exact⟨a,st,rfl,h⟩)⟩
theorem bu:W (M.fail:M α) st Q↔False:=⟨λ⟨_,_,e,_⟩=>(by cases e),MT⟩
theorem W.mono(h:W m st Q)(i:∀a s,Q a s->Q' a s):W m st Q':=let ⟨a,s,e,q⟩:=h;⟨a,s,e,i a s q⟩
end
inductive Rk where|add|sub|mul|Oo|mod|pow
deriving DecidableEq
inductive Qp where|eq|ne|lt|le|gt|ge|isin|I0|is|Oq
deriving DecidableEq
inductive Bf where|len|sorted|list|tuple|str|int|repr|max|min|all|any
deriving DecidableEq
inductive B2 where|Mw|KJ|sset|mn
deriving DecidableEq
inductive Mf where|split|join|partition|endswith
deriving DecidableEq
inductive K9 where|str|list|tuple|int|bool
deriving DecidableEq
inductive Ik where|seq|JT|X2|Ot|zip|rev
deriving DecidableEq
inductive E where
 |var (i:Nat)
 |cst (u:U)
 |Rm (x:Str) (u:U)
 |bin (op:Rk) (a b:E)
 |cmp (op:Qp) (a b:E)
 |Mx (o1 o2:Qp) (a b c:E)
 |and (es:List E)|or (es:List E)|not (a:E)
 |ite (c a b:E)
 |tup (es:List E)|lst (es:List E)|KN (r:Bool)
 |idx (a b:E)
 |M9 (a:E) (lo hi:List E)
 |bi (f:Bf) (es:List E)
 |M_ (f:B2) (es:List E)
 |NF (m:Mf) (a:E) (es:List E)
 |call (f:Str) (es:List E)
 |comp (k:Nat) (t:Bool) (ik:Ik) (src:List E) (cond:List E) (e:E)
 |neg (a:E)|bad|Lh (a:E) (T:K9)|fst (es:List E)|inD (neg:Bool) (a:E) (i:Nat)|Pd (i:Nat)|Lw (i:Nat) (k d:E)|Pe (i:Nat)|Ou (ln:Bool) (a b:E)
 |IT (f:Str) (es:List E) (is:List Nat)
 |pop (i:Nat)|Lx (i:Nat) (e:E)
 |J8 (a:E) (D:Str) (tb:List (Str×Bool))|M' (ix:Bool) (i:Nat) (b:Bool)
 |Pf (i:Nat)
inductive S where
 |set (i:Nat) (e:E)
 |Na (is:List Nat) (e:E)
 |put (i:Nat) (k v:E)
 |app (i:Nat) (e:E)|ext (i:Nat) (e:E)|bad|newD (i:Nat)|putD (i:Nat) (k v:E)|K_ (i:Nat) (k v:E)|aug (sub:Bool) (i:Nat) (k v:E)|Rn (i:Nat)
 |exp (e:E)
 |ret (e:E)|L0
 |ite (c:E) (a b:List S)
 |Ji (t:Bool) (is:List Nat) (ik:Ik) (src:List E) (body:List S)
 |NG (c:E) (body:List S)
 |brk|cnt|Ro
 |Mc (is:List Nat)
 |MQ (c:Str) (e:E)|tr (i:Nat) (f:Str) (es:List E) (c D:Str) (j:Nat) (k:Str)
 |My (f:Str) (es:List E)|MR (i:Nat) (c:List E) (f:Str) (es:List E) (g:Str) (Ks:List E) (x:Str) (cs:List Str) (j k:Nat)
noncomputable def isAny:Kd->Bool
 |.any=>b8
 |_=>cc
noncomputable def fw(k:Kd)(xs:List U):Bool:=!isAny k||cB xs
noncomputable def kT(k k':Kd):Kd:=if isAny k||isAny k' then .any else .loc
noncomputable def cut{α:Type}(xs:List α)(lo a:Option Int):List α:=(xs.drop (HT.KW xs.length 0 lo)).take (HT.KW xs.length xs.length a - HT.KW xs.length 0 lo)
noncomputable def yh:Kd×U->Kd×U->Option (Kd×U)
 |(_,.int i),(_,.int j)=>a5 (.loc,.int (i+j))
 |(_,.str x),(_,.str y)=>if x.length+y.length<=cL then a5 (.loc,.str (x++y)) else bD
 |(k,.lst xs),(k',.lst a)=>if xs.length+a.length<=cL/\fw k xs=b8/\fw k' a=b8 then a5 (.own,.lst (xs++a)) else bD
 |(k,.tup xs),(k',.tup a)=>if xs.length+a.length<=cL then a5 (kT k k',.tup (xs++a)) else bD
 |_,_=>bD
noncomputable def rT(f:Int->Int->Option Int):U->U->Option (Kd×U)
 |.int i,.int j=>(f i j).map λn=>(.loc,.int n)
 |_,_=>bD
noncomputable def Bb(i j:Int):Option Int:=if ((-(2 ^ 64)<i/\i<2 ^ 64)\/(-(2 ^ 64)<j/\j<2 ^ 64)) then a5 (i * j) else bD
noncomputable def Bc(i j:Int):Option Int:=if 0<j/\j<1073741824 then a5 (i / j) else bD
noncomputable def Bd(i j:Int):Option Int:=if 0<j then a5 (i % j) else bD
noncomputable def Be(i j:Int):Option Int:=if 0<=j/\j<=1000000/\i.natAbs<2 ^ 64 then a5 (i ^ j.toNat) else bD
noncomputable def L3(a:Rk)(x y:Kd×U):Option (Kd×U):=match a with
 |.add=>yh x y
 |.sub=>rT (λi j=>a5 (i - j)) x.2 y.2
 |.mul=>rT Bb x.2 y.2
 |.Oo=>rT Bc x.2 y.2
 |.mod=>rT Bd x.2 y.2
 |.pow=>rT Be x.2 y.2
mutual
noncomputable def Ko:Nat->U->Bool
 |_,.IM _ _=>cc
 |_,.exc _=>cc
 |0,.tup _=>cc
 |0,.lst _=>cc
 |n+1,.tup xs=>eL n xs
 |n+1,.lst xs=>eL n xs
 |_,.IU=>b8|_,.bl _=>b8|_,.int _=>b8|_,.str _=>b8
noncomputable def eL:Nat->List U->Bool
 |_,[]=>b8
 |n,u::us=>Ko n u&&eL n us
end
mutual
noncomputable def cE:U->U->Bool
 |.IU,.IU=>b8
 |.bl a,.bl b=>a==b
 |.bl a,.int b=>(if a then 1 else 0)==b
 |.int a,.bl b=>a==(if b then 1 else 0)
 |.int a,.int b=>a==b
 |.str a,.str b=>a==b
 |.tup xs,.tup c=>cW xs c
 |.lst xs,.lst c=>cW xs c
 |_,_=>cc
noncomputable def cW:List U->List U->Bool
 |[],[]=>b8
 |u::us,w::ws=>cE u w&&cW us ws
 |_,_=>cc
end
noncomputable def Ov(x:U)(a:List U):Option Bool:=if Ko 50 x=b8/\eL 50 a=b8 then a5 (a.any λy=>cE y x) else bD
noncomputable def strsOf:List U->Option (List Str)
 |[]=>a5 []
 |.str x::us=>(strsOf us).map (x::·)
 |_::_=>bD
noncomputable def Bg:U->U->Option Bool
 |x,.lst a=>Ov x a
 |x,.tup a=>Ov x a
 |.str x,.IM ks _=>a5 (cK (x∈ks))
 |_,_=>bD
noncomputable def dN:List Str->List U->Str->Option U
 |y::ks,u::us,x=>if y=x then a5 u else dN ks us x
 |_,_,_=>bD
noncomputable def dput(ks:List Str)(us:List U)(x:Str)(u:U):List Str×List U :=
 if x∈ks then(ks,(ks.zip us).map λp=>if p.1=x then u else p.2) else(ks++[x],us++[u])
noncomputable def m9:U->Bool
 |.IU=>b8
 |_=>cc
noncomputable def cM:Qp->U->U->Option Bool
 |.eq,a,b=>if Ko 50 a=b8/\Ko 50 b=b8 then a5 (cE a b) else bD
 |.ne,a,b=>if Ko 50 a=b8/\Ko 50 b=b8 then a5 (!cE a b) else bD
 |.lt,.int i,.int j=>a5 (cK (i<j))
 |.gt,.int i,.int j=>a5 (cK (j<i))
 |.ge,.int i,.int j=>a5 (cK (j<=i))
 |.isin,x,y=>Bg x y
 |.I0,x,y=>(Bg x y).map (!·)
 |.is,x,.IU=>a5 (m9 x)
 |.Oq,x,.IU=>a5 (!m9 x)
 |.is,.bl x,.bl y=>a5 (x==y)
 |.Oq,.bl x,.bl y=>a5 (!(x==y))
 |_,_,_=>bD
noncomputable def gO:List U->Option (List Bool)
 |[]=>a5 []
 |.bl x::us=>(gO us).map (x::·)
 |_::_=>bD
noncomputable def iH:Kd×U->U->Option (Kd×U)
 |(k,.lst xs),.int i=>(JP xs i).map λu=>(kE k,u)
 |(k,.tup xs),.int i=>(JP xs i).map λu=>(kE k,u)
 |(_,.str x),.int i=>if x.length<=cL then(JP x.cps.toList i).map λc=>(.loc,.str ⟨#[c]⟩) else bD
 |_,_=>bD
noncomputable def qq:Kd×U->Option Int->Option Int->Option (Kd×U)
 |(k,.lst xs),lo,a=>if fw k xs=b8 then a5 (.own,.lst (cut xs lo a)) else bD
 |(_,.str x),lo,a=>if x.length<=cL then a5 (.loc,.str (PySem.StrLaws.sliceText x lo a)) else bD
 |_,_,_=>bD
noncomputable def Ed:U->Option Nat
 |.lst xs=>a5 xs.length
 |.tup xs=>a5 xs.length
 |.str x=>if x.length<=cL then a5 x.length else bD
 |_=>bD
noncomputable def iI{β:Type}(f:Kd×U->Option β):List (Kd×U)->Option β
 |[x]=>f x
 |_=>bD
noncomputable def intsOf:List U->Option (List Int)
 |[]=>a5 []
 |.int x::us=>(intsOf us).map (x::·)
 |_::_=>bD
noncomputable def Ee:Kd×U->Option (Kd×U)
 |(_,.lst xs)=>(strsOf xs).bind λss=>if ss.length<64 then a5 (.own,.lst ((aB ss).map .str)) else bD
 |(_,.IM ks _)=>if ks.length<64 then a5 (.own,.lst ((aB ks).map .str)) else bD
 |(_,.tup xs)=>(strsOf xs).bind λss=>if ss.length<64 then a5 (.own,.lst ((aB ss).map .str)) else bD
 |_=>bD
noncomputable def Ef:Kd×U->Option (Kd×U)
 |(k,.lst xs)=>a5 (kE k,.tup xs)
 |(k,.tup xs)=>a5 (kE k,.tup xs)
 |_=>bD
noncomputable def Bh:Kd×U->Option (Kd×U)
 |(_,.int i)=>if i.natAbs.log2<1920 then a5 (.loc,.str (Rg i)) else bD
 |_=>bD
noncomputable def Eg:Kd×U->Option (Kd×U)
 |(_,.lst xs)=>(gO xs).map λbs=>(.loc,.bl (bs.all id))
 |_=>bD
noncomputable def KO(f:Bf)(rs:List (Kd×U)):Option (Kd×U):=match f with
 |.len=>iI (λx=>(Ed x.2).map λ(n:Nat)=>(Kd.loc,U.int (n:Int))) rs
 |.sorted=>iI Ee rs
 |.tuple=>iI Ef rs
 |.str=>iI Bh rs
 |.all=>iI Eg rs
 |_=>bD
noncomputable def iJ:U->Option (List Str)
 |.lst xs=>(strsOf xs).bind λss=>if ss.length+1<D6 then a5 (aK ss) else bD
 |.tup xs=>(strsOf xs).bind λss=>if ss.length+1<D6 then a5 (aK ss) else bD
 |_=>bD
noncomputable def Eh:Kd×U->Option (Kd×U)
 |(k,.lst xs)=>if fw k xs=b8 then a5 (.own,.lst xs.reverse) else bD
 |_=>bD
noncomputable def rU(f:B2)(rs:List (Kd×U)):Option (Kd×U):=match f with
 |.Mw=>bD
 |.KJ=>iI Eh rs
 |.sset=>iI (λx=>(iJ x.2).bind λss=>if ss.length<64 then a5 (.own,.lst ((aB ss).map .str)) else bD) rs
 |.mn=>bD
noncomputable def mE:Mf->U->List (Kd×U)->Option (Kd×U)
 |.join,.str a,[(_,.lst xs)]=>(strsOf xs).bind λss=>if þ a ss=b8 then a5 (.loc,.str (TY a ss)) else bD
 |_,_,_=>bD
noncomputable def Iw:Kd×U->Option (List (Kd×U))
 |(k,.lst xs)=>a5 (xs.map λu=>(kE k,u))
 |(k,.tup xs)=>a5 (xs.map λu=>(kE k,u))
 |_=>bD
noncomputable def yi:Kd×U->Option (List (Kd×U))
 |(_,.int n)=>if n<2 ^ 62/\-(2 ^ 62)<n then a5 ((hJ n.toNat).map λi:Nat=>(Kd.loc,U.int (0+(i:Int)))) else bD
 |_=>bD
noncomputable def Ei:Kd×U->Option (List (Kd×U))
 |(k,.lst xs)=>a5 (xs.zipIdx.map λp=>(kE k,.tup [.int p.2,p.1]))
 |(k,.tup xs)=>a5 (xs.zipIdx.map λp=>(kE k,.tup [.int p.2,p.1]))
 |_=>bD
noncomputable def Ej:Kd×U->Option (List (Kd×U))
 |(k,.lst xs)=>a5 (xs.reverse.map λu=>(kE k,u))
 |_=>bD
noncomputable def K'(a:Ik)(rs:List (Kd×U)):Option (List (Kd×U)):=match a with
 |.seq=>iI Iw rs
 |.JT=>iI yi rs
 |.Ot=>iI Ei rs
 |.rev=>iI Ej rs
 |_=>bD
noncomputable def Bi(ps:List (Str×Int)):List (Str×Int):=(jW (ps.map (·.1))).map λi=>ps.getD i (oT,0)
noncomputable def vV(p:Str×Int):U:=.tup [.str p.1,.int p.2]
noncomputable def yj:U->Option (Kd×U)
 |.IM ks us=>(intsOf us).bind λns=>if ks.length<64/\ks.Nodup/\ks.length=ns.length then a5 (.own,.lst ((Bi (ks.zip ns)).map vV)) else bD
 |_=>bD
noncomputable def vW(ln:Bool)(a b:List Str):Option (Kd×U):=if a.length<64/\b.length<64 then a5 (if ln=b8 then(.loc,.int ((a.filter λx=>cK (x∉b)).length:Nat)) else(.own,.lst ((aB (a.filter λx=>cK (x∉b))).map .str))) else bD
noncomputable def vX:U->Option Bool
 |.bl b=>a5 b
 |.lst xs=>a5 !xs.isEmpty
 |.tup xs=>a5 !xs.isEmpty
 |.str x=>if x.length<=cL then a5 ((x.length:Int) != 0) else bD
 |_=>bD
noncomputable def lift:Kd×U->M U
 |(.own,u)=>pure u
 |(.loc,u)=>pure u
 |(.any,u)=>if Jl u=b8 then pure u else M.fail
 |(.bor j,_)=>λst=>match st[j]? with
  |some (a5 (.own,u))=>a5 (.ok u,st.set j (a5 (.loc,u)))
  |_=>bD
 |(.io,_)=>M.fail
 |(.IK,_)=>M.fail
noncomputable def cX:List (Kd×U)->M (List U)
 |[]=>pure []
 |r::rs=>do let u <-lift r;let us <-cX rs;pure (u::us)
noncomputable def dB(i:Nat):Kd×U->M Unit
 |(.bor j,_)=>λst=>match st[j]? with
  |some (a5 (.own,u))=>a5 (.ok (),(st.set j (a5 (.loc,u))).set i (a5 (.loc,u)))
  |_=>bD
 |(.io,_)=>M.fail
 |(.IK,_)=>M.fail
 |(k,u)=>λst=>a5 (.ok (),st.set i (a5 (k,u)))
def bq:List (Kd×U)->aw->Prop
 |[],_=>True
 |(.bor j,u)::rs,st=>(∃k:Kd,k.root=b8/\st[j]?=a5 (a5 (k,u)))/\bq rs st
 |_::rs,st=>bq rs st
open Classical in
noncomputable def aC(rs:List (Kd×U)):M Unit:=λst=>if bq rs st then a5 (.ok (),st) else bD
abbrev Tab:=Str->List U->Option (Ex (Kd×U))
noncomputable def la(Γ:Tab)(f:Str)(us:List U):M (Kd×U):=λst=>match Γ f us with
 |some (.ok (.any,_))=>bD
 |none=>bD
 |some r=>a5 (r,st)
noncomputable def ib(rs:List (Kd×U))(p:Nat):Option Nat:=match rs[p]? with
 |some (.bor j,.lst us)=>if cB us=b8 then a5 j else bD
 |_=>bD
noncomputable def t_(a:List (Option Nat)):Kd×U->Bool
 |(.bor j,_)=>cK (a5 j∉a)
 |_=>b8
noncomputable def qr(rs:List (Kd×U))(is:List Nat):Bool:=is.all (λp=>(ib rs p).isSome)&&cK ((is.map (ib rs)).Nodup)&&(hJ rs.length).all λq=>cK (q∈is)||t_ (is.map (ib rs)) (rs.getD q (.loc,.IU))
noncomputable def gP(rs:List (Kd×U)):List Nat->List U->aw->Option aw
 |[],[],st=>a5 st
 |p::is,w::ws,st=>match ib rs p with
  |some j=>match w,st[j]? with
   |.lst us,a5 (a5 (k,_))=>gP rs is ws (st.set j (a5 (k,.lst us)))
   |_,_=>bD
  |none=>bD
 |_,_,_=>bD
noncomputable def TJ:Kd×U->Option (Kd×U×List U)
 |(.own,.tup (u::ws))=>a5 (.own,u,ws)
 |(.loc,.tup (u::ws))=>a5 (.loc,u,ws)
 |_=>bD
noncomputable def d0(st:aw):Kd×U->Kd×U
 |(.bor j,u)=>(.bor j,match st[j]? with|some (a5 (k,u'))=>if k.root=b8 then u' else u|_=>u)
 |r=>r
noncomputable def Bj(rs:List (Kd×U)):M (List (Kd×U)):=λst=>a5 (.ok (rs.map (d0 st)),st)
noncomputable def qt(Γ:Tab)(f:Str)(rs:List (Kd×U))(is:List Nat):M (Kd×U):=λst=>match Γ f (rs.map (·.2)) with
 |some (.ok r)=>match TJ r with
  |some (k,u,ws)=>if qr rs is=b8 then(match gP rs is ws st with|some st'=>a5 (.ok (k,u),st')|none=>bD) else bD
  |none=>bD
 |_=>bD
noncomputable def yk(i:Nat):M (Kd×U):=λst=>match st[i]? with
 |some (a5 (k,.lst us))=>if k.root=b8 then(match us[us.length - 1]? with|some u=>a5 (.ok (.loc,u),st.set i (a5 (k,.lst us.dropLast)))|none=>bD) else bD
 |_=>bD
noncomputable def vY(i:Nat):U->M (Kd×U)
 |.int j=>λst=>match st[i]? with
  |some (a5 (k,.lst us))=>if k.root=b8/\0<=j/\j<1000000 then(match us[j.toNat]? with|some u=>a5 (.ok (.loc,u),st.set i (a5 (k,.lst (us.eraseIdx j.toNat))))|none=>bD) else bD
  |_=>bD
 |_=>M.fail
noncomputable def dn(i:Nat):M (Kd×U):=λst=>match st[i]? with
 |some (a5 (.IK,_))=>bD
 |some (a5 (k,u))=>a5 (.ok (if k.root=b8 then .bor i else k,u),st)
 |_=>bD
noncomputable def iK(i:Nat):M (List Str×List U):=λst=>match st[i]? with
 |some (a5 (.IK,.IM ks us))=>a5 (.ok (ks,us),st)
 |_=>bD
noncomputable def jY(x:Kd×U):M Str:=match x.2 with
 |.str y=>pure y
 |_=>M.fail
noncomputable def TK(neg:Bool)(y:Str)(ks:List Str):Bool:=if neg=b8 then !cK (y∈ks) else cK (y∈ks)
noncomputable def yl(i:Nat):M (Kd×U):=λst=>match st[i]? with
 |some (a5 (.IK,u))=>a5 (.ok (.bor i,u),st.set i (a5 (.own,u)))
 |_=>dn i st
noncomputable def CQ(i:Nat):M Unit:=λst=>a5 (.ok (),st.set i (a5 (.IK,.IM [] [])))
noncomputable def lb(i:Nat)(y:Str):Kd×U->M Unit
 |(.own,.lst us)=>λst=>match st[i]? with
  |some (a5 (.IK,.IM ks vs))=>if y∉ks/\ks.length<cL then a5 (.ok (),st.set i (a5 (.IK,.IM (ks++[y]) (vs++[.lst us])))) else bD
  |_=>bD
 |_=>M.fail
noncomputable def jZ:List Str->List U->Str->U->List U
 |k::ks,v::vs,y,u=>if k=y then u::vs else v::jZ ks vs y u
 |_,vs,_,_=>vs
noncomputable def lh(i:Nat)(y:Str)(u:U):M Unit:=λst=>match st[i]? with
 |some (a5 (.IK,.IM ks vs))=>match dN ks vs y with
  |some (.lst xs)=>if xs.length<cL then a5 (.ok (),st.set i (a5 (.IK,.IM ks (jZ ks vs y (.lst (xs++[u])))))) else bD
  |_=>bD
 |_=>bD
noncomputable def TL:U->M Unit
 |.IM _ _=>pure ()
 |_=>M.fail
noncomputable def Bk(x:Kd×U)(y:Str)(u:U):Option (Kd×U):=match x with
 |(k,.IM ks us)=>a5 (match dN ks us y with|some v=>(kE k,v)|none=>(.loc,u))
 |_=>bD
noncomputable def qu(i:Nat):M (List U):=λst=>match st[i]? with
 |some (a5 (k,.lst us))=>if k.root=b8 then a5 (.ok us,st) else bD
 |_=>bD
noncomputable def vZ(x:Kd×U):M Int:=match x.2 with
 |.int j=>pure j
 |_=>M.fail
noncomputable def qv(us:List U)(j:Int):Option Int:=if 0<=j then(match us[j.toNat]? with|some (.int o)=>a5 o|_=>bD) else bD
noncomputable def v3(sub:Bool)(o w:Int):Int:=if sub=b8 then o - w else o+w
noncomputable def Iy:U->Option U
 |.lst us=>a5 (.lst us.reverse)
 |_=>bD
noncomputable def sets:List Nat->List (Kd×U)->M Unit
 |[],[]=>pure ()
 |i::is,r::rs=>do dB i r;sets is rs
 |_,_=>M.fail
noncomputable def dC(t:Bool)(is:List Nat)(r:Kd×U):M Unit:=match t,is,r with
 |false,[i],r=>dB i r
 |true,is,(k,.tup xs)=>sets is (xs.map λu=>(kE k,u))
 |_,_,_=>M.fail
noncomputable def inScope{α:Type}(k:Nat)(m:M α):M α:=λst=>match m (i5 k bD++st) with
 |none=>bD
 |some (r,st')=>a5 (r,st'.drop k)
noncomputable def b_(k:Nat)(t:Bool)(cond:M Bool)(elt:M (Kd×U))(src:List (Kd×U)):List (Kd×U)->List U->M (List U)
 |[],acc=>do aC src;pure acc
 |x::xs,acc=>do
  aC src
  let r <-inScope k (dC t (hJ k) x >>= λ_=>cond >>= λb=>if b=b8 then(elt >>= λr=>lift r >>= λu=>pure (a5 u)) else pure bD)
  match r with
  |some u=>if acc.length<cL then b_ k t cond elt src xs (acc++[u]) else M.fail
  |none=>b_ k t cond elt src xs acc
noncomputable def oS:U->K9->Option Bool
 |.str _,T=>a5 (cK (T=.str))
 |.int _,T=>a5 (cK (T=.int))
 |.bl _,.bool=>a5 b8
 |.bl _,.int=>a5 b8
 |.lst _,T=>a5 (cK (T=.list))
 |.tup _,T=>a5 (cK (T=.tuple))
 |_,_=>bD
noncomputable def qw:U->Str->Option Str
 |.str y,out=>if y.length<=cL/\(out++y).length<=cL then a5 (out++y) else bD
 |.int i,out=>if i.natAbs.log2<1920/\(out++(Rg i:Str)).length<=cL then a5 (out++(Rg i:Str)) else bD
 |_,_=>bD
noncomputable def Iz:Kd×U->Option (Kd×U)
 |(_,.int i)=>a5 (.loc,.int (-i))
 |_=>bD
noncomputable def Ek(x:Kd×U):M (Option Int):=match x.2 with
 |.int i=>pure (a5 i)
 |_=>M.fail
noncomputable def Nb:U->M Unit
 |.lst _=>pure ()
 |_=>M.fail
section
variable(Γ:Tab)
noncomputable def ym(i:Nat):M (Kd×U):=λst=>match st[i]? with
 |some (a5 (.loc,.str y))=>a5 (.ok (.own,.IM [y] [.bl b8]),st)
 |_=>bD
noncomputable def rV(a:Bool)(i:Nat)(b:Bool):M (Kd×U):=λst=>match st[i]? with
 |some (a5 (k,.lst us))=>if k.root=b8 then(match gO us with
  |some bs=>if a=b8 then(if b∈bs then a5 (.ok (.loc,.int (bs.idxOf b:Nat)),st) else bD) else a5 (.ok (.loc,.int (bs.count b:Nat)),st)
  |none=>bD) else bD
 |_=>bD
noncomputable def eW(a:List (Str×Bool)):U->Option Bool
 |.exc c=>a.lookup c
 |_=>bD
mutual
noncomputable def ev:E->M (Kd×U)
 |.var i=>dn i
 |.cst u=>pure (.loc,u)
 |.Rm _ u=>pure (.loc,u)
 |.bin g a b=>do
  let x <-ev a
  let y <-ev b
  aC [x,y]
  M.Jb (L3 g x y)
 |.cmp g a b=>do
  let x <-ev a
  let y <-ev b
  aC [x,y]
  let c <-M.Jb (cM g x.2 y.2)
  pure (.loc,.bl c)
 |.Mx _ _ _ _ _=>M.fail
 |.and es=>iL es
 |.or _=>M.fail
 |.not a=>do
  let x <-ev a
  match x.2 with
  |.bl c=>pure (.loc,.bl !c)
  |_=>M.fail
 |.ite c a b=>do
  let p <-Jh c
  if p=b8 then ev a else ev b
 |.tup es=>do
  let rs <-bp es
  aC rs
  let us <-cX rs
  if us.length<=cL then pure (.loc,.tup us) else M.fail
 |.lst es=>do
  let rs <-bp es
  aC rs
  let us <-cX rs
  if us.length<=cL then pure (.own,.lst us) else M.fail
 |.KN r=>pure (.own,.IM [] [])
 |.idx a b=>do
  let x <-ev a
  let y <-ev b
  aC [x,y]
  M.Jb (iH x y.2)
 |.M9 a lo j=>do
  let x <-ev a
  let l <-Ow lo
  let h <-Ow j
  aC [x]
  M.Jb (qq x l h)
 |.bi f es=>do
  let rs <-bp es
  aC rs
  M.Jb (KO f rs)
 |.M_ f es=>do
  let rs <-bp es
  aC rs
  M.Jb (rU f rs)
 |.NF m a es=>do
  let x <-ev a
  let rs <-bp es
  aC (x::rs)
  M.Jb (mE m x.2 rs)
 |.call f es=>do
  let rs <-bp es
  aC rs
  la Γ f (rs.map (·.2))
 |.comp k t n src cond e=>do
  let rs <-bp src
  aC rs
  let xs <-M.Jb (K' n rs)
  let us <-b_ k t (bf cond) (ev e) rs xs []
  pure (.own,.lst us)
 |.neg a=>do
  let x <-ev a
  M.Jb (Iz x)
 |.bad=>M.fail
 |.inD _ _ _=>M.fail
 |.Pd i=>yl i
 |.Lw i k d=>do
  let x <-dn i
  TL x.2
  let y <-ev k
  let y <-jY y
  let z <-ev d
  let u <-lift z
  let x <-dn i
  M.Jb (Bk x y u)
 |.Pe i=>do
  let x <-dn i
  M.Jb (yj x.2)
 |.IT f es is=>do
  let rs <-(bp es >>= Bj)
  aC rs
  qt Γ f rs is
 |.J8 a _ o=>do
  let x <-ev a
  let b <-M.Jb (eW o x.2)
  pure (.loc,.bl b)
 |.M' q i b=>rV q i b
 |.Pf i=>ym i
 |.pop i=>yk i
 |.Lx i e=>do
  let x <-dn i
  Nb x.2
  let y <-ev e
  vY i y.2
 |.Ou ln a b=>do
  let x <-ev a
  let v <-M.Jb (iJ x.2)
  let y <-ev b
  let w <-M.Jb (iJ y.2)
  M.Jb (vW ln v w)
 |.fst es=>do
  let s <-Nc es oT
  pure (.loc,.str s)
 |.Lh a T=>do
  let x <-ev a
  let b <-M.Jb (oS x.2 T)
  pure (.loc,.bl b)
noncomputable def Nc:List E->Str->M Str
 |[],out=>pure out
 |e::es,out=>do
  let x <-ev e
  let y <-M.Jb (qw x.2 out)
  Nc es y
noncomputable def bp:List E->M (List (Kd×U))
 |[]=>pure []
 |e::es=>do let r <-ev e;let rs <-bp es;pure (r::rs)
noncomputable def Ow:List E->M (Option Int)
 |[]=>pure bD
 |[e]=>do let x <-ev e;Ek x
 |_=>M.fail
noncomputable def iL:List E->M (Kd×U)
 |[]=>M.fail
 |[e]=>ev e
 |e::es=>do
  let x <-ev e
  match x.2 with
  |.bl b8=>iL es
  |.bl cc=>pure (.loc,.bl cc)
  |_=>M.fail
noncomputable def Jh:E->M Bool
 |.and es=>bf es
 |.or es=>jJ es
 |.not a=>do let b <-Jh a;pure !b
 |.cmp e a b=>do
  let x <-ev a
  let y <-ev b
  aC [x,y]
  M.Jb (cM e x.2 y.2)
 |.var i=>do let x <-dn i;M.Jb (vX x.2)
 |.bi f es=>do
  let rs <-bp es
  aC rs
  let r <-M.Jb (KO f rs)
  M.Jb (vX r.2)
 |.call f es=>do
  let rs <-bp es
  aC rs
  let r <-la Γ f (rs.map (·.2))
  M.Jb (vX r.2)
 |.Mx o1 o2 a b c=>do
  let x <-ev a
  let y <-ev b
  aC [x,y]
  let p <-M.Jb (cM o1 x.2 y.2)
  if p=b8 then do
   let z <-ev c
   aC [y,z]
   M.Jb (cM o2 y.2 z.2)
  else pure cc
 |.inD neg a i=>do
  let x <-ev a
  let y <-jY x
  let d <-iK i
  pure (TK neg y d.1)
 |.Lh a T=>do
  let x <-ev a
  M.Jb (oS x.2 T)
 |.J8 a _ g=>do
  let x <-ev a
  M.Jb (eW g x.2)
 |_=>M.fail
noncomputable def bf:List E->M Bool
 |[]=>pure b8
 |[e]=>Jh e
 |e::es=>do let b <-Jh e;if b=b8 then bf es else pure cc
noncomputable def jJ:List E->M Bool
 |[]=>pure cc
 |[e]=>Jh e
 |e::es=>do let b <-Jh e;if b=b8 then pure b8 else jJ es
end
inductive Fl where|nx|rt (k:Kd) (u:U)|bk|ct
noncomputable def retS:Kd×U->M Fl
 |(.own,u)=>pure (.rt .own u)
 |(.loc,u)=>pure (.rt .loc u)
 |(.any,u)=>if Jl u=b8 then pure (.rt .loc u) else pure (.rt .any u)
 |(.bor j,_)=>λst=>match st[j]? with
  |some (a5 (.own,u))=>a5 (.ok (.rt .own u),st.set j bD)
  |_=>bD
 |(.io,_)=>M.fail
 |(.IK,_)=>M.fail
noncomputable def forM(t:Bool)(is:List Nat)(body:M Fl)(src:List (Kd×U)):List (Kd×U)->M Fl
 |[]=>do aC src;pure .nx
 |x::xs=>do
  aC src
  dC t is x
  let f <-body
  match f with
  |.nx=>forM t is body src xs
  |.ct=>forM t is body src xs
  |.bk=>pure .nx
  |.rt k u=>pure (.rt k u)
noncomputable def gE(c:M Bool)(body:M Fl):Nat->M Fl
 |0=>M.fail
 |n+1=>do
  let b <-c
  if b=b8 then do
   let f <-body
   match f with
   |.nx=>gE c body n
   |.ct=>gE c body n
   |.bk=>pure .nx
   |.rt k u=>pure (.rt k u)
  else pure .nx
noncomputable def yn(Γ:Tab)(f:Str)(us:List U)(c:Str):M (Option (Kd×U)):=λst=>match Γ f us with
 |some (.ok (.own,u))=>a5 (.ok (a5 (.own,u)),st)
 |some (.ok (.loc,u))=>a5 (.ok (a5 (.loc,u)),st)
 |some (.exc a)=>if a=c then a5 (.ok bD,st) else bD
 |_=>bD
noncomputable def v5(i j:Nat)(k:Str):Option (Kd×U)->M Fl
 |some r=>do dB i r;pure .nx
 |none=>λst=>match st[j]? with
  |some bD=>if i≠j then(dB i (.loc,.tup [.str k,.bl b8]) >>= λ_=>pure .nx) st else bD
  |_=>bD
noncomputable def cP(Γ:Tab)(f:Str)(us:List U):M (Sum (Kd×U) Str):=λst=>match Γ f us with
 |some (.ok (.own,u))=>a5 (.ok (.inl (.own,u)),st)
 |some (.ok (.loc,u))=>a5 (.ok (.inl (.loc,u)),st)
 |some (.exc c)=>a5 (.ok (.inr c),st)
 |_=>bD
noncomputable def Bl:Sum (Kd×U) Str->M Fl
 |.inl _=>pure .nx
 |.inr c=>pure (.rt .io (.str c))
noncomputable def j3(a:List Str)(i j k:Nat):Sum (Kd×U) Str->M Fl
 |.inl r=>do dB i r;pure .nx
 |.inr c=>λst=>match st[j]? with
  |some bD=>if k≠j/\c∈a then(dB k (.loc,.exc c) >>= λ_=>pure .nx) st else bD
  |_=>bD
noncomputable def modS(i:Nat)(f:U->Option U):M Unit:=λst=>match st[i]? with
 |some (a5 (k,u))=>if k.root=b8 then match f u with
   |some u'=>a5 (.ok (),st.set i (a5 (k,u')))
   |none=>bD
  else bD
 |_=>bD
noncomputable def yo(u:U):U->Option U
 |.lst xs=>if xs.length<cL then a5 (.lst (xs++[u])) else bD
 |_=>bD
noncomputable def lj:Kd×U->U->Option U
 |(k,.lst a),.lst xs=>if xs.length+a.length<=cL/\fw k a=b8 then a5 (.lst (xs++a)) else bD
 |(k,.tup a),.lst xs=>if xs.length+a.length<=cL/\fw k a=b8 then a5 (.lst (xs++a)) else bD
 |_,_=>bD
noncomputable def d9(x u:U):U->Option U
 |.IM ks vs=>match x with
  |.str y=>if ks.length<cL then a5 (.IM (dput ks vs y u).1 (dput ks vs y u).2) else bD
  |_=>bD
 |.lst xs=>match x with
  |.int i=>(Mj xs.length i).map λj=>.lst (xs.set j u)
  |_=>bD
 |_=>bD
noncomputable def ua:List U->U->Option U
 |[u,x]=>d9 x u
 |_=>λ_=>bD
noncomputable def fuel:Nat:=1000000000000
mutual
noncomputable def Ly:S->Nat->Bool
 |.set i _,j=>cK (j≠i)
 |.Na is _,j=>cK (j∉is)
 |.ite _ a b,j=>Lz a j&&Lz b j
 |.Ji _ is _ _ body,j=>cK (j∉is)&&Lz body j
 |.NG _ body,j=>Lz body j
 |.put _ _ _,_=>b8
 |.app _ _,_=>b8
 |.ext _ _,_=>b8
 |.bad,_=>b8
 |.newD i,j=>cK (j≠i)
 |.putD _ _ _,_=>b8
 |.K_ _ _ _,_=>b8
 |.aug _ _ _ _,_=>b8
 |.Rn _,_=>b8
 |.exp _,_=>b8
 |.ret _,_=>b8
 |.L0,_=>b8
 |.brk,_=>b8
 |.cnt,_=>b8
 |.Ro,_=>b8
 |.Mc _,_=>b8
 |.MQ _ _,_=>b8
 |.tr i _ _ _ _ j _,n=>cK (n≠i)&&cK (n≠j)
 |.My _ _,_=>b8
 |.MR i _ _ _ _ _ _ _ j k,n=>cK (n≠i)&&cK (n≠k)&&cK (n≠j)
noncomputable def Lz:List S->Nat->Bool
 |[],_=>b8
 |s::ss,j=>Ly s j&&Lz ss j
end
noncomputable def ub(rs:List (Kd×U))(is:List Nat)(body:List S):Bool:=rs.all λr=>match r.1 with
 |.bor j=>cK (j∉is)&&Lz body j
 |_=>b8
mutual
noncomputable def exec:S->M Fl
 |.set i e=>do let r <-ev Γ e;dB i r;pure .nx
 |.Na is e=>do let r <-ev Γ e;dC b8 is r;pure .nx
 |.put i k v=>do
  let r <-ev Γ v
  let _ <-dn i
  let x <-ev Γ k
  let us <-cX [r,x]
  modS i (ua us)
  pure .nx
 |.app i e=>do
  let x <-dn i
  Nb x.2
  let r <-ev Γ e
  let u <-lift r
  modS i (yo u)
  pure .nx
 |.ext i e=>do
  let x <-dn i
  Nb x.2
  let r <-ev Γ e
  modS i (lj r)
  pure .nx
 |.bad=>M.fail
 |.newD i=>do CQ i;pure .nx
 |.putD i k v=>do
  let r <-ev Γ v
  let d <-iK i
  let x <-ev Γ k
  let y <-jY x
  lb i y r
  pure .nx
 |.K_ i k v=>do
  let _ <-iK i
  let x <-ev Γ k
  let y <-jY x
  let d <-iK i
  if y∈d.1 then do
   let r <-ev Γ v
   let u <-lift r
   lh i y u
   pure .nx
  else M.fail
 |.aug sub i k v=>do
  let _ <-qu i
  let y <-ev Γ k
  let j <-vZ y
  let us <-qu i
  let o <-M.Jb (qv us j)
  let z <-ev Γ v
  let w <-vZ z
  modS i (d9 (.int j) (.int (v3 sub o w)))
  pure .nx
 |.Rn i=>do
  modS i Iy
  pure .nx
 |.exp e=>do let _ <-ev Γ e;pure .nx
 |.ret e=>do let r <-ev Γ e;retS r
 |.L0=>pure (.rt .loc .IU)
 |.ite c a b=>do let p <-Jh Γ c;if p=b8 then execs a else execs b
 |.Ji t is h src body=>do
  let rs <-bp Γ src
  aC rs
  let xs <-M.Jb (K' h rs)
  if ub rs is body=b8 then forM t is (execs body) rs xs else M.fail
 |.NG c body=>gE (Jh Γ c) (execs body) fuel
 |.brk=>pure .bk
 |.cnt=>pure .ct
 |.Ro=>pure .nx
 |.Mc _=>M.fail
 |.MQ c e=>do let _ <-ev Γ e;pure (.rt .io (.str c))
 |.tr i f es c _ j k=>do
  let rs <-bp Γ es
  aC rs
  let r <-yn Γ f (rs.map (·.2)) c
  v5 i j k r
 |.My f es=>do
  let r <-(bp Γ es >>= λrs=>aC rs >>= λ_=>cP Γ f (rs.map (·.2)))
  Bl r
 |.MR i c f es g l _ m j k=>do
  let r <-(match c with
   |[c]=>Jh Γ c >>= λp=>if p=b8 then(bp Γ es >>= λrs=>aC rs >>= λ_=>cP Γ f (rs.map (·.2))) else(bp Γ l >>= λrs=>aC rs >>= λ_=>cP Γ g (rs.map (·.2)))
   |_=>bp Γ es >>= λrs=>aC rs >>= λ_=>cP Γ f (rs.map (·.2)))
  j3 m i j k r
noncomputable def execs:List S->M Fl
 |[]=>pure .nx
 |s::ss=>do
  let f <-exec s
  match f with
  |.nx=>execs ss
  |f=>pure f
end
end
structure Fn where
 name:Str
 np:Nat
 ns:Nat
 body:List S
noncomputable def start(us:List U)(n:Nat):aw:=us.map (λu=>a5 (if Jl u=b8 then Kd.loc else Kd.any,u))++i5 (n - us.length) bD
noncomputable def cu(Γ:Tab)(fn:Fn)(us:List U):Option (Ex (Kd×U)):=if us.length=fn.np then match execs Γ fn.body (start us fn.ns) with
  |some (.ok (.rt .own u),_)=>a5 (.ok (.own,u))
  |some (.ok (.rt .loc u),_)=>a5 (.ok (.loc,u))
  |some (.ok (.rt .any u),_)=>a5 (.ok (.any,u))
  |some (.ok .nx,_)=>a5 (.ok (.loc,.IU))
  |some (.ok (.rt .io (.str c)),_)=>a5 (.exc c)
  |_=>bD
 else bD
noncomputable def cY(is:List Nat)(us:List U)(n:Nat):aw:=(us.zipIdx.map λp=>a5 (if p.2∈is then Kd.io else if Jl p.1=b8 then Kd.loc else Kd.any,p.1))++i5 (n - us.length) bD
noncomputable def Ox:List Nat->aw->Option (List U)
 |[],_=>a5 []
 |i::is,st=>match st[i]? with
  |some (a5 (.io,u))=>(Ox is st).map (u::·)
  |_=>bD
noncomputable def Rp:Fl->Option (Kd×U)
 |.rt .own u=>a5 (.own,u)
 |.rt .loc u=>a5 (.loc,u)
 |.nx=>a5 (.loc,.IU)
 |_=>bD
noncomputable def gF(Γ:Tab)(fn:Fn)(is:List Nat)(body:List S)(us:List U):Option (Ex (Kd×U)):=if us.length=fn.np then match execs Γ body (cY is us fn.ns) with
  |some (.ok f,st)=>(Rp f).bind λr=>(Ox is st).map λws=>.ok (r.1,.tup (r.2::ws))
  |_=>bD
 else bD
noncomputable def Fn.io(fn:Fn):Option (List Nat×List S):=match fn.body with
 |.Mc is::body=>a5 (is,body)
 |_=>bD
noncomputable def jo(Γ:Tab)(fn:Fn)(us:List U):Option (Ex (Kd×U)):=match fn.io with
 |some (is,body)=>gF Γ fn is body us
 |none=>cu Γ fn us
noncomputable def I_(P:List Fn):Nat->Tab
 |0=>λ_ _=>bD
 |d+1=>λf us=>match P.find? λfn=>cK (fn.name=f) with
  |some fn=>jo (I_ P d) fn us
  |none=>bD
end TM
namespace TM
open PySem L2
section
variable{X:Cx}{pins:List (eH×Obj)}{σ:St}{H:Hp}{s:d8}{C:Ct}{S:eH->Prop}
theorem uc(I:Inv X pins σ H s)(h:Jn X.K H a vs):∃b:List d3,Vals vs b/\s.heap.IsList a b.toArray/\vs.length<=cL:=by
 obtain⟨b,r,p,z⟩:=I.list h;exact⟨b,r,p.isList,z⟩
inductive JE(s:d8):Nat->U->d3->Prop where
 |IU {n:Nat}:JE s n .IU .none
 |bl {n:Nat} {b:Bool}:JE s n (.bl b) (.bool b)
 |int {n:Nat} {i:Int} {t:Tok}:JE s n (.int i) (.int i t)
 |str {n:Nat} {y:Str} {t:Tok}:JE s n (.str y) (.str y t)
 |tup {n:Nat} {us:List U} {A':List d3} {a:eH}:us.length=A'.length->(∀j (hj:j<A'.length),JE s n (us.getD j .IU) A'[j])->cW us us=b8->s.heap.IsTuple a A'.toArray->JE s (n+1) (.tup us) (.ref a)
 |lst {n:Nat} {us:List U} {A':List d3} {a:eH}:us.length=A'.length->(∀j (hj:j<A'.length),JE s n (us.getD j .IU) A'[j])->cW us us=b8->s.heap.IsList a A'.toArray->JE s (n+1) (.lst us) (.ref a)
theorem JE.self(h:JE s n u x):cE u u=b8:=by
 cases h<;>first|assumption|simp[cE]
theorem JE.v7(f:∀u v x,Ko n u=b8->Rep C S H u v->RelV v x->JE s n u x):∀{us:List U}{vs:List V}{a:List d3},eL n us=b8->aq C S H us vs->Vals vs a->us.length=a.length/\(∀j (b:j<a.length),JE s n (us.getD j .IU) a[j])/\cW us us=b8
 |[],_,_,_,h,r=>by cases h;cases r;exact⟨rfl,λj b=>(nomatch b),rfl⟩
 |u::us,_,_,e,h,r=>by
  obtain⟨v,vs,rfl,c,g⟩:=h;simp only[eL,cb]at e;cases r with
  |cons d i =>
   obtain⟨l,k,y⟩:=JE.v7 f e.2 g i;refine⟨by simp[l],λj b=>?_,by rw[cW,(f _ _ _ e.1 c d).self,y];rfl⟩;cases j with
   |zero=>exact f _ _ _ e.1 c d
   |succ j=>exact k j (by simpa using b)
theorem JE.of(I:Inv X pins σ H s)(d:C.K=X.K):∀(n:Nat) (u:U) (v:V) (x:d3),Ko n u=b8->Rep C S H u v->RelV v x->JE s n u x:=by
 intro n;induction n with
 |zero=>intro u v x e h r;cases u<;>first|(simp[Ko]at e;done)|(simp only[Rep]at h;subst h;first|(cases r;constructor)|(obtain⟨t,rfl⟩:=r;constructor))
 |succ n f =>
  intro u v x e h r;cases u with
  |tup us =>
   obtain⟨a,vs,rfl,b,c⟩:=h;cases r;obtain⟨g,rv,p,_⟩:=I.tuple (d▸b);obtain⟨l,k,y⟩:=JE.v7 f (by simpa[Ko] using e) c rv;exact .tup l k y p
  |lst us =>
   obtain⟨a,vs,rfl,b,c⟩:=h;cases r;obtain⟨g,rv,p,_⟩:=uc I (d▸b.sq);obtain⟨l,k,y⟩:=JE.v7 f (by simpa[Ko] using e) c rv;exact .lst l k y p
  |_=>first|(simp[Ko]at e;done)|(simp only[Rep]at h;subst h;first|(cases r;constructor)|(obtain⟨t,rfl⟩:=r;constructor))
theorem JE.inj:∀{n:Nat}{u w:U}{x:d3},JE s n u x->JE s n w x->u=w:=by
 intro n;induction n with
 |zero=>intro u w x h h';cases h<;>cases h'<;>rfl
 |succ n t =>
  have go:∀{us ws:List U} {c its':List d3} {a:eH} {o i:Obj} {m q:Nat},us.length=c.length->(∀j (v:j<c.length),JE s n (us.getD j .IU) c[j])->ws.length=its'.length->(∀j (v:j<its'.length),JE s n (ws.getD j .IU) its'[j])->s.heap.get? a=a5 o->o.data=.seq c.toArray m->s.heap.get? a=a5 i->i.data=.seq its'.toArray q->us=ws:=by
   intro us ws c its' a o i m q l k f k' e d g d';rw[e]at g;cases g;rw[d]at d';injection d' with z _
   have:c=its':=by simpa using Ŋ X5 z
   subst this;refine Md ⋯ λj A B=>?_;have:=t (k j ⋯) (k' j ⋯);simpa[A,B] using this
  intro u w x h h';cases h with
  |tup l k y p =>
   cases h' with
   |tup f k' r b=>obtain⟨o,e,_,m,d⟩:=p;obtain⟨i,g,_,q,d'⟩:=b;rw[go l k f k' e d g d']
   |lst f k' r b=>exact absurd rfl (X4 b p)
  |lst l k y p =>
   cases h' with
   |lst f k' r b=>obtain⟨o,e,_,m,d⟩:=p;obtain⟨i,g,_,q,d'⟩:=b;rw[go l k f k' e d g d']
   |tup f k' r b=>exact absurd rfl (X4 p b)
  |_=>cases h';rfl
theorem jq:∀{us ws:List U},us.length≠ws.length->cW us ws=cc
 |[],[],h=>absurd rfl h
 |[],_::_,_=>rfl
 |_::_,[],_=>rfl
 |u::us,w::ws,h=>by
  rw[cW,jq (us:=us) (ws:=ws) (λe=>h (by simp[e])),TQ]
theorem fX:∀{us ws:List U},us.length=ws.length->cW us ws=(hJ us.length).all λj=>cE (us.getD j .IU) (ws.getD j .IU)
 |[],[],_=>rfl
 |[],_::_,h=>by simp at h
 |_::_,[],h=>by simp at h
 |u::us,w::ws,h=>by
  have h':us.length=ws.length:=by simpa using h
  rw[cW,fX h',ke,List.range_succ_eq_map,ą,YN];rfl
theorem Gr{a its':List d3}(c:us.length=a.length)(d:ws.length=its'.length):cW us ws=((hJ (min a.toArray.size its'.toArray.size)).all (λj=>cE (us.getD j .IU) (ws.getD j .IU))&&a.toArray.size==its'.toArray.size):=by
 simp only[hH];by_cases b:us.length=ws.length
 ·rw[fX b,show min a.length its'.length=us.length by lia,show(a.length==its'.length)=b8 by simp;lia,Ć]
 ·rw[jq b,show(a.length==its'.length)=cc by simp;lia,TQ]
theorem ud(b:JE s n u y)(h:ZN A s y x k)(hs:y=x->k=b8):SF A s y x k:=λprog w E Q a=>by
 unfold eqBool;refine t6 ?_;refine wpAny_ite_split (λc=>?_) (λ_=>?_)
 ·rw[hs (eq_of_beq c)]at a;exact b6 (ON (df a))
 ·cases b<;>exact b6 (h prog w E _ (L7 a))
theorem TN(r:∀m,m+1=n->∀{u w:U}{x f:d3}{A:Nm},JE s m u x->JE s m w f->A.units+m<LD->SF A s x f (cE u w))(h:JE s n u x)(h':JE s n w f)(v:A.units+n<LD):ZN A s x f (cE u w)/\ý A s x f (!cE u w):=by
 have a:A.units<LD:=by lia
 have go:∀{m:Nat} {us ws:List U} {g its':List d3},m+1=n->(∀j (t:j<g.length),JE s m (us.getD j .IU) g[j])->(∀j (t:j<its'.length),JE s m (ws.getD j .IU) its'[j])->∀j (i:j<g.toArray.size) (o:j<its'.toArray.size),SF A.in1 s g.toArray[j] its'.toArray[j] (cE (us.getD j .IU) (ws.getD j .IU)):=λ{m us ws g its'} e k k' j i o=>r m e (k j i) (k' j o) (by show A.units+1+m < _;lia);cases h with
 |IU =>
  cases h' with
  |IU=>exact⟨.none_none,.none_none⟩
  |bl=>exact⟨.none_bool _,.none_bool _⟩
  |int=>exact⟨.none_int _ _,.none_int _ _⟩
  |str=>exact⟨.none_str _ _,.none_str _ _⟩
  |tup c k' d b=>exact⟨.none_tuple b a,.none_tuple b a⟩
  |lst c k' d b=>exact⟨.none_list b a,.none_list b a⟩
 |bl =>
  cases h' with
  |IU=>exact⟨.bool_none _,.bool_none _⟩
  |bl=>exact⟨.bool_bool _ _,.bool_bool _ _⟩
  |int=>exact⟨.bool_int _ _ _,.bool_int _ _ _⟩
  |str=>exact⟨.bool_str _ _ _,.bool_str _ _ _⟩
  |tup c k' d b=>exact⟨.bool_tuple _ b a,.bool_tuple _ b a⟩
  |lst c k' d b=>exact⟨.bool_list _ b a,.bool_list _ b a⟩
 |int =>
  cases h' with
  |IU=>exact⟨.int_none _ _,.int_none _ _⟩
  |bl=>exact⟨.int_bool _ _ _,.int_bool _ _ _⟩
  |int=>exact⟨.int_int _ _ _ _,.int_int _ _ _ _⟩
  |str=>exact⟨.int_str _ _ _ _,.int_str _ _ _ _⟩
  |tup c k' d b=>exact⟨.int_tuple _ _ b a,.int_tuple _ _ b a⟩
  |lst c k' d b=>exact⟨.int_list _ _ b a,.int_list _ _ b a⟩
 |str =>
  cases h' with
  |IU=>exact⟨.str_none _ _,.str_none _ _⟩
  |bl=>exact⟨.str_bool _ _ _,.str_bool _ _ _⟩
  |int=>exact⟨.str_int _ _ _ _,.str_int _ _ _ _⟩
  |str=>exact⟨.str_str _ _ _ _,.str_str _ _ _ _⟩
  |tup c k' d b=>exact⟨.str_tuple _ _ b a,.str_tuple _ _ b a⟩
  |lst c k' d b=>exact⟨.str_list _ _ b a,.str_list _ _ b a⟩
 |tup l k y p =>
  cases h' with
  |IU=>exact⟨.tuple_none p a,.tuple_none p a⟩
  |bl=>exact⟨.tuple_bool _ p a,.tuple_bool _ p a⟩
  |int=>exact⟨.tuple_int _ _ p a,.tuple_int _ _ p a⟩
  |str=>exact⟨.tuple_str _ _ p a,.tuple_str _ _ p a⟩
  |tup c k' d b=>rw[show cE (.tup _) (.tup _)=_ from Gr l c];exact⟨.tuples p b a (go rfl k k'),.tuples p b a (go rfl k k')⟩
  |lst c k' d b=>exact⟨.tuple_list p b a,.tuple_list p b a⟩
 |lst l k y p =>
  cases h' with
  |IU=>exact⟨.list_none p a,.list_none p a⟩
  |bl=>exact⟨.list_bool _ p a,.list_bool _ p a⟩
  |int=>exact⟨.list_int _ _ p a,.list_int _ _ p a⟩
  |str=>exact⟨.list_str _ _ p a,.list_str _ _ p a⟩
  |tup c k' d b=>exact⟨.list_tuple p b a,.list_tuple p b a⟩
  |lst c k' d b =>
   rename_i us _ _ ws _ _;by_cases q:us.length=ws.length
   ·rw[show cE (.lst us) (.lst ws)=_ from fX q,l,<-hH];exact⟨.lists p b (by simp;lia) a (go rfl k k'),.lists p b (by simp;lia) a (go rfl k k')⟩
   ·rw[show cE (.lst us) (.lst ws)=cc from jq q];exact⟨.lists_lengths p b (by simp;lia) a,.lists_lengths p b (by simp;lia) a⟩
theorem Gu:∀{n:Nat}{u w:U}{x a:d3}{A:Nm},JE s n u x->JE s n w a->A.units+n<LD->SF A s x a (cE u w):=by
 intro n;induction n with
 |zero=>intro u w x a A h h' b;exact ud h (TN (λm e=>by cases e) h h' b).1 λe=>by subst e;rw[h.inj h'];exact h'.self
 |succ n c=>intro u w x a A h h' b;exact ud h (TN (λm e=>by cases e;exact c) h h' b).1 λe=>by subst e;rw[h.inj h'];exact h'.self
theorem Gv(h:JE s n u x)(h':JE s n w a)(b:A.units+n<LD):ZN A s x a (cE u w)/\ý A s x a (!cE u w):=TN (λm e=>by cases e;exact Gu) h h' b
end
end TM
namespace TM
open PySem L2 PyProof.Rows
def IV(C:Ct)(m:M (Kd×U)):TE:=λσ H Q=>∃a:Cf,a.σ=σ/\a.H=H/\Ok C a/\W m a.st λr st'=>∀c v,c.σ=σ->c.st=st'->Ok C c->Nx a c->aM C a c r.1 r.2 v->Q v c.H
def J9(C:Ct)(m:M Bool):TT:=λσ H Q=>∃a:Cf,a.σ=σ/\a.H=H/\Ok C a/\W m a.st λb st'=>∀c,c.σ=σ->c.st=st'->Ok C c->Nx a c->Q b c.H
def cQ(C:Ct)(a c:Cf):List (Kd×U)->List V->Prop
 |[],vs=>vs=[]
 |r::rs,vs=>∃v t,vs=v::t/\fW C a c r.1 r.2 v/\cQ C a c rs t/\(r.1=.own->∀(i:Nat) b d,rs[i]?=a5 b->t[i]?=a5 d->b.1=.own->d≠v)
def J4(C:Ct)(m:M (List (Kd×U))):TA:=λσ H Q=>∃a:Cf,a.σ=σ/\a.H=H/\Ok C a/\W m a.st λrs st'=>∀c vs,c.σ=σ->c.st=st'->Ok C c->Nx a c->cQ C a c rs vs->Q vs c.H
section
theorem PE.weak(h:PE X e t)(i:∀σ H Q,t' σ H Q->t σ H Q):PE X e t':=λa s σ H Q I q=>h a s σ H Q I (i σ H Q q)
theorem PT.weak(h:PT X e t)(i:∀σ H Q,t' σ H Q->t σ H Q):PT X e t':=λa s σ H Q I q=>h a s σ H Q I (i σ H Q q)
theorem cG{st:aw}:W (aC rs) st Q↔bq rs st/\Q () st:=by
 constructor
 ·rintro⟨a,st',e,h⟩;unfold aC at e;split at e
  ·cases e;exact⟨by assumption,h⟩
  ·cases e
 ·rintro⟨b,c⟩;exact⟨(),st,by unfold aC;rw[ņ b],c⟩
theorem gr{st:aw}:bq (r::rs) st↔bq [r] st/\bq rs st:=by
 obtain⟨k,u⟩:=r;cases k<;>simp[bq]
theorem fW.t(h:fW C a c k u v)(s:bq [(k,u)] c.st):aM C a c k u v:=by
 cases k with
 |bor j=>exact⟨s.1,h⟩
 |_=>exact h
structure Qq(C:Ct)(c0 c:Cf)(x y:Kd×U)(vx vy:V):Prop where
 hσ:c.σ=c0.σ
 ok:Ok C c
 nx:Nx c0 c
 rx:aM C c0 c x.1 x.2 vx
 ry:aM C c0 c y.1 y.2 vy
 ne:x.1=.own->y.1=.own->vy≠vx
theorem oU(h:fW C j b k u v)(h':fW C b c k' u' d):k=.own->k'=.own->d≠v:=by
 rintro rfl rfl e;obtain⟨r,f,_,_,_,g⟩:=h;obtain⟨l,i,a,_⟩:=h';obtain⟨o,ho,_⟩:=g.some;subst f;rw[i]at e;cases e;rw[ho]at a;cases a
theorem two{k:Kd×U->Kd×U->M β}{Post:β->aw->Prop}{f:d3->d3->Sem α}{Q':d3->d3->α->d8->Prop}(O:PE X a (IV C Q))(T:PE X b (IV C B))(I:Inv X e d.σ d.H s)(Y:Ok C d)
  (h:W (Q >>= λx=>B >>= λy=>aC [x,y] >>= λ_=>k x y) d.st Post)
  (hf:∀x y c i l v u s2,Qq C d c x y i l->Inv X e c.σ c.H s2->RelV i v->RelV l u->W (k x y) c.st Post->d6 (ez X.prog X.w) X.A (f v u) (Q' v u) X.xe s2) :
  d6 (ez X.prog X.w) X.A (ve a X.env) (λv s₁=>d6 (ez X.prog X.w) X.A (ve b X.env) (λu s₂=>d6 (ez X.prog X.w) X.A (f v u) (Q' v u) X.xe s₂) X.xe s₁) X.xe s:=by
 rw[ah]at h;refine IX (O e s d.σ d.H (λi D=>∃x g,g.H=D/\g.σ=d.σ/\Ok C g/\Nx d g/\aM C d g x.1 x.2 i/\W (B >>= λy=>aC [x,y] >>= λ_=>k x y) g.st Post) I ⟨d,rfl,rfl,Y,h.mono λx st1 o g i p e2 q r z=>⟨x,g,rfl,p,q,r,z,by rw[e2];exact o⟩⟩) ?_;rintro v s1 ⟨i,D,I1,rv,x,g,rfl,p,q,r,z,o⟩;rw[ah]at o;refine IX (T e s1 d.σ g.H (λl G=>∃y j,j.H=G/\Qq C d j x y i l/\W (k x y) j.st Post) I1 ⟨g,p,rfl,q,o.mono λy st2 m j l J e4 Jj L N=>?_⟩) ?_
 ·rw[ah,cG]at m;subst e4;rw[gr]at m;exact⟨y,j,rfl,⟨J,Jj,r.trans L,(z.w.on q L (J.trans p.symm)).t m.1.1,(N.from r),oU z.w N.w⟩,m.2⟩
 ·rintro u s2 ⟨l,G,I2,ru,y,j,rfl,n,m⟩;have hs:j.σ=d.σ:=n.hσ;exact hf x y j i l v u s2 n (by rw[hs];exact I2) rv ru m
structure LA(C:Ct)(c0 c:Cf)(x:Kd×U)(vx:V):Prop where
 hσ:c.σ=c0.σ
 ok:Ok C c
 nx:Nx c0 c
 rx:aM C c0 c x.1 x.2 vx
theorem one{k:Kd×U->M β}{Post:β->aw->Prop}{f:d3->Sem α}{Q':α->d8->Prop}(m:PE X a (IV C n))(I:Inv X b d.σ d.H s)(o:Ok C d)
  (h:W (n >>= λx=>k x) d.st Post)
  (p:∀x c e v s2,LA C d c x e->Inv X b c.σ c.H s2->RelV e v->W (k x) c.st Post->d6 (ez X.prog X.w) X.A (f v) Q' X.xe s2) :
  d6 (ez X.prog X.w) X.A (ve a X.env) (λv q=>d6 (ez X.prog X.w) X.A (f v) Q' X.xe q) X.xe s:=by
 rw[ah]at h;refine IX (m b s d.σ d.H (λe j=>∃x g,g.H=j/\LA C d g x e/\W (k x) g.st Post) I ⟨d,rfl,rfl,o,h.mono λx st1 i g e r t u y z=>⟨x,g,rfl,⟨r,u,y,z⟩,by rw[t];exact i⟩⟩) ?_;rintro v s1 ⟨e,j,B,rv,x,g,rfl,l,i⟩;exact p x g e v s1 l (by rw[l.hσ];exact B) rv i
def bY(C:Ct)(a:Cf)(Q:VK)(r:Kd×U)(st':aw):Prop:=∀c v,c.σ=a.σ->c.st=st'->Ok C c->Nx a c->aM C a c r.1 r.2 v->Q v c.H
section
theorem bY.flat(h:bY C a Q (.loc,u) c.st)(b:c.σ=a.σ)(d:Ok C c)(n:Nx a c)(r:Rep C c.S c.H u v):Q v c.H:=h c v b rfl d n r
theorem bY.list(h:bY C a Q (.own,.lst us) c.st)(b:c.σ=a.σ)(d:Ok C c)(n:Nx a c)(r:aq C c.S c.H us vs)(p:eH)(e:c.H p=bD):Q (.ref p) (upd c.H p (.lst vs)):=by
 obtain⟨f,g,i⟩:=d.newList n e r;exact h {c with H:=upd c.H p (.lst vs)} _ b rfl f g i
theorem bY.tup(h:bY C a Q (.loc,.tup us) c.st)(b:c.σ=a.σ)(d:Ok C c)(n:Nx a c)(r:aq C c.S c.H us vs)(p:eH)(e:c.H p=bD):Q (.ref p) (upd c.H p (.tup vs)):=by
 obtain⟨f,g,i⟩:=d.Ec n e r;exact h {c with H:=upd c.H p (.tup vs)} _ b rfl f g i
theorem bY.tupK(h:bY C d Q (kE k,.tup us) c.st)(e:c.σ=d.σ)(a:Ok C c)(n:Nx d c)(r:aq C (SK C c k) c.H us vs)(p:eH)(f:c.H p=bD):Q (.ref p) (upd c.H p (.tup vs)):=by
 obtain⟨g,b⟩:=a.lay (o:=.tup vs) f;refine h {c with H:=upd c.H p (.tup vs)} _ e rfl g (n.trans b) (aM.item ?_);cases k<;>exact⟨p,vs,rfl,JH.of ay,by first|exact r.mv (a.M8 b)|exact r.mv (a.mv b)⟩
theorem eX(h:fw k us=b8)(r:aq C (SK C c k) c.H us vs):aq C c.S c.H us vs:=by
 cases k with
 |any=>exact r.Jl (by simpa[fw,isAny] using h)
 |_=>exact r
end
theorem El(k k':Kd):∀a,SK C c k a->SK C c (kT k k') a:=by
 intro a h;cases k<;>cases k'<;>first|exact h|exact .inr h
theorem Bm(k k':Kd):∀a,SK C c k' a->SK C c (kT k k') a:=by
 intro a h;cases k<;>cases k'<;>first|exact h|exact .inr h
theorem Gw(k k':Kd):kE (kT k k')=kT k k':=by cases k<;>cases k'<;>rfl
theorem Bn:Kr X (OO .Add) (λx y H Q=>∃l b xs c,x=.ref l/\y=.ref b/\Jn X.K H l xs/\Jn X.K H b c/\xs.length+c.length<=cL/\∀p,H p=bD->Q (.ref p) (upd H p (.lst (xs++c)))):=by
 intro f s σ H x y v u Q I o t h;obtain⟨l,b,xs,c,rfl,rfl,w,A,hz,q⟩:=h;cases o;cases t;obtain⟨d,r,B,z⟩:=I.list w;obtain⟨e,g,C,O⟩:=I.list A;have hl:=r.length;have T:=g.length;obtain⟨⟨cls,dd,data,D⟩,ho,i,n,j⟩:=B.isList;obtain⟨⟨Y,G,data2,J⟩,k,m,L,a⟩:=C.isList;simp only at i j m a;subst i j m a;refine Wq ⟨_,ho,rfl⟩ ⟨_,k,rfl⟩ noFill_list_add seq_list_add PySem.F.slot_list_add PySem.F.entry_list_add (PySem.F.args_list_add_2 _ _)
   (list_addW l b d.toArray e.toArray n L dd G D J (by rw[hH,hH];lia)) ⟨ho,k,?_⟩
 have N:d.toArray++e.toArray=(d++e).toArray:=by simp
 rw[N];exact⟨.ref _,_,I.Il (t':=s.toks) (r.append g) (by rw[i0];lia),rfl,q _ I.fresh⟩
end
section
variable{X:Cx}{C:Ct}{pins:List (eH×Obj)}{s:d8}{c0 c:Cf}{Q:VK}
theorem yp:Kr X (OO .Add) (λx y H Q=>∃a b e,x=.ref a/\y=.ref b/\JH X.K H a []/\JH X.K H b e/\Q (.ref b) H):=by
 intro pins s σ H x y v u Q I k l h;obtain⟨a,b,e,rfl,rfl,m,o,q⟩:=h;cases k;cases l;obtain⟨D,p,r,_⟩:=I.tuple m;obtain⟨t,G,p2,_⟩:=I.tuple o;cases p;obtain⟨⟨cls,dd,data,w⟩,ho,f,n,g⟩:=id r;obtain⟨⟨J,z,data2,A⟩,i,j,B,d⟩:=id p2;simp only at f g j d;subst f g j d;exact Wq ⟨_,ho,rfl⟩ ⟨_,i,rfl⟩ Xh ZJ PySem.F.slot_tuple_add PySem.F.entry_tuple_add (PySem.F.args_tuple_add_2 _ _)
   (tuple_addW0 a b _ t.toArray n B dd z w A (by rfl)) ⟨ho,i,.ref b,H,I,rfl,q⟩
noncomputable def Rk.op:Rk->ä
 |.add=>.Add|.sub=>.Sub|.mul=>.Mult|.Oo=>.FloorDiv|.mod=>.Mod|.pow=>.Pow
theorem eY(h:rT f a b=a5 r):∃i j o,a=.int i/\b=.int j/\f i j=a5 o/\r=(.loc,.int o):=by
 unfold rT at h;split at h
 ·rw[gs]at h;obtain⟨o,e,rfl⟩:=h;exact⟨_,_,o,rfl,rfl,e,rfl⟩
 ·cases h
theorem Em(T:C.K=X.K)(t:Qq C c0 c x y g l)(I:Inv X pins c.σ c.H s)(z:RelV g v)(B:RelV l u)(h:L3 op x y=a5 r)(q:bY C c0 Q r c.st):
  d6 (ez X.prog X.w) X.A (OO op.op v u) (EP X pins c.σ Q) X.xe s:=by
 obtain⟨m,d,n,D,ty,_⟩:=t;cases op with
 |add =>
  have h:yh x y=a5 r:=h;unfold yh at h;split at h
  ·have ex:=D.int d;have e:=ty.int d;cases h;exact cA pins s c.σ c.H g l v u Q I z B ⟨_,_,ex,e,q.flat m d n rfl⟩
  ·have ex:=D.str d;have e:=ty.str d;split at h
   ·cases h;exact rq pins s c.σ c.H g l v u Q I z B ⟨_,_,ex,e,by assumption,q.flat m d n rfl⟩
   ·cases h
  ·obtain⟨a,vs,ex,N,G⟩:=D.list d;obtain⟨b,ws,e,O,J⟩:=ty.list d;split at h
   ·rename_i L;cases h;exact Bn pins s c.σ c.H g l v u Q I z B ⟨a,b,vs,ws,ex,e,T▸N,T▸O,by rw[<-G.len,<-J.len];exact L.1,λp Y=>q.list m d n ((eX L.2.1 G).append (eX L.2.2 J)) p Y⟩
   ·cases h
  ·rename_i k xs k' ys _ _;obtain⟨a,vs,ex,N,G⟩:=D.tuple d;obtain⟨b,ws,e,O,J⟩:=ty.tuple d;have L4:=N;have O1:=O;rw[T]at L4 O1;split at h
   ·rename_i L;cases h;have m1:aq C (SK C c (kT k k')) c.H xs vs:=G.mv (.up (El k k'));have m2:aq C (SK C c (kT k k')) c.H ys ws:=J.mv (.up (Bm k k'));have q':bY C c0 Q (kE (kT k k'),.tup (xs++ys)) c.st:=by rw[Gw];exact q
    by_cases e1:vs=[]
    ·subst e1;refine yp pins s c.σ c.H g l v u Q I z B ⟨a,b,ws,ex,e,L4,O1,?_⟩;refine q' c (.ref b) m rfl d n (aM.item ⟨b,ws,rfl,O,?_⟩);have:xs=[]:=by have:=m1.len;simpa using this
     rw[this];exact m2
    ·refine AO pins s c.σ c.H g l v u Q I z B ⟨a,b,vs,ws,ex,e,L4,O1,e1,by rw[<-G.len,<-J.len];exact L,λe2=>?_,λ_ p Y=>q'.tupK m d n (m1.append m2) p Y⟩;subst e2;refine q' c (.ref a) m rfl d n (aM.item ⟨a,vs,rfl,N,?_⟩);have:ys=[]:=by have:=m2.len;simpa using this
     rw[this,tj];exact m1
   ·cases h
  ·cases h
 |sub =>
  obtain⟨i,j,o,ex,e,f,rfl⟩:=eY h;have ex:=(ex▸D).int d;have e:=(e▸ty).int d;cases f;exact rn pins s c.σ c.H g l v u Q I z B ⟨_,_,ex,e,q.flat m d n rfl⟩
 |mul =>
  obtain⟨i,j,o,ex,e,f,rfl⟩:=eY h;have ex:=(ex▸D).int d;have e:=(e▸ty).int d;unfold Bb at f;split at f
  ·cases f;exact kG pins s c.σ c.H g l v u Q I z B ⟨_,_,ex,e,by assumption,q.flat m d n rfl⟩
  ·cases f
 |Oo =>
  obtain⟨i,j,o,ex,e,f,rfl⟩:=eY h;have ex:=(ex▸D).int d;have e:=(e▸ty).int d;unfold Bc at f;split at f
  ·cases f;exact AH pins s c.σ c.H g l v u Q I z B ⟨_,_,ex,e,by assumption,q.flat m d n rfl⟩
  ·cases f
 |mod =>
  obtain⟨i,j,o,ex,e,f,rfl⟩:=eY h;have ex:=(ex▸D).int d;have e:=(e▸ty).int d;unfold Bd at f;split at f
  ·cases f;exact eG pins s c.σ c.H g l v u Q I z B ⟨_,_,ex,e,by assumption,q.flat m d n rfl⟩
  ·cases f
 |pow =>
  obtain⟨i,j,o,ex,e,f,rfl⟩:=eY h;have ex:=(ex▸D).int d;have e:=(e▸ty).int d;unfold Be at f;split at f
  ·cases f;exact om pins s c.σ c.H g l v u Q I z B ⟨_,_,ex,e,by assumption,q.flat m d n rfl⟩
  ·cases f
theorem Bo(d:C.K=X.K)(f:PE X a (IV C g))(i:PE X b (IV C j)):PE X (.BinOp a k.op b pos) (IV C (g >>= λx=>j >>= λy=>aC [x,y] >>= λ_=>M.Jb (L3 k x y))):=by
 rintro pins s σ H Q I ⟨c0,rfl,rfl,l,h⟩;refine wpAny_BinOp (two f i I l h λx y c p A v u s2 t m n o w=>?_);obtain⟨r,e,q⟩:=bE.mp w;exact IX (Em d t m n o e q) λ_ _ z=>by rw[t.hσ]at z;exact z
noncomputable def Qp.op:Qp->CmpOp
 |.eq=>.Eq|.ne=>.NotEq|.lt=>.Lt|.le=>.LtE|.gt=>.Gt|.ge=>.GtE|.isin=>.In|.I0=>.NotIn|.is=>.Is|.Oq=>.IsNot
theorem Gy{neg:Bool}(I:Inv X pins c.σ c.H s)(m:C.K=X.K)(N:X.A.units+60<LD){S:eH->Prop}(o:Rep C S c.H x n)(r:RelV n v)(t:aq C S c.H i vs)
  (ha:Jn C.K c.H a vs\/JH C.K c.H a vs) (u:Ko 50 x=b8) (z:eL 50 i=b8) {Q:d3->d8->Prop} (q:Q (.bool (if neg then !(i.any λy=>cE y x) else i.any λy=>cE y x)) s) :
  d6 (ez X.prog X.w) X.A (LW (if neg then .NotIn else .In) v (.ref a)) Q X.xe s:=by
 have B:=JE.of I m 50 x n v u o r;have go:∀d:List d3,Vals vs d->∃e:d3->Bool,(∀y,y∈d.toArray->SF X.A.in1 s y v (e y))/\d.toArray.any e=i.any λy=>cE y x:=by
  intro d rv;obtain⟨l,k,_⟩:=JE.v7 (JE.of I m 50) z t rv
  classical
  have q:∀j (b:j<d.length),cK (∃w,JE s 50 w d[j]/\cE w x=b8)=cE (i.getD j .IU) x:=λj b=>by
   rw[Kk,decide_eq_true_iff];exact⟨λ⟨w,f,g⟩=>by rw[<-f.inj (k j b)];exact g,λh=>⟨_,k j b,h⟩⟩
  refine⟨λy=>cK (∃w,JE s 50 w y/\cE w x=b8),λy D=>?_,?_⟩
  ·obtain⟨j,b,e⟩:=QR (show y∈d by simpa using D);subst e;show SF _ _ _ _ (decide _);rw[q j b];exact Gu (k j b) B (by show X.A.units+1+50 < _;lia)
  ·rw[Kk];simp only[List.any_toArray,SE];constructor
   ·rintro⟨y,G,h⟩;obtain⟨j,b,rfl⟩:=QR G;rw[q j b]at h;exact⟨_,KX (l▸b),by simpa[l▸b] using h⟩
   ·rintro⟨w,J,L⟩;obtain⟨j,b,rfl⟩:=QR J;exact⟨_,KX (l▸b),by rw[q j (l▸b)];simpa[b] using L⟩
 rcases ha with ha|ha
 ·obtain⟨d,rv,p,_⟩:=uc I (m▸ha);obtain⟨e,f,g⟩:=go d rv;cases neg with
  |false=>exact SeqAt.in_listAt e p f (by rw[g];exact q)
  |true=>exact SeqAt.notIn_listAt e p f (by rw[g];exact q)
 ·rw[m]at ha;obtain⟨d,rv,p,_⟩:=I.tuple ha;obtain⟨e,f,g⟩:=go d rv;cases neg with
  |false=>exact SeqAt.in_tupleAt e p f (by rw[g];exact q)
  |true=>exact SeqAt.notIn_tupleAt e p f (by rw[g];exact q)
end
section
theorem cR:∀{us:List U}{ss:List Str},strsOf us=a5 ss->us=ss.map .str
 |[],ss,h=>by cases h;rfl
 |.str x::us,ss,h=>by
  simp only[strsOf,gs]at h;obtain⟨t,a,rfl⟩:=h;rw[cR a];rfl
 |.IU::_,_,h=>by cases h
 |.bl _::_,_,h=>by cases h
 |.int _::_,_,h=>by cases h
 |.tup _::_,_,h=>by cases h
 |.lst _::_,_,h=>by cases h
 |.IM _ _::_,_,h=>by cases h
theorem jK:∀{us:List U}{ns:List Int},intsOf us=a5 ns->us=ns.map .int
 |[],ns,h=>by cases h;rfl
 |u::us,ns,h=>by
  cases u<;>first|(cases h;done)|skip
  rename_i x;have h':(intsOf us).map (x::·)=a5 ns:=h;rw[gs]at h';obtain⟨ms,e,rfl⟩:=h';rw[jK e];rfl
theorem aq.ints{S:eH->Prop}:∀{ns:List Int}{vs:List V},aq C S H (ns.map .int) vs->vs=ns.map V.int
 |[],vs,h=>h
 |n::ns,vs,h=>by
  obtain⟨v,r,rfl,a,b⟩:=h;rw[aq.ints b];have:v=.int n:=a;rw[this];rfl
theorem ll:∀{us:List U}{ss:List Bool},gO us=a5 ss->us=ss.map .bl
 |[],ss,h=>by cases h;rfl
 |.bl x::us,ss,h=>by
  simp only[gO,gs]at h;obtain⟨t,a,rfl⟩:=h;rw[ll a];rfl
 |.IU::_,_,h=>by cases h
 |.str _::_,_,h=>by cases h
 |.int _::_,_,h=>by cases h
 |.tup _::_,_,h=>by cases h
 |.lst _::_,_,h=>by cases h
 |.IM _ _::_,_,h=>by cases h
theorem aq.VC{S:eH->Prop}:∀{xs:List Bool}{vs:List V},aq C S H (xs.map .bl) vs->vs=xs.map V.bl
 |[],vs,h=>h
 |x::xs,vs,h=>by
  obtain⟨v,r,rfl,a,b⟩:=h;rw[aq.VC b];have:v=.bl x:=a;rw[this];rfl
def En(X:Cx)(a:List (eH×Obj))(c:Cf)(b:Bool)(v:d3)(s':d8):Prop:=v=.bool b/\Inv X a c.σ c.H s'
theorem fy(o:Kr X f r)(I:Inv X a c.σ c.H s)(g:RelV d v)(i:RelV e u)(h:r d e c.H λx H'=>x=.bl b/\H'=c.H):
  d6 (ez X.prog X.w) X.A (f v u) (En X a c b) X.xe s :=
 IX (o a s c.σ c.H d e v u _ I g i h) λw s' j=>by
  obtain⟨z,H',k,r,l,m⟩:=j;subst l m;exact⟨r,k⟩
theorem aM.dict(g:Ok C c)(h:aM C i c k (.IM ks us) v):∃a kvs,v=.ref a/\c.H a=a5 (.dK kvs)/\kvs.map (·.1)=ks.map nc/\aq C (SK C c k) c.H us (kvs.map (·.2)):=by
 cases k with
 |own=>obtain⟨r,e,_,_,_,kvs,b,d,f⟩:=h;exact⟨r,kvs,e,b,d,f⟩
 |bor j=>obtain⟨r,e,_,_,_,kvs,b,d,f⟩:=g.rootOf h.1 h.2;exact⟨r,kvs,e,b,d,f⟩
 |io=>exact h.elim
 |IK=>exact h.elim
 |_=>obtain⟨a,e,_,kvs,b,d,f⟩:=h;exact⟨a,kvs,e,b,d,f⟩
theorem dE{S:eH->Prop}:∀{ks:List Str}{us:List U}{kvs:List (Key×V)},kvs.map (·.1)=ks.map nc->aq C S H us (kvs.map (·.2)) ->
  (∀u,dN ks us x=a5 u->∃v,dz kvs (nc x)=a5 v/\Rep C S H u v)/\(dz kvs (nc x)).isSome=cK (x∈ks)
 |[],us,kvs,a,b=>by
  have:kvs=[]:=by simpa using a
  subst this;exact⟨λu h=>by cases us<;>simp[dN]at h,by simp[dz]⟩
 |k::ks,us,[],a,b=>by simp at a
 |k::ks,[],p::kvs,a,b=>by simp[aq]at b
 |k::ks,j::us,p::kvs,a,b=>by
  obtain⟨v,r,e,d,f⟩:=b;rw[et]at e;cases e;rw[et,et,Qi]at a;obtain⟨g,i⟩:=dE (x:=x) a.2 f;by_cases hk:k=x
  ·subst hk;refine⟨λu h=>?_,?_⟩
   ·simp[dN]at h;subst h;exact⟨p.2,eQ a.1,d⟩
   ·rw[eQ a.1];simp
  ·have c:¬p.1=nc x:=by rw[a.1];intro z;exact hk (U8 z)
   refine⟨λu h=>?_,?_⟩
   ·simp[dN,hk]at h;obtain⟨v,e,q⟩:=g u h;exact⟨v,by rw[eR c];exact e,q⟩
   ·rw[eR c,i];simp[r6 hk]
theorem Rep.m9{S:eH->Prop}(h:Rep C S H u v):cK (v=.IU)=m9 u:=by
 cases u with
 |IU=>have:v=.IU:=h;subst this;rfl
 |bl b=>have:v=.bl b:=h;subst this;rfl
 |int b=>have:v=.int b:=h;subst this;rfl
 |str b=>have:v=.str b:=h;subst this;rfl
 |IM ks us=>obtain⟨a,rfl,_⟩:=h;rfl
 |exc c=>obtain⟨a,rfl,_⟩:=h;rfl
 |_=>obtain⟨a,vs,rfl,_⟩:=h;rfl
theorem yq:Kr X (LW .Is) (λx y H Q=>∃i j,x=.bl i/\y=.bl j/\Q (.bl (i==j)) H):=by
 intro a s σ H x y v u Q I b c h;obtain⟨i,j,rfl,rfl,q⟩:=h;cases b;cases c;cases i<;>cases j<;>exact df (oo I q rfl)
theorem rW:Kr X (LW .IsNot) (λx y H Q=>∃i j,x=.bl i/\y=.bl j/\Q (.bl (!(i==j))) H):=by
 intro a s σ H x y v u Q I b c h;obtain⟨i,j,rfl,rfl,q⟩:=h;cases b;cases c;cases i<;>cases j<;>exact df (oo I q rfl)
theorem yr(hP:C.P=X.prog)(hw:C.w=X.w)(o:C.K=X.K)(G:X.A.units+60<LD)(t:Qq C c0 c x y J N)(I:Inv X l c.σ c.H s)(f:RelV J v)(g:RelV N u)(h:cM O x.2 y.2=a5 b):
  d6 (ez X.prog X.w) X.A (LW O.op v u) (En X l c b) X.xe s:=by
 obtain⟨hσ,d,n,i,ty,_⟩:=t;obtain⟨kx,Q⟩:=x;obtain⟨ky,T⟩:=y
 dsimp only at h i ty
 have q:∀neg:Bool,∀p,Bg Q T=a5 p->d6 (ez X.prog X.w) X.A (LW (if neg then .NotIn else .In) v u) (En X l c (if neg then !p else p)) X.xe s:=by
  intro neg p h;have B:=i.read d;have L:=ty.read d;unfold Bg at h;split at h
  ·obtain⟨a,vs,rfl,m,r⟩:=L;cases g;unfold Ov at h;split at h
   ·rename_i j;cases h;exact Gy I o G B f r (.inl m.sq) j.1 j.2 ⟨by cases neg<;>rfl,I⟩
   ·cases h
  ·obtain⟨a,vs,rfl,m,r⟩:=L;cases g;unfold Ov at h;split at h
   ·rename_i j;cases h;exact Gy I o G B f r (.inr m) j.1 j.2 ⟨by cases neg<;>rfl,I⟩
   ·cases h
  ·cases h;have ex:J=_:=B;obtain⟨a,kvs,rfl,m,r,Y⟩:=ty.dict d;cases g;subst ex;have hs:=λz:Str=>(dE (x:=z) r Y).2;cases neg with
   |false=>exact Gg ⋯ I (fj.k (k:=nc _) m) f λs' D=>⟨by rw[hs];rfl,D⟩
   |true=>exact tJ ⋯ I (fj.k (k:=nc _) m) f λs' D=>⟨by rw[hs];rfl,D⟩
  ·cases h
 unfold cM at h;split at h
 ·split at h
  ·rename_i j;cases h;exact(Gv (n:=50) (.of I o _ _ _ _ j.1 (i.read d) f) (.of I o _ _ _ _ j.2 (ty.read d) g) ⋯).1 _ _ _ _ ⟨rfl,I⟩
  ·cases h
 ·split at h
  ·rename_i j;cases h;exact(Gv (n:=50) (.of I o _ _ _ _ j.1 (i.read d) f) (.of I o _ _ _ _ j.2 (ty.read d) g) ⋯).2 _ _ _ _ ⟨rfl,I⟩
  ·cases h
 ·cases h;exact fy FZ I f g ⟨_,_,i.int d,ty.int d,rfl,rfl⟩
 ·cases h;exact fy F0 I f g ⟨_,_,i.int d,ty.int d,rfl,rfl⟩
 ·cases h;exact fy F5 I f g ⟨_,_,i.int d,ty.int d,rfl,rfl⟩
 ·exact q cc b h
 ·rw[gs]at h;obtain⟨p,m,rfl⟩:=h;exact q b8 p m
 ·cases h;have e:=ty.IU d;exact fy DG I f g ⟨e,by rw[(i.read d).m9],rfl⟩
 ·cases h;have e:=ty.IU d;exact fy AI I f g ⟨e,by rw[(i.read d).m9],rfl⟩
 ·cases h;exact fy yq I f g ⟨_,_,i.bl d,ty.bl d,rfl,rfl⟩
 ·cases h;exact fy rW I f g ⟨_,_,i.bl d,ty.bl d,rfl,rfl⟩
 ·cases h
theorem Bp(g:C.P=X.prog)(i:C.w=X.w)(j:C.K=X.K)(k:X.A.units+60<LD)(l:PE X a (IV C m))(n:PE X b (IV C o))(p:Q6 d.op b=cc):
  PE X (.Compare a [d.op] [b] pos) (IV C (m >>= λx=>o >>= λy=>aC [x,y] >>= λ_=>M.Jb (cM d x.2 y.2) >>= λc=>pure (.loc,.bl c))):=by
 rintro f s σ H Q I ⟨O,rfl,rfl,B,h⟩;refine wpAny_Compare1 (two l n I B h λx y c T Y v u s2 t D G J w=>?_) p;rw[ah]at w;obtain⟨r,e,q⟩:=bE.mp w;rw[ao]at q;refine IX (yr g i j k t D G J e) λz s' L=>?_;obtain⟨e,N⟩:=L;subst e;exact⟨.bl r,c.H,by rw[<-t.hσ];exact N,rfl,q c (.bl r) t.hσ rfl t.ok t.nx rfl⟩
theorem Br(i:C.P=X.prog)(j:C.w=X.w)(k:C.K=X.K)(l:X.A.units+60<LD)(m:PE X a (IV C n))(o:PE X b (IV C p))(B:Q6 g.op b=cc):
  PT X (.Compare a [g.op] [b] pos) (J9 C (n >>= λx=>p >>= λy=>aC [x,y] >>= λ_=>M.Jb (cM g x.2 y.2))):=by
 rintro d s σ H Q I ⟨D,rfl,rfl,G,h⟩;refine Ñ (two (f:=λv u=>LW g.op v u) (Q':=λ_ _ c s=>d6 (ez X.prog X.w) X.A (ı c) (TP X d D.σ Q) X.xe s) m o I G h λx y c Y vy v u s2 t J L N w=>?_) B;obtain⟨r,e,q⟩:=bE.mp w;refine IX (yr i j k l t J L N e) λz s' O=>?_;obtain⟨e,T⟩:=O;subst e;exact L7 ⟨c.H,by rw[<-t.hσ];exact T,q c t.hσ rfl t.ok t.nx⟩
end
section
def Gz(C:Ct)(a:Cf)(Q:Bool->Hp->Prop)(b:Bool)(st':aw):Prop:=∀c,c.σ=a.σ->c.st=st'->Ok C c->Nx a c->Q b c.H
theorem rX(c:a.σ=b.σ)(d:Ok C a)(n:Nx b a)(h:W m a.st (bY C b Q)):IV C m b.σ a.H Q :=
 ⟨a,c,rfl,d,h.mono λr st e f v g i j k l=>e f v g i j (n.trans k) (l.from n)⟩
theorem yt(c:a.σ=b.σ)(d:Ok C a)(n:Nx b a)(h:W m a.st (Gz C b Q)):J9 C m b.σ a.H Q :=
 ⟨a,c,rfl,d,h.mono λr st e f g i j k=>e f g i j (n.trans k)⟩
theorem aR(b:Ok C a)(h:W (d >>= k) a.st Post)
  (hz:∀x c v,LA C a c x v->W (k x) c.st Post->Z v c.H):IV C d a.σ a.H Z:=by
 rw[ah]at h;exact⟨a,rfl,rfl,b,h.mono λx st1 e f g i j l m n=>hz x f g ⟨i,l,m,n⟩ (by rw[j];exact e)⟩
theorem dO(d:Ok C a)(h:W (e >>= k) a.st Post)
  (hz:∀b c,c.σ=a.σ->Ok C c->Nx a c->W (k b) c.st Post->Z b c.H):J9 C e a.σ a.H Z:=by
 rw[ah]at h;exact⟨a,rfl,rfl,d,h.mono λx st1 f g i j l m=>hz x g i l m (by rw[j];exact f)⟩
noncomputable def GA(m:M (Kd×U))(x:Kd×U):M (Kd×U):=match x.2 with
 |.bl b8=>m
 |.bl cc=>pure (.loc,.bl cc)
 |_=>M.fail
noncomputable def GB(x:Kd×U):M (Kd×U):=match x.2 with
 |.bl c=>pure (.loc,.bl !c)
 |_=>M.fail
theorem snd_and(g:PE X a (IV C i))(j:PE X (.BoolOp .And (b::rest) pos) (IV C l)):PE X (.BoolOp .And (a::b::rest) pos) (IV C (i >>= GA l)):=by
 refine PE.weak (Ds g j) ?_;rintro σ H Q ⟨o,rfl,rfl,m,h⟩;refine aR m h λx c v t w=>?_;obtain⟨k,u⟩:=x;obtain⟨f,d,n,r⟩:=t;unfold GA at w;split at w
 ·rename_i e
  dsimp only at e r
  subst e;exact⟨b8,r.bl d,by rw[ņ rfl];exact rX f d n w⟩
 ·rename_i e
  dsimp only at e r
  subst e;rw[ao]at w;exact⟨cc,r.bl d,by rw[Ň i7];exact w c (.bl cc) f rfl d n rfl⟩
 ·exact(bu.mp w).elim
theorem Bs(d:PE X a (IV C f)):PE X (.UnaryOp .Not a pos) (IV C (f >>= GB)):=by
 refine PE.weak (Dt d) ?_;rintro σ H Q ⟨j,rfl,rfl,g,h⟩;refine aR g h λx c v t w=>?_;obtain⟨k,u⟩:=x;obtain⟨i,b,n,r⟩:=t;unfold GB at w;split at w
 ·rename_i e
  dsimp only at e r
  subst e;rw[ao]at w;exact⟨_,r.bl b,w c (.bl _) i rfl b n rfl⟩
 ·exact(bu.mp w).elim
theorem Bt(g:PT X d (J9 C i))(j:PE X a (IV C k))(l:PE X b (IV C m)):PE X (.IfExp d a b pos) (IV C (i >>= λp=>if p=b8 then k else m)):=by
 refine PE.weak (xk g j l) ?_;rintro σ H Q ⟨q,rfl,rfl,o,h⟩;refine dO o h λp c e f n w=>?_;cases p with
 |true=>rw[ņ rfl]at w ⊢;exact rX e f n w
 |false=>rw[Ň i7]at w ⊢;exact rX e f n w
theorem Bu(d:PT X a (J9 C e)):PT X (.UnaryOp .Not a pos) (J9 C (e >>= λb=>pure !b)):=by
 refine PT.weak (Dq d) ?_;rintro σ H Q ⟨j,rfl,rfl,f,h⟩;refine dO f h λp c g i n w=>?_;rw[ao]at w;exact w c g rfl i n
theorem Bw(i:PT X a (J9 C j))(k:PW X (.BoolOp .And (b::rest) pos) (J9 C l)):PW X (.BoolOp .And (a::b::rest) pos) (J9 C (j >>= λp=>if p=b8 then l else pure cc)):=by
 have m:=Dp i k;rintro o d s σ H Q I ⟨e,rfl,rfl,q,h⟩;refine m o d s e.σ e.H Q I (dO q h λp c f g n w=>?_);cases p with
 |true=>rw[ņ rfl]at w ⊢;exact yt f g n w
 |false=>rw[Ň i7]at w ⊢;rw[ao]at w;exact w c f rfl g n
theorem Eo(i:PT X a (J9 C j))(k:PW X (.BoolOp .Or (b::rest) pos) (J9 C l)):PW X (.BoolOp .Or (a::b::rest) pos) (J9 C (j >>= λp=>if p=b8 then pure b8 else l)):=by
 have m:=FK i k;rintro o d s σ H Q I ⟨e,rfl,rfl,q,h⟩;refine m o d s e.σ e.H Q I (dO q h λp c f g n w=>?_);cases p with
 |true=>rw[ņ rfl]at w ⊢;rw[ao]at w;exact w c f rfl g n
 |false=>rw[Ň i7]at w ⊢;exact yt f g n w
theorem ue{us:List α}{vs:List β}(h:us.length=vs.length):(!us.isEmpty)=!vs.isEmpty:=by
 cases us<;>cases vs<;>simp_all
theorem iM(j:PE X a (IV C l))(i:C.K=X.K)(m:∀b,isTrue a X.env b=(do let v <-b;X6 a.pos;MX [v] (ı v))):PT X a (J9 C (l >>= λx=>M.Jb (vX x.2))):=by
 refine PT.weak (xt j m) ?_;rintro σ H Q ⟨y,rfl,rfl,o,h⟩;refine aR o h λx c v t w=>?_;obtain⟨k,u⟩:=x;obtain⟨s,d,n,r⟩:=t;obtain⟨p,e,q⟩:=bE.mp w
 dsimp only at e r
 refine⟨p,?_,q c s rfl d n⟩;unfold vX at e;split at e
 ·cases e;rw[r.bl d];rfl
 ·cases e;obtain⟨a,vs,rfl,f,g⟩:=r.list d;exact .inl ⟨vs,i▸f,ue g.len⟩
 ·cases e;obtain⟨a,vs,rfl,f,g⟩:=r.tuple d;rw[i]at f;exact .inr (.inl ⟨vs,f,ue g.len⟩)
 ·split at e
  ·cases e;rw[r.str d];exact⟨by assumption,rfl⟩
  ·cases e
 ·cases e
end
section
theorem cQ.from(n:Nx a b):cQ C b c rs vs->cQ C a c rs vs:=by
 intro h;induction rs generalizing vs with
 |nil=>exact h
 |cons r rs d=>obtain⟨v,t,e,f,g,i⟩:=h;exact⟨v,t,e,f.from n,d g,i⟩
theorem cQ.get{i:Nat}(h:cQ C b c rs vs)(e:rs[i]?=a5 r)(a:vs[i]?=a5 v):fW C b c r.1 r.2 v:=by
 induction rs generalizing vs i with
 |nil=>simp at e
 |cons j rs d =>
  obtain⟨k,t,rfl,f,g,l⟩:=h;cases i with
  |zero=>simp at e a;subst e a;exact f
  |succ i=>exact d g (by simpa using e) (by simpa using a)
theorem Bx:PA X [] (J4 C (pure [])):=by
 rintro pos a s σ H Q I ⟨b,rfl,rfl,c,h⟩;rw[ao]at h;exact dH pos a s b.σ b.H Q I (h b [] rfl rfl c (Nx.refl b) rfl)
theorem yu(j:PE X e (IV C m))(k:PA X es (J4 C ms))(hs:hW (e::es) X.env=(cc,ve e X.env)::hW es X.env):PA X (e::es) (J4 C (m >>= λr=>ms >>= λrs=>pure (r::rs))):=by
 rintro pos a s σ H Q I ⟨b,rfl,rfl,l,h⟩;refine bS j k hs pos a s b.σ b.H Q I (aR l h λr n v t w=>?_);rw[ah]at w;refine⟨n,t.hσ,rfl,t.ok,w.mono λrs st2 c o vs d p q f g=>?_⟩;rw[ao]at c;refine c o (v::vs) d p q (t.nx.trans f) ⟨v,vs,rfl,t.rx.w.on t.ok f (d.trans t.hσ.symm),g.from t.nx,λhk i z A u x y=>?_⟩;exact oU t.rx.w (g.get u x) hk y
structure LB(C:Ct)(c0 c:Cf)(rs:List (Kd×U))(vs:List V):Prop where
 hσ:c.σ=c0.σ
 ok:Ok C c
 nx:Nx c0 c
 rep:cQ C c0 c rs vs
 NH:bq rs c.st
theorem args{k:List (Kd×U)->M β}{Post:β->aw->Prop}(g:PA X es (J4 C ms))(I:Inv X a b.σ b.H s)(i:Ok C b)(h:W (ms >>= λrs=>aC rs >>= λ_=>k rs) b.st Post)(pos:Pos):
  d6 (ez X.prog X.w) X.A (Ċ (DD pos (hW es X.env))) (λus s1=>∃rs c vs,LB C b c rs vs/\Inv X a c.σ c.H s1/\Vals vs us/\W (k rs) c.st Post) X.xe s:=by
 rw[ah]at h;refine IX (g pos a s b.σ b.H (λvs f=>∃rs c,c.H=f/\LB C b c rs vs/\W (k rs) c.st Post) I ⟨b,rfl,rfl,i,h.mono λrs st1 d e vs j l m n o=>?_⟩) ?_
 ·rw[ah,cG]at d;subst l;exact⟨rs,e,rfl,⟨j,m,n,o,d.1⟩,d.2⟩
 ·rintro us s1 ⟨vs,f,p,rv,rs,e,rfl,t,w⟩;exact⟨rs,e,vs,t,by rw[t.hσ];exact p,rv,w⟩
theorem LB.one(t:LB C a c [r] vs):∃v,vs=[v]/\aM C a c r.1 r.2 v:=by
 obtain⟨v,t',rfl,b,d,_⟩:=t.rep;cases d;exact⟨v,rfl,b.t t.NH⟩
theorem Ok.share(b:Ok C c)(g:C.H₀ r=bD)(h:∃o,c.H r=a5 o)(hl:st'.length=c.st.length)
  (d:∀(i:Nat) k u,st'[i]?=a5 (a5 (k,u))->(∃v,c.σ[i]?=a5 (a5 v)/\fV C (λa=>c.S a\/a=r) c.H k u v)/\(k.root=b8->c.st[i]?=a5 (a5 (k,u)))) (l:LZ C {c with S:=λa=>c.S a\/a=r,st:=st' }) :
  Ok C {c with S:=λa=>c.S a\/a=r,st:=st' }:=by
 refine⟨b.same,λa z=>?_,b.par,b.io,by rw[show({c with S:=λa=>c.S a\/a=r,st:=st' }:Cf).st.length=st'.length from rfl,hl];exact b.len,λi k u e=>(d i k u e).1,λi j k k' u u' m hk f n p q s=>?_,l⟩
 ·rcases z with z|rfl
  ·exact b.K5 a z
  ·exact⟨g,h⟩
 ·exact b.inj i j k k' u u' m hk f ((d i k u n).2 hk) ((d j k' u' p).2 f) q s
theorem Ok.Ep(s:Ok C d)(b:Ok C c)(n:Nx d c)(f:d.H r=bD)(g:¬c.R r)(t:cV C c.S c.H r u):
  Ok C {c with S:=λa=>c.S a\/a=r}/\Nx d {c with S:=λa=>c.S a\/a=r}:=by
 obtain⟨o,ho,_⟩:=t.some;refine⟨b.share (st':=c.st) (s.k_ f).1 ⟨o,ho⟩ rfl (λi k u e=>⟨?_,λ_=>e⟩) (b.dd.hs (.up λa=>.inl) λj a z=>⟨λq=>q.elim (b.root (.inr ⟨j,z⟩)).1 λe=>g (.inr ⟨j,e▸z⟩),λo q=>q⟩),⟨⟨n.keep,n.there,n.roots,λa z=>.inl (n.sub a z),λa z=>?_⟩⟩⟩
 ·obtain⟨v,h,l⟩:=b.sl i k u e;have w:Mv c.S c.H (λa=>c.S a\/a=r) c.H:=.up λa=>.inl;refine⟨v,h,l.mv w (.up λa z=>z.imp id .inl) λhk y m=>⟨?_,λo q=>q⟩⟩;obtain⟨A,p,x,_⟩:=l.rt hk;rw[m]at p;cases p;rintro(z|rfl)
  ·exact x z
  ·exact g (.inl ⟨i,k,u,hk,e,by rw[h,m]⟩)
 ·rcases z with z|rfl
  ·exact n.new a z
  ·exact .inr (.inr f)
theorem Ok.yw(d:Ok C c)(n:Nx D c)(g:c.st[j]?=a5 (a5 (.own,u)))(h:c.σ[j]?=a5 (a5 (.ref r))):
  Ok C {c with S:=λa=>c.S a\/a=r,st:=c.st.set j (a5 (.loc,u))}/\Nx D {c with S:=λa=>c.S a\/a=r,st:=c.st.set j (a5 (.loc,u))}/\Rep C (λa=>c.S a\/a=r) c.H u (.ref r):=by
 obtain⟨T,f,l,m,Y,q2,G,x⟩:=d.sl j _ _ g;rw[h]at f;cases f;cases m;have y:Rep C (λa=>c.S a\/a=r) c.H u (.ref r):=x.rep (λa=>.inl) (.inr rfl);obtain⟨o,ho,_⟩:=x.some;have s:j<c.st.length:=(dV.mp g).1;have t:∀(i:Nat) k u',(c.st.set j (a5 (.loc,u)))[i]?=a5 (a5 (k,u'))->i≠j->c.st[i]?=a5 (a5 (k,u')):=λi k u' e ne=>by rw[hQ (r6 ne)]at e;exact e
 have I:c.R1 r:=⟨j,.own,u,rfl,g,h⟩
 have A:∀(i:Nat) (u':U),(c.st.set j (a5 (.loc,u)))[i]?=a5 (a5 (.IK,u'))->c.st[i]?=a5 (a5 (.IK,u')):=λi u' e=>by
  by_cases b:i=j
  ·subst b;rw[ei s]at e;cases e
  ·exact t i .IK u' e b
 have b1:∀a,({c with S:=λa=>c.S a\/a=r,st:=c.st.set j (a5 (.loc,u))}:Cf).R1 a->c.R1 a:=λa J=>by
  obtain⟨i,k,u',hk,e,L⟩:=J;by_cases b:i=j
  ·subst b;rw[ei s]at e;cases e;cases hk
  ·exact⟨i,k,u',hk,t i k u' e b,L⟩
 have N:LZ C {c with S:=λa=>c.S a\/a=r,st:=c.st.set j (a5 (.loc,u))}:=d.dd.of rfl (λi u' e=>⟨A i u' e,rfl⟩) (λa z=>.inl (b1 a z)) (.up λa=>.inl) λi a z=>⟨λq=>q.elim (d.root (.inr ⟨i,z⟩)).1 λe=>d.dd.d1 i a z (e▸I),λo q=>q⟩
 refine⟨d.share (st':=c.st.set j (a5 (.loc,u))) G ⟨o,ho⟩ (by simp) (λi k u' e=>?_) N,⟨⟨n.keep,n.there,λa z=>?_,λa z=>.inl (n.sub a z),λa z=>?_⟩⟩,y⟩
 ·by_cases b:i=j
  ·subst b;rw[ei s]at e;cases e;exact⟨⟨.ref r,h,y⟩,λz=>nomatch z⟩
  ·have w:=t i k u' e b;obtain⟨v,f,p⟩:=d.sl i k u' w;refine⟨⟨v,f,p.mv (.up λa=>.inl) (.up λa z=>z.imp id .inl) λhk l m=>⟨?_,λo q=>q⟩⟩,λ_=>w⟩;obtain⟨Rq,B,O,_⟩:=p.rt hk;rw[m]at B;cases B;rintro(z|rfl)
   ·exact O z
   ·exact b (d.inj i j k .own u' u l hk rfl w g (by rw[f,m]) h)
 ·rcases z with z|⟨i,u',l,f,p,Q⟩
  ·exact n.roots a (.inl (b1 a z))
  ·exact n.roots a (.inr ⟨i,u',l,A i u' f,p,Q⟩)
 ·rcases z with z|rfl
  ·exact n.new a z
  ·rcases n.roots a (.inl ⟨j,.own,u,rfl,g,h⟩) with z|z
   ·exact .inr (.inl z)
   ·exact .inr (.inr z)
theorem iN(B:Ok C l)(b:Ok C c)(n:Nx l c)(d:fW C l c r.1 r.2 v)(h:W (lift r) c.st Post):
  ∃(S':eH->Prop) (st':aw) (u:U),(∀a,c.S a->S' a)/\Ok C {c with S:=S',st:=st' }/\Nx l {c with S:=S',st:=st' }/\Rep C S' c.H u v/\Post u st' /\
   (∀a,S' a->c.S a\/v=.ref a/\(r.1=.own\/c.R a))/\∀a,({c with S:=S',st:=st' }:Cf).R a->c.R a:=by
 obtain⟨k,u⟩:=r;cases k with
 |own =>
  rw[show lift (.own,u)=pure u from rfl,ao]at h;obtain⟨r,e,D,O,G,y⟩:=d;obtain⟨m,o⟩:=Ok.Ep B b n D G y;refine⟨_,c.st,u,λa=>.inl,m,o,by rw[e];exact y.rep (λa=>.inl) (.inr rfl),h,λa z=>?_,λa z=>z⟩;rcases z with z|rfl
  ·exact .inl z
  ·exact .inr ⟨e,.inl rfl⟩
 |loc =>
  rw[show lift (.loc,u)=pure u from rfl,ao]at h;exact⟨c.S,c.st,u,λa=>id,b,n,d,h,λa z=>.inl z,λa z=>z⟩
 |any =>
  rw[show lift (.any,u)=if Jl u=b8 then pure u else M.fail from rfl]at h;split at h
  ·rw[ao]at h;exact⟨c.S,c.st,u,λa=>id,b,n,Rep.Jl (by assumption) d,h,λa z=>.inl z,λa z=>z⟩
  ·exact(bu.mp h).elim
 |bor j =>
  obtain⟨x,st',e,I⟩:=h;rw[show lift (.bor j,u) c.st=match c.st[j]? with|some (a5 (.own,u))=>a5 (Ex.ok u,c.st.set j (a5 (.loc,u)))|_=>bD from rfl]at e;split at e
  ·rename_i w f;cases e;obtain⟨Q,A,r,J,_⟩:=b.sl j _ _ f;have p:c.σ[j]?=a5 (a5 v):=d;rw[p]at A;cases A;subst J;obtain⟨m,o,q⟩:=b.yw n f p;refine⟨_,_,_,λa=>.inl,m,o,q,I,λa z=>?_,λa z=>?_⟩
   ·rcases z with z|rfl
    ·exact .inl z
    ·exact .inr ⟨rfl,.inr (.inl ⟨j,.own,_,rfl,f,p⟩)⟩
   ·rcases z with⟨i,k,u',hk,e,s⟩|⟨i,u',L,e,s,N⟩
    rotate_left 1
    ·by_cases g:i=j
     ·subst g;have t:i<c.st.length:=(dV.mp f).1;rw[ei t]at e;cases e
     ·rw[hQ (r6 g)]at e;exact .inr ⟨i,u',L,e,s,N⟩
    by_cases g:i=j
    ·subst g;have t:i<c.st.length:=(dV.mp f).1;rw[ei t]at e;cases e;cases hk
    ·rw[hQ (r6 g)]at e;exact .inl ⟨i,k,u',hk,e,s⟩
  ·cases e
 |_=>exact d.elim
theorem iO:∀{rs:List (Kd×U)}{vs:List V}{c:Cf}{Post:List U->aw->Prop},Ok C b->Ok C c->Nx b c->cQ C b c rs vs->W (cX rs) c.st Post ->
  ∃(S':eH->Prop) (st':aw) (us:List U),(∀a,c.S a->S' a)/\Ok C {c with S:=S',st:=st' }/\Nx b {c with S:=S',st:=st' }/\aq C S' c.H us vs/\Post us st'
 |[],vs,c,Post,m,p,n,s,h=>by
  rw[show cX []=pure [] from rfl,ao]at h;exact⟨c.S,c.st,[],λa=>id,p,n,s,h⟩
 |r::rs,vs,c,Post,m,p,n,s,h=>by
  obtain⟨v,t,rfl,J,L,N⟩:=s;rw[show cX (r::rs)=lift r >>= λu=>cX rs >>= λus=>pure (u::us) from rfl,ah]at h;obtain⟨S1,st1,u,s1,O,Q,d,x,T,Y⟩:=iN m p n J h;rw[ah]at x;have Qr:cQ C b {c with S:=S1,st:=st1} rs t:=by
   clear h x;have y:∀(l:List (Kd×U)) (w:List V),cQ C b c l w->(r.1=.own->∀(i:Nat) g j,l[i]?=a5 g->w[i]?=a5 j->g.1=.own->j≠v)->cQ C b {c with S:=S1,st:=st1} l w:=by
    intro l;induction l with
    |nil=>intro w q _;exact q
    |cons r2 l ih =>
     intro w q A;obtain⟨B,D,rfl,k,q2,q3⟩:=q;refine⟨B,D,rfl,?_,ih D q2 (λhk i g j e1 e2 Jv=>A hk (i+1) g j (by simpa using e1) (by simpa using e2) Jv),q3⟩;obtain⟨k2,u2⟩:=r2;cases k2 with
     |own =>
      obtain⟨a,e,p1,p2,G,p4⟩:=k;refine⟨a,e,p1,λz=>?_,λz=>G (Y a z),p4.mv (.up s1) λo q=>q⟩;rcases T a z with z|⟨z,z'|z'⟩
      ·exact p2 z
      ·exact A z' 0 _ B rfl rfl rfl (e.trans z.symm)
      ·exact G z'
     |loc=>exact Rep.mv (.up s1) k
     |any=>exact Rep.mv (.up λa z=>z.imp id (s1 a)) k
     |_=>exact k
   exact y rs t L N
  obtain⟨S2,st2,us,s2,Jj,n2,f,I⟩:=iO (c:={c with S:=S1,st:=st1}) m O Q Qr x;rw[ao]at I;exact⟨S2,st2,u::us,λa z=>s2 a (s1 a z),Jj,n2,⟨v,t,rfl,d.mv (.up s2),f⟩,I⟩
theorem By(j:PA X es (J4 C ms)):PE X (.Tuple es x1 pos) (IV C (ms >>= λrs=>aC rs >>= λ_=>cX rs >>= λus=>if us.length<=cL then pure (.loc,.tup us) else M.fail)):=by
 rintro a s σ H Q I ⟨k,rfl,rfl,g,h⟩;refine ï (IX (args j I g h pos) λus s1 l=>?_);obtain⟨rs,c,vs,t,i,rv,w⟩:=l;rw[ah]at w;obtain⟨S',st',ws,q,m,n,d,f⟩:=iO g t.ok t.nx t.rep w;split at f
 ·rename_i hz;rw[ao]at f;have hl:vs.length<=cL:=by rw[<-d.len];exact hz
  refine⟨by rw[<-rv.length];exact hl,?_⟩;have o:c.H s1.heap.objs.size=bD:=i.IQ.fresh (hV _);have p:Inv X a k.σ c.H s1:=by rw[<-t.hσ];exact i
  refine⟨.ref s1.heap.objs.size,upd c.H s1.heap.objs.size (.tup vs),p.laid (t':=s1.toks) (λb u e=>c4 _ e) (hV _) ⟨hl,us,rv,Ê _ _⟩,rfl,?_⟩;exact bY.tup (c:={c with S:=S',st:=st' }) f t.hσ m n d _ o
 ·exact(bu.mp f).elim
theorem Bz(j:PA X es (J4 C ms)):PE X (.List es pos) (IV C (ms >>= λrs=>aC rs >>= λ_=>cX rs >>= λus=>if us.length<=cL then pure (.own,.lst us) else M.fail)):=by
 rintro a s σ H Q I ⟨k,rfl,rfl,g,h⟩;refine wpAny_List_spliced (IX (args j I g h pos) λus s1 l=>?_);obtain⟨rs,c,vs,t,i,rv,w⟩:=l;rw[ah]at w;obtain⟨S',st',ws,q,m,n,d,f⟩:=iO g t.ok t.nx t.rep w;split at f
 ·rename_i hz;rw[ao]at f;have hl:vs.length<=cL:=by rw[<-d.len];exact hz
  refine⟨by rw[<-rv.length];exact hl,?_⟩;have o:c.H s1.heap.objs.size=bD:=i.IQ.fresh (hV _);have p:Inv X a k.σ c.H s1:=by rw[<-t.hσ];exact i
  refine⟨.ref s1.heap.objs.size,upd c.H s1.heap.objs.size (.lst vs),p.laid (t':=s1.toks) (λb u e=>c4 _ e) (hV _) ⟨hl,us,0,rv,gj _ rfl⟩,rfl,?_⟩;exact bY.list (c:={c with S:=S',st:=st' }) f t.hσ m n d _ o
 ·exact(bu.mp f).elim
end
section
theorem oV(f:X.N[i]?=a5 x)(g:KC X.env.scope x)(l:(x==("__debug__":Str))=cc)(m:(x==("__classdict__":Str))=cc):PE X (.Name x pos) (IV C (dn i)):=by
 refine PE.weak (bN f g l m) ?_;rintro σ H Q ⟨b,rfl,rfl,c,r,st',e,h⟩;unfold dn at e;split at e
 ·cases e
 ·rename_i k u n hs;cases e;obtain⟨v,d,a⟩:=c.sl i k u hs;refine⟨v,d,h b v rfl rfl c (Nx.refl b) ?_⟩;by_cases hk:k.root=b8
  ·rw[ņ hk];exact⟨⟨k,hk,hs⟩,d⟩
  ·rw[Ň hk];cases k with
   |loc=>exact a
   |any=>exact a
   |bor j=>exact a.elim
   |IK=>exact(n rfl).elim
   |_=>exact absurd rfl hk
 ·cases e
theorem kg(h:PE X e (tC v))(r:∀S H,Rep C S H u v):PE X e (IV C (pure (.loc,u))):=by
 refine PE.weak h ?_;rintro σ H Q ⟨a,rfl,rfl,b,h⟩;rw[ao]at h;exact h a v rfl rfl b (Nx.refl a) (r _ _)
theorem bY.root(h:bY C b Q (.own,u) c.st)(e:c.σ=b.σ)(d:Ok C c)(n:Nx b c)(p:eH)(a:c.H p=bD)(r:cV C c.S (upd c.H p o) p u):Q (.ref p) (upd c.H p o):=by
 obtain⟨f,g⟩:=d.lay (o:=o) a;obtain⟨k,i,l,m,j⟩:=d.k_ a;exact h {c with H:=upd c.H p o} _ e rfl f (n.trans g) ⟨p,rfl,n.none a,i,j,r⟩
theorem yx(d:C.P=X.prog)(e:C.w=X.w)(r:Bool):PE X (.Dict [] [] pos) (IV C (pure (.own,.IM [] []))):=by
 refine PE.weak pU ?_;rintro σ H Q ⟨a,rfl,rfl,b,h⟩ p c;rw[ao]at h;exact bY.root h rfl b (Nx.refl a) p c ⟨[],ay,rfl,rfl⟩
theorem BA(g:X.N[i]?=a5 x)(j:KC X.env.scope x)(k:(x==("__debug__":Str))=cc)(l:(x==("__classdict__":Str))=cc):PE X (.Dict [a5 (.Name x o)] [.Constant (.bool b8) q p2] pos) (IV C (ym i)):=by
 refine PE.weak (AZ (xD (bN g j k l) (pN (b:=b8)) AY) rfl rfl (by simp) (by simp)) ?_;rintro σ H Q ⟨d,rfl,rfl,f,r,st',e,h⟩ p m;unfold ym at e;split at e
 ·rename_i y hs;cases e;obtain⟨v,n,a⟩:=f.sl i _ _ hs;have a:v=.str y:=a;subst a;refine⟨_,n,ay,[(nc y,.bl b8)],rfl,by simp,?_⟩;rw[Az];exact bY.root (u:=.IM [y] [.bl b8]) (c:=d) h rfl f (Nx.refl d) p m ⟨[(nc y,.bl b8)],ay,rfl,⟨_,_,rfl,rfl,rfl⟩⟩
 ·cases e
theorem aq.JP{S:eH->Prop}(h:aq C S H us vs)(e:JP us i=a5 u):∃v,L2.JP vs i=a5 v/\Rep C S H u v:=by
 unfold L2.JP at e ⊢;rw[h.len]at e;cases q:Mj vs.length i with
 |none=>rw[q]at e;cases e
 |some j =>
  rw[q]at e;exact h.get e
theorem Er(J:C.K=X.K)(N:X.A.units+60<LD)(hs:ox b)(t:Qq C L c x y g j)(I:Inv X d c.σ c.H s)(m:RelV g v)(o:RelV j u)(h:iH x y.2=a5 r)(q:bY C L Q r c.st):
  d6 (ez X.prog X.w) X.A (Vt a b v u) (EP X d c.σ Q) X.xe s:=by
 obtain⟨p,f,n,z,ty,-⟩:=t;obtain⟨O,T⟩:=y
 dsimp only at h ty
 unfold iH at h;split at h
 ·rename_i k xs i;rw[gs]at h;obtain⟨w,e,rfl⟩:=h;obtain⟨a',vs,ex,l,B⟩:=z.list f;obtain⟨vw,D,G⟩:=B.JP e;exact AQ a b d s c.σ c.H g j v u Q I m o ⟨a',vs,i,vw,ex,ty.int f,J▸l,D,q c vw p rfl f n (aM.item G)⟩ (hs _ _)
 ·rename_i k xs i;rw[gs]at h;obtain⟨w,e,rfl⟩:=h;obtain⟨a',vs,ex,l,B⟩:=z.tuple f;obtain⟨vw,D,G⟩:=B.JP e;rw[J]at l;exact dI a b d s c.σ c.H g j v u Q I m o ⟨a',vs,i,vw,ex,ty.int f,l,D,q c vw p rfl f n (aM.item G)⟩ (hs _ _)
 ·split at h
  ·rw[gs]at h;obtain⟨w,e,rfl⟩:=h;exact oy a b d s c.σ c.H g j v u Q I m o ⟨_,_,w,z.str f,ty.int f,by assumption,e,q c _ p rfl f n rfl⟩ (hs _ _)
  ·cases h
 ·cases h
theorem BB(f:C.K=X.K)(g:X.A.units+60<LD)(hs:ox b)(i:PE X a (IV C j))(k:PE X b (IV C l)):PE X (.Subscript a b pos) (IV C (j >>= λx=>l >>= λy=>aC [x,y] >>= λ_=>M.Jb (iH x y.2))):=by
 rintro d s σ H Q I ⟨B,rfl,rfl,m,h⟩;refine ā (two i k I m h λx y c D G v u s2 t n o p w=>?_);obtain⟨r,e,q⟩:=bE.mp w;exact IX (Er f g hs t n o p e q) λ_ _ z=>by rw[t.hσ]at z;exact z
theorem aq.cut{S:eH->Prop}(h:aq C S H us vs)(lo a:Option Int):aq C S H (TM.cut us lo a) (vp vs lo a):=by
 unfold TM.cut vp;rw[h.len];exact(h.drop _).take _
end
section
end
section
variable{X:Cx}{C:Ct}{pins:List (eH×Obj)}{s:d8}{c0 c c1:Cf}
variable{a b d e:mf}{es:List mf}{m ma mb md:M (Kd×U)}{ms:M (List (Kd×U))}{ta tb:M Bool}{pos p p2:Pos}
def tO(C:Ct)(m:M (Option Int)):TO:=λσ H Q=>∃c0:Cf,c0.σ=σ/\c0.H=H/\Ok C c0/\W m c0.st λi st'=>∀c,c.σ=σ->c.st=st'->Ok C c->Nx c0 c->Q i c.H
theorem v8:PO X bD (tO C (pure bD)):=by
 rintro pins s σ H Q I ⟨c0,rfl,rfl,f,h⟩;rw[ao]at h;exact AM pins s c0.σ c0.H Q I (h c0 rfl rfl f (Nx.refl c0))
theorem v9(f:PE X a (IV C ma)):PO X (a5 a) (tO C (ma >>= Ek)):=by
 rintro pins s σ H Q I ⟨c0,rfl,rfl,g,h⟩;refine AN f pins s c0.σ c0.H Q I (aR g h λx c v t w=>?_);obtain⟨k,u⟩:=x;unfold Ek at w;split at w
 ·rename_i i e
  dsimp only at e
  subst e;rw[ao]at w;exact⟨i,t.rx.int t.ok,w c t.hσ rfl t.ok t.nx⟩
 ·exact(bu.mp w).elim
theorem Es{lo f:Option Int}(l:C.K=X.K)(i:c.σ=c0.σ)(g:Ok C c)(n:Nx c0 c)(j:aM C c0 c x.1 x.2 k)(h:qq x lo f=a5 r)(q:bY C c0 Q r c.st):
  Gb X.K k lo f c.H Q\/Gj k lo f c.H Q:=by
 unfold qq at h;split at h
 ·split at h
  ·rename_i o;cases h;obtain⟨a',vs,ex,t,u⟩:=j.list g;exact .inl ⟨a',vs,ex,l▸t,λp v=>q.list i g n ((eX o u).cut lo f) p v⟩
  ·cases h
 ·split at h
  ·cases h;exact .inr ⟨_,j.str g,by assumption,q.flat i g n rfl⟩
  ·cases h
 ·cases h
theorem BC{lo g:Option mf}(n:C.K=X.K)(o:PE X a (IV C ma))(hl:PO X lo (tO C ml))(u:PO X g (tO C y)):
  PE X (.Subscript a (.Slice lo g bD p2) pos) (IV C (ma >>= λx=>ml >>= λl=>y >>= λh=>aC [x] >>= λ_=>M.Jb (qq x l h))):=by
 refine PE.weak (xv (Nq.or AR DW) o hl u) ?_;rintro σ H Q ⟨c0,rfl,rfl,z,h⟩;refine aR z h λx c v t w=>?_;rw[ah]at w;refine⟨c,t.hσ,rfl,t.ok,w.mono λl st2 i A B D G I=>?_⟩;subst D;rw[ah]at i;refine⟨A,B,rfl,G,i.mono λT Y f J j L N O=>?_⟩;subst L;rw[ah,cG]at f;obtain⟨r,e,q⟩:=bE.mp f.2;have k:Nx c J:=I.trans O;exact Es n j N (t.nx.trans k) ((t.rx.w.on t.ok k (j.trans t.hσ.symm)).t f.1) e q
end
section
variable{X:Cx}{C:Ct}{pins:List (eH×Obj)}{s:d8}{c0 c c1:Cf}
variable{a b d e:mf}{es:List mf}{m ma mb md:M (Kd×U)}{ms:M (List (Kd×U))}{ta tb:M Bool}{pos p p2:Pos}
noncomputable def Bf.val:Bf->d3
 |.len=>.builtin "len"|.sorted=>.builtin "sorted"|.repr=>.builtin "repr"|.max=>.builtin "max"|.min=>.builtin "min"|.all=>.builtin "all"|.any=>.builtin "any"
 |.list=>.type "list"|.tuple=>.type "tuple"|.str=>.type "str"|.int=>.type "int"
noncomputable def Bf.name:Bf->Str
 |.len=>"len"|.sorted=>"sorted"|.repr=>"repr"|.max=>"max"|.min=>"min"|.all=>"all"|.any=>"any"
 |.list=>"list"|.tuple=>"tuple"|.str=>"str"|.int=>"int"
theorem call_of(g:jE X f r)(I:Inv X pins c.σ c.H s)(rv:Vals vs us)(h:r vs c.H Q):d6 (ez X.prog X.w) X.A (NQ f us) (EP X pins c.σ Q) X.xe s:=g pins s c.σ c.H vs us Q I rv h
theorem bX(h:iI f rs=a5 r):∃x,rs=[x]/\f x=a5 r:=by
 unfold iI at h;split at h
 ·exact⟨_,rfl,h⟩
 ·cases h
theorem CS(G:X.calm=b8)(y:C.K=X.K)(L:X.A.guards=a5 [])(N:X.A.units+60<LD)(t:LB C c0 c rs vs)(I:Inv X pins c.σ c.H s)(rv:Vals vs us)(h:KO f rs=a5 r)(q:bY C c0 Q r c.st):
  d6 (ez X.prog X.w) X.A (NQ f.val us) (EP X pins c.σ Q) X.xe s:=by
 have u:=t.hσ;have g:=t.ok;have n:=t.nx;cases f with
 |len =>
  obtain⟨x,rfl,hz⟩:=bX (f:=λx=>(Ed x.2).map λ(n:Nat)=>(Kd.loc,U.int (n:Int))) h;clear h;have h:=hz;clear hz;rw[gs]at h;obtain⟨k,e,rfl⟩:=h;obtain⟨v,rfl,l⟩:=t.one;obtain⟨O,D⟩:=x;unfold Ed at e;split at e
  ·rename_i xs o;have o:D=.lst xs:=o;subst o;cases e;obtain⟨a',ws,ex,i,j⟩:=l.list g;rw[j.len]at q;exact call_of iy I rv ⟨a',ws,by rw[ex],.inl (y▸i),q.flat u g n rfl⟩
  ·rename_i xs o;have o:D=.tup xs:=o;subst o;cases e;obtain⟨a',ws,ex,i,j⟩:=l.tuple g;rw[y]at i;rw[j.len]at q;exact call_of iy I rv ⟨a',ws,by rw[ex],.inr i,q.flat u g n rfl⟩
  ·rename_i xs o;have o:D=.str xs:=o;subst o;split at e
   ·cases e;exact call_of oA I rv ⟨_,by rw[l.str g],by assumption,q.flat u g n rfl⟩
   ·cases e
  ·cases e
 |sorted =>
  obtain⟨x,rfl,hz⟩:=bX (f:=Ee) h;clear h;have h:=hz;clear hz;obtain⟨v,rfl,l⟩:=t.one;unfold Ee at h;split at h
  ·rw[sx]at h;obtain⟨ss,e,h⟩:=h;have B:=cR e;subst B;obtain⟨a',ws,ex,i,j⟩:=l.list g;rw[aq.strs]at j;subst j;split at h
   ·cases h;exact call_of jH I rv ⟨a',ss,by rw[ex],.inl (y▸i),by assumption,λp z=>q.list u g n (aq.strs.mpr rfl) p z⟩
   ·cases h
  ·obtain⟨a',kvs,ex,i,j,_⟩:=l.dict g;split at h
   ·cases h;exact call_of (jn G) I rv ⟨a',kvs,_,by rw[ex],i,j,by assumption,λp z=>q.list u g n (aq.strs.mpr rfl) p z⟩
   ·cases h
  ·rw[sx]at h;obtain⟨ss,e,h⟩:=h;have B:=cR e;subst B;obtain⟨a',ws,ex,i,j⟩:=l.tuple g;rw[y]at i;rw[aq.strs]at j;subst j;split at h
   ·cases h;exact call_of jH I rv ⟨a',ss,by rw[ex],.inr i,by assumption,λp z=>q.list u g n (aq.strs.mpr rfl) p z⟩
   ·cases h
  ·cases h
 |tuple =>
  obtain⟨x,rfl,hz⟩:=bX (f:=Ef) h;clear h;have h:=hz;clear hz;obtain⟨v,rfl,l⟩:=t.one;unfold Ef at h;split at h
  ·obtain⟨a',ws,ex,i,j⟩:=l.list g;cases h;exact call_of gI I rv ⟨a',ws,by rw[ex],.inl ⟨y▸i,λp z=>q.tupK u g n j p z⟩⟩
  ·obtain⟨a',ws,ex,i,j⟩:=l.tuple g;have J:=i;rw[y]at J;cases h;exact call_of gI I rv ⟨a',ws,by rw[ex],.inr ⟨J,q c (.ref a') u rfl g n (aM.item ⟨a',ws,rfl,i,j⟩)⟩⟩
  ·cases h
 |str =>
  obtain⟨x,rfl,hz⟩:=bX (f:=Bh) h;clear h;have h:=hz;clear hz;obtain⟨v,rfl,l⟩:=t.one;unfold Bh at h;split at h
  ·split at h
   ·cases h;exact call_of oq I rv ⟨_,by rw[l.int g],by assumption,q.flat u g n rfl⟩
   ·cases h
  ·cases h
 |all =>
  obtain⟨x,rfl,hz⟩:=bX (f:=Eg) h;clear h;have h:=hz;clear hz;obtain⟨v,rfl,l⟩:=t.one;unfold Eg at h;split at h
  ·rw[gs]at h;obtain⟨bs,e,rfl⟩:=h;have B:=ll e;subst B;obtain⟨a',ws,ex,i,j⟩:=l.list g;have:=j.VC;subst this;exact call_of (xJ G) I rv ⟨a',bs,by rw[ex],y▸i,q.flat u g n rfl⟩
  ·cases h
 |_=>cases h
theorem BD{id:String}(g:X.calm=b8)(i:C.K=X.K)(j:X.A.guards=a5 [])(k:X.A.units+60<LD)(l:f.val=.builtin id)(n:Gl X x)(o:X.mg x=bD)(u:tv x=a5 (.builtin id))(v:x≠"__name__")(y:(x==("__debug__":Str))=cc)
  (B:PA X (e::es) (J4 C ms)) (D:hW (e::es) X.env=(cc,ve e X.env)::hW es X.env) (G:(DD pos (hW es X.env)).any (·.1)=cc) :
  PE X (.Call (.Name x p) (e::es) [] pos) (IV C (ms >>= λrs=>aC rs >>= λ_=>M.Jb (KO f rs))):=by
 rintro pins s σ H Q I ⟨c0,rfl,rfl,J,h⟩;refine ro (cH I n o u ?_ v y);refine Ls (IX (args B I J h pos) λus s1 ⟨rs,c,vs,t,L,rv,w⟩=>?_) D G;obtain⟨r,e,q⟩:=bE.mp w;have z:=CS g i j k t L rv e q;rw[l,t.hσ]at z;exact z
theorem BE(g:X.calm=b8)(i:C.K=X.K)(j:X.A.guards=a5 [])(k:X.A.units+60<LD)(l:f.val=.type T)(n:Gl X x)(o:X.mg x=bD)(u:tv x=a5 (.type T))(v:x≠"__name__")(y:(x==("__debug__":Str))=cc)
  (B:PA X (e::es) (J4 C ms)) (D:hW (e::es) X.env=(cc,ve e X.env)::hW es X.env) (G:(DD pos (hW es X.env)).any (·.1)=cc) :
  PE X (.Call (.Name x p) (e::es) [] pos) (IV C (ms >>= λrs=>aC rs >>= λ_=>M.Jb (KO f rs))):=by
 rintro pins s σ H Q I ⟨c0,rfl,rfl,J,h⟩;refine ro (cH I n o u ?_ v y);refine J1 (IX (args B I J h pos) λus s1 ⟨rs,c,vs,t,L,rv,w⟩=>?_) D G;obtain⟨r,e,q⟩:=bE.mp w;have z:=CS g i j k t L rv e q;rw[l,t.hσ]at z;exact z
noncomputable def K9.name:K9->Str
 |.str=>"str"|.list=>"list"|.tuple=>"tuple"|.int=>"int"|.bool=>"bool"
noncomputable def K9.nm:K9->String
 |.str=>"str"|.list=>"list"|.tuple=>"tuple"|.int=>"int"|.bool=>"bool"
theorem BF(T:K9):tv T.name=a5 (.type T.nm)/\T.name≠"__name__"/\(T.name==("__debug__":Str))=cc:=by
 cases T<;>exact⟨by decide +kernel,by decide +kernel,by decide +kernel⟩
theorem iP(T:K9):W2 (.type T.nm)=pure (.type "type"):=by cases T<;>kernel_rfl
theorem ka(T:K9):N_ (.type "str") (.type T.nm)=pure (cK (T=.str)):=by cases T<;>(rw[Jd];kernel_rfl)
theorem sub_int(T:K9):N_ (.type "int") (.type T.nm)=pure (cK (T=.int)):=by cases T<;>(rw[Jd];kernel_rfl)
theorem ne_str{T:K9}(h:¬T=.str):(ti "str"==ti T.nm)=cc:=by cases T<;>first|exact absurd rfl h|decide
theorem ne_int{T:K9}(h:¬T=.int):(ti "int"==ti T.nm)=cc:=by cases T<;>first|exact absurd rfl h|decide
theorem qx(T:K9):N_ (.type "list") (.type T.nm)=pure (cK (T=.list)):=by cases T<;>(rw[Jd];kernel_rfl)
theorem uf(T:K9):N_ (.type "tuple") (.type T.nm)=pure (cK (T=.tuple)):=by cases T<;>(rw[Jd];kernel_rfl)
theorem BG{T:K9}(h:¬T=.list):(ti "list"==ti T.nm)=cc:=by cases T<;>first|exact absurd rfl h|decide
theorem Et{T:K9}(h:¬T=.tuple):(ti "tuple"==ti T.nm)=cc:=by cases T<;>first|exact absurd rfl h|decide
theorem Eu{b:Bool}(z:C.K=X.K)(t:LA C c0 c x v)(I:Inv X pins c.σ c.H s)(rv:RelV v val)(h:oS x.2 T=a5 b)(q:∀j,Q (.bool b) {s with toks:=j}):
  d6 (ez X.prog X.w) X.A (NQ (.builtin "isinstance") [val,.type T.nm]) Q X.xe s:=by
 obtain⟨k,u⟩:=x;obtain⟨O,i,n,r⟩:=t;have D:Q (.bool b) s:=q s.toks
 dsimp only at h r
 have g:∀{B:String},b=b8->s.TypeIs val B->N_ (.type B) (.type T.nm)=pure b8->d6 (ez X.prog X.w) X.A (NQ (.builtin "isinstance") [val,.type T.nm]) Q X.xe s:=λe G hs=>by
  subst e;exact į G (iP T) hs D
 unfold oS at h;split at h
 ·cases h;have e:v=_:=r.str i;subst e;obtain⟨j,rfl⟩:=rv;by_cases f:T=.str
  ·subst f;exact g (by simp) (YR s _ j) (ka .str)
  ·rw[ň f]at q;exact R0 (isinstance_false_str (ne_str f) (iP T) (by rw[ka,ň f])) (q _)
 ·cases h;have e:v=_:=r.int i;subst e;obtain⟨j,rfl⟩:=rv;by_cases f:T=.int
  ·subst f;exact g (by simp) (typeIs_int s _ j) (sub_int .int)
  ·rw[ň f]at q;exact R0 (isinstance_false_int (ne_int f) (iP T) (by rw[sub_int,ň f])) (q _)
 ·cases h;have e:v=_:=r.bl i;subst e;cases rv;exact g rfl (PySem.typeIs_bool s _) (by rw[Jd];kernel_rfl)
 ·cases h;have e:v=_:=r.bl i;subst e;cases rv;exact g rfl (PySem.typeIs_bool s _) (by rw[Jd];kernel_rfl)
 ·cases h;obtain⟨a',ws,rfl,l,J⟩:=r.list i;cases rv;rw[z]at l;obtain⟨L,_,N,_⟩:=I.list l;obtain⟨o,ho,y,_⟩:=N.isList;by_cases f:T=.list
  ·subst f;exact g (by simp) ⟨o,ho,y⟩ (qx .list)
  ·rw[ň f]at q;exact R0 (isinstance_false_list (BG f) (iP T) (by rw[qx,ň f])) ⟨⟨o,ho,y⟩,q _⟩
 ·cases h;obtain⟨a',ws,rfl,l,J⟩:=r.tuple i;cases rv;rw[z]at l;obtain⟨L,_,⟨o,ho,y,_⟩,_⟩:=I.tuple l;by_cases f:T=.tuple
  ·subst f;exact g (by simp) ⟨o,ho,y⟩ (uf .tuple)
  ·rw[ň f]at q;exact R0 (isinstance_false_tuple (Et f) (iP T) (by rw[uf,ň f])) ⟨⟨o,ho,y⟩,q _⟩
 ·cases h
theorem ug(g:C.K=X.K)(i:Gl X "isinstance")(j:X.mg "isinstance"=bD)(k:Gl X T.name)(l:X.mg T.name=bD)(n:PE X a (IV C ma))(hs:hW [a,.Name T.name p2] X.env=(cc,ve a X.env)::hW [.Name T.name p2] X.env):
  PE X (.Call (.Name "isinstance" p) [a,.Name T.name p2] [] pos) (IV C (ma >>= λx=>M.Jb (oS x.2 T) >>= λb=>pure (.loc,.bl b))):=by
 rintro pins s σ H Q I ⟨c0,rfl,rfl,o,h⟩;obtain⟨q,r,u⟩:=BF T;refine ro (cH I i j (show tv "isinstance"=a5 (.builtin "isinstance") by decide +kernel) ?_ (by decide +kernel) (by decide +kernel));refine Ls (IX (bS n (bS (tw (v:=.ty T.nm) k l q rfl r u) dH) hs pos pins s c0.σ c0.H (λvs H'=>∃x c v b,LA C c0 c x v/\c.H=H'/\vs=[v,.ty T.nm]/\oS x.2 T=a5 b/\bY C c0 Q (.loc,.bl b) c.st) I ?_) λus s1 ⟨vs,N,f,y,x,c,v,b,t,e,A,B,w⟩=>?_) hs (by rfl)
 ·refine aR o h λx c v t w=>?_;rw[ah]at w;obtain⟨b,e,w⟩:=bE.mp w;rw[ao]at w;exact⟨x,c,v,b,t,rfl,rfl,e,w⟩
 ·subst e A;obtain⟨O,u2,rfl,D,G⟩:=vals2 y;cases G;have J:Inv X pins c.σ c.H s1:=by rw[t.hσ];exact f
  have z:=Eu (Q:=EP X pins c0.σ Q) g t J D B λL=>⟨.bl b,c.H,f.tok L,rfl,w c (.bl b) t.hσ rfl t.ok t.nx rfl⟩
  exact z
def PJ(X:Cx)(out:Str)(es:List mf)(t:TE):Prop :=
 ∀(pins:List (eH×Obj)) (s:d8) (σ:L2.St) (H:Hp) (Q:VK),Inv X pins σ H s->t σ H Q->d6 (ez X.prog X.w) X.A (joinParts out (evalEach es X.env)) (EP X pins σ Q) X.xe s
theorem Ew(hz:out.length<=cL):PJ X out [] (IV C (pure (.loc,.str out))):=by
 rintro pins s σ H Q I ⟨c0,rfl,rfl,f,h⟩;rw[ao]at h;exact joinParts_nil ⟨.str out,c0.H,I.tok _,⟨_,rfl⟩,h c0 (.str out) rfl rfl f (Nx.refl c0) rfl⟩ hz
theorem Ey(f:PJ X (out++y) es (IV C m))(hz:(out++y).length<=cL):PJ X out (.Constant (.str y) o p::es) (IV C m):=by
 intro pins s σ H Q I h;refine Ĭ (ŀ (IX (og (X:=X) pins s σ H (λv H'=>v=.str y/\H'=H) I ⟨rfl,rfl⟩) λv s1 g=>?_));obtain⟨x,i,j,k,l,n⟩:=g;subst l n;obtain⟨t,rfl⟩:=k;exact⟨hz,f pins s1 σ i Q j h⟩
theorem Ez{g:Str->M (Kd×U)}(D:PE X a (IV C ma))(G:∀y,y.length<=cL->PJ X y es (IV C (g y))):PJ X out (.FormattedValue a (-1) bD p::es) (IV C (ma >>= λx=>M.Jb (qw x.2 out) >>= λy=>g y)):=by
 rintro pins s σ H Q I ⟨c0,rfl,rfl,J,h⟩;refine Ĭ (ŀ (FormattedValue_plain (IX (D pins s c0.σ c0.H (λv H'=>∃x c y,LA C c0 c x v/\c.H=H'/\qw x.2 out=a5 y/\W (g y) c.st (bY C c0 Q)) I ?_) λv s1 ⟨o,H1,z,B,x,c,y,t,e,f,w⟩=>?_)))
 ·refine⟨c0,rfl,rfl,J,?_⟩;rw[ah]at h;refine W.mono h λx st' w c v i hs L n r=>?_;subst hs;rw[ah]at w;obtain⟨y,e,w⟩:=bE.mp w;exact⟨x,c,y,⟨i,L,n,r⟩,rfl,e,w⟩
 ·subst e;obtain⟨k,u⟩:=x;obtain⟨i,j,n,r⟩:=t
  dsimp only at f r
  have go:∀s2:d8,Inv X pins c0.σ c.H s2->y.length<=cL->d6 (ez X.prog X.w) X.A (joinParts y (evalEach es X.env)) (EP X pins c0.σ Q) X.xe s2:=λs2 N hz =>
   G y hz pins s2 c0.σ c.H Q N ⟨c,i,rfl,j,W.mono w λr' st' q O T Y h2 h3 h4 h5=>q O T Y h2 h3 (n.trans h4) (h5.from n)⟩
  unfold qw at f;split at f
  ·split at f
   ·rename_i hz;cases f;have ev:o=_:=r.str j;subst ev;obtain⟨l,rfl⟩:=B;exact formatField_str (λt' l=>⟨hz.2,go _ (z.tok l) hz.2⟩) hz.1
   ·cases f
  ·split at f
   ·rename_i hz;cases f;have ev:o=_:=r.int j;subst ev;obtain⟨l,rfl⟩:=B;exact formatField_int_small hz.1 ⟨hz.2,go _ (z.tok _) hz.2⟩
   ·cases f
  ·cases f
theorem BH(h:PJ X oT (f::g::es) (IV C m)):PE X (.JoinedStr (f::g::es) pos) (IV C m):=λpins s σ H Q I q=>JoinedStr_many (h pins s σ H Q I q)
abbrev MA(P:va)(w:H8)(K:PySem.W.Frag)(H:Hp)(f:eH->Prop):Ct:=⟨P,w,K,H,f,λ_=>False,λ_ _=>False⟩
structure Back(C:Ct)(H H':Hp)(S':eH->Prop)(k:Kd)(u:U)(v:V):Prop where
 same:c8 H H'
 new:∀a,S' a->H a=bD/\∃o,H' a=a5 o
 own:k=.own->∃r,v=.ref r/\H r=bD/\¬S' r/\cV C S' H' r u
 loc:k=.loc->Rep C S' H' u v
 any:k=.any->Rep C (PS C S') H' u v
def spT(P:va)(w:H8)(K:PySem.W.Frag)(F:List U->Option (Ex (Kd×U)))(g:Nat):Sp:=λvs H Q E=>vs.length=g/\∃us r f,F us=a5 r/\(∀a,f a->Kl H a)/\aq (MA P w K H f) f H us vs/\match r with
 |.ok (k,u)=>(k=.own\/k=.loc\/k=.any)/\∀v H' S',Back (MA P w K H f) H H' S' k u v->Q v H'
 |.exc c=>∀C H',PySem.W.nsIn K i8 c=a5 (a5 (.ref C))->c8 H H'->E (.ref C) bD H'
theorem LB.read(t:LB C c0 c rs vs):aq C (Kl c.H) c.H (rs.map (·.2)) vs:=by
 have f:∀(l:List (Kd×U)) (w:List V),cQ C c0 c l w->bq l c.st->aq C (Kl c.H) c.H (l.map (·.2)) w:=by
  intro l;induction l with
  |nil=>intro w h _;exact h
  |cons r l g =>
   intro w h hs;obtain⟨v,t',rfl,i,j,_⟩:=h;rw[gr]at hs;exact⟨v,t',rfl,(i.t hs.1).read t.ok,g t' j hs.2⟩
 exact f rs vs t.rep t.NH
theorem Back.here(hk:k=.own\/k=.loc)(i:c.σ=c0.σ)(f:Ok C c)(n:Nx c0 c)(q:j.Eqv C)(h:Back j c.H H' S' k u v)(w:bY C c0 Q (k,u) c.st):Q v H':=by
 obtain⟨l,t⟩:=f.grow (S':=λa=>c.S a\/S' a) h.same (λa z=>z.imp id λz=>h.new a z) λa=>.inl;have x:=n.trans t;refine w {c with H:=H',S:=λa=>c.S a\/S' a} v i rfl l x ?_;rcases hk with rfl|rfl
 ·obtain⟨r,e,g,y,A⟩:=h.own rfl;obtain⟨G,B,I,J,D⟩:=f.k_ g;refine⟨r,e,n.none g,λz=>z.elim B y,D,(A.cg q).mv (.up λa=>.inr) λo q=>q⟩
 ·exact((h.loc rfl).cg q).mv (.up λa=>.inr)
theorem yy(o:C.P=X.prog)(x:C.w=X.w)(y:C.K=X.K)(L:Γ f=F)(hk:∀us k u,F us=a5 (.ok (k,u))->(k=.own\/k=.loc\/k=.any)/\us.length=B)
  (G:iw X.prog X.w X.K X.mg X.base (NA X.prog X.w) k fa N ps (spT X.prog X.w X.K F B)) (O:fi k X.A) (T:Gl X f) (Y:X.mg f=a5 (.ref fa)) (Oy:PySem.W.keepIn X.K (.ref fa)=b8) (j:Binds X.K N ps [])
  (Lu:(f==("__debug__":Str))=cc) (ha:PA X (e::es) (J4 C ms)) (he:hW (e::es) X.env=(cc,ve e X.env)::hW es X.env) (JC:(DD pos (hW es X.env)).any (·.1)=cc) :
  PE X (.Call (.Name f p) (e::es) [] pos) (IV C (ms >>= λrs=>aC rs >>= λ_=>la Γ f (rs.map (·.2)))):=by
 rintro pins s σ H Q I ⟨c0,rfl,rfl,ok,h⟩;refine ro (dy I T Y ?_ Lu);refine PySem.W.callWith_K (h₀:=X.base) I.ok.mod.NU Oy (IX (args ha I ok h pos) λus s1 ⟨rs,c,vs,t,D,rv,w⟩=>⟨D.LH,?_⟩) he JC;obtain⟨r,st',g,q⟩:=w;unfold la at g;rw[L]at g;cases i:F (rs.map (·.2)) with
 |none=>rw[i]at g;cases g
 |some r' =>
  rw[i]at g;split at g
  ·cases g
  ·rename_i z;cases z
  rename_i X7 e3;cases e3;cases g;obtain⟨l,u⟩:=r;obtain⟨k0,k2⟩:=hk _ _ _ i;have k1:l=.own\/l=.loc:=by
   rcases k0 with z|z|z
   ·exact .inl z
   ·exact .inr z
   ·subst z;exact(X7 u rfl).elim
  have n:C.Eqv (MA X.prog X.w X.K c.H (Kl c.H)):=⟨o,x,y⟩
  have KP:(MA X.prog X.w X.K c.H (Kl c.H)).Eqv C:=⟨o.symm,x.symm,y.symm⟩
  have J:=t.read;have Kj:spT X.prog X.w X.K F B vs c.H (λv H'=>Q v H') E0:=⟨by rw[<-J.len];exact k2,rs.map (·.2),.ok (l,u),Kl c.H,i,λ_ z=>z,J.cg n,k0,λv H' S' j=>j.here k1 t.hσ t.ok t.nx KP q⟩
  have z:=xu (Q:=Q) G O j .nil Gm D rv (by rw[tj];exact Kj);rw[t.hσ]at z;exact z
end
section
noncomputable def Mf.id:Mf->String
 |.split=>"str.split"|.join=>"str.join"|.partition=>"str.partition"|.endswith=>"str.endswith"
noncomputable def Mf.name:Mf->Str
 |.split=>"split"|.join=>"join"|.partition=>"partition"|.endswith=>"endswith"
theorem yz(h:mE f u rs=a5 r):∃x,u=.str x:=by
 unfold mE at h;split at h
 ·exact⟨_,rfl⟩
 ·cases h
theorem EA(l:C.K=X.K)(t:LB C b c (x::rs) (d::vs))(I:Inv X a c.σ c.H s)(m:RelV d v)(rv:Vals vs us)(h:mE f x.2 rs=a5 r)(q:bY C b Q r c.st):
  d6 (ez X.prog X.w) X.A (NQ (.builtin f.id) (v::us)) (EP X a c.σ Q) X.xe s:=by
 have o:=t.hσ;have g:=t.ok;have n:=t.nx;obtain⟨p,u⟩:=x;have hs:=gr.mp t.NH;obtain⟨G,J,y,i,j,-⟩:=t.rep;cases y;have z:aM C b c p u d:=i.t hs.1;have one:∀{r:Kd×U},cQ C b c [r] vs->bq [r] c.st->∃v,vs=[v]/\aM C b c r.1 r.2 v:=λ{r} h s=>by
  obtain⟨v,t',rfl,i,j,_⟩:=h;cases j;exact⟨v,rfl,i.t s⟩
 dsimp only at h
 unfold mE at h;split at h
 ·rw[sx]at h;obtain⟨ss,e,h⟩:=h;have B:=cR e;subst B;obtain⟨w,rfl,ty⟩:=one j hs.2;obtain⟨a',ws,ex,D,k⟩:=ty.list g;rw[aq.strs]at k;subst k;split at h
  ·cases h;exact A5 a s c.σ c.H d [w] v us Q I m rv ⟨_,a',ss,z.str g,by rw[ex],l▸D,by assumption,q.flat o g n rfl⟩
  ·cases h
 ·cases h
theorem BI(O:C.K=X.K)(slot:Slot "str" name f.id)(T:W2 (.builtin f.id)=pure (.type "method_descriptor"))(ho:PE X o (IV C m))(Y:PA X (e::es) (J4 C ms))
  (K7:Tc o name X.env (ve o X.env)=ve o X.env)
  (JX:((DD g (hW (e::es) X.env)).all (λx=>!x.1)&&(Ql g (L9 [] X.env)).all (λx=>x.1.isSome)
   && cK ((e::es).length+([]:List Oi).length+(if ([]:List Oi).isEmpty then 0 else 1)<30))=b8)
  (Jc:(k.endLine==g.line)=b8) (hs:hW (e::es) X.env=(cc,ve e X.env)::hW es X.env) (JS:(DD g (hW es X.env)).any (·.1)=cc) :
  PE X (.Call (.Attribute o name k) (e::es) [] g) (IV C (m >>= λx=>ms >>= λrs=>aC (x::rs) >>= λ_=>M.Jb (mE f x.2 rs))):=by
 rintro a s σ H Q I ⟨b,rfl,rfl,ok,h⟩;refine Z7 K7 JX Jc rfl (IX (ho a s b.σ b.H (λl y=>∃x d,d.H=y/\LA C b d x l/\W (ms >>= λrs=>aC (x::rs) >>= λ_=>M.Jb (mE f x.2 rs)) d.st (bY C b Q)) I (aR ok h λx c v t w=>⟨x,c,rfl,t,w⟩)) ?_);rintro v s1 ⟨l,y,A,B,x,d,rfl,t,w⟩;have Oz:∃z,x.2=.str z:=by
  rw[ah]at w;obtain⟨rs,st2,_,w⟩:=w;rw[ah]at w;obtain⟨_,JB,_,w⟩:=w;obtain⟨r,e,_⟩:=bE.mp w;exact yz e
 obtain⟨z,hz⟩:=Oz;have D:=t.rx;rw[hz]at D;have ev:=D.str t.ok;have ty:Q5 X.K "str" l d.H:=by rw[ev];rfl
 obtain⟨h1,h2⟩:=oB A B ty;refine⟨"str",f.id,PySem.F.plainAttrs_str,slot,T,h1,h2,?_⟩;rw[ah]at w;have G:=Y g a s1 b.σ d.H (λvs J=>∃rs j,j.H=J/\LB C b j (x::rs) (l::vs)/\W (M.Jb (mE f x.2 rs)) j.st (bY C b Q)) A ⟨d,t.hσ,rfl,t.ok,w.mono λrs st2 p j vs L e4 Jj N n=>by
  rw[ah,cG]at p;subst e4;exact⟨rs,j,rfl,⟨L,Jj,t.nx.trans N,⟨l,vs,rfl,t.rx.w.on t.ok N (L.trans t.hσ.symm),n.from t.nx,λhk i r' v' e5 e6 Jv=>oU t.rx.w (n.get e5 e6) hk Jv⟩,p.1⟩,p.2⟩⟩
 rw[hs]at G ⊢;refine Kq (by show(cc||(DD g (hW es X.env)).any (·.1))=cc;rw[JS]<;>rfl) (LF ?_);refine IX G ?_;rintro us s2 ⟨vs,J,I2,n,rs,j,rfl,u,w2⟩;obtain⟨r,e,q⟩:=bE.mp w2;have z:=EA O u (by rw[u.hσ];exact I2) B n e q;rw[u.hσ]at z;exact z
end
section
variable{X:Cx}{C:Ct}{pins:List (eH×Obj)}{s:d8}{c0 c c1:Cf}
variable{e:mf}{es:List mf}{ms:M (List (Kd×U))}{pos p p2 pos2:Pos}
noncomputable def B2.out:B2->d3
 |.Mw=>.type "tuple"|.KJ=>.type "list"|.sset=>.builtin "sorted"|.mn=>.builtin "len"
noncomputable def B2.Rt:B2->d3
 |.Mw=>.type "reversed"|.KJ=>.type "reversed"|.sset=>.type "set"|.mn=>.type "set"
noncomputable def B2.oW:B2->Str
 |.Mw=>"tuple"|.KJ=>"list"|.sset=>"sorted"|.mn=>"len"
noncomputable def B2.iQ:B2->Str
 |.Mw=>"reversed"|.KJ=>"reversed"|.sset=>"set"|.mn=>"set"
theorem aq.rev{S:eH->Prop}:∀{us:List U}{vs:List V},aq C S H us vs->aq C S H us.reverse vs.reverse
 |[],vs,h=>by cases h;exact rfl
 |u::us,vs,h=>by
  obtain⟨v,r,rfl,a,b⟩:=h;rw[Sl,Sl];exact(aq.rev b).append ⟨v,[],rfl,a,rfl⟩
theorem m_(i:C.K=X.K)(j:Ok C c)(l:aM C c0 c k u v)(h:iJ u=a5 ss):∃a b,v=.ref a/\(Jn X.K c.H a (b.map V.str)\/JH X.K c.H a (b.map V.str))/\b.length+1<D6/\ss=aK b:=by
 unfold iJ at h;split at h
 ·rw[sx]at h;obtain⟨b,e,h⟩:=h;have g:=cR e;subst g;obtain⟨a',ws,ex,f,d⟩:=l.list j;rw[aq.strs]at d;subst d;split at h
  ·cases h;exact⟨a',b,ex,.inl (i▸f),by assumption,rfl⟩
  ·cases h
 ·rw[sx]at h;obtain⟨b,e,h⟩:=h;have g:=cR e;subst g;obtain⟨a',ws,ex,f,d⟩:=l.tuple j;rw[aq.strs]at d;subst d;rw[i]at f;split at h
  ·cases h;exact⟨a',b,ex,.inr f,by assumption,rfl⟩
  ·cases h
 ·cases h
theorem EB(d:X.calm=b8)(k:C.K=X.K)(t:LB C c0 c rs vs)(I:Inv X pins c.σ c.H s)(rv:Vals vs us)(h:rU f rs=a5 r)(q:bY C c0 Q r c.st):
  d6 (ez X.prog X.w) X.A (NQ f.Rt us) (λv s1=>d6 (ez X.prog X.w) X.A (NQ f.out [v]) (EP X pins c.σ Q) X.xe s1) X.xe s:=by
 have m:=t.hσ;have a:=t.ok;have n:=t.nx;cases f with
 |KJ =>
  obtain⟨x,rfl,hz⟩:=bX (f:=Eh) h;clear h;have h:=hz;clear hz;obtain⟨v,rfl,g⟩:=t.one;unfold Eh at h;split at h
  ·obtain⟨a',ws,ex,b,i⟩:=g.list a;rw[k]at b;subst ex;obtain⟨u,rfl,j⟩:=vals1 rv;cases j;split at h
   ·cases h;exact x8 d I b λl hl=>q.list m a n (eX (by assumption) i).rev l hl
   ·cases h
  ·cases h
 |sset =>
  obtain⟨x,rfl,hz⟩:=bX (f:=λx=>(iJ x.2).bind λss=>if ss.length<64 then a5 (Kd.own,U.lst ((aB ss).map .str)) else bD) h;clear h;have h:=hz;clear hz;obtain⟨ss,e,h⟩:=sx.mp h;obtain⟨v,rfl,g⟩:=t.one;obtain⟨a',z,rfl,b,i,rfl⟩:=m_ k a g e;obtain⟨u,rfl,j⟩:=vals1 rv;cases j;split at h
  ·cases h;exact oN d I b i λS h' B o y=>gN d y o (by assumption) λl hl=>q.list m a n (aq.strs.mpr rfl) l hl
  ·cases h
 |_=>cases h
theorem uh:∀f:B2,tv f.oW=a5 f.out/\tv f.iQ=a5 f.Rt/\f.oW≠"__name__"/\f.iQ≠"__name__"/\(f.oW==("__debug__":Str))=cc/\(f.iQ==("__debug__":Str))=cc:=by
 intro f;cases f<;>exact⟨by decide +kernel,by decide +kernel,by decide +kernel,by decide +kernel,by decide +kernel,by decide +kernel⟩
theorem EC(f:B2):∃T,f.Rt=.type T:=by cases f<;>exact⟨_,rfl⟩
theorem ED(f:B2):(∃T,f.out=.type T)\/∃T,f.out=.builtin T:=by cases f<;>first|exact .inl ⟨_,rfl⟩|exact .inr ⟨_,rfl⟩
theorem ui{M:Model}{E:d3->d8->Prop}(h:d6 M A t (λv a=>d6 M A (NQ (.type T) [v]) Q E a) E s):d6 M A (callWith pos (.type T) [] [(cc,t)] []) Q E s :=
 PySem.callWith_type rfl (LF (MM (mh h (λ_ _ b=>PB b) λ_ _ e=>e)))
theorem oX{M:Model}{E:d3->d8->Prop}(h:d6 M A t (λv a=>d6 M A (NQ (.builtin T) [v]) Q E a) E s):d6 M A (callWith pos (.builtin T) [] [(cc,t)] []) Q E s :=
 Kq rfl (LF (MM (mh h (λ_ _ b=>PB b) λ_ _ e=>e)))
theorem yA(b:X.calm=b8)(d:C.K=X.K)(g:Gl X f.iQ)(i:X.mg f.iQ=bD)
  (j:PA X (e::es) (J4 C ms)) (k:hW (e::es) X.env=(cc,ve e X.env)::hW es X.env) (l:(DD pos2 (hW es X.env)).any (·.1)=cc)
  (I:Inv X pins c0.σ c0.H s) (m:Ok C c0) (h:W (ms >>= λrs=>aC rs >>= λ_=>M.Jb (rU f rs)) c0.st (bY C c0 Q)) :
  d6 (ez X.prog X.w) X.A (ve (.Call (.Name f.iQ p2) (e::es) [] pos2) X.env) (λv s1=>d6 (ez X.prog X.w) X.A (NQ f.out [v]) (EP X pins c0.σ Q) X.xe s1) X.xe s:=by
 obtain⟨b1,n,b3,b4,B,o⟩:=uh f;refine ro (cH I g i n ?_ b4 o);have a:d6 (ez X.prog X.w) X.A (Ċ (DD pos2 (hW (e::es) X.env))) (λus s1=>d6 (ez X.prog X.w) X.A (NQ f.Rt us) (λv s1=>d6 (ez X.prog X.w) X.A (NQ f.out [v]) (EP X pins c0.σ Q) X.xe s1) X.xe s1) X.xe s :=
  IX (args j I m h pos2) λus s1 u=>by
   obtain⟨rs,c,vs,t,x,rv,w⟩:=u;obtain⟨r,e,q⟩:=bE.mp w;have z:=EB b d t x rv e q;rw[t.hσ]at z;exact z
 obtain⟨T,y⟩:=EC f;rw[y]at a ⊢;exact J1 a k l
theorem BJ(d:X.calm=b8)(g:C.K=X.K)(i:Gl X f.oW)(j:X.mg f.oW=bD)(k:Gl X f.iQ)(l:X.mg f.iQ=bD)
  (m:PA X (e::es) (J4 C ms)) (n:hW (e::es) X.env=(cc,ve e X.env)::hW es X.env) (o:(DD pos2 (hW es X.env)).any (·.1)=cc) :
  PE X (.Call (.Name f.oW p) [.Call (.Name f.iQ p2) (e::es) [] pos2] [] pos) (IV C (ms >>= λrs=>aC rs >>= λ_=>M.Jb (rU f rs))):=by
 rintro pins s σ H Q I ⟨c0,rfl,rfl,q,h⟩;obtain⟨b1,v,b3,b4,r,w⟩:=uh f;refine ro (cH I i j b1 ?_ b3 r);have a:=yA (p2:=p2) (pos2:=pos2) d g k l m n o I q h;have t:DD pos (hW [.Call (.Name f.iQ p2) (e::es) [] pos2] X.env)=[(cc,ve (.Call (.Name f.iQ p2) (e::es) [] pos2) X.env)]:=rfl;have u:Ql pos (L9 [] X.env)=[]:=rfl;rw[t,u];rcases ED f with⟨T,b⟩|⟨T,b⟩
 ·rw[b]at a ⊢;exact ui a
 ·rw[b]at a ⊢;exact oX a
end
section
variable{X:Cx}{C:Ct}{pins:List (eH×Obj)}{s:d8}{c0 c c1:Cf}
variable{a b d e o tg:mf}{es:List mf}{m ma mb md:M (Kd×U)}{ms:M (List (Kd×U))}{ta tb:M Bool}{pos p p2 apos G':Pos}
def lp(rs:List (Kd×U))(c f:Cf):Prop:=∀j u,(Kd.bor j,u)∈rs->f.σ[j]?=c.σ[j]?
def Walk(C:Ct)(c:Cf)(rs:List (Kd×U))(xs:List (Kd×U))(J:It):Prop:=∀f,Ok C f->Ns c f->lp rs c f->bq rs f.st ->
 (∀(i:Nat) r,xs[i]?=a5 r->(r.1=.loc\/r.1=.any)/\J.go i f.H/\∀x H',J.Q0 i f.H x H'->∃g:Cf,g.H=H'/\g.σ=f.σ/\g.st=f.st/\Ok C g/\Nx f g/\aM C f g r.1 r.2 x) /\
 ∀i:Nat,xs.length<=i->J.stop i f.H
def MB(C:Ct)(f:Ik)(ms:M (List (Kd×U))):TI:=λσ H R=>∃c0:Cf,c0.σ=σ/\c0.H=H/\Ok C c0/\W (ms >>= λrs=>aC rs >>= λ_=>M.Jb (K' f rs) >>= λxs=>pure (rs,xs)) c0.st λq st' =>
 ∀c J,c.σ=σ->c.st=st'->Ok C c->Nx c0 c->bq q.1 c.st->Walk C c q.1 q.2 J->R J c.H
theorem aM.walk(g:Ok C c)(n:Ns c f)(i:lp [r] c f)(hs:bq [r] f.st)(h:aM C c0 c r.1 r.2 v):aM C c0 f r.1 r.2 v :=
 (h.w.VA g n λj e=>i j r.2 (by rw[<-e];simp)).t hs
theorem uj(k:Kd):kE k=.loc\/kE k=.any:=by cases k<;>simp[kE]
theorem v_(z:C.K=X.K)(A:Ok C c)(h:aM C c0 c k (.lst us) (.ref a')):Walk C c [(k,.lst us)] (us.map λu=>(kE k,u)) (R8 X.K a'):=by
 intro l q n B hs;have h':=aM.walk (r:=(k,.lst us)) A n B hs h;obtain⟨H,vs,e,f,t⟩:=h'.list q;cases e;rw[z]at f;refine⟨λi r w=>?_,λi D=>⟨vs,f,by rw[<-t.len];simpa using D⟩⟩;rw[ko,gs]at w;obtain⟨u,G,rfl⟩:=w;obtain⟨v,y,g⟩:=t.get G;refine⟨uj k,⟨vs,v,f,y⟩,λx H' j=>?_⟩;obtain⟨e,j⟩:=j;subst e;have:=j vs f;rw[y]at this;cases this;exact⟨l,rfl,rfl,rfl,q,Nx.refl l,aM.item g⟩
theorem rY(z:C.K=X.K)(A:Ok C c)(h:aM C c0 c k (.tup us) (.ref a')):Walk C c [(k,.tup us)] (us.map λu=>(kE k,u)) (R9 X.K a'):=by
 intro l q n B hs;have h':=aM.walk (r:=(k,.tup us)) A n B hs h;obtain⟨H,vs,e,f,t⟩:=h'.tuple q;cases e;rw[z]at f;refine⟨λi r w=>?_,λi D=>⟨vs,f,by rw[<-t.len];simpa using D⟩⟩;rw[ko,gs]at w;obtain⟨u,G,rfl⟩:=w;obtain⟨v,y,g⟩:=t.get G;refine⟨uj k,⟨vs,v,f,y⟩,λx H' j=>?_⟩;obtain⟨e,j⟩:=j;subst e;have:=j vs f;rw[y]at this;cases this;exact⟨l,rfl,rfl,rfl,q,Nx.refl l,aM.item g⟩
theorem rZ{lo:Int}:Walk C c rs ((hJ n).map λi:Nat=>(Kd.loc,U.int (lo+(i:Int)))) (Q3 lo n):=by
 intro h l nx t hs;refine⟨λi r k=>?_,λi f=>by show n<=i;simpa using f⟩;rw[ko,gs]at k;obtain⟨j,g,rfl⟩:=k;have f:i<n:=by simpa using(dV.mp g).1
 rw[List.getElem?_range f]at g;cases g;refine⟨.inl rfl,f,λy H' q=>?_⟩;obtain⟨e,rfl⟩:=q;subst e;exact⟨h,rfl,rfl,rfl,l,Nx.refl h,rfl⟩
theorem EF(i:C.K=X.K)(t:PE X a (IV C ma)):PI X tg a (MB C .seq (ma >>= λr=>pure [] >>= λrs=>pure (r::rs))):=by
 rintro pins s σ H R I ⟨c0,rfl,rfl,w,h⟩;rw[ah,ah]at h;obtain⟨r,st1,x,h⟩:=h;rw[ah,ao,ao,ah,cG,ah]at h;obtain⟨y,h⟩:=h;obtain⟨xs,j,h⟩:=bE.mp h;rw[ao]at h;obtain⟨k,u⟩:=r;cases u with
 |lst us =>
  cases j;refine AG t pins s c0.σ c0.H R I ⟨c0,rfl,rfl,w,_,st1,x,λc v l hs g n f=>?_⟩;obtain⟨a',vs,rfl,q,A⟩:=f.list g;subst hs;exact⟨a',rfl,⟨vs,i▸q⟩,h c _ l rfl g n y (v_ i g f)⟩
 |tup us =>
  cases j;refine DB t pins s c0.σ c0.H R I ⟨c0,rfl,rfl,w,_,st1,x,λc v l hs g n f=>?_⟩;obtain⟨a',vs,rfl,q,A⟩:=f.tuple g;subst hs;have z:=q;rw[i]at z;exact⟨a',rfl,⟨vs,z⟩,h c _ l rfl g n y (rY i g f)⟩
 |_=>cases j
theorem r9{k:List (Kd×U)->M β}{Post:β->aw->Prop}(g:Ok C c0)(h:W (ms >>= λrs=>aC rs >>= λ_=>k rs) c0.st Post)
  (hz:∀rs c vs,LB C c0 c rs vs->W (k rs) c.st Post->Z vs c.H):J4 C ms c0.σ c0.H Z:=by
 rw[ah]at h;refine⟨c0,rfl,rfl,g,h.mono λrs st1 f c1 vs i j l n q=>?_⟩;rw[ah,cG]at f;subst j;exact hz rs c1 vs ⟨i,l,n,q,f.1⟩ f.2
theorem BK(i:Gl X "range")(j:X.mg "range"=bD)(hs:hW [a] X.env=[(cc,ve a X.env)])(k:PA X [a] (J4 C ms)):PI X tg (.Call (.Name "range" p) [a] [] pos) (MB C .JT ms):=by
 rintro pins s σ H R I ⟨c0,rfl,rfl,l,h⟩;refine vk i j k hs pins s c0.σ c0.H R I (r9 l h λrs c vs t w=>?_);rw[ah]at w;obtain⟨xs,g,w⟩:=bE.mp w;rw[ao]at w;obtain⟨x,rfl,hz⟩:=bX (f:=yi) g;clear g;have g:=hz;clear hz;obtain⟨v,rfl,n⟩:=t.one;unfold yi at g;split at g
 ·split at g
  ·rename_i q;cases g;exact⟨_,by rw[n.int t.ok],⋯,⋯,w c _ t.hσ rfl t.ok t.nx t.NH rZ⟩
  ·cases g
 ·cases g
theorem qy{k:Kd}{us:List U}{h:U}{a':eH}{w:Hp->List V->Prop}(G:∀f,Ok C f->Ns c f->lp [(k,h)] c f->bq [(k,h)] f.st->∃vs,w f.H vs/\aq C (SK C f k) f.H us vs):Walk C c [(k,h)] (us.zipIdx.map λp=>(kE k,.tup [.int p.2,p.1])) (O9 w):=by
 intro f g n I hs;obtain⟨vs,j,y⟩:=G f g n I hs;refine⟨λi r z=>?_,λi J=>⟨vs,j,by rw[<-y.len];simpa using J⟩⟩;rw[ko,gs]at z;obtain⟨p,A,rfl⟩:=z;rw[TF,gs]at A;obtain⟨u,L,rfl⟩:=A;obtain⟨v,B,l⟩:=y.get L;refine⟨uj k,⟨vs,v,j,B⟩,λx H' q=>?_⟩;obtain⟨p,N,rfl,q⟩:=q;have O:=q vs v j B;subst O;obtain⟨Q,t⟩:=g.lay (o:=.tup [.int i,v]) N;refine⟨{f with H:=upd f.H p (.tup [.int i,v])},rfl,rfl,rfl,Q,t,aM.item ?_⟩;have D:aq C (SK C f k) f.H [.int ((0+i:Nat):Int),u] [.int (i:Int),v]:=by
  rw[P1];exact⟨_,_,rfl,rfl,_,_,rfl,l,rfl⟩
 cases k<;>exact⟨p,_,rfl,JH.of ay,by first|exact D.mv (g.M8 t)|exact D.mv (g.mv t)⟩
theorem EG{es:List mf}{z:Nat}{ps:Pos}(k:C.K=X.K)(A:Gl X "enumerate")(B:X.mg "enumerate"=bD)(hs:hW [a] X.env=[(cc,ve a X.env)])(D:PA X [a] (J4 C ms)):PI X (.Tuple es z ps) (.Call (.Name "enumerate" p) [a] [] pos) (MB C .Ot ms):=by
 rintro pins s σ H R I ⟨c0,rfl,rfl,G,h⟩;refine A9 A B D hs pins s c0.σ c0.H R I (r9 G h λrs c vs t w=>?_);rw[ah]at w;obtain⟨xs,i,w⟩:=bE.mp w;rw[ao]at w;obtain⟨x,rfl,hz⟩:=bX (f:=Ei) i;clear i;have i:=hz;clear hz;obtain⟨v,rfl,l⟩:=t.one;unfold Ei at i;split at i
 ·cases i;obtain⟨a',ws,q,g,j⟩:=l.list t.ok;subst q;refine⟨a',rfl,.inl ⟨⟨ws,k▸g⟩,w c _ t.hσ rfl t.ok t.nx t.NH ?_⟩⟩;refine qy (a':=a') λJ r n u y=>?_;obtain⟨L,vs,e,g,j⟩:=(aM.walk t.ok n u y l).list r;cases e;exact⟨vs,k▸g,j⟩
 ·cases i;obtain⟨a',ws,q,g,j⟩:=l.tuple t.ok;subst q;rw[k]at g;refine⟨a',rfl,.inr ⟨⟨ws,g⟩,w c _ t.hσ rfl t.ok t.nx t.NH ?_⟩⟩;refine qy (a':=a') λJ r n u y=>?_;obtain⟨L,vs,e,g,j⟩:=(aM.walk t.ok n u y l).tuple r;cases e;rw[k]at g;exact⟨vs,g,j⟩
 ·cases i
theorem yB{vs:List V}(A:C.K=X.K)(B:Ok C c)(h:aM C c0 c k (.lst us) (.ref a'))(hl:us.length=vs.length):Walk C c [(k,.lst us)] (us.reverse.map λu=>(kE k,u)) (Tt X.K a' vs.length):=by
 intro t w n D hs;have h':=aM.walk (r:=(k,.lst us)) B n D hs h;obtain⟨H,ws,e,f,y⟩:=h'.list w;cases e;rw[A]at f;have I:=y.len;refine⟨λi r z=>?_,λi g=>by show vs.length<=i;rw[<-hl];simpa using g⟩;rw[ko,gs]at z;obtain⟨u,j,rfl⟩:=z;have g:i<us.length:=by simpa using(dV.mp j).1
 rw[Y' g,hl]at j;obtain⟨v,G,l⟩:=y.get j;refine⟨uj k,⟨⋯,ws,f,⋯⟩,λx H' q=>?_⟩;obtain⟨e,q⟩:=q;subst e;have:=q ws f;rw[G]at this;cases this;exact⟨t,rfl,rfl,rfl,w,Nx.refl t,aM.item l⟩
theorem EH(k:X.calm=b8)(i:C.K=X.K)(l:Gl X "reversed")(n:X.mg "reversed"=bD)(hs:hW [a] X.env=[(cc,ve a X.env)])(q:PA X [a] (J4 C ms)):PI X tg (.Call (.Name "reversed" p) [a] [] pos) (MB C .rev ms):=by
 rintro pins s σ H R I ⟨c0,rfl,rfl,r,h⟩;refine D4 k l n q hs pins s c0.σ c0.H R I (r9 r h λrs c vs t w=>?_);rw[ah]at w;obtain⟨xs,g,w⟩:=bE.mp w;rw[ao]at w;obtain⟨x,rfl,hz⟩:=bX (f:=Ej) g;clear g;have g:=hz;clear hz;obtain⟨v,rfl,j⟩:=t.one;unfold Ej at g;split at g
 ·cases g;obtain⟨a',ws,u,y,z⟩:=j.list t.ok;subst u;exact⟨a',ws,rfl,i▸y,w c _ t.hσ rfl t.ok t.nx t.NH (yB i t.ok j z.len)⟩
 ·cases g
theorem Ok.put(t:Ok C c)(n:Nx c0 c)(Q:i<c.σ.length)(hk:k=.own\/k=.loc\/k=.any)(J_:Ok C c0)(h:aM C c0 c k u v):
  Ok C {c with σ:=c.σ.set i (a5 v),st:=c.st.set i (a5 (k,u))}/\Nx c0 {c with σ:=c.σ.set i (a5 v),st:=c.st.set i (a5 (k,u))}:=by
 have T:i<c.st.length:=by rw[t.len];exact Q
 have Y:∀(j:Nat) k' u',(c.st.set i (a5 (k,u)))[j]?=a5 (a5 (k',u'))->j≠i->c.st[j]?=a5 (a5 (k',u')):=λj k' u' e ne=>by rw[hQ (r6 ne)]at e;exact e
 have Lb:∀(j:Nat) B,(c.σ.set i (a5 v))[j]?=a5 (a5 B)->j≠i->c.σ[j]?=a5 (a5 B):=λj B e ne=>by rw[hQ (r6 ne)]at e;exact e
 have sl:fV C c.S c.H k u v:=by
  rcases hk with rfl|rfl|rfl
  ·obtain⟨r,e,D,J,y,L⟩:=h;obtain⟨z0,z1,N,z3,z4⟩:=J_.k_ D;exact⟨r,e,J,N,z0,L⟩
  ·exact h
  ·exact h
 have OA:∀(j:Nat) k' u' r,k'.root=b8->(c.st.set i (a5 (k,u)))[j]?=a5 (a5 (k',u'))->(c.σ.set i (a5 v))[j]?=a5 (a5 (.ref r))->j=i/\k=.own/\v=.ref r\/j≠i/\c.st[j]?=a5 (a5 (k',u'))/\c.σ[j]?=a5 (a5 (.ref r)):=λj k' u' r G g l=>by
  by_cases f:j=i
  ·subst f;rw[ei T]at g;rw[ei Q]at l;cases g;cases l;rcases hk with rfl|rfl|rfl
   ·exact .inl ⟨rfl,rfl,rfl⟩
   ·cases G
   ·cases G
  ·exact .inr ⟨f,Y j k' u' g f,Lb j _ l f⟩
 have dD:∀(j:Nat) (u':U),(c.st.set i (a5 (k,u)))[j]?=a5 (a5 (.IK,u'))->c.st[j]?=a5 (a5 (.IK,u'))/\(c.σ.set i (a5 v))[j]?=c.σ[j]?:=λj u' e=>by
  by_cases f:j=i
  ·subst f;rw[ei T]at e;cases e;rcases hk with hk|hk|hk<;>cases hk
  ·exact⟨Y j .IK u' e f,hQ (r6 f)⟩
 have b1:∀a,({c with σ:=c.σ.set i (a5 v),st:=c.st.set i (a5 (k,u))}:Cf).R1 a->c.R1 a\/k=.own/\v=.ref a:=λa Jm=>by
  obtain⟨j,k',u',G,g,l⟩:=Jm;rcases OA j k' u' a G g l with⟨O,w,x⟩|⟨O,w,x⟩
  ·exact .inr ⟨w,x⟩
  ·exact .inl ⟨j,k',u',G,w,x⟩
 have Nd:LZ C {c with σ:=c.σ.set i (a5 v),st:=c.st.set i (a5 (k,u))}:=t.dd.of rfl dD (λa z=>(b1 a z).imp id λ⟨q1,q2⟩ j z'=>by
  subst q1;obtain⟨I,e,_,_,y,_⟩:=h;rw[q2]at e;cases e;exact y (.inr ⟨j,z'⟩)) (.up λ_ z=>z) λj a z=>⟨(t.root (.inr ⟨j,z⟩)).1,λo q=>q⟩
 refine⟨⟨t.same,t.K5,t.par,t.io,by simp[t.len],λj k' u' e=>?_,λj1 j2 k1 k2 u1 u2 r TZ Qr g l e3 e4=>?_,Nd⟩,⟨⟨n.keep,n.there,λa z=>?_,n.sub,n.new⟩⟩⟩
 ·by_cases f:j=i
  ·subst f;rw[ei T]at e;cases e;exact⟨v,by rw[ei Q],sl⟩
  ·obtain⟨B,g,l⟩:=t.sl j k' u' (Y j k' u' e f);exact⟨B,by rw[hQ (r6 f)];exact g,l⟩
 ·have z1:=OA j1 k1 u1 r TZ g e3;have N:=OA j2 k2 u2 r Qr l e4;rcases z1 with⟨O,w,x⟩|⟨O,w,x⟩
  ·rcases N with⟨b1,A,b3⟩|⟨b1,A,b3⟩
   ·exact O.trans b1.symm
   ·subst w;obtain⟨I,e,D,J,y,L⟩:=h;rw[x]at e;cases e;exact(y (.inl ⟨j2,k2,u2,Qr,A,b3⟩)).elim
  ·rcases N with⟨b1,A,b3⟩|⟨b1,A,b3⟩
   ·subst A;obtain⟨I,e,D,J,y,L⟩:=h;rw[b3]at e;cases e;exact(y (.inl ⟨j1,k1,u1,TZ,w,x⟩)).elim
   ·exact t.inj j1 j2 k1 k2 u1 u2 r TZ Qr w A x b3
 ·rcases z with z|⟨j,u',I,g,l,e3⟩
  ·rcases b1 a z with z|⟨w,x⟩
   ·exact n.roots a (.inl z)
   ·subst w;obtain⟨I,e,D,J,y,L⟩:=h;rw[x]at e;cases e;exact .inr D
  ·obtain⟨q1,q2⟩:=dD j u' g;exact n.roots a (.inr ⟨j,u',I,q1,q2▸l,e3⟩)
theorem kh(z:Ok C c0)(q:Ok C c)(n:Nx c0 c)(A:i<c.σ.length)(t:aM C c0 c r.1 r.2 v)(h:W (dB i r) c.st Post):
  ∃y,y.σ=c.σ.set i (a5 v)/\y.H=c.H/\Ok C y/\Nx c0 y/\Post () y.st:=by
 obtain⟨k,u⟩:=r;cases k with
 |own =>
  obtain⟨x,st',e,f⟩:=h;cases e;obtain⟨g,l⟩:=q.put n A (.inl rfl) z t;exact⟨{c with σ:=c.σ.set i (a5 v),st:=c.st.set i (a5 (.own,u))},rfl,rfl,g,l,f⟩
 |loc =>
  obtain⟨x,st',e,f⟩:=h;cases e;obtain⟨g,l⟩:=q.put n A (.inr (.inl rfl)) z t;exact⟨{c with σ:=c.σ.set i (a5 v),st:=c.st.set i (a5 (.loc,u))},rfl,rfl,g,l,f⟩
 |any =>
  obtain⟨x,st',e,f⟩:=h;cases e;obtain⟨g,l⟩:=q.put n A (.inr (.inr rfl)) z t;exact⟨{c with σ:=c.σ.set i (a5 v),st:=c.st.set i (a5 (.any,u))},rfl,rfl,g,l,f⟩
 |bor j =>
  obtain⟨x,st',e,f⟩:=h;rw[show dB i (.bor j,u) c.st=match c.st[j]? with|some (a5 (.own,u))=>a5 (Ex.ok (),(c.st.set j (a5 (.loc,u))).set i (a5 (.loc,u)))|_=>bD from rfl]at e;split at e
  ·rename_i w D;cases e;obtain⟨O,G,r,J,_⟩:=q.sl j _ _ D;have I:c.σ[j]?=a5 (a5 v):=t.2;rw[I]at G;cases G;subst J;obtain⟨L,N,B⟩:=q.yw n D I;obtain⟨g,l⟩:=Ok.put (c:={c with S:=λa=>c.S a\/a=r,st:=c.st.set j (a5 (.loc,w))}) L N (k:=.loc) (u:=w) (v:=.ref r) A (.inr (.inl rfl)) z B;exact⟨{S:=λa=>c.S a\/a=r,H:=c.H,σ:=c.σ.set i (a5 (.ref r)),st:=(c.st.set j (a5 (.loc,w))).set i (a5 (.loc,w)),kid:=c.kid},rfl,rfl,g,l,f⟩
  ·cases e
 |_=>exact t.elim
end
section
def tG(C:Ct)(t:Bool)(is:List Nat):TG:=λv σ H Q=>∃b c r,c.σ=σ/\c.H=H/\Ok C b/\Ok C c/\Nx b c/\aM C b c r.1 r.2 v/\W (dC t is r) c.st λ_ st' =>
 ∀a,a.st=st'->Ok C a->Nx b a->(∀j,j∉is->a.σ[j]?=c.σ[j]?)->a.σ.length=c.σ.length->Q a.σ a.H
structure r_(X:Cx)(e:mf)(i:Nat):Prop where
 is:∃x pos,e=.Name x pos/\X.N[i]?=a5 x/\Loc X.env.scope x/\(X.fn x=b8\/X.env.scope.names.lookup x=a5 .local)
theorem EI(g:X.N.Nodup)(h:r_ X e i):PG X e (tG C cc [i]):=by
 obtain⟨x,pos,rfl,f,k,l⟩:=h.is;rintro a s σ H v u Q I rv ⟨G,c,r,rfl,rfl,m,o,n,b,w⟩;have p:i<c.σ.length:=by rw[I.len];exact(dV.mp f).1
 obtain⟨t,d,y,A,B,q⟩:=kh (r:=r) m o n p b w;refine tE g f k l a s c.σ c.H v u Q I rv ?_;have z:=q t rfl A B (λj D=>by rw[d,hQ (by intro z;exact D (by simp[z]))]) (by rw[d];simp);rw[d,y]at z;exact z
noncomputable def T1:List Nat->OV
 |[]=>FT
 |i::is=>CM (tD i) (T1 is)
inductive fz(X:Cx):List mf->List Nat->Prop where
 |nil:fz X [] []
 |cons {e:mf} {es:List mf} {i:Nat} {is:List Nat} (h:r_ X e i) (t:fz X es is):fz X (e::es) (i::is)
theorem wa(a:X.N.Nodup)(h:fz X es is):PD X es (T1 is):=by
 induction h with
 |nil=>exact AE
 |cons h t b =>
  obtain⟨x,pos,rfl,c,d,e⟩:=h.is;exact xm (tE a c d e) b rfl
theorem sd(h:fz X es is):(PV es X.env).length=is.length/\(PV es X.env).findIdx? (·.1)=bD:=by
 induction h with
 |nil=>exact⟨rfl,rfl⟩
 |cons h t a =>
  obtain⟨x,pos,rfl,b,c,d⟩:=h.is;refine⟨?_,?_⟩
  ·show(_::_).length=_;simp[a.1]
  ·show XR _ (_::_)=bD;rw[List.findIdx?_cons,Ň (by simp),a.2];rfl
theorem um(hk:kE k=k)(h:Ok C g):∀{is:List Nat}{us:List U}{vs:List V}{c:Cf}{Post:Unit->aw->Prop}{Q:L2.St->Hp->Prop},Ok C c->Nx g c->(∀i∈is,i<c.σ.length)->aq C (SK C c k) c.H us vs->W (sets is (us.map λu=>(k,u))) c.st Post ->
  (∀b,Post () b.st->Ok C b->Nx g b->(∀j,j∉is->b.σ[j]?=c.σ[j]?)->b.σ.length=c.σ.length->Q b.σ b.H)->T1 is vs c.σ c.H Q
 |[],[],vs,c,Post,Q,ok,n,d,a,w,q=>by
  rw[show sets [] (WI (λu=>(k,u)) [])=pure () from rfl,ao]at w;exact⟨a,q c w ok n (λ_ _=>rfl) rfl⟩
 |[],u::us,vs,c,Post,Q,ok,n,d,a,w,q=>(bu.mp w).elim
 |i::is,[],vs,c,Post,Q,ok,n,d,a,w,q=>(bu.mp w).elim
 |i::is,u::us,vs,c,Post,Q,ok,n,d,a,w,q=>by
  rw[show sets (i::is) (WI (λu=>(k,u)) (u::us))=dB i (k,u) >>= λ_=>sets is (us.map λu=>(k,u)) from rfl,ah]at w;obtain⟨v,r,rfl,l,m⟩:=a;have o:k=.own\/k=.loc\/k=.any:=by cases k<;>simp[kE]at hk<;>simp
  have D:k≠.own:=by cases k<;>simp[kE]at hk<;>simp
  have rt:aM C g c k u v:=by rw[<-hk];exact aM.item l
  obtain⟨s,t⟩:=ok.put n (d i (by simp)) o h rt;have es:dB i (k,u)=λst=>a5 (.ok (),st.set i (a5 (k,u))):=by cases k<;>simp[kE]at hk<;>rfl
  obtain⟨_,st',e,x⟩:=w;rw[es]at e;cases e;refine⟨v,r,rfl,um (c:={c with σ:=c.σ.set i (a5 v),st:=c.st.set i (a5 (k,u))}) hk h s t (λj f=>by simpa using d j (by simp[f])) (by cases k<;>exact m) x λb p y A B hl=>?_⟩;refine q b p y A (λj f=>?_) (by rw[hl];simp);rw[B j (λz=>f (by simp[z])),hQ (λz=>f (by simp[z]))]
theorem GC(m:X.calm=b8)(o:C.K=X.K)(q:X.N.Nodup)(h:fz X es is)(hl:∀i∈is,i<X.N.length):PG X (.Tuple es Y pos) (tG C b8 is):=by
 rintro a s σ H v u Q I rv ⟨c0,c,r,rfl,rfl,t,f,n,d,w⟩;obtain⟨y,z⟩:=sd h;refine Dw m (wa q h) y z a s c.σ c.H v u Q I rv ?_;obtain⟨k,A⟩:=r;cases A with
 |tup us =>
  rw[show dC b8 is (k,.tup us)=sets is (us.map λu=>(kE k,u)) from by cases is<;>rfl]at w;obtain⟨a',vs,rfl,g,j⟩:=d.tuple f;rw[o]at g;have b:us.length=is.length:=by
   have e:∀(is:List Nat) (l:List (Kd×U)) (st:aw) (P:Unit->aw->Prop),W (sets is l) st P->l.length=is.length:=by
    intro is;induction is with
    |nil=>intro l st P w;cases l with
     |nil=>rfl
     |cons _ _=>exact(bu.mp w).elim
    |cons i is B=>intro l st P w;cases l with
     |nil=>exact(bu.mp w).elim
     |cons x l =>
      rw[show sets (i::is) (x::l)=dB i x >>= λ_=>sets is l from rfl,ah]at w;obtain⟨_,_,_,w⟩:=w;rw[ke,ke,B l _ _ w]
   simpa using e _ _ _ _ w
  refine⟨a',vs,rfl,g,by rw[<-j.len,b],?_⟩;refine um (k:=kE k) (by cases k<;>rfl) t f n (λi D=>by rw[I.len];exact hl i D) (by cases k<;>exact j) w λG p J L O T=>p G rfl J L O T
 |_=>cases is<;>exact(bu.mp w).elim
end
section
variable{X:Cx}{C:Ct}{pins:List (eH×Obj)}{s:d8}{c0 c c1:Cf}
variable{a b d e o tg iter elt:mf}{es ifs:List mf}{m ma mb md me:M (Kd×U)}{ms:M (List (Kd×U))}{ta tb tc:M Bool}{pos p p2 apos G':Pos}
theorem wb{m:M α}{st:aw}{Q:α->aw->Prop}:W (inScope k m) st Q↔W m (i5 k bD++st) λa st'=>Q a (st'.drop k):=by
 constructor
 ·rintro⟨a,st',e,h⟩;unfold inScope at e;cases q:m (i5 k bD++st) with
  |none=>rw[q]at e;cases e
  |some r=>obtain⟨g,f⟩:=r;rw[q]at e;cases e;exact⟨a,f,q,h⟩
 ·rintro⟨a,st',e,h⟩;exact⟨a,st'.drop k,by unfold inScope;rw[e],h⟩
noncomputable def Cf.ext(k:Nat)(c:Cf):Cf:={c with σ:=i5 k bD++c.σ,st:=i5 k bD++c.st,kid:=λj=>c.kid (j - k)}
noncomputable def Cf.cut(k:Nat)(c:Cf):Cf:={c with σ:=c.σ.drop k,st:=c.st.drop k,kid:=λj=>c.kid (k+j)}
theorem gu(h:(i5 k bD++l)[j]?=a5 (a5 x)):∃i,j=k+i/\l[i]?=a5 (a5 x):=by
 by_cases f:j<k
 ·rw[u3 (by simpa using f)]at h;rw[Ki]at h;rw[ņ f]at h;cases h
 ·refine⟨j - k,⋯,?_⟩;rw[rr (by simp;lia)]at h;simpa using h
theorem fA:(i5 k bD++l)[k+i]?=l[i]?:=by
 rw[rr (by simp)];simp
theorem yC:(c.ext k).R1 r↔c.R1 r:=by
 constructor
 ·rintro⟨j,g,u,h,l,f⟩;obtain⟨i,rfl,e⟩:=gu l;rw[Cf.ext,fA]at f;exact⟨i,g,u,h,e,f⟩
 ·rintro⟨i,g,u,h,l,f⟩;exact⟨k+i,g,u,h,by rw[Cf.ext,fA];exact l,by rw[Cf.ext,fA];exact f⟩
theorem oY{a:eH}(h:(c.ext k).RD j a):∃i,j=k+i/\c.RD i a:=by
 obtain⟨u,r,l,f,g⟩:=h;obtain⟨i,rfl,e⟩:=gu l;rw[Cf.ext,fA]at f;refine⟨i,rfl,u,r,e,f,?_⟩;have:(c.ext k).kid (k+i)=c.kid i:=by show c.kid (k+i - k)=_;rw[X']
 rw[this]at g;exact g
theorem GD(h:(c.ext k).R r):c.R r:=by
 rcases h with h|⟨j,h⟩
 ·exact .inl (yC.mp h)
 ·obtain⟨i,_,h⟩:=oY h;exact .inr ⟨i,h⟩
theorem Ok.ext(k:Nat)(f:Ok C c):Ok C (c.ext k)/\Nx c (c.ext k):=by
 refine⟨⟨f.same,f.K5,f.par,f.io,by simp[Cf.ext,f.len],λj A u e=>?_,λi j k1 k2 u u' r B D l g y z=>?_,⟨λj u r l g=>?_,λi j a n q=>?_,λj a n q=>?_⟩⟩,⟨⟨λ_ _ h _=>h,λ_ o h=>⟨o,h⟩,λa h=>.inl (GD h),λ_ h=>h,λ_ h=>.inl h⟩⟩⟩
 ·obtain⟨i,rfl,G⟩:=gu e;obtain⟨v,l,g⟩:=f.sl i A u G;exact⟨v,by rw[Cf.ext,fA];exact l,g⟩
 ·obtain⟨t,rfl,H⟩:=gu l;obtain⟨w,rfl,I⟩:=gu g;rw[Cf.ext,fA]at y z;rw[f.inj t w k1 k2 u u' r B D H I y z]
 ·obtain⟨i,rfl,e⟩:=gu l;rw[Cf.ext,fA]at g;have:(c.ext k).kid (k+i)=c.kid i:=by show c.kid (k+i - k)=_;rw[X']
  rw[this];exact f.dd.kd i u r e g
 ·obtain⟨t,rfl,x⟩:=oY n;obtain⟨w,rfl,J⟩:=oY q;rw[f.dd.dj t w a x J]
 ·obtain⟨i,rfl,x⟩:=oY n;exact f.dd.d1 i a x (yC.mp q)
theorem yD{a:eH}(h:(c.cut k).R1 a):c.R1 a:=by
 obtain⟨j,i,u,l,f,g⟩:=h;rw[Cf.cut,Lm]at f g;exact⟨k+j,i,u,l,f,g⟩
theorem oZ{a:eH}(h:(c.cut k).RD j a):c.RD (k+j) a:=by
 obtain⟨u,r,f,g,i⟩:=h;rw[Cf.cut,Lm]at f g;exact⟨u,r,f,g,i⟩
theorem Ok.cut(k:Nat)(f:Ok C c):Ok C (c.cut k)/\Nx c (c.cut k):=by
 refine⟨⟨f.same,f.K5,f.par,f.io,by simp[Cf.cut,f.len],λj x u e=>?_,λi j k1 k2 u u' r y A g l t w=>?_,⟨λj u r g l=>?_,λi j a n q=>?_,λj a n q=>f.dd.d1 _ a (oZ n) (yD q)⟩⟩,⟨⟨λ_ _ h _=>h,λ_ o h=>⟨o,h⟩,λa h=>.inl (h.elim (λz=>.inl (yD z)) λ⟨j,z⟩=>.inr ⟨k+j,oZ z⟩),λ_ h=>h,λ_ h=>.inl h⟩⟩⟩
 ·rw[Cf.cut,Lm]at e;obtain⟨v,g,l⟩:=f.sl _ x u e;exact⟨v,by rw[Cf.cut,Lm];exact g,l⟩
 ·rw[Cf.cut,Lm]at g l t w;have:=f.inj _ _ k1 k2 u u' r y A g l t w;lia
 ·rw[Cf.cut,Lm]at g l;exact f.dd.kd _ u r g l
 ·have:=f.dd.dj _ _ a (oZ n) (oZ q);lia
theorem BL(h:∀j,j∉hJ k->g[j]?=(i5 k bD++σ)[j]?)(hl:g.length=(i5 k (bD:Option V)++σ).length):∃f:L2.St,f.length=k/\g=f++σ:=by
 refine⟨g.take k,by rw[C0,hl];simp,?_⟩;apply Ï;intro j;by_cases i:j<k
 ·rw[u3 (by rw[C0,hl];simp;lia),List.getElem?_take,ņ i]
 ·rw[h j (by simpa using i),rr (by simp;lia),rr (by rw[C0,hl];simp;lia)];congr 1
  rw[C0,hl];simp
theorem wc(e1:c1.σ=c0.σ)(IY:Ok C c1)(n1:Nx c0 c1)(hw:Walk C c1 rs xs J)(h3:W (b_ k t tc me rs xs []) c1.st λus st'=>W (pure (Kd.own,U.lst us)) st' (bY C c0 Q)):
  tM k J (tG C t (hJ k)) (J9 C tc) (IV C me) Q c0.σ c1.H:=by
 refine⟨λi m ys H=>∃c acc,c.H=H/\c.σ=c0.σ/\Ok C c/\Nx c1 c/\m=xs.length - i/\i<=xs.length/\aq C c.S c.H acc ys/\acc.length<=cL/\W (b_ k t tc me rs (xs.drop i) acc) c.st λus st'=>W (pure (Kd.own,U.lst us)) st' (bY C c0 Q),⟨xs.length,c1,[],rfl,e1,IY,Nx.refl c1,by simp,lg _,rfl,lg _,by simpa using h3⟩,?_⟩;rintro i m ys H ⟨c,acc,rfl,D,q,y,rfl,hi,g,h,w⟩;refine⟨by rw[<-g.len];exact h,?_⟩;have f:lp rs c1 c:=λj u _=>by rw[D,e1]
 by_cases G:i<xs.length
 ·right
  rw[Xs G]at w;rw[show b_ k t tc me rs (xs[i]::xs.drop (i+1)) acc=aC rs >>= λ_=>inScope k (dC t (hJ k) xs[i] >>= λ_=>tc >>= λb=>if b=b8 then(me >>= λr=>lift r >>= λu=>pure (a5 u)) else pure bD) >>= λr=>match r with|some u=>if acc.length<cL then b_ k t tc me rs (xs.drop (i+1)) (acc++[u]) else M.fail|none=>b_ k t tc me rs (xs.drop (i+1)) acc from rfl,ah,cG]at w;obtain⟨MC,w⟩:=w;obtain⟨I,_⟩:=hw c q y f MC;obtain⟨T5,Pj,T6⟩:=I i xs[i] (by simp[G]);refine⟨Pj,λKH H'=>∃c acc,c.H=H'/\c.σ=c0.σ/\Ok C c/\Nx c1 c/\aq C c.S c.H acc KH/\acc.length<=cL/\W (b_ k t tc me rs (xs.drop (i+1)) acc) c.st λus st'=>W (pure (Kd.own,U.lst us)) st' (bY C c0 Q),λKH H' ⟨c',JN,z1,z2,z3,z4,z5,z6,z7⟩=>⟨xs.length - (i+1),⋯,c',JN,z1,z2,z3,z4,rfl,G,z5,z6,z7⟩,λx H' hy=>?_⟩;obtain⟨l,rfl,e4,e5,Jj,n2,rt⟩:=T6 x H' hy;rw[ah,wb,ah]at w;obtain⟨Ru,nx⟩:=Jj.ext k;have X9:aM C (l.ext k) (l.ext k) xs[i].1 xs[i].2 x:=by
   rcases T5 with z|z
   ·rw[z]at rt ⊢;exact rt
   ·rw[z]at rt ⊢;exact rt
  have eσ:(l.ext k).σ=i5 k bD++c0.σ:=by rw[Cf.ext];show i5 k bD++l.σ=_;rw[e4,D]
  refine⟨l.ext k,l.ext k,xs[i],eσ,rfl,Ru,Ru,Nx.refl _,X9,?_⟩;have X_:(l.ext k).st=i5 k bD++c.st:=by rw[Cf.ext];show i5 k bD++l.st=_;rw[e5]
  rw[X_];refine w.mono λ_ JB w3 c3 e6 LC n3 Qw Rv=>?_;subst e6;rw[eσ]at Qw Rv;obtain⟨L,N,O⟩:=BL Qw Rv;refine⟨L,N,O,?_⟩;have VE:Nx c c3:=(n2.trans nx).trans n3;rw[ah]at w3;refine⟨c3,rfl,rfl,LC,w3.mono λb O2 n B e7 e8 T n4=>?_⟩;subst e8;cases b with
  |false =>
   rw[Ň i7]at n ⊢;rw[ao]at n;obtain⟨Y,nk⟩:=T.cut k;have nn:Nx c (B.cut k):=(VE.trans n4).trans nk;refine⟨B.cut k,acc,rfl,?_,Y,y.trans nn,g.mv (q.mv nn),h,n⟩;show B.σ.drop k=_;rw[e7,O,VU N]
  |true =>
   rw[ņ rfl]at n ⊢;rw[ah]at n;refine⟨B,e7,rfl,T,n.mono λr L8 w5 c5 v e9 Ya Yb n5 Yc=>?_⟩;subst Ya;rw[ah]at w5;obtain⟨S',st',u,sS,Yd,n6,T8,A,_,_⟩:=iN T Yb n5 Yc.w w5;rw[ao]at A
   dsimp only at A
   split at A
   ·rename_i hz;obtain⟨Y,nk⟩:=Yd.cut k;have nn:Nx c (Cf.cut k {c5 with S:=S',st:=st' }):=((VE.trans n4).trans n6).trans nk;refine⟨Cf.cut k {c5 with S:=S',st:=st' },acc++[u],rfl,?_,Y,y.trans nn,(g.mv (q.mv nn)).snoc T8,by rw[i0];exact hz,A⟩;show c5.σ.drop k=_;rw[e9,O,VU N]
   ·exact(bu.mp A).elim
 ·left
  have Kt:i=xs.length:=by lia
  subst Kt;rw[Û,show b_ k t tc me rs [] acc=aC rs >>= λ_=>pure acc from rfl,ah,cG,ao,ao]at w;obtain⟨_,I⟩:=hw c q y f w.1;exact⟨I _ (hV _),λp hp=>bY.list w.2 D q (n1.trans y) g p hp⟩
theorem ng(l:Ok C c0)
  (h:W (ms >>= λrs=>aC rs >>= λ_=>M.Jb (K' n rs) >>= λxs=>b_ k t tc me rs xs [] >>= λus=>pure (Kd.own,U.lst us)) c0.st (bY C c0 Q)) :
  xH k (MB C n ms) (tG C t (hJ k)) (J9 C tc) (IV C me) c0.σ c0.H Q:=by
 rw[ah]at h;refine⟨c0,rfl,rfl,l,?_⟩;rw[ah];refine h.mono λrs st1 f=>?_;rw[ah,cG]at f ⊢;refine⟨f.1,?_⟩;have g:=f.2;rw[ah]at g ⊢;refine g.mono λxs st2 i=>?_;rw[ao];intro c1 J q r u v w j;rw[ah]at i;subst r
 dsimp only at w j
 exact wc q u v j i
theorem yE(S:eJ X N own scope)(f:X.calm=b8)(g:PI X tg iter (MB C i ms))
  (j:∀D s H ex,PG (JY X N scope D s H ex) tg (tG C t (hJ own.length))) (k:∀D s H ex,MZ (JY X N scope D s H ex) ifs (J9 C tc)) (l:∀D s H ex,PE (JY X N scope D s H ex) elt (IV C me))
  (hs:∀x,Mb iter X.env x=pure x) :
  PE X (.ListComp elt [⟨tg,iter,ifs,0⟩] scope pos) (IV C (ms >>= λrs=>aC rs >>= λ_=>M.Jb (K' i rs) >>= λxs=>b_ own.length t tc me rs xs [] >>= λus=>pure (.own,.lst us))):=by
 refine PE.weak (A0 S f g j k l hs) ?_;rintro σ H Q ⟨c0,rfl,rfl,n,h⟩;exact ng n h
end
section
variable{a b d e o tg iter elt:mf}{es ifs:List mf}{m ma mb md me:M (Kd×U)}{ms:M (List (Kd×U))}{ta tb tc:M Bool}{pos p p2 apos G':Pos}{st:Mi}{rest body:List Mi}{f g mm:M Fl}{ns J5:Nat->Bool}
def EJ(C:Ct)(c:Cf):Kd->U->V->Prop
 |.own,u,v=>∃r,v=.ref r/\C.H₀ r=bD/\¬c.S r/\¬c.R r/\cV C c.S c.H r u
 |.loc,u,v=>Rep C c.S c.H u v
 |.any,u,v=>Rep C (PS C c.S) c.H u v
 |_,_,_=>False
def IA(C:Ct)(Q:VK)(c:Cf):Kd->U->Prop
 |.io,u=>C.xw u c.H
 |k,u=>∀v,EJ C c k u v->Q v c.H
def Fin(C:Ct)(D:Ends)(f:Fl)(c:Cf):Prop:=match f with
 |.nx=>D.nx c.σ c.H
 |.bk=>D.bk c.σ c.H
 |.ct=>D.ct c.σ c.H
 |.rt k u=>IA C D.rt c k u
def Kept(ns:Nat->Bool)(c h:Cf):Prop:=(∀j,ns j=b8->h.σ[j]?=c.σ[j]?)/\h.σ.length=c.σ.length
theorem Kept.refl:Kept ns c c:=⟨λ_ _=>rfl,rfl⟩
theorem Kept.trans(h:Kept ns c i)(h':Kept ns i k):Kept ns c k:=⟨λj z=>(h'.1 j z).trans (h.1 j z),h'.2.trans h.2⟩
theorem Kept.le(i:∀j,J5 j=b8->ns j=b8)(h:Kept ns c k):Kept J5 c k:=⟨λj z=>h.1 j (i j z),h.2⟩
theorem Kept.of(h:i.σ=c.σ):Kept ns c i:=⟨λj z=>by rw[h],by rw[h]⟩
def dw(C:Ct)(h:Cf)(ns:Nat->Bool)(D:Ends)(f:Fl)(st':aw):Prop:=∀c,c.st=st'->Ok C c->Ns h c->Kept ns h c->Fin C D f c
def JF(C:Ct)(ns:Nat->Bool)(m:M Fl):TS:=λD σ H=>∃c:Cf,c.σ=σ/\c.H=H/\Ok C c/\W m c.st (dw C c ns D)
theorem se(j:Ok C c)(n:Ns i c)(k:Kept ns i c)(h:W mm c.st (dw C i ns D)):JF C ns mm D c.σ c.H :=
 ⟨c,rfl,rfl,j,h.mono λf st l q e r s k2=>l q e r (n.trans s) (k.trans k2)⟩
theorem PS.weak(h:L2.PS X st t)(i:∀D σ H,t' D σ H->t D σ H):L2.PS X st t':=λc s σ H D I q=>h c s σ H D I (i D σ H q)
theorem J2.weak(h:J2 X rest t)(i:∀D σ H,t' D σ H->t D σ H):J2 X rest t':=λc s σ H D I q=>h c s σ H D I (i D σ H q)
theorem o_(i:∀j,J5 j=b8->ns j=b8)(h:JF C J5 mm D σ H):JF C ns mm D σ H :=
 let ⟨c,k,l,n,w⟩:=h;⟨c,k,l,n,w.mono λf st q r e s t k2=>q r e s t (k2.le i)⟩
theorem GF:J2 X [] (JF C ns (pure .nx)):=by
 refine J2.weak oh ?_;rintro D σ H ⟨c,rfl,rfl,i,h⟩;rw[ao]at h;exact h c rfl i (Ns.refl c) Kept.refl
noncomputable def BM(m:M Fl)(f:Fl):M Fl:=match f with
 |.nx=>m
 |f=>pure f
theorem EK(l:L2.PS X st (JF C ns f))(n:J2 X rest (JF C ns g)):J2 X (st::rest) (JF C ns (f >>= BM g)):=by
 refine J2.weak (kC l n) ?_;rintro D σ H ⟨q,rfl,rfl,r,h⟩;rw[ah]at h;refine⟨q,rfl,rfl,r,h.mono λs st1 w j e c i k1=>?_⟩;subst e;cases s with
 |nx=>exact se c i k1 w
 |bk=>rw[show BM g .bk=pure .bk from rfl,ao]at w;exact w j rfl c i k1
 |ct=>rw[show BM g .ct=pure .ct from rfl,ao]at w;exact w j rfl c i k1
 |rt k u=>rw[show BM g (.rt k u)=pure (.rt k u) from rfl,ao]at w;exact w j rfl c i k1
theorem GG(i:PE X a (IV C ma))(hs:O_ a bD pos.line X.env=pure cc):L2.PS X (.Expr a pos) (JF C ns (ma >>= λ_=>pure .nx)):=by
 refine PS.weak (j8 i hs) ?_;rintro D σ H ⟨k,rfl,rfl,j,h⟩;refine aR j h λx c v t w=>?_;rw[ao]at w;have:=w c rfl t.ok t.nx (Kept.of t.hσ);rw[<-t.hσ];exact this
theorem EL:L2.PS X (.Return bD pos) (JF C ns (pure (.rt .loc .IU))):=by
 refine PS.weak AD ?_;rintro D σ H ⟨c,rfl,rfl,i,h⟩;rw[ao]at h;exact h c rfl i (Ns.refl c) Kept.refl .IU rfl
theorem GH(ha:PE X a (IV C ma)):L2.PS X (.Return (a5 a) pos) (JF C ns (ma >>= retS)):=by
 refine PS.weak (Du ha) ?_;rintro D σ H ⟨c0,rfl,rfl,Q,h⟩;refine aR Q h λx c v t w=>?_;obtain⟨k,u⟩:=x;obtain⟨G,l,n,r⟩:=t;cases k with
 |own =>
  rw[show retS (.own,u)=pure (.rt .own u) from rfl,ao]at w;obtain⟨B,e,h1,h2,h3,h4⟩:=r;exact w c rfl l n (Kept.of G) v ⟨B,e,(Q.k_ h1).1,h2,h3,h4⟩
 |loc =>
  rw[show retS (.loc,u)=pure (.rt .loc u) from rfl,ao]at w;exact w c rfl l n (Kept.of G) v r
 |any =>
  rw[show retS (.any,u)=if Jl u=b8 then pure (.rt .loc u) else pure (.rt .any u) from rfl]at w;split at w
  ·rw[ao]at w;exact w c rfl l n (Kept.of G) v (Rep.Jl (by assumption) r)
  ·rw[ao]at w;exact w c rfl l n (Kept.of G) v r
 |bor j =>
  obtain⟨fl,st',e,w⟩:=w;rw[show retS (.bor j,u) c.st=match c.st[j]? with|some (a5 (.own,u))=>a5 (Ex.ok (Fl.rt .own u),c.st.set j bD)|_=>bD from rfl]at e;split at e
  ·rename_i u' J;cases e;have Mz:j<c.st.length:=(dV.mp J).1;have A:∀(i:Nat) k u',(c.st.set j bD)[i]?=a5 (a5 (k,u'))->i≠j/\c.st[i]?=a5 (a5 (k,u')):=λi k u' e=>by
    by_cases L:i=j
    ·subst L;rw[ei Mz]at e;cases e
    ·rw[hQ (r6 L)]at e;exact⟨L,e⟩
   obtain⟨v',s,B,er,q1,q2,q3,q4⟩:=l.sl j _ _ J;have N:c.σ[j]?=a5 (a5 v):=r.2;rw[N]at s;cases s;subst er;have T:∀a,({c with st:=c.st.set j bD}:Cf).R1 a->c.R1 a:=λa ⟨i,k,u2,hk,s,y⟩=>⟨i,k,u2,hk,(A i k u2 s).2,y⟩
   have hR:∀a,({c with st:=c.st.set j bD}:Cf).R a->c.R a:=λa z=>z.elim (λz=>.inl (T a z)) λ⟨i,u2,O,s,y,I⟩=>.inr ⟨i,u2,O,(A i .IK u2 s).2,y,I⟩;have Nd:LZ C {c with st:=c.st.set j bD}:=l.dd.of rfl (λi u2 e=>⟨(A i .IK u2 e).2,rfl⟩) (λa z=>.inl (T a z)) (.up λ_ z=>z) λi a z=>⟨(l.root (.inr ⟨i,z⟩)).1,λo q=>q⟩
   have Ye:Ok C {c with st:=c.st.set j bD}:=⟨l.same,l.K5,l.par,l.io,by simp[l.len],λi k u2 e=>l.sl i k u2 (A i k u2 e).2,λi Y k k' u1 u2 r hk Jv s y I e4=>l.inj i Y k k' u1 u2 r hk Jv (A i k u1 s).2 (A Y k' u2 y).2 I e4,Nd⟩
   have nn:Ns c0 {c with st:=c.st.set j bD}:=⟨n.keep,n.there,λa z=>n.roots a (hR a z),n.sub,n.new⟩
   refine w {c with st:=c.st.set j bD} rfl Ye nn (Kept.of G) (.ref B) ⟨B,rfl,q3,q1,λz=>?_,q4⟩
   ·rcases z with⟨i,k,u2,hk,s,y⟩|⟨i,u2,O,s,y,I⟩
    ·obtain⟨ne,JZ⟩:=A i k u2 s;exact ne (l.inj i j k .own u2 _ B hk rfl JZ J y N)
    ·exact l.dd.d1 i B ⟨u2,O,(A i .IK u2 s).2,y,I⟩ ⟨j,.own,_,rfl,J,N⟩
  ·cases e
 |_=>exact r.elim
end
section
theorem iR(f:∀j,ns j=b8->j≠i)(g:Ok C a)(t:LA C a c r v)(h:i<c.σ.length)(w:W (dB i r >>= λ_=>(pure .nx:M Fl)) c.st (dw C a ns D)):D.nx (a.σ.set i (a5 v)) c.H:=by
 rw[ah]at w;obtain⟨b,d,k,l,m,q⟩:=kh (r:=r) g t.ok t.nx h t.rx w;rw[ao]at q;have z:=q b rfl l m ⟨λj n=>by rw[d,t.hσ,hQ (r6 (f j n))],by rw[d,t.hσ];simp⟩;have e:D.nx b.σ b.H:=z;rw[d,k,t.hσ]at e;exact e
theorem CT(g:∀j,ns j=b8->j≠i)(k:X.N.Nodup)(e:X.N[i]?=a5 x)(l:Loc X.env.scope x)(m:X.fn x=b8\/X.env.scope.names.lookup x=a5 .local)(n:PE X a (IV C o))
  (hs:O_ a (a5 (.Name x pos')) pos.line X.env=pure cc):L2.PS X (.Assign [.Name x pos'] a pos) (JF C ns (o >>= λr=>dB i r >>= λ_=>pure .nx)):=by
 rintro b s σ H D I ⟨d,rfl,rfl,f,h⟩;have p:i<d.σ.length:=by rw[I.len];exact(dV.mp e).1
 exact oj k e l n hs m b s d.σ d.H D I (aR f h λr c v t w=>iR g f t (by rw[t.hσ];exact p) w)
theorem EM(m:∀j,ns j=b8->j≠i)(S:eJ X N own scope)(o:X.calm=b8)(p:X.N.Nodup)(g:X.N[i]?=a5 y)(q:X.env.scope.names.lookup y=a5 .local)
  (u:PI X e a (MB C z ms)) (A:∀D s H ex,PG (JY X N scope D s H ex) e (tG C t (hJ own.length))) (B:∀D s H ex,MZ (JY X N scope D s H ex) b (J9 C G)) (J:∀D s H ex,PE (JY X N scope D s H ex) elt (IV C L))
  (O:O_ (.ListComp elt [⟨e,a,b,0⟩] scope pos) (a5 (.Name y Q)) T.line X.env=pure b8) (hs:∀x,Mb a X.env x=pure x) :
  L2.PS X (.Assign [.Name y Q] (.ListComp elt [⟨e,a,b,0⟩] scope pos) T)
   (JF C ns ((ms >>= λrs=>aC rs >>= λ_=>M.Jb (K' z rs) >>= λxs=>b_ own.length t G L rs xs [] >>= λus=>pure (.own,.lst us)) >>= λr=>dB i r >>= λ_=>pure .nx)):=by
 rintro d s σ H D I ⟨f,rfl,rfl,k,h⟩;have Y:i<f.σ.length:=by rw[I.len];exact(dV.mp g).1
 refine A4 S o p g q u A B J O hs d s f.σ f.H D I ?_;rw[ah]at h;refine ng k (h.mono λr st1 w c v l e2 Jg n rt=>?_);subst e2;exact iR m k ⟨l,Jg,n,rt⟩ (by rw[l];exact Y) w
theorem EN(g:∀j,ns j=b8->j∉is)(i:PE X a (IV C k))(l:PG X b (tG C b8 is))(hs:Q2 [b] a pos.line X.env=pure cc)(m:Vn [b] a X.env=pure bD)(n:(PV [b] X.env).map (·.2)=[Ss b X.env]):
  L2.PS X (.Assign [b] a pos) (JF C ns (k >>= λr=>dC b8 is r >>= λ_=>pure .nx)):=by
 refine PS.weak (rh i l hs m n) ?_;rintro D σ H ⟨o,rfl,rfl,d,h⟩;refine aR d h λr c v t w=>?_;rw[ah]at w;refine⟨o,c,r,t.hσ,rfl,d,t.ok,t.nx,t.rx,w.mono λ_ st1 f p e q s u hl=>?_⟩;subst e;rw[ao]at f;exact f p rfl q s ⟨λj x=>by rw[u j (g j x),t.hσ],by rw[hl,t.hσ]⟩
theorem GI(i:PT X a (J9 C j))(k:J2 X ca (JF C ns f))(l:J2 X m (JF C ns g)):L2.PS X (.If a ca m pos) (JF C ns (j >>= λp=>if p=b8 then f else g)):=by
 refine PS.weak (FR i k l) ?_;rintro D σ H ⟨o,rfl,rfl,q,h⟩;refine dO q h λp c b d n w=>?_;have e:o.σ=c.σ:=b.symm;rw[e];cases p with
 |true=>rw[ņ rfl]at w ⊢;exact se d n (Kept.of b) w
 |false=>rw[Ň i7]at w ⊢;exact se d n (Kept.of b) w
theorem GJ(L:Xp (ez X.prog X.w) X.A X.env X.xe)(N:PT X a (J9 C g))(O:J2 X body (JF C ns f)):L2.PS X (.While a body [] pos) (JF C ns (gE g f n)):=by
 refine PS.weak (xp L N O) ?_;rintro D σ H ⟨d,rfl,rfl,Q,h⟩;refine⟨λm t H'=>∃c,c.H=H'/\c.σ=t/\Ok C c/\Ns d c/\Kept ns d c/\W (gE g f m) c.st (dw C d ns D),⟨n,d,rfl,rfl,Q,Ns.refl d,Kept.refl,h⟩,?_⟩;rintro m t H' ⟨c,rfl,rfl,T,v,x,w⟩;cases m with
 |zero=>exact(bu.mp w).elim
 |succ m =>
  rw[show gE g f (m+1)=g >>= λb=>if b=b8 then(f >>= λf'=>match f' with|.nx=>gE g f m|.ct=>gE g f m|.bk=>pure .nx|.rt k u=>pure (.rt k u)) else pure .nx from rfl]at w;refine dO T w λp l y B G i=>?_;have k2:Kept ns c l:=Kept.of y;rw[<-y];cases p with
  |false =>
   rw[Ň i7]at i ⊢;rw[ao]at i;exact i l rfl B (v.trans G) (x.trans k2)
  |true =>
   rw[ņ rfl]at i ⊢;refine⟨λI J=>∃c,c.H=J/\c.σ=I/\Ok C c/\Ns d c/\Kept ns d c/\W (gE g f m) c.st (dw C d ns D),λI J z=>⟨m,OJ m,z⟩,?_⟩;rw[ah]at i;refine⟨l,rfl,rfl,B,i.mono λY JB j o e q n3 k3=>?_⟩;subst e;have r:=(v.trans G).trans n3;have s:=(x.trans k2).trans k3;cases Y with
   |nx=>exact⟨o,rfl,rfl,q,r,s,j⟩
   |ct=>exact⟨o,rfl,rfl,q,r,s,j⟩
   |_=>rw[ao]at j;exact j o rfl q r s
theorem GK(hp:Xp (ez X.prog X.w) X.A X.env X.xe)(hc:X.calm=b8)(hi:PI X tg a (MB C ik ms))(hg:PG X tg (tG C t is))(hb:J2 X body (JF C (Lz s) f))(hs:∀x,Mb a X.env x=pure x)
  (JI:∀j,ns j=b8->j∉is/\Lz s j=b8) :
  L2.PS X (.For tg a body [] pos) (JF C ns (ms >>= λrs=>aC rs >>= λ_=>M.Jb (K' ik rs) >>= λxs=>if ub rs is s=b8 then forM t is f rs xs else M.fail)):=by
 refine PS.weak (DC hp hc hi hg hb hs) ?_;rintro D σ H ⟨d,rfl,rfl,ok,h⟩;rw[ah]at h;refine⟨d,rfl,rfl,ok,?_⟩;rw[ah];refine h.mono λrs st1 v=>?_;rw[ah,cG]at v ⊢;refine⟨v.1,?_⟩;have h2:=v.2;rw[ah]at h2 ⊢;refine h2.mono λxs st2 y=>?_;rw[ao];intro b J e1 e2 IY n1 IZ B;subst e2
 dsimp only at IZ B
 split at y
 ·rename_i OC;have Ua:∀j u,(Kd.bor j,u)∈rs->j∉is/\Lz s j=b8:=λj u o=>by
   have:=ki.mp OC _ o;simpa using this
  refine⟨λi m l H'=>∃c,c.H=H'/\c.σ=l/\Ok C c/\Ns b c/\Kept ns d c/\lp rs b c/\m=xs.length - i/\i<=xs.length/\W (forM t is f rs (xs.drop i)) c.st (dw C d ns D),
   ⟨xs.length,b,rfl,e1,IY,Ns.refl b,Kept.of e1,λ_ _ _=>rfl,by simp,lg _,by simpa using y⟩,?_⟩
  rintro i m l H' ⟨c,rfl,rfl,G,p,kc,I,rfl,Kt,w⟩;by_cases L:i<xs.length
  ·right
   rw[Xs L,show forM t is f rs (xs[i]::xs.drop (i+1))=aC rs >>= λ_=>dC t is xs[i] >>= λ_=>f >>= λf'=>match f' with|.nx=>forM t is f rs (xs.drop (i+1))|.ct=>forM t is f rs (xs.drop (i+1))|.bk=>pure .nx|.rt k u=>pure (.rt k u) from rfl,ah,cG]at w;obtain⟨MC,w⟩:=w;obtain⟨N,_⟩:=B c G p I MC;obtain⟨T5,Pj,T6⟩:=N i xs[i] (by simp[L]);refine⟨Pj,λl H'=>∃c,c.H=H'/\c.σ=l/\Ok C c/\Ns b c/\Kept ns d c/\lp rs b c/\W (forM t is f rs (xs.drop (i+1))) c.st (dw C d ns D),λl H' ⟨c',z1,z2,z3,z4,z5,z6,z7⟩=>⟨xs.length - (i+1),⋯,c',z1,z2,z3,z4,z5,z6,rfl,L,z7⟩,λx H' hy=>?_⟩;obtain⟨n,rfl,q,e5,Jj,n2,rt⟩:=T6 x H' hy;rw[ah]at w;have Yf:aM C n n xs[i].1 xs[i].2 x:=by
    rcases T5 with z|z
    ·rw[z]at rt ⊢;exact rt
    ·rw[z]at rt ⊢;exact rt
   refine⟨n,n,xs[i],q,rfl,Jj,Jj,Nx.refl n,Yf,?_⟩;rw[e5];refine w.mono λ_ JB w3 c3 e6 LC n3 VH Rv=>?_;subst e6;rw[ah]at w3;refine⟨c3,rfl,rfl,LC,w3.mono λfl O2 r g e O n4 Q=>?_⟩;subst e;have T:Ns b g:=((p.trans n2.toNs).trans n3.toNs).trans n4;have Y:Kept ns d g:=by
    refine kc.trans ⟨λj hj=>?_,by rw[Q.2,Rv,q]⟩;obtain⟨j1,j2⟩:=JI j hj;rw[Q.1 j j2,VH j j1,q]
   have VI:lp rs b g:=λj u o=>by
    obtain⟨j1,j2⟩:=Ua j u o;rw[Q.1 j j2,VH j j1,q];exact I j u o
   cases fl with
   |nx=>exact⟨g,rfl,rfl,O,T,Y,VI,r⟩
   |ct=>exact⟨g,rfl,rfl,O,T,Y,VI,r⟩
   |_=>rw[ao]at r;exact r g rfl O (n1.toNs.trans T) Y
  ·left
   have Yg:i=xs.length:=by lia
   subst Yg;rw[Û,show forM t is f rs []=aC rs >>= λ_=>pure .nx from rfl,ah,cG,ao]at w;obtain⟨_,N⟩:=B c G p I w.1;exact⟨N _ (hV _),w.2 c rfl G (n1.toNs.trans p) kc⟩
 ·exact(bu.mp y).elim
end
section
theorem Ok.mod(d:Ok C c)(n:Ns c0 c)(hk:k.root=b8)(A:c.st[i]?=a5 (a5 (k,u)))(G:c.σ[i]?=a5 (a5 (.ref r)))(JM:∀a,a≠r->H' a=c.H a)(hr:∃o,H' r=a5 o)
  (new:Mv c.S c.H c.S H'->cV C c.S H' r u'):Ok C {c with H:=H',st:=c.st.set i (a5 (k,u'))}/\Ns c0 {c with H:=H',st:=c.st.set i (a5 (k,u'))}:=by
 have Lg:c.R1 r:=⟨i,k,u,hk,A,G⟩
 have hR:c.R r:=.inl Lg;obtain⟨J,q2,q3,o,ho,OD⟩:=d.root hR;have L:i<c.st.length:=(dV.mp A).1;have p:∀{a:eH} {b:HO},a≠r->c.H a=a5 b->H' a=a5 b:=λne e=>by rw[JM _ ne];exact e
 have I:Mv c.S c.H c.S H':=⟨λ_ z=>z,λa b e t=>p (λz=>by subst z;rw[ho]at e;cases e;exact OD t) e,λa b z e=>p (λf=>J (f▸z)) e⟩
 have M8:Mv (PS C c.S) c.H (PS C c.S) H':=⟨λ_ z=>z,I.Pc,λa b z e=>p (λf=>by subst f;exact z.elim q2 J) e⟩
 have N:∀(j:Nat) k' w,(c.st.set i (a5 (k,u')))[j]?=a5 (a5 (k',w))->j≠i->c.st[j]?=a5 (a5 (k',w)):=λj k' w e ne=>by rw[hQ (r6 ne)]at e;exact e
 have g:∀(j:Nat) k' w,k'.root=b8->(c.st.set i (a5 (k,u')))[j]?=a5 (a5 (k',w))->∃O,c.st[j]?=a5 (a5 (k',O)):=λj k' w _ e=>by
  by_cases q:j=i
  ·subst q;rw[ei L]at e;cases e;exact⟨u,A⟩
  ·exact⟨w,N j k' w e q⟩
 have b1:∀a,({c with H:=H',st:=c.st.set i (a5 (k,u'))}:Cf).R1 a->c.R1 a:=λa Jm=>by
  obtain⟨j,k',w,h,l,m⟩:=Jm;obtain⟨O,Q⟩:=g j k' w h l;exact⟨j,k',O,h,Q,m⟩
 have dD:∀(j:Nat) (w:U),(c.st.set i (a5 (k,u')))[j]?=a5 (a5 (.IK,w))->c.st[j]?=a5 (a5 (.IK,w)):=λj w e=>by
  by_cases q:j=i
  ·subst q;rw[ei L]at e;cases e;cases hk
  ·exact N j .IK w e q
 have Nd:LZ C {c with H:=H',st:=c.st.set i (a5 (k,u'))}:=d.dd.of rfl (λj w e=>⟨dD j w e,rfl⟩) (λa z=>.inl (b1 a z)) I λj a z=>⟨(d.root (.inr ⟨j,z⟩)).1,λb e=>p (λf=>d.dd.d1 j a z (f▸Lg)) e⟩
 refine⟨⟨λa b e z=>?_,λa z=>?_,d.par,λa z=>?_,by simp[d.len],λj k' w e=>?_,λj1 j2 k1 k2 w1 w2 s h x l m T e4=>?_,Nd⟩,n.trans ⟨λa b e z=>p (λf=>z (f▸hR)) e,λa b e=>?_,λa z=>?_,λ_ z=>z,λ_ z=>.inl z⟩⟩
 ·have h:=d.same a b e z;refine p (λf=>?_) h;subst f;rcases q3 with q3|q3
  ·rw[e]at q3;cases q3
  ·exact z q3
 ·obtain⟨h,b,x⟩:=d.K5 a z;exact⟨h,b,p (λf=>J (f▸z)) x⟩
 ·obtain⟨h,b,x⟩:=d.io a z;refine⟨h,?_⟩;by_cases B:a=r
  ·subst B;exact hr
  ·exact⟨b,p B x⟩
 ·by_cases q:j=i
  ·subst q;rw[ei L]at e;cases e;obtain⟨v,l,m⟩:=d.sl j _ _ A;rw[G]at l;cases l;refine⟨.ref r,G,?_⟩;have nr:=new I;cases k with
   |own=>obtain⟨s,y,D,Y,z3,_⟩:=m;cases y;exact⟨r,rfl,D,Y,z3,nr⟩
   |io=>obtain⟨s,y,D,Y,z3,_⟩:=m;cases y;exact⟨r,rfl,D,Y,z3,nr⟩
   |_=>cases hk
  ·have e0:=N j k' w e q;obtain⟨v,l,m⟩:=d.sl j k' w e0;refine⟨v,l,m.mv I M8 λJv s y=>?_⟩;obtain⟨Rq,Kx,D,_⟩:=m.rt Jv;rw[y]at Kx;cases Kx;refine⟨D,λb e=>p (λz=>?_) e⟩;subst z;exact q (d.inj j i k' k w u s Jv hk e0 A (by rw[l,y]) G)
 ·obtain⟨Rw,Q⟩:=g j1 k1 w1 h l;obtain⟨VJ,a2⟩:=g j2 k2 w2 x m;exact d.inj j1 j2 k1 k2 Rw VJ s h x Q a2 T e4
 ·by_cases B:a=r
  ·subst B;exact hr
  ·exact⟨b,p B e⟩
 ·rcases z with z|⟨j,w,s,l,m,T⟩
  ·exact .inl (.inl (b1 a z))
  ·exact .inl (.inr ⟨j,w,s,dD j w l,m,T⟩)
theorem gv{f:U->Option U}{st:aw}(h:W (modS i f) st Q):∃k u u',k.root=b8/\st[i]?=a5 (a5 (k,u))/\f u=a5 u'/\Q () (st.set i (a5 (k,u'))):=by
 obtain⟨_,st',e,q⟩:=h;unfold modS at e;split at e
 ·rename_i k u hs;split at e
  ·rename_i hk;cases a:f u with
   |none=>rw[a]at e;cases e
   |some u'=>rw[a]at e;cases e;exact⟨k,u,u',hk,hs,a,q⟩
  ·cases e
 ·cases e
theorem dc{st:aw}(h:W (dn i) st Q):∃k u,k≠.IK/\st[i]?=a5 (a5 (k,u))/\Q (if k.root=b8 then .bor i else k,u) st:=by
 obtain⟨r,st',e,q⟩:=h;unfold dn at e;split at e
 ·cases e
 ·rename_i k u a hs;cases e;exact⟨k,u,λz=>a z,hs,q⟩
 ·cases e
theorem GL(Y:C.K=X.K)(hN:X.N[i]?=a5 x)(hv:KC X.env.scope x)(hd:(x==("__debug__":Str))=cc)(Js:(x==("__classdict__":Str))=cc)(ha:PE X a (IV C ma))
  (JX:((DD g (hW [a] X.env)).all (λx=>!x.1)&&(Ql g (L9 [] X.env)).all (λx=>x.1.isSome)
   && cK ([a].length+([]:List Oi).length+(if ([]:List Oi).isEmpty then 0 else 1)<30))=b8)
  (Jc:(b.endLine==g.line)=b8) (o:hW [a] X.env=[(cc,ve a X.env)]) :
  L2.PS X (.Expr (.Call (.Attribute (.Name x px) "append" b) [a] [] g) pos) (JF C ns (dn i >>= λx=>Nb x.2 >>= λ_=>ma >>= λr=>lift r >>= λu=>modS i (yo u) >>= λ_=>pure .nx)):=by
 refine PS.weak (j8 (mM PySem.F.plainAttrs_list PySem.F.slot_list_append PySem.F.type_list_append mP (bN hN hv hd Js) (bS ha dH o) rfl JX Jc o rfl)) ?_;rintro D σ H ⟨p,rfl,rfl,f,h⟩;rw[ah]at h;obtain⟨k0,s,L5,y,h⟩:=dc h;obtain⟨A,l,m⟩:=f.sl i k0 s y;refine⟨A,l,?_⟩;cases s with
 |lst B =>
  rw[ah,show Nb (U.lst B)=pure () from rfl,ao]at h;have Qx:aM C p p (if k0.root=b8 then .bor i else k0) (.lst B) A:=by
   by_cases hk:k0.root=b8
   ·rw[ņ hk];exact⟨⟨k0,hk,y⟩,l⟩
   ·rw[Ň hk];cases k0 with
    |loc=>exact m
    |any=>exact m
    |bor j=>exact m.elim
    |IK=>exact(L5 rfl).elim
    |_=>exact absurd rfl hk
  obtain⟨a0,N',n,OZ,_⟩:=Qx.list f;refine⟨by rw[n];exact .inl ⟨rfl,N',Y▸OZ⟩,?_⟩;refine aR f h λr c v t w=>?_;rw[ah]at w;obtain⟨S',st',u,sS,G,n1,d,I,_,_⟩:=iN f t.ok t.nx t.rx.w w;rw[ah]at I;obtain⟨k,u1,u2,hk,hs,e,q⟩:=gv I;have J:c.σ[i]?=a5 (a5 (.ref a0)):=by rw[t.hσ,l,n]
  cases u1 with
  |lst L =>
   simp only[yo]at e;split at e
   ·rename_i hz;cases e;obtain⟨v',e1,e2⟩:=G.sl i k (.lst L) hs;have O:c.σ[i]?=a5 (a5 v'):=e1;rw[J]at O;cases O;obtain⟨r',er,_,_,_,ws,hw,Q⟩:=e2.rt hk;cases er;have Rx:c.H a0=a5 (.lst ws):=hw;refine⟨a0,ws,v,n,rfl,Rx,by rw[<-Q.len];exact hz,?_⟩;rw[ao]at q;obtain⟨Jj,n2⟩:=Ok.mod (c:={c with S:=S',st:=st' }) (H':=upd c.H a0 (.lst (ws++[v]))) (u':=.lst (L++[u])) G n1.toNs hk hs J (λa ne=>au ne) ⟨_,ay⟩ λT=>⟨ws++[v],ay,(Q.mv T).snoc (d.mv T)⟩
    have z:=q _ rfl Jj n2 (Kept.of t.hσ);rw[<-t.hσ];exact z
   ·cases e
  |_=>cases e
 |_=>rw[ah]at h;exact(bu.mp h).elim
theorem GN(A:C.K=X.K)(hN:X.N[i]?=a5 x)(hv:KC X.env.scope x)(hd:(x==("__debug__":Str))=cc)(Js:(x==("__classdict__":Str))=cc)(ha:PE X a (IV C ma))
  (JX:((DD l (hW [a] X.env)).all (λx=>!x.1)&&(Ql l (L9 [] X.env)).all (λx=>x.1.isSome)
   && cK ([a].length+([]:List Oi).length+(if ([]:List Oi).isEmpty then 0 else 1)<30))=b8)
  (Jc:(g.endLine==l.line)=b8) (B:hW [a] X.env=[(cc,ve a X.env)]) :
  L2.PS X (.Expr (.Call (.Attribute (.Name x px) "extend" g) [a] [] l) pos) (JF C ns (dn i >>= λx=>Nb x.2 >>= λ_=>ma >>= λr=>modS i (lj r) >>= λ_=>pure .nx)):=by
 refine PS.weak (j8 (mM PySem.F.plainAttrs_list PySem.F.slot_list_extend PySem.F.type_list_extend rP (bN hN hv hd Js) (bS ha dH B) rfl JX Jc B rfl)) ?_;rintro D σ H ⟨G,rfl,rfl,m,h⟩;rw[ah]at h;obtain⟨k0,I,L5,J,h⟩:=dc h;obtain⟨L,n,o⟩:=m.sl i k0 I J;refine⟨L,n,?_⟩;cases I with
 |lst O =>
  rw[ah,show Nb (U.lst O)=pure () from rfl,ao]at h;have Qx:aM C G G (if k0.root=b8 then .bor i else k0) (.lst O) L:=by
   by_cases hk:k0.root=b8
   ·rw[ņ hk];exact⟨⟨k0,hk,J⟩,n⟩
   ·rw[Ň hk];cases k0 with
    |loc=>exact o
    |any=>exact o
    |bor j=>exact o.elim
    |IK=>exact(L5 rfl).elim
    |_=>exact absurd rfl hk
  obtain⟨a0,N',p,OZ,_⟩:=Qx.list m;refine⟨by rw[p];exact .inl ⟨rfl,N',A▸OZ⟩,?_⟩;refine aR m h λr c v t w=>?_;rw[ah]at w;obtain⟨k,s,u2,hk,hs,d,q⟩:=gv w;have Q:c.σ[i]?=a5 (a5 (.ref a0)):=by rw[t.hσ,n,p]
  obtain⟨rk,ru⟩:=r;have key:∃e f b vs,s=.lst e/\v=.ref b/\(Jn C.K c.H b vs\/JH C.K c.H b vs)/\aq C c.S c.H f vs/\e.length+f.length<=cL/\u2=.lst (e++f):=by
   cases ru with
   |lst f =>
    cases s with
    |lst e =>
     simp only[lj]at d;split at d
     ·rename_i hz;cases d;obtain⟨b,vs,ev,u,y⟩:=t.rx.list t.ok;exact⟨_,_,b,vs,rfl,ev,.inl u,eX hz.2 y,hz.1,rfl⟩
     ·cases d
    |_=>simp[lj]at d
   |tup f =>
    cases s with
    |lst e =>
     simp only[lj]at d;split at d
     ·rename_i hz;cases d;obtain⟨b,vs,ev,u,y⟩:=t.rx.tuple t.ok;exact⟨_,_,b,vs,rfl,ev,.inr u,eX hz.2 y,hz.1,rfl⟩
     ·cases d
    |_=>simp[lj]at d
   |_=>simp[lj]at d
  obtain⟨e,f,b,vs,rfl,rfl,hB,hz,hl,rfl⟩:=key;obtain⟨v',T,e2⟩:=t.ok.sl i k (.lst e) hs;rw[Q]at T;cases T;obtain⟨r',er,_,_,_,ws,hw,Y⟩:=e2.rt hk;cases er;refine⟨a0,b,ws,vs,p,rfl,hw,A▸hB,by rw[<-Y.len,<-hz.len];exact hl,?_⟩;rw[ao]at q;obtain⟨Jj,n2⟩:=Ok.mod (c:=c) (H':=upd c.H a0 (.lst (ws++vs))) (u':=.lst (e++f)) t.ok t.nx.toNs hk hs Q (λa ne=>au ne) ⟨_,ay⟩ λmv=>⟨ws++vs,ay,(Y.mv mv).append (hz.mv mv)⟩
  have z:=q _ rfl Jj n2 (Kept.of t.hσ);rw[<-t.hσ];exact z
 |_=>rw[ah]at h;exact(bu.mp h).elim
theorem oi.or(h:oi X t)(h':oi X t'):oi X (λo i v H Q=>t o i v H Q\/t' o i v H Q):=λa s σ H o i v b c u Q I d e f q =>
 q.elim (h a s σ H o i v b c u Q I d e f) (h' a s σ H o i v b c u Q I d e f)
theorem set_dict(c:X.A.units+1<LD):oi X (λo i v H Q=>∃a H',o=.ref a/\vA H a i v H'/\Q H'):=by
 rintro b s σ H o i v h j u Q I d e rv ⟨a,H',rfl,g,q⟩;cases d;exact vC c I g e rv λs' f=>⟨H',f,q⟩
theorem yF{S:eH->Prop}{kvs:List (Key×V)}(a:kvs.map (·.1)=ks.map nc)(c:aq C S H us (kvs.map (·.2)))(d:Rep C S H u v):
  (putK kvs (nc y) v).map (·.1)=(dput ks us y u).1.map nc/\aq C S H (dput ks us y u).2 ((putK kvs (nc y) v).map (·.2)):=by
 have e:(kvs.any λkv=>cK (kv.1=(nc y:Key)))=cK (y∈ks):=by
  rw[iz];exact(dE (x:=y) a c).2
 unfold putK dput;rw[e];by_cases b:y∈ks
 ·rw[ņ (by simpa using b),ņ b];constructor
  ·rw[kj];rw[<-a];apply w6;intro p _;show(if p.1=nc y then(p.1,v) else p).1=p.1;split<;>rfl
  ·clear e b;induction kvs generalizing ks us with
   |nil =>
    have:ks=[]:=by simpa using a.symm
    subst this;simp[aq]
   |cons p kvs g =>
    cases ks with
    |nil=>simp at a
    |cons k ks =>
     cases us with
     |nil=>simp[aq]at c
     |cons j us =>
      rw[et,et,Qi]at a;obtain⟨l,m,f,h,i⟩:=c;rw[et]at f;cases f;rw[et,RS,et,et];refine⟨_,_,rfl,?_,g a.2 i⟩;by_cases hk:k=y
      ·rw[ņ (by exact hk),ņ (by rw[a.1,hk])];exact d
      ·rw[Ň (by exact hk),Ň (by rw[a.1];intro z;exact hk (U8 z))];exact h
 ·rw[Ň (by simpa using b),Ň b];exact⟨by rw[kr,a,kr];rfl,by rw[kr];exact c.snoc d⟩
theorem GO(hP:C.P=X.prog)(hw:C.w=X.w)(hK:C.K=X.K)(hu:X.A.units+60<LD)(hN:X.N[i]?=a5 x)(hv:KC X.env.scope x)(hd:(x==("__debug__":Str))=cc)(Js:(x==("__classdict__":Str))=cc)
  (ha:PE X a (IV C ma)) (hb:PE X b (IV C mb)) (hs:Q2 [.Subscript (.Name x B) b p] a pos.line X.env=pure cc) (Ud:Vn [.Subscript (.Name x B) b p] a X.env=pure bD)
  (O:∀v,Ss (.Subscript (.Name x B) b p) X.env v=(do
   let G <-MX [v] (ve (.Name x B) X.env)
   let Q <-MX [v,G] (ve b X.env)
   X6 p
   MX [v,G,Q] (TR G Q v)
   Wk [v,G,Q] [])) :
  L2.PS X (.Assign [.Subscript (.Name x B) b p] a pos) (JF C ns (ma >>= λr=>dn i >>= λ_=>mb >>= λx=>cX [r,x] >>= λus=>modS i (ua us) >>= λ_=>pure .nx)):=by
 refine PS.weak (rh ha (xn (bN hN hv hd Js) hb (oi.or set_list (set_dict (X:=X) ⋯)) O) hs Ud rfl) ?_;rintro D σ H ⟨c0,rfl,rfl,ok,h⟩;refine aR ok h λr c v t w=>?_;rw[ah]at w;obtain⟨k0,u0,L5,J',w⟩:=dc w;obtain⟨v0,e0,LP⟩:=t.ok.sl i k0 u0 J';refine⟨v0,by rw[<-t.hσ];exact e0,?_⟩;rw[ah]at w;refine⟨c,t.hσ,rfl,t.ok,w.mono λy st2 w2 f m I e4 Jj n2 r2=>?_⟩;subst e4;rw[ah]at w2;have Ue:=t.nx.trans n2;have T:cQ C c0 f [r,y] [v,m]:=⟨v,[m],rfl,t.rx.w.on t.ok n2 (I.trans t.hσ.symm),⟨m,[],rfl,(r2.w).from t.nx,rfl,λ_ i r' Y e _=>by simp at e⟩,λhk i r' Y e5 e6 Jv=>by
  cases i with
  |zero=>simp at e5 e6;subst e5 e6;exact oU t.rx.w r2.w hk Jv
  |succ i=>simp at e5⟩
 obtain⟨S',st',us,sS,IY,n1,g,w1⟩:=iO ok Jj Ue T w2;rw[ah]at w1;obtain⟨k,J,u2,hk,KI,d,q⟩:=gv w1;rw[ao]at q;have hσ:f.σ[i]?=a5 (a5 v0):=by rw[I,<-t.hσ];exact e0
 obtain⟨Y,e1,e2⟩:=IY.sl i k J KI;have JZ:f.σ[i]?=a5 (a5 Y):=e1;rw[hσ]at JZ;cases JZ;obtain⟨a0,er,z1,z2,z3,l⟩:=e2.rt hk;subst er;have Yh:({f with S:=S',st:=st' }:Cf).σ[i]?=a5 (a5 (.ref a0)):=hσ;obtain⟨Rw,ws,ew,VL,VJ,ZO,ZP,VM,Yi⟩:∃u ws,us=[u,ws]/\Rep C S' f.H u v/\∃(_:Unit) (_:Unit),True/\Rep C S' f.H ws m/\True:=by
  cases us with
  |nil=>simp[aq]at g
  |cons u us =>
   obtain⟨_,_,e,q1,q2⟩:=g;cases e;cases us with
   |nil=>simp[aq]at q2
   |cons u' us =>
    obtain⟨_,_,e,q3,q4⟩:=q2;cases e;cases us with
    |nil=>exact⟨u,u',rfl,q1,(),(),trivial,q3,trivial⟩
    |cons _ _=>obtain⟨_,_,e,_⟩:=q4;cases e
 subst ew;rw[show ua [Rw,ws] J=d9 ws Rw J from rfl]at d;have n:∀{H':Hp} ,(∀a,a≠a0->H' a=f.H a)->(∃o,H' a0=a5 o)->(Mv S' f.H S' H'->cV C S' H' a0 u2)->D.nx c0.σ H':=λ{H'} JM hr new=>by
  obtain⟨LC,n3⟩:=Ok.mod (c:={f with S:=S',st:=st' }) (H':=H') (u':=u2) IY n1.toNs hk KI Yh JM hr new;have z:=q _ rfl LC n3 (Kept.of I);rw[<-I];exact z
 cases J with
 |lst xs =>
  cases ws with
  |int j =>
   simp only[d9,gs]at d;obtain⟨j',hj,rfl⟩:=d;obtain⟨vs,h1,s⟩:=l;have ey:m=.int j:=VM;refine .inl ⟨a0,vs,j,j',rfl,ey,h1,by rw[<-s.len];exact hj,?_⟩;exact n (λa ne=>au ne) ⟨_,ay⟩ λL=>⟨vs.set j' v,ay,(s.mv L).set j' (VL.mv L)⟩
  |_=>simp[d9]at d
 |IM ks vs =>
  cases ws with
  |str y' =>
   simp only[d9]at d;split at d
   ·rename_i hz;cases d;obtain⟨kvs,h1,s,h3⟩:=l;have ey:m=.str y':=VM;subst ey;have hl:kvs.length=ks.length:=by have:=Ŋ J7 s;simpa using this
    refine .inr ⟨a0,_,rfl,vA.k (k:=nc y') h1 (by rw[hl];exact hz),?_⟩;refine n (λa ne=>au ne) ⟨_,ay⟩ λL=>?_;obtain⟨g1,g2⟩:=yF (y:=y') s h3 VL;exact⟨_,ay,g1,g2.mv L⟩
   ·cases d
  |_=>simp[d9]at d
 |_=>simp[d9]at d
theorem Ok.slot(d:Ok C c)(e:k≠.IK)(hs:c.st[i]?=a5 (a5 (k,u))):∃v,c.σ[i]?=a5 (a5 v)/\aM C c c (if k.root=b8 then .bor i else k) u v:=by
 obtain⟨f,b,a⟩:=d.sl i k u hs;refine⟨f,b,?_⟩;by_cases hk:k.root=b8
 ·rw[ņ hk];exact⟨⟨k,hk,hs⟩,b⟩
 ·rw[Ň hk];cases k with
  |loc=>exact a
  |any=>exact a
  |bor j=>exact a.elim
  |IK=>exact(e rfl).elim
  |_=>exact absurd rfl hk
end
end TM
namespace TM
open PySem L2 PyProof.Rows PySem.W
section
theorem GP(d:X.calm=b8)(f:Gl X x)(g:X.mg x=a5 (.ref c))(i:(x==("__debug__":Str))=cc)(j:excIn X.K c Pb "ValueError.__new__"=b8)(k:PE X a (IV C l))(m:hW [a] X.env=[(cc,ve a X.env)])
  (n:∀H',C.xw (.str x) H'->∀b σ s e s',Inv X b σ H' s->bM X.prog X.w X.stack H' s e c bD .none H' s'->X.xe (.ref e) s'):L2.PS X (.Raise (a5 (.Call (.Name x p) [a] [] r)) bD pos) (JF C ns (l >>= λ_=>pure (.rt .io (.str x)))):=by
 refine PS.weak (ye d f g i j k m) ?_;rintro D σ H ⟨u,rfl,rfl,o,h⟩;refine aR o h λx q v t w=>?_;rw[ao]at w;exact λb s e s' I F=>n _ (w q rfl t.ok t.nx (Kept.of t.hσ)) b _ s e s' I F
theorem Ok.kill(b:Ok C c)(n:c.st[j]?=a5 bD):Ok C {c with σ:=c.σ.set j bD}/\Nx c {c with σ:=c.σ.set j bD}:=by
 have ne:∀(i:Nat) (r:Kd×U),c.st[i]?=a5 (a5 r)->(c.σ.set j bD)[i]?=c.σ[i]?:=λi r e=>hQ λz=>by subst z;rw[n]at e;cases e
 have l:∀a,({c with σ:=c.σ.set j bD}:Cf).R1 a->c.R1 a:=λa ⟨i,k,u,hk,d,f⟩=>⟨i,k,u,hk,d,(ne i _ d)▸f⟩
 have p:LZ C {c with σ:=c.σ.set j bD}:=b.dd.of rfl (λi u e=>⟨e,ne i _ e⟩) (λa z=>.inl (l a z)) (.up λ_ z=>z) λi a z=>⟨(b.root (.inr ⟨i,z⟩)).1,λo q=>q⟩
 refine⟨⟨b.same,b.K5,b.par,b.io,by simp[b.len],λi k u e=>?_,λi m k k' u u' r hk s d f g t=>?_,p⟩,⟨λ_ _ h _=>h,λ_ o h=>⟨o,h⟩,λa z=>.inl ?_,λ_ h=>h,λ_ h=>.inl h⟩⟩
 ·obtain⟨v,q,z⟩:=b.sl i k u e;exact⟨v,(ne i _ e).trans q,z⟩
 ·exact b.inj i m k k' u u' r hk s d f ((ne i _ d)▸g) ((ne m _ f)▸t)
 ·exact z.imp (l a) λ⟨i,u,r,d,f,g⟩=>⟨i,u,r,d,(ne i _ d)▸f,g⟩
theorem yG(h:∀m,ns m=b8->m≠i/\m≠j)(u:Ok C b)(x:Ok C c)(n:Nx b c)(d:c.σ=b.σ)(y:i<c.σ.length)(hs:c8 c.H H')(l:H' p=bD)(v:V)
  (w:W (v5 i j k bD) c.st (dw C b ns D)):D.nx (((b.σ.set j (a5 v)).set i (a5 (.ref p))).set j bD) (upd H' p (.tup [.str k,.bl b8])):=by
 obtain⟨r,st',e,q⟩:=w;unfold v5 at e
 dsimp only at e
 split at e
 ·rename_i A;split at e
  case isFalse=>cases e
  rename_i B;have s:c.st[j]?=a5 bD/\i≠j:=⟨A,B⟩
  have G:c.H p=bD:=by
   cases z:c.H p with
   |none=>rfl
   |some o=>rw[hs p o z]at l;cases l
  obtain⟨I,J⟩:=x.kill s.1;obtain⟨L,N⟩:=I.grow (H':=upd H' p (.tup [.str k,.bl b8])) (S':=c.S) (λa o z=>by
   rw[au (bc z G)];exact hs a o z) (λa z=>.inl z) λa z=>z
  obtain⟨f,g,O,Q,T,Y⟩:=kh (r:=(.loc,.tup [.str k,.bl b8])) (v:=.ref p) (i:=i) u L ((n.trans J).trans N) (by simpa using y)
   (show Rep C c.S _ _ _ from⟨p,[.str k,.bl b8],rfl,.inl (.inl ay),_,_,rfl,rfl,_,_,rfl,rfl,rfl⟩) (Post:=λ_ Kc=>dw C b ns D .nx Kc) (by
    have z:W (dB i (.loc,.tup [.str k,.bl b8]) >>= λ_=>(pure .nx:M Fl)) c.st (dw C b ns D):=⟨r,st',e,q⟩
    rw[ah]at z;exact z.mono λ_ st z=>ao.mp z)
  have es:(((b.σ.set j (a5 v)).set i (a5 (.ref p))).set j bD)=(b.σ.set j bD).set i (a5 (.ref p)):=by
   rw[Ă _ _ s.2,ĕ]
  have z:D.nx f.σ f.H:=Y f rfl Q T ⟨λm t=>by
   rw[g];show((c.σ.set j bD).set i _)[m]?=_;rw[hQ (r6 (h m t).1),hQ (r6 (h m t).2),d],by rw[g];simp[d]⟩
  rw[g,O]at z;rw[es];rw[<-d];exact z
 ·cases e
theorem GQ
  (JI:∀m,ns m=b8->m≠i/\m≠j) (hN:X.N.Nodup) (hi:X.N[i]?=a5 y) (hy:Loc X.env.scope y) (Ry:X.fn y=b8) (hj:X.N[j]?=a5 n) (hn:X.env.scope.names.lookup n=a5 .local)
  (hP:C.P=X.prog) (hw:C.w=X.w) (hK:C.K=X.K) (hF:Γ f=F) (hk:∀us k u,F us=a5 (.ok (k,u))->(k=.own\/k=.loc\/k=.any)/\us.length=np) (Jv:∀us c,F us=a5 (.exc c)->us.length=np)
  (G:iw X.prog X.w X.K X.mg X.base (NA X.prog X.w) kd fa fd ps (spT X.prog X.w X.K F np)) (hr:fi kd X.A) (hg:Gl X f) (hm:X.mg f=a5 (.ref fa)) (Oy:PySem.W.keepIn X.K (.ref fa)=b8) (hb:Binds X.K fd ps []) (Lu:(f==("__debug__":Str))=cc)
  (ha:PA X.KD (e::es) (J4 C ms)) (he:hW (e::es) X.env=(cc,ve e X.env)::hW es X.env) (JC:(DD p3 (hW es X.env)).any (·.1)=cc)
  (IZ:X.stack=X.env::X.outer/\X.env.frame=a5 X.env.locals) (Uh:Gl X x) (Ui:X.mg x=a5 (.ref l)) (Yj:ĺ X.K i8 x=a5 (a5 (.ref l))) (Uj:(x==("__debug__":Str))=cc) (ac:exmOne X.K (.ref l) (.ref l)=a5 b8)
  (Yk:Gl X D) (Yl:X.mg D=a5 (.ref Cd)) (Ym:(D==("__debug__":Str))=cc) (Yn:(kitCls X.K (.ref l) (.ref Cd)==a5 b8&&l != Cd)=b8) (Yo:Gl X "isinstance") (Yp:X.mg "isinstance"=bD)
  (Je:(n==("__debug__":Str))=cc) (Uk:(n==("__classdict__":Str))=cc) :
  L2.PS X (.Try [.Assign [.Name y p1] (.Call (.Name f p2) (e::es) [] p3) p4] [.ExceptHandler (a5 (.Name x p5)) (a5 n) [.Assign [.Name y p6] (.Tuple [.Constant (.str k) q p7,.Call (.Name "isinstance" p8) [.Name n p9,.Name D Qz] [] Pk] kx Rz) QA] Ul] [] [] pos)
   (JF C ns (ms >>= λrs=>aC rs >>= λ_=>yn Γ f (rs.map (·.2)) x >>= v5 i j k)):=by
 rintro a s σ H D' I ⟨B,rfl,rfl,ok,h⟩;have JQ:i<B.σ.length:=by rw[I.len];exact(dV.mp hi).1
 let EE:d3->d8->Prop:=λv s'=>∃(c:Cf) (s1:d8) (d T:eH) (H':Hp),v=.ref d/\c.σ=B.σ/\Ok C c/\Nx B c/\Inv X a B.σ c.H s1/\bM X.prog X.w X.stack c.H s1 d l (a5 T) .none H' s'/\c8 c.H H'/\W (v5 i j k bD) c.st (dw C B ns D');refine Ě (mh (Q:=λf s1=>f=Ó/\SP X a D' .next s1) (E:=EE) ?_ (λf s1 z=>?_) λv s1 z=>?_)
 ·refine WN (We (ro (dy I hg hm ?_ Lu)) rfl);refine PySem.W.callWith_K (h₀:=X.base) I.ok.mod.NU Oy (mh (args (X:=X.KD) ha (I.jh _) ok h p3) (λus s1 z=>?_) λ_ _ z=>z.elim) he JC;obtain⟨rs,c,vs,t,g,rv,w⟩:=z;have g:=g.fg;refine⟨g.LH,?_⟩;have ab:C.Eqv (MA X.prog X.w X.K c.H (Kl c.H)):=⟨hP,hw,hK⟩
  have KP:(MA X.prog X.w X.K c.H (Kl c.H)).Eqv C:=⟨hP.symm,hw.symm,hK.symm⟩
  have rd:=t.read;have Y:∀(k1:Kd) (u:U),F (rs.map (·.2))=a5 (.ok (k1,u))->k1=.own\/k1=.loc->W (v5 i j k (a5 (k1,u))) c.st (dw C B ns D') ->
    d6 (ez X.prog X.w) X.A (NQ (.ref fa) us) (λv s2=>d6 (ez X.prog X.w) X.A (Ĝ X.env y v) (λ_ s3=>d6 (ez X.prog X.w) X.A (PySem.execs [] X.env) (λf s4=>f=Ó/\SP X a D' .next s4) EE s3) EE s2) EE s1:=λk1 u L Ol q=>by
   obtain⟨k0,k2⟩:=hk _ _ _ L;have Kj:spT X.prog X.w X.K F np vs c.H (λv H'=>D'.nx (B.σ.set i (a5 v)) H') E0:=⟨by rw[<-rd.len];exact k2,rs.map (·.2),.ok (k1,u),Kl c.H,L,λ_ z=>z,rd.cg ab,k0,λv H' S' hb=>hb.here (Q:=λv H'=>D'.nx (B.σ.set i (a5 v)) H') Ol t.hσ t.ok t.nx KP λc2 v2 e3 e4 Jj n2 r2=>iR (λm z=>(JI m z).1) ok ⟨e3,Jj,n2,r2⟩ (by rw[e3];exact JQ) (e4▸q)⟩
   refine mh (kf (EE:=EE) G hr hb g rv Kj λ_ _ ⟨_,_,_,_,_,_,z⟩=>z.elim) (λv s2 ⟨v',H2,I2,r2,q2⟩=>?_) λ_ _ z=>z;rw[t.hσ]at I2;exact eO I2 hN hi hy r2 (λs3 I3=>N6 ⟨rfl,_,H2,I3,q2⟩) (.inl Ry)
  rw[ah]at w;obtain⟨r,st',J,q⟩:=w;unfold yn at J;rw[hF]at J;split at J
  ·rename_i u L;cases J;exact Y _ u L (.inl rfl) q
  ·rename_i u L;cases J;exact Y _ u L (.inr rfl) q
  ·rename_i c' L;split at J
   case isFalse=>cases J
   rename_i Yq;subst Yq;cases J;have Kj:spT X.prog X.w X.K F np vs c.H (λ_ _=>False) (λv _ H'=>v=.ref l/\c8 c.H H'):=⟨by rw[<-rd.len];exact Jv _ _ L,rs.map (·.2),.exc _,Kl c.H,L,λ_ z=>z,rd.cg ab,λC1 H1 O h2=>by rw[Yj]at O;cases O;exact⟨rfl,h2⟩⟩
   refine mh (kf (EE:=EE) G hr hb g rv Kj λv s' ⟨d,C1,T,H',e3,F',e4,e5⟩=>?_) (λv s2 ⟨_,_,_,_,z⟩=>z.elim) λ_ _ z=>z;cases e4;exact⟨c,s1,d,T,H',e3,t.hσ,t.ok,t.nx,by rw[<-t.hσ];exact g,F',e5,q⟩
  ·cases J
 ·obtain⟨rfl,z⟩:=z;exact N6 z
 ·obtain⟨c,s0,d,T,H',rfl,hσ,Jg,n0,g,F1,hs,w⟩:=z;have K4:s0.heap.FunFrames X.base (X.env::X.outer):=by rw[<-IZ.1];exact g.stack
  have KZ:∀b∈JA (X.env::X.outer),c.H b=bD:=by rw[<-IZ.1];exact g.iq
  have hA:X.A.frames=a5 (X.env::X.outer):=by rw[<-IZ.1];exact g.ok.frames
  rw[IZ.1]at F1;refine F1.note hA IZ.2 K4 KZ λT2 s2 F2=>F2.land K4 KZ λT3 s3 F3=>?_;have ag:∀{T:Option eH} {fl:d3} {s':d8},bM X.prog X.w (X.env::X.outer) c.H s0 d l T fl H' s'->Inv X a B.σ H' s':=λ{T fl s'} F=>g.xf (ch:=[]) F.os (by rw[IZ.1];exact F.un) F.IQ F.bare λb z=>nomatch z
  have M7:d≠X.env.locals/\d∉X.fs:=by
   obtain⟨m,⟨o,_,_,ho,_⟩,_⟩:=g.loc;refine⟨λz=>?_,λz=>?_⟩
   ·rw[<-z,F1.new]at ho;cases ho
   ·obtain⟨_,o,q,_⟩:=K4.mem (K2.mpr (by
     obtain⟨env,O,h2⟩:=K2.mp z;exact⟨env,l0 _ O,h2⟩))
    rw[F1.new]at q;cases q
  have Kw:∀{T:Option eH} {fl:d3} {s':d8} (E:d3->d8->Prop),bM X.prog X.w (X.env::X.outer) c.H s0 d l T fl H' s'->∃oe,s'.heap.get? d=a5 oe/\oe.cls=.ref l/\Inv (X.Kw d oe E) a B.σ H' s':=λ{T fl s'} E F=>by
   obtain⟨a0,oe,vs,O,h2,h3,_⟩:=F.exc;exact⟨oe,O,h2,(ag F).Kw O F.he M7.1 M7.2 λv z=>by rw[h3]at z;cases z⟩
  refine î (Ò ?_) λz=>nomatch z
  obtain⟨Yr,g1,g2,I3⟩:=Kw (S0 (ez X.prog X.w) (X.A.mark (a5 (.ref d))) X.env λx s'=>cameBackBy (ez X.prog X.w) X.A X.env X.xe x s') F3;refine dy I3 Uh Ui ?_ Uj;have LT:Z2 (ez X.prog X.w) s3.heap (W2 (.ref d)) (.ref l):=by
   refine(Y4 g1).andThen ?_;rw[g2];exact .now
  refine(exm_one I3.LH LT ac).here (Zl ?_);refine F3.land K4 KZ λT4 s4 F4=>?_;obtain⟨MS,g3,g4,I4⟩:=Kw (λ_ _=>False) F4;refine eO (X:=X.Kw d MS λ_ _=>False) I4 hN hj (.inl hn) (v:=.ref d) rfl (λs5 I5=>?_) (.inr hn);have pi:PE (X.Kw d MS λ_ _=>False) (.Call (.Name "isinstance" p8) [.Name n p9,.Name D Qz] [] Pk) (λσ H Q=>σ[j]?=a5 (a5 (.ref d))/\Q (.bl b8) H):=by
   rintro a s σ H Q I ⟨O,h2⟩;refine ro (cH I Yo Yp (show tv "isinstance"=a5 (.builtin "isinstance") by decide +kernel) ?_ (by decide +kernel) (by decide +kernel));refine Ls (IX (bS (X:=X.Kw d MS λ_ _=>False) (bN hj (.inl hn) Je Uk) (bS (te:=λσ H Q=>Q (.ref Cd) H) (λa s σ H Q I h=>dy I Yk Yl ⟨.ref Cd,H,I,rfl,h⟩ Ym) dH) rfl Pk a s σ H (λvs H'=>vs=[.ref d,.ref Cd]/\Q (.bl b8) H') I ⟨_,O,rfl,h2⟩) λus s1 ⟨vs,H1,g,r1,J,q1⟩=>?_) rfl rfl;subst J;obtain⟨u1,u2,rfl,Qu,Qv⟩:=vals2 r1;cases Qu;cases Qv;exact Eb g.LH (g.pin (d,MS) mN).1 g4 Yn ⟨.bl b8,H1,g,rfl,q1⟩
  have pt:=oj (X:=X.Kw d MS λ_ _=>False) (pos:=QA) (pos':=p6) hN hi hy (DI (x1:=kx) (pos:=Rz) (bS (og (x:=k) (j:=q) (pos:=p7)) (bS pi dH rfl) rfl)) rfl (.inl Ry);refine mh ((kC pt oh) a s5 _ H' {nx:=λσ H=>∃p,H' p=bD/\σ=(B.σ.set j (a5 (.ref d))).set i (a5 (.ref p))/\H=upd H' p (.tup [.str k,.bl b8]),rt:=λ_ _=>False} I5 ?_) (λfl s6 z=>?_) λ_ _ z=>z.elim
  ·refine⟨ei (by rw[I.len];exact(dV.mp hj).1),(by decide:2<=cL),λp hp=>⟨p,hp,rfl,rfl⟩⟩
  ·cases fl with
   |next =>
    obtain⟨_,_,I6,p,hp,rfl,rfl⟩:=z;exact Inv.gone (I6.Gn I.ok) hN hj hn λs7 I7=>⟨_,_,I7,yG JI ok Jg n0 hσ (by rw[hσ];exact JQ) hs hp _ w⟩
   |ret v=>obtain⟨_,_,_,_,_,z⟩:=z;exact z.elim
   |_=>obtain⟨_,_,_,z⟩:=z;exact z.elim
end
end TM
namespace TM
open PySem L2 PyProof.Rows
section
theorem Ok.GR(d:Ok C c)(n:Ns Q c)(T:c.st[i]?=a5 (a5 (.IK,u)))(B:c.σ[i]?=a5 (a5 (.ref r)))(JM:∀a,¬c.RD i a->H' a=c.H a)(Y:∀a o,c.H a=a5 o->∃N,H' a=a5 N)
  (new:Mv c.S c.H c.S H'->cy C c.S H' r as' u') (ab:∀a∈as',a∈c.kid i\/(¬c.R a/\Q.H a=bD)) :
  Ok C {c with H:=H',st:=c.st.set i (a5 (.IK,u')),kid:=λj=>if j=i then as' else c.kid j}/\Ns Q {c with H:=H',st:=c.st.set i (a5 (.IK,u')),kid:=λj=>if j=i then as' else c.kid j}:=by
 have JQ:i<c.st.length:=(dV.mp T).1;have rt:∀{a},c.RD i a->¬c.S a/\¬C.Lv a/\(C.H₀ a=bD\/C.IO a)/\∃o,c.H a=a5 o/\¬Tp o:=λz=>d.root (.inr ⟨i,z⟩);have h0:∀{a},c.RD i a->C.H₀ a=bD:=λ⟨u1,r1,g,b,e3⟩=>(cy.fr (d.dd.kd i u1 r1 g b) _ (d7.mpr e3)).2.2;have q:∀{a:eH} {o:HO},¬c.RD i a->c.H a=a5 o->H' a=a5 o:=λz e=>by rw[JM _ z];exact e
 have O:Mv c.S c.H c.S H':=⟨λ_ z=>z,λa o e t=>q (λz=>by
  obtain⟨_,_,_,N,l,nt⟩:=rt z;rw[e]at l;cases l;exact nt t) e,λa o z e=>q (λm=>(rt m).1 z) e⟩
 have M8:Mv (PS C c.S) c.H (PS C c.S) H':=⟨λ_ z=>z,O.Pc,λa o z e=>q (λm=>z.elim (rt m).2.1 (rt m).1) e⟩
 have D:∀(j:Nat) k w,(c.st.set i (a5 (.IK,u')))[j]?=a5 (a5 (k,w))->j≠i->c.st[j]?=a5 (a5 (k,w)):=λj k w e ne=>by rw[hQ (r6 ne)]at e;exact e
 have OE:∀(j:Nat) k w,k.root=b8->(c.st.set i (a5 (.IK,u')))[j]?=a5 (a5 (k,w))->c.st[j]?=a5 (a5 (k,w)):=λj k w hk e=>by
  by_cases f:j=i
  ·subst f;rw[ei JQ]at e;cases e;cases hk
  ·exact D j k w e f
 have b1:∀a,({c with H:=H',st:=c.st.set i (a5 (.IK,u')),kid:=λj=>if j=i then as' else c.kid j}:Cf).R1 a->c.R1 a:=λa ⟨j,k,w,hk,g,b⟩=>⟨j,k,w,hk,OE j k w hk g,b⟩
 have G:∀j a,({c with H:=H',st:=c.st.set i (a5 (.IK,u')),kid:=λj=>if j=i then as' else c.kid j}:Cf).RD j a->c.RD j a\/(j=i/\¬c.R a/\Q.H a=bD):=λj a Jm=>by
  obtain⟨w,h,g,b,e3⟩:=Jm;by_cases f:j=i
  ·subst f;have I:c.σ[j]?=a5 (a5 (.ref h)):=b;rw[B]at I;cases I;rcases e3 with rfl|e3
   ·exact .inl ⟨u,_,T,B,.inl rfl⟩
   ·have NI:a∈as':=by simpa using e3
    rcases ab a NI with z|z
    ·exact .inl ⟨u,_,T,B,.inr z⟩
    ·exact .inr ⟨rfl,z⟩
  ·have NI:a=h\/a∈c.kid j:=by simpa[f] using e3
   exact .inl ⟨w,h,D j _ w g f,b,NI⟩
 refine⟨⟨λa o e z=>q (λm=>by rw[h0 m]at e;cases e) (d.same a o e z),λa z=>?_,d.par,λa z=>?_,by simp[d.len],λj k w e=>?_,λx s k1 k2 w1 w2 h h1 h2 g b e3 e4=>d.inj x s k1 k2 w1 w2 h h1 h2 (OE x k1 w1 h1 g) (OE s k2 w2 h2 b) e3 e4,⟨λj w h g b=>?_,λx s a J L=>?_,λj a J L=>?_⟩⟩,⟨λa o e z=>?_,λa o e=>?_,λa z=>?_,n.sub,n.new⟩⟩
 ·obtain⟨q1,o,q2⟩:=d.K5 a z;exact⟨q1,Y a o q2⟩
 ·obtain⟨q1,o,q2⟩:=d.io a z;exact⟨q1,Y a o q2⟩
 ·by_cases f:j=i
  ·subst f;rw[ei JQ]at e;cases e;exact⟨.ref r,B,r,rfl⟩
  ·obtain⟨v,g,b⟩:=d.sl j k w (D j k w e f);refine⟨v,g,b.mv O M8 λhk h er=>?_⟩;obtain⟨Rq,Kx,J,_⟩:=b.rt hk;rw[er]at Kx;cases Kx;exact⟨J,λo l=>q (λz=>d.dd.d1 i h z ⟨j,k,w,hk,D j k w e f,by rw[g,er]⟩) l⟩
 ·by_cases f:j=i
  ·subst f;rw[ei JQ]at g;cases g;have I:c.σ[j]?=a5 (a5 (.ref h)):=b;rw[B]at I;cases I;have z:=new O;simpa using z
  ·have JZ:=D j _ w g f;have Jv:(if j=i then as' else c.kid j)=c.kid j:=Ň f;show cy C c.S H' h (if j=i then as' else c.kid j) w;rw[Jv];exact cy.mv O (λa ha=>⟨(d.root (.inr ⟨j,w,h,JZ,b,d7.mp ha⟩)).1,λo l=>q (λz=>f (d.dd.dj j i a ⟨w,h,JZ,b,d7.mp ha⟩ z)) l⟩) (d.dd.kd j w h JZ b)
 ·rcases G x a J with p|⟨rfl,p,_⟩
  ·rcases G s a L with A|⟨rfl,A,_⟩
   ·exact d.dd.dj x s a p A
   ·exact(A (.inr ⟨x,p⟩)).elim
  ·rcases G s a L with A|⟨rfl,A,_⟩
   ·exact(p (.inr ⟨s,A⟩)).elim
   ·rfl
 ·rcases G j a J with p|⟨rfl,p,_⟩
  ·exact d.dd.d1 j a p (b1 a L)
  ·exact p (.inl (b1 a L))
 ·exact q (λm=>by
   rcases n.roots a (.inr ⟨i,m⟩) with y|y
   ·exact z y
   ·rw[e]at y;cases y) (n.keep a o e z)
 ·obtain⟨N,l⟩:=n.there a o e;exact Y a N l
 ·rcases z with z|⟨j,z⟩
  ·exact n.roots a (.inl (b1 a z))
  ·rcases G j a z with y|⟨_,_,y⟩
   ·exact n.roots a (.inr ⟨j,y⟩)
   ·exact .inr y
theorem Ok.newD(l:Ok C c)(B:c.H p=bD)(u:i<c.σ.length):
  Ok C {c with H:=upd c.H p (.dK []),σ:=c.σ.set i (a5 (.ref p)),st:=c.st.set i (a5 (.IK,.IM [] [])),kid:=λj=>if j=i then [] else c.kid j}/\Ns c {c with H:=upd c.H p (.dK []),σ:=c.σ.set i (a5 (.ref p)),st:=c.st.set i (a5 (.IK,.IM [] [])),kid:=λj=>if j=i then [] else c.kid j}:=by
 obtain⟨n,Q⟩:=l.lay (o:=.dK []) B;obtain⟨q1,q2,q3,q4,D⟩:=l.k_ B;have G:i<c.st.length:=by rw[l.len];exact u
 have x:∀(j:Nat) k w,(c.st.set i (a5 (.IK,.IM [] [])))[j]?=a5 (a5 (k,w))->j≠i->c.st[j]?=a5 (a5 (k,w)):=λj k w e ne=>by rw[hQ (r6 ne)]at e;exact e
 have q:∀(j:Nat),j≠i->(c.σ.set i (a5 (.ref p)))[j]?=c.σ[j]?:=λj ne=>hQ (r6 ne);have I:∀(j:Nat) k w,k.root=b8->(c.st.set i (a5 (.IK,.IM [] [])))[j]?=a5 (a5 (k,w))->j≠i/\c.st[j]?=a5 (a5 (k,w)):=λj k w hk e=>by
  by_cases b:j=i
  ·subst b;rw[ei G]at e;cases e;cases hk
  ·exact⟨b,x j k w e b⟩
 have b1:∀a,({c with H:=upd c.H p (.dK []),σ:=c.σ.set i (a5 (.ref p)),st:=c.st.set i (a5 (.IK,.IM [] [])),kid:=λj=>if j=i then [] else c.kid j}:Cf).R1 a->c.R1 a:=λa J=>by
  obtain⟨j,k,w,hk,d,f⟩:=J;obtain⟨b,L⟩:=I j k w hk d;exact⟨j,k,w,hk,L,by rw[<-q j b];exact f⟩
 have r:∀j a,({c with H:=upd c.H p (.dK []),σ:=c.σ.set i (a5 (.ref p)),st:=c.st.set i (a5 (.IK,.IM [] [])),kid:=λj=>if j=i then [] else c.kid j}:Cf).RD j a->(j≠i/\c.RD j a)\/(j=i/\a=p):=λj a J=>by
  obtain⟨w,g,d,f,e3⟩:=J;by_cases b:j=i
  ·subst b;have s:(c.σ.set j (a5 (.ref p)))[j]?=a5 (a5 (.ref g)):=f;rw[ei u]at s;cases s;rcases e3 with rfl|e3
   ·exact .inr ⟨rfl,rfl⟩
   ·simp at e3
  ·have NI:a=g\/a∈c.kid j:=by simpa[b] using e3
   exact .inl ⟨b,w,g,x j _ w d b,by rw[<-q j b];exact f,NI⟩
 refine⟨⟨n.same,n.K5,n.par,n.io,by simp[l.len],λj k w e=>?_,λm h k1 k2 T Y g h1 h2 d f e3 e4=>?_,⟨λj w g d f=>?_,λm h a N t=>?_,λj a N t=>?_⟩⟩,⟨Q.keep,Q.there,λa z=>?_,λ_ z=>z,λ_ z=>.inl z⟩⟩
 ·by_cases b:j=i
  ·subst b;rw[ei G]at e;cases e;exact⟨.ref p,ei u,p,rfl⟩
  ·obtain⟨v,d,f⟩:=n.sl j k w (x j k w e b);exact⟨v,(q j b).trans d,f⟩
 ·obtain⟨L_,a1⟩:=I m k1 T h1 d;obtain⟨LY,a2⟩:=I h k2 Y h2 f;exact l.inj m h k1 k2 T Y g h1 h2 a1 a2 ((q m L_).symm.trans e3) ((q h LY).symm.trans e4)
 ·by_cases b:j=i
  ·subst b;rw[ei G]at d;cases d;have s:(c.σ.set j (a5 (.ref p)))[j]?=a5 (a5 (.ref g)):=f;rw[ei u]at s;cases s;show cy C c.S (upd c.H p (.dK [])) p (if j=j then [] else c.kid j) (.IM [] []);rw[ņ rfl];exact⟨[],ay,rfl,rfl,by simp,λa ha=>by rw[i2.mp ha];exact⟨q2,q3,q1⟩,rfl⟩
  ·have L:=x j _ w d b;have z:=n.dd.kd j w g L ((q j b).symm.trans f);show cy C c.S (upd c.H p (.dK [])) g (if j=i then [] else c.kid j) w;rw[Ň b];exact z
 ·rcases r m a N with⟨_,A⟩|⟨rfl,rfl⟩
  ·rcases r h a t with⟨_,O⟩|⟨rfl,rfl⟩
   ·exact l.dd.dj m h a A O
   ·exact(D (.inr ⟨m,A⟩)).elim
  ·rcases r h a t with⟨_,O⟩|⟨rfl,_⟩
   ·exact(D (.inr ⟨h,O⟩)).elim
   ·rfl
 ·rcases r j a N with⟨_,A⟩|⟨rfl,rfl⟩
  ·exact l.dd.d1 j a A (b1 a t)
  ·exact D (.inl (b1 a t))
 ·rcases z with z|⟨j,z⟩
  ·exact .inl (.inl (b1 a z))
  ·rcases r j a z with⟨_,y⟩|⟨_,rfl⟩
   ·exact .inl (.inr ⟨j,y⟩)
   ·exact .inr B
end
section
theorem dr.rep{S S':eH->Prop}(hs:∀a,S a->S' a):∀{us:List U}{as:List eH},(∀a∈as,S' a)->dr C S H us as->aq C S' H us (as.map V.ref)
 |[],as,_,h=>by cases h;exact rfl
 |u::us,as,c,h=>by
  obtain⟨a,as',i,vs,rfl,rfl,d,e,f⟩:=h;exact⟨.ref a,as'.map V.ref,rfl,⟨a,vs,rfl,.inl ⟨c a (by simp),.inl d⟩,e.mv (.up hs)⟩,dr.rep hs (λb g=>c b (by simp[g])) f⟩
theorem Ok.IB(b:Ok C c)(n:Nx c0 c)(Q:c.st[i]?=a5 (a5 (.IK,u)))(s:c.σ[i]?=a5 (a5 (.ref r))):
  Ok C {c with S:=λa=>c.S a\/a∈c.kid i,st:=c.st.set i (a5 (.own,u))}/\Nx c0 {c with S:=λa=>c.S a\/a∈c.kid i,st:=c.st.set i (a5 (.own,u))}:=by
 have T:i<c.st.length:=(dV.mp Q).1;have B:=b.dd.kd i u r Q s;have fr:=cy.fr B;have mem:∀a,(a=r\/a∈c.kid i)->c.RD i a:=λa z=>⟨u,r,Q,s,z⟩
 have up:Mv c.S c.H (λa=>c.S a\/a∈c.kid i) c.H:=.up λa=>.inl;have Ys:Mv (PS C c.S) c.H (PS C λa=>c.S a\/a∈c.kid i) c.H:=.up λa z=>z.imp id .inl;have RA:r∉c.kid i/\cV C (λa=>c.S a\/a∈c.kid i) c.H r u:=by
  cases u<;>first|exact B.elim|skip
  obtain⟨kvs,D,G,h3,h4,h5,h6⟩:=B;refine⟨(mx.mp h4).1,kvs,D,G,?_⟩;rw[h3];exact h6.rep (λa=>.inl) λa I=>.inr I
 have p:∀(j:Nat) k w,(c.st.set i (a5 (.own,u)))[j]?=a5 (a5 (k,w))->j≠i->c.st[j]?=a5 (a5 (k,w)):=λj k w e ne=>by rw[hQ (r6 ne)]at e;exact e
 have b1:∀a,({c with S:=λa=>c.S a\/a∈c.kid i,st:=c.st.set i (a5 (.own,u))}:Cf).R1 a->c.R1 a\/a=r:=λa Y=>by
  obtain⟨j,k,w,hk,f,g⟩:=Y;by_cases d:j=i
  ·subst d;have K3:c.σ[j]?=a5 (a5 (.ref a)):=g;rw[s]at K3;cases K3;exact .inr rfl
  ·exact .inl ⟨j,k,w,hk,p j k w f d,g⟩
 have J:∀j a,({c with S:=λa=>c.S a\/a∈c.kid i,st:=c.st.set i (a5 (.own,u))}:Cf).RD j a->j≠i/\c.RD j a:=λj a Y=>by
  obtain⟨w,h,f,g,t⟩:=Y;by_cases d:j=i
  ·subst d;rw[ei T]at f;cases f
  ·exact⟨d,w,h,p j _ w f d,g,t⟩
 refine⟨⟨b.same,λa z=>?_,b.par,b.io,by simp[b.len],λj k w e=>?_,λm l k1 k2 L N h D G f g t e4=>?_,⟨λj w h f g=>?_,λm l a x z2=>b.dd.dj m l a (J m a x).2 (J l a z2).2,λj a x z2=>?_⟩⟩,⟨⟨n.keep,n.there,λa z=>?_,λa z=>.inl (n.sub a z),λa z=>?_⟩⟩⟩
 ·rcases z with z|z
  ·exact b.K5 a z
  ·obtain⟨o,ho,_⟩:=cy.there B a (l0 _ z);exact⟨(fr a (l0 _ z)).2.2,o,ho⟩
 ·by_cases d:j=i
  ·subst d;rw[ei T]at e;cases e;obtain⟨q1,q2,q3⟩:=fr r (mN ..);exact⟨.ref r,s,r,rfl,λz=>z.elim q1 RA.1,q2,q3,RA.2⟩
  ·obtain⟨v,f,g⟩:=b.sl j k w (p j k w e d);refine⟨v,f,g.mv up Ys λhk h er=>?_⟩;obtain⟨Rq,Kx,x,_⟩:=g.rt hk;rw[er]at Kx;cases Kx;exact⟨λz=>z.elim x λz=>b.dd.d1 i h (mem h (.inr z)) ⟨j,k,w,hk,p j k w e d,by rw[f,er]⟩,λo q=>q⟩
 ·by_cases O:m=i
  ·by_cases A:l=i
   ·rw[O,A]
   ·subst O;have NI:c.σ[m]?=a5 (a5 (.ref h)):=t;rw[s]at NI;cases NI;exact(b.dd.d1 m r (mem r (.inl rfl)) ⟨l,k2,N,G,p l k2 N g A,e4⟩).elim
  ·by_cases A:l=i
   ·subst A;have VN:c.σ[l]?=a5 (a5 (.ref h)):=e4;rw[s]at VN;cases VN;exact(b.dd.d1 l r (mem r (.inl rfl)) ⟨m,k1,L,D,p m k1 L f O,t⟩).elim
   ·exact b.inj m l k1 k2 L N h D G (p m k1 L f O) (p l k2 N g A) t e4
 ·by_cases d:j=i
  ·subst d;rw[ei T]at f;cases f
  ·have JZ:=p j _ w f d;exact cy.mv up (λa I=>⟨λz=>z.elim (b.root (.inr ⟨j,w,h,JZ,g,d7.mp I⟩)).1 λz=>d (b.dd.dj j i a ⟨w,h,JZ,g,d7.mp I⟩ (mem a (.inr z))),λo q=>q⟩) (b.dd.kd j w h JZ g)
 ·obtain⟨d,y⟩:=J j a x;rcases b1 a z2 with z|z
  ·exact b.dd.d1 j a y z
  ·subst z;exact d (b.dd.dj j i a y (mem a (.inl rfl)))
 ·rcases z with z|⟨j,z⟩
  ·rcases b1 a z with z|rfl
   ·exact n.roots a (.inl z)
   ·exact n.roots a (.inr ⟨i,mem a (.inl rfl)⟩)
  ·exact n.roots a (.inr ⟨j,(J j a z).2⟩)
 ·rcases z with z|z
  ·exact n.new a z
  ·rcases n.roots a (.inr ⟨i,mem a (.inr z)⟩) with y|y
   ·exact .inr (.inl y)
   ·exact .inr (.inr y)
theorem BN(g:X.N[i]?=a5 x)(j:KC X.env.scope x)(k:(x==("__debug__":Str))=cc)(l:(x==("__classdict__":Str))=cc):PE X (.Name x pos) (IV C (yl i)):=by
 have n:=oV (C:=C) (pos:=pos) g j k l;rintro c s σ H Q I ⟨b,rfl,rfl,d,r,st',e,h⟩;unfold yl at e;split at e
 ·rename_i u hs;cases e;obtain⟨v,f,m,rfl⟩:=d.sl i _ _ hs;obtain⟨o,p⟩:=d.IB (Nx.refl b) hs f;have q:i<b.st.length:=(dV.mp hs).1;exact bN g j k l c s b.σ b.H Q I ⟨.ref m,f,h {b with S:=λa=>b.S a\/a∈b.kid i,st:=b.st.set i (a5 (.own,u))} (.ref m) rfl rfl o p ⟨⟨.own,rfl,ei q⟩,f⟩⟩
 ·exact n c s b.σ b.H Q I ⟨b,rfl,rfl,d,r,st',e,h⟩
end
section
theorem gw{st:aw}(h:W (iK i) st Q):∃ks us,st[i]?=a5 (a5 (.IK,.IM ks us))/\Q (ks,us) st:=by
 obtain⟨r,st',e,q⟩:=h;unfold iK at e;split at e
 ·rename_i ks us hs;cases e;exact⟨ks,us,hs,q⟩
 ·cases e
theorem gy{st:aw}(h:W (jY x) st Q):∃y,x.2=.str y/\Q y st:=by
 unfold jY at h;split at h
 ·rename_i y e;rw[ao]at h;exact⟨y,e,h⟩
 ·exact(bu.mp h).elim
theorem Ok.IM(d:Ok C c)(f:c.st[i]?=a5 (a5 (.IK,.IM ks us))):∃(r:eH) (kvs:List (Key×V)),c.σ[i]?=a5 (a5 (.ref r))/\c.H r=a5 (.dK kvs)/\kvs.map (·.1)=ks.map nc/\kvs.map (·.2)=(c.kid i).map V.ref /\
  (r::c.kid i).Nodup/\dr C c.S c.H us (c.kid i)/\(∀y:Str,(dz kvs (nc y)).isSome=cK (y∈ks))/\∀(y:Str) (u:U),dN ks us y=a5 u->∃v,dz kvs (nc y)=a5 v/\Rep C (λa=>c.S a\/a∈c.kid i) c.H u v:=by
 obtain⟨v,e,r,rfl⟩:=d.sl i _ _ f;obtain⟨kvs,k,b,g,l,n,h⟩:=d.dd.kd i _ r f e;have j:aq C (λa=>c.S a\/a∈c.kid i) c.H us (kvs.map (·.2)):=by rw[g];exact h.rep (λa=>.inl) λa m=>.inr m
 exact⟨r,kvs,e,k,b,g,l,h,λy=>(dE (x:=y) b j).2,λy=>(dE (x:=y) b j).1⟩
theorem qz{k:Str->List Str×List U->M β}{Post:β->aw->Prop}{Z:V->V->Hp->Prop}(m:Ok C a)(h:W (o >>= λx=>jY x >>= λy=>iK i >>= λd=>k y d) a.st Post)
  (hz:∀(c:Cf) (y:Str) (ks:List Str) (us:List U) (r:eH) (kvs:List (Key×V)),c.σ=a.σ->Ok C c->Nx a c->c.H r=a5 (.dK kvs)->(dz kvs (nc y)).isSome=cK (y∈ks)->W (k y (ks,us)) c.st Post->Z (.str y) (.ref r) c.H) :
  IV C o a.σ a.H λv p=>∃f,a.σ[i]?=a5 (a5 f)/\Z v f p:=by
 refine⟨a,rfl,rfl,m,?_⟩;rw[ah]at h;refine W.mono h λx st' w c v g hs b n r=>?_;subst hs;obtain⟨u,z⟩:=x;rw[ah]at w;obtain⟨y,e,j⟩:=gy w;clear w
 dsimp only at e r
 subst e;have ev:v=.str y:=r.str b;subst ev;rw[ah]at j;obtain⟨ks,us,hs,w⟩:=gw j;obtain⟨l,kvs,q,s,_,_,_,_,t,_⟩:=b.IM hs;exact⟨.ref l,by rw[<-g];exact q,hz c y ks us l kvs g b n s (t y) w⟩
noncomputable def EO(neg:Bool):CmpOp:=if neg=b8 then .NotIn else .In
theorem ER(d:∀j,ns j=b8->j≠i)(f:X.N.Nodup)(c:X.N[i]?=a5 x)(g:Loc X.env.scope x)(k:X.fn x=b8\/X.env.scope.names.lookup x=a5 .local)
  (hs:O_ (.Dict [] [] p) (a5 (.Name x pos')) pos.line X.env=pure cc):L2.PS X (.Assign [.Name x pos'] (.Dict [] [] p) pos) (JF C ns (CQ i >>= λ_=>pure .nx)):=by
 rintro a s σ H D I ⟨b,rfl,rfl,l,h⟩;have m:i<b.σ.length:=by rw[I.len];exact(dV.mp c).1
 refine oj f c g pU hs k a s b.σ b.H D I λq n=>?_;obtain⟨o,r⟩:=l.newD n m;rw[ah]at h;obtain⟨_,st',e,w⟩:=h;cases e;rw[ao]at w;exact w _ rfl o r ⟨λj t=>hQ (r6 (d j t)),by simp⟩
end
section
theorem BO(J:X.A.units+60<LD)(q:X.N[i]?=a5 x)(t:KC X.env.scope x)(u:(x==("__debug__":Str))=cc)(v:(x==("__classdict__":Str))=cc)(z:PE X a (IV C G))(B:Q6 (EO neg) (.Name x p2)=cc):
  PT X (.Compare a [EO neg] [.Name x p2] pos) (J9 C (G >>= λx=>jY x >>= λy=>iK i >>= λd=>pure (TK neg y d.1))):=by
 rintro e s σ H Q I ⟨g,rfl,rfl,D,h⟩;cases neg with
 |false =>
  refine xj (DR ⋯ z (bN q t u v)) B e s g.σ g.H Q I (qz (Z:=λy x f=>∃a o,x=V.ref a/\fj f a y o/\∃b,V.bl o.isSome=.bl b/\Q b f) D h λc y ks us r kvs j l n m p w=>?_);rw[ao]at w;refine⟨r,_,rfl,fj.k (k:=nc y) m,?_⟩;rw[p];exact⟨_,rfl,w c j rfl l n⟩
 |true =>
  refine xj (vE ⋯ z (bN q t u v)) B e s g.σ g.H Q I (qz (Z:=λy x f=>∃a o,x=V.ref a/\fj f a y o/\∃b,V.bl (!o.isSome)=.bl b/\Q b f) D h λc y ks us r kvs j l n m p w=>?_);rw[ao]at w;refine⟨r,_,rfl,fj.k (k:=nc y) m,?_⟩;rw[p];exact⟨_,rfl,w c j rfl l n⟩
theorem dr.snoc{S:eH->Prop}{a:eH}(b:H a=a5 (.lst vs))(c:aq C S H d vs):∀{us:List U}{as:List eH},dr C S H us as->dr C S H (us++[.lst d]) (as++[a])
 |[],as,h=>by cases h;exact⟨a,[],d,vs,rfl,rfl,b,c,rfl⟩
 |u::us,as,h=>by
  obtain⟨a',as',f,g,rfl,e,i,j,k⟩:=h;exact⟨a',as'++[a],f,g,rfl,e,i,j,dr.snoc b c k⟩
theorem sf{st:aw}(h:W (lb i y r) st Q):∃us ks vs,r=(.own,.lst us)/\st[i]?=a5 (a5 (.IK,.IM ks vs))/\y∉ks/\ks.length<cL/\Q () (st.set i (a5 (.IK,.IM (ks++[y]) (vs++[.lst us])))):=by
 obtain⟨k,u⟩:=r;cases k<;>cases u<;>first|exact(bu.mp h).elim|skip
 rename_i us;obtain⟨_,st',e,q⟩:=h;unfold lb at e
 dsimp only at e
 split at e
 ·rename_i ks vs hs;split at e
  ·rename_i hz;cases e;exact⟨us,ks,vs,rfl,hs,hz.1,hz.2,q⟩
  ·cases e
 ·cases e
theorem ES{i:Nat}{x:Str}{j:Pos}(hu:X.A.units+60<LD)(hN:X.N[i]?=a5 x)(hv:KC X.env.scope x)(hd:(x==("__debug__":Str))=cc)(Js:(x==("__classdict__":Str))=cc)
  (ha:PE X a (IV C ma)) (B:PE X b (IV C mb)) (hs:Q2 [.Subscript (.Name x j) b p] a pos.line X.env=pure cc) (Ud:Vn [.Subscript (.Name x j) b p] a X.env=pure bD)
  (G:∀v,Ss (.Subscript (.Name x j) b p) X.env v=(do
   let n <-MX [v] (ve (.Name x j) X.env)
   let I <-MX [v,n] (ve b X.env)
   X6 p
   MX [v,n,I] (TR n I v)
   Wk [v,n,I] [])) :
  L2.PS X (.Assign [.Subscript (.Name x j) b p] a pos) (JF C ns (ma >>= λr=>iK i >>= λ_=>mb >>= λx=>jY x >>= λy=>lb i y r >>= λ_=>pure .nx)):=by
 refine PS.weak (rh ha (xn (bN hN hv hd Js) B (set_dict (X:=X) ⋯) G) hs Ud rfl) ?_;rintro D σ H ⟨c0,rfl,rfl,O,h⟩;refine aR O h λr c v t w=>?_;rw[ah]at w;obtain⟨VO,us0,J',w⟩:=gw w;obtain⟨Q,OF,T,g0,_⟩:=t.ok.IM J';refine⟨.ref Q,by rw[<-t.hσ];exact T,?_⟩;rw[ah]at w;refine⟨c,t.hσ,rfl,t.ok,w.mono λy st2 Y J vy s e4 u n2 r2=>?_⟩;subst e4;rw[ah]at Y;obtain⟨ky,uy⟩:=y;obtain⟨y,ey,w3⟩:=gy Y
 dsimp only at ey r2
 subst ey;have ev:vy=.str y:=r2.str u;subst ev;rw[ah]at w3;obtain⟨us,ks,vs,L,g,Rc,l,q⟩:=sf w3;subst L;rw[ao]at q;obtain⟨m,kvs,d,g1,g2,g3,g4,g5,g6,_⟩:=u.IM g;have L:m=Q:=by rw[s,<-t.hσ,T]at d;cases d;rfl
 subst L;obtain⟨f,rfl,k1,k2,k3,Jq,k4,k5⟩:=t.rx.w.on t.ok n2.toNs (s.trans t.hσ.symm);have Ue:=t.nx.trans n2;have hl:kvs.length=ks.length:=by have:=Ŋ J7 g2;simpa using this
 have ME:dz kvs (nc y)=bD:=by
  have:=g6 y;rw[ň Rc]at this;cases hq:dz kvs (nc y) with
  |none=>rfl
  |some _=>rw[hq]at this;cases this
 refine⟨m,_,rfl,vA.k (k:=nc y) g1 (by rw[hl];exact l),?_⟩;rw[xB _ ME];have RA:f∉J.kid i:=λz=>k3 (.inr ⟨i,_,_,g,d,.inr z⟩);have VP:f≠m:=λz=>k3 (.inr ⟨i,_,_,g,d,.inl z⟩);have rd:=u.dd.kd i _ _ g d;have fr:=cy.fr rd;obtain⟨LC,n3⟩:=Ok.GR (H':=upd J.H m (.dK (kvs++[(nc y,.ref f)]))) (u':=.IM (ks++[y]) (vs++[.lst us])) (as':=J.kid i++[f]) u Ue.toNs g d
  (λa ne=>au λz=>ne ⟨_,_,g,d,.inl z⟩) (λa o e=>by
   by_cases hz:a=m
   ·subst hz;exact⟨_,ay⟩
   ·rw[au hz];exact⟨o,e⟩)
  (λmv=>by
   refine⟨_,ay,by rw[kr,g2,kr];rfl,by rw[kr,g3,kr];rfl,?_,λa ha=>?_,?_⟩
   ·rw[<-Ü,t5];exact⟨g4,by simp,λa ha b B=>by
     have:b=f:=by simpa using B
     subst this;rintro rfl;rcases d7.mp ha with z|z
     ·exact VP z
     ·exact RA z⟩
   ·rw[<-Ü]at ha;rcases i6.mp ha with ha|ha
    ·exact fr a ha
    ·have:a=f:=by simpa using ha
     subst this;obtain⟨z1,_,z3,_⟩:=O.k_ k1;exact⟨k2,z3,z1⟩
   ·exact dr.snoc (by rw[au VP];exact k4) (k5.mv mv) (dr.mv mv (λa ha o e=>by
     rw[au (λz=>(mx.mp g4).1 (by rw[<-z];exact ha))];exact e) g5))
  (λa ha=>by
   rcases i6.mp ha with ha|ha
   ·exact .inl ha
   ·have:a=f:=by simpa using ha
    subst this;exact .inr ⟨k3,k1⟩)
 have z:=q _ rfl LC n3 (Kept.of s);rw[<-s];exact z
theorem dr.at{S:eH->Prop}:∀{ks:List Str}{us:List U}{as:List eH}{kvs:List (Key×V)}{u:U},kvs.map (·.1)=ks.map nc->kvs.map (·.2)=as.map V.ref->as.Nodup->dr C S H us as->dN ks us y=a5 u ->
  ∃a ws f,dz kvs (nc y)=a5 (.ref a)/\a∈as/\u=.lst f/\H a=a5 (.lst ws)/\aq C S H f ws/\∀(H':Hp) (c:List U) (d:List V),Mv S H S H'->H' a=a5 (.lst d)->aq C S H' c d->(∀b∈as,b≠a->H' b=H b)->dr C S H' (jZ ks us y (.lst c)) as
 |[],us,as,kvs,u,_,_,_,_,h=>by cases us<;>cases h
 |k::ks,[],as,kvs,u,_,_,_,_,h=>by cases h
 |k::ks,Q::us,as,kvs,u,g,q,i,hk,h=>by
  obtain⟨a,as',f,ws,rfl,rfl,t,v,w⟩:=hk;cases kvs with
  |nil=>simp at g
  |cons p kvs =>
   rw[et,et,Qi]at g q;rw[mx]at i;by_cases j:k=y
   ·subst j;simp only[dN,if_true]at h;cases h;refine⟨a,ws,f,by rw[eQ g.1,q.1],by simp,rfl,t,v,λH' c d l r s m=>?_⟩;simp only[jZ,if_true];exact⟨a,as',c,d,rfl,rfl,r,s,dr.mv l (λb n o e=>by rw[m b (by simp[n]) (λz=>i.1 (z▸n))];exact e) w⟩
   ·simp only[dN,Ň j]at h;obtain⟨x,B,D,G,A,I,J,L,N⟩:=dr.at g.2 q.2 i.2 w h;refine⟨x,B,D,?_,by simp[A],I,J,L,λH' c d l r s m=>?_⟩
    ·rw[eR (by rw[g.1];intro z;exact j (U8 z))];exact G
    ·simp only[jZ,Ň j];have O:a≠x:=λz=>i.1 (z▸A);exact⟨a,as',f,ws,rfl,rfl,by rw[m a (by simp) O];exact t,v.mv l,N H' c d l r s λb n=>m b (by simp[n])⟩
theorem sg{st:aw}(h:W (lh i y u) st Q):∃ks vs xs,st[i]?=a5 (a5 (.IK,.IM ks vs))/\dN ks vs y=a5 (.lst xs)/\xs.length<cL/\Q () (st.set i (a5 (.IK,.IM ks (jZ ks vs y (.lst (xs++[u])))))):=by
 obtain⟨_,st',e,q⟩:=h;unfold lh at e;split at e
 ·rename_i ks vs hs;split at e
  ·rename_i xs a;split at e
   ·rename_i hz;cases e;exact⟨ks,vs,xs,hs,a,hz,q⟩
   ·cases e
  ·cases e
 ·cases e
def we(C:Ct)(m:M (Kd×U)):TE:=λσ H Q=>∃b:Cf,b.σ=σ/\b.H=H/\Ok C b/\W m b.st λr st'=>∀c v,c.σ=σ->c.st=st'->Ok C c->Nx b c->(∀a o,b.H a=a5 o->c.H a=a5 o)->aM C b c r.1 r.2 v->Q v c.H
theorem nh(d:Ok C b)(h:W (e >>= k) b.st Post)
  (hz:∀x c v,LA C b c x v->(∀a o,b.H a=a5 o->c.H a=a5 o)->W (k x) c.st Post->Z v c.H):we C e b.σ b.H Z:=by
 rw[ah]at h;exact⟨b,rfl,rfl,d,h.mono λx st1 f g i j l m n p q=>hz x g i ⟨j,m,n,q⟩ p (by rw[l];exact f)⟩
theorem yH(f:X.N[i]?=a5 x)(g:KC X.env.scope x)(l:(x==("__debug__":Str))=cc)(m:(x==("__classdict__":Str))=cc):PE X (.Name x pos) (we C (dn i)):=by
 refine PE.weak (bN f g l m) ?_;rintro σ H Q ⟨b,rfl,rfl,c,r,st',e,h⟩;unfold dn at e;split at e
 ·cases e
 ·rename_i k u n hs;cases e;obtain⟨v,d,a⟩:=c.sl i k u hs;refine⟨v,d,h b v rfl rfl c (Nx.refl b) (λ_ _ z=>z) ?_⟩;by_cases hk:k.root=b8
  ·rw[ņ hk];exact⟨⟨k,hk,hs⟩,d⟩
  ·rw[Ň hk];cases k with
   |loc=>exact a
   |any=>exact a
   |bor j=>exact a.elim
   |IK=>exact(n rfl).elim
   |_=>exact absurd rfl hk
 ·cases e
theorem iS(h:PE X e (tC v))(r:∀S H,Rep C S H u v):PE X e (we C (pure (.loc,u))):=by
 refine PE.weak h ?_;rintro σ H Q ⟨a,rfl,rfl,b,h⟩;rw[ao]at h;exact h a v rfl rfl b (Nx.refl a) (λ_ _ z=>z) (r _ _)
theorem ET(hK:C.K=X.K)(hu:X.A.units+60<LD)(hN:X.N[i]?=a5 x)(hv:KC X.env.scope x)(hd:(x==("__debug__":Str))=cc)(Js:(x==("__classdict__":Str))=cc)(G:PE X a (we C ma))(hb:PE X b (IV C mb))(RB:DQ b)
  (JX:((DD I (hW [a] X.env)).all (λx=>!x.1)&&(Ql I (L9 [] X.env)).all (λx=>x.1.isSome)
   && cK ([a].length+([]:List Oi).length+(if ([]:List Oi).isEmpty then 0 else 1)<30))=b8)
  (Jc:(j.endLine==I.line)=b8) (IZ:hW [a] X.env=[(cc,ve a X.env)]) :
  L2.PS X (.Expr (.Call (.Attribute (.Subscript (.Name x px) b p) "append" j) [a] [] I) pos) (JF C ns (iK i >>= λ_=>mb >>= λx=>jY x >>= λy=>iK i >>= λd=>if y∈d.1 then(ma >>= λr=>lift r >>= λu=>lh i y u >>= λ_=>pure .nx) else M.fail)):=by
 refine PS.weak (j8 (mM PySem.F.plainAttrs_list PySem.F.slot_list_append PySem.F.type_list_append mP (AX ⋯ (bN hN hv hd Js) hb RB) (bS G dH IZ) rfl JX Jc IZ rfl)) ?_;rintro D σ H ⟨c0,rfl,rfl,ok,h⟩;rw[ah]at h;obtain⟨VO,us0,J',h⟩:=gw h;obtain⟨r0,OF,J,g0,_⟩:=ok.IM J';refine⟨.ref r0,J,?_⟩;refine aR ok h λry c vy t w=>?_;rw[ah]at w;obtain⟨ky,uy⟩:=ry;obtain⟨y,ey,w1⟩:=gy w
 dsimp only at ey
 subst ey;have ev:vy=.str y:=t.rx.str t.ok;subst ev;rw[ah]at w1;obtain⟨ks,us,hs,l⟩:=gw w1
 dsimp only at l
 by_cases L:y∈ks
 case neg=>rw[Ň L]at l;exact(bu.mp l).elim
 rw[ņ L]at l;obtain⟨O,kvs,f1,g1,g2,g3,g4,g5,g6,_⟩:=t.ok.IM hs;have Q:O=r0:=by rw[t.hσ,J]at f1;cases f1;rfl
 subst Q;have NK:=g6 y;rw[ŉ L]at NK;obtain⟨v0,n⟩:=R'.mp NK;have KG:v0∈(c.kid i).map V.ref:=by
  rw[<-g3];unfold dz at n;obtain⟨q,hq,rfl⟩:=gs.mp n;exact QQ (List.mem_of_find?_eq_some hq)
 obtain⟨f,Yv,rfl⟩:=js.mp KG;obtain⟨Yw,Up⟩:=g5.mem Yv;refine⟨O,.ref f,rfl,by rw[<-n];exact fj.k (k:=nc y) g1,Or.inl ⟨rfl,Yw,.inl (.inl Up)⟩,?_⟩;rw[<-t.hσ];refine nh t.ok l λr g v t' v7 w3=>?_;rw[ah]at w3;obtain⟨S',st',u,sS,T,n1,m,w4,_,_⟩:=iN t.ok t'.ok t'.nx t'.rx.w w3;rw[ah]at w4;obtain⟨Ky,Jq,xs,s,hx,hz,q⟩:=sg w4;rw[ao]at q;obtain⟨B,Y,k1,k2,k3,k4,k5,k6,_,_⟩:=T.IM s;have VQ:g.σ[i]?=a5 (a5 (.ref B)):=k1;have Q:B=O:=by rw[t'.hσ,t.hσ,J]at VQ;cases VQ;rfl
 subst Q;have Yx:g.H B=a5 (.dK Y):=k2;have Uq:Y=kvs:=by have:=v7 _ _ g1;rw[Yx]at this;cases this;rfl
 subst Uq;have nd:=(mx.mp k5).2;obtain⟨a2,ws,ys,l1,l2,l3,l4,l5,l6⟩:=dr.at k3 k4 nd k6 hx;cases l3;rw[n]at l1;cases l1;have Yy:g.H f=a5 (.lst ws):=l4;refine⟨f,ws,v,rfl,rfl,Yy,by rw[<-l5.len];exact hz,?_⟩;have JM:f≠B:=λz=>(mx.mp k5).1 (z▸l2);obtain⟨Jj,n2⟩:=Ok.GR (c:={g with S:=S',st:=st' }) (H':=upd g.H f (.lst (ws++[v]))) (u':=.IM Ky (jZ Ky Jq y (.lst (xs++[u])))) (as':=g.kid i) T (t.nx.trans n1).toNs s k1
  (λa ne=>au λz=>ne ⟨_,_,s,k1,.inr (z▸l2)⟩) (λa o e=>by
   by_cases hz:a=f
   ·subst hz;exact⟨_,ay⟩
   ·rw[au hz];exact⟨o,e⟩)
  (λmv=>⟨Y,by rw[au (r6 JM)];exact k2,k3,k4,k5,cy.fr (T.dd.kd i _ _ s k1),l6 _ _ _ mv ay ((l5.mv mv).snoc (m.mv mv)) λb _ ne=>au ne⟩)
  (λa G=>.inl G)
 have z:=q _ rfl Jj n2 (Kept.of (t'.hσ.trans t.hσ));rw[<-t'.hσ];exact z
end
section
theorem yI{st:aw}(h:W (TL u) st Q):∃ks us,u=.IM ks us/\Q () st:=by
 cases u<;>first|exact(bu.mp h).elim|skip
 exact⟨_,_,rfl,ao.mp h⟩
theorem ni{st:aw}(h:W (vZ x) st Q):∃j,x.2=.int j/\Q j st:=by
 unfold vZ at h;split at h
 ·rename_i y e;rw[ao]at h;exact⟨y,e,h⟩
 ·exact(bu.mp h).elim
theorem nj{st:aw}(h:W (qu i) st Q):∃k us,k.root=b8/\st[i]?=a5 (a5 (k,.lst us))/\Q us st:=by
 obtain⟨r,st',e,q⟩:=h;unfold qu at e;split at e
 ·rename_i k us hs;split at e
  ·rename_i hk;cases e;exact⟨k,_,hk,hs,q⟩
  ·cases e
 ·cases e
theorem qA:∀{ks:List Str}{us:List U},y∈ks->ks.length=us.length->dN ks us y=bD->False
 |[],us,h,_,_=>by cases h
 |k::ks,[],_,h,_=>by simp at h
 |k::ks,u::us,h,hl,e=>by
  by_cases hk:k=y
  ·simp[dN,hk]at e
  ·simp only[dN,Ň hk]at e;rcases d7.mp h with h|h
   ·exact hk h.symm
   ·exact qA h (by simpa using hl) e
theorem yJ{i:Nat}{x:Str}{G:Pos}(hu:X.A.units+60<LD)(hN:X.N[i]?=a5 x)(hv:KC X.env.scope x)(hd:(x==("__debug__":Str))=cc)(Js:(x==("__classdict__":Str))=cc)
  (ha:PE X a (IV C ma)) (hb:PE X b (IV C mb)) (hm:M2 X (.Name x G) "get" e a b G') :
  PE X (.Call (.Attribute (.Name x G) "get" e) [a,b] [] G') (IV C (dn i >>= λx=>TL x.2 >>= λ_=>ma >>= λy=>jY y >>= λy=>mb >>= λz=>lift z >>= λu=>dn i >>= λx=>M.Jb (Bk x y u))):=by
 rintro f s σ H Q I ⟨p,rfl,rfl,B,h⟩;refine xE ⋯ (bN hN hv hd Js) ha hb hm f s p.σ p.H Q I ?_;rw[ah]at h;obtain⟨k0,u0,Ur,J',h⟩:=dc h;obtain⟨v0,J,t0⟩:=B.slot Ur J';rw[ah]at h;obtain⟨VO,us0,L,h'⟩:=yI h
 dsimp only at L
 subst L;obtain⟨a0,OF,rfl,g0,_⟩:=t0.dict B;refine⟨.ref a0,J,a0,rfl,.inl ⟨OF,.inl g0⟩,?_⟩;refine aR B h' λry c vy t w=>?_;rw[ah]at w;obtain⟨ky,uy⟩:=ry;obtain⟨y,O,w1⟩:=gy w
 dsimp only at O
 subst O;have ev:vy=.str y:=t.rx.str t.ok;subst ev;rw[<-t.hσ];refine aR t.ok w1 λz g vz j T=>?_;rw[ah]at T;obtain⟨S',st',u,sS,D,n1,l,Y,_,_⟩:=iN t.ok j.ok j.nx j.rx.w T;rw[ah]at Y;obtain⟨k,u1,Yz,KI,w5⟩:=dc Y;obtain⟨r,d,q⟩:=bE.mp w5;obtain⟨v1,e1,t1⟩:=D.slot Yz KI;have JZ:g.σ[i]?=a5 (a5 v1):=e1;rw[j.hσ,t.hσ,J]at JZ;cases JZ;cases u1<;>first|(simp only[Bk]at d;cases d;done)|skip
 rename_i ks us;obtain⟨a1,kvs,ea,g1,g2,g3⟩:=t1.dict D;cases ea;have RE:g.H a0=a5 (.dK kvs):=g1;refine⟨_,fj.k (k:=nc y) RE,?_⟩;simp only[Bk]at d;obtain⟨l1,l2⟩:=dE (x:=y) g2 g3;have m:∀v:V,aM C p {g with S:=S',st:=st' } r.1 r.2 v->Q v g.H:=λv z=>q {g with S:=S',st:=st' } v (j.hσ.trans t.hσ) rfl D (t.nx.trans n1) z;cases o:dN ks us y with
 |some w =>
  rw[o]at d;cases d;obtain⟨v,ev,rv⟩:=l1 w o;rw[ev];refine m v ?_;exact aM.item (k:=if k.root=b8 then .bor i else k) rv
 |none =>
  rw[o]at d;cases d;have ME:dz kvs (nc y)=bD:=by
   cases hq:dz kvs (nc y) with
   |none=>rfl
   |some v =>
    exfalso
    rw[hq]at l2;have hy:y∈ks:=by simpa using l2.symm
    have n:ks.length=us.length:=by have h1:=Ŋ J7 g2;have h2:=g3.len;simp at h1 h2;lia
    exact qA hy n o
  rw[ME];exact m vz l
theorem yK:FV X (λo i H Q=>∃p xs j v,o=.ref p/\i=.int j/\H p=a5 (.lst xs)/\0<=j/\xs[j.toNat]?=a5 v/\Q v H):=by
 rintro a s σ H o i l m Q I c d ⟨p,xs,j,v,rfl,rfl,e,f,b,q⟩;cases c;obtain⟨t,rfl⟩:=d;obtain⟨n,r,g,hz⟩:=I.list (.inl (.inl e));obtain⟨w,h,k⟩:=r.get b;have hl:=r.length;have u:=fN;have x:=(dV.mp b).1;exact wpAny_getItem_list g.isList f ⋯ (by simpa using h) ⟨v,H,I,k,q⟩
theorem BP:QZ X (if sub=b8 then .Sub else .Add) (R6 (v3 sub)):=by
 cases sub with
 |true=>exact Dz
 |false=>exact Dy
theorem GS(hN:X.N[i]?=a5 x)(hv:KC X.env.scope x)(hd:(x==("__debug__":Str))=cc)(Js:(x==("__classdict__":Str))=cc)
  (ha:PE X a (we C ma)) (hb:PE X b (IV C mb))
  (m:∀e f new,Ķ b e f new=(do MX [new,e,f] (TR e f new);Wk [new,e,f] [];pure .next)) :
  L2.PS X (.AugAssign (.Subscript (.Name x px) b p) (if sub=b8 then .Sub else .Add) a pos) (JF C ns (qu i >>= λ_=>mb >>= λy=>vZ y >>= λj=>qu i >>= λus=>M.Jb (qv us j) >>= λo=>ma >>= λz=>vZ z >>= λw=>modS i (d9 (.int j) (.int (v3 sub o w))) >>= λ_=>pure .nx)):=by
 refine PS.weak (AF (bN hN hv hd Js) hb yK ha BP set_list m) ?_;rintro D σ H ⟨c0,rfl,rfl,u,h⟩;rw[ah]at h;obtain⟨k0,us0,Ke,J',h⟩:=nj h;obtain⟨v0,n,LP⟩:=u.sl i _ _ J';obtain⟨a0,rfl,_,_,_,_⟩:=LP.rt Ke;refine⟨.ref a0,n,?_⟩;refine aR u h λry c vy t w=>?_;rw[ah]at w;obtain⟨ky,uy⟩:=ry;obtain⟨j,v,A⟩:=ni w
 dsimp only at v
 subst v;have ev:vy=.int j:=t.rx.int t.ok;subst ev;rw[ah]at A;obtain⟨k1,QB,Ol,KI,B⟩:=nj A;rw[ah]at B;obtain⟨o,ho,w3⟩:=bE.mp B;obtain⟨v1,G,YA⟩:=t.ok.sl i _ _ KI;obtain⟨a1,rfl,_,_,_,QC⟩:=YA.rt Ol;rw[t.hσ,n]at G;cases G;obtain⟨vs,I,g2⟩:=QC;unfold qv at ho;split at ho
 case isFalse=>cases ho
 rename_i P';split at ho
 case h_2=>cases ho
 rename_i o' Us;cases ho;obtain⟨vo,YB,YC⟩:=g2.get Us;have YD:vo=.int o:=YC;subst YD;refine⟨a0,vs,j,_,rfl,rfl,I,P',YB,?_⟩;rw[<-t.hσ];refine nh t.ok w3 λz r vz d all2 J=>?_;rw[ah]at J;obtain⟨kz,uz⟩:=z;obtain⟨w,L,O⟩:=ni J
 dsimp only at L
 subst L;have ev:vz=.int w:=d.rx.int d.ok;subst ev;refine⟨o,w,rfl,rfl,?_⟩;rw[ah]at O;obtain⟨k,u1,u2,hk,Q,g,q⟩:=gv O;rw[ao]at q;obtain⟨v2,s,Nn⟩:=d.ok.sl i _ _ Q;obtain⟨a2,rfl,_,_,_,QD⟩:=Nn.rt hk;have YE:=s;rw[d.hσ,t.hσ,n]at s;cases s;have T:r.H a0=a5 (.lst vs):=all2 _ _ I;cases u1 with
 |lst xs =>
  simp only[d9,gs]at g;obtain⟨l,LK,rfl⟩:=g;obtain⟨ZQ,Y,l2⟩:=QD;rw[T]at Y;cases Y;refine⟨a0,vs,j,l,rfl,rfl,T,by rw[<-l2.len];exact LK,?_⟩;obtain⟨LC,n3⟩:=Ok.mod (c:=r) (H':=upd r.H a0 (.lst (vs.set l (.int (v3 sub o w))))) (u':=.lst (xs.set l (.int (v3 sub o w)))) d.ok (t.nx.trans d.nx).toNs hk Q YE (λa ne=>au ne) ⟨_,ay⟩ λmv=>⟨_,ay,(l2.mv mv).set l rfl⟩
  have z:=q _ rfl LC n3 (Kept.of (d.hσ.trans t.hσ));rw[<-d.hσ];exact z
 |IM ks vs=>simp[d9]at g
 |_=>simp[d9]at g
end
section
theorem BQ{ks:List Str}(c:kvs.map (·.1)=ks.map nc)(d:kvs.map (·.2)=ns.map V.int):kvs=(ks.zip ns).map λp=>((nc p.1:Key),V.int p.2):=by
 induction kvs generalizing ks ns with
 |nil =>
  cases ks with
  |nil=>rfl
  |cons _ _=>cases c
 |cons kv kvs e =>
  cases ks with
  |nil=>cases c
  |cons k ks =>
   cases ns with
   |nil=>cases d
   |cons n ns =>
    obtain⟨a,b⟩:=kv;simp only[et,Qi]at c d;obtain⟨rfl,c⟩:=c;obtain⟨rfl,d⟩:=d;rw[e c d];rfl
theorem aq.of_map{S:eH->Prop}{f:α->U}{g:α->V}:∀{l:List α},(∀x∈l,Rep C S H (f x) (g x))->aq C S H (l.map f) (l.map g)
 |[],_=>rfl
 |x::l,h=>⟨g x,l.map g,rfl,h x (by simp),aq.of_map λy a=>h y (by simp[a])⟩
theorem BR(hc:X.calm=b8)(hK:C.K=X.K)(hg:Gl X "sorted")(hm:X.mg "sorted"=bD)(hN:X.N[i]?=a5 x)(hv:KC X.env.scope x)(hd:(x==("__debug__":Str))=cc)(Js:(x==("__classdict__":Str))=cc)(Jc:(b.endLine==m.line)=b8):
  PE X (.Call (.Name "sorted" p) [.Call (.Attribute (.Name x q) "items" b) [] [] m] [] pos) (IV C (dn i >>= λx=>M.Jb (yj x.2))):=by
 rintro g s σ H Q I ⟨c,rfl,rfl,n,h⟩;refine ro (cH I hg hm (show tv "sorted"=a5 (.builtin "sorted") by decide +kernel) ?_ (by decide +kernel) (by decide +kernel));rw[ah]at h;obtain⟨k0,u0,Ur,J',h⟩:=dc h;obtain⟨v0,e0,t0⟩:=n.slot Ur J';obtain⟨r,f,l⟩:=bE.mp h
 dsimp only at f
 unfold yj at f;split at f
 rotate_left
 ·cases f
 rename_i ks us;rw[sx]at f;obtain⟨ns,en,f⟩:=f;split at f
 rotate_left
 ·cases f
 rename_i Ut;cases f;obtain⟨Le,Je,B⟩:=Ut;obtain⟨d,kvs,rfl,D,Ke,G⟩:=t0.dict n;rw[jK en]at G;have Uq:=BQ Ke (aq.ints G);subst Uq;have ek:((ks.zip ns).map (·.1))=ks:=Ø ⋯;have k:d6 (ez X.prog X.w) X.A (ve (.Call (.Attribute (.Name x q) "items" b) [] [] m) X.env) (λv s1=>d6 (ez X.prog X.w) X.A (NQ (.builtin "sorted") [v]) (EP X g c.σ Q) X.xe s1) X.xe s:=by
  refine ZY rfl Jc (IX (bN hN hv hd Js g s c.σ c.H (λv J=>v=.ref d/\J=c.H) I ⟨_,e0,rfl,rfl⟩) λv s1 Uu=>?_);obtain⟨x1,J,O,r1,z1,z2⟩:=Uu;subst z1 z2;cases(show v=l' d from r1);obtain⟨h1,h2⟩:=oB (T:="dict") O (x:=.ref d) rfl (.inr (.inr (.inl ⟨rfl,.inl ⟨_,D⟩⟩)));refine⟨"dict","dict.items",PySem.F.plainAttrs_dict,PySem.F.slot_dict_items,PySem.F.type_dict_items,h1,h2,Kq rfl (PySem.evalArgs_none (oP hc O D (by rw[ek];exact Je) (by rw[ì];lia) λas L hl nd Y hL=>?_))⟩;have t:c.H L=bD:=Y L (by simp);have YF:(as.zip ((ks.zip ns).map MP)).map (·.1)=as:=Ø (by rw[dt];lia);have YG:∀p∈as.zip ((ks.zip ns).map MP),p.1∈as:=λp u=>(Qy u).1;have same:c8 c.H (upd (jX c.H (as.zip ((ks.zip ns).map MP))) L (.lst ((jW ((ks.zip ns).map (·.1))).map λi=>V.ref (as.getD i 0)))):=λa o e=>by
   have n1:a≠L:=λy=>by rw[y,t]at e;cases e
   rw[au n1,k9 λp u y=>?_]
   ·exact e
   ·have:=Y p.1 (by simp[YG p u]);rw[y,e]at this;cases this
  obtain⟨Ja,n'⟩:=n.grow (S':=c.S) same (λa z=>.inl z) λa z=>z;obtain⟨q1,q2,q3,q4,q5⟩:=n.k_ t;refine l {c with H:=upd (jX c.H (as.zip ((ks.zip ns).map MP))) L (.lst ((jW ((ks.zip ns).map (·.1))).map λi=>V.ref (as.getD i 0))),S:=c.S} _ rfl rfl Ja n' ⟨L,rfl,t,q2,q5,_,ay,?_⟩;show aq C c.S _ ((Bi (ks.zip ns)).map vV) _;unfold Bi;rw[kj];refine aq.of_map λj hj=>?_;have LK:j<(ks.zip ns).length:=by
   have:=u5.mp ((gq _).mem_iff.mp hj);rw[dt]at this;exact this
  have Tz:j<as.length:=by lia
  have e1:(ks.zip ns).getD j (oT,0)=(ks.zip ns)[j]:=(List.getElem_eq_getD _).symm;have e2:as.getD j 0=as[j]:=by simp[OB,Tz]
  show Rep C c.S _ (vV ((ks.zip ns).getD j (oT,0))) (V.ref (as.getD j 0));rw[e1,e2];refine⟨as[j],MP (ks.zip ns)[j],rfl,JH.of ?_,⟨_,_,rfl,rfl,_,_,rfl,rfl,rfl⟩⟩;have JM:as[j]≠L:=λy=>hL (by rw[<-y];simp);refine(au JM).trans (tZ (by rw[YF];exact nd) (vs:=MP (ks.zip ns)[j]) ?_);refine Zt.mpr ⟨j,by rw[ì,dt];lia,?_⟩;rw[List.getElem_zip,VB]
 have eb:DD pos (hW [.Call (.Attribute (.Name x q) "items" b) [] [] m] X.env)=[(cc,ve (.Call (.Attribute (.Name x q) "items" b) [] [] m) X.env)]:=rfl;have YH:Ql pos (L9 [] X.env)=[]:=rfl;rw[eb,YH];exact oX k
end
section
theorem uo(g:X.calm=b8)(i:C.K=X.K)(j:Gl X "set")(m:X.mg "set"=bD)(n:PE X a (IV C r))(hs:hW [a] X.env=[(cc,ve a X.env)])(I:Inv X b d.σ d.H s)(u:Ok C d)
  (h:W (r >>= λx=>M.Jb (iJ x.2) >>= k) d.st Post)
  (y:∀(S:eH) (o:Obj) (s1:d8) (D:List Str) (c:Cf),c.σ=d.σ->Ok C c->Nx d c->s1.heap.get? S=a5 o->aP X.prog X.w s1.heap S (aE X.w) D->Inv X ((S,o)::b) c.σ c.H s1->W (k D) c.st Post->(∀q∈b,q.1≠S)->Q (.ref S) s1) :
  d6 (ez X.prog X.w) X.A (ve (.Call (.Name "set" p) [a] [] pos) X.env) Q X.xe s:=by
 refine ro (cH I j m (show tv "set"=a5 (.type "set") by decide +kernel) ?_ (by decide +kernel) (by decide +kernel));have B:DD pos (hW [a] X.env)=[(cc,ve a X.env)]:=by rw[hs];rfl
 have G:Ql pos (L9 [] X.env)=[]:=rfl;rw[B,G];refine ui (one n I u h λx c vx v s2 t f rv w=>?_);rw[ah]at w;obtain⟨D,e,w⟩:=bE.mp w;obtain⟨l,ys,rfl,J,L,rfl⟩:=m_ i t.ok t.rx e;cases rv;exact rL g f J L λS o s1 hsz N O T=>y S o s1 _ c t.hσ t.ok t.nx N O T w λq Y z=>by
  have:=fx (f.pin q (mA _ Y)).1;rw[z]at this;exact absurd (i3 this hsz) (uv _)
theorem BS(n:X.calm=b8)(G:C.K=X.K)(J:Gl X (if ln=b8 then "len" else "sorted"))(L:X.mg (if ln=b8 then "len" else "sorted")=bD)(N:Gl X "set")(O:X.mg "set"=bD)(ha:PE X a (IV C ma))(hb:PE X b (IV C mb))(YI:hW [a] X.env=[(cc,ve a X.env)])(Mn:hW [b] X.env=[(cc,ve b X.env)]):
  PE X (.Call (.Name (if ln=b8 then "len" else "sorted") p) [.BinOp (.Call (.Name "set" t) [a] [] u) .Sub (.Call (.Name "set" p2) [b] [] pos2) d] [] pos)
   (IV C (ma >>= λx=>M.Jb (iJ x.2) >>= λd1=>mb >>= λy=>M.Jb (iJ y.2) >>= λd2=>M.Jb (vW ln d1 d2))):=by
 rintro f s σ H Q I ⟨z,rfl,rfl,ok,h⟩;have g:d6 (ez X.prog X.w) X.A (ve (.BinOp (.Call (.Name "set" t) [a] [] u) .Sub (.Call (.Name "set" p2) [b] [] pos2) d) X.env) (λv s1=>d6 (ez X.prog X.w) X.A (NQ (.builtin (if ln=b8 then "len" else "sorted")) [v]) (EP X f z.σ Q) X.xe s1) X.xe s:=by
  refine wpAny_BinOp (uo n G N O ha YI I ok h λS1 o1 s1 D1 c1 YJ IY YK MO Mq I1 w1 O3=>?_);refine uo n G N O hb Mn I1 IY w1 λS2 o2 s2 D2 j YL T YM Nv O5 B w2 O0=>?_;obtain⟨r,m,k⟩:=bE.mp w2;have Uv:=(B.pin (S1,o1) (mA _ (by simp))).1;have Uw:aP X.prog X.w s2.heap S1 (aE X.w) D1:=Mq.at λo e=>by rw[MO]at e;cases e;exact Uv
  have JM:S1≠S2:=O0 (S1,o1) (by simp);have nx:Nx z j:=YK.trans YM;have D:j.σ=z.σ:=YL.trans YJ;have I3:Inv X f j.σ j.H s2:=B.eh λq hq=>B.pin q (mA _ (by simp[hq]));unfold vW at m;split at m
  rotate_left
  ·cases m
  rename_i i;refine L2.ka JM Uw O5 i.1 i.2 λh' hk Y=>?_;have I4:Inv X f j.σ j.H {s2 with heap:=h' }:=I3.kept (t':=s2.toks) hk;rw[<-D];cases ln with
  |true =>
   cases m;exact rJ I4 Y (bY.flat (c:=j) k D T nx rfl)
  |false =>
   cases m;exact gN n I4 Y (Ì (td _ _) i.1) λl hl=>bY.list (c:=j) k D T nx (aq.strs.mpr rfl) l hl
 have eb:DD pos (hW [.BinOp (.Call (.Name "set" t) [a] [] u) .Sub (.Call (.Name "set" p2) [b] [] pos2) d] X.env)=[(cc,ve (.BinOp (.Call (.Name "set" t) [a] [] u) .Sub (.Call (.Name "set" p2) [b] [] pos2) d) X.env)]:=rfl;have ek:Ql pos (L9 [] X.env)=[]:=rfl;cases ln with
 |true =>
  refine ro (cH I J L (show tv "len"=a5 (.builtin "len") by decide +kernel) ?_ (by decide +kernel) (by decide +kernel));rw[eb,ek];exact oX g
 |false =>
  refine ro (cH I J L (show tv "sorted"=a5 (.builtin "sorted") by decide +kernel) ?_ (by decide +kernel) (by decide +kernel));rw[eb,ek];exact oX g
end
section
variable{X:Cx}{C:Ct}{a:mf}{ma:M (Kd×U)}{apos G':Pos}{i:Nat}{x:Str}{px:Pos}
theorem Ok.yL(b:Ok C c)(hk:k.root=b8)(hs:c.st[i]?=a5 (a5 (k,.lst us))):∃a vs,c.σ[i]?=a5 (a5 (.ref a))/\c.H a=a5 (.lst vs)/\aq C c.S c.H us vs:=by
 obtain⟨v,d,e⟩:=b.sl i k _ hs;obtain⟨r,rfl,_,_,_,vs,f,g⟩:=e.rt hk;exact⟨r,vs,d,f,g⟩
theorem aq.eraseIdx{S:eH->Prop}:∀{us:List U}{vs:List V} (n:Nat),aq C S H us vs->aq C S H (us.eraseIdx n) (vs.eraseIdx n)
 |[],_,n,h=>by cases h;simp[aq]
 |u::us,vs,0,h=>by
  obtain⟨v,r,rfl,c,b⟩:=h;exact b
 |u::us,vs,n+1,h=>by
  obtain⟨v,r,rfl,c,b⟩:=h;exact⟨v,_,rfl,c,b.eraseIdx n⟩
theorem Ok.out(f:Ok C c)(n:Nx g c)(l:c.σ=g.σ)(hk:k.root=b8)(hs:c.st[i]?=a5 (a5 (k,.lst us)))(h:c.σ[i]?=a5 (a5 (.ref r)))(m:aq C c.S c.H d b)(p:Rep C c.S c.H u v)(w:bY C g Q (.loc,u) (c.st.set i (a5 (k,.lst d)))):Q v (upd c.H r (.lst b)):=by
 have q:Mv c.S c.H c.S (upd c.H r (.lst b)):=by
  obtain⟨O,j,s⟩:=f.sl i k _ hs;rw[h]at j;cases j;obtain⟨T,y,A,_,_,B⟩:=s.rt hk;cases y;obtain⟨o,ho,D⟩:=B.some;exact⟨λ_ z=>z,λa G e t=>by rw[au (λz=>by subst z;rw[ho]at e;cases e;exact D t)];exact e,λa G z e=>by rw[au (λI=>by subst I;exact A z)];exact e⟩
 obtain⟨J,L⟩:=f.mod (H':=upd c.H r (.lst b)) (u':=.lst d) n.toNs hk hs h (λa ne=>au ne) ⟨_,ay⟩ λN=>⟨b,ay,m.mv N⟩
 exact w {c with H:=upd c.H r (.lst b),st:=c.st.set i (a5 (k,.lst d))} v l rfl J ⟨L⟩ (p.mv q)
theorem BU(g:X.N[i]?=a5 x)(j:KC X.env.scope x)(l:(x==("__debug__":Str))=cc)(m:(x==("__classdict__":Str))=cc)(n:(apos.endLine==G'.line)=b8)(o:C.K=X.K):
  PE X (.Call (.Attribute (.Name x px) "pop" apos) [] [] G') (IV C (yk i)):=by
 refine PE.weak (DK PySem.F.plainAttrs_list PySem.F.slot_list_pop PySem.F.type_list_pop DL (bN g j l m) rfl n) ?_;rintro σ H Q ⟨q,rfl,rfl,c,h⟩;obtain⟨r,st',e,w⟩:=h;unfold yk at e;split at e
 ·rename_i k us hs;split at e
  ·rename_i hk;split at e
   ·rename_i u s;cases e;obtain⟨p,vs,d,f,b⟩:=c.yL hk hs;obtain⟨v,t,y⟩:=b.get s;have hl:=b.len;refine⟨_,d,.inl ⟨rfl,vs,o▸Jn.of f⟩,p,vs,v,rfl,rfl,f,by rw[<-hl];exact t,?_⟩;refine c.out (Nx.refl q) rfl hk hs d ?_ y w;rw[Zb,Zb,hl];exact b.take _
   ·cases e
  ·cases e
 ·cases e
theorem GU(b:0<=j)(h:j.toNat<n):W9 j n=a5 j.toNat:=by
 simp only[W9];rw[Ň (show ¬j<0 by lia),ņ (by rw[cb,Ņ,Ņ];lia)]
theorem wg{st:aw}(h:W (vY i u) st Q):∃(j:Int) (k:Kd) (us:List U) (y:U),u=.int j/\k.root=b8/\0<=j/\j<1000000/\st[i]?=a5 (a5 (k,.lst us))/\us[j.toNat]?=a5 y/\Q (.loc,y) (st.set i (a5 (k,.lst (us.eraseIdx j.toNat)))):=by
 obtain⟨r,st',e,w⟩:=h;cases u with
 |int j =>
  unfold vY at e
  dsimp only at e
  split at e
  ·rename_i k us hs;split at e
   ·rename_i hk;split at e
    ·rename_i y b;cases e;exact⟨j,k,us,y,rfl,hk.1,hk.2.1,hk.2.2,hs,b,w⟩
    ·cases e
   ·cases e
  ·cases e
 |_=>cases e
theorem yM(o:C.K=X.K)(q:X.N[i]?=a5 x)(s:KC X.env.scope x)(u:(x==("__debug__":Str))=cc)(A:(x==("__classdict__":Str))=cc)(B:PE X a (IV C ma))
  (D:((DD G' (hW [a] X.env)).all (λx=>!x.1)&&(Ql G' (L9 [] X.env)).all (λx=>x.1.isSome)
   && cK ([a].length+([]:List Oi).length+(if ([]:List Oi).isEmpty then 0 else 1)<30))=b8)
  (G:(apos.endLine==G'.line)=b8) (e:hW [a] X.env=[(cc,ve a X.env)]) :
  PE X (.Call (.Attribute (.Name x px) "pop" apos) [a] [] G') (IV C (dn i >>= λx=>Nb x.2 >>= λ_=>ma >>= λy=>vY i y.2)):=by
 refine PE.weak (mM PySem.F.plainAttrs_list PySem.F.slot_list_pop PySem.F.type_list_pop xy (bN q s u A) (bS B dH e) rfl D G e rfl) ?_;rintro σ H Q ⟨c0,rfl,rfl,b,h⟩;rw[ah]at h;obtain⟨k0,I,J,L,h⟩:=dc h;obtain⟨O,f,T⟩:=b.slot J L;refine⟨O,f,?_⟩;cases I with
 |lst Y =>
  rw[ah,show Nb (U.lst Y)=pure () from rfl,ao]at h;obtain⟨a0,N',d,OZ,_⟩:=T.list b;refine⟨by rw[d];exact .inl ⟨rfl,N',o▸OZ⟩,?_⟩;refine aR b h λr c v t w=>?_;obtain⟨j,k,us,y,ej,hk,j0,j1,hs,hu,w⟩:=wg w;obtain⟨p,vs,g,h2,l⟩:=t.ok.yL hk hs;have hp:p=a0:=by
   have:=g;rw[t.hσ,f,d]at this;cases this;rfl
  subst hp;obtain⟨z,m,g2⟩:=l.get hu;have Mz:j.toNat<vs.length:=(dV.mp m).1;have n:=t.rx;rw[ej]at n;have ev:=n.int t.ok;exact⟨p,vs,j,j.toNat,z,d,by rw[ev],h2,Ĩ (by decide) j0,Int.lt_trans j1 (by decide),GU j0 Mz,m,t.ok.out t.nx t.hσ hk hs g (l.eraseIdx _) g2 w⟩
 |_=>rw[ah]at h;exact(bu.mp h).elim
end
end TM
namespace TM
open PySem L2 PyProof.Rows PySem.W
section
variable{X:Cx}{C:Ct}{pins:List (eH×Obj)}{s:d8}{c0 c c1:Cf}
variable{a b tt:mf}{e:mf}{es:List mf}{ms:M (List (Kd×U))}{ns:Nat->Bool}
def Pl(X:Cx)(C:Ct)(pins:List (eH×Obj))(c0:Cf)(Post:Str->aw->Prop)(v:d3)(s':d8):Prop :=
 ∃(c:Cf) (s1:d8) (d T f:eH) (H':Hp) (cl:Str),v=.ref d/\c.σ=c0.σ/\Ok C c/\Nx c0 c/\Inv X pins c0.σ c.H s1/\bM X.prog X.w X.stack c.H s1 d f (a5 T) .none H' s'/\c8 c.H H'/\ĺ X.K i8 cl=a5 (a5 (.ref f))/\Post cl c.st
def PR(X:Cx)(C:Ct)(e:mf)(m:M (Sum (Kd×U) Str)):Prop:=∀(pins:List (eH×Obj)) (s:d8) (c0:Cf) (Post:Sum (Kd×U) Str->aw->Prop),Inv X pins c0.σ c0.H s->Ok C c0->W m c0.st Post ->
 d6 (ez X.prog X.w) X.A (ve e X.env) (λu s2=>∃r c v,LA C c0 c r v/\Inv X pins c0.σ c.H s2/\RelV v u/\Post (.inl r) c.st) (Pl X C pins c0 λcl st=>Post (.inr cl) st) s
theorem EU
  (Y:C.P=X.prog) (hw:C.w=X.w) (hK:C.K=X.K) (hF:Γ f=F) (hk:∀us k u,F us=a5 (.ok (k,u))->(k=.own\/k=.loc\/k=.any)/\us.length=n) (Jv:∀us c,F us=a5 (.exc c)->us.length=n)
  (G:iw X.prog X.w X.K X.mg X.base (NA X.prog X.w) kd fa fd ps (spT X.prog X.w X.K F n)) (hr:fi kd X.A) (hg:Gl X f) (hm:X.mg f=a5 (.ref fa)) (Oy:PySem.W.keepIn X.K (.ref fa)=b8) (o:Binds X.K fd ps []) (Lu:(f==("__debug__":Str))=cc)
  (ha:PA X.KD (e::es) (J4 C ms)) (he:hW (e::es) X.env=(cc,ve e X.env)::hW es X.env) (JC:(DD p3 (hW es X.env)).any (·.1)=cc) :
  PR X C (.Call (.Name f p2) (e::es) [] p3) (ms >>= λrs=>aC rs >>= λ_=>cP Γ f (rs.map (·.2))):=by
 intro pins s c0 Post I ok h;refine ro (dy I hg hm ?_ Lu);refine PySem.W.callWith_K (h₀:=X.base) I.ok.mod.NU Oy (mh (args (X:=X.KD) ha (I.jh _) ok h p3) (λus s1 z=>?_) λ_ _ z=>z.elim) he JC;obtain⟨rs,c,vs,t,l,rv,w⟩:=z;have l:=l.fg;refine⟨l.LH,?_⟩;have m:C.Eqv (MA X.prog X.w X.K c.H (Kl c.H)):=⟨Y,hw,hK⟩
 have KP:(MA X.prog X.w X.K c.H (Kl c.H)).Eqv C:=⟨Y.symm,hw.symm,hK.symm⟩
 have p:=t.read;have i:∀(k1:Kd) (u:U),F (rs.map (·.2))=a5 (.ok (k1,u))->k1=.own\/k1=.loc->Post (.inl (k1,u)) c.st ->
   d6 (ez X.prog X.w) X.A (NQ (.ref fa) us) (λu s2=>∃r c v,LA C c0 c r v/\Inv X pins c0.σ c.H s2/\RelV v u/\Post (.inl r) c.st) (Pl X C pins c0 λcl st=>Post (.inr cl) st) s1:=λk1 u g Ol q=>by
  obtain⟨k0,k2⟩:=hk _ _ _ g;have x:spT X.prog X.w X.K F n vs c.H (λv H'=>∃d,LA C c0 d (k1,u) v/\d.H=H'/\d.st=c.st) E0:=⟨by rw[<-p.len];exact k2,rs.map (·.2),.ok (k1,u),Kl c.H,g,λ_ z=>z,p.cg m,k0,λv H' S' o=>o.here (Q:=λv H'=>∃d,LA C c0 d (k1,u) v/\d.H=H'/\d.st=c.st) Ol t.hσ t.ok t.nx KP λd v2 y B Jj n2 D=>⟨d,⟨y,Jj,n2,D⟩,rfl,B⟩⟩
  refine mh (kf (EE:=Pl X C pins c0 λcl st=>Post (.inr cl) st) G hr o l rv x λ_ _ ⟨_,_,_,_,_,_,z⟩=>z.elim) (λv s2 ⟨v',H2,I2,D,d,t2,J,L⟩=>?_) λ_ _ z=>z;rw[t.hσ]at I2;subst J;exact⟨_,d,v',t2,I2,D,L▸q⟩
 obtain⟨r,st',j,q⟩:∃r st',cP Γ f (rs.map (·.2)) c.st=a5 (.ok r,st')/\Post r st':=w;unfold cP at j;rw[hF]at j;split at j
 ·rename_i u g;cases j;exact i _ u g (.inl rfl) q
 ·rename_i u g;cases j;exact i _ u g (.inr rfl) q
 ·rename_i cl g;cases j;have x:spT X.prog X.w X.K F n vs c.H (λ_ _=>False) (λv _ H'=>(∃N,v=.ref N/\ĺ X.K i8 cl=a5 (a5 (.ref N)))/\c8 c.H H'):=⟨by rw[<-p.len];exact Jv _ _ g,rs.map (·.2),.exc _,Kl c.H,g,λ_ z=>z,p.cg m,λO H1 h1 h2=>⟨⟨O,rfl,h1⟩,h2⟩⟩
  refine mh (kf (EE:=Pl X C pins c0 λcl st=>Post (.inr cl) st) G hr o l rv x λv s' ⟨ea,O,T,H',y,F',⟨N,B,J⟩,L⟩=>?_) (λv s2 ⟨_,_,_,_,z⟩=>z.elim) λ_ _ z=>z;cases B;exact⟨c,s1,ea,T,O,H',cl,y,t.hσ,t.ok,t.nx,by rw[<-t.hσ];exact l,F',L,J,q⟩
 ·cases j
theorem GV(x:PT X.KD tt (J9 C y))(B:PR X C a k)(D:PR X C b l):PR X C (.IfExp tt a b pos) (y >>= λp=>if p=b8 then k else l):=by
 intro pins s c0 Post I G h;refine wpAny_IfExp (mh (x pins s c0.σ c0.H (λp o=>∃c,c.H=o/\c.σ=c0.σ/\Ok C c/\Nx c0 c/\W (if p=b8 then k else l) c.st Post) (I.jh _) (dO G h λp c e i n w=>⟨c,rfl,e,i,n,w⟩)) (λp s1 ⟨o,g,c,J,d,i,n,w⟩=>?_) λ_ _ z=>z.elim);subst J;have g:=g.fg;rw[<-d]at g;have f:∀{e:mf} {m:M (Sum (Kd×U) Str)},PR X C e m->W m c.st Post->d6 (ez X.prog X.w) X.A (ve e X.env) (λu s2=>∃r c v,LA C c0 c r v/\Inv X pins c0.σ c.H s2/\RelV v u/\Post (.inl r) c.st) (Pl X C pins c0 λcl st=>Post (.inr cl) st) s1:=λ{e m} L w=>by
  refine mh (L pins s1 c Post g i w) (λu s2 ⟨r,j,v,t,N,rv,q⟩=>?_) λv s2 z=>?_
  ·exact⟨r,j,v,⟨t.hσ.trans d,t.ok,n.trans t.nx,t.rx.from n⟩,by rw[<-d];exact N,rv,q⟩
  ·obtain⟨j,s3,O,T,Q,H',cl,Y,hσ,Jg,n0,I3,F,hs,hn,q⟩:=z;exact⟨j,s3,O,T,Q,H',cl,Y,hσ.trans d,Jg,n.trans n0,by rw[<-d];exact I3,F,hs,hn,q⟩
 cases p with
 |true=>rw[ņ rfl]at w;exact f B w
 |false=>rw[Ň i7]at w;exact f D w
theorem GW(f:PR X C a m)(hs:O_ a bD pos.line X.env=pure cc)
  (g:∀c H',C.xw (.str c) H'->∀d T H pins σ s e s',ĺ X.K i8 c=a5 (a5 (.ref d))->Inv X pins σ H s->bM X.prog X.w X.stack H s e d T .none H' s'->X.xe (.ref e) s'):L2.PS X (.Expr a pos) (JF C ns (m >>= Bl)):=by
 rintro pins s σ H D I ⟨c0,rfl,rfl,i,h⟩;rw[ah]at h;refine İ (mh (f pins s c0 _ I i h) (λu s2 ⟨r,c,v,t,j,rv,q⟩=>?_) λv s2 z=>?_) I.quiet hs
 ·rw[show Bl (.inl r)=pure .nx from rfl,ao]at q;have z:D.nx c.σ c.H:=q c rfl t.ok t.nx (Kept.of t.hσ);rw[t.hσ]at z;exact⟨c0.σ,c.H,j,z⟩
 ·obtain⟨c,s1,k,T,l,H',cl,rfl,n,o,p,x,F,hs,y,q⟩:=z;rw[show Bl (.inr cl)=pure (.rt .io (.str cl)) from rfl,ao]at q;obtain⟨A,B⟩:=o.grow (H':=H') (S':=c.S) hs (λa z=>.inl z) λa z=>z;exact g cl H' (q {c with H:=H' } rfl A (p.trans B) (Kept.of n)) l _ c.H pins _ s1 k s2 y x F
theorem yN(p:∀m,ns m=b8->m≠k/\m≠j)(y:C.K=X.K)(A:Ok C c0)(B:Ok C c)(n:Nx c0 c)(f:c.σ=c0.σ)(G:k<c.σ.length)(hs:c8 c.H H')(t:H' d=bD)(I:g.cls=.ref u)(J:ĺ X.K i8 cl=a5 (a5 (.ref u)))(v:V)
  (w:W (j3 cs i j k (.inr cl)) c.st (dw C c0 ns D)):D.nx (((c0.σ.set j (a5 v)).set k (a5 (.ref d))).set j bD) (upd H' d (.KA g (.ext λ_=>True))):=by
 obtain⟨r,st',e,q⟩:=w;unfold j3 at e
 dsimp only at e
 split at e
 ·rename_i L;split at e
  case isFalse=>cases e
  rename_i N;have O:c.H d=bD:=by
   cases z:c.H d with
   |none=>rfl
   |some o=>rw[hs d o z]at t;cases t
  obtain⟨Q,T⟩:=B.kill L;obtain⟨Y,n2⟩:=Q.grow (H':=upd H' d (.KA g (.ext λ_=>True))) (S':=c.S) (λa o z=>by
   rw[au (bc z O)];exact hs a o z) (λa z=>.inl z) λa z=>z
  obtain⟨h,l,e2,Ja,n',w'⟩:=kh (r:=(.loc,.exc cl)) (v:=.ref d) (i:=k) A Y ((n.trans T).trans n2) (by simpa using G)
   (show Rep C c.S _ _ _ from⟨d,rfl,g,u,ay,I,y▸J⟩) (Post:=λ_ Kc=>dw C c0 ns D .nx Kc) (by
    have z:W (dB k (.loc,.exc cl) >>= λ_=>(pure .nx:M Fl)) c.st (dw C c0 ns D):=⟨r,st',e,q⟩
    rw[ah]at z;exact z.mono λ_ st z=>ao.mp z)
  have es:(((c0.σ.set j (a5 v)).set k (a5 (.ref d))).set j bD)=(c0.σ.set j bD).set k (a5 (.ref d)):=by
   rw[Ă _ _ N.1,ĕ]
  have z:D.nx h.σ h.H:=w' h rfl Ja n' ⟨λm x=>by
   rw[l];show((c.σ.set j bD).set k _)[m]?=_;rw[hQ (r6 (p m x).1),hQ (r6 (p m x).2),f],by rw[l];simp[f]⟩
  rw[l,e2]at z;rw[es,<-f];exact z
 ·cases e
theorem GX(JI:∀m,ns m=b8->m≠i/\m≠k/\m≠j)(L:X.N.Nodup)(hi:X.N[i]?=a5 y)(hy:Loc X.env.scope y)(Ry:X.fn y=b8)(O:X.N[j]?=a5 n)(Y:X.env.scope.names.lookup n=a5 .local)
  (hk:X.N[k]?=a5 z) (hz:Loc X.env.scope z) (YO:X.fn z=b8) (hK:C.K=X.K) (hr:PR X C a m) (MN:O_ a (a5 (.Name y p1)) p4.line X.env=pure cc) (G:X.stack=X.env::X.outer/\X.env.frame=a5 X.env.locals) (hx:X.ex=[]) (Uh:Gl X x) (Ui:X.mg x=a5 (.ref Dc)) (Uj:(x==("__debug__":Str))=cc)
  (YQ:∀cl∈cs,∀l,ĺ X.K i8 cl=a5 (a5 (.ref l))->exmOne X.K (.ref l) (.ref Dc)=a5 b8) (Je:(n==("__debug__":Str))=cc) (Uk:(n==("__classdict__":Str))=cc) :
  L2.PS X (.Try [.Assign [.Name y p1] a p4] [.ExceptHandler (a5 (.Name x p5)) (a5 n) [.Assign [.Name z p6] (.Name n p9) QA] Ul] [] [] pos) (JF C ns (m >>= j3 cs i j k)):=by
 rintro pins s σ H D' I ⟨c0,rfl,rfl,ok,h⟩;have JQ:i<c0.σ.length:=by rw[I.len];exact(dV.mp hi).1
 have Ny:k<c0.σ.length:=by rw[I.len];exact(dV.mp hk).1
 rw[ah]at h;refine Ě (mh (Q:=λf s1=>f=Ó/\SP X pins D' .next s1) (E:=Pl X C pins c0 λcl st=>W (j3 cs i j k (.inr cl)) st (dw C c0 ns D')) ?_ (λf s1 z=>?_) λv s1 z=>?_)
 ·refine WN (We (mh (hr pins s c0 _ I ok h) (λu s2 ⟨r,c,v,t,I2,rv,q⟩=>?_) λ_ _ z=>z) MN);exact eO I2 L hi hy rv (λs3 I3=>N6 ⟨rfl,_,c.H,I3,iR (λm z=>(JI m z).1) ok t (by rw[t.hσ];exact JQ) q⟩) (.inl Ry)
 ·obtain⟨rfl,z⟩:=z;exact N6 z
 ·obtain⟨c,s0,d,T,l,H',cl,rfl,hσ,Jg,n0,B,F1,hs,Mo,w⟩:=z;have KG:cl∈cs:=by
   obtain⟨r,st',e,_⟩:=w;unfold j3 at e
   dsimp only at e
   split at e
   ·split at e
    case isFalse=>cases e
    rename_i q;exact q.2
   ·cases e
  have ab:=YQ cl KG l Mo;have K4:s0.heap.FunFrames X.base (X.env::X.outer):=by rw[<-G.1];exact B.stack
  have KZ:∀b∈JA (X.env::X.outer),c.H b=bD:=by rw[<-G.1];exact B.iq
  have hA:X.A.frames=a5 (X.env::X.outer):=by rw[<-G.1];exact B.ok.frames
  rw[G.1]at F1;refine F1.note hA G.2 K4 KZ λT2 s2 F2=>F2.land K4 KZ λT3 s3 F3=>?_;have ac:∀{T:Option eH} {D:d3} {s':d8},bM X.prog X.w (X.env::X.outer) c.H s0 d l T D H' s'->Inv X pins c0.σ H' s':=λ{T D s'} F=>B.xf (ch:=[]) F.os (by rw[G.1];exact F.un) F.IQ F.bare λb z=>nomatch z
  have g:∀b o,s0.heap.get? b=a5 o->b≠d:=λb o q z=>by rw[z,F1.new]at q;cases q
  have M7:d≠X.env.locals/\d∉X.fs:=by
   obtain⟨m,⟨o,_,_,ho,_⟩,_⟩:=B.loc;refine⟨r6 (g _ o ho),λz=>?_⟩;obtain⟨_,o,q,_⟩:=K4.mem (K2.mpr (by
    obtain⟨env,h1,h2⟩:=K2.mp z;exact⟨env,l0 _ h1,h2⟩))
   exact g _ o q rfl
  have Kw:∀{T:Option eH} {D:d3} {s':d8} (E:d3->d8->Prop),bM X.prog X.w (X.env::X.outer) c.H s0 d l T D H' s'->∃J,s'.heap.get? d=a5 J/\J.cls=.ref l/\Inv (X.Kw d J E) pins c0.σ H' s':=λ{T D s'} E F=>by
   obtain⟨a0,J,vs,h1,h2,h3,_⟩:=F.exc;exact⟨J,h1,h2,(ac F).Kw h1 F.he M7.1 M7.2 λv z=>by rw[h3]at z;cases z⟩
  refine î (Ò ?_) λz=>nomatch z
  obtain⟨Yr,g1,g2,I3⟩:=Kw (S0 (ez X.prog X.w) (X.A.mark (a5 (.ref d))) X.env λx s'=>cameBackBy (ez X.prog X.w) X.A X.env X.xe x s') F3;refine dy I3 Uh Ui ?_ Uj;have LT:Z2 (ez X.prog X.w) s3.heap (W2 (.ref d)) (.ref l):=by
   refine(Y4 g1).andThen ?_;rw[g2];exact .now
  refine(exm_one I3.LH LT ab).here (Zl ?_);refine F3.land K4 KZ λT4 s4 F4=>?_;obtain⟨MS,g3,g4,I4⟩:=Kw (λ_ _=>False) F4;refine eO (X:=X.Kw d MS λ_ _=>False) I4 L O (.inl Y) (v:=.ref d) rfl (λs5 I5=>?_) (.inr Y);have pt:=oj (X:=X.Kw d MS λ_ _=>False) (pos:=QA) (pos':=p6) L hk hz (bN (pos:=p9) O (.inl Y) Je Uk) rfl (.inl YO);refine mh ((kC pt oh) pins s5 _ H' {nx:=λσ H=>σ=(c0.σ.set j (a5 (.ref d))).set k (a5 (.ref d))/\H=H',rt:=λ_ _=>False} I5 ?_) (λD s6 z=>?_) λ_ _ z=>z.elim
  ·exact⟨.ref d,ei (by rw[I.len];exact(dV.mp O).1),rfl,rfl⟩
  ·cases D with
   |next =>
    obtain⟨_,_,I6,rfl,rfl⟩:=z;refine Inv.gone (X:=X.Kw d MS λ_ _=>False) I6 L O Y λs7 I7=>?_;have g7:=(I7.pin (d,MS) mN).1;refine⟨_,_,(I7.Gn I.ok).Gp g7 F4.he ?_ M7.1 (λx c q=>?_) (λp hp=>?_),yN (X:=X) (λm z=>(JI m z).2) hK ok Jg n0 hσ (by rw[hσ];exact Ny) hs F4.he g4 Mo _ w⟩
    ·cases q:X.s₀.heap.get? d with
     |none=>rfl
     |some o =>
      obtain⟨o',q'⟩:=B.base.there d o q (by rw[hx];exact λz=>nomatch z);exact absurd rfl (g d o' q')
    ·obtain⟨v,o,q,_⟩:=B.cell x c q;exact g c o q
    ·exact g p.1 p.2 (B.pin p hp).1
   |ret v=>obtain⟨_,_,_,_,_,z⟩:=z;exact z.elim
   |_=>obtain⟨_,_,_,z⟩:=z;exact z.elim
theorem uq(n:C.K=X.K)(r:Gl X "isinstance")(y:X.mg "isinstance"=bD)(A:PE X a (IV C B))(G:PE X D (tC vD))(J:∀u,RelV vD u->u=dv)(hs:hW [a,D] X.env=(cc,ve a X.env)::hW [D] X.env)(L:hW [D] X.env=(cc,ve D X.env)::hW [] X.env)(N:(DD j (hW [D] X.env)).any (·.1)=cc)
  (O:∀q∈g,∀d,ĺ X.K i8 q.1=a5 (a5 (.ref d))->fU X.K d=b8/\kitOne X.K (.ref d) dv=a5 q.2) :
  PE X (.Call (.Name "isinstance" p) [a,D] [] j) (IV C (B >>= λx=>M.Jb (eW g x.2) >>= λb=>pure (.loc,.bl b))):=by
 rintro pins s σ H Q I ⟨c0,rfl,rfl,T,h⟩;refine ro (cH I r y (show tv "isinstance"=a5 (.builtin "isinstance") by decide +kernel) ?_ (by decide +kernel) (by decide +kernel));refine Ls (IX (bS A (bS G dH L) hs j pins s c0.σ c0.H (λvs H'=>∃x c v b,LA C c0 c x v/\c.H=H'/\vs=[v,vD]/\eW g x.2=a5 b/\bY C c0 Q (.loc,.bl b) c.st) I ?_) λus s1 ⟨vs,H1,i,Y,x,c,v,b,t,e,e2,f,w⟩=>?_) hs N
 ·refine aR T h λx c v t w=>?_;rw[ah]at w;obtain⟨b,e,w⟩:=bE.mp w;rw[ao]at w;exact⟨x,c,v,b,t,rfl,rfl,e,w⟩
 ·subst e e2;obtain⟨u1,u2,rfl,Qu,Qv⟩:=vals2 Y;obtain rfl:=J _ Qv;obtain⟨kx,ux⟩:=x;unfold eW at f;split at f
  ·rename_i cl k
   dsimp only at k
   subst k;obtain⟨a,ea,o,d,h1,h2,l⟩:=t.rx.read t.ok;subst ea;cases Qu;rw[n]at l;obtain⟨q,hq,m⟩:∃q∈g,q=(cl,b):=⟨_,PySem.mem_of_lookup f,rfl⟩
   obtain⟨k1,k2⟩:=O _ hq d (by rw[m];exact l);rw[m]at k2;refine kia_one (yf k1) i.LH ⟨o,(i.IQ a _ h1).1,h2⟩ k2 (λz=>nomatch z) λtk=>?_;exact⟨.bl b,c.H,i.tok tk,rfl,w c (.bl b) t.hσ rfl t.ok t.nx rfl⟩
  ·cases f
theorem qB{S:eH->Prop}:∀{us:List U}{vs:List V}{bs:List Bool},aq C S H us vs->gO us=a5 bs->vs=bs.map V.bl
 |[],vs,bs,h,e=>by cases e;exact h
 |.bl b::us,vs,bs,h,e=>by
  obtain⟨v,r,rfl,d,f⟩:=h;rw[gO,gs]at e;obtain⟨g,e,rfl⟩:=e;rw[show v=V.bl b from d,qB f e];rfl
 |.IU::_,_,_,_,e=>nomatch e
 |.int _::_,_,_,_,e=>nomatch e
 |.str _::_,_,_,_,e=>nomatch e
 |.tup _::_,_,_,_,e=>nomatch e
 |.lst _::_,_,_,_,e=>nomatch e
 |.IM _ _::_,_,_,_,e=>nomatch e
 |.exc _::_,_,_,_,e=>nomatch e
noncomputable def GY:Bool->Str
 |true=>"index"
 |false=>"count"
theorem BV{d b:Bool}(D:C.K=X.K)(u:X.N[i]?=a5 x)(v:KC X.env.scope x)(y:(x==("__debug__":Str))=cc)(z:(x==("__classdict__":Str))=cc)(A:(g.endLine==G.line)=b8):
  PE X (.Call (.Attribute (.Name x px) (GY d) g) [.Constant (.bool b) q p2] [] G) (IV C (rV d i b)):=by
 have go:∀(σ:L2.St) (H:Hp) (Q:VK),IV C (rV d i b) σ H Q->∃(p:eH) (bs:List Bool),σ[i]?=a5 (a5 (.ref p))/\Jn X.K H p (bs.map V.bl)/\H p=a5 (.lst (bs.map V.bl))/\(d=b8->b∈bs/\Q (.int (bs.idxOf b:Nat)) H)/\(d=cc->Q (.int (bs.count b:Nat)) H):=by
  rintro σ H Q ⟨c0,rfl,rfl,n,h⟩;obtain⟨r,st',e,w⟩:=h;unfold rV at e;split at e
  ·rename_i k us hs;split at e
   ·rename_i hk;split at e
    ·rename_i bs I;obtain⟨p,vs,j,f,l⟩:=n.yL hk hs;have J:=qB l I;subst J;refine⟨p,bs,j,D▸Jn.of f,f,λo=>?_,λo=>?_⟩
     ·subst o;rw[ņ rfl]at e;split at e
      ·rename_i t;cases e;exact⟨t,w c0 _ rfl rfl n (Nx.refl c0) rfl⟩
      ·cases e
     ·subst o;rw[Ň i7]at e;cases e;exact w c0 _ rfl rfl n (Nx.refl c0) rfl
    ·cases e
   ·cases e
  ·cases e
 cases d with
 |false =>
  refine PE.weak (mM PySem.F.plainAttrs_list PySem.F.slot_list_count PySem.F.type_list_count yc (bN u v y z) (bS (pN (b:=b)) dH rfl) rfl rfl A rfl rfl) ?_;intro σ H Q h;obtain⟨p,bs,j,f,l,_,L⟩:=go σ H Q h;exact⟨_,j,.inl ⟨rfl,_,f⟩,p,bs,b,rfl,rfl,l,L rfl⟩
 |true =>
  refine PE.weak (mM PySem.F.plainAttrs_list PySem.F.slot_list_index PySem.F.type_list_index yd (bN u v y z) (bS (pN (b:=b)) dH rfl) rfl rfl A rfl rfl) ?_;intro σ H Q h;obtain⟨p,bs,j,f,l,O,_⟩:=go σ H Q h;obtain⟨t,T⟩:=O rfl;have B:=List.idxOf_lt_length_of_mem t;refine⟨_,j,.inl ⟨rfl,_,f⟩,p,bs,b,bs.idxOf b,rfl,rfl,l,?_,λm Y hh=>?_,T⟩
  ·rw[ri B,List.getElem_idxOf B]
  ·have:=List.not_of_lt_findIdx (p:=(·==b)) (xs:=bs) Y;obtain⟨h6,h7⟩:=dV.mp hh;rw[h7]at this;simp at this
end
end TM
namespace TM
open PySem L2 PyProof.Rows
abbrev MF(P:va)(w:H8)(K:PySem.W.Frag)(H:Hp)(a IO:eH->Prop):Ct:=⟨P,w,K,H,a,IO,λ_ _=>False⟩
structure CU(C:Ct)(H H':Hp)(S':eH->Prop)(is:List Nat)(vs:List V)(ws:List U)(k:Kd)(u:U)(v:V):Prop where
 same:∀a o,H a=a5 o->¬C.IO a->H' a=a5 o
 new:∀a,S' a->H a=bD/\∃o,H' a=a5 o
 own:k=.own->∃r,v=.ref r/\H r=bD/\¬S' r/\cV C S' H' r u
 loc:k=.loc->Rep C S' H' u v
 len:ws.length=is.length
 KQ:∀(n i:Nat) (r:eH) (w:U),is[n]?=a5 i->vs[i]?=a5 (.ref r)->ws[n]?=a5 w->cV C S' H' r w
structure EV(C:Ct)(H:Hp)(is:List Nat)(us:List U)(vs:List V):Prop where
 len:us.length=vs.length
 par:∀a,C.Lv a->Kl H a/\¬C.IO a
 VW:∀a,C.IO a->Kl H a
 io:∀(i:Nat) (u:U),i∈is->us[i]?=a5 u->∃r,vs[i]?=a5 (.ref r)/\C.IO r/\cV C (λ_=>False) H r u
 any:∀(i:Nat) (u:U),i∉is->us[i]?=a5 u->∃v,vs[i]?=a5 v/\Rep C C.Lv H u v
 inj:∀(i j:Nat) (r:eH),i∈is->j∈is->vs[i]?=a5 (.ref r)->vs[j]?=a5 (.ref r)->i=j
 KQ:∀a,C.IO a->∃i∈is,vs[i]?=a5 (.ref a)
def RF(P:va)(w:H8)(K:PySem.W.Frag)(F:List U->Option (Ex (Kd×U)))(b:Nat)(is:List Nat):Sp:=λvs H Q _=>vs.length=b/\∃us k u ws a IO,F us=a5 (.ok (k,.tup (u::ws)))/\(k=.own\/k=.loc)/\EV (MF P w K H a IO) H is us vs /\
 ∀v H' S',CU (MF P w K H a IO) H H' S' is vs ws k u v->Q v H'
theorem map_inj:∀{l:List α},(l.map f).Nodup->∀x∈l,∀y∈l,f x=f y->x=y
 |[],_,_,h,_,_,_=>by cases h
 |a::l,h,x,g,y,c,e=>by
  rw[et,mx]at h;rcases d7.mp g with d|h1
  ·rcases d7.mp c with b|h2
   ·rw[d,b]
   ·exact absurd (js.mpr ⟨y,h2,by rw[<-e,d]⟩) h.1
  ·rcases d7.mp c with b|h2
   ·exact absurd (js.mpr ⟨x,h1,by rw[e,b]⟩) h.1
   ·exact map_inj h.2 x h1 y h2 e
section
theorem wj(h:ib rs p=a5 j):∃us,rs[p]?=a5 (.bor j,.lst us)/\cB us=b8:=by
 unfold ib at h;split at h
 ·split at h
  ·cases h;exact⟨_,by assumption,by assumption⟩
  ·cases h
 ·cases h
theorem LB.VX(t:LB C d c rs vs){i:Nat}(h:rs[i]?=a5 r):∃v,vs[i]?=a5 v/\aM C d c r.1 r.2 v:=by
 have f:∀(l:List (Kd×U)) (w:List V),cQ C d c l w->bq l c.st->∀(i:Nat) (r:Kd×U),l[i]?=a5 r->∃v,w[i]?=a5 v/\aM C d c r.1 r.2 v:=by
  intro l;induction l with
  |nil=>intro w _ _ i r e;simp at e
  |cons x l g =>
   intro w h hs i r e;obtain⟨v,t',rfl,j,k,_⟩:=h;rw[gr]at hs;cases i with
   |zero=>simp at e;subst e;exact⟨v,rfl,j.t hs.1⟩
   |succ i=>obtain⟨m,a,b⟩:=g t' k hs.2 i r (by simpa using e);exact⟨m,by simpa using a,b⟩
 exact f rs vs t.rep t.NH i r h
theorem LB.len(t:LB C a c rs vs):rs.length=vs.length:=by
 have:=t.read.len;rw[dt]at this;exact this
theorem ur(q:C'.Eqv C){vs:List V}(hs:∀a,S' a->S1 a){IO:eH->Prop}(O:∀a,S' a->¬IO a)(y:∀a o,IO a->H' a=a5 o->¬Tp o):
  ∀(ps:List Nat) (ws:List U) (c:Cf) (st':aw),Ok C c->Ns c1 c->c.S=S1->gP rs ps ws c.st=a5 st'->(ps.map (ib rs)).Nodup->(∀p∈ps,∀a,vs[p]?=a5 (.ref a)->IO a) ->
  (∀p∈ps,∀j,ib rs p=a5 j->∃k u r,k.root=b8/\c.st[j]?=a5 (a5 (k,u))/\c.σ[j]?=a5 (a5 (.ref r))/\vs[p]?=a5 (.ref r)) ->
  (∀(n p:Nat) (r:eH) (w:U),ps[n]?=a5 p->vs[p]?=a5 (.ref r)->ws[n]?=a5 w->cV C' S' H' r w)->(∀a,(∀p∈ps,vs[p]?≠a5 (.ref a))->c.H a=H' a)->(∀a,¬IO a->c.H a=H' a) ->
  ∃g:Cf,Ok C g/\Ns c1 g/\g.σ=c.σ/\g.S=S1/\g.st=st'/\g.H=H'/\g.kid=c.kid/\∀(j:Nat) (k:Kd) (u:U),g.st[j]?=a5 (a5 (k,u))->∃A,c.st[j]?=a5 (a5 (k,A))
 |[],ws,c,st',B,n,x,e,_,_,_,_,D,_=>by
  cases ws with
  |nil=>cases e;exact⟨c,B,n,rfl,x,rfl,funext λa=>D a λp hp=>(by cases hp),rfl,λj k u e=>⟨u,e⟩⟩
  |cons _ _=>cases e
 |p::ps,ws,c,st',B,n,x,e,G,Q,T,rt,D,I=>by
  cases ws with
  |nil=>cases e
  |cons w ws =>
   simp only[gP]at e;split at e
   ·rename_i j Y;split at e
    ·rename_i us k0 ZS IZ;obtain⟨k,u,r,hk,s,e2,J⟩:=T p (by simp) j Y;rw[IZ]at s;cases s;have s:=IZ;have hr:=rt 0 p r _ rfl J rfl;obtain⟨xs,g1,g2⟩:=hr;have L:IO r:=Q p (by simp) r J;rw[et,mx]at G;obtain⟨Ja,n'⟩:=B.mod (H':=upd c.H r (.lst xs)) (u':=.lst us) n hk s e2 (λa ne=>au ne) ⟨_,ay⟩ (λ_=>⟨xs,ay,by
      refine(g2.cg q).mv ⟨λa z=>by rw[x];exact hs a z,λa o h tp=>?_,λa o z h=>?_⟩
      ·by_cases l:a=r
       ·subst l;exact absurd tp (y a o L h)
       ·rw[au l];by_cases v:IO a
        ·exact absurd tp (y a o v h)
        ·rw[I a v];exact h
      ·have v:=O a z;have l:a≠r:=λe=>v (e▸L);rw[au l,I a v];exact h⟩)
     have JQ:j<c.st.length:=(dV.mp s).1;have A1:∀f∈ps,∀t,ib rs f=a5 t->∃k u r,Kd.root k=b8/\(c.st.set j (a5 (k0,.lst us)))[t]?=a5 (a5 (k,u))/\c.σ[t]?=a5 (a5 (.ref r))/\vs[f]?=a5 (.ref r):=λf hp t LK=>by
      obtain⟨k',u',N,a1,a2,a3,a4⟩:=T f (by simp[hp]) t LK;have ne:j≠t:=λz=>G.1 (js.mpr ⟨f,hp,by rw[LK,Y,z]⟩);exact⟨k',u',N,a1,by rw[hQ ne];exact a2,a3,a4⟩
     have A2:∀a,(∀f∈ps,vs[f]?≠a5 (.ref a))->upd c.H r (.lst xs) a=H' a:=λa l=>by
      by_cases h:a=r
      ·subst h;rw[ay,g1]
      ·rw[au h];refine D a λf hp z=>?_;rcases d7.mp hp with rfl|hp
       ·rw[J]at z;cases z;exact h rfl
       ·exact l f hp z
     have A3:∀a,¬IO a->upd c.H r (.lst xs) a=H' a:=λa l=>by
      have ne:a≠r:=λz=>l (by rw[z];exact L);rw[au ne];exact I a l
     obtain⟨g,f1,f2,f3,f4,f5,f6,f7,f8⟩:=ur q hs O y ps ws {c with H:=upd c.H r (.lst xs),st:=c.st.set j (a5 (k0,.lst us))} st' Ja n' x e G.2 (λf hp=>Q f (by simp[hp])) A1 (λm f N w' a b d=>rt (m+1) f N w' (by simpa using a) b (by simpa using d)) A2 A3;refine⟨g,f1,f2,f3,f4,f5,f6,f7,λi k' u' z=>?_⟩;obtain⟨A,z⟩:=f8 i k' u' z;by_cases hi:i=j
     ·subst hi;have z:(c.st.set i (a5 (k0,.lst us)))[i]?=_:=z;rw[ei JQ]at z;cases z;exact⟨_,s⟩
     ·have z:(c.st.set j (a5 (k0,.lst us)))[i]?=_:=z;rw[hQ (r6 hi)]at z;exact⟨A,z⟩
    ·cases e
   ·cases e
end
section
theorem BW(st:aw)(r:Kd×U):(d0 st r).1=r.1:=by
 unfold d0;split<;>rfl
theorem cQ.VY{st:aw}:∀{rs:List (Kd×U)}{vs:List V},cQ C d c rs vs->cQ C d c (rs.map (d0 st)) vs
 |[],_,h=>h
 |r::rs,vs,h=>by
  obtain⟨v,t,rfl,e,f,g⟩:=h;refine⟨v,t,rfl,?_,cQ.VY f,λhk i n j a l b=>?_⟩
  ·obtain⟨k,u⟩:=r;cases k<;>exact e
  ·rw[ko,gs]at a;obtain⟨m,a,rfl⟩:=a;rw[BW]at hk b;exact g hk i m j a l b
theorem BX(h:PA X es (J4 C ms)):PA X es (J4 C (ms >>= Bj)):=by
 rintro pos a s σ H Q I ⟨b,rfl,rfl,d,w⟩;refine h pos a s b.σ b.H Q I ⟨b,rfl,rfl,d,?_⟩;rw[ah]at w;refine w.mono λrs st f c vs g i j n r=>?_;obtain⟨k,st',e,q⟩:=f;cases e;exact q c vs g i j n r.VY
theorem yO(h:TJ r=a5 (k,u,ws)):r=(k,.tup (u::ws))/\(k=.own\/k=.loc):=by
 unfold TJ at h;split at h
 ·cases h;exact⟨rfl,.inl rfl⟩
 ·cases h;exact⟨rfl,.inr rfl⟩
 ·cases h
theorem yP(hP:C.P=X.prog)(hw:C.w=X.w)(hK:C.K=X.K)(hF:Γ f=F)(hk:∀us r,F us=a5 (.ok r)->us.length=np)
  (G:iw X.prog X.w X.K X.mg X.base N8 k fa fd ps (RF X.prog X.w X.K F np is)) (hr:fi k X.A) (hg:Gl X f) (hm:X.mg f=a5 (.ref fa)) (Oy:PySem.W.keepIn X.K (.ref fa)=b8) (B:Binds X.K fd ps [])
  (Lu:(f==("__debug__":Str))=cc) (ha:PA X (e::es) (J4 C ms)) (he:hW (e::es) X.env=(cc,ve e X.env)::hW es X.env) (JC:(DD pos (hW es X.env)).any (·.1)=cc) :
  PE X (.Call (.Name f p) (e::es) [] pos) (IV C (ms >>= λrs=>aC rs >>= λ_=>qt Γ f rs is)):=by
 rintro ag s σ H Q I ⟨c0,rfl,rfl,ok,h⟩;refine ro (dy I hg hm ?_ Lu);refine PySem.W.callWith_K (h₀:=X.base) I.ok.mod.NU Oy (IX (args ha I ok h pos) λus s1 ⟨rs,c,vs,t,I1,rv,w⟩=>⟨I1.LH,?_⟩) he JC;obtain⟨r,st',D,q⟩:=w;unfold qt at D;rw[hF]at D;split at D
 ·rename_i r0 e2;split at D
  ·rename_i kd u ws eu;split at D
   ·rename_i J0;split at D
    ·rename_i st2 UB;cases D;obtain⟨rfl,k1⟩:=yO eu;have k2:=hk _ _ e2;unfold qr at J0;simp only[cb,ki,Ņ,LJ,u5]at J0;obtain⟨⟨h1,h2⟩,h3⟩:=J0;have Y:∀p∈is,∃j xs k r,ib rs p=a5 j/\rs[p]?=a5 (.bor j,.lst xs)/\cB xs=b8/\Kd.root k=b8/\c.st[j]?=a5 (a5 (k,.lst xs))/\c.σ[j]?=a5 (a5 (.ref r))/\vs[p]?=a5 (.ref r)/\¬c.S r/\¬C.Lv r/\cV C c.S c.H r (.lst xs):=λp L=>by
      obtain⟨j,T⟩:=R'.mp (h1 p L);obtain⟨xs,a1,a2⟩:=wj T;obtain⟨v,b1,l⟩:=t.VX a1;obtain⟨r,rfl,d1,d2,_,N⟩:=t.ok.rootOf l.1 l.2;obtain⟨k,m,x⟩:=l.1;exact⟨j,xs,k,r,T,a1,a2,m,x,l.2,b1,d1,d2,N⟩
     let IO:eH->Prop:=λa=>∃p∈is,vs[p]?=a5 (.ref a);have QF:∀a,IO a->c.R a/\¬c.S a/\¬C.Lv a/\Kl c.H a:=λa Jm=>by
      obtain⟨p,L,e⟩:=Jm;obtain⟨j,xs,k,r,_,_,_,m,x,y,J,g5,g6,g7⟩:=Y p L;rw[e]at J;cases J;obtain⟨o,ho,_⟩:=g7.some;exact⟨.inl ⟨j,k,_,m,x,y⟩,g5,g6,o,ho⟩
     let Pr:eH->Prop:=λa=>Kl c.H a/\¬IO a;have ab:C.Eqv (MF X.prog X.w X.K c.H Pr IO):=⟨hP,hw,hK⟩
     have KP:(MF X.prog X.w X.K c.H Pr IO).Eqv C:=⟨hP.symm,hw.symm,hK.symm⟩
     have sP:∀a,c.S a->Pr a:=λa z=>⟨t.ok.yg a z,λz'=>(QF a z').2.1 z⟩
     have gi:∀{i:Nat} {u:U},(rs.map (·.2))[i]?=a5 u->∃k,rs[i]?=a5 (k,u):=λ{i u} e=>by
      rw[ko,gs]at e;obtain⟨⟨k,u'⟩,e,rfl⟩:=e;exact⟨k,e⟩
     have ac:EV (MF X.prog X.w X.K c.H Pr IO) c.H is (rs.map (·.2)) vs:=by
      refine⟨by rw[dt];exact t.len,λa z=>z,λa z=>(QF a z).2.2.2,λi u O e=>?_,λi u O e=>?_,λi j r O T e3 e4=>?_,λa z=>z⟩
      ·obtain⟨j,xs,k,r,_,g0,gm,m,x,y,J,g5,g6,zs,g7,g8⟩:=Y i O;obtain⟨k',e⟩:=gi e;rw[g0]at e;cases e;exact⟨r,J,⟨i,O,J⟩,zs,g7,(aq.Jl gm g8).cg ab⟩
      ·obtain⟨k',e⟩:=gi e;obtain⟨v,b1,l⟩:=t.VX e;refine⟨v,b1,?_⟩;have JQ:i<rs.length:=(dV.mp e).1;have RG:=(h3 i JQ).resolve_left O;rw[WJ,e]at RG;refine Rep.cg ab (u:=u) ?_;cases k' with
       |own =>
        obtain⟨r,rfl,_,d1,d2,N⟩:=l;obtain⟨o,ho,_⟩:=N.some;exact N.rep sP ⟨⟨o,ho⟩,λz=>d2 (QF r z).1⟩
       |loc=>exact Rep.mv (.up sP) l
       |any=>exact Rep.mv (.up λa z=>z.elim (λz=>⟨t.ok.Gq a (.inl z),λz'=>(QF a z').2.2.1 z⟩) (sP a)) l
       |bor j =>
        obtain⟨r,rfl,d1,d2,_,N⟩:=t.ok.rootOf l.1 l.2;obtain⟨o,ho,_⟩:=N.some;refine N.rep sP ⟨⟨o,ho⟩,λ⟨p',VZ,e'⟩=>?_⟩;obtain⟨j',xs,k2,r2,g,_,_,m,x,y,J,_⟩:=Y p' VZ;rw[e']at J;cases J;obtain⟨k3,z1,z2⟩:=l.1;have:=t.ok.inj j j' k3 k2 _ _ r z1 m z2 x l.2 y;subst this;have:a5 j∉is.map (ib rs):=by simpa[t_] using RG
        exact this (js.mpr ⟨p',VZ,g⟩)
       |_=>exact l.elim
      ·obtain⟨j1,_,k1,r1,a0,_,_,a1,a2,a3,a4,_⟩:=Y i O;obtain⟨j2,_,k2,r2,b0,_,_,b1,l,b3,b4,_⟩:=Y j T;rw[e3]at a4;cases a4;rw[e4]at b4;cases b4;have:=t.ok.inj j1 j2 k1 k2 _ _ r a1 b1 a2 l a3 b3;subst this;exact map_inj h2 i O j T (by rw[a0,b0])
     have Kj:RF X.prog X.w X.K F np is vs c.H (λv H'=>Q v H') E0:=⟨by rw[<-t.len,<-k2,dt],rs.map (·.2),kd,u,ws,Pr,IO,e2,k1,ac,λv H' S' B=>by
      classical
      let H1:Hp:=λa=>if IO a then c.H a else H' a
      have RH:∀a,¬IO a->H1 a=H' a:=λa z=>Ň z;have QE:∀a,S' a->¬IO a:=λa z z'=>by
       obtain⟨o,ho⟩:=(QF a z').2.2.2;rw[(B.new a z).1]at ho;cases ho
      have QG:c8 c.H H1:=λa o e=>by
       by_cases z:IO a
       ·show(if IO a then _ else _)=_;rw[ņ z];exact e
       ·rw[RH a z];exact B.same a o e z
      obtain⟨IY,n1⟩:=t.ok.grow (H':=H1) (S':=λa=>c.S a\/S' a) QG (λa z=>z.imp id λz=>⟨(B.new a z).1,by rw[RH a (QE a z)];exact(B.new a z).2⟩) λa=>.inl;have QH:∀(n i:Nat) (r:eH),is[n]?=a5 i->vs[i]?=a5 (.ref r)->∃w,ws[n]?=a5 w/\cV (MF X.prog X.w X.K c.H Pr IO) S' H' r w:=λn i r a b=>by
       have hn:n<ws.length:=by rw[B.len];exact(dV.mp a).1
       exact⟨_,ri hn,B.KQ n i r _ a b (ri hn)⟩
      obtain⟨cf,f1,f2,f3,f4,f5,f6,f7,f8⟩:=ur (C:=C) KP (rs:=rs) (vs:=vs) (H':=H') (S':=S') (S1:=λa=>c.S a\/S' a) (λa=>.inr) (IO:=IO) QE (λa o ⟨i,O,z⟩ e=>by
        obtain⟨n,hn⟩:=List.getElem?_of_mem O;obtain⟨w,_,g⟩:=QH n i a hn z;obtain⟨o',m,x⟩:=g.some;rw[e]at m;cases m;exact x) is ws {c with H:=H1,S:=λa=>c.S a\/S' a} st' IY n1.toNs rfl UB h2 (λp L a z=>⟨p,L,z⟩) (λp L j T=>by
        obtain⟨j',xs,k,r,g0,_,_,m,x,y,J,_⟩:=Y p L;rw[T]at g0;cases g0;exact⟨k,_,r,m,x,y,J⟩) (λn i r w a b d=>B.KQ n i r w a b d) (λa ha=>RH a λ⟨p,L,z⟩=>ha p L z) RH
      subst f6;have YT:∀a,cf.R a->c.R a:=λa z=>by
       rcases z with⟨j,k,u,m,x,y⟩|⟨j,u,r,m,x,y⟩
       ·obtain⟨u0,g⟩:=f8 j k u x;rw[f3]at y;exact .inl ⟨j,k,u0,m,g,y⟩
       ·obtain⟨u0,g⟩:=f8 j .IK u m;rw[f3]at x;rw[f7]at y;exact .inr ⟨j,u0,r,g,x,y⟩
      refine q cf v (f3.trans t.hσ) f5 f1 ⟨t.nx.toNs.trans f2⟩ ?_;rcases k1 with rfl|rfl
      ·obtain⟨r,rfl,d1,d2,N⟩:=B.own rfl;obtain⟨_,z1,_,_,z4⟩:=t.ok.k_ d1;exact⟨r,rfl,t.nx.none d1,by rw[f4];exact λz=>z.elim z1 d2,λz=>z4 (YT r z),(N.cg KP).mv (.up λa z=>by rw[f4];exact .inr z) λo q=>q⟩
      ·exact((B.loc rfl).cg KP).mv (.up λa z=>by rw[f4];exact .inr z)⟩
     have z:=xu (Q:=Q) G hr B .nil Ge I1 rv (by rw[tj];exact Kj);rw[t.hσ]at z;exact z
    ·cases D
   ·cases D
  ·cases D
 ·cases D
end
structure Ck where
 fns:List Str
 gl:List (Str×U)
 KQ:List (Str×List Nat)
 xc:List Str
 xd:List (Str×Str)
 xi:List (Str×Str×Bool)
 xe:List (Str×Str)
noncomputable def pb:U->U->Bool
 |.int i,.int j=>cK (i=j)
 |.str x,.str y=>cK (x=y)
 |.bl a,.bl b=>a==b
 |.IU,.IU=>b8
 |_,_=>cc
theorem cv(h:pb u v=b8):u=v:=by
 cases u<;>cases v<;>simp[pb]at h<;>subst_vars<;>rfl
noncomputable def noStar:mf->Bool
 |.Starred _ _=>cc
 |_=>b8
noncomputable def eE:mf->Bool
 |.Slice _ _ _ _=>cc
 |_=>b8
noncomputable def si:mf->Bool
 |.Set _ _ _=>cc
 |_=>b8
noncomputable def pd:mf->Bool
 |.Call (.Name _ _) [] [] _=>cc
 |_=>b8
noncomputable def cZ:mf->Bool
 |.ListComp _ _ _ _=>cc
 |.SetComp _ _ _ _=>cc
 |.DictComp _ _ _ _ _=>cc
 |_=>b8
noncomputable def EW:mf->Bool
 |.Tuple _ _ _=>cc
 |_=>b8
noncomputable def JU(a:LS)(x:Str):Bool:=cK (a.names.lookup x=a5 .globalImplicit)
noncomputable def fY(a:LS)(x:Str):Bool:=cK (a.names.lookup x=a5 .local)||decide (a.names.lookup x=a5 .cell)||decide (a.names.lookup x=a5 .free)
noncomputable def j4(a:LS)(x:Str):Bool:=cK (a.names.lookup x=a5 .local)||decide (a.names.lookup x=a5 .cell)
noncomputable def GZ(a:LS)(x:Str):Bool:=cK (a.names.lookup x=a5 .local)
noncomputable def aW(x:Str):Bool:=!(x==("__debug__":Str))&&!(x==("__classdict__":Str))
noncomputable def uu(N:List Str)(a:LS)(fa:Bool)(i:Nat):mf->Bool
 |.Name x _=>cK (N[i]?=a5 x)&&j4 a x&&(fa||GZ a x)
 |_=>cc
noncomputable def pe(N:List Str)(a:LS)(fa:Bool):List Nat->List mf->Bool
 |[],[]=>b8
 |i::is,e::es=>uu N a fa i e&&pe N a fa is es
 |_,_=>cc
noncomputable def gQ:mf->List Str
 |.Name x _=>[x]
 |.Tuple es _ _=>es.filterMap fun|.Name x _=>a5 x|_=>bD
 |_=>[]
noncomputable def hide(a N:List Str):List Str:=match a.filter λx=>cK (x∈N) with
 |[]=>N
 |[x]=>N.set (N.idxOf x) "."
 |x::y::_=>(N.set (N.idxOf x) ".").set (N.idxOf y) ".."
noncomputable def Pn(t:Bool)(N:List Str)(a:LS)(fa:Bool)(is:List Nat):mf->Bool
 |.Name x p=>!t&&(match is with|[i]=>uu N a fa i (.Name x p)|_=>cc)
 |.Tuple es _ _=>t&&pe N a fa is es&&is.all λi=>cK (i<N.length)
 |_=>cc
noncomputable def isTup:mf->Bool
 |.Tuple _ _ _=>b8
 |_=>cc
noncomputable def lq(e:mf):Option (Str×List mf):=match e with
 |.Call f as kw _=>match f with
  |.Name x _=>if kw.isEmpty=b8 then a5 (x,as) else bD
  |_=>bD
 |_=>bD
theorem fZ(h:lq e=a5 (x,as)):∃p q,e=.Call (.Name x p) as [] q:=by
 unfold lq at h;split at h
 ·split at h
  ·split at h
   ·rename_i hk;rw[Jp]at hk;cases h;subst hk;exact⟨_,_,rfl⟩
   ·cases h
  ·cases h
 ·cases h
noncomputable def f9(a:LS)(b:mf)(c:Ik)(e:mf):Option (List mf):=match c with
 |.seq=>a5 [e]
 |.JT=>(lq e).bind λp=>if p.1="range"/\JU a p.1=b8/\p.2.length=1 then a5 p.2 else bD
 |.Ot=>(lq e).bind λp=>if p.1="enumerate"/\JU a p.1=b8/\p.2.length=1/\isTup b=b8 then a5 p.2 else bD
 |.rev=>(lq e).bind λp=>if p.1="reversed"/\JU a p.1=b8/\p.2.length=1 then a5 p.2 else bD
 |_=>bD
noncomputable def simple:Bf->Bool:=λ_=>b8
noncomputable def EX(scope a:LS):LS:={scope with names:=scope.names.map λ(n,k)=>if (k==ML&&a.kind==.function&&a.names.lookup n==a5 .cell)=b8 then(n,.cell) else(n,k)}
noncomputable def aX(e:mf)(k:Str->Bool):Bool:=match e with|.Name x _=>k x|_=>cc
theorem ak(h:aX e k=b8):∃x p,e=.Name x p/\k x=b8:=by
 unfold aX at h;split at h
 ·exact⟨_,_,rfl,h⟩
 ·cases h
noncomputable def cz{α:Type}(l:List α)(k:α->Bool):Bool:=match l with|[a]=>k a|_=>cc
theorem aH(h:cz l k=b8):∃a,l=[a]/\k a=b8:=by
 unfold cz at h;split at h
 ·exact⟨_,rfl,h⟩
 ·cases h
noncomputable def c6(e:mf)(k:mf->List mf->Pos->Bool):Bool:=match e with|.Call f as kw p=>kw.isEmpty&&k f as p|_=>cc
theorem aS(h:c6 e k=b8):∃f as p,e=.Call f as [] p/\k f as p=b8:=by
 unfold c6 at h;split at h
 ·rename_i f as kw p;rw[cb,Jp]at h;obtain⟨rfl,h⟩:=h;exact⟨_,_,_,rfl,h⟩
 ·cases h
noncomputable def sj(e:mf)(k:mf->Str->Pos->Bool):Bool:=match e with|.Attribute o m p=>k o m p|_=>cc
theorem qC(h:sj e k=b8):∃o m p,e=.Attribute o m p/\k o m p=b8:=by
 unfold sj at h;split at h
 ·exact⟨_,_,_,rfl,h⟩
 ·cases h
noncomputable def uw(e:mf)(k:mf->ä->mf->Bool):Bool:=match e with|.BinOp a c b _=>k a c b|_=>cc
theorem lr(h:uw e k=b8):∃a c b p,e=.BinOp a c b p/\k a c b=b8:=by
 unfold uw at h;split at h
 ·exact⟨_,_,_,_,rfl,h⟩
 ·cases h
noncomputable def uA(e:mf)(k:mf->CmpOp->mf->Bool):Bool:=match e with|.Compare a ops bs _=>cz ops λc=>cz bs λb=>k a c b|_=>cc
theorem ic(h:uA e k=b8):∃a c b p,e=.Compare a [c] [b] p/\k a c b=b8:=by
 unfold uA at h;split at h
 ·obtain⟨c,rfl,d⟩:=aH h;obtain⟨b,rfl,f⟩:=aH d;exact⟨_,_,_,_,rfl,f⟩
 ·cases h
noncomputable def eM(e:mf)(k:mf->Str->Pos->List mf->Pos->Bool):Bool:=c6 e λf as b=>sj f λo m a=>k o m a as b
theorem bK(h:eM e k=b8):∃o m a as b,e=.Call (.Attribute o m a) as [] b/\k o m a as b=b8:=by
 obtain⟨f,as,p,rfl,h⟩:=aS h;obtain⟨o,m,q,rfl,h⟩:=qC h;exact⟨_,_,_,_,_,rfl,h⟩
noncomputable def jL(e:mf)(k:mf->mf->Bool):Bool:=match e with|.Subscript a b _=>k a b|_=>cc
theorem de(h:jL e k=b8):∃a b p,e=.Subscript a b p/\k a b=b8:=by
 unfold jL at h;split at h
 ·exact⟨_,_,_,rfl,h⟩
 ·cases h
noncomputable def UC:E->Bool
 |.var _=>b8
 |.cst _=>b8
 |_=>cc
noncomputable def lu{α:Type}(l:List α)(k:α->α->Bool):Bool:=match l with|[a,b]=>k a b|_=>cc
theorem cN(h:lu l k=b8):∃a b,l=[a,b]/\k a b=b8:=by
 unfold lu at h;split at h
 ·exact⟨_,_,rfl,h⟩
 ·cases h
noncomputable def qD(e:mf)(k:Const->Bool):Bool:=match e with|.Constant c _ _=>k c|_=>cc
theorem fB(h:qD e k=b8):∃c q p,e=.Constant c q p/\k c=b8:=by
 unfold qD at h;split at h
 ·exact⟨_,_,_,rfl,h⟩
 ·cases h
noncomputable def IC:Const->Option U
 |.int j=>a5 (.int j)
 |.str y=>a5 (.str y)
 |.bool y=>a5 (.bl y)
 |.none=>a5 .IU
 |_=>bD
noncomputable def ID(u:U)(c:Const):Bool:=match IC c with|some v=>pb u v|none=>cc
noncomputable def BY(e:mf)(a:BoolOp)(k:List mf->Bool):Bool:=match e with|.BoolOp o es _=>cK (o=a)&&k es|_=>cc
theorem jr(h:BY e a k=b8):∃es p,e=.BoolOp a es p/\k es=b8:=by
 unfold BY at h;split at h
 ·rw[cb,Ņ]at h;obtain⟨rfl,h⟩:=h;exact⟨_,_,rfl,h⟩
 ·cases h
noncomputable def EY(e:mf)(b:UnaryOp)(k:mf->Bool):Bool:=match e with|.UnaryOp o a _=>cK (o=b)&&k a|_=>cc
theorem nq(h:EY e b k=b8):∃a p,e=.UnaryOp b a p/\k a=b8:=by
 unfold EY at h;split at h
 ·rw[cb,Ņ]at h;obtain⟨rfl,h⟩:=h;exact⟨_,_,rfl,h⟩
 ·cases h
noncomputable def BZ(e:mf)(k:mf->mf->mf->Bool):Bool:=match e with|.IfExp c a b _=>k c a b|_=>cc
theorem nu(h:BZ e k=b8):∃c a b p,e=.IfExp c a b p/\k c a b=b8:=by
 unfold BZ at h;split at h
 ·exact⟨_,_,_,_,rfl,h⟩
 ·cases h
noncomputable def uB(e:mf)(k:List mf->Bool):Bool:=match e with|.Tuple l _ _=>k l|_=>cc
theorem lx(h:uB e k=b8):∃l q p,e=.Tuple l q p/\k l=b8:=by
 unfold uB at h;split at h
 ·exact⟨_,_,_,rfl,h⟩
 ·cases h
noncomputable def yQ(e:mf)(k:List mf->Bool):Bool:=match e with|.List l _=>k l|_=>cc
theorem so(h:yQ e k=b8):∃l p,e=.List l p/\k l=b8:=by
 unfold yQ at h;split at h
 ·exact⟨_,_,rfl,h⟩
 ·cases h
noncomputable def B0(e:mf):Bool:=match e with|.Dict a b _=>a.isEmpty&&b.isEmpty|_=>cc
theorem nv(h:B0 e=b8):∃p,e=.Dict [] [] p:=by
 unfold B0 at h;split at h
 ·rw[cb,Jp,Jp]at h;obtain⟨rfl,rfl⟩:=h;exact⟨_,rfl⟩
 ·cases h
noncomputable def EZ(e:mf)(k:mf->mf->Bool):Bool:=match e with|.Dict ks vs _=>cz ks (λx=>match x with|some a=>cz vs (k a)|none=>cc)|_=>cc
theorem wm(h:EZ e k=b8):∃a b p,e=.Dict [a5 a] [b] p/\k a b=b8:=by
 unfold EZ at h;split at h
 ·obtain⟨x,rfl,z⟩:=aH h;split at z
  ·obtain⟨b,rfl,z⟩:=aH z;exact⟨_,_,_,rfl,z⟩
  ·cases z
 ·cases h
noncomputable def yR(e:mf)(k:Option mf->Option mf->Bool):Bool:=match e with|.Slice a b c _=>c.isNone&&k a b|_=>cc
theorem sr(h:yR e k=b8):∃a b p,e=.Slice a b bD p/\k a b=b8:=by
 unfold yR at h;split at h
 ·rw[cb,RQ]at h;obtain⟨rfl,h⟩:=h;exact⟨_,_,_,rfl,h⟩
 ·cases h
noncomputable def E1(e:mf)(k:List mf->Bool):Bool:=match e with|.JoinedStr l _=>(match l with|_::_::_=>b8|_=>cc)&&k l|_=>cc
theorem wq(h:E1 e k=b8):∃a b l p,e=.JoinedStr (a::b::l) p/\k (a::b::l)=b8:=by
 unfold E1 at h;split at h
 ·rw[cb]at h;obtain⟨c,h⟩:=h;split at c
  ·exact⟨_,_,_,_,rfl,h⟩
  ·cases c
 ·cases h
noncomputable def E2(e:mf)(k:mf->mf->mf->List mf->LS->Bool):Bool:=match e with|.ListComp elt a b _=>cz a λg=>cK (g.is_async=0)&&k elt g.target g.iter g.ifs b|_=>cc
theorem jt(h:E2 e k=b8):∃elt d a b f p,e=.ListComp elt [⟨d,a,b,0⟩] f p/\k elt d a b f=b8:=by
 unfold E2 at h;split at h
 ·obtain⟨⟨d,a,b,z⟩,rfl,c⟩:=aH h;rw[cb,Ņ]at c;obtain⟨rfl,c⟩:=c;exact⟨_,_,_,_,_,_,rfl,c⟩
 ·cases h
noncomputable def isNm(e:mf)(n:Str):Bool:=aX e λx=>cK (x=n)
theorem dg(h:isNm e n=b8):∃p,e=.Name n p:=by
 obtain⟨x,p,e,z⟩:=ak h;exact⟨p,ŋ z▸e⟩
noncomputable def wt(v:mf)(f:Str)(k:List mf->Bool):Bool:=c6 v λg as _=>isNm g f&&k as
theorem dF(h:wt v f k=b8):∃as p q,v=.Call (.Name f p) as [] q/\k as=b8:=by
 obtain⟨g,as,q,rfl,z⟩:=aS h;rw[cb]at z;obtain⟨p,rfl⟩:=dg z.1;exact⟨as,p,q,rfl,z.2⟩
mutual
noncomputable def bw(k:Ck):E->List Str->LS->mf->Bool
 |.var i,N,g,h=>aX h λx=>cK (N[i]?=a5 x)&&fY g x&&aW x
 |.cst u,N,g,h=>qD h λc=>ID u c
 |.Rm _ _,_,_,_=>cc
 |.bin B a b,N,g,h=>uw h λa' A q=>cK (B.op=A)&&bw k a N g a'&&bw k b N g q
 |.cmp B a b,N,g,h=>uA h λa' A q=>cK (B.op=A)&&!Q6 A q&&bw k a N g a'&&bw k b N g q
 |.Mx _ _ _ _ _,_,_,_=>cc
 |.and es,N,g,h=>BY h .And λs=>aT k es N g s
 |.or es,N,g,h=>BY h .Or λs=>aT k es N g s
 |.not a,N,g,h=>EY h .Not λa'=>bw k a N g a'
 |.ite c a b,N,g,h=>BZ h λG a' q=>bw k c N g G&&bw k a N g a'&&bw k b N g q
 |.neg _,_,_,_=>cc
 |.bad,_,_,_=>b8
 |.J8 a D H,N,g,h=>wt h "isinstance" λas=>lu as λa' q=>isNm q D&&noStar a'&&JU g "isinstance"&&JU g D&&aW D&&(k.xi.any λp=>cK (p.2.1=D))&&H.all (λp=>cK ((p.1,D,p.2)∈k.xi))&&bw k a N g a'
 |.M' I i b,N,g,h=>eM h λo m j as w=>aX o λx=>cz as λa'=>qD a' λc=>cK (c=.bool b)&&cK (m=GY I)&&cK (N[i]?=a5 x)&&fY g x&&aW x&&(j.endLine==w.line)
 |.Pf i,N,g,h=>EZ h λa' q=>aX a' λx=>qD q λc=>cK (c=.bool b8)&&cK (N[i]?=a5 x)&&fY g x&&aW x
 |.pop i,N,g,h=>eM h λo m j as w=>aX o λx=>as.isEmpty&&cK (m="pop")&&cK (N[i]?=a5 x)&&fY g x&&aW x&&(j.endLine==w.line)
 |.Lx i a,N,g,h=>eM h λo m j as w=>aX o λx=>cz as λa'=>cK (m="pop")&&cK (N[i]?=a5 x)&&fY g x&&aW x&&(j.endLine==w.line)&&noStar a'&&bw k a N g a'
 |.IT f es is,N,g,h=>c6 h λf' s _=>aX f' λx=>cK (x=f)&&cK ((f,is)∈k.KQ)&&JU g x&&aW x&&!s.isEmpty&&aT k es N g s
 |.inD neg a i,N,g,h=>uA h λa' A q=>aX q λx=>cK (EO neg=A)&&!Q6 A q&&cK (N[i]?=a5 x)&&fY g x&&aW x&&bw k a N g a'
 |.Pd i,N,g,h=>aX h λx=>cK (N[i]?=a5 x)&&fY g x&&aW x
 |.Lw i a b,N,g,h=>eM h λo m j as w=>aX o λx=>lu as λa' q=>cK (m="get")&&cK (N[i]?=a5 x)&&fY g x&&aW x&&(j.endLine==w.line)&&noStar a'&&noStar q&&bw k a N g a'&&bw k b N g q
 |.Pe i,N,g,h=>c6 h λf' as _=>aX f' λf=>cz as λc=>eM c λo m j bs w=>aX o λx=>bs.isEmpty&&cK (f="sorted")&&JU g f&&cK (m="items")&&cK (N[i]?=a5 x)&&fY g x&&aW x&&(j.endLine==w.line)
 |.Ou ln a b,N,g,h=>c6 h λf' as _=>aX f' λf=>cz as λd=>uw d λl B r=>c6 l λJ L _=>aX J λO=>cz L λa'=>c6 r λQ Y _=>aX Q λg2=>cz Y λq =>
  cK (f=(if ln=b8 then("len":Str) else "sorted"))&&cK (O="set")&&cK (g2="set")&&cK (B=.Sub)&&JU g f&&JU g "set"&&noStar a'&&noStar q&&bw k a N g a'&&bw k b N g q
 |.fst es,N,g,h=>E1 h λl=>wu k es N g l
 |.Lh a T,N,g,h=>c6 h λf' as _=>aX f' λx=>lu as λa' q=>aX q λy=>cK (x="isinstance")&&cK (y=T.name)&&JU g x&&JU g y&&noStar a'&&bw k a N g a'
 |.tup es,N,g,h=>uB h λs=>aT k es N g s
 |.lst es,N,g,h=>yQ h λs=>aT k es N g s
 |.KN _,N,g,h=>B0 h
 |.idx a b,N,g,h=>jL h λa' q=>eE q&&bw k a N g a'&&bw k b N g q
 |.M9 a lo hi,N,g,h=>jL h λa' q=>yR q λV0 Kt=>bw k a N g a'&&su k lo N g V0&&su k hi N g Kt
 |.bi f es,N,g,h=>c6 h λf' s _=>aX f' λx=>cK (x=f.name)&&simple f&&JU g x&&!s.isEmpty&&aT k es N g s
 |.M_ f es,N,g,h=>c6 h λf' as _=>aX f' λx=>cz as λc=>c6 c λg' s _=>aX g' λy=>cK (x=f.oW)&&cK (y=f.iQ)&&JU g x&&JU g y&&!s.isEmpty&&aT k es N g s
 |.NF m a es,N,g,h=>eM h λo name j s w=>cK (name=m.name)&&pd o&&(j.endLine==w.line)&&!s.isEmpty&&cK (s.length<20)&&bw k a N g o&&aT k es N g s
 |.call f es,N,g,h=>c6 h λf' s _=>aX f' λx=>cK (x=f)&&cK (f∈k.fns)&&JU g x&&aW x&&!s.isEmpty&&aT k es N g s
 |.comp n t ik src cond e,N,g,h=>E2 h λelt v z C scope =>
   cK ((gQ v).length=n)&&DX (gQ v++hide (gQ v) N) (gQ v) scope g.names&&Pn t (gQ v++hide (gQ v) N) (EX scope g) cc (hJ n) v&&si z &&
   (match f9 g v ik z with
    |some as=>aT k src N g as
    |none=>cc) &&
   cK (C.length<=1)&&aT k cond (gQ v++hide (gQ v) N) (EX scope g) C&&bw k e (gQ v++hide (gQ v) N) (EX scope g) elt
noncomputable def wu(k:Ck):List E->List Str->LS->List mf->Bool
 |[],_,_,a=>a.isEmpty
 |e::es,N,b,a=>match a with
  |.FormattedValue v (-1) bD _::a=>bw k e N b v&&wu k es N b a
  |.Constant (.str y) _ _::a=>(match e with|.cst u=>pb u (.str y)|_=>cc)&&wu k es N b a
  |_=>cc
noncomputable def aT(k:Ck):List E->List Str->LS->List mf->Bool
 |[],_,_,a=>a.isEmpty
 |e::es,N,b,a=>match a with
  |e'::a=>noStar e'&&bw k e N b e'&&aT k es N b a
  |[]=>cc
noncomputable def su(k:Ck):List E->List Str->LS->Option mf->Bool
 |[],_,_,o=>o.isNone
 |[e],N,a,o=>match o with
  |some b=>bw k e N a b
  |none=>cc
 |_::_::_,_,_,_=>cc
end
noncomputable def bO:List Str:=["len","sorted","repr","max","min","all","any","list","tuple","str","int","range","enumerate","zip","reversed","set","dict","sum","isinstance","bool"]
structure OI(ck:Ck)(K:PySem.W.Frag)(mg:Str->Option d3):Prop where
 xc:∀x∈ck.xc,∃C,mg x=a5 (.ref C)/\PySem.W.nsIn K i8 x=a5 (a5 (.ref C))/\PySem.W.excIn K C Pb "ValueError.__new__"=b8
 xd:∀p∈ck.xd,∃C D,mg p.1=a5 (.ref C)/\PySem.W.nsIn K i8 p.1=a5 (a5 (.ref C))/\mg p.2=a5 (.ref D)/\PySem.W.exmOne K (.ref C) (.ref C)=a5 b8/\(PySem.W.kitCls K (.ref C) (.ref D)==a5 b8&&C != D)=b8
 xi:∀D,(∃p∈ck.xi,p.2.1=D)->∃dv,((∃D',dv=.ref D'/\mg D=a5 (.ref D'))\/(D="ValueError"/\dv=.type "ValueError"/\mg D=bD))/\∀p∈ck.xi,p.2.1=D->∀C,PySem.W.nsIn K i8 p.1=a5 (a5 (.ref C))->fU K C=b8/\PySem.W.kitOne K (.ref C) dv=a5 p.2.2
 xe:∀x,(∃p∈ck.xe,p.2=x)->∃D,mg x=a5 (.ref D)/\∀cl,(cl,x)∈ck.xe->∀C,PySem.W.nsIn K i8 cl=a5 (a5 (.ref C))->PySem.W.exmOne K (.ref C) (.ref D)=a5 b8
structure B1(P:va)(w:H8)(K:PySem.W.Frag)(mg:Str->Option d3)(base:Jy)(d:Nat)(F:List U->Option (Ex (Kd×U)))(f:Str):Prop where
 ex:∃(np:Nat) (fa:eH) (fd:Su) (ps:List Str),iw P w K mg base (NA P w) d fa fd ps (spT P w K F np)/\mg f=a5 (.ref fa)/\PySem.W.keepIn K (.ref fa)=b8/\Binds K fd ps []/\(∀us k u,F us=a5 (.ok (k,u))->(k=.own\/k=.loc\/k=.any)/\us.length=np)/\∀us c,F us=a5 (.exc c)->us.length=np
structure B3(P:va)(w:H8)(K:PySem.W.Frag)(mg:Str->Option d3)(base:Jy)(d:Nat)(F:List U->Option (Ex (Kd×U)))(f:Str)(is:List Nat):Prop where
 ex:∃(np:Nat) (fa:eH) (fd:Su) (ps:List Str),iw P w K mg base N8 d fa fd ps (RF P w K F np is)/\mg f=a5 (.ref fa)/\PySem.W.keepIn K (.ref fa)=b8/\Binds K fd ps []/\∀us r,F us=a5 (.ok r)->us.length=np
structure Gd(ck:Ck)(Γ:Tab)(C:Ct)(d:Nat)(X:Cx):Prop where
 P:C.P=X.prog
 w:C.w=X.w
 K:C.K=X.K
 u:X.A.units+60<LD
 calm:X.calm=b8
 room:fi d X.A
 blt:∀x∈bO,X.mg x=bD
 fns:∀f∈ck.fns,B1 X.prog X.w X.K X.mg X.base d (Γ f) f
 L6:∀p∈ck.gl,∃val v,X.mg p.1=a5 val/\RelV v val/\∀S H,Rep C S H p.2 v
 KQ:∀p∈ck.KQ,B3 X.prog X.w X.K X.mg X.base d (Γ p.1) p.1 p.2
 MD:OI ck X.K X.mg
theorem Gd.cx(g:Gd ck Γ C d X)(N:List Str)(a:LS)(D:eH)(s:d8)(H:Hp)(ex:List eH):Gd ck Γ C d (JY X N a D s H ex) :=
 ⟨g.P,g.w,g.K,g.u,g.calm,g.room,g.blt,g.fns,g.L6,g.KQ,g.MD⟩
theorem cn(h:fY a x=b8):KC a x:=by
 unfold fY at h;simp only[LJ,Ņ]at h;rcases h with(h|h)|h
 ·exact .inl h
 ·exact .inr (.inl h)
 ·exact .inr (.inr h)
theorem az(h:aW x=b8):(x==("__debug__":Str))=cc/\(x==("__classdict__":Str))=cc:=by
 unfold aW at h;simpa using h
theorem a9(h:noStar e=b8):hW (e::es) env=(cc,ve e env)::hW es env:=by
 cases e<;>first|rfl|cases h
theorem qE(h:eE e=b8):ox e:=by
 intro o i;cases e<;>first|rfl|cases h
theorem sv(h:si e=b8):∀x,Mb e env x=pure x:=by
 intro x;cases e<;>first|rfl|cases h
theorem kl(h:pd o=b8):Tc o name env a=a:=by
 cases o with
 |Call f as ks p =>
  cases f with
  |Name x q=>cases as with
   |nil=>cases ks with
    |nil=>cases h
    |cons _ _=>rfl
   |cons _ _=>rfl
  |_=>rfl
 |_=>rfl
theorem bh(h:∀e∈es,noStar e=b8):(DD pos (hW es env)).any (·.1)=cc/\(DD pos (hW es env)).all (λx=>!x.1)=b8:=by
 induction es with
 |nil=>exact⟨rfl,rfl⟩
 |cons e es a =>
  rw[a9 (h e (by simp))];have:=a λb c=>h b (by simp[c]);constructor
  ·show(cc||(DD pos (hW es env)).any (·.1))=cc;rw[this.1];rfl
  ·show(!cc&&(DD pos (hW es env)).all (λx=>!x.1))=b8;rw[this.2];rfl
theorem cw(h:aT k es N c a=b8):∀e∈a,noStar e=b8:=by
 induction es generalizing a with
 |nil =>
  cases a with
  |nil=>intro e he;cases he
  |cons _ _=>simp[aT]at h
 |cons x es b =>
  cases a with
  |nil=>intro e he;cases he
  |cons d a =>
   simp only[aT,cb]at h;intro e he;rcases d7.mp he with rfl|he
   ·exact h.1.1
   ·exact b h.2 e he
theorem ny(a:fa=b8->∀x,X.fn x=b8)(h:uu X.N X.env.scope fa i e=b8):r_ X e i:=by
 cases e with
 |Name x p =>
  simp only[uu,cb,Ņ,j4,LJ,GZ]at h;refine⟨x,p,rfl,h.1.1,?_,?_⟩
  ·rcases h.1.2 with z|z
   ·exact .inl z
   ·exact .inr z
  ·rcases h.2 with z|z
   ·exact .inl (a z x)
   ·exact .inr z
 |_=>cases h
theorem ly(a:fa=b8->∀x,X.fn x=b8):∀{is:List Nat}{es:List mf},pe X.N X.env.scope fa is es=b8->fz X es is
 |[],[],_=>.nil
 |[],_::_,h=>by cases h
 |_::_,[],h=>by cases h
 |i::is,e::es,h=>by
  simp only[pe,cb]at h;exact .cons (ny a h.1) (ly a h.2)
theorem uC(d:X.calm=b8)(e:C.K=X.K)(a:X.N.Nodup)(b:fa=b8->∀x,X.fn x=b8)(h:Pn t X.N X.env.scope fa is c=b8):PG X c (tG C t is):=by
 cases c with
 |Name x p =>
  simp only[Pn,cb,nH]at h;obtain⟨rfl,h⟩:=h;cases is with
  |nil=>cases h
  |cons i is=>cases is with
   |nil=>exact EI a (ny b h)
   |cons _ _=>cases h
 |Tuple es k p =>
  simp only[Pn,cb,ki,Ņ]at h;obtain⟨⟨rfl,f⟩,g⟩:=h;exact GC d e a (ly b f) g
 |_=>cases h
theorem nz(a N:List Str):eI ((a++hide a N).drop a.length) N:=by
 rw[VU rfl];unfold hide;split
 ·exact .refl N
 ·exact(eI.refl N).set _ (.inl rfl)
 ·exact((eI.refl N).set _ (.inl rfl)).set _ (.inr rfl)
noncomputable def Bf.ZT:Bf->Bool
 |.len=>b8|.sorted=>b8|.repr=>b8|.max=>b8|.min=>b8|.all=>b8|.any=>b8|_=>cc
noncomputable def Bf.id:Bf->String
 |.len=>"len"|.sorted=>"sorted"|.repr=>"repr"|.max=>"max"|.min=>"min"|.all=>"all"|.any=>"any"
 |.list=>"list"|.tuple=>"tuple"|.str=>"str"|.int=>"int"
theorem B4:∀f:Bf,simple f=b8->tv f.name=a5 f.val/\f.name∈bO/\f.name≠"__name__"/\(f.name==("__debug__":Str))=cc:=by
 intro f h;cases f<;>first|exact⟨by decide +kernel,by decide +kernel,by decide +kernel,by decide +kernel⟩|(cases h;done)
theorem E3:∀f:Bf,simple f=b8->(f.val=.builtin f.id\/f.val=.type f.id):=by
 intro f h;cases f<;>first|exact .inl rfl|exact .inr rfl|(cases h;done)
theorem E4:∀f:B2,f.oW∈bO/\f.iQ∈bO:=by
 intro f;cases f<;>exact⟨by decide +kernel,by decide +kernel⟩
theorem B5:∀f:Mf,Slot "str" f.name f.id/\W2 (.builtin f.id)=pure (.type "method_descriptor"):=by
 intro f;cases f with
 |split=>exact⟨PySem.F.slot_str_split,PySem.F.type_str_split⟩
 |join=>exact⟨PySem.F.slot_str_join,PySem.F.type_str_join⟩
 |partition=>exact⟨PySem.F.slot_str_partition,PySem.F.type_str_partition⟩
 |endswith=>exact⟨PySem.F.slot_str_endswith,PySem.F.type_str_endswith⟩
section
theorem bP(h:JU X.env.scope x=b8):Gl X x:=by
 unfold JU at h;show X.env.kindOf x=a5 .globalImplicit;exact ŋ h
theorem B6:("enumerate":Str)∈bO:=by decide +kernel
theorem f_:("isinstance":Str)∈bO:=by decide +kernel
theorem yS(T:K9):T.name∈bO:=by cases T<;>decide +kernel
theorem B7:("range":Str)∈bO:=by decide +kernel
theorem CV(g:Gd ck Γ C d X)(h:f9 X.env.scope n o i=a5 as)(l:PA X as (J4 C (bp Γ src)))(r:∀a,as=[a]->∃e,src=[e]/\PE X a (IV C (ev Γ e)))(m:∀e∈as,noStar e=b8):PI X n i (MB C o (bp Γ src)):=by
 unfold f9 at h;split at h
 ·cases h;obtain⟨e,rfl,s⟩:=r _ rfl;exact EF g.K s
 ·rw[sx]at h;obtain⟨⟨x,bs⟩,j,h⟩:=h;split at h
  ·rename_i k;cases h;obtain⟨c,f,hl⟩:=k
   dsimp only at c f hl
   subst c;obtain⟨p,q,rfl⟩:=fZ j;obtain⟨b,rfl⟩:=S9.mp hl;exact BK (bP f) (g.blt _ B7) (a9 (m _ (by simp))) l
  ·cases h
 ·rw[sx]at h;obtain⟨⟨x,bs⟩,j,h⟩:=h;split at h
  ·rename_i k;cases h;obtain⟨c,f,hl,t⟩:=k
   dsimp only at c f hl
   subst c;obtain⟨p,q,rfl⟩:=fZ j;obtain⟨b,rfl⟩:=S9.mp hl;cases n with
   |Tuple es u ps=>exact EG g.K (bP f) (g.blt _ B6) (a9 (m _ (by simp))) l
   |_=>cases t
  ·cases h
 ·rw[sx]at h;obtain⟨⟨x,bs⟩,j,h⟩:=h;split at h
  ·rename_i k;cases h;obtain⟨c,f,hl⟩:=k
   dsimp only at c f hl
   subst c;obtain⟨p,q,rfl⟩:=fZ j;obtain⟨b,rfl⟩:=S9.mp hl;exact EH g.calm g.K (bP f) (g.blt _ (by decide +kernel)) (a9 (m _ (by simp))) l
  ·cases h
 ·cases h
theorem Gd.KD(g:Gd ck Γ C d X):Gd ck Γ C d X.KD :=
 ⟨g.P,g.w,g.K,g.u,g.calm,g.room,g.blt,g.fns,g.L6,g.KQ,g.MD⟩
theorem CW(g:Gd ck Γ C d X)(f:PE X a' (IV C (ev Γ a)))(m:isNm n D=b8)(o:noStar a'=b8)(h:JU X.env.scope "isinstance"=b8)(i:JU X.env.scope D=b8)(r:aW D=b8)(t:(ck.xi.any λp=>cK (p.2.1=D))=b8)(v:j.all (λp=>cK ((p.1,D,p.2)∈ck.xi))=b8):
  PE X (.Call (.Name "isinstance" p) [a',n] [] q) (IV C (ev Γ (.J8 a D j))):=by
 obtain⟨p2,rfl⟩:=dg m;obtain⟨w,x,y⟩:=SE.mp t;obtain⟨dv,A,B⟩:=g.MD.xi D ⟨w,x,ŋ y⟩;have k:∀q∈j,∀b,PySem.W.nsIn X.K i8 q.1=a5 (a5 (.ref b))->fU X.K b=b8/\PySem.W.kitOne X.K (.ref b) dv=a5 q.2:=λq G b J=>B _ (ŋ (ki.mp v q G)) rfl b J;have st:=a9 (env:=X.env) (es:=[.Name D p2]) o;rcases A with⟨c,rfl,e⟩|⟨rfl,rfl,e⟩
 ·have L:PE X (.Name D p2) (tC (.ref c)):=λl s σ H Q I z=>dy I (bP i) e ⟨.ref c,H,I,rfl,z⟩ (az r).1;exact uq g.K (bP h) (g.blt _ f_) f L (dv:=.ref c) (λu z=>z) st rfl rfl k
 ·exact uq g.K (bP h) (g.blt _ f_) f (vD:=.ty "ValueError") (dv:=.type "ValueError") (tw (bP i) e (show tv "ValueError"=a5 (.type "ValueError") by decide +kernel) rfl (by decide +kernel) (by decide +kernel)) (λu z=>z) st rfl rfl k
theorem CY{a:M α}{b:α->M β}{c:α->M γ}{g:γ->M δ}{st:aw}{Q:δ->aw->Prop}(w:W (a >>= λx=>b x >>= λ_=>c x >>= g) st Q):W ((a >>= λx=>b x >>= λ_=>c x) >>= g) st Q:=by
 simp only[ah]at w ⊢;exact w
theorem bz:PT X e (J9 C M.fail):=λa s σ H Q I ⟨_,_,_,_,w⟩=>(bu.mp w).elim
theorem pf:PE X e (IV C M.fail):=λa s σ H Q I ⟨_,_,_,_,w⟩=>(bu.mp w).elim
theorem PT.eqv(h:PT X e (J9 C m))(i:∀st Q,W a st Q->W m st Q):PT X e (J9 C a):=PT.weak h λσ H Q ⟨b,c,d,f,w⟩=>⟨b,c,d,f,i _ _ w⟩
theorem G0(g:Gd ck Γ C d X)(b:PA X a (J4 C (bp Γ es)))
  (h:(cK (x=f.name)&&simple f&&JU X.env.scope x&&!a.isEmpty&&aT ck es X.N X.env.scope a)=b8):PE X (.Call (.Name x p) a [] pos) (IV C (ev Γ (.bi f es))):=by
 simp only[cb,Ņ,nH]at h;obtain⟨⟨⟨⟨rfl,c⟩,i⟩,m⟩,n⟩:=h;obtain⟨b1,j,b3,b4⟩:=B4 f c;have k:=cw n;cases a with
 |nil=>cases m
 |cons o l =>
  have st:=a9 (env:=X.env) (es:=l) (k o (by simp));have sn:=(bh (pos:=pos) (env:=X.env) (es:=l) λe q=>k e (by simp[q])).1;rcases E3 f c with hv|hv
  ·exact BD g.calm g.K g.room.gd g.u hv (bP i) (g.blt _ j) (by rw[b1,hv]) b3 b4 b st sn
  ·exact BE g.calm g.K g.room.gd g.u hv (bP i) (g.blt _ j) (by rw[b1,hv]) b3 b4 b st sn
theorem G1(g:Gd ck Γ C d X)(i:PA X a (J4 C (bp Γ es)))
  (h:(cK (x=f.oW)&&cK (y=f.iQ)&&JU X.env.scope x&&JU X.env.scope y&&!a.isEmpty&&aT ck es X.N X.env.scope a)=b8):PE X (.Call (.Name x p) [.Call (.Name y p2) a [] pos2] [] pos) (IV C (ev Γ (.M_ f es))):=by
 simp only[cb,Ņ,nH]at h;obtain⟨⟨⟨⟨⟨rfl,rfl⟩,j⟩,k⟩,l⟩,m⟩:=h;obtain⟨b1,n⟩:=E4 f;have b:=cw m;cases a with
 |nil=>cases l
 |cons o c =>
  have st:=a9 (env:=X.env) (es:=c) (b o (by simp));have sn:=(bh (pos:=pos2) (env:=X.env) (es:=c) λe q=>b e (by simp[q])).1;exact BJ g.calm g.K (bP j) (g.blt _ b1) (bP k) (g.blt _ n) i st sn
theorem G2(g:Gd ck Γ C d X)(l:PE X o (IV C (ev Γ a)))(n:PA X b (J4 C (bp Γ es)))
  (h:(cK (name=m.name)&&pd o&&(c.endLine==i.line)&&!b.isEmpty&&cK (b.length<20)&&bw ck a X.N X.env.scope o&&aT ck es X.N X.env.scope b)=b8):PE X (.Call (.Attribute o name c) b [] i) (IV C (ev Γ (.NF m a es))):=by
 simp only[cb,Ņ,nH]at h;obtain⟨⟨⟨⟨⟨⟨rfl,p⟩,q⟩,r⟩,s⟩,w⟩,t⟩:=h;have j:=cw t;obtain⟨s1,s2⟩:=B5 m;cases b with
 |nil=>cases r
 |cons k f =>
  have st:=a9 (env:=X.env) (es:=f) (j k (by simp));have sn:=(bh (pos:=i) (env:=X.env) (es:=f) λe u=>j e (by simp[u])).1;have v:=(bh (pos:=i) (env:=X.env) (es:=k::f) j).2;refine BI g.K s1 s2 l n (kl p) ?_ q st sn;rw[v];have:(k::f).length+([]:List Oi).length+(if ([]:List Oi).isEmpty=b8 then 0 else 1)<30:=by simp at s ⊢;lia
  simp only[ŉ this];rfl
theorem yT(g:Gd ck Γ C d X)(i:PA X a (J4 C (bp Γ es)))
  (h:(cK (x=f)&&cK (f∈ck.fns)&&JU X.env.scope x&&aW x&&!a.isEmpty&&aT ck es X.N X.env.scope a)=b8):PE X (.Call (.Name x p) a [] pos) (IV C (ev Γ (.call f es))):=by
 simp only[cb,Ņ,nH]at h;obtain⟨⟨⟨⟨⟨rfl,j⟩,k⟩,l⟩,m⟩,n⟩:=h;have b:=cw n;obtain⟨y,fa,z,ps,o,q,r,s,t,_⟩:=(g.fns _ j).ex;cases a with
 |nil=>cases m
 |cons u c =>
  have st:=a9 (env:=X.env) (es:=c) (b u (by simp));have sn:=(bh (pos:=pos) (env:=X.env) (es:=c) λe v=>b e (by simp[v])).1;exact yy g.P g.w g.K rfl t o g.room (bP k) q r s (az l).1 i st sn
theorem E5(g:Gd ck Γ C d X)(i:PA X a (J4 C (bp Γ es)))
  (h:(cK (x=f)&&cK ((f,is)∈ck.KQ)&&JU X.env.scope x&&aW x&&!a.isEmpty&&aT ck es X.N X.env.scope a)=b8):PE X (.Call (.Name x p) a [] pos) (IV C (ev Γ (.IT f es is))):=by
 simp only[cb,Ņ,nH]at h;obtain⟨⟨⟨⟨⟨rfl,j⟩,k⟩,l⟩,m⟩,n⟩:=h;have b:=cw n;obtain⟨y,fa,z,ps,o,q,r,s,t⟩:=(g.KQ _ j).ex;cases a with
 |nil=>cases m
 |cons u c =>
  have st:=a9 (env:=X.env) (es:=c) (b u (by simp));have sn:=(bh (pos:=pos) (env:=X.env) (es:=c) λe v=>b e (by simp[v])).1;exact yP g.P g.w g.K rfl t o g.room (bP k) q r s (az l).1 (BX i) st sn
theorem dP(h:(b&&aT k es N a c)=b8):aT k es N a c=b8:=(LO.mp h).2
mutual
theorem bC:∀(e:E) (X:Cx) (k:mf),Gd ck Γ C d X->bw ck e X.N X.env.scope k=b8->PE X k (IV C (ev Γ e))
 |.var i,X,k,g,h=>by
  obtain⟨x,p0,rfl,A⟩:=ak h;clear h;have h:=A;simp only[cb,Ņ]at h;obtain⟨G,L⟩:=az h.2;exact oV h.1.1 (cn h.1.2) G L
 |.cst u,X,k,g,h=>by
  obtain⟨c,q0,p0,rfl,A⟩:=fB h;cases c with
  |int j=>have:=cv A;subst this;exact kg xg λ_ _=>rfl
  |str y=>have:=cv A;subst this;exact kg og λ_ _=>rfl
  |bool y=>have:=cv A;subst this;exact kg pN λ_ _=>rfl
  |none=>have:=cv A;subst this;exact kg xh λ_ _=>rfl
  |_=>cases A
 |.Rm x u,X,k,g,h=>absurd (show cc=b8 from h) i7
 |.bin op a b,X,k,g,h=>by
  obtain⟨a',MG,b',p0,rfl,A⟩:=lr h;clear h;have h:=A;simp only[cb,Ņ]at h;obtain⟨⟨rfl,J⟩,O⟩:=h;exact Bo g.K (bC a X _ g J) (bC b X _ g O)
 |.cmp op a b,X,k,g,h=>by
  obtain⟨a',MG,b',p0,rfl,v⟩:=ic h;have h:=v;simp only[cb,Ņ,nH]at h;obtain⟨⟨⟨rfl,h0⟩,J⟩,O⟩:=h;exact Bp g.P g.w g.K g.u (bC a X _ g J) (bC b X _ g O) h0
 |.Mx o1 o2 a b c,X,k,g,h=>absurd (show cc=b8 from h) i7
 |.and es,X,k,g,h=>by
  obtain⟨IL,p0,rfl,A⟩:=jr h;clear h;have h:=A;exact yU es X _ g h
 |.or es,X,k,g,h=>pf
 |.not a,X,k,g,h=>by
  obtain⟨a',p0,rfl,A⟩:=nq h;clear h;have h:=A;exact Bs (bC a X _ g h)
 |.neg a,X,k,g,h=>absurd (show cc=b8 from h) i7
 |.bad,X,k,g,h=>pf
 |.J8 a D tb,X,k,g,h=>by
  obtain⟨as,p,q,rfl,v⟩:=dF h;obtain⟨a',b',rfl,B⟩:=cN v;clear h v;simp only[cb]at B;obtain⟨⟨⟨⟨⟨⟨⟨J,O⟩,G⟩,L⟩,Y⟩,h6⟩,h7⟩,h8⟩:=B;exact CW g (bC a X _ g h8) J O G L Y h6 h7
 |.M' ix i b,X,k,g,h=>by
  obtain⟨o,m,ab,as,G',rfl,v⟩:=bK h;obtain⟨x,px,rfl,B⟩:=ak v;obtain⟨a',rfl,z3⟩:=aH B;obtain⟨c,q,p,rfl,z4⟩:=fB z3;clear h v B z3;simp only[cb,Ņ]at z4;obtain⟨⟨⟨⟨⟨rfl,rfl⟩,J⟩,O⟩,G⟩,L⟩:=z4;exact BV g.K J (cn O) (az G).1 (az G).2 L
 |.Pf i,X,k,g,h=>by
  obtain⟨a',b',p,rfl,v⟩:=wm h;obtain⟨x,px,rfl,B⟩:=ak v;obtain⟨c,q,p2,rfl,z3⟩:=fB B;clear h v B;simp only[cb,Ņ]at z3;obtain⟨⟨⟨rfl,J⟩,O⟩,G⟩:=z3;exact BA J (cn O) (az G).1 (az G).2
 |.pop i,X,k,g,h=>by
  obtain⟨o,m,ab,as,G',rfl,v⟩:=bK h;obtain⟨x,px,rfl,B⟩:=ak v;simp only[cb,Ņ,Jp]at B;obtain⟨⟨⟨⟨⟨rfl,rfl⟩,J⟩,O⟩,G⟩,L⟩:=B;obtain⟨q1,q2⟩:=az G;exact BU J (cn O) q1 q2 L g.K
 |.Lx i a,X,k,g,h=>by
  obtain⟨o,m,ab,as,G',rfl,v⟩:=bK h;obtain⟨x,px,rfl,B⟩:=ak v;obtain⟨a',rfl,z3⟩:=aH B;simp only[cb,Ņ]at z3;obtain⟨⟨⟨⟨⟨⟨rfl,J⟩,O⟩,G⟩,L⟩,Y⟩,h6⟩:=z3;obtain⟨q1,q2⟩:=az G;have sa:=bh (pos:=G') (env:=X.env) (es:=[a']) λe he=>by rw[i2.mp he];exact Y
  exact yM g.K J (cn O) q1 q2 (bC a X _ g h6) (by rw[sa.2];rfl) L (a9 Y)
 |.IT f es is,X,k,g,h=>by
  obtain⟨f',as,p0,rfl,v⟩:=aS h;obtain⟨x,p1,rfl,B⟩:=ak v;exact E5 g (iT es X _ g (dP B)) B
 |.inD neg a i,X,k,g,h=>pf
 |.Pd i,X,k,g,h=>by
  obtain⟨x,p0,rfl,A⟩:=ak h;clear h;have h:=A;simp only[cb,Ņ]at h;obtain⟨G,L⟩:=az h.2;exact BN h.1.1 (cn h.1.2) G L
 |.Lw i a b,X,k,g,h=>by
  obtain⟨o,m,ab,as,G',rfl,v⟩:=bK h;obtain⟨x,px,rfl,B⟩:=ak v;obtain⟨a',b',rfl,z3⟩:=cN B;clear h v;have B:=z3;simp only[cb,Ņ]at B;obtain⟨⟨⟨⟨⟨⟨⟨⟨rfl,J⟩,O⟩,G⟩,L⟩,Y⟩,h6⟩,h7⟩,h8⟩:=B;obtain⟨q1,q2⟩:=az G;have sa:=bh (pos:=G') (env:=X.env) (es:=[a',b']) λe he=>by
   rcases d7.mp he with rfl|he
   ·exact Y
   ·simp at he;subst he;exact h6
  exact yJ g.u J (cn O) q1 q2 (bC a X _ g h7) (bC b X _ g h8) ⟨rfl,by rw[sa.2];rfl,L,by rw[a9 Y,a9 h6];rfl⟩
 |.Pe i,X,k,g,h=>by
  obtain⟨f',as,_,rfl,v⟩:=aS h;obtain⟨f,_,rfl,B⟩:=ak v;obtain⟨c,rfl,z3⟩:=aH B;obtain⟨o,m,ab,bs,G',rfl,z4⟩:=bK z3;obtain⟨x,px,rfl,z5⟩:=ak z4;simp only[cb,Ņ,Jp]at z5;obtain⟨⟨⟨⟨⟨⟨⟨rfl,rfl⟩,J⟩,rfl⟩,G⟩,L⟩,Y⟩,h6⟩:=z5;obtain⟨q1,q2⟩:=az Y;exact BR g.calm g.K (bP J) (g.blt _ (by decide +kernel)) G (cn L) q1 q2 h6
 |.Ou ln a b,X,k,g,h=>by
  obtain⟨_,_,_,rfl,A⟩:=aS h;obtain⟨_,_,rfl,v⟩:=ak A;obtain⟨_,rfl,B⟩:=aH v;obtain⟨_,_,_,_,rfl,z3⟩:=lr B;obtain⟨_,_,_,rfl,z4⟩:=aS z3;obtain⟨_,_,rfl,z5⟩:=ak z4;obtain⟨_,rfl,z6⟩:=aH z5;obtain⟨_,_,_,rfl,z7⟩:=aS z6;obtain⟨_,_,rfl,z8⟩:=ak z7;obtain⟨_,rfl,z9⟩:=aH z8;simp only[cb,Ņ]at z9;obtain⟨⟨⟨⟨⟨⟨⟨⟨⟨rfl,rfl⟩,rfl⟩,rfl⟩,J⟩,O⟩,G⟩,L⟩,Y⟩,h6⟩:=z9;exact BS (ln:=ln) g.calm g.K (bP J) (g.blt _ (by cases ln<;>decide +kernel)) (bP O) (g.blt _ (by decide +kernel)) (bC a X _ g Y) (bC b X _ g h6) (a9 G) (a9 L)
 |.fst es,X,k,g,h=>by
  obtain⟨e1,e2,l,p0,rfl,A⟩:=wq h;clear h;have h:=A;exact BH (E6 es X _ g h oT (by decide))
 |.Lh a T,X,k,g,h=>by
  obtain⟨f',as,p0,rfl,v⟩:=aS h;obtain⟨x,p1,rfl,B⟩:=ak v;clear h v;obtain⟨a',b',rfl,z4⟩:=cN B;obtain⟨y,p2,rfl,z3⟩:=ak z4;have h:=z3;simp only[cb,Ņ]at h;obtain⟨⟨⟨⟨⟨rfl,rfl⟩,J⟩,O⟩,G⟩,L⟩:=h;exact ug g.K (bP J) (g.blt _ f_) (bP O) (g.blt _ (yS T)) (bC a X _ g L) (a9 G)
 |.ite c a b,X,k,g,h=>by
  obtain⟨c',a',b',p0,rfl,A⟩:=nu h;clear h;have h:=A;simp only[cb]at h;exact Bt (lz c X _ g h.1.1) (bC a X _ g h.1.2) (bC b X _ g h.2)
 |.tup es,X,k,g,h=>by
  obtain⟨l,q0,p0,rfl,A⟩:=lx h;clear h;have h:=A;exact By (iT es X _ g h)
 |.lst es,X,k,g,h=>by
  obtain⟨l,p0,rfl,A⟩:=so h;clear h;have h:=A;exact Bz (iT es X _ g h)
 |.KN r,X,k,g,h=>by
  obtain⟨p0,rfl⟩:=nv h;exact yx g.P g.w r
 |.idx a b,X,k,g,h=>by
  obtain⟨a',b',p0,rfl,A⟩:=de h;clear h;have h:=A;simp only[cb]at h;exact BB g.K g.u (qE h.1.1) (bC a X _ g h.1.2) (bC b X _ g h.2)
 |.M9 a lo hi,X,k,g,h=>by
  obtain⟨a',b',p0,rfl,v⟩:=de h;obtain⟨V0,Kt,p1,rfl,A⟩:=sr v;clear h v;simp only[cb]at A;exact BC g.K (bC a X _ g A.1.1) (G3 lo X _ g A.1.2) (G3 hi X _ g A.2)
 |.bi f es,X,k,g,h=>by
  obtain⟨f',as,p0,rfl,v⟩:=aS h;obtain⟨x,p1,rfl,B⟩:=ak v;have h:=B;exact G0 g (iT es X _ g (dP h)) h
 |.M_ f es,X,k,g,h=>by
  obtain⟨f',as,p0,rfl,v⟩:=aS h;obtain⟨x,p1,rfl,B⟩:=ak v;obtain⟨c,rfl,z3⟩:=aH B;obtain⟨g',as',p2,rfl,z4⟩:=aS z3;obtain⟨y,p3,rfl,z5⟩:=ak z4;have h:=z5;exact G1 g (iT es X _ g (dP h)) h
 |.NF m a es,X,k,g,h=>by
  obtain⟨o,name,ab,as,G',rfl,v⟩:=bK h;have h:=v;have h':=h;simp only[cb]at h';exact G2 g (bC a X _ g h'.1.2) (iT es X _ g (dP h)) h
 |.call f es,X,k,g,h=>by
  obtain⟨f',as,p0,rfl,v⟩:=aS h;obtain⟨x,p1,rfl,B⟩:=ak v;have h:=B;exact yT g (iT es X _ g (dP h)) h
 |.comp n t ik src cond e,X,k,g,h=>by
  obtain⟨elt,tg,ac,al,scope,p0,rfl,A⟩:=jt h;clear h;have h:=A;simp only[cb,Ņ]at h;obtain⟨⟨⟨⟨⟨⟨⟨J,O⟩,G⟩,L⟩,Y⟩,h6⟩,h7⟩,h8⟩:=h;subst J;have S:=xK (X:=X) rfl (nz _ _) O;split at Y
  ·rename_i as am;have IZ:=cw Y;have hI:PI X tg ac (MB C ik (bp Γ src)):=CV g am (iT src X _ g Y) (λa e=>by
    subst e;cases src with
    |nil=>simp[aT]at Y
    |cons e1 JD =>
     cases JD with
     |nil =>
      simp only[aT,cb]at Y;exact⟨e1,rfl,bC e1 X _ g Y.1.2⟩
     |cons _ _=>simp[aT]at Y) IZ
   exact yE S g.calm hI (λD s H ex=>uC (fa:=cc) g.calm g.K S.nd (λz=>nomatch z) G)
    (λD s H ex=>by
     cases al with
     |nil =>
      cases cond with
      |nil=>exact λag s σ H Q I ⟨c0,e1,e2,ok,w⟩=>tK ag s σ H Q I (by subst e1 e2;rw[show bf Γ []=pure b8 from rfl,ao]at w;exact w c0 rfl rfl ok (Nx.refl c0))
      |cons _ _=>simp[aT]at h7
     |cons c1 cs =>
      cases cs with
      |nil =>
       cases cond with
       |nil=>simp[aT]at h7
       |cons e1 JD =>
        cases JD with
        |nil =>
         simp only[aT,cb]at h7;exact tL (lz e1 (JY X _ scope D s H ex) c1 (g.cx _ _ _ _ _ _) h7.1.2)
        |cons _ _=>simp[aT]at h7
      |cons _ _=>simp at h6)
    (λD s H ex=>bC e (JY X _ scope D s H ex) elt (g.cx _ _ _ _ _ _) h8) (sv L)
  ·cases Y
theorem E6:∀(es:List E) (X:Cx) (c:List mf),Gd ck Γ C d X->wu ck es X.N X.env.scope c=b8->∀out:Str,out.length<=cL->PJ X out c (IV C (Nc Γ es out >>= λy=>pure (.loc,.str y)))
 |[],X,c,g,h,out,hz=>by
  cases c with
  |nil=>exact Ew hz
  |cons _ _=>simp[wu]at h
 |e::es,X,c,g,h,out,hz=>by
  simp only[wu]at h;split at h
  ·simp only[cb]at h;have z:=Ez (p:=by assumption) (out:=out) (bC e X _ g h.1) λy b=>E6 es X _ g h.2 y b;rintro a s σ H Q I ⟨f,i,j,k,w⟩;refine z a s σ H Q I ⟨f,i,j,k,?_⟩;simp only[Nc,ah]at w ⊢;exact w
  ·simp only[cb]at h;cases e with
   |cst u =>
    have m:=cv h.1;subst m;rintro a s σ H Q I ⟨f,i,j,k,w⟩;simp only[Nc,ah]at w;rw[show ev Γ (.cst (.str _))=pure (.loc,.str _) from rfl,ao]at w;obtain⟨n,b,w⟩:=bE.mp w;simp only[qw]at b;split at b
    ·rename_i l;cases b;exact Ey (E6 es X _ g h.2 _ l.2) l.2 a s σ H Q I ⟨f,i,j,k,by rw[ah];exact w⟩
    ·cases b
   |_=>simp at h
  ·cases h
theorem iT:∀(es:List E) (X:Cx) (a:List mf),Gd ck Γ C d X->aT ck es X.N X.env.scope a=b8->PA X a (J4 C (bp Γ es))
 |[],X,a,g,h=>by
  cases a with
  |nil=>exact Bx
  |cons _ _=>simp[aT]at h
 |e::es,X,a,g,h=>by
  cases a with
  |nil=>simp[aT]at h
  |cons b a =>
   simp only[aT,cb]at h;exact yu (bC e X b g h.1.2) (iT es X a g h.2) (a9 h.1.1)
theorem G3:∀(es:List E) (X:Cx) (o:Option mf),Gd ck Γ C d X->su ck es X.N X.env.scope o=b8->PO X o (tO C (Ow Γ es))
 |[],X,o,g,h=>by
  cases o with
  |none=>exact v8
  |some _=>simp[su]at h
 |[e],X,o,g,h=>by
  cases o with
  |none=>simp[su]at h
  |some a=>simp only[su]at h;exact v9 (bC e X a g h)
 |_::_::_,X,o,g,h=>by simp[su]at h
theorem yU:∀(es:List E) (X:Cx) (a:List mf),Gd ck Γ C d X->aT ck es X.N X.env.scope a=b8->∀{pos},PE X (.BoolOp .And a pos) (IV C (iL Γ es))
 |[],X,a,g,h,pos=>pf
 |[e],X,a,g,h,pos=>by
  cases a with
  |nil=>simp[aT]at h
  |cons b a =>
   cases a with
   |nil=>simp only[aT,cb]at h;exact Dr (bC e X b g h.1.2)
   |cons _ _=>simp[aT]at h
 |e::c::es,X,a,g,h,pos=>by
  cases a with
  |nil=>simp[aT]at h
  |cons b a =>
   have h':noStar b=b8/\bw ck e X.N X.env.scope b=b8/\aT ck (c::es) X.N X.env.scope a=b8:=by
    rw[aT]at h;simp only[cb]at h;exact⟨h.1.1,h.1.2,h.2⟩
   cases a with
   |nil=>have:=h'.2.2;simp[aT]at this
   |cons f i=>exact snd_and (bC e X b g h'.2.1) (yU (c::es) X _ g h'.2.2)
theorem lz:∀(e:E) (X:Cx) (j:mf),Gd ck Γ C d X->bw ck e X.N X.env.scope j=b8->PT X j (J9 C (Jh Γ e))
 |.and es,X,j,g,h=>by
  obtain⟨Y,s,rfl,l⟩:=jr h;clear h;have h:=l;exact(uD es X _ g h).pt
 |.or es,X,j,g,h=>by
  obtain⟨Y,s,rfl,l⟩:=jr h;clear h;have h:=l;exact(yV es X _ g h).pt
 |.not a,X,j,g,h=>by
  obtain⟨a',s,rfl,l⟩:=nq h;clear h;have h:=l;exact Bu (lz a X _ g h)
 |.cmp op a b,X,j,g,h=>by
  obtain⟨a',MG,G,s,rfl,k⟩:=ic h;have h:=k;simp only[cb,Ņ,nH]at h;obtain⟨⟨⟨rfl,H⟩,v⟩,z⟩:=h;exact Br g.P g.w g.K g.u (bC a X _ g v) (bC b X _ g z) H
 |.Mx o1 o2 a b c,X,j,g,h=>absurd (show cc=b8 from h) i7
 |.var i,X,j,g,h=>by
  obtain⟨x,s,rfl,l⟩:=ak h;simp only[cb,Ņ]at l;obtain⟨A,B⟩:=az l.2;exact iM (oV l.1.1 (cn l.1.2) A B) g.K λ_=>rfl
 |.idx a b,X,j,g,h=>bz
 |.bi f es,X,j,g,h=>by
  obtain⟨f',as,s,rfl,k⟩:=aS h;obtain⟨x,I,rfl,o⟩:=ak k;have h:=o;refine PT.eqv (iM (G0 g (iT es X _ g (dP h)) h) g.K λ_=>rfl) λst Q w=>CY w
 |.M_ f es,X,j,g,h=>bz
 |.NF m a es,X,j,g,h=>bz
 |.call f es,X,j,g,h=>by
  obtain⟨f',as,s,rfl,k⟩:=aS h;obtain⟨x,I,rfl,o⟩:=ak k;have h:=o;refine PT.eqv (iM (yT g (iT es X _ g (dP h)) h) g.K λ_=>rfl) λst Q w=>CY w
 |.cst u,X,j,g,h=>bz
 |.fst es,X,j,g,h=>bz
 |.Rm x u,X,j,g,h=>bz
 |.neg a,X,j,g,h=>bz
 |.Lh a T,X,j,g,h=>by
  obtain⟨f',as,s,rfl,k⟩:=aS h;obtain⟨x,I,rfl,o⟩:=ak k;clear h k;obtain⟨a',G,rfl,z4⟩:=cN o;obtain⟨y,p2,rfl,z3⟩:=ak z4;have h:=z3;simp only[cb,Ņ]at h;obtain⟨⟨⟨⟨⟨rfl,rfl⟩,v⟩,z⟩,A⟩,B⟩:=h;refine PT.eqv (iM (ug g.K (bP v) (g.blt _ f_) (bP z) (g.blt _ (yS T)) (bC a X _ g B) (a9 A)) g.K λ_=>rfl) λst Q w=>?_;have w:W (ev Γ a >>= λx=>M.Jb (oS x.2 T)) st Q:=w;simp only[ah]at w ⊢;refine W.mono w λx s1 J=>?_;obtain⟨b,e,L⟩:=bE.mp J;exact bE.mpr ⟨b,e,ao.mpr (bE.mpr ⟨b,rfl,L⟩)⟩
 |.bad,X,j,g,h=>bz
 |.J8 a D O,X,j,g,h=>by
  obtain⟨as,p,q,rfl,k⟩:=dF h;obtain⟨a',G,rfl,o⟩:=cN k;clear h k;simp only[cb]at o;obtain⟨⟨⟨⟨⟨⟨⟨v,z⟩,A⟩,B⟩,h5⟩,h6⟩,h7⟩,h8⟩:=o;refine PT.eqv (iM (CW g (bC a X _ g h8) v z A B h5 h6 h7) g.K λ_=>rfl) λst Q w=>?_;have w:W (ev Γ a >>= λx=>M.Jb (eW O x.2)) st Q:=w;have e:ev Γ (.J8 a D O)=(ev Γ a >>= λx=>M.Jb (eW O x.2) >>= λb=>pure (.loc,.bl b)):=rfl;rw[e];simp only[ah]at w ⊢;refine W.mono w λx s1 J=>?_;obtain⟨b,e,L⟩:=bE.mp J;exact bE.mpr ⟨b,e,ao.mpr (bE.mpr ⟨b,rfl,L⟩)⟩
 |.M' ix i b,X,j,g,h=>bz
 |.Pf i,X,j,g,h=>bz
 |.pop i,X,j,g,h=>bz
 |.Lx i a,X,j,g,h=>bz
 |.IT f es is,X,j,g,h=>bz
 |.inD neg a i,X,j,g,h=>by
  obtain⟨a',MG,G,s,rfl,k⟩:=ic h;obtain⟨x,I,rfl,o⟩:=ak k;have h:=o;simp only[cb,Ņ,nH]at h;obtain⟨⟨⟨⟨⟨rfl,H⟩,v⟩,z⟩,A⟩,B⟩:=h;obtain⟨q1,q2⟩:=az A;exact BO g.u v (cn z) q1 q2 (bC a X _ g B) H
 |.Pd i,X,j,g,h=>bz
 |.Ou ln a b,X,j,g,h=>bz
 |.Pe i,X,j,g,h=>bz
 |.Lw i a b,X,j,g,h=>bz
 |.bin op a b,X,j,g,h=>bz
 |.ite c a b,X,j,g,h=>bz
 |.tup es,X,j,g,h=>bz
 |.lst es,X,j,g,h=>bz
 |.KN r,X,j,g,h=>bz
 |.M9 a lo hi,X,j,g,h=>bz
 |.comp n t ik src cond e,X,j,g,h=>bz
theorem uD:∀(es:List E) (X:Cx) (a:List mf),Gd ck Γ C d X->aT ck es X.N X.env.scope a=b8->∀{pos},PW X (.BoolOp .And a pos) (J9 C (bf Γ es))
 |[],X,a,g,h,pos=>by
  cases a with
  |nil =>
   rintro k f s σ H Q I ⟨c,rfl,rfl,j,w⟩;rw[show bf Γ []=pure b8 from rfl,ao]at w;exact Ł ⟨c.H,I,w c rfl rfl j (Nx.refl c)⟩
  |cons _ _=>simp[aT]at h
 |[e],X,a,g,h,pos=>by
  cases a with
  |nil=>simp[aT]at h
  |cons b a =>
   cases a with
   |nil=>simp only[aT,cb]at h;exact AB (lz e X b g h.1.2)
   |cons _ _=>simp[aT]at h
 |e::i::es,X,a,g,h,pos=>by
  cases a with
  |nil=>simp[aT]at h
  |cons b a =>
   have h':noStar b=b8/\bw ck e X.N X.env.scope b=b8/\aT ck (i::es) X.N X.env.scope a=b8:=by
    rw[aT]at h;simp only[cb]at h;exact⟨h.1.1,h.1.2,h.2⟩
   cases a with
   |nil=>have:=h'.2.2;simp[aT]at this
   |cons l m=>exact Bw (lz e X b g h'.2.1) (uD (i::es) X _ g h'.2.2)
theorem yV:∀(es:List E) (X:Cx) (a:List mf),Gd ck Γ C d X->aT ck es X.N X.env.scope a=b8->∀{pos},PW X (.BoolOp .Or a pos) (J9 C (jJ Γ es))
 |[],X,a,g,h,pos=>by
  cases a with
  |nil =>
   rintro k f s σ H Q I ⟨c,rfl,rfl,j,w⟩;rw[show jJ Γ []=pure cc from rfl,ao]at w;exact isTrue_or_nil ⟨c.H,I,w c rfl rfl j (Nx.refl c)⟩
  |cons _ _=>simp[aT]at h
 |[e],X,a,g,h,pos=>by
  cases a with
  |nil=>simp[aT]at h
  |cons b a =>
   cases a with
   |nil=>simp only[aT,cb]at h;exact Dn (lz e X b g h.1.2)
   |cons _ _=>simp[aT]at h
 |e::i::es,X,a,g,h,pos=>by
  cases a with
  |nil=>simp[aT]at h
  |cons b a =>
   have h':noStar b=b8/\bw ck e X.N X.env.scope b=b8/\aT ck (i::es) X.N X.env.scope a=b8:=by
    rw[aT]at h;simp only[cb]at h;exact⟨h.1.1,h.1.2,h.2⟩
   cases a with
   |nil=>have:=h'.2.2;simp[aT]at this
   |cons l m=>exact Eo (lz e X b g h'.2.1) (yV (i::es) X _ g h'.2.2)
end
theorem G4(g:Gd ck Γ C d X)(b:UC e=b8)(h:bw ck e X.N X.env.scope f=b8):PE X f (we C (ev Γ e)):=by
 cases e with
 |var i =>
  obtain⟨x,k,rfl,a⟩:=ak h;simp only[cb,Ņ]at a;obtain⟨l,m⟩:=az a.2;exact yH a.1.1 (cn a.1.2) l m
 |cst u =>
  obtain⟨c,n,k,rfl,a⟩:=fB h;cases c with
  |int j=>have:=cv a;subst this;exact iS xg λ_ _=>rfl
  |str y=>have:=cv a;subst this;exact iS og λ_ _=>rfl
  |bool y=>have:=cv a;subst this;exact iS pN λ_ _=>rfl
  |none=>have:=cv a;subst this;exact iS xh λ_ _=>rfl
  |_=>cases a
 |_=>cases b
end
noncomputable def QI(b:LS)(x:Str)(a:Nat):mf->Bool
 |.ListComp elt gens s pos=>cK (b.names.lookup x=a5 .local)&&(a==pos.line)&&!(s.names.any λ(n,k)=>n==x&&(k==.local||k==.cell))
 |_=>cc
noncomputable def lA(s:Mi)(k:mf->Bool):Bool:=match s with|.Expr e _=>k e|_=>cc
theorem dQ(h:lA s k=b8):∃e p,s=.Expr e p/\k e=b8:=by
 unfold lA at h;split at h
 ·exact⟨_,_,rfl,h⟩
 ·cases h
noncomputable def jM(s:Mi)(k:mf->mf->Bool):Bool:=match s with|.Assign ts v _=>cz ts λt=>k t v|_=>cc
theorem dh(h:jM s k=b8):∃t v p,s=.Assign [t] v p/\k t v=b8:=by
 unfold jM at h;split at h
 ·obtain⟨t,rfl,a⟩:=aH h;exact⟨_,_,_,rfl,h⟩
 ·cases h
noncomputable def yW(s:Mi)(k:mf->Bool):Bool:=match s with|.Raise (a5 e) bD _=>k e|_=>cc
theorem sy(h:yW s k=b8):∃e p,s=.Raise (a5 e) bD p/\k e=b8:=by
 unfold yW at h;split at h
 ·exact⟨_,_,rfl,h⟩
 ·cases h
noncomputable def uE(s:Mi)(k:Mi->ExceptHandler->Bool):Bool:=match s with|.Try b hs [] [] _=>cz b λb=>cz hs λh=>k b h|_=>cc
theorem lB(h:uE s k=b8):∃b a p,s=.Try [b] [a] [] [] p/\k b a=b8:=by
 unfold uE at h;split at h
 ·obtain⟨b,rfl,c⟩:=aH h;obtain⟨a,rfl,d⟩:=aH c;exact⟨_,_,_,rfl,d⟩
 ·cases h
noncomputable def uF(s:ExceptHandler)(k:mf->Str->Mi->Bool):Bool:=match s with|.ExceptHandler (a5 t) (a5 n) b _=>cz b λb=>k t n b|_=>cc
theorem lC(h:uF s k=b8):∃t n b p,s=.ExceptHandler (a5 t) (a5 n) [b] p/\k t n b=b8:=by
 unfold uF at h;split at h
 ·obtain⟨b,rfl,a⟩:=aH h;exact⟨_,_,_,_,rfl,a⟩
 ·cases h
noncomputable def yX(s:Mi)(k:Str->mf->Bool):Bool:=jM s λt v=>aX t λy=>k y v
theorem gz(h:yX s k=b8):∃y p v a,s=.Assign [.Name y p] v a/\k y v=b8:=by
 obtain⟨t,v,a,rfl,z⟩:=dh h;obtain⟨y,p,rfl,z⟩:=ak z;exact⟨y,p,v,a,rfl,z⟩
noncomputable def E7(v:mf)(k n D:Str):Bool:=match v with|.Tuple l _ _=>lu l λa b=>(match a with|.Constant (.str c) _ _=>cK (c=k)|_=>cc)&&wt b "isinstance" λas=>lu as λx y=>isNm x n&&isNm y D|_=>cc
theorem wy(h:E7 v k n D=b8):∃q j e f g i l m,v=.Tuple [.Constant (.str k) q j,.Call (.Name "isinstance" e) [.Name n f,.Name D g] [] i] l m:=by
 unfold E7 at h;split at h
 ·obtain⟨a,b,rfl,c⟩:=cN h;rw[cb]at c;obtain⟨c,o⟩:=c;obtain⟨as,e,i,rfl,p⟩:=dF o;obtain⟨x,y,rfl,d⟩:=cN p;rw[cb]at d;obtain⟨f,rfl⟩:=dg d.1;obtain⟨g,rfl⟩:=dg d.2;split at c
  ·rw[ŋ c];exact⟨_,_,_,_,_,_,_,_,rfl⟩
  ·cases c
 ·cases h
noncomputable def E8(e:mf)(k:Str->Pos->Bool):Bool:=match e with|.Name x p=>k x p|_=>cc
theorem wz(h:E8 e k=b8):∃x p,e=.Name x p/\k x p=b8:=by
 unfold E8 at h;split at h
 ·exact⟨_,_,rfl,h⟩
 ·cases h
noncomputable def yY(s:Mi)(k:mf->ä->mf->Bool):Bool:=match s with|.AugAssign t a b _=>k t a b|_=>cc
theorem sA(h:yY s k=b8):∃t a b p,s=.AugAssign t a b p/\k t a b=b8:=by
 unfold yY at h;split at h
 ·exact⟨_,_,_,_,rfl,h⟩
 ·cases h
noncomputable def uG(s:Mi)(k:Option mf->Bool):Bool:=match s with|.Return v _=>k v|_=>cc
theorem lD(h:uG s k=b8):∃v p,s=.Return v p/\k v=b8:=by
 unfold uG at h;split at h
 ·exact⟨_,_,rfl,h⟩
 ·cases h
noncomputable def G5(v:Option mf)(k:mf->Bool):Bool:=match v with|some e=>k e|none=>cc
theorem wA(h:G5 v k=b8):∃e,v=a5 e/\k e=b8:=by
 cases v with
 |none=>cases h
 |some e=>exact⟨e,rfl,h⟩
noncomputable def yZ(s:Mi)(k:mf->List Mi->List Mi->Bool):Bool:=match s with|.If c a b _=>k c a b|_=>cc
theorem sC(h:yZ s k=b8):∃c a b p,s=.If c a b p/\k c a b=b8:=by
 unfold yZ at h;split at h
 ·exact⟨_,_,_,_,rfl,h⟩
 ·cases h
noncomputable def y0(s:Mi)(k:mf->mf->List Mi->Bool):Bool:=match s with|.For t i b o _=>o.isEmpty&&k t i b|_=>cc
theorem sD(h:y0 s k=b8):∃t i b p,s=.For t i b [] p/\k t i b=b8:=by
 unfold y0 at h;split at h
 ·rw[cb,Jp]at h;obtain⟨rfl,h⟩:=h;exact⟨_,_,_,_,rfl,h⟩
 ·cases h
noncomputable def E9(s:Mi)(k:mf->List Mi->Bool):Bool:=match s with|.While c b o _=>o.isEmpty&&k c b|_=>cc
theorem wB(h:E9 s k=b8):∃c b p,s=.While c b [] p/\k c b=b8:=by
 unfold E9 at h;split at h
 ·rw[cb,Jp]at h;obtain⟨rfl,h⟩:=h;exact⟨_,_,_,rfl,h⟩
 ·cases h
noncomputable def V2(k:Ck)(f c D:Str)(a:LS):Bool:=cK (f∈k.fns)&&JU a f&&aW f&&cK ((c,D)∈k.xd)&&JU a c&&aW c&&JU a D&&aW D&&JU a "isinstance"
noncomputable def QJ(k:Ck)(f:Str)(es:List E)(N:List Str)(a:LS)(v:mf):Bool:=wt v f λas=>cK (f∈k.fns)&&JU a f&&aW f&&!as.isEmpty&&aT k es N a as
noncomputable def YU(k:Ck)(c:List E)(f:Str)(es:List E)(g:Str)(b:List E)(N:List Str)(a:LS)(v:mf):Bool:=match c with
 |[]=>QJ k f es N a v
 |[c]=>BZ v λd a' e=>bw k c N a d&&QJ k f es N a a'&&QJ k g b N a e
 |_=>cc
mutual
noncomputable def wC(k:Ck):S->List Str->LS->Mi->Bool
 |.set i e,N,d,s=>jM s λt v=>E8 t λx p=>cK (N[i]?=a5 x)&&j4 d x&&cK (d.kind=.function)&&bw k e N d v&&(cZ v||QI d x p.line v||(match v with|.ListComp _ _ _ _=>b8|_=>cc))&&(match e with|.comp _ _ _ _ _ _=>b8|_=>cZ v)
 |.Na is e,N,d,s=>jM s λt v=>uB t λ_=>Pn b8 N d b8 is t&&cZ v&&EW v&&bw k e N d v
 |.put i a b,N,d,s=>jM s λt q=>jL t λo a'=>aX o λx=>cK (N[i]?=a5 x)&&fY d x&&aW x&&cZ q&&eE a'&&bw k a N d a'&&bw k b N d q
 |.app i e,N,d,s=>lA s λc=>eM c λo m h as u=>aX o λx=>cz as λa=>cK (m="append")&&cK (N[i]?=a5 x)&&fY d x&&aW x&&(h.endLine==u.line)&&noStar a&&bw k e N d a
 |.ext i e,N,d,s=>lA s λc=>eM c λo m h as u=>aX o λx=>cz as λa=>cK (m="extend")&&cK (N[i]?=a5 x)&&fY d x&&aW x&&(h.endLine==u.line)&&noStar a&&bw k e N d a
 |.bad,_,_,_=>b8
 |.newD i,N,d,s=>jM s λt v=>aX t λx=>B0 v&&cK (N[i]?=a5 x)&&j4 d x
 |.putD i a b,N,d,s=>jM s λt q=>jL t λo a'=>aX o λx=>cK (N[i]?=a5 x)&&fY d x&&aW x&&cZ q&&eE a'&&bw k a N d a'&&bw k b N d q
 |.K_ i a e,N,d,s=>lA s λc=>eM c λo m h as u=>jL o λJ a'=>aX J λx=>cz as λb=>cK (m="append")&&cK (N[i]?=a5 x)&&fY d x&&aW x&&eE a'&&(h.endLine==u.line)&&noStar b&&bw k a N d a'&&bw k e N d b&&UC e
 |.aug sub i a e,N,d,s=>yY s λt L b=>jL t λo a'=>aX o λx=>cK (L=if sub=b8 then .Sub else .Add)&&cK (N[i]?=a5 x)&&fY d x&&aW x&&eE a'&&bw k a N d a'&&bw k e N d b&&UC e
 |.Rn _,_,_,_=>cc
 |.exp e,N,d,s=>lA s λw=>cZ w&&bw k e N d w
 |.ret e,N,d,s=>uG s λv=>G5 v λw=>bw k e N d w
 |.L0,N,d,s=>uG s λv=>v.isNone
 |.ite c a b,N,d,s=>yZ s λA a' q=>bw k c N d A&&dR k a N d a'&&dR k b N d q
 |.Ji t is O src body,N,d,s=>y0 s λI l B=>Pn t N d b8 is I&&si l&&(match f9 d I O l with
    |some as=>aT k src N d as
    |none=>cc)&&dR k body N d B
 |.NG c body,N,d,s=>E9 s λA B=>bw k c N d A&&dR k body N d B
 |.brk,_,_,_=>cc
 |.cnt,_,_,_=>cc
 |.Mc _,_,_,_=>cc
 |.My f es,N,d,s=>lA s λv=>QJ k f es N d v
 |.MR i c f es g Q x T j m,N,d,s=>uE s λb C=>uF C λt n G=>yX b λy v=>yX G λz H=>(isNm t x&&isNm H n&&cZ v&&YU k c f es g Q N d v)&&(T.all λcl=>cK ((cl,x)∈k.xe))&&(cK (k.xe.any λp=>cK (p.2=x))&&JU d x&&aW x)&&(cK (N[i]?=a5 y)&&j4 d y&&cK (N[j]?=a5 n)&&cK (d.names.lookup n=a5 .local)&&aW n&&cK (N[m]?=a5 z)&&j4 d z)
 |.MQ c e,N,d,s=>yW s λr=>wt r c λas=>cz as λa=>cK (c∈k.xc)&&JU d c&&aW c&&noStar a&&bw k e N d a
 |.tr i f es c D j Y,N,d,s=>uE s λb C=>uF C λt n G=>yX b λy v=>yX G λy' H=>(isNm t c&&cK (y'=y)&&E7 H Y n D&&wt v f λas=>!as.isEmpty&&aT k es N d as)&&V2 k f c D d&&(cK (N[i]?=a5 y)&&j4 d y&&cK (N[j]?=a5 n)&&cK (d.names.lookup n=a5 .local)&&aW n)
 |.Ro,_,_,_=>cc
noncomputable def dR(k:Ck):List S->List Str->LS->List Mi->Bool
 |[],_,_,a=>a.isEmpty
 |s::ss,N,b,a=>match a with
  |s'::a=>wC k s N b s'&&dR k ss N b a
  |[]=>cc
end
section
variable{ck:Ck}{Γ:Tab}{C:Ct}{d:Nat}{X:Cx}
theorem ju(h:j4 a x=b8):Loc a x:=by
 unfold j4 at h;simp only[LJ,Ņ]at h;exact h
theorem eZ(h:cZ v=b8):O_ v t a env=pure cc:=by
 cases v<;>first|rfl|cases h
theorem ph(h:cZ v=b8):Q2 [t] v a env=pure cc:=by
 rw[Q2];exact eZ h
theorem B8(h:eE i=b8):∀a b new,Ķ i a b new=(do MX [new,a,b] (TR a b new);Wk [new,a,b] [];pure .next):=by
 intro a b new;cases i<;>first|rfl|cases h
theorem uH(h:eE i=b8):∀v,Ss (.Subscript o i p) env v=(do
   let a <-MX [v] (ve o env)
   let b <-MX [v,a] (ve i env)
   X6 p
   MX [v,a,b] (TR a b v)
   Wk [v,a,b] []):=by
 intro v;cases i<;>first|rfl|cases h
structure Gs(ck:Ck)(Γ:Tab)(C:Ct)(d:Nat)(X:Cx):Prop where
 gd:Gd ck Γ C d X
 nd:X.N.Nodup
 fn:∀x,X.fn x=b8
 po:Xp (ez X.prog X.w) X.A X.env X.xe
 kd:X.env.scope.kind=.function
 xs:OI ck X.K X.mg
 xl:∀c H',C.xw (.str c) H'->∀C' T H pins σ s e s',PySem.W.nsIn X.K i8 c=a5 (a5 (.ref C'))->Inv X pins σ H s->bM X.prog X.w X.stack H s e C' T .none H' s'->X.xe (.ref e) s'
 sk:X.stack=X.env::X.outer/\X.env.frame=a5 X.env.locals
 ex:X.ex=[]
theorem uI(g:Gd ck Γ C d X)(h:(match f9 X.env.scope i j b with|some as=>aT ck src X.N X.env.scope as|none=>cc)=b8):PI X i b (MB C j (bp Γ src)):=by
 split at h
 ·rename_i as c;exact CV g c (iT src X _ g h) (λa e=>by
   subst e;cases src with
   |nil=>simp[aT]at h
   |cons f k =>
    cases k with
    |nil =>
     simp only[aT,cb]at h;exact⟨f,rfl,bC f X _ g h.1.2⟩
    |cons _ _=>simp[aT]at h) (cw h)
 ·cases h
theorem lE{pos p a:Pos}(hk:X.env.scope.kind=.function):O_ (.ListComp elt gens s pos) (a5 (.Name x p)) a.line X.env=pure (QI X.env.scope x p.line (.ListComp elt gens s pos)):=by
 have b:X.env.blockKind=.function:=by
  unfold Env.blockKind;rw[hk];rfl
 show(pure (X.env.blockKind==.function&&X.env.kindOf x==a5 .local&&p.line==pos.line&&!(s.names.any λ(n,k)=>n==x&&(k==.local||k==.cell))):Sem Bool)=_;rw[b];unfold QI;congr 1
 have:(X.env.kindOf x==a5 NameKind.local)=cK (X.env.scope.names.lookup x=a5 .local):=by
  unfold Env.kindOf;rw[Kk];simp
 rw[this];rfl
theorem E_{src cond:List E}(G:Gs ck Γ C d X)(m:X.N[i]?=a5 x)(B:j4 X.env.scope x=b8)
  (h:bw ck (.comp n t o src cond e) X.N X.env.scope (.ListComp elt [⟨q,a,b,0⟩] scope pos)=b8) (ns:Nat->Bool) (u:∀j,ns j=b8->j≠i) :
  L2.PS X (.Assign [.Name x p] (.ListComp elt [⟨q,a,b,0⟩] scope pos) LV) (JF C ns (ev Γ (.comp n t o src cond e) >>= λr=>dB i r >>= λ_=>pure .nx)):=by
 have g:=G.gd;have v:=bC (.comp n t o src cond e) X _ g h;cases k:QI X.env.scope x p.line (.ListComp elt [⟨q,a,b,0⟩] scope pos) with
 |false=>exact CT u G.nd m (ju B) (.inl (G.fn x)) v (by rw[lE G.kd,k])
 |true =>
  have hl:X.env.scope.names.lookup x=a5 .local:=by
   simp only[QI,cb,Ņ]at k;exact k.1.1
  obtain⟨YV,ZU,V3,YW,UD,p',J,y⟩:=jt h;cases J;clear h v;simp only[cb,Ņ]at y;obtain⟨⟨⟨⟨⟨⟨⟨L,O⟩,T⟩,Y⟩,h5⟩,h6⟩,c⟩,h8⟩:=y;subst L;have S:=xK (X:=X) rfl (nz _ _) O;exact EM u S g.calm G.nd m hl (uI g h5) (λD s H ex=>uC (fa:=cc) g.calm g.K S.nd (λz=>nomatch z) T)
   (λD s H ex=>by
    cases b with
    |nil =>
     cases cond with
     |nil=>exact λf s σ H Q I ⟨A,l,e2,ok,w⟩=>tK f s σ H Q I (by subst l e2;rw[show bf Γ []=pure b8 from rfl,ao]at w;exact w A rfl rfl ok (Nx.refl A))
     |cons _ _=>simp[aT]at c
    |cons c1 cs =>
     cases cs with
     |nil =>
      cases cond with
      |nil=>simp[aT]at c
      |cons l JD =>
       cases JD with
       |nil =>
        simp only[aT,cb]at c;exact tL (lz l (JY X _ scope D s H ex) c1 (g.cx _ _ _ _ _ _) c.1.2)
       |cons _ _=>simp[aT]at c
     |cons _ _=>simp at h6)
   (λD s H ex=>bC e (JY X _ scope D s H ex) elt (g.cx _ _ _ _ _ _) h8) (by rw[lE G.kd,k]) (sv Y)
theorem uJ(G:Gs ck Γ C d X)(h:QJ ck f es X.N X.env.scope v=b8):PR X C v (bp Γ es >>= λrs=>aC rs >>= λ_=>cP Γ f (rs.map (·.2)))/\cZ v=b8:=by
 obtain⟨as,p2,g,rfl,z⟩:=dF h;simp only[cb,Ņ,nH]at z;obtain⟨⟨⟨⟨i,j⟩,k⟩,l⟩,a⟩:=z;have b:=cw a;obtain⟨u,fa,x,ps,m,n,o,p,q,r⟩:=(G.gd.fns _ i).ex;cases as with
 |nil=>cases l
 |cons s c =>
  have st:=a9 (env:=X.env) (es:=c) (b s (by simp));have sn:=(bh (pos:=g) (env:=X.env) (es:=c) λe t=>b e (by simp[t])).1;exact⟨EU G.gd.P G.gd.w G.gd.K rfl q r m G.gd.room (bP j) n o p (az k).1 (iT es X.KD _ (Gd.KD G.gd) a) st sn,rfl⟩
theorem B9(G:Gs ck Γ C d X)(h:wC ck (.My f es) X.N X.env.scope s'=b8):L2.PS X s' (JF C (Ly (.My f es)) (exec Γ (.My f es))):=by
 obtain⟨v,p,rfl,z⟩:=dQ h;obtain⟨a,b⟩:=uJ G z;exact GW a (eZ b) G.xl
theorem B_(G:Gs ck Γ C d X)(h:wC ck (.MR i c f es g k x e j m) X.N X.env.scope s'=b8):L2.PS X s' (JF C (Ly (.MR i c f es g k x e j m)) (exec Γ (.MR i c f es g k x e j m))):=by
 obtain⟨b,hd,p,rfl,q⟩:=lB h;obtain⟨t0,n,r,Ul,rfl,s⟩:=lC q;obtain⟨y,p1,v,p4,rfl,t⟩:=gz s;obtain⟨z,p6,v2,QA,rfl,u⟩:=gz t;clear h q s t;simp only[cb,Ņ]at u;obtain⟨⟨⟨⟨⟨⟨B,D⟩,H⟩,a⟩,b1⟩,⟨⟨r,b3⟩,b4⟩⟩,⟨⟨⟨⟨⟨⟨I,J⟩,L⟩,O⟩,A⟩,Q⟩,T⟩⟩:=u;obtain⟨p5,rfl⟩:=dg B;obtain⟨p9,rfl⟩:=dg D;obtain⟨Y,YX,e0⟩:=SE.mp r;obtain⟨Dc,r1,r2⟩:=G.xs.xe x ⟨Y,YX,ŋ e0⟩;have l:∃o,PR X C v o/\exec Γ (.MR i c f es g k x e j m)=o >>= j3 e i j m:=by
  match c,a with
  |[],a=>exact⟨_,(uJ G a).1,rfl⟩
  |[c],a =>
   obtain⟨c',a',b',p3,rfl,w⟩:=nu a;simp only[cb]at w;exact⟨_,GV (lz c X.KD _ (Gd.KD G.gd) w.1.1) (uJ G w.1.2).1 (uJ G w.2).1,rfl⟩
  |_::_::_,a=>cases a
 obtain⟨o,l,e1⟩:=l;rw[e1];exact GX (λm hm=>by simpa[Ly,and_assoc] using hm) G.nd I (ju J) (G.fn _) L O Q (ju T) (G.fn _) G.gd.K l (eZ H) G.sk G.ex (bP b3) r1 (az b4).1 (λcl Mo Cc hn=>r2 cl (ŋ (ki.mp b1 cl Mo)) Cc hn) (az A).1 (az A).2
theorem Ca(G:Gs ck Γ C d X)(h:wC ck (.MQ c e) X.N X.env.scope s'=b8):L2.PS X s' (JF C (Ly (.MQ c e)) (exec Γ (.MQ c e))):=by
 obtain⟨r,u,rfl,g⟩:=sy h;obtain⟨as,v,p2,rfl,i⟩:=dF g;obtain⟨a,rfl,f⟩:=aH i;simp only[cb,Ņ]at f;obtain⟨⟨⟨⟨j,k⟩,l⟩,m⟩,n⟩:=f;obtain⟨o,p,q,t⟩:=G.xs.xc _ j;exact GP G.gd.calm (bP k) p (az l).1 t (bC e X a G.gd n) (a9 (es:=[]) m) λH' w b σ s e s' I F=>G.xl _ H' w o bD H' b σ s e s' q I F
theorem Fb(G:Gs ck Γ C d X)(h:wC ck (.tr i f es c D j a) X.N X.env.scope s'=b8):L2.PS X s' (JF C (Ly (.tr i f es c D j a)) (exec Γ (.tr i f es c D j a))):=by
 obtain⟨b,hd,p,rfl,g⟩:=lB h;obtain⟨t0,n,k,Ul,rfl,l⟩:=lC g;obtain⟨y,p1,v,p4,rfl,o⟩:=gz l;obtain⟨y',p6,v2,QA,rfl,r⟩:=gz o;clear h g l o;simp only[cb,Ņ,V2]at r;obtain⟨⟨⟨⟨⟨s,rfl⟩,t⟩,u⟩,⟨⟨⟨⟨⟨⟨⟨⟨I,J⟩,L⟩,b1⟩,k⟩,b3⟩,b4⟩,O⟩,Q⟩⟩,⟨⟨⟨⟨T,Y⟩,d4⟩,d5⟩,x⟩⟩:=r;obtain⟨p5,rfl⟩:=dg s;obtain⟨q,p7,p8,p9,Qz,Pk,kx,Rz,rfl⟩:=wy t;obtain⟨as,p2,p3,rfl,z⟩:=dF u;rw[cb,nH]at z;obtain⟨a4,A⟩:=z;clear s t u;have B:=cw A;obtain⟨np,fa,fd,ps,q1,q2,q3,q4,q5,q6⟩:=(G.gd.fns _ I).ex;obtain⟨Cc,Cd,r1,r2,r3,r4,r5⟩:=G.xs.xd _ b1;have gn:Gd ck Γ C d X.KD:=Gd.KD G.gd;cases as with
 |nil=>cases a4
 |cons e0 H =>
  have st:=a9 (env:=X.env) (es:=H) (B e0 (by simp));have sn:=(bh (pos:=p3) (env:=X.env) (es:=H) λe he=>B e (by simp[he])).1;exact GQ (λm hm=>by simpa[Ly] using hm) G.nd T (ju Y) (G.fn _) d4 d5 G.gd.P G.gd.w G.gd.K rfl q5 q6 q1 G.gd.room (bP J) q2 q3 q4 (az L).1 (iT es X.KD _ gn A) st sn G.sk (bP k) r1 r2 (az b3).1 r4 (bP b4) r3 (az O).1 r5 (bP Q) (G.gd.blt _ f_) (az x).1 (az x).2
mutual
theorem IE:∀(s:S) (X:Cx) (s':Mi),Gs ck Γ C d X->wC ck s X.N X.env.scope s'=b8->L2.PS X s' (JF C (Ly s) (exec Γ s))
 |.set i e,X,s',G,h=>by
  obtain⟨t,v,p1,rfl,k⟩:=dh h;obtain⟨x,p,rfl,l⟩:=wz k;clear h k;have h:=l;simp only[cb,Ņ]at h;obtain⟨⟨⟨⟨⟨r,y⟩,A⟩,q⟩,B⟩,J⟩:=h;have JI:∀j,Ly (.set i e) j=b8->j≠i:=λj O=>by simpa[Ly] using O
  by_cases hc:cZ v=b8
  ·exact CT JI G.nd r (ju y) (.inl (G.fn x)) (bC e X v G.gd q) (eZ hc)
  ·cases e with
   |comp n t ik src cond e =>
    obtain⟨elt,tg,ac,al,scope,p3,rfl,_⟩:=jt q;exact E_ G r y q _ JI
   |_=>exact absurd J hc
 |.Na is e,X,s',G,h=>by
  obtain⟨t,v,p1,rfl,k⟩:=dh h;obtain⟨es,kk,p,rfl,l⟩:=lx k;clear h k;have h:=l;simp only[cb]at h;obtain⟨⟨⟨r,y⟩,A⟩,q⟩:=h;refine EN (λj O=>by simpa[Ly] using O) (bC e X v G.gd q) (uC (fa:=b8) G.gd.calm G.gd.K G.nd (λ_=>G.fn) r) (ph y) ?_ rfl;cases v<;>first|rfl|cases A
 |.put i a b,X,s',G,h=>by
  obtain⟨t,v,p,rfl,k⟩:=dh h;obtain⟨o,a',p1,rfl,l⟩:=de k;obtain⟨x,px,rfl,Q⟩:=ak l;simp only[cb,Ņ]at Q;obtain⟨⟨⟨⟨⟨⟨r,y⟩,A⟩,q⟩,B⟩,J⟩,h7⟩:=Q;obtain⟨T,Y⟩:=az A;exact GO G.gd.P G.gd.w G.gd.K G.gd.u r (cn y) T Y (bC b X _ G.gd h7) (bC a X _ G.gd J) (ph q) rfl (uH B)
 |.app i e,X,s',G,h=>by
  obtain⟨c,p0,rfl,k⟩:=dQ h;obtain⟨o,m,ab,as,G',rfl,l⟩:=bK k;obtain⟨x,px,rfl,Q⟩:=ak l;obtain⟨a,rfl,z4⟩:=aH Q;simp only[cb,Ņ]at z4;obtain⟨⟨⟨⟨⟨⟨rfl,r⟩,y⟩,A⟩,q⟩,B⟩,J⟩:=z4;obtain⟨T,Y⟩:=az A;have st:=a9 (env:=X.env) (es:=[]) B;have sa:=(bh (pos:=G') (env:=X.env) (es:=[a]) λe he=>by simp at he;subst he;exact B).2;refine GL G.gd.K r (cn y) T Y (bC e X _ G.gd J) ?_ q st;rw[sa];rfl
 |.ext i e,X,s',G,h=>by
  obtain⟨c,p0,rfl,k⟩:=dQ h;obtain⟨o,m,ab,as,G',rfl,l⟩:=bK k;obtain⟨x,px,rfl,Q⟩:=ak l;obtain⟨a,rfl,z4⟩:=aH Q;simp only[cb,Ņ]at z4;obtain⟨⟨⟨⟨⟨⟨rfl,r⟩,y⟩,A⟩,q⟩,B⟩,J⟩:=z4;obtain⟨T,Y⟩:=az A;have st:=a9 (env:=X.env) (es:=[]) B;have sa:=(bh (pos:=G') (env:=X.env) (es:=[a]) λe he=>by simp at he;subst he;exact B).2;refine GN G.gd.K r (cn y) T Y (bC e X _ G.gd J) ?_ q st;rw[sa];rfl
 |.bad,X,s',G,h=>λag sh σ H D I ⟨_,_,_,_,w⟩=>(bu.mp w).elim
 |.newD i,X,s',G,h=>by
  obtain⟨t,v,p1,rfl,k⟩:=dh h;obtain⟨x,p,rfl,l⟩:=ak k;clear h k;have h:=l;simp only[cb,Ņ]at h;obtain⟨p2,rfl⟩:=nv h.1.1;exact ER (λj O=>by simpa[Ly] using O) G.nd h.1.2 (ju h.2) (.inl (G.fn _)) (eZ rfl)
 |.putD i a b,X,s',G,h=>by
  obtain⟨t,v,p,rfl,k⟩:=dh h;obtain⟨o,a',p1,rfl,l⟩:=de k;obtain⟨x,px,rfl,Q⟩:=ak l;simp only[cb,Ņ]at Q;obtain⟨⟨⟨⟨⟨⟨r,y⟩,A⟩,q⟩,B⟩,J⟩,h7⟩:=Q;obtain⟨T,Y⟩:=az A;exact ES G.gd.u r (cn y) T Y (bC b X _ G.gd h7) (bC a X _ G.gd J) (ph q) rfl (uH B)
 |.K_ i a e,X,s',G,h=>by
  obtain⟨c,p0,rfl,k⟩:=dQ h;obtain⟨o,m,ab,as,G',rfl,l⟩:=bK k;obtain⟨o',a',p1,rfl,Q⟩:=de l;obtain⟨x,px,rfl,z4⟩:=ak Q;obtain⟨b,rfl,z5⟩:=aH z4;simp only[cb,Ņ]at z5;obtain⟨⟨⟨⟨⟨⟨⟨⟨⟨rfl,r⟩,y⟩,A⟩,q⟩,B⟩,J⟩,h7⟩,h8⟩,h9⟩:=z5;have ha:=G4 (C:=C) (Γ:=Γ) (d:=d) (ck:=ck) G.gd h9 h8;obtain⟨T,Y⟩:=az A;have st:=a9 (env:=X.env) (es:=[]) J;have sa:=(bh (pos:=G') (env:=X.env) (es:=[b]) λe he=>by simp at he;subst he;exact J).2;refine ET G.gd.K G.gd.u r (cn y) T Y ha (bC a X _ G.gd h7) (qE q) ?_ B st;rw[sa];rfl
 |.aug sub i a e,X,s',G,h=>by
  obtain⟨t,op,b,p,rfl,L⟩:=sA h;clear h;have h:=L;obtain⟨o,a',p1,rfl,k⟩:=de h;obtain⟨x,px,rfl,l⟩:=ak k;simp only[cb,Ņ]at l;obtain⟨⟨⟨⟨⟨⟨⟨rfl,r⟩,y⟩,A⟩,q⟩,B⟩,J⟩,h7⟩:=l;have ha:=G4 (C:=C) (Γ:=Γ) (d:=d) (ck:=ck) G.gd h7 J;obtain⟨T,Y⟩:=az A;exact GS r (cn y) T Y ha (bC a X _ G.gd B) (B8 q)
 |.Rn i,X,s',G,h=>absurd (show cc=b8 from h) i7
 |.exp e,X,s',G,h=>by
  obtain⟨e',p,rfl,L⟩:=dQ h;clear h;have h:=L;simp only[cb]at h;exact GG (bC e X _ G.gd h.2) (eZ h.1)
 |.ret e,X,s',G,h=>by
  obtain⟨v,p,rfl,L⟩:=lD h;obtain⟨e',rfl,k⟩:=wA L;clear h L;have h:=k;exact GH (bC e X _ G.gd h)
 |.L0,X,s',G,h=>by
  obtain⟨v,p,rfl,L⟩:=lD h;cases v with
  |none=>exact EL
  |some _=>cases L
 |.ite c a b,X,s',G,h=>by
  obtain⟨c',a',b',p,rfl,L⟩:=sC h;clear h;have h:=L;simp only[cb]at h;have ha:=lF a X _ G h.1.2;have hb:=lF b X _ G h.2;exact GI (lz c X _ G.gd h.1.1) (J2.weak ha λD σ H z=>o_ (λj O=>by simp only[Ly,cb]at O;exact O.1) z) (J2.weak hb λD σ H z=>o_ (λj O=>by simp only[Ly,cb]at O;exact O.2) z)
 |.Ji t is ik src body,X,s',G,h=>by
  obtain⟨tg,ac,Lc,p,rfl,L⟩:=sD h;clear h;have h:=L;rw[cb,cb,cb]at h;exact GK G.po G.gd.calm (uI G.gd h.1.2) (uC (fa:=b8) G.gd.calm G.gd.K G.nd (λ_=>G.fn) h.1.1.1) (lF body X _ G h.2) (sv h.1.1.2) λj O=>by simpa[Ly] using O
 |.NG c body,X,s',G,h=>by
  obtain⟨c',Lc,p,rfl,L⟩:=wB h;clear h;have h:=L;simp only[cb]at h;exact GJ G.po (lz c X _ G.gd h.1) (lF body X _ G h.2)
 |.brk,X,s',G,h=>absurd (show cc=b8 from h) i7
 |.cnt,X,s',G,h=>absurd (show cc=b8 from h) i7
 |.Mc is,X,s',G,h=>absurd (show cc=b8 from h) i7
 |.My f es,X,s',G,h=>B9 G h
 |.MR i c f es g Ks x cs j m,X,s',G,h=>B_ G h
 |.MQ c e,X,s',G,h=>Ca G h
 |.tr i f es c D j kk,X,s',G,h=>Fb G h
 |.Ro,X,s',G,h=>absurd (show cc=b8 from h) i7
theorem lF:∀(ss:List S) (X:Cx) (a:List Mi),Gs ck Γ C d X->dR ck ss X.N X.env.scope a=b8->J2 X a (JF C (Lz ss) (execs Γ ss))
 |[],X,a,G,h=>by
  cases a with
  |nil=>exact GF
  |cons _ _=>simp[dR]at h
 |s::ss,X,a,G,h=>by
  cases a with
  |nil=>simp[dR]at h
  |cons s' a =>
   simp only[dR,cb]at h;have c:=IE s X s' G h.1;have e:=lF ss X a G h.2;exact EK (PS.weak c λD σ H z=>o_ (λj b=>by simp only[Lz,cb]at b;exact b.1) z) (J2.weak e λD σ H z=>o_ (λj b=>by simp only[Lz,cb]at b;exact b.2) z)
end
end
section
variable{ck:Ck}{Γ:Tab}{d:Nat}{P:va}{w:H8}{K:PySem.W.Frag}{mg:Str->Option d3}{base:Jy}
theorem jv{n i:Nat}(h:(start us n)[i]?=a5 (a5 (k,u))):us[i]?=a5 u/\k=if Jl u=b8 then .loc else .any:=by
 unfold start at h;by_cases a:i<us.length
 ·rw[u3 (by simpa using a),ko]at h;rw[ri a]at h ⊢;simp only[Vy,TB,Wx]at h;obtain⟨b,c⟩:=h;subst c;exact⟨rfl,b.symm⟩
 ·rw[rr (by simp;lia),Ki]at h;split at h<;>cases h
theorem di{i:Nat}(h:vs[i]?=a5 v):(L2.start N vs)[i]?=a5 (a5 v):=by
 unfold L2.start;have a:i<vs.length:=(dV.mp h).1;rw[u3 (by simpa using a),ko,h];rfl
theorem y4(p:∀a,c a->Kl H a)(h:aq ⟨P,w,K,H,c,λ_=>False,q⟩ c H us vs)(s:N.length=n):Ok ⟨P,w,K,H,c,λ_=>False,q⟩ ⟨λ_=>False,H,L2.start N vs,start us n,λ_=>[]⟩:=by
 have f:∀(j:Nat) (u:U),(start us n)[j]?≠a5 (a5 (.IK,u)):=λj u e=>by
  have:=(jv e).2;split at this<;>cases this
 refine⟨λa o e _=>e,λa z=>z.elim,λa z=>⟨p a z,λz=>z⟩,λa z=>z.elim,?_,λi k u e=>?_,λi j k k' u u' r hk x g m y A=>?_,⟨λj u r e _=>(f j u e).elim,λi j a ⟨u,_,e,_⟩=>(f i u e).elim,λj a ⟨u,_,e,_⟩=>(f j u e).elim⟩⟩
 ·have:=h.len;simp[start,L2.start,s];lia
 ·obtain⟨g,m⟩:=jv e;obtain⟨v,ev,b⟩:=h.get g;refine⟨v,di ev,?_⟩;subst m;by_cases l:Jl u=b8
  ·rw[ņ l];exact Rep.Jl l b
  ·rw[Ň l];exact Rep.mv (.up λa z=>.inl z) b
 ·obtain⟨_,t⟩:=jv g;subst t;split at hk<;>cases hk
theorem pj(h:cu Γ fn us=a5 (.ok (k,u))):us.length=fn.np/\((k=.own\/k=.loc\/k=.any)/\(∃st',execs Γ fn.body (start us fn.ns)=a5 (.ok (.rt k u),st'))\/(k=.loc/\u=.IU/\∃st',execs Γ fn.body (start us fn.ns)=a5 (.ok .nx,st'))):=by
 unfold cu at h;split at h
 ·rename_i hl;refine⟨hl,?_⟩;split at h
  ·rename_i e;cases h;exact .inl ⟨.inl rfl,_,e⟩
  ·rename_i e;cases h;exact .inl ⟨.inr (.inl rfl),_,e⟩
  ·rename_i e;cases h;exact .inl ⟨.inr (.inr rfl),_,e⟩
  ·rename_i e;cases h;exact .inr ⟨rfl,rfl,_,e⟩
  ·cases h
  ·cases h
 ·cases h
theorem qF(h:cu Γ fn us=a5 (.exc c)):us.length=fn.np/\∃st',execs Γ fn.body (start us fn.ns)=a5 (.ok (.rt .io (.str c)),st'):=by
 unfold cu at h;split at h
 ·rename_i hl;refine⟨hl,?_⟩;split at h
  ·cases h
  ·cases h
  ·cases h
  ·cases h
  ·rename_i e;cases h;exact⟨_,e⟩
  ·cases h
 ·cases h
theorem CZ{st:Mi}(F:Nr K fn.name i st f fd)(S:eB N ps (aQ st))(hN:N.length=fn.ns)(Lf:ps.length=fn.np)
  (OK:dR ck fn.body N (aQ st) (cU st)=b8) (t:∀x∈bO,mg x=bD) (y:∀g∈ck.fns,B1 P w K mg base d (Γ g) g)
  (L6:∀p∈ck.gl,∃val v,mg p.1=a5 val/\RelV v val/\∀(C:Ct) S H,Rep C S H p.2 v) (KQ:∀p∈ck.KQ,B3 P w K mg base d (Γ p.1) p.1 p.2) (xs:OI ck K mg):iw P w K mg base (NA P w) (d+1) f fd ps (spT P w K (cu Γ fn) fn.np):=by
 obtain⟨oc,od,kV,ab,pm,an,J,ct,OW,rfl,lk,Js⟩:=F.ex;refine CN lk Js S (λvs H Q E h=>h.1.trans Lf.symm) λA outer s H vs Q E L h=>?_;obtain⟨hl,us,r,q,O,YY,B,b⟩:=h;have Ph:=L.un;let l:Ct:=⟨P,w,K,H,q,λ_=>False,λu H'=>∃c,u=.str c/\∀j,PySem.W.nsIn K i8 c=a5 (a5 (.ref j))->E (.ref j) bD H'⟩
 have D:(MA P w K H q).Eqv l:=⟨rfl,rfl,rfl⟩
 have m:l.Eqv (MA P w K H q):=⟨rfl,rfl,rfl⟩
 have G:Gs ck Γ l d (pO (NA P w) P w K mg base N i (aQ st) f J A outer s H E) :=
  ⟨⟨rfl,rfl,rfl,by show(A.deeper (Uc i (aQ st) s.heap.objs.size f J)).units+60<LD;lia,rfl,L,t,y,λp hp=>let ⟨val,v,D,m,q3⟩:=L6 p hp;⟨val,v,D,m,q3 _⟩,KQ,xs⟩,S.nd,λ_=>rfl,PassesOwn.leaving,S.kind,xs,
   λc H' ⟨c',e1,hE⟩ j T H2 Y σ s2 e s' hm I F=>by
    cases e1;exact F.leave I.ok.frames rfl I.stack I.iq λT' Lj F'=>⟨e,j,T',H',rfl,F'.down I rfl rfl rfl,hE j hm⟩,⟨rfl,rfl⟩,rfl⟩
 refine⟨_,lF fn.body _ _ G OK,⟨λ_=>False,H,L2.start N vs,start us fn.ns,λ_=>[]⟩,rfl,rfl,y4 YY (B.cg D) hN,?_⟩;cases r with
 |exc c =>
  obtain⟨_,st',e⟩:=qF O;exact⟨_,st',e,λcf ec ok n kp=>⟨c,rfl,λj hC=>b j cf.H hC λa o z=>ok.same a o z λz=>z⟩⟩
 |ok x =>
 obtain⟨k,u⟩:=x;obtain⟨hk,b⟩:=b;obtain⟨_,UE⟩:=pj O;have mk:∀(c:Cf),Ok l c->∀v,EJ l c k u v->Back (MA P w K H q) H c.H c.S k u v:=λc ok v r=>by
  refine⟨λa o e=>ok.same a o e λz=>z,λa z=>ok.K5 a z,λe=>?_,λe=>?_,λe=>?_⟩
  ·subst e;obtain⟨r0,e,h1,h2,h3,h4⟩:=r;exact⟨r0,e,h1,h2,h4.cg m⟩
  ·subst e;exact Rep.cg m r
  ·subst e;exact Rep.cg m r
 rcases UE with⟨_,st',e⟩|⟨rfl,rfl,st',e⟩
 ·rcases hk with rfl|rfl|rfl<;>exact⟨_,st',e,λc ec ok n kp v r=>b v c.H c.S (mk c ok v r)⟩
 ·exact⟨_,st',e,λc ec ok n kp=>b .IU c.H c.S (mk c ok .IU rfl)⟩
theorem ie(h:(cY is us n)[i]?=a5 (a5 (k,u))):us[i]?=a5 u/\k=if i∈is then .io else if Jl u=b8 then .loc else .any:=by
 unfold cY at h;by_cases a:i<us.length
 ·rw[u3 (by simpa using a),ko,TF]at h;rw[ri a]at h ⊢;simp only[Vy,TB,Wx,P1]at h;obtain⟨b,c⟩:=h;subst c;exact⟨rfl,b.symm⟩
 ·rw[rr (by simp;lia),Ki]at h;split at h<;>cases h
theorem wD(a:EV C C.H₀ is us vs)(s:N.length=n):Ok C ⟨λ_=>False,C.H₀,L2.start N vs,cY is us n,λ_=>[]⟩:=by
 have g:∀(j:Nat) (u:U),(cY is us n)[j]?≠a5 (a5 (.IK,u)):=λj u e=>by
  have:=(ie e).2;split at this
  ·cases this
  ·split at this<;>cases this
 have rt:∀(j:Nat) (k:Kd) (u:U),k.root=b8->(cY is us n)[j]?=a5 (a5 (k,u))->j∈is/\us[j]?=a5 u:=λj k u hk e=>by
  obtain⟨f,b⟩:=ie e;refine⟨?_,f⟩;by_cases z:j∈is
  ·exact z
  ·rw[Ň z]at b;subst b;split at hk<;>cases hk
 refine⟨λa o e _=>e,λa z=>z.elim,λx z=>a.par x z,λx z=>⟨a.VW x z,a.VW x z⟩,?_,λi k u e=>?_,λi j k k' u u' r hk t f b l m=>?_,⟨λj u r e _=>(g j u e).elim,λi j a ⟨u,_,e,_⟩=>(g i u e).elim,λj a ⟨u,_,e,_⟩=>(g j u e).elim⟩⟩
 ·have:=a.len;simp[cY,L2.start,s];lia
 ·obtain⟨f,b⟩:=ie e;by_cases z:i∈is
  ·rw[ņ z]at b;subst b;obtain⟨r,b1,c,b3⟩:=a.io i u z f;exact⟨_,di b1,r,rfl,λz=>z,λz=>(a.par r z).2 c,c,b3⟩
  ·rw[Ň z]at b;obtain⟨v,b1,c⟩:=a.any i u z f;refine⟨v,di b1,?_⟩;subst b;by_cases h:Jl u=b8
   ·rw[ņ h];exact Rep.Jl h c
   ·rw[Ň h];exact Rep.mv (.up λa z=>.inl z) c
 ·obtain⟨p,y⟩:=rt i k u hk f;obtain⟨q,A⟩:=rt j k' u' t b;obtain⟨B,b1,_⟩:=a.io i u p y;obtain⟨D,c,_⟩:=a.io j u' q A;rw[di b1]at l;rw[di c]at m;cases l;cases m;exact a.inj i j _ p q b1 c
theorem uK:∀{is:List Nat}{st:aw}{ws:List U},Ox is st=a5 ws->ws.length=is.length/\∀(n i:Nat),is[n]?=a5 i->∃w,ws[n]?=a5 w/\st[i]?=a5 (a5 (.io,w))
 |[],_,_,h=>by cases h;exact⟨rfl,λn i e=>by simp at e⟩
 |i::is,st,ws,h=>by
  unfold Ox at h;split at h
  ·rename_i u c;rw[gs]at h;obtain⟨k,h,rfl⟩:=h;obtain⟨a,b⟩:=uK h;refine⟨by simp[a],λn j e=>?_⟩;cases n with
   |zero=>simp at e;subst e;exact⟨u,rfl,c⟩
   |succ n=>obtain⟨w,f,g⟩:=b n j (by simpa using e);exact⟨w,by simpa using f,g⟩
  ·cases h
theorem uL(h:gF Γ fn is body us=a5 (.ok r)):us.length=fn.np/\∃f st k u ws,execs Γ body (cY is us fn.ns)=a5 (.ok f,st)/\Rp f=a5 (k,u)/\Ox is st=a5 ws/\r=(k,.tup (u::ws)):=by
 unfold gF at h;split at h
 ·rename_i hl;refine⟨hl,?_⟩;split at h
  ·rename_i f st e;obtain⟨⟨k,u⟩,a,h⟩:=sx.mp h;rw[gs]at h;obtain⟨ws,b,c⟩:=h;cases c;exact⟨f,st,k,u,ws,e,a,b,rfl⟩
  ·cases h
 ·cases h
theorem Fc{st:Mi}(F:Nr K fn.name b st f fd)(S:eB N ps (aQ st))(hN:N.length=fn.ns)(Lf:ps.length=fn.np)(JI:∀i∈is,Lz body i=b8)
  (OK:dR ck body N (aQ st) (cU st)=b8) (y:∀x∈bO,mg x=bD) (B:∀g∈ck.fns,B1 P w K mg base d (Γ g) g)
  (L6:∀p∈ck.gl,∃val v,mg p.1=a5 val/\RelV v val/\∀(C:Ct) S H,Rep C S H p.2 v) (KQ:∀p∈ck.KQ,B3 P w K mg base d (Γ p.1) p.1 p.2) (xs:OI ck K mg):iw P w K mg base N8 (d+1) f fd ps (RF P w K (gF Γ fn is body) fn.np is):=by
 refine F.ok S (λvs H Q E h=>h.1.trans Lf.symm) (λJ A outer s H vs Q E L h=>?_);obtain⟨hl,us,k,u,ws,m,IO,Jw,hk,D,j⟩:=h;have Ph:=L.un;have G:Gs ck Γ (MF P w K H m IO) d (pO N8 P w K mg base N b (aQ st) f J A outer s H E).KD :=
  ⟨⟨rfl,rfl,rfl,by show(A.deeper (Uc b (aQ st) s.heap.objs.size f J)).units+60<LD;lia,rfl,L,y,B,λp hp=>let ⟨val,v,q1,q2,q3⟩:=L6 p hp;⟨val,v,q1,q2,q3 _⟩,KQ,xs⟩,S.nd,λ_=>rfl,PassesOwn.never,S.kind,xs,λ_ _ z=>z.elim,⟨rfl,rfl⟩,rfl⟩
 refine⟨_,lF body _ _ G OK,⟨λ_=>False,H,L2.start N vs,cY is us fn.ns,λ_=>[]⟩,rfl,rfl,wD (C:=MF P w K H m IO) D hN,?_⟩;obtain⟨_,O,st',k',u',NJ,e,o,e2,e3⟩:=uL Jw;cases e3;obtain⟨l1,l2⟩:=uK e2;have T:∀(c:Cf),c.st=st'->Ok (MF P w K H m IO) c->Kept (Lz body) ⟨λ_=>False,H,L2.start N vs,cY is us fn.ns,λ_=>[]⟩ c->∀v,EJ (MF P w K H m IO) c k u v->CU (MF P w K H m IO) H c.H c.S is vs ws k u v:=λc q l t v r=>by
  refine⟨l.same,λa z=>l.K5 a z,λe=>?_,λe=>?_,l1,λn i r w Y g2 g3=>?_⟩
  ·subst e;obtain⟨r0,e,h1,h2,h3,h4⟩:=r;exact⟨r0,e,h1,h2,h4⟩
  ·subst e;exact r
  ·obtain⟨w',z1,z2⟩:=l2 n i Y;rw[g3]at z1;cases z1;rw[<-q]at z2;obtain⟨v',I,r',y2,_,_,_,y3⟩:=l.sl i _ _ z2;have hi:i∈is:=my Y;rw[t.1 i (JI i hi)]at I;rw[show(L2.start N vs)[i]?=a5 (a5 (.ref r)) from di g2]at I;cases I;cases y2;exact y3
 refine⟨O,st',e,λc q l n t=>?_⟩;cases O with
 |nx=>cases o;exact j .IU c.H c.S (T c q l t .IU rfl)
 |rt k0 u0=>cases k0<;>first|(cases o;done)|(cases o;exact λv r=>j v c.H c.S (T c q l t v r))
 |_=>cases o
noncomputable def Fn.bd(fn:Fn):List S:=match fn.io with|some (_,b)=>b|none=>fn.body
noncomputable def RJ(fn:Fn):Bool:=match fn.io with|some (is,b)=>is.all λi=>Lz b i|none=>b8
noncomputable def RK(ck:Ck)(Pg:List Fn):Bool:=ck.fns.all (λg=>Pg.any λfn=>cK (fn.name=g)&&fn.io.isNone)&&ck.KQ.all λp=>Pg.any λfn=>cK (fn.name=p.1)&&cK (fn.io.map (·.1)=a5 p.2)
structure Ld(ck:Ck)(K:PySem.W.Frag)(mg:Str->Option d3)(fn:Fn):Prop where
 ex:∃(qual:Str) (st:Mi) (f:eH) (fd:Su) (N ps:List Str),Nr K fn.name qual st f fd/\mg fn.name=a5 (.ref f)/\Binds K fd ps []/\eB N ps (aQ st)/\N.length=fn.ns/\ps.length=fn.np/\dR ck fn.bd N (aQ st) (cU st)=b8/\RJ fn=b8
theorem Cb{Pg:List Fn}(a:(Pg.map (·.name)).Nodup)(h:fn∈Pg):Pg.find? (λg=>cK (g.name=fn.name))=a5 fn:=by
 induction Pg with
 |nil=>cases h
 |cons g Pg b =>
  rw[et,mx]at a;rcases d7.mp h with rfl|h
  ·simp
  ·rw[Nw];have:cK (g.name=fn.name)=cc:=by
    apply ň;intro z;exact a.1 (z▸QQ h)
   rw[this];exact b a.2 h
theorem sE(a:(Pg.map (·.name)).Nodup)(h:fn∈Pg):I_ Pg (d+1) fn.name=jo (I_ Pg d) fn:=by
 funext us
 show(match Pg.find? λg=>cK (g.name=fn.name) with|some fn=>jo (I_ Pg d) fn us|none=>bD)=_;rw[Cb a h]
theorem nA(h:fn.io=bD):jo Γ fn=cu Γ fn:=by funext us;unfold jo;rw[h]
theorem wF(h:fn.io=a5 (is,b)):jo Γ fn=gF Γ fn is b:=by funext us;unfold jo;rw[h]
theorem uM(O:(Pg.map (·.name)).Nodup)(q:RK ck Pg=b8)(t:∀x∈bO,mg x=bD)(T:∀p∈ck.gl,∃val v,mg p.1=a5 val/\RelV v val/\∀(C:Ct) S H,Rep C S H p.2 v)
  (ld:∀fn∈Pg,Ld ck K mg fn) (xs:OI ck K mg):∀d,(∀g∈ck.fns,B1 P w K mg base d (I_ Pg d g) g)/\∀p∈ck.KQ,B3 P w K mg base d (I_ Pg d p.1) p.1 p.2:=by
 simp only[RK,cb,ki,SE,Ņ]at q;intro d;induction d with
 |zero =>
  refine⟨λg I=>?_,λp J=>?_⟩
  ·obtain⟨fn,j,rfl,_⟩:=q.1 g I;obtain⟨a,st,f,l,N,ps,F,m,n,S,B,o,_⟩:=(ld fn j).ex;exact⟨fn.np,f,l,ps,⟨λvs H Q E h=>h.1.trans o.symm,λA outer s H args us vs Q E _ _ _ _ h=>by obtain⟨_,us,r,_,e,_⟩:=h;cases e⟩,m,F.kp,n,λus k u e=>(by cases e),λus c e=>by cases e⟩
  ·obtain⟨fn,j,e,_⟩:=q.2 p J;obtain⟨a,st,f,l,N,ps,F,m,n,S,B,o,_⟩:=(ld fn j).ex;exact⟨fn.np,f,l,ps,⟨λvs H Q E h=>h.1.trans o.symm,λA outer s H args us vs Q E _ _ _ _ h=>by obtain⟨_,us,k,u,_,_,_,e,_⟩:=h;cases e⟩,e▸m,F.kp,n,λus k e=>by cases e⟩
 |succ d G =>
  refine⟨λg I=>?_,λp J=>?_⟩
  ·obtain⟨fn,j,rfl,i⟩:=q.1 g I;rw[RQ]at i;obtain⟨a,st,f,l,N,ps,F,m,n,S,B,o,D,_⟩:=(ld fn j).ex;rw[sE O j,nA i];rw[show fn.bd=fn.body by unfold Fn.bd;rw[i]]at D;refine⟨fn.np,f,l,ps,CZ F S B o D t G.1 T G.2 xs,m,F.kp,n,λus k u e=>?_,λus c e=>(qF e).1⟩;obtain⟨h1,h2⟩:=pj e;refine⟨?_,h1⟩;rcases h2 with⟨z,_⟩|⟨z,_⟩
   ·exact z
   ·exact .inr (.inl z)
  ·obtain⟨fn,j,e,i⟩:=q.2 p J;rw[gs]at i;obtain⟨⟨is,b⟩,i,Y⟩:=i;obtain⟨x,y⟩:=p
   dsimp only at e Y
   subst e Y;obtain⟨a,st,f,l,N,ps,F,m,n,S,B,o,D,L⟩:=(ld fn j).ex;rw[sE O j,wF i];rw[show fn.bd=b by unfold Fn.bd;rw[i]]at D;unfold RJ at L;rw[i]at L;exact⟨fn.np,f,l,ps,Fc F S B o (ki.mp L) D t G.1 T G.2 xs,m,F.kp,n,λus r e=>(uL e).1⟩
end
noncomputable def sF(ns:List Int):U:=.lst (ns.map .int)
theorem nB{S:eH->Prop}:∀(ns:List Int),aq C S H (ns.map .int) (ns.map V.int)
 |[]=>rfl
 |n::ns=>⟨_,_,rfl,rfl,nB ns⟩
theorem sG(h:Jn C.K H a (ns.map V.int)):Rep C (Kl H) H (sF ns) (.ref a):=by
 refine⟨a,_,rfl,?_,nB ns⟩;rcases h with(h|⟨o,h⟩)|h
 ·exact .inl ⟨⟨_,h⟩,.inl h⟩
 ·exact .inl ⟨⟨_,h⟩,.inr ⟨o,h⟩⟩
 ·exact .inr h
theorem qG:∀{l:List α},(∀a∈l,f a=g a)->l.filterMap f=l.filterMap g
 |[],_=>rfl
 |a::l,h=>by rw[D7,D7,h a (by simp),qG λb c=>h b (by simp[c])]
theorem uN:∀(l:List Str) (us:List d3),l.Nodup->us.length=l.length->l.filterMap (λn=>((l.zip us).lookup n).map (n,·))=l.zip us
 |[],_,_,_=>rfl
 |a::l,[],_,h=>nomatch h
 |a::l,u::us,b,h=>by
  rw[mx]at b;have c:=uN l us b.2 (by simpa using h);simp only[RS,D7,t4,beq_self_eq_true,Vy];congr 1
  conv=>rhs;rw[<-c]
  refine qG λn d=>?_;have:(n==a)=cc:=by
   rw[Ō];rintro rfl;exact b.1 d
  rw[this]
theorem y6(l:List Str)(us:List d3)(h:us.length=l.length):l.filter (λn=>((l.zip us).lookup n).isNone)=[]:=by
 rw[Yu];intro n hn;induction l generalizing us with
 |nil=>cases hn
 |cons a l b =>
  cases us with
  |nil=>cases h
  |cons u us =>
   simp only[RS,t4];cases e:n==a with
   |true=>simp
   |false =>
    rcases d7.mp hn with rfl|hn
    ·simp at e
    ·exact b us (by simpa using h) hn
theorem y7{kV a b c ct:d3}(d:(as.map (·.arg)).Nodup)(hl:us.length=(as.map (·.arg)).length):
  ã (PySem.W.fnOf x q ⟨[],as,bD,[],[],bD,[]⟩ body scope .none kV a b g c ct) ⟨us,[]⟩=pure ((as.map (·.arg)).zip us):=by
 have e:=uN _ us d hl;have f:=y6 _ us hl;have hs:W8 nC=pure bD:=rfl;simp only[ã,PySem.W.fnOf,Jz,i9,tj,hs,pure_bind,Vg,QL,Nat.sub_zero,List.drop_nil,List.zip_nil_right,WK,e];rw[Ň (by simp[hl])];rw[dt,Nh (by simp),f];rfl
structure Me where
 fn:Fn
 i:Nat
 N:List Str
 a:eH
 c:eH
 m:d3
 cr:Obj
noncomputable def Me.fd(top:Nat->Mi)(m:Me):Su:=PySem.W.fnOf m.fn.name m.fn.name (gh (top m.i)) (cU (top m.i)) (aQ (top m.i)) .none .none .none m.m bD (.ref m.c) .none
noncomputable def Me.fo(top:Nat->Mi)(m:Me):Obj:=⟨.type "function",bD,.func (m.fd top),#[]⟩
abbrev Gx:=Obj×List (eH×Obj)
noncomputable def adr(ms:List Me)(xa:List eH):List eH:=3::(ms.flatMap (λm=>[m.c,m.a])++xa)
noncomputable def KR(top:Nat->Mi)(g:Gx)(ms:List Me):PySem.W.Frag:=(3,g.1)::(ms.flatMap (λm=>[(m.c,m.cr),(m.a,m.fo top)])++g.2)
theorem uO(top:Nat->Mi)(g:Gx)(ms:List Me)(xa:List eH)(h:g.2.map (·.1)=xa):adr ms xa=(KR top g ms).map (·.1):=by
 unfold adr KR;rw[et,kr,List.map_flatMap,h];rfl
noncomputable def Fd(v:Option (Option d3))(a:eH):Bool:=match v with|some (a5 (.ref b))=>cK (b=a)|_=>cc
theorem Ce(h:Fd v a=b8):v=a5 (a5 (.ref a)):=by
 unfold Fd at h;split at h
 ·rw[ŋ h]
 ·cases h
noncomputable def nn(o:Option (Option d3)):Bool:=match o with|some bD=>b8|_=>cc
theorem G6(h:nn o=b8):o=a5 bD:=by
 unfold nn at h;split at h
 ·rfl
 ·cases h
noncomputable def G7(p:Arguments)(ps:List Str):Bool:=p.posonlyargs.isEmpty&&p.vararg.isNone&&p.kwonlyargs.isEmpty&&p.kw_defaults.isEmpty&&p.kwarg.isNone&&p.defaults.isEmpty&&cK (p.args.map (·.arg)=ps)
noncomputable def V4(N:List Str)(b:Nat)(a:LS):Bool:=cK (a.kind=.function)&&cK (a.isCoroutine=cc)&&cK (a.isGenerator=cc)&&decide N.Nodup&&(N.take b).all (j4 a)&&a.names.all (λy=>cK (y.2≠.free))
noncomputable def V5(ck:Ck)(top:Nat->Mi)(K:PySem.W.Frag)(m:Me):Bool:=PySem.W.codeIn K (.ref m.c) m.fn.name&&PySem.W.keepIn K (.ref m.a)&&Fd (PySem.W.nsIn K i8 m.fn.name) m.a&&G7 (gh (top m.i)) (m.N.take m.fn.np) &&
 V4 m.N m.fn.np (aQ (top m.i))&&cK (m.N.length=m.fn.ns)&&cK (m.fn.np<=m.fn.ns)&&(dR ck m.fn.bd m.N (aQ (top m.i)) (cU (top m.i))&&RJ m.fn)
noncomputable def V6(K:PySem.W.Frag)(p:Str×U):Bool:=match p.2,PySem.W.nsIn K i8 p.1 with
 |.int i,a5 (a5 (.int j _))=>cK (i=j)
 |.str i,a5 (a5 (.str j _))=>cK (i=j)
 |_,_=>cc
noncomputable def NM(ck:Ck)(top:Nat->Mi)(K:PySem.W.Frag)(ms:List Me):Bool:=ms.all (V5 ck top K)&&bO.all (λy=>nn (PySem.W.nsIn K i8 y))&&ck.gl.all (V6 K)&&cK (K.map (·.1)).Nodup
theorem G8{K:PySem.W.Frag}(b:(K.map (·.1)).Nodup)(h:(a,o)∈K):K.lookup a=a5 o:=by
 induction K with
 |nil=>cases h
 |cons p K c =>
  rw[et,mx]at b;rw[t4];rcases d7.mp h with rfl|h
  ·simp
  ·have:(a==p.1)=cc:=by
    rw[Ō];rintro rfl;exact b.1 (js.mpr ⟨_,h,rfl⟩)
   rw[this];exact c b.2 h
section
theorem C2(c:NM ck top (KR top g ms) ms=b8)(h:m∈ms):Nr (KR top g ms) m.fn.name m.fn.name (top m.i) m.a (m.fd top)/\PySem.W.nsIn (KR top g ms) i8 m.fn.name=a5 (a5 (.ref m.a)) /\
  (∀us:List d3,us.length=(m.N.take m.fn.np).length->ã (m.fd top) ⟨us,[]⟩=pure ((m.N.take m.fn.np).zip us))/\eB m.N (m.N.take m.fn.np) (aQ (top m.i))/\m.N.length=m.fn.ns/\(m.N.take m.fn.np).length=m.fn.np/\(dR ck m.fn.bd m.N (aQ (top m.i)) (cU (top m.i))=b8/\RJ m.fn=b8):=by
 simp only[NM,cb,Ņ]at c;have z:=ki.mp c.1.1.1 m h;simp only[V5,cb,Ņ]at z;obtain⟨⟨⟨⟨⟨⟨⟨j,k⟩,l⟩,b⟩,d⟩,n⟩,u⟩,o⟩:=z;simp only[V4,cb,Ņ]at d;obtain⟨⟨⟨⟨⟨s1,s2⟩,s3⟩,s4⟩,p⟩,q⟩:=d;have r:(KR top g ms).lookup m.a=a5 (m.fo top):=G8 c.2 (d7.mpr (.inr (Qs _ (List.mem_flatMap.mpr ⟨m,h,by simp⟩))));have hl:(m.N.take m.fn.np).length=m.fn.np:=by rw[C0];lia
 refine⟨DO r j k,Ce l,λus f=>?_,⟨s1,s2,s3,s4,by rw[hl],λx s=>?_,λy t=>?_⟩,n,hl,o⟩
 ·unfold Me.fd;revert b;cases gh (top m.i) with
  |mk v as w A B kw C =>
   intro b;simp only[G7,cb,Jp,RQ,Ņ]at b;obtain⟨⟨⟨⟨⟨⟨rfl,rfl⟩,rfl⟩,rfl⟩,rfl⟩,rfl⟩,e⟩:=b;rw[<-e]at f ⊢;exact y7 (by rw[e];exact(Í _ _).nodup s4) f
 ·have:=ki.mp p x s;simpa[j4] using this
 ·have:=ki.mp q y t;simpa using this
theorem G9(i:NM ck top (KR top g ms) ms=b8)(X:(KR top g ms).In h)(G:h.Ns i8 mg)(j:m∈ms):Ld ck (KR top g ms) mg m.fn :=
 let ⟨a,b,c,d,e,f,k⟩:=C2 i j
 ⟨_,_,_,_,_,_,a,PySem.W.mg_of X G b,.all c,d,e,f,k⟩
theorem Fe(c:NM ck top (KR top g ms) ms=b8)(X:(KR top g ms).In h)(G:h.Ns i8 mg):∀p∈ck.gl,∃val v,mg p.1=a5 val/\RelV v val/\∀(C:Ct) S H,Rep C S H p.2 v:=by
 intro p d;simp only[NM,cb,Ņ]at c;have z:=ki.mp c.1.2 p d;unfold V6 at z;split at z
 ·rename_i i j k a b;obtain rfl:=ŋ z;exact⟨_,.int i,PySem.W.mg_of X G b,⟨_,rfl⟩,λ_ _ _=>by rw[a];rfl⟩
 ·rename_i i j k a b;obtain rfl:=ŋ z;exact⟨_,.str i,PySem.W.mg_of X G b,⟨_,rfl⟩,λ_ _ _=>by rw[a];rfl⟩
 ·cases z
end
noncomputable def y8(K:PySem.W.Frag)(x:Str):Option eH:=match PySem.W.nsIn K i8 x with|some (a5 (.ref C))=>a5 C|_=>bD
noncomputable def V7(K:PySem.W.Frag)(D:Str):Option d3:=match PySem.W.nsIn K i8 D with|some (a5 (.ref C))=>a5 (.ref C)|some bD=>if D="ValueError" then a5 (.type "ValueError") else bD|_=>bD
noncomputable def gY(ck:Ck)(K:PySem.W.Frag):Bool:=ck.xi.all (λp=>match y8 K p.1,V7 K p.2.1 with|some C,a5 dv=>fU K C&&(PySem.W.kitOne K (.ref C) dv==a5 p.2.2)|_,_=>cc)&&ck.xe.all λp=>match y8 K p.1,y8 K p.2 with|some C,a5 D=>PySem.W.exmOne K (.ref C) (.ref D)==a5 b8|_,_=>cc
theorem jw{K:PySem.W.Frag}(h:y8 K x=a5 C):PySem.W.nsIn K i8 x=a5 (a5 (.ref C)):=by
 unfold y8 at h;split at h
 ·rename_i e;cases h;exact e
 ·cases h
theorem G_{K:PySem.W.Frag}(z:gY ck K=b8)(X:K.In h)(G:h.Ns i8 mg)(D:Str)(g:∃p∈ck.xi,p.2.1=D):∃dv,((∃d,dv=.ref d/\mg D=a5 (.ref d))\/(D="ValueError"/\dv=.type "ValueError"/\mg D=bD))/\∀p∈ck.xi,p.2.1=D->∀C,PySem.W.nsIn K i8 p.1=a5 (a5 (.ref C))->fU K C=b8/\PySem.W.kitOne K (.ref C) dv=a5 p.2.2:=by
 rw[gY,cb,ki]at z;obtain⟨i,j,rfl⟩:=g;have f:=z.1 i j;split at f
 ·rename_i n dv o a;refine⟨dv,?_,λp k e C l=>?_⟩
  ·unfold V7 at a;split at a
   ·rename_i e;cases a;exact .inl ⟨_,rfl,PySem.W.mg_of X G e⟩
   ·rename_i e;split at a
    ·rename_i c;cases a;exact .inr ⟨c,rfl,PySem.W.mg_none_of X G e⟩
    ·cases a
   ·cases a
  ·have b:=z.1 p k;rw[e,a]at b;split at b
   ·rename_i q r c m;cases m;have:=jw c;rw[l]at this;cases this;rw[cb,beq_iff_eq]at b;exact b
   ·cases b
 ·cases f
theorem Ha{K:PySem.W.Frag}(z:gY ck K=b8)(X:K.In h)(G:h.Ns i8 mg)(x:Str)(d:∃p∈ck.xe,p.2=x):∃D,mg x=a5 (.ref D)/\∀cl,(cl,x)∈ck.xe->∀C,PySem.W.nsIn K i8 cl=a5 (a5 (.ref C))->PySem.W.exmOne K (.ref C) (.ref D)=a5 b8:=by
 rw[gY,cb,ki,ki]at z;obtain⟨e,f,rfl⟩:=d;have b:=z.2 e f;split at b
 ·rename_i l D m c;refine⟨D,PySem.W.mg_of X G (jw c),λcl g C i=>?_⟩;have a:=z.2 _ g
  dsimp only at a
  rw[c]at a;split at a
  ·rename_i n o j k;cases k;have:=jw j;rw[i]at this;cases this;exact beq_iff_eq.mp a
  ·cases a
 ·cases b
noncomputable def gX(ck:Ck)(K:PySem.W.Frag):Bool:=ck.xc.all (λx=>match PySem.W.nsIn K i8 x with|some (a5 (.ref C))=>PySem.W.excIn K C Pb "ValueError.__new__"|_=>cc)&&ck.xd.all λp=>match PySem.W.nsIn K i8 p.1,PySem.W.nsIn K i8 p.2 with
 |some (a5 (.ref C)),a5 (a5 (.ref D))=>(PySem.W.exmOne K (.ref C) (.ref C)==a5 b8)&&(PySem.W.kitCls K (.ref C) (.ref D)==a5 b8&&C != D)
 |_,_=>cc
theorem Ff{K:PySem.W.Frag}(z:(gX ck K&&gY ck K)=b8)(X:K.In h)(G:h.Ns i8 mg):OI ck K mg:=by
 rw[cb]at z;obtain⟨z,a⟩:=z;rw[gX,cb,ki,ki]at z;refine⟨λx c=>?_,λp d=>?_,G_ a X G,Ha a X G⟩
 ·have:=z.1 x c;split at this
  ·rename_i e;exact⟨_,PySem.W.mg_of X G e,e,this⟩
  ·cases this
 ·have:=z.2 p d;split at this
  ·rename_i b f;rw[cb,beq_iff_eq]at this;exact⟨_,_,PySem.W.mg_of X G b,b,PySem.W.mg_of X G f,this.1,this.2⟩
  ·cases this
theorem walk{l:PySem.W.OpenLaw}{K:VF->PySem.W.Frag}
  (A:l.most=a5 63) (B:d.params.defaults=[]) (D:fi (dp+1) TX) (I:∀(w:H8) (h:Jy),J w h->(K w.params).In h)
  (j:(Pg.map (·.name)).Nodup) (r:RK ck Pg=b8) (L:fn.io=bD) (O:fn∈Pg) (MH:fn.name=d.name)
  (F:∀(w:H8) (mg:Str->Option d3) (fa:eH) (h:Jy),(K w.params).In h->h.Ns i8 mg->mg d.name=a5 (.ref fa) ->
   (∀y∈bO,mg y=bD)/\(∀p∈ck.gl,∃val v,mg p.1=a5 val/\RelV v val/\∀(C:Ct) S H,Rep C S H p.2 v)/\(∀g∈Pg,Ld ck (K w.params) mg g)/\OI ck (K w.params) mg /\
   ∃(c:Str) (st:Mi) (i:Su) (N:List Str),Nr (K w.params) fn.name c st fa i/\eB N [x] (aQ st)/\N.length=fn.ns/\1=fn.np/\dR ck fn.body N (aQ st) (cU st)=b8/\∀(s:d8) (u:d3),Ç s i ⟨[u],[]⟩ [(x,u)])
  (T:∀ns:List Int,ns.length<=63->I_ Pg (dp+1) fn.name [sF ns]=a5 (.ok (.loc,.bl b8))) :
  PySem.W.WalkO q m XP J l.row.toRowW d [] (λf vs=>PySem.call f vs) :=
 L2.AU (n:=63) (k:=dp+1) (x:=x) (CX:=λw=>NA l.prog w) (sp:=λw=>spT l.prog w (K w.params) (cu (I_ Pg dp) fn) fn.np) A (by decide) B D I
  (λw mg fa h Q G Y=>by
   obtain⟨e,o,ld,xs,c,st,i,N,F1,S,hN,Lf,hc,hb⟩:=F w mg fa h Q G Y;exact⟨i,hb,λbase _ _=>CZ F1 S hN Lf hc e (uM j r e o ld xs dp).1 o (uM j r e o ld xs dp).2 xs⟩)
  (λw H a ns hl _ hS=>by
   have t:=T ns hl;rw[sE j O,nA L]at t;have Y0:fn.np=1:=(pj t).1.symm;exact⟨Y0.symm,[sF ns],.ok (.loc,.bl b8),Kl H,t,λ_ z=>z,⟨_,_,rfl,sG hS,rfl⟩,.inr (.inl rfl),λv H' S' b=>b.loc rfl⟩)
  λ_ _ _ _ _ ⟨_,_,_,_,_,_,z⟩=>z
theorem walk2{l:PySem.W.OpenLaw}{g:VF->Gx}
  (z:l.most=a5 63) (A:d.params.defaults=[]) (B:fi (dp+1) TX) (o:ms.map (·.fn)=Pg) (C:(Pg.map (·.name)).Nodup) (D:RK ck Pg=b8) (p:m.fn.io=bD) (r:m∈ms) (t:m.fn.name=d.name) (H:m.N.take m.fn.np=[x])
  (ok:∀P,NM ck top (KR top (g P) ms) ms=b8) (I:∀P,(gX ck (KR top (g P) ms)&&gY ck (KR top (g P) ms))=b8) (J:∀P,(g P).2.map (·.1)=xa) (T:∀ns:List Int,ns.length<=63->I_ Pg (dp+1) m.fn.name [sF ns]=a5 (.ok (.loc,.bl b8))) :
  PySem.W.WalkO q j O (PySem.W.kHook (λP=>KR top (g P) ms) (adr ms xa) λP=>uO top (g P) ms xa (J P)).says l.row.toRowW d [] (λf vs=>PySem.call f vs) :=
 walk z A B (λw h Y=>PySem.W.kIn_of Y) C D p (o▸js.mpr ⟨m,r,rfl⟩) t (λw mg fa h X G v=>by
  have hk:=ok w.params;obtain⟨a,b,c,e,f,k,n⟩:=C2 hk r;rw[<-t,PySem.W.mg_of X G b]at v;cases v;rw[H]at c e k;refine⟨λy i=>PySem.W.mg_none_of X G (G6 ?_),Fe hk X G,λy i=>?_,Ff (I w.params) X G,_,_,_,_,a,e,f,k,by have:=n.1;rw[show m.fn.bd=m.fn.body by unfold Fn.bd;rw[p]]at this;exact this,λs u=>.of_eq (c [u] rfl)⟩
  ·simp only[NM,cb]at hk;exact ki.mp hk.1.1.2 y i
  ·rw[<-o]at i;obtain⟨Q,L,rfl⟩:=js.mp i;exact G9 hk X G L) T
noncomputable def co(n:Str)(k l c:Nat)(r s:eH)(x y z:d3)(a b t:Nat):Obj:=⟨.type "code",bD,.fields #[.str n k,.str n (k+1),.str "/claim/cut.py" (k+2),.int l 0,.int c 0,.int 0 0,.int 0 0,.int 3 0,.ref r,.bool b8,.int t 0,.ref s,.none,x,y,z,.int a 0,.int l 0,.str "/claim/cut.py" b],#[]⟩
noncomputable def ge(P:VF)(x:Str)(k:Nat)(v:d3):DictEntry:=⟨i1 P x,.str x k,v⟩
end TM
namespace TM
open PySem L2
section
def Run(m:M α)(st:aw)(a:α)(st':aw):Prop:=m st=a5 (.ok a,st')
theorem aa(c:Run m st a st1)(d:Run (f a) st1 b st2):Run (m >>= f) st b st2:=by
 show M.bind m f st=_;unfold M.bind;rw[show m st=_ from c];exact d
theorem aO:Run (pure a:M α) st a st:=rfl
theorem cj(h:o=a5 a):Run (M.Jb o) st a st:=by subst h;rfl
theorem a_(h:bq rs st):Run (aC rs) st () st:=by show aC rs st=_;unfold aC;rw[ņ h]
noncomputable def kv(i:Nat)(k:Kd):Kd:=if k.root=b8 then .bor i else k
theorem dS(h:st[i]?=a5 (a5 (k,u)))(hk:k≠.IK:=by intro z;cases z):Run (dn i) st (kv i k,u) st:=by
 show dn i st=_;unfold dn;rw[h];cases k<;>first|rfl|exact absurd rfl hk
theorem ae(h:st[i]?=a5 (a5 (.loc,u))):Run (ev Γ (.var i)) st (.loc,u) st:=dS h
theorem aU(h:st[i]?=a5 (a5 (.any,u))):Run (ev Γ (.var i)) st (.any,u) st:=dS h
theorem aD(h:st[i]?=a5 (a5 (.own,u))):Run (ev Γ (.var i)) st (.bor i,u) st:=dS h
theorem aj:Run (ev Γ (.cst u)) st (.loc,u) st:=rfl
theorem bF(c:Run (ev Γ a) st x st1)(d:Run (ev Γ b) st1 y st2)(e:bq [x,y] st2)(f:L3 g x y=a5 r):Run (ev Γ (.bin g a b)) st r st2 :=
 aa c (aa d (aa (a_ e) (cj f)))
theorem nE(d:Run (ev Γ a) st x st1)(e:Run (ev Γ b) st1 y st2)(f:bq [x,y] st2)(g:cM h x.2 y.2=a5 c):Run (ev Γ (.cmp h a b)) st (.loc,.bl c) st2 :=
 aa d (aa e (aa (a_ f) (aa (cj g) aO)))
theorem ba(c:Run (ev Γ a) st x st1)(d:Run (ev Γ b) st1 y st2)(e:bq [x,y] st2)(f:iH x y.2=a5 r):Run (ev Γ (.idx a b)) st r st2 :=
 aa c (aa d (aa (a_ e) (cj f)))
theorem uP:Run (Ow Γ []) st bD st:=rfl
theorem nF(h:Run (ev Γ e) st (k,.int i) st1):Run (Ow Γ [e]) st (a5 i) st1:=aa h rfl
theorem qH(c:Run (ev Γ a) st x st1)(d:Run (Ow Γ lo) st1 l st2)(e:Run (Ow Γ f) st2 h b)(g:bq [x] b)(i:qq x l h=a5 r):Run (ev Γ (.M9 a lo f)) st r b :=
 aa c (aa d (aa e (aa (a_ g) (cj i))))
theorem ai:Run (bp Γ []) st [] st:=rfl
theorem af(a:Run (ev Γ e) st r st1)(b:Run (bp Γ es) st1 rs st2):Run (bp Γ (e::es)) st (r::rs) st2:=aa a (aa b aO)
theorem cC(a:Run (bp Γ es) st rs st1)(b:bq rs st1)(c:KO f rs=a5 r):Run (ev Γ (.bi f es)) st r st1:=aa a (aa (a_ b) (cj c))
theorem y9(a:Run (bp Γ es) st rs st1)(b:bq rs st1)(c:rU f rs=a5 r):Run (ev Γ (.M_ f es)) st r st1:=aa a (aa (a_ b) (cj c))
theorem y_(b:Run (ev Γ a) st x st1)(c:Run (bp Γ es) st1 rs st2)(d:bq (x::rs) st2)(e:mE m x.2 rs=a5 r):Run (ev Γ (.NF m a es)) st r st2:=aa b (aa c (aa (a_ d) (cj e)))
theorem uQ(h:Γ f us=a5 (.ok r))(a:isAny r.1=cc):Run (la Γ f us) st r st:=by
 obtain⟨k,u⟩:=r;show la Γ f us st=_;unfold la;rw[h];cases k<;>first|rfl|cases a
theorem bj(a:Run (bp Γ es) st rs st1)(b:bq rs st1)(c:Γ f (rs.map (·.2))=a5 (.ok r))(d:isAny r.1=cc:=by exact rfl):Run (ev Γ (.call f es)) st r st1:=aa a (aa (a_ b) (uQ c d))
theorem lG(a:Run (bp Γ es) st rs st1)(b:bq rs st1)(c:Run (cX rs) st1 us st2)(d:us.length<=cL):Run (ev Γ (.tup es)) st (.loc,.tup us) st2:=by
 refine aa a (aa (a_ b) (aa c ?_));rw[ņ d];exact aO
theorem bV(a:Run (bp Γ es) st rs st1)(b:bq rs st1)(c:Run (cX rs) st1 us st2)(d:us.length<=cL):Run (ev Γ (.lst es)) st (.own,.lst us) st2:=by
 refine aa a (aa (a_ b) (aa c ?_));rw[ņ d];exact aO
theorem lH:Run (ev Γ (.KN r)) st (.own,.IM [] []) st:=rfl
theorem za:Run (lift (.own,u)) st u st:=rfl
theorem aG:Run (lift (.loc,u)) st u st:=rfl
theorem qI(h:Jl u=b8):Run (lift (.any,u)) st u st:=by
 show(if Jl u=b8 then(pure u:M U) else M.fail) st=_;rw[ņ h];rfl
theorem aI:Run (cX []) st [] st:=rfl
theorem aA(a:Run (lift r) st u st1)(b:Run (cX rs) st1 us st2):Run (cX (r::rs)) st (u::us) st2:=aa a (aa b aO)
theorem zb(d:Run (Jh Γ c) st b8 st1)(e:Run (ev Γ a) st1 r st2):Run (ev Γ (.ite c a b)) st r st2:=aa d e
theorem zc(d:Run (Jh Γ c) st cc st1)(e:Run (ev Γ b) st1 r st2):Run (ev Γ (.ite c a b)) st r st2:=aa d e
theorem Fg(h:Run (ev Γ e) st r st1):Run (iL Γ [e]) st r st1:=h
theorem Fh(h:Run (ev Γ e) st (k,.bl p) st1)(a:if p=b8 then Run (iL Γ (b::es)) st1 r st2 else st2=st1/\r=(.loc,.bl cc)):Run (iL Γ (e::b::es)) st r st2:=by
 refine aa h ?_;cases p with
 |true=>exact a
 |false=>obtain⟨rfl,rfl⟩:=a;exact aO
theorem Hb(h:Run (iL Γ es) st r st1):Run (ev Γ (.and es)) st r st1:=h
theorem aN(d:Run (ev Γ a) st x st1)(e:Run (ev Γ b) st1 y st2)(f:bq [x,y] st2)(g:cM h x.2 y.2=a5 c):Run (Jh Γ (.cmp h a b)) st c st2:=aa d (aa e (aa (a_ f) (cj g)))
theorem jN(h:Run (Jh Γ a) st c st1):Run (Jh Γ (.not a)) st (!c) st1:=aa h aO
theorem gR(h:Run (bf Γ es) st c st1):Run (Jh Γ (.and es)) st c st1:=h
theorem Fi(h:Run (jJ Γ es) st c st1):Run (Jh Γ (.or es)) st c st1:=h
theorem nG:Run (bf Γ []) st b8 st:=rfl
theorem c7(h:Run (Jh Γ e) st c st1):Run (bf Γ [e]) st c st1:=h
theorem lI(h:Run (Jh Γ e) st b8 st1)(a:Run (bf Γ (b::es)) st1 c st2):Run (bf Γ (e::b::es)) st c st2:=aa h a
theorem sH(h:Run (Jh Γ e) st cc st1):Run (bf Γ (e::a::es)) st cc st1:=aa h aO
theorem zd(h:Run (Jh Γ e) st c st1):Run (jJ Γ [e]) st c st1:=h
theorem ze(h:Run (Jh Γ e) st cc st1)(a:Run (jJ Γ (b::es)) st1 c st2):Run (jJ Γ (e::b::es)) st c st2:=aa h a
theorem aY:Run (dB i (.own,u)) st () (st.set i (a5 (.own,u))):=rfl
theorem aF:Run (dB i (.loc,u)) st () (st.set i (a5 (.loc,u))):=rfl
theorem jO:Run (dB i (.any,u)) st () (st.set i (a5 (.any,u))):=rfl
theorem Hc(a:Run (ev Γ e) st r st1)(b:Run (dB i r) st1 () st2):Run (exec Γ (.set i e)) st .nx st2:=aa a (aa b aO)
theorem Hd(b:∃k' c,st[i]?=a5 (a5 (k',.lst c))/\k'≠.IK)(d:Run (ev Γ e) st r st1)(f:Run (lift r) st1 u st2)(g:st2[i]?=a5 (a5 (k,.lst us)))(hk:k.root=b8)(hl:us.length<cL):
  Run (exec Γ (.app i e)) st .nx (st2.set i (a5 (k,.lst (us++[u])))):=by
 obtain⟨k',c,b,h⟩:=b;refine aa (dS b h) (aa (a:=()) (st1:=st) rfl (aa d (aa f (aa (a:=()) ?_ aO))));show modS i (yo u) st2=_;unfold modS;rw[g];simp only[hk,if_true];have e:yo u (.lst us)=a5 (.lst (us++[u])):=by show(if us.length<cL then _ else _)=_;rw[ņ hl]
 rw[e]
theorem He(a:Run (ev Γ e) st r st1)(b:Run (retS r) st1 f st2):Run (exec Γ (.ret e)) st f st2:=aa a b
theorem gS:Run (retS (.own,u)) st (.rt .own u) st:=rfl
theorem dU:Run (retS (.loc,u)) st (.rt .loc u) st:=rfl
theorem iU(h:st[j]?=a5 (a5 (.own,u))):Run (retS (.bor j,a)) st (.rt .own u) (st.set j bD):=by
 show(match st[j]? with|some (a5 (.own,u))=>a5 (Ex.ok (Fl.rt .own u),st.set j bD)|_=>bD)=_;rw[h]
theorem jx(d:Run (Jh Γ c) st b8 st1)(e:Run (execs Γ a) st1 f st2):Run (exec Γ (.ite c a b)) st f st2:=aa d e
theorem sI(d:Run (Jh Γ c) st cc st1)(e:Run (execs Γ b) st1 f st2):Run (exec Γ (.ite c a b)) st f st2:=aa d e
theorem av:Run (execs Γ []) st .nx st:=rfl
theorem gb(a:Run (exec Γ s) st .nx st1)(b:Run (execs Γ ss) st1 f st2):Run (execs Γ (s::ss)) st f st2:=aa a b
theorem qJ(a:Run (exec Γ s) st (.rt k u) st1):Run (execs Γ (s::ss)) st (.rt k u) st1:=aa a aO
theorem ax(a:Run (ev Γ e) st r st1)(b:Run (dB i r) st1 () st2)(c:Run (execs Γ ss) st2 f d):Run (execs Γ (.set i e::ss)) st f d:=gb (Hc a b) c
theorem e_(a:st[i]?=a5 (a5 (k',.lst l)))(b:Run (ev Γ e) st r st1)(c:Run (lift r) st1 u st2)(d:st2[i]?=a5 (a5 (k,.lst us)))(hk:k.root=b8)(hl:us.length<cL)
  (g:Run (execs Γ ss) (st2.set i (a5 (k,.lst (us++[u])))) f h) (j:k'≠.IK:=by intro z;cases z):Run (execs Γ (.app i e::ss)) st f h:=gb (Hd ⟨_,_,a,j⟩ b c d hk hl) g
theorem bG(a:Run (ev Γ e) st r st1)(b:Run (retS r) st1 (.rt k u) st2):Run (execs Γ (.ret e::ss)) st (.rt k u) st2:=qJ (He a b)
theorem dW(d:Run (Jh Γ c) st b8 st1)(e:Run (execs Γ a) st1 .nx st2)(g:Run (execs Γ ss) st2 f h):Run (execs Γ (.ite c a b::ss)) st f h:=gb (jx d e) g
theorem aV(d:Run (Jh Γ c) st cc st1)(e:Run (execs Γ b) st1 .nx st2)(g:Run (execs Γ ss) st2 f h):Run (execs Γ (.ite c a b::ss)) st f h:=gb (sI d e) g
theorem fC(d:Run (Jh Γ c) st b8 st1)(e:Run (execs Γ a) st1 (.rt k u) st2):Run (execs Γ (.ite c a b::ss)) st (.rt k u) st2:=qJ (jx d e)
theorem C3(a:Run (bp Γ src) st rs st1)(b:bq rs st1)(c:K' d rs=a5 xs)(e:ub rs is body=b8)(g:Run (forM t is (execs Γ body) rs xs) st1 f st2):
  Run (exec Γ (.Ji t is d src body)) st f st2:=by
 refine aa a (aa (a_ b) (aa (cj c) ?_));rw[ņ e];exact g
theorem cF(a:Run (bp Γ src) st rs st1)(b:bq rs st1)(c:K' d rs=a5 xs)(e:ub rs is body=b8)(g:Run (forM t is (execs Γ body) rs xs) st1 .nx st2)(h:Run (execs Γ ss) st2 f i):
  Run (execs Γ (.Ji t is d src body::ss)) st f i:=gb (C3 a b c e g) h
theorem C4(h:bq rs st):Run (forM t is body rs []) st .nx st:=aa (a_ h) aO
theorem Hf(h:bq rs st)(a:Run (dC t is x) st () st1)(b:Run body st1 .nx st2)(c:Run (forM t is body rs xs) st2 f d):Run (forM t is body rs (x::xs)) st f d:=aa (a_ h) (aa a (aa b c))
theorem IF(h:bq rs st)(a:Run (dC t is x) st () st1)(b:Run body st1 (.rt k u) st2):Run (forM t is body rs (x::xs)) st (.rt k u) st2:=aa (a_ h) (aa a (aa b aO))
theorem fD(h:Run (dB i r) st () st1):Run (dC cc [i] r) st () st1:=h
theorem bb(a:us.length=fn.np)(hk:k=.own\/k=.loc)(hs:start us fn.ns=st0)(h:Run (execs Γ fn.body) st0 (.rt k u) st):cu Γ fn us=a5 (.ok (k,u)):=by
 subst hs;unfold cu;rw[ņ a,show execs Γ fn.body (start us fn.ns)=_ from h];rcases hk with rfl|rfl<;>rfl
theorem uR{cond:M Bool}(h:bq src st):Run (b_ k t cond elt src [] acc) st acc st:=aa (a_ h) aO
theorem pk{cond:M Bool}(h:bq src st)(c:Run (dC t (hJ k) x) (i5 k bD++st) () s1)(d:Run cond s1 b8 s2)(e:Run elt s2 r s3)(g:Run (lift r) s3 u s4)
  (hl:acc.length<cL) (i:Run (b_ k t cond elt src xs (acc++[u])) (s4.drop k) us st2):Run (b_ k t cond elt src (x::xs) acc) st us st2:=by
 refine aa (a_ h) (aa (a:=a5 u) (st1:=s4.drop k) ?_ ?_)
 ·show inScope k _ st=_;unfold inScope;have j:Run (dC t (hJ k) x >>= λ_=>cond >>= λb=>if b=b8 then(elt >>= λr=>lift r >>= λu=>pure (a5 u)) else pure bD) (i5 k bD++st) (a5 u) s4 :=
   aa c (aa d (show Run (elt >>= λr=>lift r >>= λu=>pure (a5 u)) s2 (a5 u) s4 from aa e (aa (f:=λu=>pure (a5 u)) g rfl)))
  rw[show _=_ from j]
 ·show Run (if acc.length<cL then b_ k t cond elt src xs (acc++[u]) else M.fail) _ _ _;rw[ņ hl];exact i
theorem zf{cond:M Bool}(h:bq src st)(c:Run (dC t (hJ k) x) (i5 k bD++st) () s1)(d:Run cond s1 cc s2)
  (e:Run (b_ k t cond elt src xs acc) (s2.drop k) us st2):Run (b_ k t cond elt src (x::xs) acc) st us st2:=by
 refine aa (a_ h) (aa (a:=bD) (st1:=s2.drop k) ?_ e);show inScope k _ st=_;unfold inScope;have f:Run (dC t (hJ k) x >>= λ_=>cond >>= λb=>if b=b8 then(elt >>= λr=>lift r >>= λu=>pure (a5 u)) else pure bD) (i5 k bD++st) bD s2 :=
  aa c (aa d (show Run (pure bD:M (Option U)) s2 bD s2 from rfl))
 rw[show _=_ from f]
theorem dX{src cond:List E}(a:Run (bp Γ src) st rs st1)(b:bq rs st1)(c:K' d rs=a5 xs)(f:Run (b_ k t (bf Γ cond) (ev Γ e) rs xs []) st1 us st2):Run (ev Γ (.comp k t d src cond e)) st (.own,.lst us) st2 :=
 aa a (aa (a_ b) (aa (cj c) (aa f aO)))
end
section
theorem sJ(c:Run (bp Γ es) st rs st1)(d:bq (rs.map (d0 st1)) st1)(e:Γ f ((rs.map (d0 st1)).map (·.2))=a5 (.ok (k,.tup (u::ws))))(hk:k=.own\/k=.loc)(a:qr (rs.map (d0 st1)) is=b8)(b:gP (rs.map (d0 st1)) is ws st1=a5 st2):
  Run (ev Γ (.IT f es is)) st (k,u) st2:=by
 have g:Run (bp Γ es >>= Bj) st (rs.map (d0 st1)) st1:=aa c (show Run (Bj rs) st1 (rs.map (d0 st1)) st1 from rfl);refine aa g (aa (a_ d) ?_);show qt Γ f _ is st1=_;unfold qt;rw[e];rcases hk with rfl|rfl
 ·show(if _ then _ else _)=_;rw[ņ a,b]
 ·show(if _ then _ else _)=_;rw[ņ a,b]
theorem Hg(h:st[i]?=a5 (a5 (k,.lst us)))(hk:k.root=b8)(a:us[us.length - 1]?=a5 u):Run (ev Γ (.pop i)) st (.loc,u) (st.set i (a5 (k,.lst us.dropLast))):=by
 show yk i st=_;unfold yk;rw[h];show(if _ then _ else _)=_;rw[ņ hk,a]
theorem Fj(b:st[i]?=a5 (a5 (k0,.lst us0)))(c:k0≠.IK)(d:Run (ev Γ e) st (l,.int j) st1)(h:st1[i]?=a5 (a5 (k,.lst us)))(hk:k.root=b8)(j0:0<=j)(f:j<1000000)(g:us[j.toNat]?=a5 u):Run (ev Γ (.Lx i e)) st (.loc,u) (st1.set i (a5 (k,.lst (us.eraseIdx j.toNat)))):=by
 refine aa (dS b c) (aa (a:=()) (st1:=st) rfl (aa d ?_));show vY i (.int j) st1=_;unfold vY
 dsimp only
 rw[h];show(if _ then _ else _)=_;rw[ņ ⟨hk,j0,f⟩,g]
theorem cp(a:us.length=fn.np)(hs:cY is us fn.ns=st0)(h:Run (execs Γ body) st0 f st)(b:Rp f=a5 (k,u))(c:Ox is st=a5 ws):gF Γ fn is body us=a5 (.ok (k,.tup (u::ws))):=by
 subst hs;unfold gF;rw[ņ a,show execs Γ body (cY is us fn.ns)=_ from h];show(Rp f).bind _=_;rw[b];show(Ox is st).map _=_;rw[c];rfl
end
def Ju(Pg:List Fn)(f:Str)(fn:Fn):Prop:=(Pg.find? λg=>cK (g.name=f))=a5 fn
section
theorem aJ(h:Ju Pg f fn)(us:List U)(a:fn.io=bD:=by rfl):I_ Pg (d+1) f us=cu (I_ Pg d) fn us:=by
 show(match Pg.find? λg=>cK (g.name=f) with|some fn=>jo (I_ Pg d) fn us|none=>bD)=_;rw[show _=a5 fn from h];show jo _ _ _=_;unfold jo;rw[a]
theorem cS(h:Ju Pg f fn)(us:List U)(a:fn.io=a5 (is,b)):I_ Pg (d+1) f us=gF (I_ Pg d) fn is b us:=by
 show(match Pg.find? λg=>cK (g.name=f) with|some fn=>jo (I_ Pg d) fn us|none=>bD)=_;rw[show _=a5 fn from h];show jo _ _ _=_;unfold jo;rw[a]
end
theorem eG(h:0<j):L3 .mod (k,.int i) (k',.int j)=a5 (.loc,.int (i % j)):=by show(Bd i j).map _=_;rw[Bd,ņ h];rfl
theorem lJ(h:0<j/\j<1073741824):L3 .Oo (k,.int i) (k',.int j)=a5 (.loc,.int (i / j)):=by show(Bc i j).map _=_;rw[Bc,ņ h];rfl
theorem kG(h:(-(2 ^ 64)<i/\i<2 ^ 64)\/(-(2 ^ 64)<j/\j<2 ^ 64)):L3 .mul (k,.int i) (k',.int j)=a5 (.loc,.int (i * j)):=by show(Bb i j).map _=_;rw[Bb,ņ h];rfl
theorem om(h:0<=j/\j<=1000000/\i.natAbs<2 ^ 64):L3 .pow (k,.int i) (k',.int j)=a5 (.loc,.int (i ^ j.toNat)):=by show(Be i j).map _=_;rw[Be,ņ h];rfl
theorem cA:L3 .add (k,.int i) (k',.int j)=a5 (.loc,.int (i+j)):=rfl
theorem bZ(h:JP xs i=a5 u):iH (k,.lst xs) (.int i)=a5 (kE k,u):=by show(JP xs i).map _=_;rw[h];rfl
theorem dI(h:JP xs i=a5 u):iH (k,.tup xs) (.int i)=a5 (kE k,u):=by show(JP xs i).map _=_;rw[h];rfl
local macro_rules
 |`(tactic| sizeOf_list_dec)=>`(tactic| first|exact av|apply ax|apply e_|apply bG|exact aj|exact ae rfl|exact aU rfl|exact aD rfl|apply bF|apply nE|apply ba|apply cC|apply bj|apply y_|apply aN|exact ai|apply af|apply lG|apply bV|exact aI|apply aA|exact aG|exact za|(first|exact trivial|exact⟨⟨_,rfl,rfl⟩,trivial⟩|exact⟨⟨_,rfl,rfl⟩,⟨_,rfl,rfl⟩,trivial⟩)|exact cA|exact rn|exact eG (by first|lia|decide)|exact lJ (by first|lia|decide)|exact kG (by first|lia|decide)|exact om (by decide)|exact aF|exact aY|exact jO|exact dU|exact gS|exact iU rfl|exact lg _|exact rfl|exact Nf)
theorem Hh(h:cK (i<j)=c):cM .lt (.int i) (.int j)=a5 c:=by subst h;rfl
theorem jP(h:cK (j<i)=c):cM .gt (.int i) (.int j)=a5 c:=by subst h;rfl
theorem cq(h:(i==j)=c):cM .eq (.int i) (.int j)=a5 c:=by subst h;rfl
theorem cm:KO .len [(k,.lst xs)]=a5 (.loc,.int (xs.length:Nat)):=rfl
theorem km:KO .len [(k,.tup xs)]=a5 (.loc,.int (xs.length:Nat)):=rfl
theorem zg(x:Kd×U):K' .JT [x]=yi x:=rfl
theorem ig(h:n<2 ^ 62):K' .JT [(k,.int (n:Nat))]=a5 ((hJ n).map λi:Nat=>(Kd.loc,U.int (0+(i:Int)))):=by
 rw[zg,yi,ņ ⋯,P9]
end TM
local macro_rules
 |`(tactic| sizeOf_list_dec)=>`(tactic| first|exact TM.av|apply TM.ax|apply TM.e_|apply TM.bG|exact TM.aj|exact TM.ae rfl|exact TM.aU rfl|exact TM.aD rfl|apply TM.bF|apply TM.nE|apply TM.ba|apply TM.cC|apply TM.bj|apply TM.y_|apply TM.aN|exact TM.ai|apply TM.af|apply TM.lG|apply TM.bV|exact TM.aI|apply TM.aA|exact TM.aG|exact TM.za|(first|exact trivial|exact⟨⟨_,rfl,rfl⟩,trivial⟩|exact⟨⟨_,rfl,rfl⟩,⟨_,rfl,rfl⟩,trivial⟩)|exact TM.cA|exact TM.rn|exact TM.eG (by first|lia|decide)|exact TM.lJ (by first|lia|decide)|exact TM.kG (by first|lia|decide)|exact TM.om (by decide)|exact TM.aF|exact TM.aY|exact TM.jO|exact TM.dU|exact TM.gS|exact TM.iU rfl|exact lg _|exact rfl|exact TM.Nf)
namespace Jt
open PySem L2
theorem len_list(x:Str):x.length=x.cps.toList.length:=by simp[ļ]
theorem wG(a:0<=k)(b:k<=99):(xF k).length<=2:=by
 obtain⟨m,rfl⟩:=uk a;have c:m<100:=by lia
 clear a b;revert m;decide +kernel
theorem fJ:∀(ps:List Str) (acc:Array Nat),(ps.foldl (λacc p=>acc++oT.cps++p.cps) acc).toList=acc.toList++(ps.map λp=>p.cps.toList).flatten
 |[],acc=>by simp
 |p::ps,acc=>by
  rw[Tj,fJ ps];have:oT.cps=#[]:=rfl;simp[this]
theorem join_list(ts:List Str):(TY oT ts).cps.toList=(ts.map λp=>p.cps.toList).flatten:=by
 cases ts with
 |nil=>rfl
 |cons t ts =>
  show(ts.foldl (λacc p=>acc++oT.cps++p.cps) t.cps).toList=_;rw[fJ];simp
noncomputable def one(c:Nat):Str:=⟨#[c]⟩
theorem join_ones(a:List Nat):(TY oT (a.map one)).cps.toList=a:=by
 rw[join_list,kj];induction a with
 |nil=>rfl
 |cons c a b=>rw[et,Vh,b];rfl
theorem qK(a:List Nat)(h:a.length<=100):þ oT (a.map one)=b8:=by
 unfold þ;have e:=PySem.StrLaws.joinTotal oT (a.map one);have b:oT.length=0:=rfl;have es:((a.map one).map (·.length)).sum=a.length:=by
  rw[kj];clear h e;induction a with
  |nil=>rfl
  |cons c a d=>rw[et,List.sum_cons,d];show 1+a.length=a.length+1;lia
 rw[e,b,es];have f:a.length+(a.map one).length * 0<=100:=by lia
 revert f;generalize a.length+(a.map one).length * 0=m;revert m;decide
theorem Fm(x:Str)(j:Nat):(PySem.StrLaws.sliceText x bD (a5 (j:Int))).cps.toList=x.cps.toList.take j:=by
 by_cases h:j<=x.cps.toList.length
 ·rw[PySem.StrLaws.sliceText_to (x:=x) ⟨⋯,⋯⟩];simp
 ·have e:PySem.StrLaws.sliceText x bD (a5 (j:Int))=PySem.StrLaws.sliceText x bD (a5 (x.length:Int)):=by
   unfold PySem.StrLaws.sliceText;have hl:=len_list x;have:PySem.Builtin.Str.strSliceIndices bD (a5 (j:Int)) 1 x.length=PySem.Builtin.Str.strSliceIndices bD (a5 (x.length:Int)) 1 x.length:=by
    have a:¬((j:Int)<0):=by lia
    have b:¬((x.length:Int)<0):=by lia
    have c:min (j:Int) (x.length:Int)=x.length:=by lia
    simp[PySem.Builtin.Str.strSliceIndices,a,b,c]
   rw[this]
  have hl:=len_list x;rw[e,PySem.StrLaws.sliceText_to (x:=x) ⟨⋯,⋯⟩,List.drop_zero,Nh (l:=x.cps.toList) (i:=j) ⋯];show(x.cps.toList.take ((x.length:Int) - 0).toNat).toArray.toList=_;rw[Nh ⋯]
noncomputable def small:Str:="abcdefghijklmnopqrstuvwxyz"
theorem iV [DecidableEq α]:∀{l m:List α},l.Nodup->(∀x∈l,x∈m)->l.length<=m.length
 |[],_,_,_=>lg _
 |x::l,m,c,h=>by
  obtain⟨d,e⟩:=mx.mp c;have a:=h x mN;have f:=iV (l:=l) (m:=m.erase x) e λy b=>(Zu (by rintro rfl;exact d b)).mpr (h y (l0 _ b));rw[XN a]at f;have:0<m.length:=Yt a;rw[ke];lia
end Jt
namespace TM
open PySem L2 Jt
theorem oy(a:x.length<=cL)(h:JP x.cps.toList i=a5 c):iH (k,.str x) (.int i)=a5 (.loc,.str (Jt.one c)):=by
 simp only[iH];rw[ņ a,h];rfl
theorem qL:small.length<=cL:=by decide
theorem dG:∀(ss:List Str),strsOf (ss.map U.str)=a5 ss
 |[]=>rfl
 |s::ss=>by show(strsOf (ss.map U.str)).map (s::·)=_;rw[dG ss];rfl
section
theorem pq(h:x.length+y.length<=cL):L3 .add (k,.str x) (k',.str y)=a5 (.loc,.str (x++y)):=by
 simp only[L3,yh];rw[ņ h]
theorem gA:∀(ss:List Str) (n:Nat),eL n (ss.map U.str)=b8
 |[],n=>by simp[eL]
 |s::ss,n=>by simp only[et,eL,gA ss n,Ć];cases n<;>rfl
theorem qM(x:Str):∀(ss:List Str),((ss.map U.str).any λy=>cE y (.str x))=cK (x∈ss)
 |[]=>by simp
 |s::ss=>by
  rw[et,UH,qM x ss];have:cE (.str s) (.str x)=cK (x=s):=by
   simp only[cE];by_cases h:x=s
   ·subst h;simp
   ·have h':s≠x:=λz=>h z.symm;simp[h,h']
  rw[this,Kk];simp
theorem Cg(x:Str)(ss:List Str):Ov (.str x) (ss.map U.str)=a5 (cK (x∈ss)):=by
 unfold Ov;rw[ņ ⟨by rfl,gA ss 50⟩,qM]
theorem fb{ss:List Str}:cM .I0 (.str x) (.lst (ss.map U.str))=a5 (cK (x∉ss)):=by
 show(Ov (.str x) (ss.map U.str)).map (!·)=_;rw[Cg];simp
end
section
end
theorem gc(h:Run (ev Γ j) st rv st1)(l:st1[i]?=a5 (a5 (k',u')))(m:Run (ev Γ n) st1 rk st2)(o:Run (cX [rv,rk]) st2 [c,d] b)(p:b[i]?=a5 (a5 (k,e)))(hk:k.root=b8)(q:d9 d c e=a5 g)
  (r:Run (execs Γ ss) (b.set i (a5 (k,g))) f s) (t:k'≠.IK:=by intro z;cases z):Run (execs Γ (.put i n j::ss)) st f s:=by
 refine gb (aa h (aa (dS l t) (aa m (aa o (aa (a:=()) (st1:=b.set i (a5 (k,g))) ?_ aO))))) r;show modS i (ua [c,d]) b=_;unfold modS;rw[p];simp only[hk,if_true];show(match d9 d c e with|some u'=>_|none=>bD)=_;rw[q]
abbrev Row:=Str×List Str
noncomputable def B'(r:Row):U:=.tup [.str r.1,.tup (r.2.map .str)]
noncomputable def keyOf(r:Row):Row:=(r.1,aB r.2)
theorem sorted_strs(h:ss.length<64):KO .sorted [(k,.tup (ss.map .str))]=a5 (.own,.lst ((aB ss).map .str)):=by
 show(strsOf (ss.map U.str)).bind _=_;rw[dG];show(if ss.length<64 then _ else _)=_;rw[ņ h]
structure nI(names:List Str)(r:Row):Prop where
 word:r.1∈names
 MY:r.2.length<=8
 once:r.2.Nodup
 told:∀x∈r.2,x∈names
section
theorem nJ(h:Run (execs Γ (a++ss)) st f st2):(∃s1,Run (execs Γ a) st .nx s1/\Run (execs Γ ss) s1 f st2)\/(Run (execs Γ a) st f st2/\f≠.nx):=by
 induction a generalizing st with
 |nil=>exact .inl ⟨st,av,h⟩
 |cons s a i =>
  have h':M.bind (exec Γ s) (λf=>match f with|.nx=>execs Γ (a++ss)|f=>pure f) st=a5 (.ok f,st2):=h;unfold M.bind at h';cases e:exec Γ s st with
  |none=>rw[e]at h';cases h'
  |some p =>
   obtain⟨x,s1⟩:=p;rw[e]at h';cases x with
   |exc c=>cases h'
   |ok g =>
    cases g with
    |nx =>
     rcases i h' with⟨s2,b,d⟩|⟨b,d⟩
     ·exact .inl ⟨s2,gb e b,d⟩
     ·exact .inr ⟨gb e b,d⟩
    |rt k u=>cases h';exact .inr ⟨qJ e,λz=>nomatch z⟩
    |bk=>cases h';exact .inr ⟨aa (show Run (exec Γ s) st Fl.bk _ from e) aO,λz=>nomatch z⟩
    |ct=>cases h';exact .inr ⟨aa (show Run (exec Γ s) st Fl.ct _ from e) aO,λz=>nomatch z⟩
theorem Hi(a:Run (exec Γ s) st f st1)(b:f≠.nx):Run (execs Γ (s::ss)) st f st1:=by
 cases f with
 |nx=>exact absurd rfl b
 |rt k u=>exact qJ a
 |_=>exact aa a aO
theorem pv(g:Run (Jh Γ c) st p st1)(h:p=b8->Run (execs Γ (a++ss)) st1 f st2)(i:p=cc->Run (execs Γ (b++ss)) st1 f st2):Run (execs Γ (.ite c a b::ss)) st f st2:=by
 cases p with
 |true =>
  rcases nJ (h rfl) with⟨s1,d,e⟩|⟨d,e⟩
  ·exact gb (jx g d) e
  ·exact Hi (jx g d) e
 |false =>
  rcases nJ (i rfl) with⟨s1,d,e⟩|⟨d,e⟩
  ·exact gb (sI g d) e
  ·exact Hi (sI g d) e
theorem Fo(h:Run (ev Γ e) st (k,.bl p) st)(a:p=b8->Run (iL Γ (b::es)) st (.loc,.bl q) st):Run (iL Γ (e::b::es)) st (.loc,.bl (p&&q)) st:=by
 refine Fh h ?_;cases p with
 |true=>rw[ņ rfl];exact a rfl
 |false=>rw[Ň i7];exact⟨rfl,rfl⟩
theorem lK(h:Run (Jh Γ e) st p st)(a:p=b8->Run (bf Γ (b::es)) st q st):Run (bf Γ (e::b::es)) st (p&&q) st:=by
 cases p with
 |true=>exact lI h (a rfl)
 |false=>exact sH h
theorem lL{cond:M Bool}(h:bq src st)(k:Kd)(hk:k=.loc\/k=.any)(a g:α->U)(c:Kd)(d:∀y,Run cond (a5 (k,a y)::st) b8 (a5 (k,a y)::st)):∀(b:List α) (acc:List U),acc.length+b.length<=cL ->
  (∀y∈b,Run elt (a5 (k,a y)::st) (c,g y) (a5 (k,a y)::st)/\Run (lift (c,g y)) (a5 (k,a y)::st) (g y) (a5 (k,a y)::st))->Run (b_ 1 cc cond elt src (b.map λy=>(k,a y)) acc) st (acc++b.map g) st
 |[],acc,_,_=>by rw[Jz,Jz,tj];exact uR h
 |y::b,acc,hl,e=>by
  obtain⟨f,i⟩:=e y (by simp);rw[ke]at hl;refine pk (s1:=a5 (k,a y)::st) (s2:=a5 (k,a y)::st) (s3:=a5 (k,a y)::st) (s4:=a5 (k,a y)::st) h ?_ (d y) f i ⋯ ?_
  ·rcases hk with rfl|rfl
   ·exact fD aF
   ·exact fD jO
  ·have:=lL h k hk a g c d b (acc++[g y]) (by simp;lia) λz hz=>e z (by simp[hz]);rw[et];simpa using this
theorem jy{cond:M Bool}(h:bq src st)(k:Kd)(hk:k=.loc\/k=.any)(a g:α->U)(p:α->Bool)(d:Kd):∀(b:List α) (acc:List U),acc.length+b.length<=cL ->
  (∀y∈b,Run cond (a5 (k,a y)::st) (p y) (a5 (k,a y)::st)/\(p y=b8->Run elt (a5 (k,a y)::st) (d,g y) (a5 (k,a y)::st)/\Run (lift (d,g y)) (a5 (k,a y)::st) (g y) (a5 (k,a y)::st)))->Run (b_ 1 cc cond elt src (b.map λy=>(k,a y)) acc) st (acc++(b.filter p).map g) st
 |[],acc,_,_=>by rw[Jz,NP,Jz,tj];exact uR h
 |y::b,acc,hl,f=>by
  obtain⟨e,j⟩:=f y (by simp);rw[ke]at hl;have i:Run (dC cc (hJ 1) (k,a y)) (i5 1 bD++st) () (a5 (k,a y)::st):=by
   rcases hk with rfl|rfl
   ·exact fD aF
   ·exact fD jO
  cases c:p y with
  |true =>
   rw[c]at e;obtain⟨l,m⟩:=j c;refine pk (s1:=a5 (k,a y)::st) (s2:=a5 (k,a y)::st) (s3:=a5 (k,a y)::st) (s4:=a5 (k,a y)::st) h i e l m ⋯ ?_;have:=jy h k hk a g p d b (acc++[g y]) (by simp;lia) λz hz=>f z (by simp[hz]);rw[vu,ņ c,et];simpa using this
  |false =>
   rw[c]at e;refine zf (s1:=a5 (k,a y)::st) (s2:=a5 (k,a y)::st) h i e ?_;have:=jy h k hk a g p d b acc ⋯ λz hz=>f z (by simp[hz]);rw[vu,Ň (by simp[c])];exact this
theorem bL(it:α->Kd×U)(I:List α->List α->aw->Prop)(hs:∀d r st,I d r st->bq rs st)
  (Þ:∀d y r st,I d (y::r) st->∃st1 st2,Run (dC t is (it y)) st () st1/\Run body st1 .nx st2/\I (d++[y]) r st2):∀(r d:List α) (st:aw),I d r st->∃st',Run (forM t is body rs (r.map it)) st .nx st'/\I (d++r) [] st'
 |[],d,st,h=>⟨st,C4 (hs _ _ _ h),by rw[tj];exact h⟩
 |y::r,d,st,h=>by
  obtain⟨s1,s2,a,b,c⟩:=Þ d y r st h;obtain⟨s3,e,f⟩:=bL it I hs Þ r (d++[y]) s2 c;exact⟨s3,Hf (hs _ _ _ h) a b e,by simpa using f⟩
theorem pw(a:Run (bp Γ es) st rs st1)(c:bq rs st1)(d:Γ f (rs.map (·.2))=a5 (.ok r))(e:vX r.2=a5 b)(g:isAny r.1=cc:=by exact rfl):Run (Jh Γ (.call f es)) st b st1:=aa a (aa (a_ c) (aa (uQ d g) (cj e)))
theorem Fp(h:Run (ev Γ (.bi f es)) st (k,.bl b) st1):Run (Jh Γ (.bi f es)) st b st1:=by
 have h':(bp Γ es >>= λrs=>aC rs >>= λ_=>M.Jb (KO f rs)) st=a5 (.ok (k,.bl b),st1):=h;obtain⟨rs,s1,c,d,s2,e,r,s3,g,i⟩:∃rs s1,bp Γ es st=a5 (.ok rs,s1)/\∃(a:Unit) (s2:aw),aC rs s1=a5 (.ok a,s2)/\∃r s3,M.Jb (KO f rs) s2=a5 (.ok r,s3)/\(r,s3)=((k,U.bl b),st1):=by
  have w:W (bp Γ es >>= λrs=>aC rs >>= λ_=>M.Jb (KO f rs)) st λr s=>(r,s)=((k,U.bl b),st1):=⟨_,_,h',rfl⟩
  rw[ah]at w;obtain⟨rs,s1,c,w⟩:=w;rw[ah]at w;obtain⟨a,s2,d,w⟩:=w;obtain⟨r,s3,e,w⟩:=w;exact⟨rs,s1,c,a,s2,d,r,s3,e,w⟩
 cases i;exact aa c (aa (a:=d) e (aa g (cj rfl)))
theorem zh(c:st[i]?=a5 (a5 (k',.lst n)))(d:Run (ev Γ e) st r st1)(g:st1[i]?=a5 (a5 (k,.lst us)))(hk:k.root=b8)(h:lj r (.lst us)=a5 (.lst b))
  (j:Run (execs Γ ss) (st1.set i (a5 (k,.lst b))) f l) (m:k'≠.IK:=by intro z;cases z):Run (execs Γ (.ext i e::ss)) st f l:=by
 refine gb (aa (dS c m) (aa (a:=()) (st1:=st) rfl (aa d (aa (a:=()) (st1:=st1.set i (a5 (k,.lst b))) ?_ aO)))) j;show modS i (lj r) st1=_;unfold modS;rw[g];simp only[hk,if_true];rw[h]
end
theorem Ci(h:xs.length+a.length<=cL)(hs:fw k a=b8):lj (k,.tup a) (.lst xs)=a5 (.lst (xs++a)):=by
 show(if xs.length+a.length<=cL/\fw k a=b8 then _ else _)=_;rw[ņ ⟨h,hs⟩]
theorem uS(h:xs.length+a.length<=cL)(hs:fw k a=b8):lj (k,.lst a) (.lst xs)=a5 (.lst (xs++a)):=by
 show(if xs.length+a.length<=cL/\fw k a=b8 then _ else _)=_;rw[ņ ⟨h,hs⟩]
theorem gB:∀ss:List Str,cB (ss.map U.str)=b8
 |[]=>by simp[cB]
 |s::ss=>by simp[cB,Jl,gB ss]
theorem uT(r:Row):Jl (B' r)=b8:=by simp[B',Jl,cB,gB]
theorem bJ:∀rs:List Row,cB (rs.map B')=b8
 |[]=>by simp[cB]
 |r::rs=>by simp[cB,uT,bJ rs]
theorem lM:∀(a b:List Str),cW (a.map U.str) (b.map U.str)=cK (a=b)
 |[],[]=>by simp[cW]
 |[],_::_=>by simp[cW]
 |_::_,[]=>by simp[cW]
 |x::a,y::b=>by
  rw[et,et,cW,lM a b];simp only[cE];by_cases h:x=y
  ·subst h;simp
  ·simp[h]
theorem lN(ss:List Str)(n:Nat):Ko (n+1) (.lst (ss.map U.str))=b8:=by simp[Ko,gA]
theorem zi{a b:List Str}:cM .eq (.lst (a.map U.str)) (.lst (b.map U.str))=a5 (cK (a=b)):=by
 simp only[cM];rw[ņ ⟨lN a 49,lN b 49⟩];simp only[cE,lM]
theorem pz:cM .eq (.str a) (.str b)=a5 (cK (a=b)):=by
 simp only[cM];rw[ņ ⟨rfl,rfl⟩];simp only[cE];by_cases h:a=b
 ·subst h;simp
 ·simp[h]
theorem Cj(f:α->β)(xs:List α)(lo a:Option Int):cut (xs.map f) lo a=(cut xs lo a).map f:=by simp[cut,ă,Ą]
theorem Cm(xs:List α)(lo a:Option Int):(cut xs lo a).length<=xs.length:=by simp[cut];lia
theorem zj(h:fw k (a.map U.int)=b8):qq (k,.lst (a.map .int)) lo b=a5 (.own,.lst ((cut a lo b).map .int)):=by
 simp only[qq];rw[ņ h,Cj]
theorem zk(h:acc.length<4000)(a:(aK acc).length<64):rU .sset [(k,.lst (acc.map .str))]=a5 (.own,.lst ((aB (aK acc)).map .str)):=by
 have e:iJ (.lst (acc.map U.str))=a5 (aK acc):=by
  show(strsOf (acc.map U.str)).bind _=_;rw[dG];show(if acc.length+1<D6 then _ else _)=_;rw[ņ (by show acc.length+1<4096;lia)]
 show(iJ (.lst (acc.map U.str))).bind _=_;rw[e];show(if (aK acc).length<64 then _ else _)=_;rw[ņ a]
theorem Fq(l:List Str)(x:Str):x∈aB (aK l)↔x∈l:=by rw[(bt _).mem_iff,da]
theorem zl{l names:List Str}(h:∀x∈l,x∈names):(aK l).length<=names.length:=iV (ft l) λx a=>h x ((da l x).mp a)
section
end
section
theorem Hj:Run (Nc Γ [] out) st out st:=rfl
theorem sM(a:Run (ev Γ e) st x st1)(b:qw x.2 out=a5 y)(c:Run (Nc Γ es y) st1 z st2):Run (Nc Γ (e::es) out) st z st2:=aa a (aa (cj b) c)
theorem Hk(h:Run (Nc Γ es oT) st z st1):Run (ev Γ (.fst es)) st (.loc,.str z) st1:=aa h aO
theorem Hl(c:Run (ev Γ a) st x st1)(d:oS x.2 T=a5 b):Run (ev Γ (.Lh a T)) st (.loc,.bl b) st1:=aa c (aa (cj d) aO)
theorem gT(c:Run (ev Γ a) st x st1)(d:oS x.2 T=a5 b):Run (Jh Γ (.Lh a T)) st b st1:=aa c (cj d)
end
theorem lO(h:xs.length+a.length<=cL)(b:fw k xs=b8)(c:fw k' a=b8):L3 .add (k,.lst xs) (k',.lst a)=a5 (.own,.lst (xs++a)):=by
 simp only[L3,yh];rw[ņ ⟨h,b,c⟩]
theorem Cn(x y:Str):(x++y).cps.toList=x.cps.toList++y.cps.toList:=by
 show(x.cps++y.cps).toList=_;simp
theorem str_len(x y:Str):(x++y).length=x.length+y.length:=by rw[len_list,len_list,len_list,Cn,i0]
theorem pA(a:y.length<=1000)(b:out.length<=1000):qw (.str y) out=a5 (out++y):=by
 have hsz:(4000:Nat)<=cL:=by decide
 simp only[qw];rw[ņ ⟨⋯,by rw[str_len];lia⟩]
noncomputable def cO(rows:List Row):List Str:=(rows.map λr=>r.1::r.2).flatten
noncomputable def bI(rows:List Row):List Str:=aB (aK (cO rows))
theorem qN(d:List Row)(y:Row):cO (d++[y])=cO d++[y.1]++y.2:=by simp[cO]
theorem ij:x∈cO rows↔∃r∈rows,x=r.1\/x∈r.2:=by
 simp only[cO,List.mem_flatten,js];constructor
 ·rintro⟨l,⟨r,a,rfl⟩,b⟩;exact⟨r,a,d7.mp b⟩
 ·rintro⟨r,a,b⟩;exact⟨_,⟨r,a,rfl⟩,d7.mpr b⟩
theorem iW(h:∀r∈rows,nI names r):∀x∈cO rows,x∈names:=by
 intro x hx;obtain⟨r,a,hx⟩:=ij.mp hx;rcases hx with rfl|hx
 ·exact(h r a).word
 ·exact(h r a).told x hx
theorem lP(h:∀r∈rows,r.2.length<=8):(cO rows).length<=9 * rows.length:=by
 induction rows with
 |nil=>simp[cO]
 |cons r rows a =>
  have c:=h r (by simp);have b:=a λs hs=>h s (by simp[hs]);simp only[cO,et,Vh,i0,ke]at b ⊢;lia
theorem sN:x∈bI rows↔x∈cO rows:=Fq _ _
theorem sO(h:∀r∈rows,nI names r):(bI rows).length<=names.length:=by
 show(aB (aK (cO rows))).length<=_;rw[bx];exact zl (iW h)
noncomputable def pB:Fn:=⟨"words_of",1,3,[.set 1 (.lst []),.Ji cc [2] .seq [.var 0] [.app 1 (.idx (.var 2) (.cst (.int 0))),.ext 1 (.idx (.var 2) (.cst (.int 1)))],.ret (.M_ .sset [.var 1])]⟩
theorem pC(hl:rows.length<=100)(c:∀r∈rows,nI names r)(n:names.length<64):cu Γ pB [.tup (rows.map B')]=a5 (.ok (.own,.lst ((bI rows).map .str))):=by
 have hsz:(4000:Nat)<=cL:=by decide
 have f:TM.start [.tup (rows.map B')] 3=[a5 (.loc,.tup (rows.map B')),bD,bD]:=by simp[TM.start,Jl,bJ]
 have b:∀r∈rows,r.2.length<=8:=λr h=>(c r h).MY;obtain⟨st',g,_,o2,e⟩:=bL (t:=cc) (is:=[2]) (body:=execs Γ [.app 1 (.idx (.var 2) (.cst (.int 0))),.ext 1 (.idx (.var 2) (.cst (.int 1)))]) (rs:=[(.loc,.tup (rows.map B'))]) (λr:Row=>(Kd.loc,B' r))
  (λd r st=>d++r=rows/\∃o2,st=[a5 (.loc,.tup (rows.map B')),a5 (.own,.lst ((cO d).map .str)),o2]) (λ_ _ _ _=>trivial) (λd y r st i=>by
   obtain⟨a,o2,e⟩:=i;subst e;have j:y∈rows:=by rw[<-a];simp
   have o:=lP (rows:=d) λs hs=>b s (by rw[<-a];simp[hs]);have l:d.length<=100:=by have:=Ŋ J7 a;simp at this;lia
   have p:=b y j;refine⟨[a5 (.loc,.tup (rows.map B')),a5 (.own,.lst ((cO d).map .str)),a5 (.loc,B' y)],[a5 (.loc,.tup (rows.map B')),a5 (.own,.lst ((cO d).map .str++[.str y.1]++y.2.map .str)),a5 (.loc,B' y)],fD aF,?_,by rw[<-a];simp,a5 (.loc,B' y),?_⟩
   ·exact e_ (k:=.own) (k':=.own) (r:=(.loc,.str y.1)) rfl (ba (x:=(.loc,B' y)) (ae rfl) aj trivial rfl) aG rfl rfl (by rw[dt];lia)
     (zh (k:=.own) rfl (ba (x:=(.loc,B' y)) (ae rfl) aj trivial rfl) rfl rfl (Ci (by simp;lia) rfl) av)
   ·rw[qN];simp) rows [] [a5 (.loc,.tup (rows.map B')),a5 (.own,.lst []),bD] ⟨rfl,bD,rfl⟩
 subst e;have m:(rows.map B').map (λu=>(kE .loc,u))=rows.map λr=>(Kd.loc,B' r):=by rw[kj];rfl
 have q:=lP b;have l:=zl (iW c);exact bb rfl (.inl rfl) f (ax (r:=(.own,.lst [])) (bV ai trivial aI (lg _)) aY (cF (rs:=[(.loc,.tup (rows.map B'))]) (af (ae rfl) ai) trivial rfl rfl (by rw[m];exact g) (bG (y9 (af (aD rfl) ai) ⟨⟨.own,rfl,rfl⟩,trivial⟩ (zk ⋯ ⋯)) gS)))
theorem uU(h:ks.length<1000):d9 (.str x) u (.IM ks us)=a5 (.IM (dput ks us x u).1 (dput ks us x u).2):=by
 have hsz:(1000:Nat)<=cL:=by decide
 show(if ks.length<cL then _ else _)=_;rw[ņ ⋯]
end TM
namespace Od
section
variable{W:Type}[DecidableEq W]{rows:List (W×List W)}
def fE(rows:List (W×List W))(C:W->Prop):Prop:=∀r∈rows,(∀x∈r.2,C x)->C r.1
def NO(rows:List (W×List W))(K:List W):Prop:=∀C:W->Prop,fE rows C->∀x∈K,C x
theorem same(a:K.Nodup)(b:L.Nodup)(sK:NO rows K)(c:NO rows L)(d:fE rows (·∈K))(e:fE rows (·∈L)):K.Perm L :=
 (RV a b).mpr λx=>⟨λh=>sK _ e x h,λh=>c _ d x h⟩
noncomputable def told(rows:List (W×List W))(p:Nat):List W:=match rows[p]? with
 |some r=>r.2
 |none=>[]
theorem kn(h:rows[p]?=a5 r):told rows p=r.2:=by unfold told;rw[h]
noncomputable def sQ(K l:List W):Nat:=(l.filter λx=>cK (x∉K)).length
noncomputable def cnt(rows:List (W×List W))(K:List W)(p:Nat):Nat:=sQ K (told rows p)
theorem wH{K l:List W}:sQ K l=0↔∀x∈l,x∈K:=by
 unfold sQ;rw[Sz,Yu];constructor
 ·intro h x a;have:=h x a;simpa using this
 ·intro h x a;simpa using h x a
theorem qO(f:w∉K):∀{l:List W},l.Nodup->sQ (K++[w]) l+(if w∈l then 1 else 0)=sQ K l
 |[],_=>rfl
 |x::l,h=>by
  obtain⟨g,i⟩:=mx.mp h;have d:=qO f i;unfold sQ at d ⊢;by_cases e:x=w
  ·subst e;have a:cK (x∉K++[x])≠b8:=by simp
   have b:cK (x∉K)=b8:=ŉ f;rw[Pz (p:=λy=>cK (y∉K++[x])) a,Py (p:=λy=>cK (y∉K)) b,ke,ņ (mN ..)];rw[Ň g]at d;lia
  ·have j:w≠x:=λz=>e z.symm;have k:(if w∈x::l then 1 else 0)=if w∈l then 1 else 0:=by simp[j]
   rw[k];by_cases c:x∈K
   ·have a:cK (x∉K++[w])≠b8:=by simp[c]
    have b:cK (x∉K)≠b8:=by simp[c]
    rw[Pz (p:=λy=>cK (y∉K++[w])) a,Pz (p:=λy=>cK (y∉K)) b];exact d
   ·have a:cK (x∉K++[w])=b8:=by simp[c,e]
    have b:cK (x∉K)=b8:=by simp[c]
    rw[Py (p:=λy=>cK (y∉K++[w])) a,Py (p:=λy=>cK (y∉K)) b,ke,ke];lia
def Once(rows:List (W×List W)):Prop:=∀r∈rows,r.2.Nodup
theorem Once.told(h:Once rows)(p:Nat):(told rows p).Nodup:=by
 unfold Od.told;split
 ·rename_i r e;exact h r (my e)
 ·exact .nil
theorem qP:cnt rows K p=0↔∀x∈told rows p,x∈K:=wH
theorem pD(h:Once rows)(a:w∉K)(p:Nat):cnt rows (K++[w]) p+(if w∈told rows p then 1 else 0)=cnt rows K p:=qO a (h.told p)
noncomputable def Jx(rows:List (W×List W))(n:Nat)(w:W):List Nat:=(hJ n).filter λp=>cK (w∈told rows p)
theorem wI(n:Nat)(w:W):(Jx rows n w).Nodup:=XW OM List.nodup_range
theorem iX:p∈Jx rows n w↔p<n/\w∈told rows p:=by simp[Jx]
noncomputable def aL(ps:List (W×Nat))(w:W):List Nat:=(ps.filter λp=>cK (p.1=w)).map (·.2)
theorem qQ:∀{l:List W},l.Nodup->aL (l.map λx=>(x,n)) w=if w∈l then [n] else []
 |[],_=>rfl
 |x::l,h=>by
  obtain⟨b,c⟩:=mx.mp h;have a:=qQ (n:=n) (w:=w) c;unfold aL at a ⊢;rw[et,vu];by_cases e:x=w
  ·subst e;rw[Ň b]at a;rw[ņ (by simp),et,a,ņ (by simp)]
  ·rw[Ň (by simpa using e),a];have d:w≠x:=λz=>e z.symm;simp[d]
theorem qR(a b:List (W×Nat))(w:W):aL (a++b) w=aL a w++aL b w:=by simp[aL]
theorem wJ(h:Once rows)(a:rows[n]?=a5 r)(b:∀w,aL ps w=Jx rows n w)(w:W):aL (ps++r.2.map λx=>(x,n)) w=Jx rows (n+1) w:=by
 rw[qR,b w,qQ (h r (my a))];unfold Jx;rw[ë,Ni];congr 1
 rw[vu,NP,kn a];by_cases e:w∈r.2<;>simp[e]
structure RI(rows:List (W×List W))(K0 K:List W)(R:List Nat):Prop where
 QK:∀t∈R,t<rows.length/\cnt rows K t=0
 all:∀t,t<rows.length->cnt rows K t=0->cnt rows K0 t=0\/t∈R
theorem RI.start(K:List W):RI rows K K []:=⟨by simp,λt _ h=>.inl h⟩
theorem RI.step(h:Once rows)(x:RI rows K0 K R)(d:w∉K):RI rows K0 (K++[w]) (R++(Jx rows rows.length w).filter λt=>cK (cnt rows K t=1)):=by
 refine⟨λt ht=>?_,λt ht i=>?_⟩
 ·have a:=pD h d t;rcases i6.mp ht with ht|ht
  ·obtain⟨b,e⟩:=x.QK t ht;exact⟨b,⋯⟩
  ·obtain⟨b,e⟩:=vl.mp ht;obtain⟨f,g⟩:=iX.mp b;rw[ņ g]at a;have:cnt rows K t=1:=by simpa using e
   exact⟨f,⋯⟩
 ·have a:=pD h d t;by_cases c:w∈told rows t
  ·rw[ņ c]at a;exact .inr (i6.mpr (.inr (vl.mpr ⟨iX.mpr ⟨ht,c⟩,by simp;lia⟩)))
  ·rw[Ň c]at a;rcases x.all t ht ⋯ with z|z
   ·exact .inl z
   ·exact .inr (i6.mpr (.inl z))
structure NS(rows:List (W×List W))(K:List W)(d:List Nat)(ps:List (W×Nat)):Prop where
 ok:∀s∈ps,s.2∈d/\s.1∉K/\∃r,rows[s.2]?=a5 r/\r.1=s.1
 once:(ps.map (·.1)).Nodup
 all:∀p∈d,∀r,rows[p]?=a5 r->r.1∈K\/r.1∈ps.map (·.1)
theorem NS.start(K:List W):NS rows K [] []:=⟨by simp,by simp,by simp⟩
theorem NS.skip(x:NS rows K d ps)(f:rows[p]?=a5 r)(h:r.1∈K\/r.1∈ps.map (·.1)):NS rows K (d++[p]) ps :=
 ⟨λs hs=>let ⟨a,b,c⟩:=x.ok s hs;⟨by simp[a],b,c⟩,x.once,λq hq g e=>by
  rcases i6.mp hq with hq|hq
  ·exact x.all q hq g e
  ·have:q=p:=by simpa using hq
   subst this;rw[f]at e;cases e;exact h⟩
theorem NS.take(x:NS rows K d ps)(g:rows[p]?=a5 r)(h:r.1∉K)(i:r.1∉ps.map (·.1)):NS rows K (d++[p]) (ps++[(r.1,p)]):=by
 refine⟨λs hs=>?_,?_,λq hq j f=>?_⟩
 ·rcases i6.mp hs with hs|hs
  ·obtain⟨a,b,c⟩:=x.ok s hs;exact⟨by simp[a],b,c⟩
  ·have:s=(r.1,p):=by simpa using hs
   subst this;exact⟨by simp,h,r,g,rfl⟩
 ·rw[kr,t5];refine⟨x.once,by simp,λa k b l e=>?_⟩;have:b=r.1:=by simpa using l
  subst this;exact i (e▸k)
 ·rcases i6.mp hq with hq|hq
  ·rcases x.all q hq j f with z|z
   ·exact .inl z
   ·exact .inr (by simp only[kr,i6];exact .inl z)
  ·have:q=p:=by simpa using hq
   subst this;rw[g]at f;cases f;exact .inr (by simp)
theorem NS.perm(x:NS rows K d ps)(h:a.Perm ps):NS rows K d a :=
 ⟨λs hs=>x.ok s (h.mem_iff.mp hs),(h.map _).nodup_iff.mpr x.once,λp b r c=>(x.all p b r c).imp id λz=>(h.map _).mem_iff.mpr z⟩
def vS(rows:List (W×List W)):List W->List (W×Nat)->Prop
 |_,[]=>True
 |K,s::ss=>(s.1∉K/\∃r,rows[s.2]?=a5 r/\r.1=s.1/\∀x∈r.2,x∈K)/\vS rows (K++[s.1]) ss
theorem zm:∀{a b:List (W×Nat)}{K:List W},vS rows K a->vS rows (K++a.map (·.1)) b->vS rows K (a++b)
 |[],b,K,_,h=>by simpa using h
 |s::a,b,K,c,d=>⟨c.1,zm c.2 (by simpa using d)⟩
theorem zo:∀{ss:List (W×Nat)}{K:List W},(∀s∈ss,s.1∉K/\∃r,rows[s.2]?=a5 r/\r.1=s.1/\∀x∈r.2,x∈K)->(ss.map (·.1)).Nodup->vS rows K ss
 |[],K,_,_=>trivial
 |s::ss,K,h,a=>by
  have b:s.1∉ss.map (·.1)/\(ss.map (·.1)).Nodup:=by
   rw[et]at a;exact mx.mp a
  refine⟨h s (by simp),zo (λt c=>?_) b.2⟩;obtain⟨d,r,e,f,g⟩:=h t (by simp[c]);refine⟨λz=>?_,r,e,f,λx i=>by simp[g x i]⟩;rcases i6.mp z with z|z
  ·exact d z
  ·have:t.1=s.1:=by simpa using z
   exact b.1 (this▸js.mpr ⟨t,c,rfl⟩)
theorem qS:∀{ss:List (W×Nat)}{K:List W},vS rows K ss->K.Nodup->(K++ss.map (·.1)).Nodup
 |[],K,_,h=>by simpa using h
 |s::ss,K,h,c=>by
  have:(K++[s.1]).Nodup:=by
   rw[t5];refine⟨c,by simp,λa d b f e=>?_⟩;have:b=s.1:=by simpa using f
   subst this;exact h.1.1 (e▸d)
  have:=qS h.2 this;simpa using this
theorem zp:∀{ss:List (W×Nat)}{K:List W},vS rows K ss->NO rows K->NO rows (K++ss.map (·.1))
 |[],K,_,h=>by simpa using h
 |s::ss,K,h,b=>by
  have c:NO rows (K++[s.1]):=λC a x hx=>by
   rcases i6.mp hx with hx|hx
   ·exact b C a x hx
   ·have:x=s.1:=by simpa using hx
    subst this;obtain⟨_,r,d,e,f⟩:=h.1;rw[<-e];exact a r (my d) λy g=>b C a y (f y g)
  have:=zp h.2 c;simpa using this
theorem qT:∀{ss:List (W×Nat)}{K:List W},vS rows K ss->∀x∈ss.map (·.1),x∈rows.map (·.1)
 |[],K,_,x,hx=>by simp at hx
 |s::ss,K,h,x,hx=>by
  rw[et]at hx;rcases d7.mp hx with rfl|hx
  ·obtain⟨_,r,a,b,c⟩:=h.1;exact js.mpr ⟨r,my a,b⟩
  ·exact qT h.2 x hx
structure LI(rows:List (W×List W))(IW:List (W×Nat))(R:List Nat):Prop where
 ok:vS rows [] IW
 QK:∀t∈R,t<rows.length/\cnt rows (IW.map (·.1)) t=0
 all:∀t r,rows[t]?=a5 r->cnt rows (IW.map (·.1)) t=0->t∈R\/r.1∈IW.map (·.1)
theorem LI.step(x:LI rows a R)(n:NS rows (a.map (·.1)) R st)(y:RI rows (a.map (·.1)) (a.map (·.1)++st.map (·.1)) e):LI rows (a++st) e:=by
 have em:(a++st).map (·.1)=a.map (·.1)++st.map (·.1):=kr;refine⟨zm x.ok (zo (λs hs=>?_) n.once),λt f=>by rw[em];exact y.QK t f,λt r b c=>?_⟩
 ·obtain⟨g,h,r,d,i⟩:=n.ok s hs;have hz:=(x.QK _ g).2;rw[qP,kn d]at hz;exact⟨by simpa using h,r,d,i,by simpa using hz⟩
 ·rw[em]at c ⊢;rcases y.all t (dV.mp b).1 c with z|z
  ·rcases x.all t r b z with z|z
   ·rcases n.all t z r b with z|z
    ·exact .inr (i6.mpr (.inl z))
    ·exact .inr (i6.mpr (.inr z))
   ·exact .inr (i6.mpr (.inl z))
  ·exact .inl z
theorem LI.nd(x:LI rows a R):(a.map (·.1)).Nodup:=by simpa using qS x.ok .nil
theorem LI.sn(x:LI rows a R):NO rows (a.map (·.1)):=by simpa using zp x.ok λ_ _ _ h=>absurd h vr
theorem LI.wd(x:LI rows a R):∀y∈a.map (·.1),y∈rows.map (·.1):=qT x.ok
theorem LI.closed(x:LI rows b []):fE rows (·∈b.map (·.1)):=λr c h=>by
 obtain⟨t,a⟩:=Y9.mp c;rcases x.all t r a (by rw[qP,kn a];exact h) with z|z
 ·cases z
 ·exact z
theorem qU{K L:List W}(h:K.Nodup)(s:∀x∈K,x∈L):K.length<=L.length:=by
 induction K generalizing L with
 |nil=>simp
 |cons a K d =>
  obtain⟨f,g⟩:=mx.mp h;have b:a∈L:=s a (by simp);have:=d (L:=L.erase a) g λx c=>by
   have i:x≠a:=λe=>f (e▸c);exact(Zu i).mpr (s x (by simp[c]))
  rw[XN b]at this;have:0<L.length:=Yt b;rw[ke];lia
end
end Od
namespace TM
open PySem L2 Jt
section
theorem Hm(h:st[j]?=a5 (a5 (.own,u))):Run (lift (.bor j,a)) st u (st.set j (a5 (.loc,u))):=by
 show(match st[j]? with|some (a5 (.own,u))=>a5 (Ex.ok u,st.set j (a5 (.loc,u)))|_=>bD)=_;rw[h]
theorem uV(h:Run c st cc st1):Run (gE c body (n+1)) st .nx st1:=aa h aO
theorem zq(h:Run c st b8 st1)(a:Run body st1 .nx st2)(b:Run (gE c body n) st2 f d):Run (gE c body (n+1)) st f d:=aa h (aa a b)
theorem zr(h:Run (gE (Jh Γ c) (execs Γ body) fuel) st .nx st1)(a:Run (execs Γ ss) st1 f st2):Run (execs Γ (.NG c body::ss)) st f st2:=gb h a
theorem lQ(hk:k=.loc\/k=.any):Run (dC b8 [i,j] (k,.tup [a,b])) st () ((st.set i (a5 (k,a))).set j (a5 (k,b))):=by
 rcases hk with rfl|rfl<;>rfl
theorem Fs(h:Run (execs Γ ss) (st.set i (a5 (.IK,.IM [] []))) f st1):Run (execs Γ (.newD i::ss)) st f st1:=gb (aa (a:=()) (st1:=st.set i (a5 (.IK,.IM [] []))) rfl aO) h
theorem pE(h:st[i]?=a5 (a5 (.IK,.IM ks us))):Run (iK i) st (ks,us) st:=by
 show iK i st=_;unfold iK;rw[h]
theorem sR:Run (jY (k,.str y)) st y st:=rfl
theorem Co(a:st[i]?=a5 (a5 (.IK,.IM ks us)))(b:y∉ks)(c:ks.length<cL):Run (lb i y (.own,.lst xs)) st () (st.set i (a5 (.IK,.IM (ks++[y]) (us++[.lst xs])))):=by
 show lb i y (.own,.lst xs) st=_;unfold lb
 dsimp only
 rw[a]
 dsimp only
 rw[ņ ⟨b,c⟩]
theorem Cp(a:st[i]?=a5 (a5 (.IK,.IM ks us)))(b:dN ks us y=a5 (.lst xs))(c:xs.length<cL):Run (lh i y u) st () (st.set i (a5 (.IK,.IM ks (jZ ks us y (.lst (xs++[u])))))):=by
 show lh i y u st=_;unfold lh;rw[a]
 dsimp only
 rw[b]
 dsimp only
 rw[ņ c]
theorem Hn(b:Run (ev Γ a) st (k,.str y) st1)(c:st1[i]?=a5 (a5 (.IK,.IM ks us))):Run (Jh Γ (.inD neg a i)) st (TK neg y ks) st1 :=
 aa b (aa sR (aa (pE c) aO))
theorem Ft(b:Run (ev Γ c) st (.own,.lst xs) st1)(a:st1[i]?=a5 (a5 (.IK,.IM ks us)))(d:Run (ev Γ e) st1 (k,.str y) st1)(g:y∉ks)(h:ks.length<cL)
  (j:Run (execs Γ ss) (st1.set i (a5 (.IK,.IM (ks++[y]) (us++[.lst xs])))) f l):Run (execs Γ (.putD i e c::ss)) st f l:=by
 refine gb ?_ j;exact aa b (aa (pE a) (aa d (aa sR (aa (Co a g h) aO))))
theorem Fu(a:st[i]?=a5 (a5 (.IK,.IM ks us)))(b:Run (ev Γ c) st (k,.str y) st)(d:y∈ks)(e:Run (ev Γ g) st r st)(h:Run (lift r) st u st)(j:dN ks us y=a5 (.lst xs))(l:xs.length<cL)
  (m:Run (execs Γ ss) (st.set i (a5 (.IK,.IM ks (jZ ks us y (.lst (xs++[u])))))) f n):Run (execs Γ (.K_ i c g::ss)) st f n:=by
 refine gb ?_ m;refine aa (pE a) (aa b (aa sR (aa (pE a) ?_)));rw[ņ d];exact aa e (aa h (aa (Cp a j l) aO))
theorem Ho(h:st[i]?=a5 (a5 (.IK,u))):Run (ev Γ (.Pd i)) st (.bor i,u) (st.set i (a5 (.own,u))):=by
 show yl i st=_;unfold yl;rw[h]
theorem Fv(c:st[i]?=a5 (a5 (.own,.IM ks us)))(d:Run (ev Γ a) st (k,.str y) st)(e:Run (ev Γ b) st z st)(f:Run (lift z) st u st)(g:(match dN ks us y with|some v=>(Kd.loc,v)|none=>(.loc,u))=r):
  Run (ev Γ (.Lw i a b)) st r st:=by
 refine aa (dS c) (aa (a:=()) (st1:=st) rfl (aa d (aa (a:=y) (st1:=st) rfl (aa e (aa f (aa (dS c) (cj ?_)))))));subst g;rfl
theorem Hq(b:st[i]?=a5 (a5 (.own,.lst us)))(d:Run (ev Γ e) st (k1,.int (j:Nat)) st)(c:us[j]?=a5 (.int o))(g:Run (ev Γ h) st (k2,.int w) st)
  (k:Run (execs Γ ss) (st.set i (a5 (.own,.lst (us.set j (.int (o - w)))))) f l):Run (execs Γ (.aug b8 i e h::ss)) st f l:=by
 have hl:qu i st=a5 (.ok us,st):=by unfold qu;rw[b];rfl
 have m:j<us.length:=(dV.mp c).1;have n:qv us (j:Nat)=a5 o:=by
  unfold qv;rw[ņ ⋯,P9,c]
 have p:Mj us.length (j:Nat)=a5 j:=by
  unfold Mj;rw[ņ ⋯]
  first|(rw[ņ ⋯];simp)|simp[m]
 refine gb (aa (a:=us) (st1:=st) hl (aa d (aa (a:=(j:Int)) (st1:=st) rfl (aa (a:=us) (st1:=st) hl (aa (cj n) (aa g (aa (a:=w) (st1:=st) rfl (aa (a:=()) (st1:=st.set i (a5 (.own,.lst (us.set j (.int (o - w)))))) ?_ aO)))))))) k;show modS i (d9 (.int (j:Nat)) (.int (v3 b8 o w))) st=_;unfold modS;rw[b];simp only[Kd.root,if_true,d9];rw[p];rfl
theorem Hr(a:st[i]?=a5 (a5 (.own,u)))(b:yj u=a5 r):Run (ev Γ (.Pe i)) st r st:=aa (dS a) (cj b)
end
theorem lR(f:Str->U)(y:Str):∀ks:List Str,dN ks (ks.map f) y=if y∈ks then a5 (f y) else bD
 |[]=>rfl
 |k::ks=>by
  rw[et];show(if k=y then a5 (f k) else dN ks (ks.map f) y)=_;by_cases e:k=y
  ·subst e;rw[ņ rfl,ņ (by simp)]
  ·rw[Ň e,lR f y ks];have:(y∈k::ks)↔y∈ks:=by simp[r6 e]
   by_cases h:y∈ks
   ·rw[ņ h,ņ (this.mpr h)]
   ·rw[Ň h,Ň λz=>h (this.mp z)]
theorem qV(f:Str->U)(y:Str)(u:U):∀ks:List Str,ks.Nodup->jZ ks (ks.map f) y u=ks.map λk=>if k=y then u else f k
 |[],_=>rfl
 |k::ks,h=>by
  obtain⟨a,b⟩:=mx.mp h;rw[et,et];show(if k=y then u::ks.map f else f k::jZ ks (ks.map f) y u)=_;by_cases e:k=y
  ·subst e;rw[ņ rfl,ņ rfl];congr 1
   refine w6 λz hz=>?_;have c:z≠k:=λq=>a (by rw[<-q];exact hz);rw[Ň c]
  ·rw[Ň e,Ň e,qV f y u ks b]
noncomputable def stN(s:Str×Nat):U:=.tup [.str s.1,.int (s.2:Nat)]
theorem nK(f:α->Int):∀(ns:List α),intsOf (ns.map λa=>U.int (f a))=a5 (ns.map f)
 |[]=>rfl
 |n::ns=>by show(intsOf (ns.map λa=>U.int (f a))).map _=_;rw[nK f ns];rfl
theorem Cq(h:ps.length<64)(c:(ps.map (·.1)).Nodup):∃a:List (Str×Nat),a.Perm ps/\yj (.IM (ps.map (·.1)) (ps.map λp=>.int (p.2:Nat)))=a5 (.own,.lst (a.map stN)):=by
 have d:=nK (λp:Str×Nat=>((p.2:Nat):Int)) ps;have hz:(ps.map (·.1)).zip (ps.map λp:Str×Nat=>((p.2:Nat):Int))=ps.map λp=>(p.1,((p.2:Nat):Int)):=by
  rw[List.zip_map']
 let P:=jW ((ps.map λp=>(p.1,((p.2:Nat):Int))).map (·.1));have b:P.Perm (hJ ps.length):=by
  have:=gq ((ps.map λp=>(p.1,((p.2:Nat):Int))).map (·.1));simpa[P] using this
 refine⟨P.map λi=>ps.getD i (oT,0),?_,?_⟩
 ·refine(b.map _).trans ?_;have:(hJ ps.length).map (λi=>ps.getD i (oT,0))=ps:=by
   apply Md
   ·simp
   ·intro i j e;simp[OB,e]
  rw[this]
 ·show(intsOf (ps.map λp=>U.int (p.2:Nat))).bind _=_;rw[d];show(if (ps.map (·.1)).length<64/\(ps.map (·.1)).Nodup/\(ps.map (·.1)).length=(ps.map λp:Str×Nat=>((p.2:Nat):Int)).length then _ else _)=_;rw[ņ ⟨by simpa using h,c,by simp⟩,hz];congr 3
  show(Bi _).map vV=_;show(P.map λi=>(ps.map λp=>(p.1,((p.2:Nat):Int))).getD i (oT,0)).map vV=_;rw[kj,kj];refine w6 λi f=>?_;have g:i<ps.length:=u5.mp (b.mem_iff.mp f);simp[OB,g,vV,stN]
theorem zt:cM .isin (.str x) (.IM ks vs)=a5 (cK (x∈ks)):=rfl
theorem fc:cM .I0 (.str x) (.IM ks vs)=a5 (!cK (x∈ks)):=rfl
theorem sT:cM .ne (.str a) (.str b)=a5 (!cK (a=b)):=by
 have:cM .ne (.str a) (.str b)=(cM .eq (.str a) (.str b)).map (!·):=by
  simp only[cM];rw[ņ ⟨rfl,rfl⟩,ņ ⟨rfl,rfl⟩];rfl
 rw[this,pz];rfl
theorem uW(bs:List Bool):KO .all [(k,.lst (bs.map .bl))]=a5 (.loc,.bl (bs.all id)):=by
 show(gO (bs.map U.bl)).map _=_;have:∀bs:List Bool,gO (bs.map U.bl)=a5 bs:=λbs=>by
  induction bs with
  |nil=>rfl
  |cons b bs a=>show(gO (bs.map U.bl)).map _=_;rw[a];rfl
 rw[this];rfl
section
end
theorem uX(h:ks.length<1000)(a:x∉ks):d9 (.str x) u (.IM ks us)=a5 (.IM (ks++[x]) (us++[u])):=by
 rw[uU h];unfold dput;rw[Ň a]
theorem qW(h:Ko 50 (.lst us)=b8):cM .ne (.lst us) (.lst [])=a5 (!us.isEmpty):=by
 simp only[cM];rw[ņ ⟨h,by simp[Ko,eL]⟩];cases us with
 |_=>simp[cE,cW]
theorem nL(f:α->Int):∀(l:List α) (n:Nat),eL n (l.map λa=>U.int (f a))=b8
 |[],n=>by simp[eL]
 |a::l,n=>by rw[et,eL,nL f l n];simp[Ko]
theorem qX:∀(ss:List (Str×Nat)) (n:Nat),eL (n+1) (ss.map stN)=b8
 |[],n=>by simp[eL]
 |s::ss,n=>by rw[et,eL,qX ss n];simp[stN,Ko,eL]
theorem Cr:cM .eq (.tup (ss.map U.str)) (.tup [])=a5 (cK (ss=[])):=by
 simp only[cM];rw[ņ ⟨by simp[Ko,gA],by simp[Ko,eL]⟩];cases ss with
 |_=>simp[cE,cW]
theorem pF{cond:M Bool}(h:bq src st)(a b g:α->U)(p:α->Bool):∀(c:List α) (acc:List U),acc.length+c.length<=cL ->
  (∀y∈c,Run cond (a5 (.loc,a y)::a5 (.loc,b y)::st) (p y) (a5 (.loc,a y)::a5 (.loc,b y)::st)/\Run elt (a5 (.loc,a y)::a5 (.loc,b y)::st) (.loc,g y) (a5 (.loc,a y)::a5 (.loc,b y)::st)) ->
  Run (b_ 2 b8 cond elt src (c.map λy=>(Kd.loc,U.tup [a y,b y])) acc) st (acc++(c.filter p).map g) st
 |[],acc,_,_=>by rw[Jz,NP,Jz,tj];exact uR h
 |y::c,acc,hl,f=>by
  obtain⟨d,j⟩:=f y (by simp);rw[ke]at hl;have i:Run (dC b8 (hJ 2) (.loc,.tup [a y,b y])) (i5 2 bD++st) () (a5 (.loc,a y)::a5 (.loc,b y)::st):=lQ (.inl rfl);cases e:p y with
  |true =>
   rw[e]at d;refine pk (s1:=a5 (.loc,a y)::a5 (.loc,b y)::st) (s2:=a5 (.loc,a y)::a5 (.loc,b y)::st) (s3:=a5 (.loc,a y)::a5 (.loc,b y)::st) (s4:=a5 (.loc,a y)::a5 (.loc,b y)::st) h i d j aG ⋯ ?_;have:=pF h a b g p c (acc++[g y]) (by simp;lia) λz hz=>f z (by simp[hz]);rw[vu,ņ e,et];simpa using this
  |false =>
   rw[e]at d;refine zf (s1:=a5 (.loc,a y)::a5 (.loc,b y)::st) (s2:=a5 (.loc,a y)::a5 (.loc,b y)::st) h i d ?_;have:=pF h a b g p c acc ⋯ λz hz=>f z (by simp[hz]);rw[vu,Ň (by simp[e])];exact this
theorem set_range(n:Nat)(f:Nat->α)(t:Nat)(v:α):((hJ n).map f).set t v=(hJ n).map λp=>if p=t then v else f p:=by
 apply Md
 ·simp
 ·intro i a b;simp only[List.getElem_set,VB,List.getElem_range];by_cases e:t=i
  ·subst e;simp
  ·rw[Ň e,Ň (r6 e)]
theorem Cs{rows:List Row}{t:Nat}(h:rows[t]?=a5 r):JP (rows.map B') (t:Int)=a5 (B' r):=eC (by simp[h])
section
theorem Hs(c:Run (ev Γ a) st x st1)(d:iJ x.2=a5 e)(f:Run (ev Γ b) st1 y st2)(g:iJ y.2=a5 h)(i:vW ln e h=a5 r):Run (ev Γ (.Ou ln a b)) st r st2 :=
 aa c (aa (cj d) (aa f (aa (cj g) (cj i))))
end
theorem nM(h:ss.length<4000):iJ (.lst (ss.map .str))=a5 (aK ss):=by
 show(strsOf (ss.map U.str)).bind _=_;rw[dG];show(if ss.length+1<D6 then _ else _)=_;rw[ņ (by show ss.length+1<4096;lia)]
end TM
namespace TM
open PySem L2
section
theorem du(h:st[i]?=a5 (a5 (.io,u))):Run (ev Γ (.var i)) st (.bor i,u) st:=dS h
end
noncomputable def Fw:List S :=
   [.ite (.cmp .eq (.bi .len [.var 0]) (.cst (.int 0)))
      [.ret (.lst [.var 1,.cst (.int 0),.cst (.int 1)])]
      [],
    .set 2 (.pop 0),
    .ret (.lst [(.bin .Oo (.var 2) (.cst (.int 2))),(.cst (.int 0)),(.bin .mod (.var 2) (.cst (.int 2)))])]
noncomputable def zu:Fn:=⟨"_law_source",2,3,.Mc [0]::Fw⟩
theorem V8:(3:Nat)<=cL:=by decide
theorem zv:gF Γ zu [0] Fw [.lst [],.int k]=a5 (.ok (.own,.tup [.lst [.int k,.int 0,.int 1],.lst []])):=by
 refine cp (st0:=[a5 (.io,.lst []),a5 (.loc,.int k),bD]) (f:=.rt .own (.lst [.int k,.int 0,.int 1])) (st:=[a5 (.io,.lst []),a5 (.loc,.int k),bD]) rfl rfl ?_ rfl rfl;apply fC
 all_goals repeat' (first|exact du rfl|exact cq (by simp)|exact cm|exact V8|sizeOf_list_dec)
theorem zw:gF Γ zu [0] Fw [.lst ((ns++[c]).map .int),.int k]=a5 (.ok (.own,.tup [.lst [.int (c / 2),.int 0,.int (c % 2)],.lst (ns.map .int)])):=by
 have hl:cM .eq (.int (((ns++[c]).map U.int).length:Nat)) (.int 0)=a5 cc:=cq (by simp;lia);have a:((ns++[c]).map U.int).dropLast=ns.map .int:=by simp
 have b:Run (ev Γ (.pop 0)) [a5 (.io,.lst ((ns++[c]).map .int)),a5 (.loc,.int k),bD] (.loc,.int c) [a5 (.io,.lst (ns.map .int)),a5 (.loc,.int k),bD]:=by
  have:=Hg (Γ:=Γ) (st:=[a5 (.io,.lst ((ns++[c]).map .int)),a5 (.loc,.int k),bD]) (i:=0) (u:=.int c) (us:=(ns++[c]).map .int) (k:=.io) rfl rfl (by simp);rw[a]at this;exact this
 refine cp (st0:=[a5 (.io,.lst ((ns++[c]).map .int)),a5 (.loc,.int k),bD]) (f:=.rt .own (.lst [.int (c / 2),.int 0,.int (c % 2)])) (st:=[a5 (.io,.lst (ns.map .int)),a5 (.loc,.int k),a5 (.loc,.int c)]) rfl rfl ?_ rfl rfl;refine aV (st1:=[a5 (.io,.lst ((ns++[c]).map .int)),a5 (.loc,.int k),bD]) ?_ av (ax (st2:=[a5 (.io,.lst (ns.map .int)),a5 (.loc,.int k),a5 (.loc,.int c)]) b aF ?_)
 all_goals repeat' (first|exact du rfl|exact hl|exact cm|exact V8|sizeOf_list_dec)
noncomputable def fK(a t w:Int):U:=.lst [.int a,.int t,.int w]
noncomputable def nN(a t w m:Int):Int:=if w=0 then a % m else((a % 10 ^ 15+1) * 48271+(t+1) * (t+1) * 16807+(t+1) * 7919) % 2147483647 * 69621 % 2147483629 % m
noncomputable def zx(a w m:Int):Int:=if w=0 then a / m else a
noncomputable def C5:List S :=
   [.put 0 (.cst (.int 1)) (.bin .add (.idx (.var 0) (.cst (.int 1))) (.cst (.int 1))),
    .ite (.cmp .eq (.idx (.var 0) (.cst (.int 2))) (.cst (.int 0)))
      [.set 2 (.bin .mod (.idx (.var 0) (.cst (.int 0))) (.var 1)),
      .put 0 (.cst (.int 0)) (.bin .Oo (.idx (.var 0) (.cst (.int 0))) (.var 1)),
      .ret (.var 2)]
      [],
    .set 3 (.idx (.var 0) (.cst (.int 1))),
    .set 4 (.bin .add (.bin .add (.bin .mul (.bin .add (.bin .mod (.idx (.var 0) (.cst (.int 0))) (.bin .pow (.cst (.int 10)) (.cst (.int 15)))) (.cst (.int 1))) (.cst (.int 48271))) (.bin .mul (.bin .mul (.var 3) (.var 3)) (.cst (.int 16807)))) (.bin .mul (.var 3) (.cst (.int 7919)))),
    .ret (.bin .mod (.bin .mod (.bin .mul (.bin .mod (.var 4) (.cst (.int 2147483647))) (.cst (.int 69621))) (.cst (.int 2147483629))) (.var 1))]
noncomputable def uY:Fn:=⟨"_law_draw",2,5,.Mc [0]::C5⟩
theorem zA(i:0<=t)(j:t<2 ^ 62)(m0:0<m)(m1:m<1073741824):gF Γ uY [0] C5 [fK a t w,.int m]=a5 (.ok (.loc,.tup [.int (nN a t w m),fK (zx a w m) (t+1) w])):=by
 unfold nN zx fK;have c:∀a t w:Int,JP [U.int a,.int t,.int w] 0=a5 (.int a):=λa t w=>rfl;have d:∀a t w:Int,JP [U.int a,.int t,.int w] 1=a5 (.int t):=λa t w=>rfl;have e:∀a t w:Int,JP [U.int a,.int t,.int w] 2=a5 (.int w):=λa t w=>rfl;have g:∀a t w x:Int,d9 (.int 1) (.int x) (.lst [.int a,.int t,.int w])=a5 (.lst [.int a,.int x,.int w]):=λa t w x=>rfl;have h:∀a t w x:Int,d9 (.int 0) (.int x) (.lst [.int a,.int t,.int w])=a5 (.lst [.int x,.int t,.int w]):=λa t w x=>rfl;by_cases b:w=0
 ·subst b;rw[ņ rfl,ņ rfl];refine cp (st0:=[a5 (.io,.lst [.int a,.int t,.int 0]),a5 (.loc,.int m),bD,bD,bD]) (f:=.rt .loc (.int (a % m))) (st:=[a5 (.io,.lst [.int (a / m),.int (t+1),.int 0]),a5 (.loc,.int m),a5 (.loc,.int (a % m)),bD,bD]) rfl rfl ?_ rfl rfl;refine gc (rv:=(.loc,.int (t+1))) (rk:=(.loc,.int 1)) (k:=.io) (k':=.io) (bF (ba (du rfl) aj ∅ (bZ (d _ _ _))) aj ∅ cA) rfl aj (aA aG (aA aG aI)) rfl rfl (g _ _ _ _) ?_;apply fC
  ·repeat' (first|exact du rfl|exact bZ (e _ _ _)|exact cq (show((0:Int)==0)=b8 from rfl)|sizeOf_list_dec)
  ·refine ax (st2:=[a5 (.io,.lst [.int a,.int (t+1),.int 0]),a5 (.loc,.int m),a5 (.loc,.int (a % m)),bD,bD]) (bF (ba (du rfl) aj ∅ (bZ (c _ _ _))) (ae rfl) ∅ (eG m0)) aF ?_;refine gc (rv:=(.loc,.int (a / m))) (rk:=(.loc,.int 0)) (k:=.io) (k':=.io) (bF (ba (du rfl) aj ∅ (bZ (c _ _ _))) (ae rfl) ∅ (lJ ⟨m0,m1⟩)) rfl aj (aA aG (aA aG aI)) rfl rfl (h _ _ _ _) ?_
   repeat' sizeOf_list_dec
 ·rw[Ň b,Ň b];refine cp (st0:=[a5 (.io,.lst [.int a,.int t,.int w]),a5 (.loc,.int m),bD,bD,bD]) (f:=.rt .loc (.int (((a % 10 ^ 15+1) * 48271+(t+1) * (t+1) * 16807+(t+1) * 7919) % 2147483647 * 69621 % 2147483629 % m))) (st:=[a5 (.io,.lst [.int a,.int (t+1),.int w]),a5 (.loc,.int m),bD,a5 (.loc,.int (t+1)),a5 (.loc,.int ((a % 10 ^ 15+1) * 48271+(t+1) * (t+1) * 16807+(t+1) * 7919))]) rfl rfl ?_ rfl rfl;refine gc (rv:=(.loc,.int (t+1))) (rk:=(.loc,.int 1)) (k:=.io) (k':=.io) (bF (ba (du rfl) aj ∅ (bZ (d _ _ _))) aj ∅ cA) rfl aj (aA aG (aA aG aI)) rfl rfl (g _ _ _ _) ?_;apply aV
  ·repeat' (first|exact du rfl|exact bZ (e _ _ _)|exact cq (show(w==0)=cc by simp[b])|sizeOf_list_dec)
  ·exact av
  ·repeat' (first|exact du rfl|exact bZ (c _ _ _)|exact bZ (d _ _ _)|exact eG m0|sizeOf_list_dec)
def Src(T:Int)(u:U):Prop:=∃a t w,u=fK a t w/\0<=t/\t<=T
theorem Src.up(h:Src T u)(l:T<=b):Src b u:=let ⟨a,t,w,e,c,d⟩:=h;⟨a,t,w,e,c,Ĩ d l⟩
def bA(Γ:Tab):Prop:=∀(T m:Int) (u:U),Src T u->T<2 ^ 62->0<m->m<1073741824->∃n u',Γ "_law_draw" [u,.int m]=a5 (.ok (.loc,.tup [.int n,u']))/\0<=n/\n<m/\Src (T+1) u'
theorem qY(m0:0<m):0<=nN a t w m/\nN a t w m<m:=by
 unfold nN;split
 ·exact⟨QY _ ⋯,R3 _ m0⟩
 ·exact⟨QY _ ⋯,R3 _ m0⟩
theorem sU(h:Ju Pg "_law_draw" uY):bA (I_ Pg (d+1)):=by
 rintro T m u ⟨a,t,w,rfl,b,c⟩ e m0 m1;refine⟨nN a t w m,fK (zx a w m) (t+1) w,?_,(qY m0).1,(qY m0).2,⟨_,_,_,rfl,⋯,⋯⟩⟩;rw[cS h _ rfl];exact zA b ⋯ m0 m1
section
theorem zB(o:bA Γ)(p:st[i]?=a5 (a5 (k0,b)))(f:k0.root=b8)(q:Run (ev Γ e) st (.loc,.int m) st1)(d:st1[i]?=a5 (a5 (k,u)))(hk:k.root=b8)(g:Src T u)(r:T<2 ^ 62)(m0:0<m)(m1:m<1073741824):
  ∃n u',Run (ev Γ (.IT "_law_draw" [.var i,e] [0])) st (.loc,.int n) (st1.set i (a5 (k,u')))/\0<=n/\n<m/\Src (T+1) u':=by
 obtain⟨n,u',s,v,x,hs⟩:=o T m u g r m0 m1;refine⟨n,u',?_,v,x,hs⟩;obtain⟨a,t,w,rfl,_,_⟩:=hs;obtain⟨a0,h,l,rfl,_,_⟩:=g;have y:Run (ev Γ (.var i)) st (.bor i,b) st:=by
  have:=dS p (by rintro rfl;cases f);unfold kv at this;rw[ņ f]at this;exact this
 have c:[((Kd.bor i,b):Kd×U),(.loc,.int m)].map (d0 st1)=[(.bor i,fK a0 h l),(.loc,.int m)]:=by
  show [d0 st1 (.bor i,b),(.loc,.int m)]=_;unfold d0
  dsimp only
  rw[d];simp[hk]
 refine sJ (rs:=[(.bor i,b),(.loc,.int m)]) (ws:=[fK a t w]) (st1:=st1) (af y (af q ai)) ?_ ?_ (.inr rfl) ?_ ?_
 ·rw[c];exact⟨⟨k,hk,d⟩,trivial⟩
 ·rw[c];exact s
 ·rw[c];show((b8&&cK ([a5 i].Nodup))&&(b8&&(b8&&b8)))=b8;simp
 ·rw[c];show(match ib [(Kd.bor i,fK a0 h l),(.loc,.int m)] 0 with|some j=>(match fK a t w,st1[j]? with|.lst us,a5 (a5 (k,_))=>gP _ [] [] (st1.set j (a5 (k,.lst us)))|_,_=>bD)|none=>bD)=_;show(match fK a t w,st1[i]? with|.lst us,a5 (a5 (k,_))=>gP _ [] [] (st1.set i (a5 (k,.lst us)))|_,_=>bD)=_;rw[d];rfl
theorem c9(b:bA Γ)(a:st[i]?=a5 (a5 (k,u)))(hk:k.root=b8)(c:Run (ev Γ e) st (.loc,.int m) st)(d:Src T u)(f:T<2 ^ 62)(m0:0<m)(m1:m<1073741824):
  ∃n u',Run (ev Γ (.IT "_law_draw" [.var i,e] [0])) st (.loc,.int n) (st.set i (a5 (k,u')))/\0<=n/\n<m/\Src (T+1) u':=zB b a hk c a hk d f m0 m1
end
section
theorem jz(h:st[i]?=a5 (a5 (.loc,.bl b))):Run (Jh Γ (.var i)) st b st:=aa (dS h) (cj rfl)
end
noncomputable def zC:List S :=
   [.set 6 (.idx (.var 1) (.IT "_law_draw" [.var 0,.bi .len [.var 1]] [0])),
   .ite (.and [.var 3,.cmp .gt (.var 2) (.cst (.int 0))])
    [.set 6 (.idx (.var 1) (.IT "_law_draw" [.var 0,.var 2] [0]))]
    [],
   .ite (.cmp .I0 (.var 6) (.var 4))
    [.app 4 (.var 6)]
    []]
noncomputable def Ht:List U:=[.int 0,.int 1,.int 1,.int 2,.int 2,.int 3,.int 8,.int 2]
noncomputable def Hu:List S :=
   [.set 4 (.lst []),
    .Ji cc [5] .JT [.idx (.lst [.cst (.int 0),.cst (.int 1),.cst (.int 1),.cst (.int 2),.cst (.int 2),.cst (.int 3),.cst (.int 8),.cst (.int 2)]) (.IT "_law_draw" [.var 0,.cst (.int 8)] [0])] zC,
    .ret (.tup [(.idx (.var 1) (.var 2)),(.bi .tuple [(.var 4)])])]
noncomputable def Fx:Fn:=⟨"_law_row",4,7,.Mc [0]::Hu⟩
noncomputable def dY(u:U)(ws:List Str)(at_:Int)(b:Bool)(told:List Str)(o5 o6:Option (Kd×U)):aw:=[a5 (.io,u),a5 (.any,.lst (ws.map .str)),a5 (.loc,.int at_),a5 (.loc,.bl b),a5 (.own,.lst (told.map .str)),o5,o6]
theorem pG{ws:List Str}{n:Int}(b:0<=n)(c:n<ws.length):∃x,x∈ws/\ws[n.toNat]?=a5 x/\JP (ws.map U.str) n=a5 (.str x):=by
 obtain⟨k,rfl⟩:=uk b;have a:k<ws.length:=by lia
 exact⟨ws[k],KX a,by simp[a],eC (by simp[a])⟩
theorem zD(h:bA Γ)(r:Src T u)(D:T+1<2 ^ 62)(G:ws.length<1000000)(a0:0<=at_)(H:at_<ws.length)(I:told.length<=8):
  ∃u' x a,Run (execs Γ zC) (dY u ws at_ b told o5 o6) .nx (dY u' ws at_ b a o5 (a5 (.any,.str x)))/\Src (T+2) u'/\(a=told\/(x∈ws/\x∉told/\a=told++[x])):=by
 have s:(8:Nat)<cL:=by decide
 obtain⟨n,d,t,v,j,s1⟩:=c9 (st:=dY u ws at_ b told o5 o6) h (i:=0) (k:=.io) (e:=.bi .len [.var 1]) (m:=((ws.map U.str).length:Nat)) rfl rfl (cC (af (aU rfl) ai) trivial cm) r ⋯ (by simp;lia) (by simp;lia);rw[dt]at j;obtain⟨x,w,_,ex⟩:=pG v j;have l:Run (ev Γ (.idx (.var 1) (.IT "_law_draw" [.var 0,.bi .len [.var 1]] [0]))) (dY u ws at_ b told o5 o6) (.any,.str x) (dY d ws at_ b told o5 o6):=ba (aU rfl) t trivial (bZ (k:=.any) ex);have c:∀(u2:U) (y:Str),y∈ws->Src (T+2) u2->∃u' x a,Run (execs Γ [.ite (.cmp .I0 (.var 6) (.var 4)) [.app 4 (.var 6)] []]) (dY u2 ws at_ b told o5 (a5 (.any,.str y))) .nx (dY u' ws at_ b a o5 (a5 (.any,.str x)))/\Src (T+2) u'/\(a=told\/(x∈ws/\x∉told/\a=told++[x])):=by
  intro u2 y f hs;by_cases g:y∈told
  ·refine⟨u2,y,told,?_,hs,.inl rfl⟩;refine aV (aN (aU rfl) (aD rfl) ∅ (fb.trans (by simp[g]))) av av
  ·refine⟨u2,y,told++[y],?_,hs,.inr ⟨f,g,rfl⟩⟩;refine dW (aN (aU rfl) (aD rfl) ∅ (fb.trans (by simp[g]))) (e_ (k:=.own) (k':=.own) rfl (aU rfl) (qI rfl) rfl rfl (by simp;lia) av) ?_;rw[show told.map U.str++[U.str y]=(told++[y]).map U.str by simp];exact av
 by_cases o:b=b8/\0<at_
 ·obtain⟨rfl,p⟩:=o;obtain⟨J,u2,A,B,L,s2⟩:=c9 (st:=dY d ws at_ b8 told o5 (a5 (.any,.str x))) h (i:=0) (k:=.io) (e:=.var 2) (m:=at_) rfl rfl (ae rfl) s1 ⋯ p ⋯;obtain⟨y,f,_,C⟩:=pG (ws:=ws) B ⋯;obtain⟨u',z,a,q,hs,ho⟩:=c u2 y f (s2.up ⋯);refine⟨u',z,a,ax l jO (dW (gR (lI (jz rfl) (c7 (aN (ae rfl) aj trivial (jP (by simp[p])))))) (ax (ba (aU rfl) A trivial (bZ (k:=.any) C)) jO av) q),hs,ho⟩
 ·obtain⟨u',z,a,q,hs,ho⟩:=c d x w (s1.up ⋯);refine⟨u',z,a,ax l jO (aV (st1:=dY d ws at_ b told o5 (a5 (.any,.str x))) (gR ?_) av q),hs,ho⟩;cases b with
  |false=>exact sH (jz rfl)
  |true=>exact lI (jz rfl) (c7 (aN (ae rfl) aj trivial (jP (by simp at o ⊢;lia))))
def lS(Γ:Tab):Prop:=∀(T at_:Int) (u:U) (ws:List Str) (b:Bool),Src T u->T+17<2 ^ 62->ws.length<1000000->0<=at_->at_<ws.length->∃(x:Str) (told:List Str) (u':U),Γ "_law_row" [u,.lst (ws.map .str),.int at_,.bl b]=a5 (.ok (.loc,.tup [.tup [.str x,.tup (told.map .str)],u']))/\ws[at_.toNat]?=a5 x/\told.Nodup/\(∀y∈told,y∈ws)/\told.length<=8/\Src (T+17) u'
theorem Cu(a:0<=n)(b:n<8):∃m:Nat,m<=8/\JP Ht n=a5 (.int (m:Nat)):=by
 obtain⟨k,rfl⟩:=uk a;have:k=0\/k=1\/k=2\/k=3\/k=4\/k=5\/k=6\/k=7:=by lia
 rcases this with rfl|rfl|rfl|rfl|rfl|rfl|rfl|rfl
 ·exact⟨0,⋯,rfl⟩
 ·exact⟨1,⋯,rfl⟩
 ·exact⟨1,⋯,rfl⟩
 ·exact⟨2,⋯,rfl⟩
 ·exact⟨2,⋯,rfl⟩
 ·exact⟨3,⋯,rfl⟩
 ·exact⟨8,⋯,rfl⟩
 ·exact⟨2,⋯,rfl⟩
theorem Cv(l:bA Γ){ws:List Str}{T at_:Int}(o:Src T u)(hT:T+17<2 ^ 62)(A:ws.length<1000000)(a0:0<=at_)(p:at_<ws.length):
  ∃(x:Str) (told:List Str) (u':U),gF Γ Fx [0] Hu [u,.lst (ws.map .str),.int at_,.bl b]=a5 (.ok (.loc,.tup [.tup [.str x,.tup (told.map .str)],u']))/\ws[at_.toNat]?=a5 x/\told.Nodup/\(∀y∈told,y∈ws)/\told.length<=8/\Src (T+17) u':=by
 have B:(8:Nat)<cL:=by decide
 obtain⟨x,_,C,ex⟩:=pG a0 p;obtain⟨n,s,D,G,H,s1⟩:=c9 (st:=dY u ws at_ b [] bD bD) l (i:=0) (k:=.io) (e:=.cst (.int 8)) (m:=8) rfl rfl aj o ⋯ ⋯ ⋯;obtain⟨m,hm,em⟩:=Cu G H;obtain⟨st',I,u2,told,o5,o6,rfl,s2,g,j,v,_⟩:=bL (rs:=[(.loc,.int (m:Nat))]) (t:=cc) (is:=[5]) (body:=execs Γ zC) (λi:Nat=>(Kd.loc,U.int (0+(i:Int)))) (λd r st=>∃(u2:U) (told:List Str) (o5 o6:Option (Kd×U)),st=dY u2 ws at_ b told o5 o6/\Src (T+1+2 * (d.length:Nat)) u2/\told.Nodup/\(∀y∈told,y∈ws)/\told.length<=d.length/\d.length+r.length=m)
  (λd r st _=>trivial) (λd y r st h=>by
   obtain⟨u2,told,o5,o6,rfl,s2,g,j,v,J⟩:=h;simp only[ke]at J;obtain⟨L,z,N,q,s3,ho⟩:=zD l (u:=u2) (ws:=ws) (told:=told) (b:=b) (at_:=at_) (o5:=a5 (.loc,.int (0+(y:Int)))) (o6:=o6) s2 ⋯ A a0 p ⋯;refine⟨dY u2 ws at_ b told (a5 (.loc,.int (0+(y:Int)))) o6,_,aF,q,L,N,_,_,rfl,s3.up (by simp;lia),?_⟩;rw[i0,Lq];rcases ho with rfl|⟨O,Q,rfl⟩
   ·exact⟨g,j,⋯,⋯⟩
   ·refine⟨t5.mpr ⟨g,by simp,λa Y c w=>by rw[i2]at w;subst w;exact λe=>Q (e▸Y)⟩,λy hy=>?_,by simp;lia,⋯⟩;rcases i6.mp hy with hy|hy
    ·exact j y hy
    ·rw[i2]at hy;subst hy;exact O) (hJ m) [] (dY s ws at_ b [] bD bD) ⟨s,[],bD,bD,rfl,by simpa using s1,by simp,by simp,by simp,by simp⟩
 rw[i9,x2]at s2 v;refine⟨x,told,u2,?_,C,g,j,⋯,s2.up ⋯⟩;refine cp (st0:=[a5 (.io,u),a5 (.any,.lst (ws.map .str)),a5 (.loc,.int at_),a5 (.loc,.bl b),bD,bD,bD]) (f:=.rt .loc (.tup [.str x,.tup (told.map .str)])) (st:=dY u2 ws at_ b told o5 o6) rfl ?_ ?_ rfl rfl
 ·obtain⟨_,_,_,rfl,_⟩:=o;rfl
 refine ax (st2:=dY u ws at_ b [] bD bD) (bV ai trivial aI (lg _)) aY ?_;refine cF (rs:=[(.loc,.int (m:Nat))]) (af (ba (x:=(.own,.lst Ht)) (bV (by repeat (first|exact ai|exact af aj (by assumption)|apply af aj)) (by exact trivial) (by repeat (first|exact aI|apply aA aG)) (by decide)) D trivial (bZ em)) ai) trivial (ig ⋯) rfl I ?_;exact bG (lG (af (ba (aU rfl) (ae rfl) trivial (bZ (k:=.any) ex)) (af (cC (af (aD rfl) ai) ∅ rfl) ai)) trivial (aA (qI rfl) (aA aG aI)) (by show 2<=cL;lia)) dU
theorem Hv(a:bA (I_ Pg d))(h:Ju Pg "_law_row" Fx):lS (I_ Pg (d+1)):=by
 intro T at_ u ws b c f g a0 i;obtain⟨x,told,u',e,r⟩:=Cv a (b:=b) c f g a0 i;exact⟨x,told,u',by rw[cS h _ rfl];exact e,r⟩
noncomputable def C6:List S :=
   [.ite (.and [.cmp .eq (.idx (.var 2) (.cst (.int 0))) (.idx (.var 1) (.cst (.int 0))),.cmp .eq (.bi .sorted [.idx (.var 2) (.cst (.int 1))]) (.bi .sorted [.idx (.var 1) (.cst (.int 1))])])
    [.L0]
    []]
noncomputable def Hw:List S:=[.Ji cc [2] .seq [.var 0] C6,.app 0 (.var 1)]
noncomputable def Cw:Fn:=⟨"_law_lay",2,3,.Mc [0]::Hw⟩
noncomputable def gU(rs:List Row)(r:Row)(o:Option (Kd×U)):aw:=[a5 (.io,.lst (rs.map B')),a5 (.loc,B' r),o]
noncomputable def layR(rs:List Row)(r:Row):List Row:=if keyOf r∈rs.map keyOf then rs else rs++[r]
theorem zE(c:x.2.length<64)(d:r.2.length<64):Run (Jh Γ (.and [.cmp .eq (.idx (.var 2) (.cst (.int 0))) (.idx (.var 1) (.cst (.int 0))),.cmp .eq (.bi .sorted [.idx (.var 2) (.cst (.int 1))]) (.bi .sorted [.idx (.var 1) (.cst (.int 1))])])) (gU rs r (a5 (.loc,B' x))) (cK (keyOf x=keyOf r)) (gU rs r (a5 (.loc,B' x))):=by
 have a:∀y:Row,iH (.loc,B' y) (.int 0)=a5 (.loc,.str y.1):=λy=>rfl;have b:∀y:Row,iH (.loc,B' y) (.int 1)=a5 (.loc,.tup (y.2.map .str)):=λy=>rfl;have f:Run (Jh Γ (.cmp .eq (.idx (.var 2) (.cst (.int 0))) (.idx (.var 1) (.cst (.int 0))))) (gU rs r (a5 (.loc,B' x))) (cK (x.1=r.1)) (gU rs r (a5 (.loc,B' x))):=aN (ba (ae rfl) aj trivial (a x)) (ba (ae rfl) aj trivial (a r)) trivial pz;have g:Run (Jh Γ (.cmp .eq (.bi .sorted [.idx (.var 2) (.cst (.int 1))]) (.bi .sorted [.idx (.var 1) (.cst (.int 1))]))) (gU rs r (a5 (.loc,B' x))) (cK (aB x.2=aB r.2)) (gU rs r (a5 (.loc,B' x))):=aN (cC (af (ba (ae rfl) aj trivial (b x)) ai) trivial (sorted_strs c)) (cC (af (ba (ae rfl) aj trivial (b r)) ai) trivial (sorted_strs d)) trivial zi;have e:cK (keyOf x=keyOf r)=(cK (x.1=r.1)&&cK (aB x.2=aB r.2)):=by
  rw[<-Bool.decide_and];exact decide_eq_decide.mpr (by unfold keyOf;exact Wx ..▸Iff.rfl)
 rw[e];exact gR (lK f λ_=>c7 g)
theorem Fy:Run (execs Γ (.L0::ss)) st (.rt .loc .IU) st:=qJ (aO)
theorem qZ(c:r.2.length<64):∀(xs:List Row) (o:Option (Kd×U)),(∀x∈xs,x.2.length<64) ->
  ∃b,Run (forM cc [2] (execs Γ C6) [(.bor 0,.lst (rs.map B'))] (xs.map λx=>(Kd.loc,B' x))) (gU rs r o) (if keyOf r∈xs.map keyOf then .rt .loc .IU else .nx) (gU rs r b)
 |[],o,_=>⟨o,by rw[Ň (by simp)];exact C4 ⟨⟨_,rfl,rfl⟩,trivial⟩⟩
 |x::xs,o,h=>by
  have a:=zE (Γ:=Γ) (rs:=rs) (h x (by simp)) c;by_cases hk:keyOf x=keyOf r
  ·refine⟨a5 (.loc,B' x),?_⟩;rw[ņ (by simp[hk])];rw[ŉ hk]at a;exact IF ⟨⟨_,rfl,rfl⟩,trivial⟩ aF (fC a Fy)
  ·rw[ň hk]at a;obtain⟨b,q⟩:=qZ (Γ:=Γ) (rs:=rs) c xs (a5 (.loc,B' x)) λy d=>h y (by simp[d]);refine⟨b,?_⟩;have f:(keyOf r∈(x::xs).map keyOf)↔(keyOf r∈xs.map keyOf):=by
    rw[et,d7];exact⟨λz=>z.resolve_left λe=>hk e.symm,.inr⟩
   rw[show(if keyOf r∈(x::xs).map keyOf then Fl.rt .loc .IU else Fl.nx)=(if keyOf r∈xs.map keyOf then Fl.rt .loc .IU else Fl.nx) by simp only[f]];exact Hf ⟨⟨_,rfl,rfl⟩,trivial⟩ aF (aV a av av) q
theorem Cy(b:r.2.length<64)(h:∀x∈rs,x.2.length<64)(hl:rs.length<1000):gF Γ Cw [0] Hw [.lst (rs.map B'),B' r]=a5 (.ok (.loc,.tup [.IU,.lst ((layR rs r).map B')])):=by
 have c:(1000:Nat)<cL:=by decide
 obtain⟨d,q⟩:=qZ (Γ:=Γ) b rs bD h;have hs:cY [0] [.lst (rs.map B'),B' r] Cw.ns=gU rs r bD:=by
  show [a5 (Kd.io,U.lst (rs.map B')),a5 (if Jl (B' r)=b8 then Kd.loc else Kd.any,B' r),bD]=_;rw[ņ (uT r)];rfl
 have a:K' .seq [(Kd.bor 0,U.lst (rs.map B'))]=a5 (rs.map λx=>(Kd.loc,B' x)):=by
  show a5 ((rs.map B').map λu=>(kE (.bor 0),u))=_;rw[kj];rfl
 unfold layR;by_cases hk:keyOf r∈rs.map keyOf
 ·rw[ņ hk]at q ⊢;exact cp (f:=.rt .loc .IU) rfl hs (qJ (C3 (af (du rfl) ai) ⟨⟨_,rfl,rfl⟩,trivial⟩ a rfl q)) rfl rfl
 ·rw[Ň hk]at q ⊢;refine cp (f:=.nx) (st:=gU (rs++[r]) r d) rfl hs (cF (af (du rfl) ai) ⟨⟨_,rfl,rfl⟩,trivial⟩ a rfl q (e_ (k:=.io) (k':=.io) rfl (ae rfl) aG rfl rfl (by simp;lia) ?_)) rfl rfl;rw[show rs.map B'++[B' r]=(rs++[r]).map B' by simp];exact av
def lT(Γ:Tab):Prop:=∀(rs:List Row) (r:Row),r.2.length<64->(∀x∈rs,x.2.length<64)->rs.length<1000->Γ "_law_lay" [.lst (rs.map B'),B' r]=a5 (.ok (.loc,.tup [.IU,.lst ((layR rs r).map B')]))
theorem Hx(h:Ju Pg "_law_lay" Cw):lT (I_ Pg (d+1)):=λrs r a b hl=>by
 rw[cS h _ rfl];exact Cy a b hl
noncomputable def RL:Kd×U->Bool
 |(.bor _,_)=>cc
 |_=>b8
section
theorem zF(h:RL r=b8):d0 st r=r:=by
 obtain⟨k,u⟩:=r;cases k<;>first|rfl|cases h
theorem wK(h:RL r=b8):t_ a r=b8:=by
 obtain⟨k,u⟩:=r;cases k<;>first|rfl|cases h
theorem zG(h:rs.all RL=b8):bq rs st:=by
 induction rs with
 |nil=>trivial
 |cons r rs a =>
  obtain⟨k,u⟩:=r;rw[ą,cb]at h;have:=a h.2;cases k<;>first|exact this|cases h.1
theorem il(l:st[i]?=a5 (a5 (k0,a)))(g:k0.root=b8)(m:Run (bp Γ es) st rs st1)(c:st1[i]?=a5 (a5 (k,.lst us)))(hk:k.root=b8)(n:cB us=b8)(d:rs.all RL=b8)
  (o:Γ f (.lst us::rs.map (·.2))=a5 (.ok (e,.tup [v,.lst h]))) (p:e=.own\/e=.loc):Run (ev Γ (.IT f (.var i::es) [0])) st (e,v) (st1.set i (a5 (k,.lst h))):=by
 have s:Run (ev Γ (.var i)) st (.bor i,a) st:=by
  have:=dS l (by rintro rfl;cases g);unfold kv at this;rw[ņ g]at this;exact this
 have t:d0 st1 (.bor i,a)=(.bor i,.lst us):=by
  unfold d0
  dsimp only
  rw[c];simp[hk]
 have u:rs.map (d0 st1)=rs:=by
  conv=>rhs;rw[<-Zx rs]
  exact w6 λr w=>zF (ki.mp d r w)
 have b:((Kd.bor i,a)::rs).map (d0 st1)=(.bor i,.lst us)::rs:=by rw[et,t,u]
 have j:ib ((Kd.bor i,U.lst us)::rs) 0=a5 i:=by
  show(if cB us=b8 then a5 i else bD)=_;rw[ņ n]
 refine sJ (rs:=(.bor i,a)::rs) (ws:=[.lst h]) (st1:=st1) (af s m) ?_ ?_ p ?_ ?_
 ·rw[b];exact⟨⟨k,hk,c⟩,zG d⟩
 ·rw[b];exact o
 ·rw[b];unfold qr;rw[cb,cb];refine⟨⟨by simp[j],by simp⟩,ki.mpr λq x=>?_⟩;cases q with
  |zero=>simp
  |succ q =>
   have hl:q<rs.length:=by have:=u5.mp x;simpa using this
   rw[LJ];refine .inr (wK ?_);rw[show((Kd.bor i,U.lst us)::rs).getD (q+1) (.loc,.IU)=rs[q] by simp[OB,hl]];exact ki.mp d _ (KX hl)
 ·rw[b];unfold gP;rw[j]
  dsimp only
  rw[c];rfl
end
section
theorem zH(p:lS Γ){ws:List Str}(c:st[i]?=a5 (a5 (k0,G)))(d:k0.root=b8)(f:st[j]?=a5 (a5 (kw,.lst (ws.map .str))))(q:kw=.loc\/kw=.any)(g:Run (ev Γ e) st (.loc,.int at_) st1)(h:Run (ev Γ t) st1 (.loc,.bl b) st2)
  (l:st2[i]?=a5 (a5 (k,u))) (hk:k.root=b8) (m:Src T u) (s:T+17<2 ^ 62) (v:ws.length<1000000) (a0:0<=at_) (z:at_<ws.length) :
  ∃(r:Row) (u':U),Run (ev Γ (.IT "_law_row" [.var i,.var j,e,t] [0])) st (.loc,B' r) (st2.set i (a5 (k,u')))/\ws[at_.toNat]?=a5 r.1/\r.2.Nodup/\(∀y∈r.2,y∈ws)/\r.2.length<=8/\Src (T+17) u':=by
 obtain⟨x,told,u',n,A,B,C,D,o⟩:=p T at_ u ws b m s v a0 z;refine⟨(x,told),u',?_,A,B,C,D,o⟩;obtain⟨a,t',w,rfl,_,_⟩:=m;obtain⟨H,I,J,rfl,_,_⟩:=o;rcases q with rfl|rfl
 ·exact il (rs:=[(.loc,.lst (ws.map .str)),(.loc,.int at_),(.loc,.bl b)]) c d (af (ae f) (af g (af h ai))) l hk rfl rfl n (.inr rfl)
 ·exact il (rs:=[(.any,.lst (ws.map .str)),(.loc,.int at_),(.loc,.bl b)]) c d (af (aU f) (af g (af h ai))) l hk rfl rfl n (.inr rfl)
theorem zI(a:lT Γ)(b:st[i]?=a5 (a5 (k0,j)))(c:k0.root=b8)(d:Run (ev Γ e) st (.loc,B' r) st1)(f:st1[i]?=a5 (a5 (k,.lst (rs.map B'))))(hk:k.root=b8)(g:r.2.length<64)(h:∀x∈rs,x.2.length<64)(hl:rs.length<1000):
  Run (ev Γ (.IT "_law_lay" [.var i,e] [0])) st (.loc,.IU) (st1.set i (a5 (k,.lst ((layR rs r).map B')))) :=
 il (rs:=[(.loc,B' r)]) b c (af d ai) f hk (bJ rs) rfl (a rs r g h hl) (.inr rfl)
theorem C7(a:Run (ev Γ e) st r st1)(b:Run (execs Γ ss) st1 f st2):Run (execs Γ (.exp e::ss)) st f st2:=gb (aa a aO) b
def iY(Γ:Tab):Prop:=(∀k:Int,Γ "_law_source" [.lst [],.int k]=a5 (.ok (.own,.tup [fK k 0 1,.lst []])))/\∀(ns:List Int) (c k:Int),Γ "_law_source" [.lst ((ns++[c]).map .int),.int k]=a5 (.ok (.own,.tup [fK (c / 2) 0 (c % 2),.lst (ns.map .int)]))
theorem zJ(h:Ju Pg "_law_source" zu):iY (I_ Pg (d+1)):=⟨λk=>by rw[cS h _ rfl];exact zv,λns c k=>by rw[cS h _ rfl];exact zw⟩
theorem gC:∀ns:List Int,cB (ns.map U.int)=b8
 |[]=>rfl
 |n::ns=>by show(b8&&cB (ns.map U.int))=b8;rw[gC ns];rfl
theorem zK(a:iY Γ)(b:st[i]?=a5 (a5 (k0,h)))(d:k0.root=b8)(f:Run (ev Γ e) st (.loc,.int m) st1)(g:st1[i]?=a5 (a5 (k,.lst ((ns++[c]).map .int))))(hk:k.root=b8):
  Run (ev Γ (.IT "_law_source" [.var i,e] [0])) st (.own,fK (c / 2) 0 (c % 2)) (st1.set i (a5 (k,.lst (ns.map .int)))) :=
 il (rs:=[(.loc,.int m)]) b d (af f ai) g hk (gC _) rfl (a.2 ns c m) (.inl rfl)
theorem Fz(a:iY Γ)(b:st[i]?=a5 (a5 (k0,g)))(c:k0.root=b8)(d:Run (ev Γ e) st (.loc,.int m) st1)(f:st1[i]?=a5 (a5 (k,.lst [])))(hk:k.root=b8):
  Run (ev Γ (.IT "_law_source" [.var i,e] [0])) st (.own,fK m 0 1) (st1.set i (a5 (k,.lst []))) :=
 il (rs:=[(.loc,.int m)]) b c (af d ai) f hk rfl rfl (a.1 m) (.inl rfl)
end
noncomputable def sV:List S :=
   [.set 6 (.IT "_law_draw" [.var 1,.bi .len [.var 2]] [0]),
   .ite (.cmp .eq (.var 4) (.cst (.int 3)))
    [.set 6 (.bin .mod (.var 5) (.bi .len [.var 2]))]
    [],
   .exp (.IT "_law_lay" [(.var 3),(.IT "_law_row" [(.var 1),(.var 2),(.var 6),(.cmp .gt (.var 4) (.cst (.int 1)))] [0])] [0])]
noncomputable def sW:List S :=
   [.set 7 (.IT "_law_source" [.var 0,.cst (.int 0)] [0]),
   .exp (.IT "_law_lay" [(.var 3),(.IT "_law_row" [(.var 7),(.var 2),(.IT "_law_draw" [(.var 7),(.bi .len [(.var 2)])] [0]),(.cmp .eq (.var 4) (.cst (.int 2)))] [0])] [0])]
noncomputable def dq(ns:List Int)(u:U)(ws:List Str)(rs:List Row)(way:Int)(o5 o6 o7:Option (Kd×U)):aw:=[a5 (.io,.lst (ns.map .int)),a5 (.io,u),a5 (.any,.lst (ws.map .str)),a5 (.own,.lst (rs.map B')),a5 (.loc,.int way),o5,o6,o7]
def bR(ws:List Str)(r:Row):Prop:=r.1∈ws/\r.2.Nodup/\(∀y∈r.2,y∈ws)/\r.2.length<=8
def dk(ws:List Str)(rs:List Row):Prop:=(∀r∈rs,bR ws r)/\(rs.map keyOf).Nodup
theorem dk.lay(h:dk ws rs)(d:bR ws r):dk ws (layR rs r):=by
 unfold layR;split
 ·exact h
 ·rename_i hk;refine⟨λx hx=>?_,?_⟩
  ·rcases i6.mp hx with hx|hx
   ·exact h.1 x hx
   ·rw[i2]at hx;subst hx;exact d
  ·rw[kr];exact t5.mpr ⟨h.2,by simp,λa f c b=>by rw[Z4,i2]at b;subst b;exact λe=>hk (e▸f)⟩
theorem q9:(layR rs r).length<=rs.length+1:=by
 unfold layR;split
 ·lia
 ·simp
theorem wL(s:bA Γ)(v:lS Γ)(w:lT Γ){k:Nat}(y:Src T u)(N:T+18<2 ^ 62)(O:0<ws.length)(z:ws.length<1000000)(h:dk ws rs)(hl:rs.length<1000):
  ∃u' a c,Run (execs Γ sV) (dq ns u ws rs way (a5 (.loc,.int (0+(k:Int)))) o6 o7) .nx (dq ns u' ws a way (a5 (.loc,.int (0+(k:Int)))) c o7)/\Src (T+18) u'/\dk ws a/\a.length<=rs.length+1:=by
 obtain⟨n,f,l,A,o,s1⟩:=c9 (st:=dq ns u ws rs way (a5 (.loc,.int (0+(k:Int)))) o6 o7) s (i:=1) (k:=.io) (e:=.bi .len [.var 2]) (m:=((ws.map U.str).length:Nat)) rfl rfl (cC (af (aU rfl) ai) trivial cm) y ⋯ (by simp;lia) (by simp;lia);rw[dt]at o;have d:∀at_:Int,0<=at_->at_<ws.length->∃u' a c,Run (execs Γ [.exp (.IT "_law_lay" [.var 3,.IT "_law_row" [.var 1,.var 2,.var 6,.cmp .gt (.var 4) (.cst (.int 1))] [0]] [0])]) (dq ns f ws rs way (a5 (.loc,.int (0+(k:Int)))) (a5 (.loc,.int at_)) o7) .nx (dq ns u' ws a way (a5 (.loc,.int (0+(k:Int)))) c o7)/\Src (T+18) u'/\dk ws a/\a.length<=rs.length+1:=by
  intro at_ a0 B;obtain⟨r,u2,q,C,D,G,H,I⟩:=zH (st:=dq ns f ws rs way (a5 (.loc,.int (0+(k:Int)))) (a5 (.loc,.int at_)) o7) (st1:=dq ns f ws rs way (a5 (.loc,.int (0+(k:Int)))) (a5 (.loc,.int at_)) o7) (st2:=dq ns f ws rs way (a5 (.loc,.int (0+(k:Int)))) (a5 (.loc,.int at_)) o7) v (i:=1) (j:=2) (e:=.var 6) (t:=.cmp .gt (.var 4) (.cst (.int 1))) (k0:=.io) (k:=.io) (kw:=.any) (b:=cK (1<way)) rfl rfl rfl (.inr rfl) (ae rfl) (nE (ae rfl) aj trivial (jP rfl)) rfl rfl s1 ⋯ z a0 B;have J:bR ws r:=⟨my C,D,G,H⟩
  exact⟨u2,layR rs r,_,C7 (zI w (k0:=.own) (k:=.own) (rs:=rs) rfl rfl q rfl rfl ⋯ (λx L=>by have:=(h.1 x L).2.2.2;lia) hl) av,I.up ⋯,h.lay J,q9⟩
 by_cases p:way=3
 ·subst p;obtain⟨u',a,c,q,g⟩:=d ((0+(k:Int)) % (ws.length:Nat)) (QY _ ⋯) (R3 _ ⋯);refine⟨u',a,c,ax l aF (dW (aN (ae rfl) aj trivial (cq rfl)) (ax (bF (ae rfl) (cC (af (aU rfl) ai) trivial cm) trivial (eG (by simp;lia))) aF av) ?_),g⟩;rw[dt];exact q
 ·obtain⟨u',a,c,q,g⟩:=d n A o;exact⟨u',a,c,ax l aF (aV (aN (ae rfl) aj trivial (cq (by simp[p]))) av q),g⟩
theorem wM(o:iY Γ)(p:bA Γ)(s:lS Γ)(w:lT Γ)(L:0<ws.length)(y:ws.length<1000000)(d:dk ws rs)(hl:rs.length<1000):
  ∃a z,Run (execs Γ sW) (dq (ns++[c]) u ws rs way o5 o6 o7) .nx (dq ns u ws a way o5 o6 z)/\dk ws a/\a.length<=rs.length+1:=by
 have f:=zK (st:=dq (ns++[c]) u ws rs way o5 o6 o7) (st1:=dq (ns++[c]) u ws rs way o5 o6 o7) o (i:=0) (k0:=.io) (k:=.io) (e:=.cst (.int 0)) (m:=0) rfl rfl aj rfl rfl;have g:Src 0 (fK (c / 2) 0 (c % 2)):=⟨_,_,_,rfl,⋯,⋯⟩
 generalize fK (c / 2) 0 (c % 2)=v at f g;obtain⟨n,h,A,B,l,s1⟩:=c9 (st:=dq ns u ws rs way o5 o6 (a5 (.own,v))) p (i:=7) (k:=.own) (e:=.bi .len [.var 2]) (m:=((ws.map U.str).length:Nat)) rfl rfl (cC (af (aU rfl) ai) trivial cm) g ⋯ (by simp;lia) (by simp;lia);rw[dt]at l;obtain⟨r,u2,q,C,D,G,H,N⟩:=zH (st:=dq ns u ws rs way o5 o6 (a5 (.own,v))) (st1:=dq ns u ws rs way o5 o6 (a5 (.own,h))) (st2:=dq ns u ws rs way o5 o6 (a5 (.own,h))) s (i:=7) (j:=2) (t:=.cmp .eq (.var 4) (.cst (.int 2))) (k0:=.own) (k:=.own) (kw:=.any) (b:=(way==2)) rfl rfl rfl (.inr rfl) A (nE (ae rfl) aj trivial (cq rfl)) rfl rfl s1 ⋯ y B l;have I:bR ws r:=⟨my C,D,G,H⟩
 exact⟨layR rs r,a5 (.own,u2),ax (st2:=dq ns u ws rs way o5 o6 (a5 (.own,v))) f aY (C7 (zI w (k0:=.own) (k:=.own) (rs:=rs) rfl rfl q rfl rfl ⋯ (λx J=>by have:=(d.1 x J).2.2.2;lia) hl) av),d.lay I,q9⟩
noncomputable def sX:E:=.and [.cmp .gt (.bi .len [.var 0]) (.cst (.int 0)),.cmp .lt (.bi .len [.var 3]) (.cst (.int 60))]
theorem nO:Run (Jh Γ sX) (dq ns u ws rs way o5 o6 o7) (cK (0<ns.length)&&cK (rs.length<60)) (dq ns u ws rs way o5 o6 o7):=by
 refine gR (lK (aN (cC (af (du rfl) ai) ∅ cm) aj trivial (jP ?_)) λ_=>c7 (aN (cC (af (aD rfl) ai) ∅ cm) aj trivial (Hh ?_)))
 ·rw[dt];exact decide_eq_decide.mpr ⋯
 ·rw[dt];exact decide_eq_decide.mpr ⋯
theorem sY(m:iY Γ)(n:bA Γ)(o:lS Γ)(p:lT Γ)(q:0<ws.length)(r:ws.length<1000000):
  ∀(k f:Nat) (ns:List Int) (rs:List Row) (o7:Option (Kd×U)),ns.length=k->k<f->dk ws rs->rs.length<=60->∃d b i,Run (gE (Jh Γ sX) (execs Γ sW) f) (dq ns u ws rs way o5 o6 o7) .nx (dq d u ws b way o5 o6 i)/\dk ws b/\b.length<=60/\d.length<=ns.length:=by
 intro k;induction k with
 |zero =>
  intro f ns rs o7 hk s h hl;obtain⟨f,rfl⟩:∃g,f=g+1:=⟨f - 1,⋯⟩
  have a:=nO (Γ:=Γ) (ns:=ns) (u:=u) (ws:=ws) (rs:=rs) (way:=way) (o5:=o5) (o6:=o6) (o7:=o7);rw[ň (show ¬0<ns.length by lia)]at a;exact⟨ns,rs,o7,uV a,h,hl,hV _⟩
 |succ k t =>
  intro f ns rs o7 hk s h hl;obtain⟨f,rfl⟩:∃g,f=g+1:=⟨f - 1,⋯⟩
  have a:=nO (Γ:=Γ) (ns:=ns) (u:=u) (ws:=ws) (rs:=rs) (way:=way) (o5:=o5) (o6:=o6) (o7:=o7);rw[ŉ (show 0<ns.length by lia)]at a;by_cases j:rs.length<60
  ·rw[ŉ j]at a;obtain⟨ms,c,rfl⟩:∃ms c,ns=ms++[c]:=by
    have l:ns≠[]:=λe=>by rw[e]at hk;cases hk
    exact⟨ns.dropLast,ns.getLast l,(V1 l).symm⟩
   have v:ms.length=k:=by simpa using hk
   obtain⟨w,x,y,b1,C⟩:=wM (u:=u) (ws:=ws) (way:=way) (o5:=o5) (o6:=o6) (o7:=o7) (ns:=ms) (c:=c) m n o p q r h ⋯;obtain⟨d,b,i,z,A,B,D⟩:=t f ms w x v ⋯ b1 ⋯;exact⟨d,b,i,zq a y z,A,B,by simp;lia⟩
  ·rw[ň j]at a;exact⟨ns,rs,o7,uV a,h,hl,hV _⟩
noncomputable def C8:List S :=
   [.set 3 (.lst []),
    .set 4 (.IT "_law_draw" [.var 1,.cst (.int 4)] [0]),
    .Ji cc [5] .JT [.IT "_law_draw" [.var 1,.cst (.int 25)] [0]] sV,
    .NG sX sW,
    .ret (.bi .tuple [(.var 3)])]
noncomputable def pH:Fn:=⟨"_law_book",3,8,.Mc [0,1]::C8⟩
theorem sZ(x:iY Γ)(g:bA Γ)(l:lS Γ)(n:lT Γ){ns:List Int}(o:Src T u)(O:T+500<2 ^ 62)(Q:ns.length<1000)(p:0<ws.length)(s:ws.length<1000000):
  ∃(rs:List Row) (c:List Int) (u':U),gF Γ pH [0,1] C8 [.lst (ns.map .int),u,.lst (ws.map .str)]=a5 (.ok (.loc,.tup [.tup (rs.map B'),.lst (c.map .int),u']))/\dk ws rs/\rs.length<=60/\c.length<=ns.length/\Src (T+500) u':=by
 have z:(60:Nat)<cL:=by decide
 obtain⟨way,A,B,_,_,s1⟩:=c9 (st:=[a5 (.io,.lst (ns.map .int)),a5 (.io,u),a5 (.any,.lst (ws.map .str)),a5 (.own,.lst []),bD,bD,bD,bD]) g (i:=1) (k:=.io) (e:=.cst (.int 4)) (m:=4) rfl rfl aj o ⋯ ⋯ ⋯;obtain⟨m,u2,C,m0,m1,s2⟩:=c9 (st:=dq ns A ws [] way bD bD bD) g (i:=1) (k:=.io) (e:=.cst (.int 25)) (m:=25) rfl rfl aj s1 ⋯ ⋯ ⋯;obtain⟨m,rfl⟩:=uk m0;obtain⟨st',D,a,b,o5,o6,rfl,s3,b3,v,_⟩:=bL (rs:=[(.loc,.int (m:Nat))]) (t:=cc) (is:=[5]) (body:=execs Γ sV) (λi:Nat=>(Kd.loc,U.int (0+(i:Int)))) (λd r st=>∃(a:U) (b:List Row) (o5 o6:Option (Kd×U)),st=dq ns a ws b way o5 o6 bD/\Src (T+2+18 * (d.length:Nat)) a/\dk ws b/\b.length<=d.length/\d.length+r.length=m)
  (λd r st _=>trivial) (λd y r st h=>by
   obtain⟨a,b,o5,o6,rfl,s3,b3,v,G⟩:=h;simp only[ke]at G;obtain⟨H,I,Y,q,s4,b4,w⟩:=wL (ns:=ns) (way:=way) (k:=y) (o6:=o6) (o7:=bD) g l n s3 ⋯ p s b3 ⋯;refine⟨dq ns a ws b way (a5 (.loc,.int (0+(y:Int)))) o6 bD,_,aF,q,H,I,_,_,rfl,s4.up (by simp;lia),b4,?_,?_⟩
   ·simp;lia
   ·simp;lia) (hJ m) [] (dq ns u2 ws [] way bD bD bD) ⟨u2,[],bD,bD,rfl,s2.up (by simp;lia),⟨by simp,by simp⟩,by simp,by simp⟩
 rw[i9,x2]at s3 v;obtain⟨c,j,J,L,b4,w,N⟩:=sY x g l n (u:=a) (way:=way) (o5:=o5) (o6:=o6) p s ns.length fuel ns b bD rfl (by unfold fuel;lia) b3 ⋯;refine⟨j,c,a,?_,b4,w,N,s3.up ⋯⟩;refine cp (st0:=[a5 (.io,.lst (ns.map .int)),a5 (.io,u),a5 (.any,.lst (ws.map .str)),bD,bD,bD,bD,bD]) (f:=.rt .loc (.tup (j.map B'))) (st:=dq c a ws j way o5 o6 J) rfl ?_ ?_ rfl rfl
 ·obtain⟨_,_,_,rfl,_⟩:=o;rfl
 refine ax (bV ai trivial aI (lg _)) aY (ax B aF ?_);refine cF (rs:=[(.loc,.int (m:Nat))]) (af C ai) trivial (ig ⋯) rfl D (zr L ?_);exact bG (cC (af (aD rfl) ai) ∅ rfl) dU
end TM
namespace TM
open PySem L2 Jt
theorem zL{cond:M Bool}(it:α->Kd×U)(I:List α->List α->List U->aw->Prop)(hs:∀d r a st,I d r a st->bq src st)
  (Þ:∀d y q a st,I d (y::q) a st->∃s1 s2 s3 s4 r u,Run (dC t (hJ k) (it y)) (i5 k bD++st) () s1/\Run cond s1 b8 s2/\Run elt s2 r s3/\Run (lift r) s3 u s4/\I (d++[y]) q (a++[u]) (s4.drop k)) :
  ∀(b d:List α) (acc:List U) (st:aw),I d b acc st->acc.length+b.length<=cL->∃us st',Run (b_ k t cond elt src (b.map it) acc) st us st'/\I (d++b) [] us st'
 |[],d,acc,st,h,_=>⟨acc,st,uR (hs _ _ _ _ h),by rw[tj];exact h⟩
 |y::b,d,acc,st,h,hl=>by
  rw[ke]at hl;obtain⟨s1,s2,s3,s4,r,u,c,e,f,g,i⟩:=Þ d y b acc st h;obtain⟨us,st',j,l⟩:=zL it I hs Þ b (d++[y]) (acc++[u]) _ i (by simp;lia);exact⟨us,st',pk (hs _ _ _ _ h) c e f g ⋯ j,by simpa using l⟩
theorem q_(a:0<=n)(b:n<26):∃c,JP small.cps.toList n=a5 c:=by
 obtain⟨k,rfl⟩:=uk a;have hl:small.cps.toList.length=26:=by decide
 exact⟨small.cps.toList[k]'⋯,eC (by simp)⟩
theorem zM(g:bA Γ)(j:Src T u)(w:T+8<2 ^ 62):
  ∃x u',Run (ev Γ (.NF .join (.cst (.str "")) [.comp 1 cc .JT [.cst (.int 8)] [] (.idx (.var 2) (.IT "_law_draw" [.var 1,.cst (.int 26)] [0]))])) (a5 (.io,u)::a5 (.loc,.str small)::rest) (.loc,.str x) (a5 (.io,u')::a5 (.loc,.str small)::rest)/\x.length=8/\Src (T+8) u':=by
 have l:(100:Nat)<=cL:=by decide
 obtain⟨us,st',f,u',b,rfl,rfl,hl,hs,_⟩:=zL (k:=1) (t:=cc) (cond:=bf Γ []) (elt:=ev Γ (.idx (.var 2) (.IT "_law_draw" [.var 1,.cst (.int 26)] [0]))) (src:=[(.loc,.int (8:Nat))]) (λi:Nat=>(Kd.loc,U.int (0+(i:Int))))
  (λd r a st=>∃(u':U) (b:List Nat),st=a5 (.io,u')::a5 (.loc,.str small)::rest/\a=(b.map Jt.one).map U.str/\b.length=d.length/\Src (T+(d.length:Nat)) u'/\d.length+r.length=8) (λ_ _ _ _ _=>trivial)
  (λd y q a st h=>by
   obtain⟨u',b,rfl,rfl,hl,hs,o⟩:=h;rw[ke]at o;obtain⟨n,u2,r,p,s,s2⟩:=c9 (st:=a5 (.loc,.int (0+(y:Int)))::a5 (.io,u')::a5 (.loc,.str small)::rest) g (i:=1) (k:=.io) (e:=.cst (.int 26)) (m:=26) rfl rfl aj hs ⋯ ⋯ ⋯;obtain⟨c,f⟩:=q_ p s;refine⟨_,_,_,_,_,_,fD aF,nG,ba (ae rfl) r trivial (oy qL f),aG,u2,b++[c],rfl,by simp,by simp[hl],s2.up (by simp;lia),by simp;lia⟩)
  (hJ 8) [] [] (a5 (.io,u)::a5 (.loc,.str small)::rest) ⟨u,[],rfl,rfl,rfl,by simpa using j,by simp⟩ (by simp;lia)
 rw[i9,x2]at hl hs;have v:mE .join (.str "") [(.own,.lst ((b.map Jt.one).map U.str))]=a5 (.loc,.str (TY oT (b.map Jt.one))):=by
  show(strsOf ((b.map Jt.one).map U.str)).bind _=_;rw[dG];show(if þ oT (b.map Jt.one)=b8 then _ else _)=_;rw[ņ (Jt.qK b ⋯)];rfl
 refine⟨TY oT (b.map Jt.one),u',y_ aj (af (dX (af aj ai) trivial (ig (n:=8) ⋯) f) ai) trivial v,?_,hs⟩;show(TY oT (b.map Jt.one)).cps.size=8;rw[<-hU,Jt.join_ones,hl]
noncomputable def zN:List S:=[.app 7 (.ite (.cmp .eq (.var 10) (.cst (.int 1))) (.var 9) (.bin .add (.bin .add (.var 9) (.cst (.str "/"))) (.bi .str [.var 10])))]
noncomputable def zO:List S :=
   .ite (.cmp .eq (.var 4) (.cst (.int 3)))
    [.set 10 (.bin .add (.cst (.int 1)) (.IT "_law_draw" [.var 0,.cst (.int 99)] [0]))]
    []::zN
noncomputable def zP:List S :=
   .ite (.cmp .gt (.var 4) (.cst (.int 1)))
    [.set 9 (.bin .add (.idx (.var 1) (.bin .mod (.bin .add (.var 6) (.bin .mul (.cst (.int 7)) (.var 8))) (.cst (.int 26)))) (.M9 (.var 3) [.cst (.int 1)] [.var 5])),
    .set 10 (.cst (.int 1))]
    []::zO
noncomputable def s9:List S :=
   .set 9 (.M9 (.var 3) [] [.bin .add (.cst (.int 1)) (.bin .mod (.var 8) (.cst (.int 8)))]) ::
   .set 10 (.bin .add (.cst (.int 1)) (.bin .Oo (.var 8) (.cst (.int 8)))) ::
   .ite (.cmp .eq (.var 4) (.cst (.int 1)))
    [.set 9 (.M9 (.var 3) [] [.var 5]),
    .set 10 (.bin .add (.cst (.int 1)) (.var 8))]
    []::zP
noncomputable def zQ:List S :=
   [.set 1 (.cst (.str "abcdefghijklmnopqrstuvwxyz")),
    .set 2 (.bin .add (.cst (.int 1)) (.IT "_law_draw" [.var 0,.idx (.lst [.cst (.int 8),.cst (.int 16),.cst (.int 24)]) (.IT "_law_draw" [.var 0,.cst (.int 3)] [0])] [0])),
    .set 3 (.NF .join (.cst (.str "")) [.comp 1 cc .JT [.cst (.int 8)] [] (.idx (.var 2) (.IT "_law_draw" [.var 1,.cst (.int 26)] [0]))]),
    .set 4 (.IT "_law_draw" [.var 0,.cst (.int 4)] [0]),
    .set 5 (.bin .add (.cst (.int 1)) (.IT "_law_draw" [.var 0,.cst (.int 8)] [0])),
    .set 6 (.IT "_law_draw" [.var 0,.cst (.int 26)] [0]),
    .set 7 (.lst []),
    .Ji cc [8] .JT [.var 2] s9,
    .ret (.var 7)]
noncomputable def lU:Fn:=⟨"_law_words",1,11,.Mc [0]::zQ⟩
noncomputable def jA(u:U)(many:Int)(base:Str)(way size first:Int)(acc:List Str)(o8 o9 o10:Option (Kd×U)):aw:=[a5 (.io,u),a5 (.loc,.str small),a5 (.loc,.int many),a5 (.loc,.str base),a5 (.loc,.int way),a5 (.loc,.int size),a5 (.loc,.int first),a5 (.own,.lst (acc.map .str)),o8,o9,o10]
theorem kq(h:x.length<=cL):qq (k,.str x) lo a=a5 (.loc,.str (PySem.StrLaws.sliceText x lo a)):=by
 show(if x.length<=cL then _ else _)=_;rw[ņ h]
theorem nP(e:acc.length<1000)(f:w.length<=9)(g:1<=s)(s1:s<=99):
  ∃x:Str,x.length<=20/\Run (execs Γ zN) (jA u many base way size first acc o8 (a5 (.loc,.str w)) (a5 (.loc,.int s))) .nx (jA u many base way size first (acc++[x]) o8 (a5 (.loc,.str w)) (a5 (.loc,.int s))):=by
 have b:(1000:Nat)<=cL:=by decide
 by_cases h:s=1
 ·subst h;refine⟨w,⋯,e_ (k:=.own) (k':=.own) rfl (zb (aN (ae rfl) aj trivial (cq rfl)) (ae rfl)) aG rfl rfl (by simp;lia) ?_⟩;rw[show acc.map U.str++[U.str w]=(acc++[w]).map U.str by simp];exact av
 ·have i:=wG (k:=s) ⋯ s1;have c:KO .str [(.loc,.int s)]=a5 (.loc,.str (xF s)):=by
   simp only[KO,iI,Bh];rw[ņ (by
    have:s.natAbs<2 ^ 7:=by lia
    have d:s.natAbs≠0:=by lia
    have:=(Nat.log2_lt d).mpr this;lia)]
   rfl
  have a:(w++("/":Str)).length=w.length+1:=by rw[len_list,len_list,app_list,i0];rfl
  refine⟨w++("/":Str)++xF s,by rw[len_list,app_list,i0,<-len_list,<-len_list,a];lia,e_ (k:=.own) (k':=.own) rfl (zc (aN (ae rfl) aj trivial (cq (by simp[h]))) (bF (bF (ae rfl) aj trivial (pq (by show w.length+1<=cL;lia))) (cC (af (ae rfl) ai) trivial c) trivial (pq (by rw[a];lia)))) aG rfl rfl (by simp;lia) ?_⟩;rw[show acc.map U.str++[U.str (w++("/":Str)++xF s)]=(acc++[w++("/":Str)++xF s]).map U.str by simp];exact av
theorem nQ(g:bA Γ)(b:Src T u)(p:T+1<2 ^ 62)(c:acc.length<1000)(d:w.length<=9)(j:1<=s)(s1:s<=99):
  ∃u' x o9 o10,Run (execs Γ zO) (jA u many base way size first acc o8 (a5 (.loc,.str w)) (a5 (.loc,.int s))) .nx (jA u' many base way size first (acc++[x]) o8 o9 o10)/\Src (T+1) u'/\x.length<=20:=by
 by_cases h:way=3
 ·subst h;obtain⟨n,f,l,r,t,o⟩:=c9 (st:=jA u many base 3 size first acc o8 (a5 (.loc,.str w)) (a5 (.loc,.int s))) g (i:=0) (k:=.io) (e:=.cst (.int 99)) (m:=99) rfl rfl aj b ⋯ ⋯ ⋯;obtain⟨x,a,q⟩:=nP (Γ:=Γ) (u:=f) (many:=many) (base:=base) (way:=3) (size:=size) (first:=first) (acc:=acc) (o8:=o8) (w:=w) (s:=1+n) c d ⋯ ⋯;exact⟨f,x,_,_,dW (aN (ae rfl) aj trivial (cq rfl)) (ax (bF aj l trivial cA) aF av) q,o,a⟩
 ·obtain⟨x,a,q⟩:=nP (Γ:=Γ) (u:=u) (many:=many) (base:=base) (way:=way) (size:=size) (first:=first) (acc:=acc) (o8:=o8) (w:=w) (s:=s) c d j s1;exact⟨u,x,_,_,aV (aN (ae rfl) aj trivial (cq (by simp[h]))) av q,b.up ⋯,a⟩
theorem nR(a:bA Γ){k:Nat}(b:Src T u)(d:T+1<2 ^ 62)(e:acc.length<1000)(f:w.length<=9)(g:1<=s)(s1:s<=99)(p:base.length=8)(i:1<=size)(r:size<=8)(t:0<=first)(v:first<26)(hk:k<1000):
  ∃u' x o9 o10,Run (execs Γ zP) (jA u many base way size first acc (a5 (.loc,.int (0+(k:Int)))) (a5 (.loc,.str w)) (a5 (.loc,.int s))) .nx (jA u' many base way size first (acc++[x]) (a5 (.loc,.int (0+(k:Int)))) o9 o10)/\Src (T+1) u'/\x.length<=20:=by
 have j:(1000:Nat)<=cL:=by decide
 by_cases h:1<way
 ·have l:0<=(first+7 * (0+(k:Int))) % 26:=QY _ ⋯;have m:(first+7 * (0+(k:Int))) % 26<26:=R3 _ ⋯;obtain⟨c,n⟩:=q_ l m;have y:=len_list base;have z:(PySem.StrLaws.sliceText base (a5 1) (a5 size)).length<=8:=by
   rw[PySem.StrLaws.sliceText_plain ⟨⋯,i,⋯⟩,len_list];simp;lia
  have A:(Jt.one c).length=1:=rfl;have o:(Jt.one c++PySem.StrLaws.sliceText base (a5 1) (a5 size)).length<=9:=by rw[len_list,app_list,i0,<-len_list,<-len_list];lia
  obtain⟨u',x,o9,o10,q,hs⟩:=nQ (Γ:=Γ) a (u:=u) (many:=many) (base:=base) (way:=way) (size:=size) (first:=first) (acc:=acc) (o8:=a5 (.loc,.int (0+(k:Int)))) (w:=Jt.one c++PySem.StrLaws.sliceText base (a5 1) (a5 size)) (s:=1) b d e o ⋯ ⋯;refine⟨u',x,o9,o10,dW (aN (ae rfl) aj trivial (jP (by simp[h]))) (ax (bF (ba (ae rfl) (bF (bF (ae rfl) (bF aj (ae rfl) trivial (kG ⋯)) trivial cA) aj trivial (eG ⋯)) trivial (oy qL n)) (qH (ae rfl) (nF aj) (nF (ae rfl)) trivial (kq ⋯)) trivial (pq ⋯)) aF (ax aj aF av)) q,hs⟩
 ·obtain⟨u',x,o9,o10,q,hs⟩:=nQ (Γ:=Γ) a (u:=u) (many:=many) (base:=base) (way:=way) (size:=size) (first:=first) (acc:=acc) (o8:=a5 (.loc,.int (0+(k:Int)))) (w:=w) (s:=s) b d e f g s1;exact⟨u',x,o9,o10,aV (aN (ae rfl) aj trivial (jP (by simp[h]))) av q,hs⟩
theorem zR(a:0<=j)(b:x.length=8):(PySem.StrLaws.sliceText x bD (a5 j)).length<=9:=by
 obtain⟨j,rfl⟩:=uk a;have h:=len_list (PySem.StrLaws.sliceText x bD (a5 (j:Int)));have hl:=len_list x;rw[Fm]at h;rw[h,C0];lia
theorem wN(b:bA Γ){k:Nat}(c:Src T u)(d:T+1<2 ^ 62)(e:acc.length<1000)(a:base.length=8)(f:1<=size)(g:size<=8)(i:0<=first)(j:first<26)(hk:k<98):
  ∃u' x l m,Run (execs Γ s9) (jA u many base way size first acc (a5 (.loc,.int (0+(k:Int)))) o9 o10) .nx (jA u' many base way size first (acc++[x]) (a5 (.loc,.int (0+(k:Int)))) l m)/\Src (T+1) u'/\x.length<=20:=by
 have n:(1000:Nat)<=cL:=by decide
 have o:0<=(0+(k:Int)) % 8:=QY _ ⋯;by_cases h:way=1
 ·obtain⟨u',x,o9,o10,q,hs⟩:=nR (Γ:=Γ) b (u:=u) (many:=many) (base:=base) (way:=way) (size:=size) (first:=first) (acc:=acc) (k:=k) (w:=PySem.StrLaws.sliceText base bD (a5 size)) (s:=1+(0+(k:Int))) c d e (zR ⋯ a) ⋯ ⋯ a f g i j ⋯;exact⟨u',x,o9,o10,ax (qH (ae rfl) uP (nF (bF aj (bF (ae rfl) aj trivial (eG ⋯)) trivial cA)) trivial (kq ⋯)) aF (ax (bF aj (bF (ae rfl) aj trivial (lJ ⋯)) trivial cA) aF (dW (aN (ae rfl) aj trivial (cq (by simp[h]))) (ax (qH (ae rfl) uP (nF (ae rfl)) trivial (kq ⋯)) aF (ax (bF aj (ae rfl) trivial cA) aF av)) q)),hs⟩
 ·obtain⟨u',x,o9,o10,q,hs⟩:=nR (Γ:=Γ) b (u:=u) (many:=many) (base:=base) (way:=way) (size:=size) (first:=first) (acc:=acc) (k:=k) (w:=PySem.StrLaws.sliceText base bD (a5 (1+(0+(k:Int)) % 8))) (s:=1+(0+(k:Int)) / 8) c d e (zR ⋯ a) ⋯ ⋯ a f g i j ⋯;exact⟨u',x,o9,o10,ax (qH (ae rfl) uP (nF (bF aj (bF (ae rfl) aj trivial (eG ⋯)) trivial cA)) trivial (kq ⋯)) aF (ax (bF aj (bF (ae rfl) aj trivial (lJ ⋯)) trivial cA) aF (aV (aN (ae rfl) aj trivial (cq (by simp[h]))) av q)),hs⟩
theorem IG(a:0<=n)(b:n<3):∃m:Int,8<=m/\m<=24/\JP [U.int 8,.int 16,.int 24] n=a5 (.int m):=by
 obtain⟨k,rfl⟩:=uk a;have:k=0\/k=1\/k=2:=by lia
 rcases this with rfl|rfl|rfl
 ·exact⟨8,⋯,⋯,rfl⟩
 ·exact⟨16,⋯,⋯,rfl⟩
 ·exact⟨24,⋯,⋯,rfl⟩
theorem wO(a:bA Γ)(l:Src T u)(hT:T+100<2 ^ 62):
  ∃(ws:List Str) (u':U),gF Γ lU [0] zQ [u]=a5 (.ok (.own,.tup [.lst (ws.map .str),u']))/\1<=ws.length/\ws.length<=24/\Src (T+100) u'/\∀x∈ws,x.length<=20:=by
 have A:(1000:Nat)<=cL:=by decide
 let S1:U->aw:=λv=>[a5 (.io,v),a5 (.loc,.str small),bD,bD,bD,bD,bD,bD,bD,bD,bD]
 obtain⟨i,B,C,D,G,s1⟩:=c9 (st:=S1 u) a (i:=0) (k:=.io) (e:=.cst (.int 3)) (m:=3) rfl rfl aj l ⋯ ⋯ ⋯;obtain⟨m,m0,m1,em⟩:=IG D G;obtain⟨n,u2,H,n0,n1,s2⟩:=zB (st:=S1 u) (st1:=S1 B) a (i:=0) (k:=.io) (k0:=.io) (e:=.idx (.lst [.cst (.int 8),.cst (.int 16),.cst (.int 24)]) (.IT "_law_draw" [.var 0,.cst (.int 3)] [0])) (m:=m) rfl rfl (ba (x:=(.own,.lst [U.int 8,.int 16,.int 24])) (bV (af aj (af aj (af aj ai))) trivial (aA aG (aA aG (aA aG aI))) (by show 3<=cL;lia)) C trivial (bZ em)) rfl rfl s1 ⋯ ⋯ ⋯;obtain⟨base,b,I,J,s3⟩:=zM (rest:=[a5 (.loc,.int (1+n)),bD,bD,bD,bD,bD,bD,bD,bD]) a s2 ⋯;obtain⟨way,g,L,_,_,s4⟩:=c9 (st:=[a5 (.io,b),a5 (.loc,.str small),a5 (.loc,.int (1+n)),a5 (.loc,.str base),bD,bD,bD,bD,bD,bD,bD]) a (i:=0) (k:=.io) (e:=.cst (.int 4)) (m:=4) rfl rfl aj s3 ⋯ ⋯ ⋯;obtain⟨size,N,O,z0,z1,Q⟩:=c9 (st:=[a5 (.io,g),a5 (.loc,.str small),a5 (.loc,.int (1+n)),a5 (.loc,.str base),a5 (.loc,.int way),bD,bD,bD,bD,bD,bD]) a (i:=0) (k:=.io) (e:=.cst (.int 8)) (m:=8) rfl rfl aj s4 ⋯ ⋯ ⋯;obtain⟨first,o,Y,f0,f1,s6⟩:=c9 (st:=[a5 (.io,N),a5 (.loc,.str small),a5 (.loc,.int (1+n)),a5 (.loc,.str base),a5 (.loc,.int way),a5 (.loc,.int (1+size)),bD,bD,bD,bD,bD]) a (i:=0) (k:=.io) (e:=.cst (.int 26)) (m:=26) rfl rfl aj Q ⋯ ⋯ ⋯;obtain⟨many,QN⟩:=uk (show 0<=1+n by lia);obtain⟨st',hf,p,ws,o8,o9,o10,rfl,s,l7,b7,_⟩:=bL (rs:=[(.loc,.int (1+n))]) (t:=cc) (is:=[8]) (body:=execs Γ s9) (λi:Nat=>(Kd.loc,U.int (0+(i:Int)))) (λd r st=>∃(b:U) (ws:List Str) (o8 o9 o10:Option (Kd×U)),st=jA b (1+n) base way (1+size) first ws o8 o9 o10/\Src (T+13+(d.length:Nat)) b/\ws.length=d.length/\(∀x∈ws,x.length<=20)/\∃j,d=ĥ 0 j/\r=ĥ j (many - j)/\j<=many)
  (λd r st _=>trivial) (λd y r st h=>by
   obtain⟨b,ws,o8,o9,o10,rfl,s3,w,b3,j,rfl,c,hj⟩:=h;have ZZ:j<many:=by
    rcases Nat.lt_or_ge j many with z|z
    ·exact z
    ·rw[show many - j=0 by lia]at c;cases c
   rw[show many - j=(many - (j+1))+1 by lia,List.range'_succ]at c;cases c;rw[List.length_range']at s3 w;obtain⟨g,x,Kh,MI,q,s4,hx⟩:=wN (Γ:=Γ) a (u:=b) (many:=1+n) (base:=base) (way:=way) (size:=1+size) (first:=first) (acc:=ws) (k:=y) (o9:=o9) (o10:=o10) s3 ⋯ ⋯ J ⋯ ⋯ f0 f1 ⋯;refine⟨jA b (1+n) base way (1+size) first ws (a5 (.loc,.int (0+(y:Int)))) o9 o10,_,aF,q,g,ws++[x],_,_,_,rfl,s4.up (by simp;lia),by simp[w],λz hz=>(i6.mp hz).elim (b3 z) λhz=>by rw[i2.mp hz];exact hx,y+1,by have:=@List.range'_1_concat 0 y;simpa using this.symm,rfl,⋯⟩) (hJ many) [] (jA o (1+n) base way (1+size) first [] bD bD bD) ⟨o,[],bD,bD,bD,rfl,s6.up (by simp;lia),by simp,λ_ h=>(nomatch h),0,rfl,by rw[List.range_eq_range'];simp,⋯⟩
 rw[i9,x2]at s l7;refine⟨ws,p,?_,⋯,⋯,s.up ⋯,b7⟩;refine cp (st0:=[a5 (.io,u),bD,bD,bD,bD,bD,bD,bD,bD,bD,bD]) (f:=.rt .own (.lst (ws.map .str))) (st:=(jA p (1+n) base way (1+size) first ws o8 o9 o10).set 7 bD) rfl ?_ ?_ rfl rfl
 ·obtain⟨_,_,_,rfl,_⟩:=l;rfl
 refine ax (st2:=S1 u) aj aF (ax (bF aj H trivial cA) aF (ax I aF (ax L aF (ax (bF aj O trivial cA) aF (ax Y aF (ax (bV ai trivial aI (lg _)) aY ?_))))));refine cF (rs:=[(.loc,.int (1+n))]) (xs:=(hJ many).map λi:Nat=>(Kd.loc,U.int (0+(i:Int)))) (af (ae rfl) ai) trivial (by rw[QN];exact ig ⋯) rfl hf (bG (aD rfl) (iU rfl))
def uZ(Γ:Tab):Prop:=∀(T:Int) (u:U),Src T u->T+100<2 ^ 62->∃(ws:List Str) (u':U),Γ "_law_words" [u]=a5 (.ok (.own,.tup [.lst (ws.map .str),u']))/\1<=ws.length/\ws.length<=24/\Src (T+100) u'/\∀x∈ws,x.length<=20
theorem Cz(a:bA (I_ Pg d))(h:Ju Pg "_law_words" lU):uZ (I_ Pg (d+1)):=by
 intro T u b c;obtain⟨ws,u',e,r⟩:=wO a b c;exact⟨ws,u',by rw[cS h _ rfl];exact e,r⟩
noncomputable def eN(ks:List Str)(x:Str):List Str:=if x∈ks then ks else ks++[x]
theorem zS:dput ks (ks.map f) x u=(eN ks x,(eN ks x).map λk=>if k=x then u else f k):=by
 unfold dput eN;by_cases h:x∈ks
 ·rw[ņ h,ņ h];congr 1
  clear h;induction ks with
  |nil=>rfl
  |cons k ks a=>rw[et,RS,et,et,a]
 ·rw[Ň h,Ň h];congr 1
  rw[kr,Z4,ņ rfl];congr 1
  refine w6 λk hk=>?_;rw[Ň (λe:k=x=>h (e▸hk))]
theorem s_(h:ks.Nodup):(eN ks x).Nodup:=by
 unfold eN;split
 ·exact h
 ·rename_i d;exact t5.mpr ⟨h,by simp,λa f c b=>by rw[i2]at b;subst b;exact λe=>d (e▸f)⟩
theorem dZ:y∈eN ks x↔y∈ks\/y=x:=by
 unfold eN;split
 ·rename_i h;exact⟨.inl,λz=>z.elim id λe=>e▸h⟩
 ·simp
theorem CA(h:ks.length<1000):d9 (.str x) u (.IM ks (ks.map f))=a5 (.IM (eN ks x) ((eN ks x).map λk=>if k=x then u else f k)):=by
 rw[uU h,zS]
noncomputable def zT:List S:=[.put 1 (.var 4) (.cst (.bl b8))]
noncomputable def ra:List S:=[.put 1 (.var 2) (.cst (.bl b8)),.Ji cc [4] .seq [.var 3] zT]
noncomputable def zU:Fn:=⟨"_law_all",1,5,[.set 1 (.KN cc),.Ji b8 [2,3] .seq [.var 0] ra,.ret (.bi .sorted [.var 1])]⟩
noncomputable def ip(ks:List Str):U:=.IM ks (ks.map λ_=>.bl b8)
theorem gD(h:ks.length<1000):d9 (.str x) (.bl b8) (ip ks)=a5 (ip (eN ks x)):=by
 unfold ip;rw[CA h];congr 3
 funext k
 split<;>rfl
def d_(ws ks:List Str):Prop:=ks.Nodup/\∀x∈ks,x∈ws
theorem d_.ins(h:d_ ws ks)(a:x∈ws):d_ ws (eN ks x):=⟨s_ h.1,λy b=>(dZ.mp b).elim (h.2 y) λe=>e▸a⟩
theorem d_.len(h:d_ ws ks):ks.length<=ws.length:=iV h.1 h.2
noncomputable def fL(rs:List Row)(ks:List Str)(o2 o3 o4:Option (Kd×U)):aw:=[a5 (.loc,.tup (rs.map B')),a5 (.own,ip ks),o2,o3,o4]
theorem CB(m:ws.length<1000)(hk:d_ ws ks)(c:bR ws r):
  ∃a b,Run (execs Γ ra) (fL rs ks (a5 (.loc,.str r.1)) (a5 (.loc,.tup (r.2.map .str))) o4) .nx (fL rs a (a5 (.loc,.str r.1)) (a5 (.loc,.tup (r.2.map .str))) b)/\d_ ws a:=by
 have n:=hk.len;obtain⟨st',i,a,b,rfl,j,_⟩:=bL (rs:=[(.loc,.tup (r.2.map .str))]) (t:=cc) (is:=[4]) (body:=execs Γ zT) (λx:Str=>(Kd.loc,U.str x)) (λd q st=>∃a b,st=fL rs a (a5 (.loc,.str r.1)) (a5 (.loc,.tup (r.2.map .str))) b/\d_ ws a/\∀x∈q,x∈ws)
  (λ_ _ _ _=>trivial) (λd y q st h=>by
   obtain⟨e,b,rfl,f,g⟩:=h;have o:=f.len;exact⟨fL rs e (a5 (.loc,.str r.1)) (a5 (.loc,.tup (r.2.map .str))) (a5 (.loc,.str y)),_,aF,gc (k:=.own) (k':=.own) aj rfl (ae rfl) (aA aG (aA aG aI)) rfl rfl (gD ⋯) av,eN e y,_,rfl,f.ins (g y (by simp)),λx l=>g x (by simp[l])⟩) r.2 [] (fL rs (eN ks r.1) (a5 (.loc,.str r.1)) (a5 (.loc,.tup (r.2.map .str))) o4) ⟨_,_,rfl,hk.ins c.1,c.2.2.1⟩
 refine⟨a,b,?_,j⟩;exact gc (k:=.own) (k':=.own) aj rfl (ae rfl) (aA aG (aA aG aI)) rfl rfl (gD ⋯) (cF (rs:=[(.loc,.tup (r.2.map .str))]) (af (ae rfl) ai) trivial (by show a5 ((r.2.map U.str).map λu=>(kE .loc,u))=_;rw[kj];rfl) rfl i av)
theorem iZ{rs:List Row}:K' .seq [(k,.tup (rs.map B'))]=a5 (rs.map λr=>(kE k,B' r)):=by
 show a5 ((rs.map B').map λu=>(kE k,u))=_;rw[kj];rfl
def zV(Γ:Tab):Prop:=∀(ws:List Str) (rs:List Row),ws.length<=24->(∀r∈rs,bR ws r)->∃ts,Γ "_law_all" [.tup (rs.map B')]=a5 (.ok (.own,.lst (ts.map .str)))/\d_ ws ts
theorem CC{rs:List Row}(l:ws.length<=24)(a:∀r∈rs,bR ws r):∃ts,cu Γ zU [.tup (rs.map B')]=a5 (.ok (.own,.lst (ts.map .str)))/\d_ ws ts:=by
 obtain⟨st',c,ks,o2,o3,o4,rfl,hk,_⟩:=bL (rs:=[(.loc,.tup (rs.map B'))]) (t:=b8) (is:=[2,3]) (body:=execs Γ ra) (λr:Row=>(Kd.loc,B' r)) (λd q st=>∃ks o2 o3 o4,st=fL rs ks o2 o3 o4/\d_ ws ks/\∀r∈q,bR ws r)
  (λ_ _ _ _=>trivial) (λd y q st h=>by
   obtain⟨e,o2,o3,o4,rfl,f,b⟩:=h;obtain⟨g,m,i,j⟩:=CB (Γ:=Γ) (rs:=rs) (o4:=o4) ⋯ f (b y (by simp));exact⟨fL rs e (a5 (.loc,.str y.1)) (a5 (.loc,.tup (y.2.map .str))) o4,_,lQ (.inl rfl),i,g,_,_,_,rfl,j,λr a=>b r (by simp[a])⟩) rs [] (fL rs [] bD bD bD) ⟨[],bD,bD,bD,rfl,⟨by simp,by simp⟩,a⟩
 have hl:=hk.len;refine⟨aB ks,?_,⟨(bt _).nodup_iff.mpr hk.1,λx k=>hk.2 x ((bt _).mem_iff.mp k)⟩⟩;refine bb (st0:=[a5 (.loc,.tup (rs.map B')),bD,bD,bD,bD]) rfl (.inl rfl) ?_ (ax (st2:=fL rs [] bD bD bD) lH aY (cF (rs:=[(.loc,.tup (rs.map B'))]) (af (ae rfl) ai) trivial iZ rfl c (bG (cC (af (aD rfl) ai) ∅ ?_) gS)))
 ·show [a5 (if Jl (.tup (rs.map B'))=b8 then Kd.loc else Kd.any,U.tup (rs.map B')),bD,bD,bD,bD]=_;rw[ņ (by show cB (rs.map B')=b8;exact bJ rs)]
 ·show(if ks.length<64 then a5 (Kd.own,U.lst ((aB ks).map .str)) else bD)=_;rw[ņ ⋯]
theorem Hy(h:Ju Pg "_law_all" zU):zV (I_ Pg (d+1)):=λws rs a b=>by
 obtain⟨ts,e,k⟩:=CC (Γ:=I_ Pg d) a b;exact⟨ts,by rw[aJ h];exact e,k⟩
noncomputable def zW:List S :=
   [.set 7 (.Lx 4 (.IT "_law_draw" [.var 0,.bi .len [.var 4]] [0])),
   .ite (.and [.cmp .I0 (.var 7) (.var 3),.cmp .eq (.IT "_law_draw" [.var 0,.var 2] [0]) (.cst (.int 0))])
    [.app 5 (.tup [.var 7,.tup []])]
    []]
noncomputable def Hz:List S :=
   [.ite (.cmp .ne (.IT "_law_draw" [.var 0,.cst (.int 8)] [0]) (.cst (.int 1)))
      [.ret (.var 1)]
      [],
    .set 2 (.bin .add (.cst (.int 1)) (.IT "_law_draw" [.var 0,.cst (.int 2)] [0])),
    .set 3 (.comp 1 cc .seq [.var 1] [.cmp .eq (.idx (.var 0) (.cst (.int 1))) (.tup [])] (.idx (.var 0) (.cst (.int 0)))),
    .set 4 (.call "_law_all" [.var 1]),
    .set 5 (.lst []),
    .Ji cc [6] .JT [.bi .len [.var 4]] zW,
    .ret (.bin .add (.var 1) (.bi .tuple [(.var 5)]))]
noncomputable def CD:Fn:=⟨"_law_widened",2,8,.Mc [0]::Hz⟩
theorem lV(h:(!(i==j))=c):cM .ne (.int i) (.int j)=a5 c:=by subst h;rfl
noncomputable def j5(u:U)(rs:List Row)(share:Int)(hs ts:List Str)(more:List Row)(o6 o7:Option (Kd×U)):aw:=[a5 (.io,u),a5 (.loc,.tup (rs.map B')),a5 (.loc,.int share),a5 (.own,.lst (hs.map .str)),a5 (.own,.lst (ts.map .str)),a5 (.own,.lst (more.map B')),o6,o7]
theorem zX(o:bA Γ)(w:Src T u)(L:T+2<2 ^ 62)(A:0<share)(N:share<=2)(O:0<ts.length)(Q:ts.length<=24)(p:∀x∈ts,x∈ws)(h:∀r∈more,bR ws r)(Y:more.length<1000):
  ∃u' a j B,Run (execs Γ zW) (j5 u rs share hs ts more o6 o7) .nx (j5 u' rs share hs a j o6 B)/\Src (T+2) u'/\a.length+1=ts.length/\(∀x∈a,x∈ws)/\(∀r∈j,bR ws r)/\j.length<=more.length+1:=by
 have C:(1000:Nat)<=cL:=by decide
 obtain⟨n,b,D,G,H,s1⟩:=c9 (st:=j5 u rs share hs ts more o6 o7) o (i:=0) (k:=.io) (e:=.bi .len [.var 4]) (m:=((ts.map U.str).length:Nat)) rfl rfl (cC (af (aD rfl) ai) ∅ cm) w ⋯ (by simp;lia) (by simp;lia);rw[dt]at H;have l:n.toNat<ts.length:=by lia
 have q:(ts.map U.str)[n.toNat]?=a5 (.str ts[n.toNat]):=by simp[l]
 have s:ts[n.toNat]∈ws:=p _ (KX l);generalize ts[n.toNat]=x at q s;have I:(ts.map U.str).eraseIdx n.toNat=(ts.eraseIdx n.toNat).map U.str:=by
  rw[Qd,Qd,kr,ă,Ą]
 have hl:(ts.eraseIdx n.toNat).length+1=ts.length:=by rw[List.length_eraseIdx_of_lt l];lia
 have f:∀y∈ts.eraseIdx n.toNat,y∈ws:=λy J=>p y (List.mem_of_mem_eraseIdx J);have g:Run (ev Γ (.Lx 4 (.IT "_law_draw" [.var 0,.bi .len [.var 4]] [0]))) (j5 u rs share hs ts more o6 o7) (.loc,.str x) (j5 b rs share hs (ts.eraseIdx n.toNat) more o6 o7):=by
  have:=Fj (i:=4) (k0:=.own) (k:=.own) (us0:=ts.map U.str) (us:=ts.map U.str) rfl (by intro z;cases z) D rfl rfl G ⋯ q;rw[I]at this;exact this
 generalize ts.eraseIdx n.toNat=a at g hl f;have d:Run (Jh Γ (.cmp .I0 (.var 7) (.var 3))) (j5 b rs share hs a more o6 (a5 (.loc,.str x))) (cK (x∉hs)) (j5 b rs share hs a more o6 (a5 (.loc,.str x))):=aN (ae rfl) (aD rfl) ∅ fb;by_cases t:x∈hs
 ·rw[ň (by simp[t])]at d;exact⟨b,a,more,_,ax g aF (aV (gR (sH d)) av av),s1.up ⋯,hl,f,h,⋯⟩
 ·rw[ŉ t]at d;obtain⟨m,u2,v,m0,m1,s2⟩:=c9 (st:=j5 b rs share hs a more o6 (a5 (.loc,.str x))) o (i:=0) (k:=.io) (e:=.var 2) (m:=share) rfl rfl (ae rfl) s1 ⋯ A ⋯;by_cases hz:m=0
  ·refine⟨u2,a,more++[(x,[])],a5 (.loc,.str x),ax g aF (dW (gR (lI d (c7 (aN v aj trivial (cq (c:=b8) (by simp[hz])))))) (e_ (k:=.own) (k':=.own) rfl (lG (af (ae rfl) (af (lG ai trivial aI (lg _)) ai)) trivial (aA aG (aA aG aI)) (by show 2<=cL;lia)) aG rfl rfl (by simp;lia) av) ?_),s2.up ⋯,hl,f,?_,by simp⟩
   ·rw[show more.map B'++[U.tup [.str x,.tup []]]=(more++[(x,[])]).map B' by simp[B']];exact av
   ·intro r hr;rcases i6.mp hr with hr|hr
    ·exact h r hr
    ·rw[i2]at hr;subst hr;exact⟨s,by simp,by simp,by simp⟩
  ·exact⟨u2,a,more,_,ax g aF (aV (gR (lI d (c7 (aN v aj trivial (cq (c:=cc) (by simp[hz])))))) av av),s2.up ⋯,hl,f,h,⋯⟩
theorem zY{rs:List Row}(hl:rs.length<=1000)(h:st[i]?=a5 (a5 (.loc,.tup (rs.map B')))):Run (ev Γ (.comp 1 cc .seq [.var i] [.cmp .eq (.idx (.var 0) (.cst (.int 1))) (.tup [])] (.idx (.var 0) (.cst (.int 0))))) st (.own,.lst (((rs.filter λr=>cK (r.2=[])).map (·.1)).map .str)) st:=by
 have b:(1000:Nat)<=cL:=by decide
 have c:∀y:Row,iH (.loc,B' y) (.int 0)=a5 (.loc,.str y.1):=λy=>rfl;have d:∀y:Row,iH (.loc,B' y) (.int 1)=a5 (.loc,.tup (y.2.map .str)):=λy=>rfl;have a:=jy (cond:=bf Γ [.cmp .eq (.idx (.var 0) (.cst (.int 1))) (.tup [])]) (elt:=ev Γ (.idx (.var 0) (.cst (.int 0)))) (src:=[(.loc,.tup (rs.map B'))]) (st:=st) trivial .loc (.inl rfl) B' (λr:Row=>.str r.1) (λr=>cK (r.2=[])) .loc rs [] (by simp;lia)
  (λr _=>⟨c7 (aN (ba (ae rfl) aj trivial (d r)) (lG ai trivial aI (lg _)) trivial Cr),λ_=>⟨ba (ae rfl) aj trivial (c r),aG⟩⟩)
 rw[i9]at a;rw[kj];exact dX (rs:=[(.loc,.tup (rs.map B'))]) (af (ae h) ai) trivial iZ a
def zZ(Γ:Tab):Prop:=∀(T:Int) (u:U) (ws:List Str) (rs:List Row),Src T u->T+60<2 ^ 62->ws.length<=24->(∀r∈rs,bR ws r)->rs.length<=60->∃(a:List Row) (u':U),Γ "_law_widened" [u,.tup (rs.map B')]=a5 (.ok (.loc,.tup [.tup (a.map B'),u']))/\(∀r∈a,bR ws r)/\a.length<=84/\Src (T+60) u'
theorem CF(g:bA Γ)(I:zV Γ){rs:List Row}(w:Src T u)(hT:T+60<2 ^ 62)(J:ws.length<=24)(j:∀r∈rs,bR ws r)(hl:rs.length<=60):
  ∃(l:List Row) (u':U),gF Γ CD [0] Hz [u,.tup (rs.map B')]=a5 (.ok (.loc,.tup [.tup (l.map B'),u']))/\(∀r∈l,bR ws r)/\l.length<=84/\Src (T+60) u':=by
 have L:(1000:Nat)<=cL:=by decide
 let c:U->aw:=λv=>[a5 (.io,v),a5 (.loc,.tup (rs.map B')),bD,bD,bD,bD,bD,bD]
 have z:cY [0] [u,.tup (rs.map B')] CD.ns=c u:=by
  obtain⟨_,_,_,rfl,_⟩:=w;show [a5 (Kd.io,_),a5 (if Jl (.tup (rs.map B'))=b8 then Kd.loc else Kd.any,U.tup (rs.map B')),bD,bD,bD,bD,bD,bD]=_;rw[ņ (by show cB (rs.map B')=b8;exact bJ rs)]
 obtain⟨n,o,A,n0,n1,s1⟩:=c9 (st:=c u) g (i:=0) (k:=.io) (e:=.cst (.int 8)) (m:=8) rfl rfl aj w ⋯ ⋯ ⋯;by_cases B:n=1
 ·obtain⟨p,u2,N,p0,p1,s2⟩:=c9 (st:=c o) g (i:=0) (k:=.io) (e:=.cst (.int 2)) (m:=2) rfl rfl aj s1 ⋯ ⋯ ⋯;obtain⟨ts,O,C⟩:=I ws rs J j;have Y_:=C.len;generalize Q:((rs.filter λr=>cK (r.2=[])).map (·.1))=hs;have D:=zY (Γ:=Γ) (st:=[a5 (.io,u2),a5 (.loc,.tup (rs.map B')),a5 (.loc,.int (1+p)),bD,bD,bD,bD,bD]) (rs:=rs) (i:=1) ⋯ rfl;rw[Q]at D;obtain⟨st',Y,a,b,more,o6,o7,rfl,s3,G,m3,H,s,_⟩:=bL (rs:=[(.loc,.int (ts.length:Nat))]) (t:=cc) (is:=[6]) (body:=execs Γ zW) (λi:Nat=>(Kd.loc,U.int (0+(i:Int)))) (λd r st=>∃(a:U) (b:List Str) (more:List Row) (o6 o7:Option (Kd×U)),st=j5 a rs (1+p) hs b more o6 o7/\Src (T+2+2 * (d.length:Nat)) a/\b.length=r.length/\more.length<=d.length/\(∀x∈b,x∈ws)/\(∀r∈more,bR ws r)/\d.length+r.length=ts.length)
   (λd r st _=>trivial) (λd y r st h=>by
    obtain⟨a,b,more,o6,o7,rfl,s3,G,m3,H,s,t3⟩:=h;simp only[ke]at G t3;obtain⟨u4,Za,QP,Kp,q,s4,l4,i4,g4,m4⟩:=zX (Γ:=Γ) g (u:=a) (share:=1+p) (rs:=rs) (more:=more) (ws:=ws) (hs:=hs) (ts:=b) (o6:=a5 (.loc,.int (0+(y:Int)))) (o7:=o7) s3 ⋯ ⋯ ⋯ ⋯ ⋯ H s ⋯;refine⟨j5 a rs (1+p) hs b more (a5 (.loc,.int (0+(y:Int)))) o7,_,aF,q,u4,Za,QP,_,_,rfl,s4.up (by simp;lia),⋯,by simp;lia,i4,g4,by simp;lia⟩) (hJ ts.length) [] (j5 u2 rs (1+p) hs ts [] bD bD) ⟨u2,ts,[],bD,bD,rfl,s2.up (by simp;lia),by simp,by simp,C.2,by simp,by simp⟩
  rw[i9,x2]at m3 s3;refine⟨rs++more,a,?_,?_,by simp;lia,s3.up ⋯⟩
  ·refine cp (f:=.rt .loc (.tup ((rs++more).map B'))) (st:=j5 a rs (1+p) hs b more o6 o7) rfl z ?_ rfl rfl;refine aV (aN A aj trivial (lV (by simp[B]))) av (ax (bF aj N trivial cA) aF (ax D aY (ax (bj (af (ae rfl) ai) trivial O) aY (ax (bV ai trivial aI (lg _)) aY ?_))));refine cF (rs:=[(.loc,.int (ts.length:Nat))]) (af (cC (af (aD rfl) ai) ∅ (by rw[cm,dt])) ai) trivial (ig ⋯) rfl Y (bG (bF (ae rfl) (cC (af (aD rfl) ai) ∅ rfl) trivial ?_) dU);show(if (rs.map B').length+(more.map B').length<=cL then a5 (kT .loc .loc,U.tup (rs.map B'++more.map B')) else bD)=_;rw[ņ (by simp;lia),kr];rfl
  ·intro r hm;rcases i6.mp hm with hm|hm
   ·exact j r hm
   ·exact s r hm
 ·exact⟨rs,o,cp (f:=.rt .loc (.tup (rs.map B'))) (st:=c o) rfl z (fC (aN A aj trivial (lV (by simp[B]))) (bG (ae rfl) dU)) rfl rfl,j,⋯,s1.up ⋯⟩
theorem HA(a:bA (I_ Pg d))(b:zV (I_ Pg d))(h:Ju Pg "_law_widened" CD):zZ (I_ Pg (d+1)):=by
 intro T u ws rs c f g i hl;obtain⟨j,u',e,r⟩:=CF a b c f g i hl;exact⟨j,u',by rw[cS h _ rfl];exact e,r⟩
noncomputable def i_:Fn:=⟨"_law_same",2,2,[.ite (.Lh (.var 1) .tuple) [.ite (.or [.not (.Lh (.var 0) .tuple),.cmp .ne (.bi .len [.var 0]) (.bi .len [.var 1])]) [.ret (.cst (.bl cc))] [],.ret (.bi .all [.comp 1 cc .JT [.bi .len [.var 1]] [] (.call "_law_same" [.idx (.var 1) (.var 0),.idx (.var 2) (.var 0)])])] [],.ite (.Lh (.var 1) .list) [.ite (.or [.not (.Lh (.var 0) .list),.cmp .ne (.bi .len [.var 0]) (.bi .len [.var 1])]) [.ret (.cst (.bl cc))] [],.ret (.bi .all [.comp 1 cc .JT [.bi .len [.var 1]] [] (.call "_law_same" [.idx (.var 1) (.var 0),.idx (.var 2) (.var 0)])])] [],.ite (.cmp .is (.var 1) (.cst .IU)) [.ret (.cmp .is (.var 0) (.cst .IU))] [],.ite (.Lh (.var 1) .str) [.ret (.and [.Lh (.var 0) .str,.cmp .eq (.var 0) (.var 1)])] [],.ret (.and [.Lh (.var 0) .int,.not (.Lh (.var 0) .bool),.cmp .eq (.var 0) (.var 1)])]⟩
def c8(Γ:Tab)(u:U):Prop:=Γ "_law_same" [u,u]=a5 (.ok (.loc,.bl b8))
theorem wQ:cu Γ i_ [.str x,.str x]=a5 (.ok (.loc,.bl b8)):=by
 exact bb (st0:=[a5 (.loc,.str x),a5 (.loc,.str x)]) rfl (.inr rfl) rfl (aV (gT (ae rfl) rfl) av (aV (gT (ae rfl) rfl) av (aV (aN (ae rfl) aj trivial rfl) av (fC (gT (ae rfl) rfl) (bG (Hb (Fo (p:=b8) (q:=b8) (Hl (ae rfl) rfl) λ_=>Fg (nE (ae rfl) (ae rfl) trivial (by rw[pz];simp)))) dU)))))
theorem nS{xs:List U}(hk:k=.loc\/k=.any)(d:∀i u,xs[i]?=a5 u->iH (k,w) (.int (i:Nat))=a5 (k,u))(f:KO .len [(k,w)]=a5 (.loc,.int (xs.length:Nat)))(hl:xs.length<=1000)(g:∀u∈xs,c8 Γ u):
  Run (ev Γ (.bi .all [.comp 1 cc .JT [.bi .len [.var 1]] [] (.call "_law_same" [.idx (.var 1) (.var 0),.idx (.var 2) (.var 0)])])) [a5 (k,w),a5 (k,w)] (.loc,.bl b8) [a5 (k,w),a5 (k,w)]:=by
 have j:(1000:Nat)<=cL:=by decide
 have l:∀(i:Nat) (st:aw),st[i]?=a5 (a5 (k,w))->Run (ev Γ (.var i)) st (k,w) st:=λi st h=>by
  rcases hk with rfl|rfl
  ·exact ae h
  ·exact aU h
 have a:=lL (cond:=bf Γ []) (elt:=ev Γ (.call "_law_same" [.idx (.var 1) (.var 0),.idx (.var 2) (.var 0)])) (src:=[(.loc,.int (xs.length:Nat))]) (st:=[a5 (k,w),a5 (k,w)]) trivial .loc (.inl rfl) (λi:Nat=>U.int (0+(i:Int))) (λ_=>.bl b8) .loc (λ_=>nG) (hJ xs.length) [] (by simp;lia)
  (λi m=>by
   have b:=u5.mp m;have e:=d i xs[i] (by simp[b]);have c:=g xs[i] (KX b);rw[show(0:Int)+(i:Int)=(i:Nat) by lia];refine⟨?_,aG⟩;rcases hk with rfl|rfl
   ·exact bj (af (ba (ae rfl) (ae rfl) trivial e) (af (ba (ae rfl) (ae rfl) trivial e) ai)) trivial c
   ·exact bj (af (ba (aU rfl) (ae rfl) trivial e) (af (ba (aU rfl) (ae rfl) trivial e) ai)) trivial c)
 rw[i9]at a;have n:KO .all [(.own,.lst ((hJ xs.length).map λ_=>U.bl b8))]=a5 (.loc,.bl b8):=by
  have:=uW (k:=.own) ((hJ xs.length).map λ_=>b8);rw[kj]at this;refine Eq.trans this ?_;congr 3
  rw[YN];exact ki.mpr λ_ _=>rfl
 refine cC (af (dX (rs:=[(.loc,.int (xs.length:Nat))]) (af (cC (af (l 1 _ rfl) ai) ?_ f) ai) trivial (ig ⋯) a) ai) trivial n;rcases hk with rfl|rfl<;>exact trivial
theorem wR(hl:xs.length<=1000)(a:cB xs=b8)(d:∀u∈xs,c8 Γ u):cu Γ i_ [.tup xs,.tup xs]=a5 (.ok (.loc,.bl b8)):=by
 have q:=nS (Γ:=Γ) (k:=.loc) (w:=.tup xs) (xs:=xs) (.inl rfl) (λi u h=>dI (eC h)) km hl d;refine bb (st0:=[a5 (.loc,.tup xs),a5 (.loc,.tup xs)]) rfl (.inr rfl) ?_ (fC (gT (ae rfl) rfl) (aV (Fi (ze (jN (gT (b:=b8) (ae rfl) rfl)) (zd (aN (cC (af (ae rfl) ai) trivial km) (cC (af (ae rfl) ai) trivial km) trivial (lV (c:=cc) (by simp)))))) av (bG q dU)));show [a5 (if Jl (.tup xs)=b8 then Kd.loc else Kd.any,U.tup xs),a5 (if Jl (.tup xs)=b8 then Kd.loc else Kd.any,U.tup xs)]=_;rw[ņ (show Jl (.tup xs)=b8 from a)]
theorem wU(hl:xs.length<=1000)(a:∀u∈xs,c8 Γ u):cu Γ i_ [.lst xs,.lst xs]=a5 (.ok (.loc,.bl b8)):=by
 have q:=nS (Γ:=Γ) (k:=.any) (w:=.lst xs) (xs:=xs) (.inr rfl) (λi u h=>bZ (eC h)) cm hl a;refine bb (st0:=[a5 (.any,.lst xs),a5 (.any,.lst xs)]) rfl (.inr rfl) rfl (aV (gT (aU rfl) rfl) av (fC (gT (aU rfl) rfl) (aV (Fi (ze (jN (gT (b:=b8) (aU rfl) rfl)) (zd (aN (cC (af (aU rfl) ai) trivial cm) (cC (af (aU rfl) ai) trivial cm) trivial (lV (c:=cc) (by simp)))))) av (bG q dU))))
theorem u9(h:Ju Pg "_law_same" i_)(x:Str):c8 (I_ Pg (d+1)) (.str x):=by unfold c8;rw[aJ h];exact wQ
theorem z_(h:Ju Pg "_law_same" i_)(hl:xs.length<=1000)(a:cB xs=b8)(b:∀u∈xs,c8 (I_ Pg d) u):c8 (I_ Pg (d+1)) (.tup xs):=by unfold c8;rw[aJ h];exact wR hl a b
theorem HB(h:Ju Pg "_law_same" i_)(hl:xs.length<=1000)(a:∀u∈xs,c8 (I_ Pg d) u):c8 (I_ Pg (d+1)) (.lst xs):=by unfold c8;rw[aJ h];exact wU hl a
section
theorem Aa(o:i≠j)(l:st[i]?=a5 (a5 (k0,a)))(c:k0.root=b8)(y:st[j]?=a5 (a5 (k0',d)))(z:k0'.root=b8)(A:Run (bp Γ es) st rs st1)
  (b:st1[i]?=a5 (a5 (k,.lst us))) (hk:k.root=b8) (B:cB us=b8) (m:st1[j]?=a5 (a5 (k',.lst vs))) (p:k'.root=b8) (C:cB vs=b8) (D:rs.map (d0 st1)=rs) (G:bq rs st1) (H:∀r∈rs,t_ [a5 i,a5 j] r=b8)
  (I:Γ f (.lst us::.lst vs::rs.map (·.2))=a5 (.ok (n,.tup [v,.lst s,.lst t]))) (J:n=.own\/n=.loc):Run (ev Γ (.IT f (.var i::.var j::es) [0,1])) st (n,v) ((st1.set i (a5 (k,.lst s))).set j (a5 (k',.lst t))):=by
 have w:∀(i:Nat) (k0:Kd) (a:U),st[i]?=a5 (a5 (k0,a))->k0.root=b8->Run (ev Γ (.var i)) st (.bor i,a) st:=λi k0 a l c=>by
  have:=dS l (by rintro rfl;cases c);unfold kv at this;rw[ņ c]at this;exact this
 have x:∀(i:Nat) (k:Kd) (a u:U),st1[i]?=a5 (a5 (k,u))->k.root=b8->d0 st1 (.bor i,a)=(.bor i,u):=λi k a u b hk=>by
  unfold d0
  dsimp only
  rw[b];simp[hk]
 have e:((Kd.bor i,a)::(Kd.bor j,d)::rs).map (d0 st1)=(.bor i,.lst us)::(.bor j,.lst vs)::rs:=by rw[et,et,x i k a _ b hk,x j k' d _ m p,D]
 have g:ib ((Kd.bor i,U.lst us)::(Kd.bor j,U.lst vs)::rs) 0=a5 i:=by
  show(if cB us=b8 then a5 i else bD)=_;rw[ņ B]
 have h:ib ((Kd.bor i,U.lst us)::(Kd.bor j,U.lst vs)::rs) 1=a5 j:=by
  show(if cB vs=b8 then a5 j else bD)=_;rw[ņ C]
 refine sJ (rs:=(.bor i,a)::(.bor j,d)::rs) (ws:=[.lst s,.lst t]) (st1:=st1) (af (w i k0 a l c) (af (w j k0' d y z) A)) ?_ ?_ J ?_ ?_
 ·rw[e];exact⟨⟨k,hk,b⟩,⟨k',p,m⟩,G⟩
 ·rw[e];exact I
 ·rw[e];unfold qr;rw[cb,cb];refine⟨⟨by simp[g,h],by simp[g,h,o]⟩,ki.mpr λq L=>?_⟩
  match q with
  |0=>simp
  |1=>simp
  |q+2 =>
   have hl:q<rs.length:=by have:=u5.mp L;simpa using this
   rw[LJ];refine .inr ?_;rw[show((Kd.bor i,U.lst us)::(Kd.bor j,U.lst vs)::rs).getD (q+2) (.loc,.IU)=rs[q] by simp[OB,hl]];simp only[et,Jz,g,h];exact H _ (KX hl)
 ·rw[e];unfold gP;rw[g]
  dsimp only
  rw[b]
  dsimp only
  unfold gP;rw[h]
  dsimp only
  rw[hQ o,m];rfl
end
def lW(Γ:Tab):Prop:=∀(ns:List Int) (u:U) (ws:List Str) (T:Int),Src T u->T+500<2 ^ 62->ns.length<1000->0<ws.length->ws.length<1000000 ->
  ∃(rs:List Row) (a:List Int) (u':U),Γ "_law_book" [.lst (ns.map .int),u,.lst (ws.map .str)]=a5 (.ok (.loc,.tup [.tup (rs.map B'),.lst (a.map .int),u']))/\dk ws rs/\rs.length<=60/\a.length<=ns.length/\Src (T+500) u'
theorem Ab(a:iY (I_ Pg d))(b:bA (I_ Pg d))(c:lS (I_ Pg d))(f:lT (I_ Pg d))(h:Ju Pg "_law_book" pH):lW (I_ Pg (d+1)):=by
 intro ns u ws T g i j k l;obtain⟨rs,m,u',e,r⟩:=sZ a b c f g i j k l;exact⟨rs,m,u',by rw[cS h _ rfl];exact e,r⟩
theorem rb(a:iY Γ){ns:List Int}:∃(b:List Int) (u:U),Run (ev Γ (.IT "_law_source" [.var 1,.cst (.int k)] [0])) (o0::a5 (.own,.lst (ns.map .int))::rest) (.own,u) (o0::a5 (.own,.lst (b.map .int))::rest)/\b.length<=ns.length/\Src 0 u:=by
 by_cases h:ns=[]
 ·subst h;exact⟨[],fK k 0 1,Fz (k0:=.own) (k:=.own) a rfl rfl aj rfl rfl,hV _,⟨_,_,_,rfl,⋯,⋯⟩⟩
 ·have e:=V1 h;generalize ns.dropLast=l at e;generalize ns.getLast h=c at e;subst e;exact⟨l,fK (c / 2) 0 (c % 2),zK (k0:=.own) (k:=.own) a rfl rfl aj rfl rfl,by simp,⟨_,_,_,rfl,⋯,⋯⟩⟩
theorem Src.lst(h:Src T u):∃us,u=.lst us/\cB us=b8:=by
 obtain⟨a,t,w,rfl,_,_⟩:=h;exact⟨_,rfl,rfl⟩
end TM
namespace KL
open PySem L2 TM
noncomputable def dm:Fn:=⟨"gathered",1,4,[.newD 1,.Ji b8 [2,3] .seq [.var 0] [.ite (.inD b8 (.var 2) 1) [.putD 1 (.var 2) (.lst [])] [],.K_ 1 (.var 2) (.var 3)],.ret (.Pd 1)]⟩
noncomputable def bo:Fn:=⟨"places_that_tell",1,4,[.set 1 (.lst []),.Ji b8 [2,3] .Ot [.var 0] [.ext 1 (.comp 1 cc .seq [.idx (.var 3) (.cst (.int 1))] [] (.tup [.var 0,.var 3]))],.ret (.call "gathered" [.var 1])]⟩
noncomputable def cT:Fn:=⟨"new_steps",3,6,[.set 3 (.KN cc),.Ji cc [4] .seq [.var 1] [.set 5 (.idx (.idx (.var 0) (.var 4)) (.cst (.int 0))),.ite (.and [.cmp .I0 (.var 5) (.var 2),.cmp .I0 (.var 5) (.var 3)]) [.put 3 (.var 5) (.var 4)] []],.ret (.Pe 3)]⟩
noncomputable def br:Fn:=⟨"steps_in_rounds",1,10,[.set 1 (.call "places_that_tell" [.var 0]),.set 2 (.comp 1 cc .seq [.var 0] [] (.bi .len [.idx (.var 0) (.cst (.int 1))])),.set 3 (.KN cc),.set 4 (.lst []),.set 5 (.comp 2 b8 .Ot [.var 2] [.cmp .eq (.var 1) (.cst (.int 0))] (.var 0)),.NG (.cmp .ne (.var 5) (.lst [])) [.set 6 (.call "new_steps" [.var 0,.var 5,.var 3]),.set 5 (.lst []),.Ji b8 [7,8] .seq [.var 6] [.put 3 (.var 7) (.cst (.bl b8)),.Ji cc [9] .seq [.Lw 1 (.var 7) (.lst [])] [.aug b8 2 (.var 9) (.cst (.int 1)),.ite (.cmp .eq (.idx (.var 2) (.var 9)) (.cst (.int 0))) [.app 5 (.var 9)] []]],.ite (.cmp .ne (.var 6) (.lst [])) [.app 4 (.var 6)] []],.ret (.var 4)]⟩
noncomputable def fF:Fn:=⟨"order",1,3,[.set 1 (.lst []),.Ji cc [2] .seq [.call "steps_in_rounds" [.var 0]] [.ext 1 (.var 2)],.ret (.var 1)]⟩
noncomputable def fe:Fn:=⟨"learnt",1,1,[.ret (.bi .sorted [.comp 2 b8 .seq [.call "order" [.var 0]] [] (.var 0)])]⟩
end KL
namespace KL
open PySem L2 TM Jt Od
noncomputable def cD(f:Str->List Nat)(k:Str):U:=.lst ((f k).map λt:Nat=>U.int (t:Nat))
theorem jB(d:List (Str×Nat))(y:Str×Nat)(k:Str):aL (d++[y]) k=if y.1=k then aL d k++[y.2] else aL d k:=by
 rw[qR];by_cases e:y.1=k
 ·rw[ņ e];simp[aL,e]
 ·rw[Ň e];simp[aL,e]
theorem Ac(d:List (Str×Nat))(k:Str):(aL d k).length<=d.length:=by
 unfold aL;rw[dt];exact td _ _
section
theorem pI(hl:ps.length<=1000):∃ks:List Str,(∀w,w∉ks->aL ps w=[])/\cu Γ dm [.lst (ps.map stN)]=a5 (.ok (.own,.IM ks (ks.map (cD (aL ps))))):=by
 have hsz:(2000:Nat)<=cL:=by decide
 have x:TM.start [.lst (ps.map stN)] 4=[a5 (.any,.lst (ps.map stN)),bD,bD,bD]:=rfl;let S:=λ(ks:List Str) (us:List U) (o2 o3:Option (Kd×U))=>([a5 (.any,.lst (ps.map stN)),a5 (.IK,.IM ks us),o2,o3]:aw)
 let body:List TM.S:=[.ite (.inD b8 (.var 2) 1)
    [.putD 1 (.var 2) (.lst [])]
    [],
   .K_ 1 (.var 2) (.var 3)]
 obtain⟨st',A,l,ks,o2,o3,e,f,hk,B⟩:=bL (t:=b8) (is:=[2,3]) (body:=execs Γ body) (rs:=[(.any,.lst (ps.map stN))]) (λp:Str×Nat=>(Kd.any,stN p))
  (λd r st=>d++r=ps/\∃(ks:List Str) (o2 o3:Option (Kd×U)),st=S ks (ks.map (cD (aL d))) o2 o3/\ks.Nodup/\(∀w,w∉ks->aL d w=[])/\ks.length<=d.length) (λ_ _ _ _=>trivial) (λd y r st C=>by
   obtain⟨l,ks,o2,o3,e,f,hk,B⟩:=C;subst e;have J:d.length<1000:=by have:=Ŋ J7 l;simp at this;lia
   let g:Option (Kd×U):=a5 (.any,.str y.1);let i:Option (Kd×U):=a5 (.any,.int (y.2:Nat));have L:=Ac d y.1;have j:∀(ks:List Str),ks.Nodup->y.1∈ks->Run (execs Γ [.K_ 1 (.var 2) (.var 3)]) (S ks (ks.map (cD (aL d))) g i) .nx (S ks (ks.map (cD (aL (d++[y])))) g i):=λks f c=>by
    have D:dN ks (ks.map (cD (aL d))) y.1=a5 (.lst ((aL d y.1).map λt:Nat=>U.int (t:Nat))):=by rw[lR,ņ c];rfl
    have hs:jZ ks (ks.map (cD (aL d))) y.1 (.lst ((aL d y.1).map (λt:Nat=>U.int (t:Nat))++[.int (y.2:Nat)]))=ks.map (cD (aL (d++[y]))):=by
     rw[qV _ _ _ _ f];refine w6 λk hk=>?_;unfold cD;rw[jB];by_cases e:y.1=k
     ·subst e;rw[ņ rfl,ņ rfl];simp
     ·rw[Ň e,Ň (r6 e)]
    rw[<-hs];exact Fu (k:=.any) (r:=(.any,.int (y.2:Nat))) rfl (aU rfl) c (aU rfl) (qI rfl) D (by rw[dt];lia) av
   have m:Run (Jh Γ (.inD b8 (.var 2) 1)) (S ks (ks.map (cD (aL d))) g i) (!cK (y.1∈ks)) (S ks (ks.map (cD (aL d))) g i):=Hn (neg:=b8) (k:=.any) (aU rfl) rfl;have o:Run (dC b8 [2,3] (.any,stN y)) (S ks (ks.map (cD (aL d))) o2 o3) () (S ks (ks.map (cD (aL d))) g i):=lQ (.inr rfl);by_cases c:y.1∈ks
   ·rw[ŉ c]at m;refine⟨_,_,o,pv m (λh=>by cases h) λ_=>j ks f c,by rw[<-l];simp,ks,_,_,rfl,f,λw n=>?_,by simp;lia⟩;have G:y.1≠w:=λz=>n (by rw[<-z];exact c);rw[jB,Ň G];exact hk w n
   ·rw[ň c]at m;have q:(ks++[y.1]).Nodup:=by
     rw[t5];refine⟨f,by simp,λa H b I e=>?_⟩;have:b=y.1:=by simpa using I
     subst this;exact c (e▸H)
    have em:ks.map (cD (aL d))++[.lst []]=(ks++[y.1]).map (cD (aL d)):=by
     rw[kr];congr 1
     show _=[cD (aL d) y.1]
     unfold cD;rw[hk y.1 c];rfl
    have s:=j (ks++[y.1]) q (by simp);rw[<-em]at s;refine⟨_,_,o,pv m (λ_=>Ft (k:=.any) (xs:=[]) (bV ai trivial aI (lg _)) rfl (aU rfl) c ⋯ s) λh=>(by cases h),by rw[<-l];simp,ks++[y.1],_,_,rfl,q,λw n=>?_,by simp;lia⟩;have v:w∉ks/\w≠y.1:=by simpa using n
    rw[jB,Ň (r6 v.2)];exact hk w v.1) ps [] (S [] [] bD bD) ⟨rfl,[],bD,bD,rfl,.nil,λ_ _=>rfl,hV _⟩
 subst e;rw[i9]at *;refine⟨ks,hk,?_⟩;have e:(ps.map stN).map (λu=>(kE .any,u))=ps.map λp=>(Kd.any,stN p):=by rw[kj];rfl
 exact bb rfl (.inl rfl) x (Fs (cF (rs:=[(.any,.lst (ps.map stN))]) (st1:=S [] [] bD bD) (af (aU rfl) ai) trivial rfl rfl (by rw[e];exact A) (bG (Ho rfl) (iU rfl))))
def C9(Γ:Tab):Prop:=∀ps:List (Str×Nat),ps.length<=1000->∃ks:List Str,(∀w,w∉ks->aL ps w=[])/\Γ "gathered" [.lst (ps.map stN)]=a5 (.ok (.own,.IM ks (ks.map (cD (aL ps)))))
theorem tf(s:C9 Γ)(v:Once rows)(z:∀r∈rows,r.2.length<=8)(I:rows.length<=100):
  ∃ks:List Str,(∀w,w∉ks->Jx rows rows.length w=[])/\cu Γ bo [.tup (rows.map B')]=a5 (.ok (.own,.IM ks (ks.map (cD (Jx rows rows.length))))):=by
 have hsz:(2000:Nat)<=cL:=by decide
 have A:TM.start [.tup (rows.map B')] 4=[a5 (.loc,.tup (rows.map B')),bD,bD,bD]:=by simp[TM.start,Jl,bJ]
 let S:=λ(ps:List (Str×Nat)) (o2 o3:Option (Kd×U))=>([a5 (.loc,.tup (rows.map B')),a5 (.own,.lst (ps.map stN)),o2,o3]:aw)
 let body:List TM.S:=[.ext 1 (.comp 1 cc .seq [.idx (.var 3) (.cst (.int 1))] [] (.tup [.var 0,.var 3]))]
 obtain⟨st',B,g,ps,o2,o3,e,h,l⟩:=bL (t:=b8) (is:=[2,3]) (body:=execs Γ body) (rs:=[(.loc,.tup (rows.map B'))]) (λp:Row×Nat=>(Kd.loc,U.tup [.int (p.2:Nat),B' p.1]))
  (λd r st=>d++r=rows.zipIdx/\∃(ps:List (Str×Nat)) (o2 o3:Option (Kd×U)),st=S ps o2 o3/\(∀w,aL ps w=Jx rows d.length w)/\ps.length<=8 * d.length) (λ_ _ _ _=>trivial) (λd y r st C=>by
   obtain⟨g,ps,o2,o3,e,h,l⟩:=C;subst e;obtain⟨f,i⟩:=y;have m:(rows.zipIdx)[d.length]?=a5 (f,i):=by rw[<-g];simp
   rw[TF,gs]at m;obtain⟨a,n,e⟩:=m;have D:a=f:=Ŋ ô e;have o:0+d.length=i:=Ŋ Prod.snd e;rw[P1]at o;subst D o;have J:d.length<100:=by have:=Ŋ J7 g;simp at this;lia
   have L:=z a (my n);let b:Option (Kd×U):=a5 (.loc,.int (d.length:Nat));let c:Option (Kd×U):=a5 (.loc,B' a);have q:=lL (cond:=bf Γ []) (elt:=ev Γ (.tup [.var 0,.var 3])) (src:=[(.loc,.tup (a.2.map .str))]) (st:=S ps b c) trivial .loc (.inl rfl) U.str (λx=>stN (x,d.length)) .loc (λ_=>nG) a.2 [] (by simp;lia)
    (λy _=>⟨lG (af (ae rfl) (af (ae rfl) ai)) trivial (aA aG (aA aG aI)) (by show 2<=cL;lia),aG⟩)
   rw[i9]at q;have e:(a.2.map U.str).map (λu=>(kE .loc,u))=a.2.map λr=>(Kd.loc,U.str r):=by rw[kj];rfl
   have G:Run (ev Γ (.comp 1 cc .seq [.idx (.var 3) (.cst (.int 1))] [] (.tup [.var 0,.var 3]))) (S ps b c) (.own,.lst (a.2.map λx=>stN (x,d.length))) (S ps b c) :=
    dX (rs:=[(.loc,.tup (a.2.map .str))]) (af (ba (x:=(.loc,B' a)) (ae rfl) aj trivial rfl) ai) trivial (by show a5 _=_;rw[e]) q
   have em:ps.map stN++(a.2.map λx=>stN (x,d.length))=(ps++a.2.map λx=>(x,d.length)).map stN:=by simp
   refine⟨S ps b c,S (ps++a.2.map λx=>(x,d.length)) b c,lQ (.inl rfl),?_,by rw[<-g];simp,_,_,_,rfl,λw=>?_,by simp;lia⟩
   ·show Run _ _ _ [a5 (.loc,.tup (rows.map B')),a5 (.own,.lst ((ps++a.2.map λx=>(x,d.length)).map stN)),b,c];rw[<-em];exact zh (k:=.own) (k':=.own) rfl G rfl rfl (uS (by rw[dt,dt];lia) rfl) av
   ·rw[i0];exact wJ v n h w) rows.zipIdx [] (S [] bD bD) ⟨rfl,[],bD,bD,rfl,λw=>by simp[aL,Jx],by simp⟩
 subst e;rw[i9,List.length_zipIdx]at h l;have j:K' .Ot [(.loc,.tup (rows.map B'))]=a5 (rows.zipIdx.map λp:Row×Nat=>(Kd.loc,U.tup [.int (p.2:Nat),B' p.1])):=by
  show a5 ((rows.map B').zipIdx.map λp=>(kE .loc,U.tup [.int p.2,p.1]))=_;rw[List.zipIdx_map,kj];rfl
 obtain⟨ks,k1,k2⟩:=s ps ⋯;have H:aL ps=Jx rows rows.length:=funext h;rw[H]at k1 k2;refine⟨ks,k1,?_⟩;exact bb rfl (.inl rfl) A (ax (r:=(.own,.lst [])) (bV ai trivial aI (lg _)) aY (cF (rs:=[(.loc,.tup (rows.map B'))]) (st1:=S [] bD bD) (af (ae rfl) ai) trivial j rfl B
  (bG (bj (af (aD rfl) ai) ⟨⟨.own,rfl,rfl⟩,trivial⟩ k2) gS)))
theorem mF{names:List Str}(v:∀r∈rows,r.1∈names)(Q:names.length<64)(y:∀t∈R,t<rows.length):
  ∃st:List (Str×Nat),NS rows K0 R st/\cu Γ cT [.tup (rows.map B'),.lst (R.map λt:Nat=>.int (t:Nat)),.IM K0 vs]=a5 (.ok (.own,.lst (st.map stN))):=by
 have hsz:(2000:Nat)<=cL:=by decide
 have z:TM.start [.tup (rows.map B'),.lst (R.map λt:Nat=>.int (t:Nat)),.IM K0 vs] 6=[a5 (.loc,.tup (rows.map B')),a5 (.any,.lst (R.map λt:Nat=>.int (t:Nat))),a5 (.any,.IM K0 vs),bD,bD,bD]:=by simp[TM.start,Jl,bJ]
 let S:=λ(ps:List (Str×Nat)) (o4 o5:Option (Kd×U))=>([a5 (.loc,.tup (rows.map B')),a5 (.any,.lst (R.map λt:Nat=>.int (t:Nat))),a5 (.any,.IM K0 vs),a5 (.own,.IM (ps.map (·.1)) (ps.map λp=>.int (p.2:Nat))),o4,o5]:aw)
 let body:List TM.S:=[.set 5 (.idx (.idx (.var 0) (.var 4)) (.cst (.int 0))),
   .ite (.and [.cmp .I0 (.var 5) (.var 2),.cmp .I0 (.var 5) (.var 3)])
    [.put 3 (.var 5) (.var 4)]
    []]
 have o:∀{d:List Nat} {ps:List (Str×Nat)},NS rows K0 d ps->ps.length<=names.length:=λ{d ps} x=>by
  have:=qU x.once (L:=names) λw A=>by
   obtain⟨s,hs,rfl⟩:=js.mp A;obtain⟨_,_,r,b,c⟩:=x.ok s hs;rw[<-c];exact v r (my b)
  simpa using this
 obtain⟨st',B,j,ps,o4,o5,e,x⟩:=bL (t:=cc) (is:=[4]) (body:=execs Γ body) (rs:=[(.any,.lst (R.map λt:Nat=>.int (t:Nat)))]) (λt:Nat=>(Kd.any,U.int (t:Nat)))
  (λd r st=>d++r=R/\∃(ps:List (Str×Nat)) (o4 o5:Option (Kd×U)),st=S ps o4 o5/\NS rows K0 d ps) (λ_ _ _ _=>trivial) (λd t r st C=>by
   obtain⟨j,ps,o4,o5,e,x⟩:=C;subst e;have D:t<rows.length:=y t (by rw[<-j];simp);have l:rows[t]?=a5 rows[t]:=by simp[D]
   generalize rows[t]=a at l;let f:Option (Kd×U):=a5 (.any,.int (t:Nat));let m:Option (Kd×U):=a5 (.loc,.str a.1);have G:=o x;have i:Run (Jh Γ (.and [.cmp .I0 (.var 5) (.var 2),.cmp .I0 (.var 5) (.var 3)])) (S ps f m) (!cK (a.1∈K0)&&!cK (a.1∈ps.map (·.1))) (S ps f m) :=
    gR (lK (aN (ae rfl) (aU rfl) trivial fc) λ_=>c7 (aN (ae rfl) (aD rfl) ⟨⟨.own,rfl,rfl⟩,trivial⟩ fc))
   have g:∀{q:aw},Run (execs Γ [.ite (.and [.cmp .I0 (.var 5) (.var 2),.cmp .I0 (.var 5) (.var 3)])
    [.put 3 (.var 5) (.var 4)]
    []]) (S ps f m) .nx q->Run (execs Γ body) (S ps f o5) .nx q:=λh =>
    ax (r:=(.loc,.str a.1)) (ba (x:=(.loc,B' a)) (ba (ae rfl) (aU rfl) trivial (dI (Cs l))) aj trivial rfl) aF h
   have n:Run (dC cc [4] (.any,.int (t:Nat))) (S ps o4 o5) () (S ps f o5):=fD jO;by_cases b:a.1∈K0
   ·rw[ŉ b]at i;exact⟨_,_,n,g (pv i (λh=>by cases h) λ_=>av),by rw[<-j];simp,ps,_,_,rfl,x.skip l (.inl b)⟩
   ·by_cases c:a.1∈ps.map (·.1)
    ·rw[ň b,ŉ c]at i;exact⟨_,_,n,g (pv i (λh=>by cases h) λ_=>av),by rw[<-j];simp,ps,_,_,rfl,x.skip l (.inr c)⟩
    ·rw[ň b,ň c]at i;refine⟨_,S (ps++[(a.1,t)]) f m,n,g (pv i (λ_=>?_) λh=>by cases h),by rw[<-j];simp,_,_,_,rfl,x.take l b c⟩;have H:(ps++[(a.1,t)]).map (·.1)=ps.map (·.1)++[a.1]:=by simp
     have I:((ps++[(a.1,t)]).map λp=>U.int (p.2:Nat))=(ps.map λp=>U.int (p.2:Nat))++[.int (t:Nat)]:=by simp
     show Run _ _ _ [a5 (.loc,.tup (rows.map B')),a5 (.any,.lst (R.map λt:Nat=>.int (t:Nat))),a5 (.any,.IM K0 vs),a5 (.own,.IM ((ps++[(a.1,t)]).map (·.1)) ((ps++[(a.1,t)]).map λp=>.int (p.2:Nat))),f,m];rw[H,I];exact gc (k:=.own) (rv:=(.any,.int (t:Nat))) (rk:=(.loc,.str a.1)) (aU rfl) rfl (ae rfl) (aA (qI rfl) (aA aG aI)) rfl rfl (uX (by rw[dt];lia) c) av) R [] (S [] bD bD) ⟨rfl,[],bD,bD,rfl,NS.start K0⟩
 subst e;rw[i9]at x;have G:=o x;obtain⟨J,N,O⟩:=Cq (ps:=ps) ⋯ x.once;refine⟨J,x.perm N,?_⟩;have e:(R.map λt:Nat=>U.int (t:Nat)).map (λu=>(kE .any,u))=R.map λt=>(Kd.any,U.int (t:Nat)):=by rw[kj];rfl
 exact bb rfl (.inl rfl) z (ax (r:=(.own,.IM [] [])) lH aY (cF (rs:=[(.any,.lst (R.map λt:Nat=>.int (t:Nat)))]) (st1:=S [] bD bD) (af (aU rfl) ai) trivial rfl rfl (by rw[e];exact B) (bG (Hr rfl O) gS)))
end
noncomputable def mi(rows:List Row)(K0:List Str)(d:List Nat)(p:Nat):Int:=(cnt rows K0 p:Int) - (if p∈d then 1 else 0)
noncomputable def bQ(rows:List Row)(f:Nat->Int):List U:=(hJ rows.length).map λp=>U.int (f p)
noncomputable def fG(R:List Nat):List U:=R.map λt:Nat=>U.int (t:Nat)
theorem CG(rows:List Row)(K0:List Str):bQ rows (mi rows K0 [])=bQ rows λp=>(cnt rows K0 p:Int):=by
 unfold bQ mi;refine w6 λp _=>?_;simp
theorem CH(b:Once rows)(c:w∉K0):bQ rows (mi rows K0 (Jx rows rows.length w))=bQ rows λp=>(cnt rows (K0++[w]) p:Int):=by
 unfold bQ mi;refine w6 λp d=>?_;have e:=u5.mp d;have a:=pD b c p;by_cases h:w∈told rows p
 ·rw[ņ (iX.mpr ⟨e,h⟩)];rw[ņ h]at a;show U.int ((cnt rows K0 p:Int) - 1)=U.int (cnt rows (K0++[w]) p:Int);congr 1
  lia
 ·rw[Ň λz=>h (iX.mp z).2];rw[Ň h]at a;show U.int ((cnt rows K0 p:Int) - 0)=U.int (cnt rows (K0++[w]) p:Int);congr 1
  lia
theorem Ad(a:t∉d):(bQ rows (mi rows K0 d)).set t (.int (mi rows K0 d t - 1))=bQ rows (mi rows K0 (d++[t])):=by
 unfold bQ;rw[set_range];refine w6 λp _=>?_;unfold mi;by_cases e:p=t
 ·subst e;rw[ņ rfl,Ň a,ņ (by simp)];rw[show((cnt rows K0 p:Int) - 0 - 1)=(cnt rows K0 p:Int) - 1 by lia]
 ·rw[Ň e];have:(p∈d++[t])↔p∈d:=by simp[e]
  simp only[this]
theorem Ae(h:t<rows.length):(bQ rows f)[t]?=a5 (.int (f t)):=by simp[bQ,h]
section
variable{Γ:Tab}{rows:List Row}
noncomputable def u_:List TM.S:=[.aug b8 2 (.var 9) (.cst (.int 1)),.ite (.cmp .eq (.idx (.var 2) (.var 9)) (.cst (.int 0))) [.app 5 (.var 9)] []]
theorem rf(u:Once rows)(J:rows.length<=100)(v:w∉K0)(L:R.length<=10000)(o9:Option (Kd×U))(y:∀st,bq src st):∃l:Option (Kd×U),
  Run (forM cc [9] (execs Γ u_) src ((Jx rows rows.length w).map λt:Nat=>(Kd.loc,U.int (t:Nat))))
   [b0,b1,a5 (.own,.lst (bQ rows λp=>(cnt rows K0 p:Int))),b3,b4,a5 (.own,.lst (fG R)),o6,o7,o8,o9] .nx
   [b0,b1,a5 (.own,.lst (bQ rows λp=>(cnt rows (K0++[w]) p:Int))),b3,b4,a5 (.own,.lst (fG (R++(Jx rows rows.length w).filter λt=>cK (cnt rows K0 t=1)))),o6,o7,o8,l]:=by
 have hsz:(20000:Nat)<=cL:=by decide
 let S:=λ(ms:List U) (R:List Nat) (o9:Option (Kd×U))=>([b0,b1,a5 (.own,.lst ms),b3,b4,a5 (.own,.lst (fG R)),o6,o7,o8,o9]:aw)
 obtain⟨st',m,c,l,e⟩:=bL (t:=cc) (is:=[9]) (body:=execs Γ u_) (rs:=src) (λt:Nat=>(Kd.loc,U.int (t:Nat)))
  (λd r st=>d++r=Jx rows rows.length w/\∃o9:Option (Kd×U),st=S (bQ rows (mi rows K0 d)) (R++d.filter λt=>cK (cnt rows K0 t=1)) o9) (λ_ _ st _=>y st) (λd t r st A=>by
   obtain⟨c,o9,e⟩:=A;subst e;have B:t∈Jx rows rows.length w:=by rw[<-c];simp
   have n:t<rows.length:=(iX.mp B).1;have o:=wI (rows:=rows) rows.length w;have C:t∉d:=λz=>by
    rw[<-c,t5]at o;exact o.2.2 t z t (by simp) rfl
   have N:d.length<=100:=by
    have D:=Ŋ J7 c;have G:(Jx rows rows.length w).length<=(hJ rows.length).length:=td _ _;simp at D G;lia
   let b:Option (Kd×U):=a5 (.loc,.int (t:Nat));let a:=R++d.filter λt=>cK (cnt rows K0 t=1);have O:a.length<=10100:=by
    have:(d.filter λt=>cK (cnt rows K0 t=1)).length<=d.length:=td _ _;show(R++_).length<=_;rw[i0];lia
   have H:JP (bQ rows (mi rows K0 (d++[t]))) (t:Int)=a5 (.int (mi rows K0 (d++[t]) t)):=eC (Ae n);have I:mi rows K0 (d++[t]) t=(cnt rows K0 t:Int) - 1:=by unfold mi;rw[ņ (by simp)]
   have g:Run (Jh Γ (.cmp .eq (.idx (.var 2) (.var 9)) (.cst (.int 0)))) (S (bQ rows (mi rows K0 (d++[t]))) a b) (cK (cnt rows K0 t=1)) (S (bQ rows (mi rows K0 (d++[t]))) a b) :=
    aN (ba (x:=(.bor 2,.lst (bQ rows (mi rows K0 (d++[t]))))) (aD rfl) (ae rfl) ⟨⟨.own,rfl,rfl⟩,trivial⟩ (bZ H)) aj trivial (cq (by
     rw[I,Kk];simp;lia))
   have f:∀{q:aw},Run (execs Γ [.ite (.cmp .eq (.idx (.var 2) (.var 9)) (.cst (.int 0)))
      [.app 5 (.var 9)]
      []]) (S (bQ rows (mi rows K0 (d++[t]))) a b) .nx q->Run (execs Γ u_) (S (bQ rows (mi rows K0 d)) a b) .nx q:=λh=>by
    refine Hq (us:=bQ rows (mi rows K0 d)) (k1:=.loc) (k2:=.loc) (j:=t) (w:=1) rfl (ae rfl) (Ae n) aj ?_;rw[Ad C];exact h
   have s:Run (dC cc [9] (.loc,.int (t:Nat))) (S (bQ rows (mi rows K0 d)) a o9) () (S (bQ rows (mi rows K0 d)) a b):=fD aF;cases i:cK (cnt rows K0 t=1) with
   |false =>
    rw[i]at g;refine⟨_,_,s,f (pv g (λh=>by cases h) λ_=>av),by rw[<-c];simp,b,?_⟩;rw[Ni,vu,i];simp[S,a]
   |true =>
    rw[i]at g;refine⟨_,S (bQ rows (mi rows K0 (d++[t]))) (a++[t]) b,s,f (pv g (λ_=>?_) λh=>by cases h),by rw[<-c];simp,b,?_⟩
    ·have em:fG (a++[t])=fG a++[.int (t:Nat)]:=by simp[fG]
     show Run _ _ _ [b0,b1,a5 (.own,.lst (bQ rows (mi rows K0 (d++[t])))),b3,b4,a5 (.own,.lst (fG (a++[t]))),o6,o7,o8,b];rw[em];exact e_ (k:=.own) (k':=.own) (r:=(.loc,.int (t:Nat))) rfl (ae rfl) aG rfl rfl (by unfold fG;rw[dt];lia) av
    ·rw[Ni,vu,i];simp[S,a]) (Jx rows rows.length w) [] (S (bQ rows (mi rows K0 [])) R o9) ⟨rfl,o9,by simp⟩
 subst e;rw[i9]at m;rw[CG,CH u v]at m;exact⟨l,m⟩
noncomputable def Af:List TM.S:=[.put 3 (.var 7) (.cst (.bl b8)),.Ji cc [9] .seq [.Lw 1 (.var 7) (.lst [])] u_]
theorem wV(n:Once rows)(y:rows.length<=100)(A:∀w,w∉ks->Jx rows rows.length w=[])(o:(K0++st.map (·.1)).Nodup)(hl:K0.length+st.length<=100)(vs:List U)(o7 o8 o9:Option (Kd×U)):∃(g:List U) (R:List Nat) (i j a:Option (Kd×U)),
  RI rows K0 (K0++st.map (·.1)) R/\(st=[]->R=[])/\Run (forM b8 [7,8] (execs Γ Af) [(.bor 6,.lst (st.map stN))] (st.map λs=>(Kd.loc,stN s)))
   [b0,a5 (.own,.IM ks (ks.map (cD (Jx rows rows.length)))),a5 (.own,.lst (bQ rows λp=>(cnt rows K0 p:Int))),a5 (.own,.IM K0 vs),b4,a5 (.own,.lst []),a5 (.own,.lst (st.map stN)),o7,o8,o9] .nx
   [b0,a5 (.own,.IM ks (ks.map (cD (Jx rows rows.length)))),a5 (.own,.lst (bQ rows λp=>(cnt rows (K0++st.map (·.1)) p:Int))),a5 (.own,.IM (K0++st.map (·.1)) g),b4,a5 (.own,.lst (fG R)),a5 (.own,.lst (st.map stN)),i,j,a]:=by
 let S:=λ(K:List Str) (vs:List U) (R:List Nat) (o7 o8 o9:Option (Kd×U))=>([b0,a5 (.own,.IM ks (ks.map (cD (Jx rows rows.length)))),a5 (.own,.lst (bQ rows λp=>(cnt rows K p:Int))),a5 (.own,.IM K vs),b4,a5 (.own,.lst (fG R)),a5 (.own,.lst (st.map stN)),o7,o8,o9]:aw)
 obtain⟨st',B,b,g,R,i,j,a,e,x,C,q⟩:=bL (t:=b8) (is:=[7,8]) (body:=execs Γ Af) (rs:=[(.bor 6,.lst (st.map stN))]) (λs:Str×Nat=>(Kd.loc,stN s))
  (λd r l=>d++r=st/\∃(vs:List U) (R:List Nat) (o7 o8 o9:Option (Kd×U)),l=S (K0++d.map (·.1)) vs R o7 o8 o9/\RI rows K0 (K0++d.map (·.1)) R/\R.length<=100 * d.length/\(d=[]->R=[])) (λ_ _ l ⟨_,vs,R,o7,o8,o9,e,_⟩=>by subst e;exact⟨⟨.own,rfl,rfl⟩,trivial⟩) (λd s r l D=>by
   obtain⟨b,vs,R,o7,o8,o9,e,x,C,q⟩:=D;subst e;obtain⟨w,p⟩:=s;have N:d.length<st.length:=by have:=Ŋ J7 b;simp at this;lia
   have m:w∉K0++d.map (·.1):=λz=>by
    rw[<-b,kr,<-Ð,t5]at o;exact o.2.2 w z w (by simp) rfl
   let c:Option (Kd×U):=a5 (.loc,.str w);let f:Option (Kd×U):=a5 (.loc,.int (p:Nat));obtain⟨a,G⟩:=rf (Γ:=Γ) n y m (R:=R) ⋯ (b0:=b0) (b1:=a5 (.own,.IM ks (ks.map (cD (Jx rows rows.length))))) (b3:=a5 (.own,.IM (K0++d.map (·.1)++[w]) (vs++[.bl b8]))) (b4:=b4) (o6:=a5 (.own,.lst (st.map stN))) (o7:=c) (o8:=f) o9 (src:=[(.loc,cD (Jx rows rows.length) w)]) (λ_=>trivial);have em:K0++(d++[(w,p)]).map (·.1)=K0++d.map (·.1)++[w]:=by simp
   have H:(K0++d.map (·.1)).length<1000:=by rw[i0,dt];lia
   have I:(match dN ks (ks.map (cD (Jx rows rows.length))) w with|some v=>(Kd.loc,v)|none=>(.loc,U.lst []))=(.loc,cD (Jx rows rows.length) w):=by
    rw[lR];by_cases h:w∈ks
    ·rw[ņ h]
    ·rw[Ň h];unfold cD;rw[A w h];rfl
   have J:((Jx rows rows.length w).map λt:Nat=>U.int (t:Nat)).map (λu=>(kE .loc,u))=(Jx rows rows.length w).map λt=>(Kd.loc,U.int (t:Nat)):=by rw[kj];rfl
   refine⟨S (K0++d.map (·.1)) vs R c f o9,S (K0++d.map (·.1)++[w]) (vs++[.bl b8]) (R++(Jx rows rows.length w).filter λt=>cK (cnt rows (K0++d.map (·.1)) t=1)) c f a,lQ (.inl rfl),?_,by rw[<-b];simp,vs++[.bl b8],_,c,f,a,by rw[em],?_,?_,λz=>by simp at z⟩
   ·refine gc (k:=.own) (rv:=(.loc,.bl b8)) (rk:=(.loc,.str w)) aj rfl (ae rfl) (aA aG (aA aG aI)) rfl rfl (uX H m) ?_;exact cF (rs:=[(.loc,cD (Jx rows rows.length) w)]) (af (Fv (k:=.loc) (z:=(.own,.lst [])) (u:=.lst []) rfl (ae rfl) (bV ai trivial aI (lg _)) za I) ai) trivial (by show a5 (WI (λu=>(kE .loc,u)) _)=_;rw[J]) rfl G av
   ·rw[em];exact x.step n m
   ·have:((Jx rows rows.length w).filter λt=>cK (cnt rows (K0++d.map (·.1)) t=1)).length<=100:=by
     refine wh (td _ _) ?_;have L:(Jx rows rows.length w).length<=(hJ rows.length).length:=td _ _;simp at L;lia
    rw[i0,i0,Lq];lia) st [] (S K0 vs [] o7 o8 o9) ⟨rfl,vs,[],o7,o8,o9,by simp[S],by simpa using RI.start K0,by simp,λ_=>rfl⟩
 subst e;exact⟨g,R,i,j,a,by simpa using x,λz=>q (by simpa using z),by simpa[S,fG] using B⟩
noncomputable def gG(a:List (List (Str×Nat))):List U:=a.map λl=>U.lst (l.map stN)
noncomputable def Ag:List TM.S:=[.set 6 (.call "new_steps" [.var 0,.var 5,.var 3]),.set 5 (.lst []),.Ji b8 [7,8] .seq [.var 6] Af,.ite (.cmp .ne (.var 6) (.lst [])) [.app 4 (.var 6)] []]
def Ah(Γ:Tab)(rows:List Row):Prop:=∀(R:List Nat) (K0:List Str) (vs:List U),(∀t∈R,t<rows.length)->∃st:List (Str×Nat),NS rows K0 R st/\Γ "new_steps" [.tup (rows.map B'),.lst (fG R),.IM K0 vs]=a5 (.ok (.own,.lst (st.map stN)))
theorem jC(G:Once rows)(H:rows.length<=100)(I:Ah Γ rows)(J:∀w,w∉ks->Jx rows rows.length w=[]):∀(f:Nat) (c:List (Str×Nat)) (d:List (List (Str×Nat))) (R:List Nat) (vs:List U) (o6 o7 o8 o9:Option (Kd×U)),
  LI rows c R->d.flatten=c->d.length<=c.length->(rows.length - c.length)+(if R=[] then 1 else 2)<=f ->
  ∃(QS:List (Str×Nat)) (N:List (List (Str×Nat))) (st':aw),LI rows QS []/\N.flatten=QS/\N.length<=100/\st'[4]?=a5 (a5 (.own,.lst (gG N))) /\
   Run (gE (Jh Γ (.cmp .ne (.var 5) (.lst []))) (execs Γ Ag) f) [a5 (.loc,.tup (rows.map B')),a5 (.own,.IM ks (ks.map (cD (Jx rows rows.length)))),a5 (.own,.lst (bQ rows λp=>(cnt rows (c.map (·.1)) p:Int))),a5 (.own,.IM (c.map (·.1)) vs),a5 (.own,.lst (gG d)),a5 (.own,.lst (fG R)),o6,o7,o8,o9] .nx st'
 |0,c,d,R,vs,o6,o7,o8,o9,_,_,_,h=>by split at h<;>lia
 |f+1,c,d,R,vs,o6,o7,o8,o9,x,O,O7,h=>by
  have hsz:(20000:Nat)<=cL:=by decide
  have MY:∀{s:List (Str×Nat)} {g:List Nat},LI rows s g->s.length<=rows.length:=λ{s g} x=>by
   have:=qU x.nd x.wd;simpa using this
  have JX:=MY x;let S:=λ(K:List Str) (vs:List U) (d:List (List (Str×Nat))) (R:List Nat) (o6 o7 o8 o9:Option (Kd×U))=>([a5 (.loc,.tup (rows.map B')),a5 (.own,.IM ks (ks.map (cD (Jx rows rows.length)))),a5 (.own,.lst (bQ rows λp=>(cnt rows K p:Int))),a5 (.own,.IM K vs),a5 (.own,.lst (gG d)),a5 (.own,.lst (fG R)),o6,o7,o8,o9]:aw)
  have Zf:∀R:List Nat,Ko 50 (.lst (fG R))=b8:=λR=>by show eL 49 _=b8;exact nL (λt:Nat=>((t:Nat):Int)) R 49
  have A:Run (Jh Γ (.cmp .ne (.var 5) (.lst []))) (S (c.map (·.1)) vs d R o6 o7 o8 o9) (!(fG R).isEmpty) (S (c.map (·.1)) vs d R o6 o7 o8 o9) :=
   aN (aD rfl) (bV ai trivial aI (lg _)) ⟨⟨.own,rfl,rfl⟩,trivial⟩ (qW (Zf R))
  by_cases Q:R=[]
  ·subst Q;exact⟨c,d,_,x,O,⋯,rfl,uV A⟩
  ·rw[Ň Q]at h;have Zg:(!(fG R).isEmpty)=b8:=by
    cases R with
    |nil=>exact absurd rfl Q
    |cons a l=>rfl
   rw[Zg]at A;obtain⟨st,n,IZ⟩:=I R (c.map (·.1)) vs λt ht=>(x.QK t ht).1;have Je:(c.map (·.1)++st.map (·.1)).Nodup:=by
    rw[t5];refine⟨x.nd,n.once,λa ha b q e=>?_⟩;obtain⟨s,hs,rfl⟩:=js.mp q;exact(n.ok s hs).2.1 (e▸ha)
   have ab:c.length+st.length<=rows.length:=by
    have:=qU Je (L:=rows.map (·.1)) λy hy=>by
     rcases i6.mp hy with hy|hy
     ·exact x.wd y hy
     ·obtain⟨s,hs,rfl⟩:=js.mp hy;obtain⟨_,_,r,q1,q2⟩:=n.ok s hs;exact js.mpr ⟨r,my q1,q2⟩
    simpa using this
   let v:Option (Kd×U):=a5 (.own,.lst (st.map stN));obtain⟨i,g,j,m,o,y,Zh,UN⟩:=wV (Γ:=Γ) G H J Je (by rw[dt];lia) (b0:=a5 (.loc,.tup (rows.map B'))) (b4:=a5 (.own,.lst (gG d))) vs o7 o8 o9;have T:=x.step n y;have em:(c++st).map (·.1)=c.map (·.1)++st.map (·.1):=kr;have Zi:Ko 50 (.lst (st.map stN))=b8:=by show eL 49 _=b8;exact qX st 48
   have B:Run (Jh Γ (.cmp .ne (.var 6) (.lst []))) (S (c.map (·.1)++st.map (·.1)) i d g v j m o) (!(st.map stN).isEmpty) (S (c.map (·.1)++st.map (·.1)) i d g v j m o) :=
    aN (aD rfl) (bV ai trivial aI (lg _)) ⟨⟨.own,rfl,rfl⟩,trivial⟩ (qW Zi)
   have e1:(st.map stN).map (λu=>(kE (.bor 6),u))=st.map λs=>(Kd.loc,stN s):=by rw[kj];rfl
   have z:∀{Kc:aw},Run (execs Γ [.ite (.cmp .ne (.var 6) (.lst []))
    [.app 4 (.var 6)]
    []]) (S (c.map (·.1)++st.map (·.1)) i d g v j m o) .nx Kc->Run (execs Γ Ag) (S (c.map (·.1)) vs d R o6 o7 o8 o9) .nx Kc:=λh=>by
    refine ax (r:=(.own,.lst (st.map stN))) (bj (af (ae rfl) (af (aD rfl) (af (aD rfl) ai))) ⟨⟨.own,rfl,rfl⟩,⟨.own,rfl,rfl⟩,trivial⟩ IZ) aY ?_;refine ax (r:=(.own,.lst [])) (bV ai trivial aI (lg _)) aY ?_;exact cF (rs:=[(.bor 6,.lst (st.map stN))]) (af (aD rfl) ai) ⟨⟨.own,rfl,rfl⟩,trivial⟩ (by show a5 (WI (λu=>(kE (.bor 6),u)) _)=_;rw[e1]) rfl UN h
   by_cases C:st=[]
   ·have Zj:=Zh C;subst C;rw[show(!(([]:List (Str×Nat)).map stN).isEmpty)=cc from rfl]at B;have ee:c++[]=c:=tj _;rw[ee]at T;have q:=z (pv B (λh=>by cases h) λ_=>av);obtain⟨Y,OQ,st2,z1,z2,z3,z4,D⟩:=jC G H I J f c d g i v j m o T O O7 (by rw[ņ Zj];lia);refine⟨Y,OQ,st2,z1,z2,z3,z4,zq A q ?_⟩;have e3:c.map (·.1)++([]:List (Str×Nat)).map (·.1)=c.map (·.1):=by simp
    show Run _ (S (c.map (·.1)++([]:List (Str×Nat)).map (·.1)) i d g v j m o) _ _;rw[e3];exact D
   ·have UO:(!(st.map stN).isEmpty)=b8:=by
     cases st with
     |nil=>exact absurd rfl C
     |cons a l=>rfl
    rw[UO]at B;have Zk:0<st.length:=List.length_pos_iff.mpr C;have ef:gG (d++[st])=gG d++[.lst (st.map stN)]:=by simp[gG]
    have q:Run (execs Γ Ag) (S (c.map (·.1)) vs d R o6 o7 o8 o9) .nx (S (c.map (·.1)++st.map (·.1)) i (d++[st]) g (a5 (.loc,.lst (st.map stN))) j m o):=by
     refine z (pv B (λ_=>?_) λh=>by cases h);show Run _ _ _ [a5 (.loc,.tup (rows.map B')),a5 (.own,.IM ks (ks.map (cD (Jx rows rows.length)))),a5 (.own,.lst (bQ rows λp=>(cnt rows (c.map (·.1)++st.map (·.1)) p:Int))),a5 (.own,.IM (c.map (·.1)++st.map (·.1)) i),a5 (.own,.lst (gG (d++[st]))),a5 (.own,.lst (fG g)),a5 (.loc,.lst (st.map stN)),j,m,o];rw[ef];exact e_ (k:=.own) (k':=.own) (r:=(.bor 6,.lst (st.map stN))) (u:=.lst (st.map stN)) rfl (aD rfl) (Hm rfl) rfl rfl (by unfold gG;rw[dt];lia) av
    obtain⟨Y,OQ,st2,z1,z2,z3,z4,D⟩:=jC G H I J f (c++st) (d++[st]) g i (a5 (.loc,.lst (st.map stN))) j m o T (by rw[ZR,O];simp) (by rw[i0,i0,Lq];lia) (by rw[i0];split<;>lia);refine⟨Y,OQ,st2,z1,z2,z3,z4,zq A q ?_⟩;rw[em]at D;exact D
def C_(Γ:Tab)(rows:List Row):Prop:=∃ks:List Str,(∀w,w∉ks->Jx rows rows.length w=[])/\Γ "places_that_tell" [.tup (rows.map B')]=a5 (.ok (.own,.IM ks (ks.map (cD (Jx rows rows.length)))))
theorem gH(q:Once rows)(s:rows.length<=100)(v:C_ Γ rows)(w:Ah Γ rows):∃(f:List (Str×Nat)) (d:List (List (Str×Nat))),LI rows f []/\d.flatten=f/\d.length<=100/\cu Γ br [.tup (rows.map B')]=a5 (.ok (.own,.lst (gG d))):=by
 have hsz:(20000:Nat)<=cL:=by decide
 obtain⟨ks,z,A⟩:=v;have B:TM.start [.tup (rows.map B')] 10=[a5 (.loc,.tup (rows.map B')),bD,bD,bD,bD,bD,bD,bD,bD,bD]:=by simp[TM.start,Jl,bJ]
 let g:Option (Kd×U):=a5 (.loc,.tup (rows.map B'));let h:Option (Kd×U):=a5 (.own,.IM ks (ks.map (cD (Jx rows rows.length))));let C:Option (Kd×U):=a5 (.own,.lst (bQ rows λp=>(cnt rows [] p:Int)));have D:Run (ev Γ (.comp 1 cc .seq [.var 0] [] (.bi .len [.idx (.var 0) (.cst (.int 1))]))) [g,h,bD,bD,bD,bD,bD,bD,bD,bD] (.own,.lst (bQ rows λp=>(cnt rows [] p:Int))) [g,h,bD,bD,bD,bD,bD,bD,bD,bD]:=by
  have c:=lL (cond:=bf Γ []) (elt:=ev Γ (.bi .len [.idx (.var 0) (.cst (.int 1))])) (src:=[(.loc,.tup (rows.map B'))]) (st:=[g,h,bD,bD,bD,bD,bD,bD,bD,bD]) trivial .loc (.inl rfl) B' (λr=>.int (r.2.length:Nat)) .loc (λ_=>nG) rows [] (by simp;lia)
   (λy _=>⟨cC (af (ba (x:=(.loc,B' y)) (ae rfl) aj trivial rfl) ai) trivial (by rw[km,dt]),aG⟩)
  rw[i9]at c;have e:(rows.map B').map (λu=>(kE .loc,u))=rows.map λr=>(Kd.loc,B' r):=by rw[kj];rfl
  have G:(rows.map λr=>U.int (r.2.length:Nat))=bQ rows λp=>(cnt rows [] p:Int):=by
   unfold bQ;apply Md
   ·simp
   ·intro i j k;have H:i<rows.length:=by simpa using j
    have l:told rows i=rows[i].2:=kn (by simp[H]);have I:cnt rows [] i=rows[i].2.length:=by unfold cnt sQ;rw[l];simp
    simp[I]
  rw[G]at c;exact dX (rs:=[(.loc,.tup (rows.map B'))]) (af (ae rfl) ai) trivial (by show a5 _=_;rw[e]) c
 let m:=(hJ rows.length).filter λp=>cK (cnt rows [] p=0);let n:aw:=[g,h,C,a5 (.own,.IM [] []),a5 (.own,.lst []),bD,bD,bD,bD,bD]
 have J:Run (ev Γ (.comp 2 b8 .Ot [.var 2] [.cmp .eq (.var 1) (.cst (.int 0))] (.var 0))) n (.own,.lst (fG m)) n:=by
  have c:=pF (st:=n) (cond:=bf Γ [.cmp .eq (.var 1) (.cst (.int 0))]) (elt:=ev Γ (.var 0)) (src:=[(.bor 2,.lst (bQ rows λp=>(cnt rows [] p:Int)))]) ⟨⟨.own,rfl,rfl⟩,trivial⟩ (λp:Nat=>U.int (p:Nat)) (λp:Nat=>U.int (cnt rows [] p:Int)) (λp:Nat=>U.int (p:Nat)) (λp=>cK (cnt rows [] p=0)) (hJ rows.length) [] (by simp;lia)
   (λy _=>⟨c7 (aN (ae rfl) aj trivial (cq (by rw[Kk];simp))),ae rfl⟩)
  rw[i9]at c;have e:((bQ rows λp=>(cnt rows [] p:Int)).zipIdx.map λp=>(kE (.bor 2),U.tup [.int p.2,p.1]))=(hJ rows.length).map λp:Nat=>(Kd.loc,U.tup [.int (p:Nat),.int (cnt rows [] p:Int)]):=by
   unfold bQ;apply Md
   ·simp
   ·intro i j k;simp[kE]
  exact dX (rs:=[(.bor 2,.lst (bQ rows λp=>(cnt rows [] p:Int)))]) (af (aD rfl) ai) ⟨⟨.own,rfl,rfl⟩,trivial⟩ (by show a5 _=_;rw[e]) c
 have L:LI rows [] m:=⟨trivial,λt l=>by
  obtain⟨a,b⟩:=vl.mp l;exact⟨u5.mp a,by simpa using b⟩,λt r j k=>.inl (vl.mpr ⟨u5.mpr (dV.mp j).1,by simpa using k⟩)⟩
 obtain⟨f,d,st',N,O,Q,o,T⟩:=jC q s w z fuel [] [] m [] bD bD bD bD L rfl (hV _) (by unfold fuel;split<;>simp<;>lia);refine⟨f,d,N,O,Q,?_⟩;exact bb rfl (.inl rfl) B (ax (r:=(.own,.IM ks (ks.map (cD (Jx rows rows.length))))) (bj (af (ae rfl) ai) trivial A) aY (ax D aY (ax (r:=(.own,.IM [] [])) lH aY (ax (r:=(.own,.lst [])) (bV ai trivial aI (lg _)) aY (ax J aY (zr T (bG (aD o) (iU o))))))))
theorem wW(hs:Γ "steps_in_rounds" [.tup (rows.map B')]=a5 (.ok (.own,.lst (gG a))))(c:a.flatten=f)(hl:f.length<=100):cu Γ fF [.tup (rows.map B')]=a5 (.ok (.own,.lst (f.map stN))):=by
 have hsz:(20000:Nat)<=cL:=by decide
 have h:TM.start [.tup (rows.map B')] 3=[a5 (.loc,.tup (rows.map B')),bD,bD]:=by simp[TM.start,Jl,bJ]
 let S:=λ(l:List (Str×Nat)) (o2:Option (Kd×U))=>([a5 (.loc,.tup (rows.map B')),a5 (.own,.lst (l.map stN)),o2]:aw)
 obtain⟨st',i,b,o2,e⟩:=bL (t:=cc) (is:=[2]) (body:=execs Γ [.ext 1 (.var 2)]) (rs:=[(.own,.lst (gG a))]) (λl:List (Str×Nat)=>(Kd.loc,U.lst (l.map stN)))
  (λd r st=>d++r=a/\∃o2:Option (Kd×U),st=S d.flatten o2) (λ_ _ _ _=>trivial) (λd y r st j=>by
   obtain⟨b,o2,e⟩:=j;subst e;have m:d.flatten.length+y.length<=100:=by
    have:=Ŋ (λl:List (List (Str×Nat))=>l.flatten.length) b;simp only[ZR,Vh,i0,c]at this;lia
   refine⟨S d.flatten (a5 (.loc,.lst (y.map stN))),S (d++[y]).flatten (a5 (.loc,.lst (y.map stN))),fD aF,?_,by rw[<-b];simp,_,rfl⟩;have em:(d++[y]).flatten.map stN=d.flatten.map stN++y.map stN:=by simp
   show Run _ _ _ [a5 (.loc,.tup (rows.map B')),a5 (.own,.lst ((d++[y]).flatten.map stN)),a5 (.loc,.lst (y.map stN))];rw[em];exact zh (k:=.own) (k':=.own) rfl (ae rfl) rfl rfl (uS (by rw[dt,dt];lia) rfl) av) a [] (S [] bD) ⟨rfl,bD,rfl⟩
 subst e;have e:(gG a).map (λu=>(kE .own,u))=a.map λl=>(Kd.loc,U.lst (l.map stN)):=by unfold gG;rw[kj];rfl
 have g:=bb (Γ:=Γ) (fn:=fF) rfl (.inl rfl) h (ax (r:=(.own,.lst [])) (bV ai trivial aI (lg _)) aY (cF (rs:=[(.own,.lst (gG a))]) (st1:=S [] bD) (af (bj (af (ae rfl) ai) trivial hs) ai) trivial rfl rfl (by rw[e];exact i) (bG (aD rfl) (iU rfl))));rw[i9,c]at g;exact g
end
section
variable{Γ:Tab}{rows:List Row}{names:List Str}
theorem lX(h:ss.length<64):KO .sorted [(k,.lst (ss.map .str))]=a5 (.own,.lst ((aB ss).map .str)):=by
 show(strsOf (ss.map U.str)).bind _=_;rw[dG];show(if ss.length<64 then _ else _)=_;rw[ņ h]
theorem tm{a:List (Str×Nat)}(hl:a.length<64)(ho:Γ "order" [.tup (rows.map B')]=a5 (.ok (.own,.lst (a.map stN)))):cu Γ fe [.tup (rows.map B')]=a5 (.ok (.own,.lst ((aB (a.map (·.1))).map .str))):=by
 have hsz:(20000:Nat)<=cL:=by decide
 have c:TM.start [.tup (rows.map B')] 1=[a5 (.loc,.tup (rows.map B'))]:=by simp[TM.start,Jl,bJ]
 have b:=pF (st:=[a5 (.loc,.tup (rows.map B'))]) (cond:=bf Γ []) (elt:=ev Γ (.var 0)) (src:=[(.own,.lst (a.map stN))]) trivial (λs:Str×Nat=>U.str s.1) (λs=>U.int (s.2:Nat)) (λs=>U.str s.1) (λ_=>b8) a [] (by simp;lia) (λy _=>⟨nG,ae rfl⟩);rw[i9,QT.mpr (λ_ _=>rfl)]at b;have e:(a.map stN).map (λu=>(kE .own,u))=a.map λs=>(Kd.loc,U.tup [.str s.1,.int (s.2:Nat)]):=by rw[kj];rfl
 have d:(a.map λs=>U.str s.1)=(a.map (·.1)).map U.str:=by rw[kj];rfl
 rw[d]at b;exact bb rfl (.inl rfl) c (bG (cC (af (dX (rs:=[(.own,.lst (a.map stN))]) (af (bj (af (ae rfl) ai) trivial ho) ai) trivial (by show a5 (WI (λu=>(kE .own,u)) _)=_;rw[e]) b) ai) trivial (lX (by rw[dt];exact hl))) gS)
structure RO(prog:List Fn):Prop where
 g:Ju prog "gathered" dm
 p:Ju prog "places_that_tell" bo
 n:Ju prog "new_steps" cT
 s:Ju prog "steps_in_rounds" br
 o:Ju prog "order" fF
 l:Ju prog "learnt" fe
structure Kn(rows:List Row)(K:List Str):Prop where
 nd:K.Nodup
 sn:NO rows K
 cl:fE rows (·∈K)
theorem Kn.perm(a:Kn rows K)(b:Kn rows L):K.Perm L:=same a.nd b.nd a.sn b.sn a.cl b.cl
theorem Kn.of(s:LI rows a []):Kn rows (a.map (·.1)):=⟨s.nd,s.sn,s.closed⟩
theorem vb(L:RO prog)(n:Nat)(d:∀r∈rows,nI names r)(y:names.length<=24)(e:rows.length<=100):∃c:List (Str×Nat),LI rows c []/\c.length<=24/\I_ prog (n+4) "order" [.tup (rows.map B')]=a5 (.ok (.own,.lst (c.map stN))):=by
 have j:∀r∈rows,r.2.length<=8:=λr h=>(d r h).MY;have f:Once rows:=λr h=>(d r h).once;have i:∀r∈rows,r.1∈names:=λr h=>(d r h).word;have k:C9 (I_ prog (n+1)):=λps hl=>by
  obtain⟨ks,a,b⟩:=pI (Γ:=I_ prog n) hl;exact⟨ks,a,(aJ L.g _).trans b⟩
 have l:C_ (I_ prog (n+2)) rows:=by
  obtain⟨ks,a,b⟩:=tf k f j e;exact⟨ks,a,(aJ L.p _).trans b⟩
 have m:Ah (I_ prog (n+2)) rows:=λR K0 vs q=>by
  obtain⟨st,a,b⟩:=mF (Γ:=I_ prog (n+1)) i ⋯ q (K0:=K0) (vs:=vs);exact⟨st,a,(aJ L.n _).trans b⟩
 obtain⟨c,t,s1,s2,s3,s4⟩:=gH f e l m;have u:I_ prog (n+3) "steps_in_rounds" [.tup (rows.map B')]=a5 (.ok (.own,.lst (gG t))):=(aJ L.s _).trans s4;have v:c.length<=24:=by
  have:=qU (Kn.of s1).nd (L:=names) λx w=>by
   obtain⟨r,a,b⟩:=js.mp (s1.wd x w);exact b▸i r a
  rw[dt]at this;lia
 exact⟨c,s1,v,(aJ L.o _).trans (wW u s2 ⋯)⟩
theorem CI(L:RO prog)(n:Nat)(a:∀r∈rows,nI names r)(b:names.length<=24)(c:rows.length<=100)(d:Kn rows K):I_ prog (n+5) "learnt" [.tup (rows.map B')]=a5 (.ok (.own,.lst ((aB K).map .str))):=by
 obtain⟨f,s1,s2,s3⟩:=vb L n a b c;have e:aB (f.map (·.1))=aB K:=eD ((Kn.of s1).perm d);rw[<-e];exact(aJ L.l _).trans (tm ⋯ s3)
end
end KL
namespace TM
open PySem L2 Jt
section
theorem fH(rs:List Row):(a5 (if Jl (.tup (rs.map B'))=b8 then Kd.loc else Kd.any,U.tup (rs.map B')):Option (Kd×U))=a5 (.loc,.tup (rs.map B')):=by
 rw[ņ (by show cB (rs.map B')=b8;exact bJ rs)]
theorem rg{ss:List Str}:K' .seq [(k,.tup (ss.map .str))]=a5 (ss.map λx=>(kE k,U.str x)):=by
 show a5 ((ss.map U.str).map λu=>(kE k,u))=_;rw[kj];rfl
theorem nU(a:us.length=fn.np)(hs:start us fn.ns=st0)(h:Run (execs Γ fn.body) st0 .nx st):cu Γ fn us=a5 (.ok (.loc,.IU)):=by
 subst hs;unfold cu;rw[ņ a,show execs Γ fn.body (start us fn.ns)=_ from h]
theorem Dd(h:Run (ev Γ e) st x st1):Run (execs Γ (.MQ c e::ss)) st (.rt .io (.str c)) st1:=aa (aa h aO) aO
theorem ja(a:us.length=fn.np)(hs:start us fn.ns=st0)(h:Run (execs Γ fn.body) st0 (.rt .io (.str c)) st):cu Γ fn us=a5 (.exc c):=by
 subst hs;unfold cu;rw[ņ a,show execs Γ fn.body (start us fn.ns)=_ from h]
theorem HC(h:Γ f us=a5 (.ok (.own,u))):Run (cP Γ f us) st (.inl (.own,u)) st:=by
 show cP Γ f us st=_;unfold cP;rw[h]
theorem Ai(h:Γ f us=a5 (.ok (.loc,u))):Run (cP Γ f us) st (.inl (.loc,u)) st:=by
 show cP Γ f us st=_;unfold cP;rw[h]
theorem Aj(h:Γ f us=a5 (.exc c)):Run (cP Γ f us) st (.inr c) st:=by
 show cP Γ f us st=_;unfold cP;rw[h]
theorem Ak(a:Run (bp Γ es) st rs st)(b:bq rs st)(c:Run (cP Γ f (rs.map (·.2))) st (.inl r) st)(d:Run (execs Γ ss) st e st1):Run (execs Γ (.My f es::ss)) st e st1 :=
 aa (aa (aa a (aa (a_ b) c)) aO) d
theorem Al(a:Run (bp Γ es) st rs st)(b:bq rs st)(d:Run (cP Γ f (rs.map (·.2))) st (.inr c) st):Run (execs Γ (.My f es::ss)) st (.rt .io (.str c)) st :=
 aa (aa (aa a (aa (a_ b) d)) aO) aO
theorem HD(h:st[j]?=a5 bD)(hk:k≠j)(b:c∈a):Run (j3 a i j k (.inr c)) st .nx (st.set k (a5 (.loc,.exc c))):=by
 show j3 a i j k (.inr c) st=_;unfold j3
 dsimp only
 rw[h];exact ņ ⟨hk,b⟩
theorem HE:Run (j3 a i j k (.inl (.own,u))) st .nx (st.set i (a5 (.own,u))):=aa aY aO
theorem jQ(h:Run (ev Γ a) st x st1)(c:eW d x.2=a5 b):Run (ev Γ (.J8 a D d)) st (.loc,.bl b) st1:=aa h (aa (cj c) aO)
theorem HF(h:Run (ev Γ a) st x st1)(c:eW d x.2=a5 b):Run (Jh Γ (.J8 a D d)) st b st1:=aa h (cj c)
theorem De(h:rV a i b st=a5 (.ok r,st)):Run (ev Γ (.M' a i b)) st r st:=h
noncomputable def vc:Fn:=⟨"refuse_unknown",2,2,[.ite (.cmp .gt (.Ou b8 (.var 1) (.call "words_of" [.var 0])) (.cst (.int 0))) [.MQ "Unknown" (.cst (.str "the book has no such word"))] []]⟩
theorem bR.ok(h:bR ws r):nI ws r:=⟨h.1,h.2.2.2,h.2.1,h.2.2.1⟩
structure Bq(ws:List Str)(rs:List Row):Prop where
 wl:ws.length<=24
 rl:rs.length<=84
 ok:∀r∈rs,bR ws r
theorem Am(h:Bq ws rs)(d:Γ "words_of" [.tup (rs.map B')]=a5 (.ok (.own,.lst ((bI rs).map .str)))):cu Γ vc [.tup (rs.map B'),.lst [.str w]]=a5 (if w∈bI rs then .ok (.loc,.IU) else .exc "Unknown"):=by
 have g:=sO λr b=>(h.ok r b).ok;have hl:=h.wl;have i:(aK (bI rs)).length<=(bI rs).length:=iV (ft _) λx f=>by simpa[da] using f
 have e:aK [w]=[w]:=by simp[aK,jk]
 have c:start [.tup (rs.map B'),.lst [.str w]] 2=[a5 (.loc,.tup (rs.map B')),a5 (.any,.lst [.str w])]:=Ŋ (λx:Option (Kd×U)=>[x,a5 (Kd.any,U.lst [.str w])]) (fH rs);have hs:vW b8 (aK [w]) (aK (bI rs))=a5 (.loc,.int ((if w∈bI rs then 0 else 1:Nat):Nat)):=by
  unfold vW;rw[e,ņ ⟨by simp,⋯⟩,ņ rfl,vu];by_cases a:w∈bI rs
  ·rw[Ň (by simp[da,a]),ņ a,NP];rfl
  ·rw[ņ (by simp[da,a]),Ň a,NP];rfl
 have b:Run (ev Γ (.Ou b8 (.var 1) (.call "words_of" [.var 0]))) [a5 (.loc,.tup (rs.map B')),a5 (.any,.lst [.str w])] _ _:=Hs (aU rfl) (nM (ss:=[w]) (by simp)) (bj (af (ae rfl) ai) trivial d) (nM ⋯) hs;by_cases a:w∈bI rs
 ·rw[ņ a]at b ⊢;exact nU rfl c (aV (aN b aj trivial (jP rfl)) av av)
 ·rw[Ň a]at b ⊢;exact ja rfl c (qJ (jx (aN b aj trivial (jP rfl)) (Dd aj)))
theorem IH(b:Ju Pg "words_of" pB)(h:Ju Pg "refuse_unknown" vc)(a:Bq ws rs)(w:Str):I_ Pg (d+2) "refuse_unknown" [.tup (rs.map B'),.lst [.str w]]=a5 (if w∈bI rs then .ok (.loc,.IU) else .exc "Unknown") :=
 (aJ h _).trans (Am a ((aJ b _).trans (pC (by have:=a.rl;lia) (λr c=>(a.ok r c).ok) (by have:=a.wl;lia))))
theorem An(n:ws.length<1000)(hk:d_ ws ks)(e:bR ws r):
  ∃a b,Run (execs Γ ra) (fL rs ks (a5 (.loc,.str r.1)) (a5 (.loc,.tup (r.2.map .str))) o4) .nx (fL rs a (a5 (.loc,.str r.1)) (a5 (.loc,.tup (r.2.map .str))) b)/\d_ ws a/\∀x,x∈a↔x∈ks\/x=r.1\/x∈r.2:=by
 have o:=hk.len;obtain⟨st',j,a,b,rfl,l,_,c⟩:=bL (rs:=[(.loc,.tup (r.2.map .str))]) (t:=cc) (is:=[4]) (body:=execs Γ zT) (λx:Str=>(Kd.loc,U.str x)) (λd q st=>∃a b,st=fL rs a (a5 (.loc,.str r.1)) (a5 (.loc,.tup (r.2.map .str))) b/\d_ ws a/\(∀x∈q,x∈ws)/\∀x,x∈a↔(x∈ks\/x=r.1)\/x∈d)
  (λ_ _ _ _=>trivial) (λd y q st h=>by
   obtain⟨f,b,rfl,g,i,c⟩:=h;have p:=g.len;refine⟨fL rs f (a5 (.loc,.str r.1)) (a5 (.loc,.tup (r.2.map .str))) (a5 (.loc,.str y)),_,aF,gc (k:=.own) (k':=.own) aj rfl (ae rfl) (aA aG (aA aG aI)) rfl rfl (gD ⋯) av,eN f y,_,rfl,g.ins (i y (by simp)),λx m=>i x (by simp[m]),λx=>?_⟩;rw[dZ,c x,i6,i2,or_assoc]) r.2 [] (fL rs (eN ks r.1) (a5 (.loc,.str r.1)) (a5 (.loc,.tup (r.2.map .str))) o4) ⟨_,_,rfl,hk.ins e.1,e.2.2.1,λx=>by rw[dZ];simp⟩
 refine⟨a,b,?_,l,λx=>by rw[c x,or_assoc,i9]⟩;exact gc (k:=.own) (k':=.own) aj rfl (ae rfl) (aA aG (aA aG aI)) rfl rfl (gD ⋯) (cF (rs:=[(.loc,.tup (r.2.map .str))]) (af (ae rfl) ai) trivial rg rfl j av)
theorem all2(h:Ju Pg "_law_all" zU)(b:Bq ws rs):I_ Pg (d+1) "_law_all" [.tup (rs.map B')]=a5 (.ok (.own,.lst ((bI rs).map .str))):=by
 have p:=b.wl;obtain⟨st',f,ks,o2,o3,o4,rfl,hk,_,g⟩:=bL (rs:=[(.loc,.tup (rs.map B'))]) (t:=b8) (is:=[2,3]) (body:=execs (I_ Pg d) ra) (λr:Row=>(Kd.loc,B' r)) (λd q st=>∃ks o2 o3 o4,st=fL rs ks o2 o3 o4/\d_ ws ks/\(∀r∈q,bR ws r)/\∀x,x∈ks↔∃r∈d,x=r.1\/x∈r.2)
  (λ_ _ _ _=>trivial) (λd y q st h=>by
   obtain⟨i,o2,o3,o4,rfl,j,c,k⟩:=h;obtain⟨l,s,m,n,o⟩:=An (Γ:=I_ Pg ‹Nat›) (rs:=rs) (o4:=o4) ⋯ j (c y (by simp));refine⟨fL rs i (a5 (.loc,.str y.1)) (a5 (.loc,.tup (y.2.map .str))) o4,_,lQ (.inl rfl),m,l,_,_,_,rfl,n,λr a=>c r (by simp[a]),λx=>?_⟩;rw[o x,k x];constructor
   ·rintro(⟨r,a,e⟩|e)
    ·exact⟨r,by simp[a],e⟩
    ·exact⟨y,by simp,e⟩
   ·rintro⟨r,a,e⟩;rcases i6.mp a with q|q
    ·exact .inl ⟨r,q,e⟩
    ·rw[i2]at q;subst q;exact .inr e) rs [] (fL rs [] bD bD bD) ⟨[],bD,bD,bD,rfl,⟨by simp,by simp⟩,b.ok,by simp⟩
 have hl:=hk.len;have e:aB ks=bI rs:=eD ((RV hk.1 (ft _)).mpr λx=>by rw[g x,da,ij,i9]);refine(aJ h _).trans (bb (st0:=[a5 (.loc,.tup (rs.map B')),bD,bD,bD,bD]) rfl (.inl rfl) (Ŋ (λx:Option (Kd×U)=>[x,bD,bD,bD,bD]) (fH rs)) (ax (st2:=fL rs [] bD bD bD) lH aY (cF (rs:=[(.loc,.tup (rs.map B'))]) (af (ae rfl) ai) trivial iZ rfl f (bG (cC (af (aD rfl) ai) ∅ ?_) gS))));show(if ks.length<64 then a5 (Kd.own,U.lst ((aB ks).map .str)) else bD)=_;rw[ņ ⋯,e]
theorem wX(g:lW Γ)(h:zZ Γ){ns:List Int}(l:ns.length<1000)(c:Src T u)(y:T+1000<2 ^ 62)(z:1<=ws.length)(d:ws.length<=24):
  ∃(rs:List Row) (a:List Int) (u':U),Run (ev Γ (.IT "_law_widened" [.var 3,.IT "_law_book" [.var 1,.var 3,.var 4] [0,1]] [0])) (o0::a5 (.own,.lst (ns.map .int))::o2::a5 (.own,u)::a5 (.own,.lst (ws.map .str))::rest) (.loc,.tup (rs.map B')) (o0::a5 (.own,.lst (a.map .int))::o2::a5 (.own,u')::a5 (.own,.lst (ws.map .str))::rest)/\Bq ws rs:=by
 obtain⟨b,rfl,m⟩:=c.lst;obtain⟨rs,a,u2,n,o,p,A,s2⟩:=g ns (.lst b) ws _ c ⋯ l ⋯ ⋯;obtain⟨e,rfl,q⟩:=s2.lst;have s:=Aa (Γ:=Γ) (st:=o0::a5 (.own,.lst (ns.map .int))::o2::a5 (.own,.lst b)::a5 (.own,.lst (ws.map .str))::rest) (st1:=o0::a5 (.own,.lst (ns.map .int))::o2::a5 (.own,.lst b)::a5 (.own,.lst (ws.map .str))::rest) (i:=1) (j:=3) (k0:=.own) (k:=.own) (k0':=.own) (k':=.own) (rs:=[(.bor 4,.lst (ws.map .str))]) ⋯ rfl rfl rfl rfl (af (aD rfl) ai) rfl rfl (gC ns) rfl rfl m rfl ⟨⟨.own,rfl,rfl⟩,trivial⟩ (λr f=>by rw[i2]at f;subst f;rfl) n (.inr rfl);obtain⟨t,B,v,b3,w,s3⟩:=h _ (.lst e) ws rs s2 ⋯ d o.1 p;obtain⟨x,rfl,C⟩:=s3.lst;exact⟨t,a,.lst x,il (Γ:=Γ) (st:=o0::a5 (.own,.lst (ns.map .int))::o2::a5 (.own,.lst b)::a5 (.own,.lst (ws.map .str))::rest) (st1:=o0::a5 (.own,.lst (a.map .int))::o2::a5 (.own,.lst e)::a5 (.own,.lst (ws.map .str))::rest) (i:=3) (k0:=.own) (k:=.own) (rs:=[(.loc,.tup (rs.map B'))]) rfl rfl (af s ai) rfl rfl q rfl v (.inr rfl),d,w,b3⟩
end
theorem FA(h:Ju Pg "_law_same" i_){ss:List Str}(hl:ss.length<=1000):c8 (I_ Pg (d+2)) (.lst (ss.map .str)):=HB h (by simpa using hl) λu a=>by
 obtain⟨x,_,rfl⟩:=js.mp a;exact u9 h x
end TM
namespace TM
open PySem L2 Jt Od
section
theorem jD(hk:k=.loc\/k=.any)(h:st[i]?=a5 (a5 (k,u))):Run (ev Γ (.var i)) st (k,u) st:=by
 rcases hk with rfl|rfl
 ·exact ae h
 ·exact aU h
theorem Zn(hk:k=.loc\/k=.any)(h:Jl u=b8):Run (lift (k,u)) st u st:=by
 rcases hk with rfl|rfl
 ·exact aG
 ·exact qI h
theorem gf(hk:k=.loc\/k=.any)(h:bq rs st):bq ((k,u)::rs) st:=by rcases hk with rfl|rfl<;>exact h
theorem II(hk:k=.loc\/k=.any):kE k=k:=by rcases hk with rfl|rfl<;>rfl
theorem Ao{told a:List Str}(hk:k=.loc\/k=.any)(hl:told.length<=1000)(hs:Run (ev Γ src) st (k,.tup (told.map .str)) st)(c:st[j]?=a5 (a5 (.own,w)))(d:∀x:Str,cM .isin (.str x) w=a5 (cK (x∈a))):
  Run (ev Γ (.bi .all [.comp 1 cc .seq [src] [] (.cmp .isin (.var 0) (.var (j+1)))])) st (.loc,.bl (told.all λx=>cK (x∈a))) st:=by
 have hsz:(1000:Nat)<=cL:=by decide
 have b:=lL (cond:=bf Γ []) (elt:=ev Γ (.cmp .isin (.var 0) (.var (j+1)))) (src:=[(k,.tup (told.map .str))]) (st:=st) (gf hk trivial) k hk U.str (λx=>.bl (cK (x∈a))) .loc (λ_=>nG) told [] (by simp;lia)
  (λy _=>⟨nE (jD hk rfl) (aD (by simpa using c)) (gf hk ⟨⟨.own,rfl,by simpa using c⟩,trivial⟩) (d y),aG⟩)
 rw[i9]at b;have e:(told.map U.str).map (λu=>(kE k,u))=told.map λr=>(k,U.str r):=by rw[kj,II hk];rfl
 have f:(told.map λx=>U.bl (cK (x∈a)))=(told.map λx=>cK (x∈a)).map U.bl:=by rw[kj];rfl
 rw[f]at b;have g:(told.all λx=>cK (x∈a))=((told.map λx=>cK (x∈a)).all id):=by rw[YN];rfl
 rw[g];exact cC (af (dX (rs:=[(k,.tup (told.map .str))]) (af hs ai) (gf hk trivial) (by show a5 _=_;rw[e]) b) ai) trivial (uW _)
noncomputable def HG:List S:=[.ite (.and [.cmp .I0 (.var 3) (.var 1),.bi .all [.comp 1 cc .seq [.var 4] [] (.cmp .isin (.var 0) (.var 2))]]) [.put 1 (.var 3) (.cst (.bl b8)),.set 2 (.cst (.bl b8))] []]
noncomputable def FC:List S:=[.set 2 (.cst (.bl cc)),.Ji b8 [3,4] .seq [.var 0] HG]
noncomputable def FD:Fn:=⟨"_law_learnt",1,5,[.set 1 (.KN cc),.set 2 (.cst (.bl b8)),.NG (.var 2) FC,.ret (.var 1)]⟩
inductive Bv(rs:List Row):Kd->U->Prop
 |tup:Bv rs .loc (.tup (rs.map B'))
 |lst:Bv rs .any (.lst (rs.map B'))
theorem Bv.kd{W:U}(h:Bv rs k W):k=.loc\/k=.any:=by cases h<;>simp
theorem Bv.it{W:U}(h:Bv rs k W):K' .seq [(k,W)]=a5 (rs.map λr=>(k,B' r)):=by
 cases h
 ·exact iZ
 ·show a5 ((rs.map B').map λu=>(kE .any,u))=_;rw[kj];rfl
theorem Bv.bg{W:U}(h:Bv rs k W):(a5 (if Jl W=b8 then Kd.loc else Kd.any,W):Option (Kd×U))=a5 (k,W):=by
 cases h
 ·exact fH rs
 ·rfl
noncomputable def j6(k:Kd)(W:U)(K:List Str)(b:Bool)(o3 o4:Option (Kd×U)):aw:=[a5 (k,W),a5 (.own,ip K),a5 (.loc,.bl b),o3,o4]
structure NR(ws:List Str)(rs:List Row)(K:List Str):Prop where
 ks:d_ ws K
 snd:NO rs K
theorem NR.add(x:NR ws rs K)(b:r∈rs)(c:r.1∈ws)(d:∀y∈r.2,y∈K):NR ws rs (eN K r.1) :=
 ⟨x.ks.ins c,λC a y f=>(dZ.mp f).elim (x.snd C a y) λe=>e▸a r b λz hz=>x.snd C a z (d z hz)⟩
theorem CJ{W:U}(v:Bv rs k W)(I:ws.length<=24)(z:∀r∈rs,bR ws r)(x:NR ws rs K0):
  ∃(g:List Str) (b:Bool) (o p:Option (Kd×U)),Run (execs Γ FC) (j6 k W K0 b0 o3 o4) .nx (j6 k W g b o p)/\NR ws rs g/\(b=b8->K0.length<g.length)/\(b=cc->g=K0/\fE rs (·∈K0)):=by
 have hk:=v.kd;obtain⟨st1,C,_,g,b,o,p,rfl,i,l,c⟩:=bL (t:=b8) (is:=[3,4]) (body:=execs Γ HG) (rs:=[(k,W)]) (λr:Row=>(k,B' r))
  (λd r st=>d++r=rs/\∃(K:List Str) (b:Bool) (o3 o4:Option (Kd×U)),st=j6 k W K b o3 o4/\NR ws rs K/\(b=b8->K0.length<K.length)/\(b=cc->K=K0/\∀r∈d,(∀y∈r.2,y∈K0)->r.1∈K0)) (λ_ _ _ _=>gf hk trivial) (λd a r st D=>by
   obtain⟨q,K,b,o3,o4,e,i,l,c⟩:=D;subst e;have s:a∈rs:=by rw[<-q];simp
   have J:=(z a s).2.2.2;have L:=i.ks.len;have m:Run (Jh Γ (.and [.cmp .I0 (.var 3) (.var 1),.bi .all [.comp 1 cc .seq [.var 4] [] (.cmp .isin (.var 0) (.var 2))]])) (j6 k W K b (a5 (k,.str a.1)) (a5 (k,.tup (a.2.map .str)))) (!cK (a.1∈K)&&a.2.all λy=>cK (y∈K)) (j6 k W K b (a5 (k,.str a.1)) (a5 (k,.tup (a.2.map .str)))) :=
    gR (lK (aN (jD hk rfl) (aD rfl) (gf hk ⟨⟨.own,rfl,rfl⟩,trivial⟩) fc) λ_=>c7 (Fp (Ao (j:=1) (w:=ip K) hk ⋯ (jD hk rfl) rfl λ_=>zt)))
   have A:Run (dC b8 [3,4] (k,B' a)) (j6 k W K b o3 o4) () (j6 k W K b (a5 (k,.str a.1)) (a5 (k,.tup (a.2.map .str)))):=lQ hk;cases f:(!cK (a.1∈K)&&a.2.all λy=>cK (y∈K)) with
   |false =>
    rw[f]at m;refine⟨_,_,A,aV m av av,by rw[<-q];simp,K,b,_,_,rfl,i,l,λu=>⟨(c u).1,λn LR hz=>?_⟩⟩;rcases i6.mp LR with LR|LR
    ·exact(c u).2 n LR hz
    ·rw[i2]at LR;subst LR;rw[<-(c u).1]at hz ⊢;by_cases B:n.1∈K
     ·exact B
     ·have:(!cK (n.1∈K)&&n.2.all λy=>cK (y∈K))=b8:=by
       rw[ň B];simpa using hz
      rw[this]at f;cases f
   |true =>
    rw[f]at m;simp only[cb,nH,ō,ki,Ņ]at f;have G:eN K a.1=K++[a.1]:=by unfold eN;rw[Ň f.1]
    refine⟨_,j6 k W (eN K a.1) b8 (a5 (k,.str a.1)) (a5 (k,.tup (a.2.map .str))),A,dW m (gc (k:=.own) (k':=.own) aj rfl (jD hk rfl) (aA aG (aA (Zn hk rfl) aI)) rfl rfl (gD ⋯) (ax aj aF av)) av,by rw[<-q];simp,eN K a.1,b8,_,_,rfl,i.add s (z a s).1 f.2,λ_=>?_,λh=>by cases h⟩;rw[G,i0,Lq];cases b with
    |true=>have:=l rfl;lia
    |false=>rw[(c rfl).1];lia) rs [] (j6 k W K0 cc o3 o4) ⟨rfl,K0,cc,o3,o4,rfl,x,(λh=>by cases h),λ_=>⟨rfl,λr H=>by cases H⟩⟩
 rw[i9]at c;exact⟨g,b,o,p,ax aj aF (cF (rs:=[(k,W)]) (st1:=j6 k W K0 cc o3 o4) (af (jD hk rfl) ai) (gf hk trivial) v.it (by rcases hk with rfl|rfl<;>rfl) C av),i,l,c⟩
theorem pJ{W:U}(i:Bv rs k W)(j:ws.length<=24)(l:∀r∈rs,bR ws r):
  ∀(f:Nat) (K0:List Str) (o3 o4:Option (Kd×U)),NR ws rs K0->64 - K0.length<f->∃(a:List Str) (c d:Option (Kd×U)),Run (gE (Jh Γ (.var 2)) (execs Γ FC) (f+1)) (j6 k W K0 b8 o3 o4) .nx (j6 k W a cc c d)/\NR ws rs a/\fE rs (·∈a)
 |0,_,_,_,_,h=>by lia
 |f+1,K0,o3,o4,x,h=>by
  obtain⟨a,b,c,d,m,g,n,o⟩:=CJ (Γ:=Γ) i j l x (b0:=b8) (o3:=o3) (o4:=o4);cases b with
  |false =>
   obtain⟨e,p⟩:=o rfl;subst e;exact⟨a,c,d,zq (jz rfl) m (uV (jz rfl)),g,p⟩
  |true =>
   have:=n rfl;have:=g.ks.len;obtain⟨q,s,t,u,v,w⟩:=pJ i j l f a c d g ⋯;exact⟨q,s,t,zq (jz rfl) m u,v,w⟩
def FE(Γ:Tab):Prop:=∀(ws:List Str) (rs:List Row) (k:Kd) (W:U),Bv rs k W->ws.length<=24->(∀r∈rs,bR ws r)->∃K,Γ "_law_learnt" [W]=a5 (.ok (.own,ip K))/\d_ ws K/\KL.Kn rs K
theorem HH(h:Ju Pg "_law_learnt" FD):FE (I_ Pg (d+1)):=λws rs k W a b c=>by
 obtain⟨K,f,g,q,x,e⟩:=pJ (Γ:=I_ Pg d) a b c 999999999999 [] bD bD ⟨⟨.nil,λ_ h=>absurd h vr⟩,λ_ _ _ h=>absurd h vr⟩ (by simp);exact⟨K,(aJ h _).trans (bb rfl (.inl rfl) (st0:=[a5 (k,W),bD,bD,bD,bD]) (Ŋ (λx:Option (Kd×U)=>[x,bD,bD,bD,bD]) a.bg) (ax lH aY (ax aj aF (zr q (bG (aD rfl) (iU rfl)))))),x.ks,x.ks.1,x.snd,e⟩
def Ln(rs:List Row)(x:Str):Prop:=∀C:Str->Prop,fE rs C->C x
theorem Kn.mem(h:KL.Kn rs K):x∈K↔Ln rs x:=⟨λa C b=>h.sn C b x a,λhl=>hl _ h.cl⟩
theorem Kn.some(a:ws.length<=24)(b:∀r∈rs,bR ws r):∃K,KL.Kn rs K/\d_ ws K:=by
 obtain⟨K,d,e,q,x,c⟩:=pJ (Γ:=λ_ _=>bD) (Bv.tup (rs:=rs)) a b 999999999999 [] bD bD ⟨⟨.nil,λ_ h=>absurd h vr⟩,λ_ _ _ h=>absurd h vr⟩ (by simp);exact⟨K,⟨x.ks.1,x.snd,c⟩,x.ks⟩
end
noncomputable def wo(rs:List Row)(o:Str):List Row:=rs.filter λr=>!cK (r.1=o)
theorem Ap:r∈wo rs o↔r∈rs/\r.1≠o:=by unfold wo;rw[vl];simp
theorem Bq.wo(h:Bq ws rs)(o:Str):Bq ws (wo rs o):=⟨h.wl,wh (td _ _) h.rl,λr a=>h.ok r (Ap.mp a).1⟩
section
theorem tq(hl:rs.length<=1000)(hk:k=.loc\/k=.any)(b:st[i]?=a5 (a5 (.loc,.tup (rs.map B'))))(c:st[j]?=a5 (a5 (k,.str o))):
  Run (ev Γ (.comp 1 cc .seq [.var i] [.cmp .ne (.idx (.var 0) (.cst (.int 0))) (.var (j+1))] (.var 0))) st (.own,.lst ((wo rs o).map B')) st:=by
 have hsz:(1000:Nat)<=cL:=by decide
 have a:=jy (cond:=bf Γ [.cmp .ne (.idx (.var 0) (.cst (.int 0))) (.var (j+1))]) (elt:=ev Γ (.var 0)) (src:=[(.loc,.tup (rs.map B'))]) (st:=st) trivial .loc (.inl rfl) B' B' (λr=>!cK (r.1=o)) .loc rs [] (by simp;lia)
  (λy _=>⟨c7 (aN (x:=(.loc,.str y.1)) (ba (ae rfl) aj trivial (dI rfl)) (jD (k:=k) hk (by simpa using c)) (gf (.inl rfl) (gf hk trivial)) sT),λ_=>⟨ae rfl,aG⟩⟩)
 rw[i9]at a;exact dX (rs:=[(.loc,.tup (rs.map B'))]) (af (ae b) ai) trivial iZ a
noncomputable def RP:Fn:=⟨"without",2,2,[.ret (.bi .tuple [.comp 1 cc .seq [.var 0] [.cmp .ne (.idx (.var 0) (.cst (.int 0))) (.var 2)] (.var 0)])]⟩
theorem vd:KO .tuple [(k,.lst us)]=a5 (kE k,.tup us):=rfl
theorem bW{rs:List Row}(n:Nat):start [.tup (rs.map B'),.str w] (n+2)=a5 (.loc,.tup (rs.map B'))::a5 (.loc,.str w)::i5 n bD:=by
 show a5 (if Jl (.tup (rs.map B'))=b8 then Kd.loc else Kd.any,U.tup (rs.map B'))::a5 (Kd.loc,U.str w)::i5 (n+2 - 2) bD=_;rw[fH];rfl
theorem HI(h:Ju Pg "without" RP)(hl:rs.length<=1000)(o:Str):I_ Pg (d+1) "without" [.tup (rs.map B'),.str o]=a5 (.ok (.loc,.tup ((wo rs o).map B'))) :=
 (aJ h _).trans (bb rfl (.inr rfl) (bW 0) (bG (cC (af (tq (j:=1) (k:=.loc) hl (.inl rfl) rfl rfl) ai) trivial vd) dU))
noncomputable def FF:List S:=[.put 3 (.var 5) (.cst (.bl b8))]
noncomputable def Wb:List S:=[.ite (.cmp .isin (.idx (.var 4) (.cst (.int 0))) (.var 3)) [.app 2 (.var 4),.Ji cc [5] .seq [.idx (.idx (.var 0) (.idx (.var 4) (.cst (.int 1)))) (.cst (.int 1))] FF] []]
noncomputable def UR:Fn:=⟨"order_up_to",2,6,[.set 2 (.lst []),.set 3 (.Pf 1),.Ji cc [4] .rev [.call "order" [.var 0]] Wb,.ret (.M_ .KJ [.var 2])]⟩
theorem HJ(h:st[i]?=a5 (a5 (.loc,.str y))):Run (ev Γ (.Pf i)) st (.own,.IM [y] [.bl b8]) st:=by
 show ym i st=_;unfold ym;rw[h]
theorem Aq:∀{a b:List (Str×Nat)}{y:Str×Nat}{K:List Str},vS rs K (a++y::b)->∃r,rs[y.2]?=a5 r/\r.1=y.1/\∀x∈r.2,x∈K++a.map (·.1)
 |[],b,y,K,h=>by
  obtain⟨_,r,c,d,e⟩:=h.1;exact⟨r,c,d,by simpa using e⟩
 |s::a,b,y,K,h=>by
  obtain⟨r,c,d,e⟩:=Aq (a:=a) h.2;exact⟨r,c,d,by simpa using e⟩
noncomputable def jb(rs:List Row)(w:Str)(bk:List (Str×Nat))(a:List Str)(o4 o5:Option (Kd×U)):aw:=[a5 (.loc,.tup (rs.map B')),a5 (.loc,.str w),a5 (.own,.lst (bk.map stN)),a5 (.own,ip a),o4,o5]
theorem CK{b ts:List Str}(o:ws.length<=24)(hk:d_ ws b)(l:∀x∈ts,x∈ws):
  ∃a c,Run (forM cc [5] (execs Γ FF) [(.loc,.tup (ts.map .str))] (ts.map λx=>(Kd.loc,U.str x))) (jb rs w bk b o4 o5) .nx (jb rs w bk a o4 c)/\d_ ws a/\(∀x∈b,x∈a)/\∀x∈ts,x∈a:=by
 obtain⟨st',m,a,c,rfl,f,g,h,_⟩:=bL (rs:=[(.loc,.tup (ts.map .str))]) (t:=cc) (is:=[5]) (body:=execs Γ FF) (λx:Str=>(Kd.loc,U.str x)) (λd q st=>∃a c,st=jb rs w bk a o4 c/\d_ ws a/\(∀x∈b,x∈a)/\(∀x∈d,x∈a)/\∀x∈q,x∈ws)
  (λ_ _ _ _=>trivial) (λd y q st n=>by
   obtain⟨i,o5,rfl,f,g,h,j⟩:=n;have p:=f.len;refine⟨jb rs w bk i o4 (a5 (.loc,.str y)),_,aF,gc (k:=.own) (k':=.own) aj rfl (ae rfl) (aA aG (aA aG aI)) rfl rfl (gD ⋯) av,eN i y,_,rfl,f.ins (j y (by simp)),λx e=>dZ.mpr (.inl (g x e)),λx e=>?_,λx e=>j x (by simp[e])⟩;rcases i6.mp e with q|q
   ·exact dZ.mpr (.inl (h x q))
   ·rw[i2]at q;exact dZ.mpr (.inr q)) ts [] (jb rs w bk b o4 o5) ⟨b,o5,rfl,hk,λ_ q=>q,λ_ q=>absurd q vr,l⟩
 exact⟨a,c,m,f,g,h⟩
structure Zo(ws:List Str)(rs:List Row)(w:Str)(bk:List (Str×Nat))(wn:List Str)(d q:List (Str×Nat)):Prop where
 sl:bk.Sublist d
 ks:d_ ws wn
 jj:∀(o:Str) (C:Str->Prop),o∉bk.map (·.1)->fE (wo rs o) C->(∀x∈wn,x∈q.map (·.1)->C x)->C w
theorem FG(A:Bq ws rs)(I:vS rs [] f)(hl:f.length<=24)(J:w∈ws)(L:w∈f.map (·.1))(ho:Γ "order" [.tup (rs.map B')]=a5 (.ok (.own,.lst (f.map stN)))):
  ∃B:List (Str×Nat),cu Γ UR [.tup (rs.map B'),.str w]=a5 (.ok (.own,.lst (B.map stN)))/\B.Sublist f/\∀o,o∉B.map (·.1)->Ln (wo rs o) w:=by
 have hsz:(1000:Nat)<=cL:=by decide
 have N:=A.wl;obtain⟨st',p,l,bk,c,o4,o5,rfl,g⟩:=bL (rs:=[(.own,.lst (f.map stN))]) (t:=cc) (is:=[4]) (body:=execs Γ Wb) (λs:Str×Nat=>(Kd.loc,stN s)) (λd q st=>d++q=f.reverse/\∃bk c o4 o5,st=jb rs w bk c o4 o5/\Zo ws rs w bk c d q)
  (λ_ _ _ _=>trivial) (λd y q st O=>by
   obtain⟨l,bk,c,o4,o5,e,g⟩:=O;subst e;have es:f=q.reverse++y::d.reverse:=by rw[<-Zr f,<-l];simp
   obtain⟨r,D,G,Q⟩:=Aq (a:=q.reverse) (b:=d.reverse) (y:=y) (by rw[<-es];exact I);have H:r∈rs:=my D;have Mt:d.length<24:=by have:=Ŋ J7 l;simp at this;lia
   have T:=g.sl.length_le;have m:Run (Jh Γ (.cmp .isin (.idx (.var 4) (.cst (.int 0))) (.var 3))) (jb rs w bk c (a5 (.loc,stN y)) o5) (cK (y.1∈c)) (jb rs w bk c (a5 (.loc,stN y)) o5):=aN (x:=(.loc,.str y.1)) (ba (ae rfl) aj trivial (dI rfl)) (aD rfl) ∅ zt;refine⟨jb rs w bk c (a5 (.loc,stN y)) o5,?_⟩;by_cases v:y.1∈c
   ·rw[ŉ v]at m;obtain⟨Y,Po,p,k1,k2,k3⟩:=CK (Γ:=Γ) (rs:=rs) (w:=w) (bk:=bk++[y]) (ts:=r.2) (o4:=a5 (.loc,stN y)) (o5:=o5) N g.ks (A.ok r H).2.2.1;refine⟨_,aF,dW m (e_ (k:=.own) (k':=.own) (st1:=jb rs w bk c (a5 (.loc,stN y)) o5) (st2:=jb rs w bk c (a5 (.loc,stN y)) o5) rfl (ae rfl) aG rfl rfl (by rw[dt];lia) (cF (rs:=[(.loc,.tup (r.2.map .str))]) (st1:=jb rs w (bk++[y]) c (a5 (.loc,stN y)) o5) ?_ trivial rg rfl p av)) av,by rw[<-l];simp,bk++[y],Y,_,_,rfl,g.sl.append (Xu _),k1,λo C ho i j=>?_⟩
    ·have e:((bk.map stN)++[stN y]:List U)=(bk++[y]).map stN:=by simp
     have O8:(rs.map B')[y.2]?=a5 (B' r):=by rw[ko,D];rfl
     show Run _ [a5 (.loc,.tup (rs.map B')),a5 (.loc,.str w),a5 (.own,.lst ((bk.map stN)++[stN y])),a5 (.own,ip c),a5 (.loc,stN y),o5] _ _;rw[e];exact af (ba (ba (ae rfl) (ba (ae rfl) aj trivial (dI rfl)) trivial (dI (eC O8))) aj trivial (dI rfl)) ai
    ·rw[kr,i6,not_or]at ho;have Zq:r.1≠o:=λe=>ho.2 (by rw[<-e,G];simp);refine g.jj o C ho.1 i λx n Mu=>?_;rw[et]at Mu;rcases d7.mp Mu with e|Mu
     ·subst e;rw[<-G];refine i r (Ap.mpr ⟨H,Zq⟩) λz hz=>j z (k3 z hz) ?_;have:=Q z hz;rw[i9,Om]at this;exact Vz.mp this
     ·exact j x (k2 x n) Mu
   ·rw[ň v]at m;refine⟨_,aF,aV m av av,by rw[<-l];simp,bk,c,_,_,rfl,g.sl.trans (List.sublist_append_left _ _),g.ks,λo C ho i j=>g.jj o C ho i λx n Mu=>?_⟩;rw[et]at Mu;rcases d7.mp Mu with e|Mu
    ·exact absurd (e▸n) v
    ·exact j x n Mu) f.reverse [] (jb rs w [] [w] bD bD) ⟨rfl,[],[w],bD,bD,rfl,Xu _,⟨by simp,by simpa using J⟩,λo C _ _ j=>j w (by simp) (by rw[Om];exact Vz.mpr L)⟩
 have T:=g.sl.length_le;refine⟨bk.reverse,bb rfl (.inl rfl) (bW 4) (ax (bV ai trivial aI (lg _)) aY (ax (HJ rfl) aY (cF (rs:=[(.own,.lst (f.map stN))]) (st1:=jb rs w [] [w] bD bD) (af (bj (af (ae rfl) ai) trivial ho) ai) trivial ?_ rfl p (bG (y9 (af (aD rfl) ai) ∅ ?_) gS)))),?_,λo ho C i=>g.jj o C (by rw[Om]at ho;exact λz=>ho (Vz.mpr z)) i λx _ h=>absurd h vr⟩
 ·show a5 ((f.map stN).reverse.map λu=>(kE .own,u))=_;rw[<-Om,kj];rfl
 ·show(if fw (.bor 2) (bk.map stN)=b8 then a5 (Kd.own,U.lst (bk.map stN).reverse) else bD)=_;rw[ņ (show fw (.bor 2) (bk.map stN)=b8 from rfl),Om]
 ·have:=g.sl;rw[i9]at this;have:=this.reverse
  rwa [Zr]at this
end
section
noncomputable def Ar:Fn:=⟨"refuse_unlearnt",2,2,[.ite (.cmp .I0 (.var 1) (.call "learnt" [.var 0])) [.MQ "Unlearnt" (.fst [.cst (.str "the word "),.var 1,.cst (.str " can't be learnt")])] []]⟩
def As(Γ:Tab):Prop:=∀(ws:List Str) (rs:List Row) (K:List Str),Bq ws rs->KL.Kn rs K->Γ "learnt" [.tup (rs.map B')]=a5 (.ok (.own,.lst ((aB K).map .str)))
theorem Df(L:KL.RO Pg)(n:Nat):As (I_ Pg (n+5)):=λws rs K a b=>KL.CI L n (λr c=>(a.ok r c).ok) a.wl (by have:=a.rl;lia) b
theorem IJ(h:Ju Pg "refuse_unlearnt" Ar)(c:As (I_ Pg d))(e:Bq ws rs)(f:KL.Kn rs K)(j:w.length<=20):I_ Pg (d+1) "refuse_unlearnt" [.tup (rs.map B'),.str w]=a5 (if w∈K then .ok (.loc,.IU) else .exc "Unlearnt"):=by
 have a:Run (Jh (I_ Pg d) (.cmp .I0 (.var 1) (.call "learnt" [.var 0]))) [a5 (.loc,.tup (rs.map B')),a5 (.loc,.str w)] (cK (w∉aB K)) [a5 (.loc,.tup (rs.map B')),a5 (.loc,.str w)]:=aN (ae rfl) (bj (af (ae rfl) ai) trivial (c ws rs K e f)) trivial fb;have b:w∈aB K↔w∈K:=(bt K).mem_iff;by_cases hk:w∈K
 ·rw[ň (by rw[b];simpa using hk)]at a;rw[ņ hk];exact(aJ h _).trans (nU rfl (bW 0) (aV a av av))
 ·rw[ŉ (by rw[b];exact hk)]at a;rw[Ň hk];have g:(oT++("the word ":Str)).length<=1000:=by decide +kernel
  have i:((oT++("the word ":Str))++w).length<=1000:=by
   rw[len_list,app_list,i0,<-len_list,<-len_list];have:(oT++("the word ":Str)).length=9:=by decide +kernel
   lia
  exact(aJ h _).trans (ja rfl (bW 0) (qJ (jx a (Dd (Hk (sM aj (pA (by decide +kernel) (by decide)) (sM (ae rfl) (pA ⋯ g) (sM aj (pA (by decide +kernel) i) Hj))))))))
noncomputable def FH:Fn:=⟨"musts",2,3,[.My "refuse_unknown" [.var 0,.lst [.var 1]],.My "refuse_unlearnt" [.var 0,.var 1],.set 2 (.comp 1 cc .seq [.call "order_up_to" [.var 0,.var 1]] [.cmp .ne (.idx (.var 0) (.cst (.int 0))) (.var 2)] (.idx (.var 0) (.cst (.int 0)))),.ret (.bi .sorted [.comp 1 cc .seq [.var 2] [.cmp .I0 (.var 2) (.call "learnt" [.call "without" [.var 1,.var 0]])] (.var 0)])]⟩
structure US(rs:List Row)(w:Str)(M:List Str):Prop where
 nd:M.Nodup
 iff:∀o,o∈M↔(Ln rs o/\o≠w)/\¬Ln (wo rs o) w
theorem HK(h:Ju Pg "musts" FH)(f:Bq ws rs)(D:KL.Kn rs K)(G:w∈K)
  (n:I_ Pg d "refuse_unknown" [.tup (rs.map B'),.lst [.str w]]=a5 (.ok (.loc,.IU))) (p:I_ Pg d "refuse_unlearnt" [.tup (rs.map B'),.str w]=a5 (.ok (.loc,.IU))) (q:As (I_ Pg d)) (r:∀o,I_ Pg d "without" [.tup (rs.map B'),.str o]=a5 (.ok (.loc,.tup ((wo rs o).map B'))))
  {B g:List (Str×Nat)} (t:I_ Pg d "order_up_to" [.tup (rs.map B'),.str w]=a5 (.ok (.own,.lst (B.map stN)))) (hs:LI rs g []) (i:B.Sublist g) (hl:g.length<=24) (v:∀o,o∉B.map (·.1)->Ln (wo rs o) w) :
  ∃M,US rs w M/\I_ Pg (d+1) "musts" [.tup (rs.map B'),.str w]=a5 (.ok (.own,.lst ((aB M).map .str))):=by
 have hsz:(1000:Nat)<=cL:=by decide
 have H:=i.length_le;have x1:=jy (cond:=bf (I_ Pg d) [.cmp .ne (.idx (.var 0) (.cst (.int 0))) (.var 2)]) (elt:=ev (I_ Pg d) (.idx (.var 0) (.cst (.int 0)))) (src:=[(.own,.lst (B.map stN))]) (st:=[a5 (.loc,.tup (rs.map B')),a5 (.loc,.str w),bD]) trivial .loc (.inl rfl) stN (λs=>.str s.1) (λs=>!cK (s.1=w)) .loc B [] (by simp;lia)
  (λy _=>⟨c7 (aN (x:=(.loc,.str y.1)) (ba (ae rfl) aj trivial (dI rfl)) (ae rfl) trivial sT),λ_=>⟨ba (ae rfl) aj trivial (dI rfl),aG⟩⟩)
 rw[i9,show((B.filter λs=>!cK (s.1=w)).map λs=>U.str s.1)=((B.filter λs=>!cK (s.1=w)).map (·.1)).map U.str by rw[kj];rfl]at x1;have j:∀o,o∈(B.filter λs=>!cK (s.1=w)).map (·.1)↔o∈B.map (·.1)/\o≠w:=λo=>by
  constructor
  ·intro ho;obtain⟨s,hs,rfl⟩:=js.mp ho;obtain⟨a,b⟩:=vl.mp hs;exact⟨QQ a,by simpa using b⟩
  ·rintro⟨ho,A⟩;obtain⟨s,hs,rfl⟩:=js.mp ho;exact QQ (vl.mpr ⟨hs,by simpa using A⟩)
 have k:((B.filter λs=>!cK (s.1=w)).map (·.1)).Nodup:=((OM.trans i).map _).nodup hs.nd;have C:((B.filter λs=>!cK (s.1=w)).map (·.1)).length<=24:=by have:=td (λs:Str×Nat=>!cK (s.1=w)) B;rw[dt];lia
 generalize (B.filter λs=>!cK (s.1=w)).map (·.1)=O at x1 j k C;obtain⟨e,l⟩:=Zc.mp λo=>Kn.some f.wl (f.wo o).ok;have m:=jy (cond:=bf (I_ Pg d) [.cmp .I0 (.var 2) (.call "learnt" [.call "without" [.var 1,.var 0]])]) (elt:=ev (I_ Pg d) (.var 0)) (src:=[(.bor 2,.lst (O.map .str))]) (st:=[a5 (.loc,.tup (rs.map B')),a5 (.loc,.str w),a5 (.own,.lst (O.map .str))]) ∅ .loc (.inl rfl) U.str U.str (λo=>cK (w∉aB (e o))) .loc O [] (by simp;lia)
  (λy _=>⟨c7 (aN (ae rfl) (bj (af (bj (af (ae rfl) (af (ae rfl) ai)) trivial (r y)) ai) trivial (q ws (wo rs y) (e y) (f.wo y) (l y).1)) trivial fb),λ_=>⟨ae rfl,aG⟩⟩)
 rw[i9]at m;have I:=td (λo=>cK (w∉aB (e o))) O;refine⟨O.filter λo=>cK (w∉aB (e o)),⟨OM.nodup k,λo=>?_⟩,(aJ h _).trans (bb rfl (.inl rfl) (bW 1) (Ak (rs:=[(.loc,.tup (rs.map B')),(.own,.lst [.str w])]) (af (ae rfl) (af (bV (af (ae rfl) ai) trivial (aA aG aI) (by show 1<=cL;lia)) ai)) trivial (Ai n) (Ak (rs:=[(.loc,.tup (rs.map B')),(.loc,.str w)]) (af (ae rfl) (af (ae rfl) ai)) trivial (Ai p) (ax (dX (rs:=[(.own,.lst (B.map stN))]) (af (bj (af (ae rfl) (af (ae rfl) ai)) trivial t) ai) trivial ?_ x1) aY (bG (cC (af (dX (rs:=[(.bor 2,.lst (O.map .str))]) (af (aD rfl) ai) ∅ ?_ m) ai) trivial (KL.lX ⋯)) gS)))))⟩
 ·rw[vl,j o,decide_eq_true_iff,(bt _).mem_iff,Kn.mem (l o).1];constructor
  ·rintro⟨⟨a,b⟩,c⟩;exact⟨⟨(Kn.mem (KL.Kn.of hs)).mp ((i.map (·.1)).subset a),b⟩,c⟩
  ·rintro⟨⟨a,b⟩,c⟩;exact⟨⟨VD λz=>c (v o z),b⟩,c⟩
 ·show a5 ((B.map stN).map λu=>(kE .own,u))=_;rw[kj];rfl
 ·show a5 ((O.map U.str).map λu=>(kE (.bor 2),u))=_;rw[kj];rfl
end
section
noncomputable def Au(a b c d e f g h i:List (Str×Bool)):Fn:=⟨"_law_kind",1,2,
   [.set 1 (.lst [.J8 (.var 0) "Unknown" a,.J8 (.var 0) "Unlearnt" b,.J8 (.var 0) "TooMany" c,.J8 (.var 0) "Lacking" d]),
    .set 1 (.bin .add (.var 1) (.lst [.J8 (.var 0) "NoText" e,.J8 (.var 0) "Unfit" f,.J8 (.var 0) "NoRow" g,.J8 (.var 0) "NoDeed" h])),
    .ite (.or [.cmp .ne (.M' cc 1 b8) (.cst (.int 1)),.not (.J8 (.var 0) "ValueError" i)])
      [.ret (.cst (.str "none"))]
      [],
    .ret (.idx (.lst [(.cst (.str "unknown")),(.cst (.str "unlearnt")),(.cst (.str "many")),(.cst (.str "lacking")),(.cst (.str "text")),(.cst (.str "unfit")),(.cst (.str "row")),(.cst (.str "deed"))]) (.M' b8 1 b8))]⟩
theorem nV(o:eW p (.exc c)=a5 b1)(q:eW s (.exc c)=a5 d)(t:eW v (.exc c)=a5 b3)(w:eW y (.exc c)=a5 b4)(z:eW A (.exc c)=a5 f)(B:eW C (.exc c)=a5 g)(D:eW G (.exc c)=a5 i)(H:eW I (.exc c)=a5 j)(J:eW L (.exc c)=a5 b8)
  (N:rV cc 1 b8 [a5 (.loc,.exc c),a5 (.own,.lst [.bl b1,.bl d,.bl b3,.bl b4,.bl f,.bl g,.bl i,.bl j])]=a5 (.ok (.loc,.int 1),[a5 (.loc,.exc c),a5 (.own,.lst [.bl b1,.bl d,.bl b3,.bl b4,.bl f,.bl g,.bl i,.bl j])]))
  (O:rV b8 1 b8 [a5 (.loc,.exc c),a5 (.own,.lst [.bl b1,.bl d,.bl b3,.bl b4,.bl f,.bl g,.bl i,.bl j])]=a5 (.ok (.loc,.int n),[a5 (.loc,.exc c),a5 (.own,.lst [.bl b1,.bl d,.bl b3,.bl b4,.bl f,.bl g,.bl i,.bl j])]))
  (Q:JP [U.str "unknown",.str "unlearnt",.str "many",.str "lacking",.str "text",.str "unfit",.str "row",.str "deed"] n=a5 (.str x)):cu Γ (Au p s v y A C G I L) [.exc c]=a5 (.ok (.loc,.str x)):=by
 have T:(1000:Nat)<=cL:=by decide
 have l:(4:Nat)<=cL:=by lia
 have m:(8:Nat)<=cL:=by lia
 have a:∀(r:Kd×U) (rs:List (Kd×U)) (us:List U) (st:aw),r.1=.loc->Run (cX rs) st us st->Run (cX (r::rs)) st (r.2::us) st:=λr rs us st e h=>aA (by obtain⟨k,u⟩:=r;cases e;exact aG) h;refine bb rfl (.inr rfl) (st:=[a5 (.loc,.exc c),a5 (.own,.lst [.bl b1,.bl d,.bl b3,.bl b4,.bl f,.bl g,.bl i,.bl j])]) (st0:=[a5 (.loc,.exc c),bD]) rfl (ax (r:=(.own,.lst [.bl b1,.bl d,.bl b3,.bl b4])) (st1:=[a5 (.loc,.exc c),bD]) ?_ aY (ax (r:=(.own,.lst [.bl b1,.bl d,.bl b3,.bl b4,.bl f,.bl g,.bl i,.bl j])) (st1:=[a5 (.loc,.exc c),a5 (.own,.lst [.bl b1,.bl d,.bl b3,.bl b4])]) ?_ aY (aV (st2:=[a5 (.loc,.exc c),a5 (.own,.lst [.bl b1,.bl d,.bl b3,.bl b4,.bl f,.bl g,.bl i,.bl j])]) ?_ av (bG ?_ dU))))
 ·exact bV (af (jQ (ae rfl) o) (af (jQ (ae rfl) q) (af (jQ (ae rfl) t) (af (jQ (ae rfl) w) ai)))) trivial (a _ _ _ _ rfl (a _ _ _ _ rfl (a _ _ _ _ rfl (a _ _ _ _ rfl aI)))) l
 ·exact bF (aD rfl) (bV (af (jQ (ae rfl) z) (af (jQ (ae rfl) B) (af (jQ (ae rfl) D) (af (jQ (ae rfl) H) ai)))) trivial (a _ _ _ _ rfl (a _ _ _ _ rfl (a _ _ _ _ rfl (a _ _ _ _ rfl aI)))) l) ∅ (lO m rfl rfl)
 ·exact Fi (ze (aN (De N) aj trivial (lV rfl)) (zd (jN (HF (b:=b8) (ae rfl) J))))
 ·exact ba (bV (af aj (af aj (af aj (af aj (af aj (af aj (af aj (af aj ai)))))))) trivial (a _ _ _ _ rfl (a _ _ _ _ rfl (a _ _ _ _ rfl (a _ _ _ _ rfl (a _ _ _ _ rfl (a _ _ _ _ rfl (a _ _ _ _ rfl (a _ _ _ _ rfl aI)))))))) m) (De O) trivial (bZ Q)
noncomputable def MK(a b:Bool):List (Str×Bool):=[("Unknown",a),("Unlearnt",b)]
noncomputable def pK:Fn:=Au (MK b8 cc) (MK cc b8) (MK cc cc) (MK cc cc) (MK cc cc) (MK cc cc) (MK cc cc) (MK cc cc) (MK b8 b8)
theorem jc(a b:Bool):eW (MK a b) (.exc "Unknown")=a5 a:=by cases a<;>cases b<;>decide +kernel
theorem jd(a b:Bool):eW (MK a b) (.exc "Unlearnt")=a5 b:=by cases a<;>cases b<;>decide +kernel
theorem wY:cu Γ pK [.exc "Unknown"]=a5 (.ok (.loc,.str "unknown")):=nV (jc _ _) (jc _ _) (jc _ _) (jc _ _) (jc _ _) (jc _ _) (jc _ _) (jc _ _) (jc _ _) rfl rfl rfl
theorem wZ:cu Γ pK [.exc "Unlearnt"]=a5 (.ok (.loc,.str "unlearnt")):=nV (jd _ _) (jd _ _) (jd _ _) (jd _ _) (jd _ _) (jd _ _) (jd _ _) (jd _ _) (jd _ _) rfl rfl rfl
theorem Av(a:Run (bp Γ es) st rs st)(b:bq rs st)(c:Run (cP Γ f (rs.map (·.2))) st r st)(d:Run (j3 e i j k r) st .nx st1)(h:Run (execs Γ ss) st1 l st2):
  Run (execs Γ (.MR i [] f es g m x e j k::ss)) st l st2:=aa (aa (aa a (aa (a_ b) c)) d) h
noncomputable def Aw:Fn:=⟨"_law_asked",2,5,[.set 2 (.cst .IU),.set 3 (.cst .IU),.MR 2 [] "musts" [.var 0,.var 1] "" [] "PrimerError" ["Unknown","Unlearnt"] 4 3,.ret (.ite (.cmp .is (.var 3) (.cst .IU)) (.var 2) (.call "_law_kind" [.var 3]))]⟩
inductive je(rs:List Row)(w:Str):Kd->U->Prop
 |Pp:w∉bI rs->je rs w .loc (.str "unknown")
 |Pq:w∈bI rs->¬Ln rs w->je rs w .loc (.str "unlearnt")
 |OR {M:List Str}:w∈bI rs->Ln rs w->US rs w M->je rs w .own (.lst ((aB M).map .str))
theorem je.det(h:je rs w k u)(h':je rs w k' u'):k=k'/\u=u':=by
 cases h with
 |Pp a=>cases h' with
  |Pp _=>exact⟨rfl,rfl⟩
  |Pq b _=>exact absurd b a
  |OR b _ _=>exact absurd b a
 |Pq a b=>cases h' with
  |Pp c=>exact absurd a c
  |Pq _ _=>exact⟨rfl,rfl⟩
  |OR _ c _=>exact absurd c b
 |OR a b m=>cases h' with
  |Pp c=>exact absurd a c
  |Pq _ c=>exact absurd b c
  |OR _ _ d=>exact⟨rfl,by rw[eD ((RV m.nd d.nd).mpr λo=>(m.iff o).trans (d.iff o).symm)]⟩
theorem w9(a:Bq ws rs)(h:x∈bI rs):x∈ws:=by
 obtain⟨r,b,e⟩:=ij.mp (sN.mp h);rcases e with rfl|e
 ·exact(a.ok r b).1
 ·exact(a.ok r b).2.2.1 _ e
structure Wi(Pg:List Fn):Prop where
 L:KL.RO Pg
 w:Ju Pg "words_of" pB
 x:Ju Pg "refuse_unknown" vc
 n:Ju Pg "refuse_unlearnt" Ar
 o:Ju Pg "without" RP
 u:Ju Pg "order_up_to" UR
 m:Ju Pg "musts" FH
 a:Ju Pg "_law_asked" Aw
 k:Ju Pg "_law_kind" pK
theorem CL(H:Wi Pg)(n:Nat)(b:Bq ws rs)(p:∀x∈ws,x.length<=20)(w:Str):∃k u,I_ Pg (n+8) "_law_asked" [.tup (rs.map B'),.str w]=a5 (.ok (k,u))/\je rs w k u:=by
 have q:(1000:Nat)<=cL:=by decide
 have as:∀r,Run (bp (I_ Pg (n+7)) [.var 0,.var 1]) (a5 (.loc,.tup (rs.map B'))::a5 (.loc,.str w)::r) [(.loc,.tup (rs.map B')),(.loc,.str w)] (a5 (.loc,.tup (rs.map B'))::a5 (.loc,.str w)::r):=λr=>af (ae rfl) (af (ae rfl) ai);have j:Run (bp (I_ Pg (n+6)) [.var 0,.lst [.var 1]]) [a5 (.loc,.tup (rs.map B')),a5 (.loc,.str w),bD] [(.loc,.tup (rs.map B')),(.own,.lst [.str w])] [a5 (.loc,.tup (rs.map B')),a5 (.loc,.str w),bD]:=af (ae rfl) (af (bV (af (ae rfl) ai) trivial (aA aG aI) (by show 1<=cL;lia)) ai);have g:=IH (Pg:=Pg) (d:=n+4) H.w H.x b w;have exc:∀c x,c∈(["Unknown","Unlearnt"]:List Str)->cu (I_ Pg (n+6)) pK [.exc c]=a5 (.ok (.loc,.str x))->I_ Pg (n+7) "musts" [.tup (rs.map B'),.str w]=a5 (.exc c)->I_ Pg (n+8) "_law_asked" [.tup (rs.map B'),.str w]=a5 (.ok (.loc,.str x)):=λc x s hk t =>
  (aJ H.a _).trans (bb rfl (.inr rfl) (bW 3) (ax aj aF (ax aj aF (Av (as _) trivial (Aj t) (HD rfl (by decide) s) (bG (zc (aN (ae rfl) aj trivial rfl) (bj (af (ae rfl) ai) trivial ((aJ H.k _).trans hk))) dU)))))
 by_cases f:w∈bI rs
 ·rw[ņ f]at g;obtain⟨v,s1,s2,s3⟩:=KL.vb H.L (n+1) (λr y=>(b.ok r y).ok) b.wl (by have:=b.rl;lia);have h:=KL.Kn.of s1;have l:=w9 b f;have i:=IJ (Pg:=Pg) H.n (Df H.L n) b h (p w l);by_cases hk:w∈v.map (·.1)
  ·rw[ņ hk]at i;obtain⟨B,e,b1,A⟩:=FG (Γ:=I_ Pg (n+5)) b s1.ok s2 l hk s3;obtain⟨M,m1,m2⟩:=HK H.m b h hk g i (Df H.L (n+1)) (λo=>HI H.o (by have:=b.rl;lia) o) ((aJ H.u _).trans e) s1 b1 s2 A;exact⟨.own,_,(aJ H.a _).trans (bb rfl (.inl rfl) (bW 3) (ax aj aF (ax aj aF (Av (as _) trivial (HC m2) HE (bG (zb (aN (ae rfl) aj trivial rfl) (aD rfl)) (iU rfl)))))),.OR f ((Kn.mem h).mp hk) m1⟩
  ·rw[Ň hk]at i;exact⟨.loc,_,exc _ _ (by simp) wZ ((aJ H.m _).trans (ja rfl (bW 1) (Ak j trivial (Ai g) (Al (rs:=[(.loc,.tup (rs.map B')),(.loc,.str w)]) (af (ae rfl) (af (ae rfl) ai)) trivial (Aj i))))),.Pq f λz=>hk ((Kn.mem h).mpr z)⟩
 ·rw[Ň f]at g;exact⟨.loc,_,exc _ _ (by simp) wY ((aJ H.m _).trans (ja rfl (bW 1) (Al j trivial (Aj g)))),.Pp f⟩
end
section
noncomputable def HL:List S :=
   [.set 5 (.comp 1 cc .seq [.var 0] [.cmp .ne (.idx (.var 0) (.cst (.int 0))) (.var 5)] (.var 0)),
   .ite (.and [.cmp .ne (.var 4) (.var 1),.cmp .I0 (.var 1) (.call "_law_learnt" [.var 5])])
    [.app 3 (.var 4)]
    []]
noncomputable def FI:Fn:=⟨"_law_due",2,6,[.set 2 (.call "_law_learnt" [.var 0]),.ite (.cmp .I0 (.var 1) (.call "_law_all" [.var 0])) [.ret (.cst (.str "unknown"))] [],.ite (.cmp .I0 (.var 1) (.var 2)) [.ret (.cst (.str "unlearnt"))] [],.set 3 (.lst []),.Ji cc [4] .seq [.bi .sorted [.var 2]] HL,.ret (.var 3)]⟩
noncomputable def j7(rs:List Row)(w:Str)(K M:List Str)(o4 o5:Option (Kd×U)):aw:=[a5 (.loc,.tup (rs.map B')),a5 (.loc,.str w),a5 (.own,ip K),a5 (.own,.lst (M.map .str)),o4,o5]
theorem HM(p:FE Γ)(a:Bq ws rs)(C:Γ "_law_all" [.tup (rs.map B')]=a5 (.ok (.own,.lst ((bI rs).map .str))))(w:Str):∃k u,cu Γ FI [.tup (rs.map B'),.str w]=a5 (.ok (k,u))/\je rs w k u:=by
 have hsz:(1000:Nat)<=cL:=by decide
 obtain⟨K,D,k1,k2⟩:=p ws rs .loc _ .tup a.wl a.ok;have J:=k1.len;have L:=a.wl;have c:Run (Jh Γ (.cmp .I0 (.var 1) (.call "_law_all" [.var 0]))) [a5 (.loc,.tup (rs.map B')),a5 (.loc,.str w),a5 (.own,ip K),bD,bD,bD] (cK (w∉bI rs)) [a5 (.loc,.tup (rs.map B')),a5 (.loc,.str w),a5 (.own,ip K),bD,bD,bD]:=aN (ae rfl) (bj (af (ae rfl) ai) trivial C) trivial fb;have g:Run (Jh Γ (.cmp .I0 (.var 1) (.var 2))) [a5 (.loc,.tup (rs.map B')),a5 (.loc,.str w),a5 (.own,ip K),bD,bD,bD] (!cK (w∈K)) [a5 (.loc,.tup (rs.map B')),a5 (.loc,.str w),a5 (.own,ip K),bD,bD,bD]:=aN (ae rfl) (aD rfl) ∅ fc;have m:Run (ev Γ (.call "_law_learnt" [.var 0])) [a5 (.loc,.tup (rs.map B')),a5 (.loc,.str w),bD,bD,bD,bD] (.own,ip K) [a5 (.loc,.tup (rs.map B')),a5 (.loc,.str w),bD,bD,bD,bD]:=bj (af (ae rfl) ai) trivial D;by_cases f:w∈bI rs
 ·rw[ň (not_not_intro f)]at c;by_cases hk:w∈K
  ·rw[ŉ hk]at g;obtain⟨s,v⟩:=Zc.mp λo=>p ws (wo rs o) .any _ .lst a.wl (a.wo o).ok;let q:Str->Bool:=λo=>!cK (o=w)&&!cK (w∈s o);obtain⟨st',A,o4,o5,rfl,_⟩:=bL (rs:=[(.own,.lst ((aB K).map .str))]) (t:=cc) (is:=[4]) (body:=execs Γ HL) (λx:Str=>(Kd.loc,U.str x)) (λd r st=>∃o4 o5,st=j7 rs w K (d.filter q) o4 o5/\d.length+r.length<=100)
    (λ_ _ _ _=>trivial) (λd y r st G=>by
     obtain⟨o4,o5,e,hl⟩:=G;subst e;rw[ke]at hl;have N:=td q d;have h:Run (Jh Γ (.and [.cmp .ne (.var 4) (.var 1),.cmp .I0 (.var 1) (.call "_law_learnt" [.var 5])])) (j7 rs w K (d.filter q) (a5 (.loc,.str y)) (a5 (.own,.lst ((wo rs y).map B')))) (q y) (j7 rs w K (d.filter q) (a5 (.loc,.str y)) (a5 (.own,.lst ((wo rs y).map B')))) :=
      gR (lK (aN (ae rfl) (ae rfl) trivial sT) λ_=>c7 (aN (ae rfl) (bj (af (aD rfl) ai) ∅ (v y).1) trivial fc))
     refine⟨j7 rs w K (d.filter q) (a5 (.loc,.str y)) o5,j7 rs w K ((d++[y]).filter q) (a5 (.loc,.str y)) (a5 (.own,.lst ((wo rs y).map B'))),aF,ax (st2:=j7 rs w K (d.filter q) (a5 (.loc,.str y)) (a5 (.own,.lst ((wo rs y).map B')))) (tq (j:=4) (k:=.loc) (by have:=a.rl;lia) (.inl rfl) rfl rfl) aY ?_,_,_,rfl,by rw[i0,Lq];lia⟩;cases l:q y with
     |true =>
      rw[l]at h;have n:((d++[y]).filter q)=d.filter q++[y]:=by rw[Ni,vu,ņ l,NP]
      rw[n];have:=dW h (e_ (Γ:=Γ) (i:=3) (e:=.var 4) (k:=.own) (k':=.own) (us:=(d.filter q).map .str) (st2:=j7 rs w K (d.filter q) (a5 (.loc,.str y)) (a5 (.own,.lst ((wo rs y).map B')))) rfl (ae rfl) aG rfl rfl (by rw[dt];lia) av) (b:=[]) av;rw[show(j7 rs w K (d.filter q) (a5 (.loc,.str y)) (a5 (.own,.lst ((wo rs y).map B')))).set 3 (a5 (.own,.lst ((d.filter q).map U.str++[U.str y])))=j7 rs w K (d.filter q++[y]) (a5 (.loc,.str y)) (a5 (.own,.lst ((wo rs y).map B'))) by unfold j7;rw[kr];rfl]at this;exact this
     |false =>
      rw[l]at h;have n:((d++[y]).filter q)=d.filter q:=by rw[Ni,vu,Ň (by rw[l];simp),NP,tj]
      rw[n];exact aV h av av) (aB K) [] (j7 rs w K [] bD bD) ⟨bD,bD,rfl,by rw[bx];simp;lia⟩
   rw[i9]at A;have H:US rs w ((aB K).filter q):=⟨OM.nodup ((bt _).nodup_iff.mpr k1.1),λo=>by
    rw[vl,(bt K).mem_iff,Kn.mem k2];show _/\(!cK (o=w)&&!cK (w∈s o))=b8↔_;rw[cb,nH,nH,ō,ō,Kn.mem (v o).2.2,and_assoc]⟩
   have I:aB ((aB K).filter q)=(aB K).filter q:=gk (bt _) (fP _) (ħ q (fP _));have B:=je.OR f ((Kn.mem k2).mp hk) H;rw[I]at B;refine⟨.own,_,bb rfl (.inl rfl) (bW 4) (ax m aY (aV c av (aV g av (ax (bV ai trivial aI (lg _)) aY (cF (rs:=[(.own,.lst ((aB K).map .str))]) (st1:=j7 rs w K [] bD bD) (af (cC (af (aD rfl) ai) ∅ ?_) ai) trivial ?_ rfl A (bG (aD rfl) (iU rfl))))))),B⟩
   ·show(if K.length<64 then a5 (Kd.own,U.lst ((aB K).map .str)) else bD)=_;rw[ņ ⋯]
   ·show a5 (((aB K).map U.str).map λu=>(kE .own,u))=_;rw[kj];rfl
  ·rw[ň hk]at g;exact⟨.loc,_,bb rfl (.inr rfl) (bW 4) (ax m aY (aV c av (fC g (bG aj dU)))),.Pq f λz=>hk ((Kn.mem k2).mpr z)⟩
 ·rw[ŉ f]at c;exact⟨.loc,_,bb rfl (.inr rfl) (bW 4) (ax m aY (fC c (bG aj dU))),.Pp f⟩
end
section
noncomputable def Ax:List S :=
   [.set 8 (.idx (.var 6) (.IT "_law_draw" [.var 2,.bi .len [.var 6]] [0])),
   .ite (.not (.call "_law_same" [.call "without" [.var 5,.var 8],.bi .tuple [.comp 1 cc .seq [.var 5] [.cmp .ne (.idx (.var 0) (.cst (.int 0))) (.var 9)] (.var 0)]]))
    [.ret (.cst (.bl cc))]
    [],
   .set 9 (.call "_law_due" [.var 5,.var 8]),
   .set 10 (.call "_law_asked" [.var 5,.var 8]),
   .ite (.not (.call "_law_same" [.var 10,.var 9]))
    [.ret (.cst (.bl cc))]
    [],
   .ite (.Lh (.var 9) .list)
    [.app 10 (.cst (.str "a")),
    .ite (.not (.call "_law_same" [.call "_law_asked" [.var 5,.var 8],.var 9]))
     [.ret (.cst (.bl cc))]
     []]
    []]
noncomputable def tu:Fn:=⟨"law",1,11,[.set 1 (.M_ .KJ [.M9 (.var 0) [] [.cst (.int 200)]]),.set 2 (.IT "_law_source" [.var 1,.cst (.int 2)] [0]),.set 3 (.IT "_law_source" [.var 1,.cst (.int 1)] [0]),.set 4 (.IT "_law_words" [.var 3] [0]),.set 5 (.IT "_law_widened" [.var 3,.IT "_law_book" [.var 1,.var 3,.var 4] [0,1]] [0]),.set 6 (.bin .add (.bin .add (.var 4) (.bi .sorted [.call "_law_learnt" [.var 5]])) (.lst [.cst (.str "zzzzzzzz"),.cst (.str "a/99"),.cst (.str "q")])),.Ji cc [7] .JT [.cst (.int 2)] Ax,.ret (.cst (.bl b8))]⟩
noncomputable def K6(o0 o1:Option (Kd×U))(u2:U)(o3 o4:Option (Kd×U))(rs:List Row)(sm:List Str)(o7 o8 o9 o10:Option (Kd×U)):aw :=
 [o0,o1,a5 (.own,u2),o3,o4,a5 (.loc,.tup (rs.map B')),a5 (.own,.lst (sm.map .str)),o7,o8,o9,o10]
theorem Ay(t:bA Γ)(d:Bq ws rs)(v:∀o,Γ "without" [.tup (rs.map B'),.str o]=a5 (.ok (.loc,.tup ((wo rs o).map B'))))(y:∀f:List Row,f.length<=84->(∀r∈f,bR ws r)->c8 Γ (.tup (f.map B')))
    (z:∀w,∃k u,Γ "_law_due" [.tup (rs.map B'),.str w]=a5 (.ok (k,u))/\Γ "_law_asked" [.tup (rs.map B'),.str w]=a5 (.ok (k,u))/\c8 Γ u/\((k=.loc/\∃x,u=.str x)\/(k=.own/\∃L:List Str,u=.lst (L.map .str)/\L.length<=24)))
 (A:Src T u2) (B:T<2 ^ 62) (O:0<sm.length) (Q:sm.length<1000) :
    ∃a C D G,Run (execs Γ Ax) (K6 o0 o1 u2 o3 o4 rs sm o7 o8 o9 o10) .nx (K6 o0 o1 a o3 o4 rs sm o7 C D G)/\Src (T+1) a:=by
  have hsz:(1000:Nat)<=cL:=by decide
  obtain⟨n,a,q,H,I,s2⟩:=c9 (Γ:=Γ) (st:=K6 o0 o1 u2 o3 o4 rs sm o7 o8 o9 o10) t (i:=2) (k:=.own) (e:=.bi .len [.var 6]) (m:=((sm.map U.str).length:Nat)) rfl rfl (cC (af (aD rfl) ai) ∅ cm) A B (by simp;lia) (by simp;lia);obtain⟨m,rfl⟩:=uk H;have J:m<sm.length:=by simp at I;lia
  have g:JP (sm.map U.str) (m:Int)=a5 (.str sm[m]):=eC (by simp[J]);generalize sm[m]=w at g;obtain⟨k,u,p,h,l,hk⟩:=z w;have N:=tq (Γ:=Γ) (st:=K6 o0 o1 a o3 o4 rs sm o7 (a5 (.loc,.str w)) o9 o10) (rs:=rs) (o:=w) (i:=5) (j:=8) (k:=.loc) (by have:=d.rl;lia) (.inl rfl) rfl rfl;have b:∀o9 o10,Run (bp Γ [.var 5,.var 8]) (K6 o0 o1 a o3 o4 rs sm o7 (a5 (.loc,.str w)) o9 o10) [(.loc,.tup (rs.map B')),(.loc,.str w)] (K6 o0 o1 a o3 o4 rs sm o7 (a5 (.loc,.str w)) o9 o10):=λ_ _=>af (ae rfl) (af (ae rfl) ai);have s:Run (Jh Γ (.call "_law_same" [.call "without" [.var 5,.var 8],.bi .tuple [.comp 1 cc .seq [.var 5] [.cmp .ne (.idx (.var 0) (.cst (.int 0))) (.var 9)] (.var 0)]])) (K6 o0 o1 a o3 o4 rs sm o7 (a5 (.loc,.str w)) o9 o10) b8 (K6 o0 o1 a o3 o4 rs sm o7 (a5 (.loc,.str w)) o9 o10) :=
    pw (af (bj (b _ _) trivial (v w)) (af (cC (af N ai) trivial vd) ai)) trivial (y (wo rs w) (d.wo w).rl (d.wo w).ok) rfl
  rcases hk with⟨rfl,x,rfl⟩|⟨rfl,L,rfl,hl⟩
  · exact⟨a,_,_,_,ax (st2:=K6 o0 o1 a o3 o4 rs sm o7 (a5 (.loc,.str w)) o9 o10) (ba (aD rfl) q (by exact⟨⟨.own,rfl,rfl⟩,trivial⟩) (bZ g)) aF (aV (jN (c:=b8) s) av (ax (st2:=K6 o0 o1 a o3 o4 rs sm o7 (a5 (.loc,.str w)) (a5 (.loc,.str x)) o10) (bj (b _ _) trivial p) aF (ax (st2:=K6 o0 o1 a o3 o4 rs sm o7 (a5 (.loc,.str w)) (a5 (.loc,.str x)) (a5 (.loc,.str x))) (bj (b _ _) trivial h) aF (aV (jN (c:=b8) (pw (af (ae rfl) (af (ae rfl) ai)) trivial l rfl)) av (aV (gT (ae rfl) rfl) av av))))),s2⟩
  · exact⟨a,_,_,_,ax (st2:=K6 o0 o1 a o3 o4 rs sm o7 (a5 (.loc,.str w)) o9 o10) (ba (aD rfl) q (by exact⟨⟨.own,rfl,rfl⟩,trivial⟩) (bZ g)) aF (aV (jN (c:=b8) s) av (ax (st2:=K6 o0 o1 a o3 o4 rs sm o7 (a5 (.loc,.str w)) (a5 (.own,.lst (L.map .str))) o10) (bj (b _ _) trivial p) aY (ax (st2:=K6 o0 o1 a o3 o4 rs sm o7 (a5 (.loc,.str w)) (a5 (.own,.lst (L.map .str))) (a5 (.own,.lst (L.map .str)))) (bj (b _ _) trivial h) aY (aV (jN (c:=b8) (pw (af (aD rfl) (af (aD rfl) ai)) ∅ l rfl)) av (dW (gT (aD rfl) rfl) (e_ (k:=.own) (k':=.own) rfl aj aG rfl rfl (by rw[dt];lia) (aV (st2:=K6 o0 o1 a o3 o4 rs sm o7 (a5 (.loc,.str w)) (a5 (.own,.lst (L.map .str))) (a5 (.own,.lst (L.map .str++[.str "a"])))) (jN (c:=b8) (pw (af (bj (b _ _) trivial h) (af (aD rfl) ai)) ∅ l rfl)) av av)) av))))),s2⟩
noncomputable def nW:List Str:=["zzzzzzzz","a/99","q"]
theorem w_(g:iY Γ)(m:bA Γ)(n:uZ Γ)(p:lW Γ)(v:zZ Γ)(z:FE Γ)(A:∀rs,rs.length<=84->∀o,Γ "without" [.tup (rs.map B'),.str o]=a5 (.ok (.loc,.tup ((wo rs o).map B'))))(B:∀ws,ws.length<=24->∀f:List Row,f.length<=84->(∀r∈f,bR ws r)->c8 Γ (.tup (f.map B')))
  (C:∀ws rs,Bq ws rs->(∀x∈ws,x.length<=20)->∀w,∃k u,Γ "_law_due" [.tup (rs.map B'),.str w]=a5 (.ok (k,u))/\Γ "_law_asked" [.tup (rs.map B'),.str w]=a5 (.ok (k,u))/\c8 Γ u/\((k=.loc/\∃x,u=.str x)\/(k=.own/\∃L:List Str,u=.lst (L.map .str)/\L.length<=24))) {ns:List Int} (hn:ns.length<=63):cu Γ tu [.lst (ns.map .int)]=a5 (.ok (.loc,.bl b8)):=by
 have D:(1000:Nat)<=cL:=by decide
 have j:rU .KJ [(.own,.lst ((cut ns bD (a5 200)).map .int))]=a5 (.own,.lst ((cut ns bD (a5 200)).reverse.map .int)):=by
  show(if fw .own ((cut ns bD (a5 200)).map U.int)=b8 then a5 (Kd.own,U.lst ((cut ns bD (a5 200)).map U.int).reverse) else bD)=_;rw[ņ (show fw .own ((cut ns bD (a5 200)).map U.int)=b8 from rfl),Om]
 have e:(cut ns bD (a5 200)).reverse.length<=63:=by rw[UA];have:=Cm ns bD (a5 200);lia
 generalize (cut ns bD (a5 200)).reverse=G at j e;let o0:Option (Kd×U):=a5 (.any,.lst (ns.map .int));obtain⟨H,u2,I,l2,s2⟩:=rb (Γ:=Γ) g (ns:=G) (rest:=[bD,bD,bD,bD,bD,bD,bD,bD,bD]) (o0:=o0) (k:=2);obtain⟨l,J,N,l3,s3⟩:=rb (Γ:=Γ) g (ns:=H) (rest:=[a5 (.own,u2),bD,bD,bD,bD,bD,bD,bD,bD]) (o0:=o0) (k:=1);obtain⟨ws,u4,O,Q,Y,s4,wx⟩:=n 0 J s3 ⋯;obtain⟨UQ,rfl,Wa⟩:=s3.lst;obtain⟨Zv,rfl,Z5⟩:=s4.lst;have q4:=il (Γ:=Γ) (st:=[o0,a5 (.own,.lst (l.map .int)),a5 (.own,u2),a5 (.own,.lst UQ),bD,bD,bD,bD,bD,bD,bD]) (i:=3) (es:=[]) (k0:=.own) (k:=.own) rfl rfl ai rfl rfl Wa rfl O (.inl rfl);obtain⟨rs,a,b,q5,c⟩:=wX (Γ:=Γ) p v (ns:=l) (u:=.lst Zv) (ws:=ws) (rest:=[bD,bD,bD,bD,bD,bD]) (o0:=o0) (o2:=a5 (.own,u2)) ⋯ s4 ⋯ Q Y;obtain⟨K,e6,k1,k2⟩:=z ws rs .loc _ .tup c.wl c.ok;have Zs:=k1.len;have q6:Run (ev Γ (.bin .add (.bin .add (.var 4) (.bi .sorted [.call "_law_learnt" [.var 5]])) (.lst [.cst (.str "zzzzzzzz"),.cst (.str "a/99"),.cst (.str "q")]))) [o0,a5 (.own,.lst (a.map .int)),a5 (.own,u2),a5 (.own,b),a5 (.own,.lst (ws.map .str)),a5 (.loc,.tup (rs.map B')),bD,bD,bD,bD,bD] (.own,.lst (((ws++aB K)++nW).map .str)) [o0,a5 (.own,.lst (a.map .int)),a5 (.own,u2),a5 (.own,b),a5 (.own,.lst (ws.map .str)),a5 (.loc,.tup (rs.map B')),bD,bD,bD,bD,bD]:=by
  rw[kr,kr];have hl:((aB K).map U.str).length=K.length:=by rw[dt,bx]
  refine bF (x:=(.own,.lst (ws.map .str++(aB K).map .str))) (bF (y:=(.own,.lst ((aB K).map .str))) (aD rfl) (cC (af (bj (af (ae rfl) ai) trivial e6) ai) trivial ?_) ∅ (lO (by rw[dt,hl];lia) rfl rfl)) (bV (us:=nW.map .str) (af aj (af aj (af aj ai))) trivial (aA aG (aA aG (aA aG aI))) (by show 3<=cL;lia)) trivial (lO (by rw[i0,dt,hl];show ws.length+K.length+3<=cL;lia) rfl rfl);show(if K.length<64 then a5 (Kd.own,U.lst ((aB K).map .str)) else bD)=_;rw[ņ ⋯]
 obtain⟨st',hf,KS,o7,o8,o9,o10,T,rfl,_⟩:=bL (rs:=[(.loc,.int (2:Nat))]) (t:=cc) (is:=[7]) (body:=execs Γ Ax) (λi:Nat=>(Kd.loc,U.int (0+(i:Int)))) (λd r st=>∃u2 o7 o8 o9 o10 T,st=K6 o0 (a5 (.own,.lst (a.map .int))) u2 (a5 (.own,b)) (a5 (.own,.lst (ws.map .str))) rs ((ws++aB K)++nW) o7 o8 o9 o10/\Src T u2/\T+(r.length:Nat)<1000)
  (λ_ _ _ _=>trivial) (λd y r st h=>by
   obtain⟨u2,o7,o8,o9,o10,T,rfl,s,t⟩:=h;rw[ke]at t;obtain⟨KS,LG,Kh,MI,q,s'⟩:=Ay (Γ:=Γ) m c (A rs c.rl) (B ws c.wl) (C ws rs c wx) (o0:=o0) (o1:=a5 (.own,.lst (a.map .int))) (u2:=u2) (o3:=a5 (.own,b)) (o4:=a5 (.own,.lst (ws.map .str))) (sm:=(ws++aB K)++nW) (o7:=a5 (.loc,.int (0+(y:Int)))) (o8:=o8) (o9:=o9) (o10:=o10) s ⋯ (by simp;lia) (by rw[i0,i0,bx];show ws.length+K.length+3<1000;lia);exact⟨K6 o0 (a5 (.own,.lst (a.map .int))) u2 (a5 (.own,b)) (a5 (.own,.lst (ws.map .str))) rs ((ws++aB K)++nW) (a5 (.loc,.int (0+(y:Int)))) o8 o9 o10,_,aF,q,_,_,_,_,_,_,rfl,s',⋯⟩) (hJ 2) [] (K6 o0 (a5 (.own,.lst (a.map .int))) u2 (a5 (.own,b)) (a5 (.own,.lst (ws.map .str))) rs ((ws++aB K)++nW) bD bD bD bD) ⟨_,_,_,_,_,0,rfl,s2,by simp⟩
 exact bb (st0:=[o0,bD,bD,bD,bD,bD,bD,bD,bD,bD,bD]) rfl (.inr rfl) rfl (ax (y9 (af (qH (aU rfl) uP (nF aj) trivial (zj (by show cB _=b8;exact gC ns))) ai) trivial j) aY (ax I aY (ax N aY (ax q4 aY (ax q5 aF (ax q6 aY (cF (rs:=[(.loc,.int (2:Nat))]) (af aj ai) trivial (ig ⋯) rfl hf (bG aj dU))))))))
end
end TM
namespace K
open PySem L2 TM
noncomputable def top(i:Nat):Mi:=PySem.Challenge.pw_primer_k33_musts.main.body.getD i (.Pass ⟨0,0,0,0⟩)
noncomputable abbrev lY:Fn:=TM.pB
noncomputable abbrev dm:Fn:=KL.dm
noncomputable abbrev ff:Fn:=TM.vc
noncomputable abbrev bo:Fn:=KL.bo
noncomputable abbrev cT:Fn:=KL.cT
noncomputable abbrev br:Fn:=KL.br
noncomputable abbrev fF:Fn:=KL.fF
noncomputable abbrev fe:Fn:=KL.fe
noncomputable abbrev eF:Fn:=TM.Ar
noncomputable abbrev nX:Fn:=TM.RP
noncomputable abbrev gV:Fn:=TM.UR
noncomputable abbrev vf:Fn:=TM.FH
noncomputable abbrev jf:Fn:=TM.zu
noncomputable abbrev lZ:Fn:=TM.uY
noncomputable abbrev jR:Fn:=TM.lU
noncomputable abbrev nY:Fn:=TM.Fx
noncomputable abbrev nZ:Fn:=TM.Cw
noncomputable abbrev l8:Fn:=TM.pH
noncomputable abbrev jg:Fn:=TM.FD
noncomputable abbrev n9:Fn:=TM.zU
noncomputable abbrev l9:Fn:=TM.i_
noncomputable def l_:Fn:=⟨"_law_kind",1,2,[.set 1 (.lst [.J8 (.var 0) "Unknown" [("Unknown",b8),("Unlearnt",cc)],.J8 (.var 0) "Unlearnt" [("Unknown",cc),("Unlearnt",b8)],.J8 (.var 0) "TooMany" [("Unknown",cc),("Unlearnt",cc)],.J8 (.var 0) "Lacking" [("Unknown",cc),("Unlearnt",cc)]]),.set 1 (.bin .add (.var 1) (.lst [.J8 (.var 0) "NoText" [("Unknown",cc),("Unlearnt",cc)],.J8 (.var 0) "Unfit" [("Unknown",cc),("Unlearnt",cc)],.J8 (.var 0) "NoRow" [("Unknown",cc),("Unlearnt",cc)],.J8 (.var 0) "NoDeed" [("Unknown",cc),("Unlearnt",cc)]])),.ite (.or [.cmp .ne (.M' cc 1 b8) (.cst (.int 1)),.not (.J8 (.var 0) "ValueError" [("Unknown",b8),("Unlearnt",b8)])]) [.ret (.cst (.str "none"))] [],.ret (.idx (.lst [.cst (.str "unknown"),.cst (.str "unlearnt"),.cst (.str "many"),.cst (.str "lacking"),.cst (.str "text"),.cst (.str "unfit"),.cst (.str "row"),.cst (.str "deed")]) (.M' b8 1 b8))]⟩
noncomputable abbrev jS:Fn:=TM.Aw
noncomputable abbrev n_:Fn:=TM.FI
noncomputable abbrev gW:Fn:=TM.CD
noncomputable abbrev Dg:Fn:=TM.tu
noncomputable def prog:List Fn:=[lY,dm,ff,bo,cT,br,fF,fe,eF,nX,gV,vf,jf,lZ,jR,nY,nZ,l8,jg,n9,l9,l_,jS,n_,gW,Dg]
noncomputable def ck:Ck:=⟨(prog.filter λf=>f.io.isNone).map (·.name),[],prog.filterMap λf=>f.io.map λp=>(f.name,p.1),["Unknown","Unlearnt"],[],[("Unknown","Lacking",cc),("Unknown","NoDeed",cc),("Unknown","NoRow",cc),("Unknown","NoText",cc),("Unknown","TooMany",cc),("Unknown","Unfit",cc),("Unknown","Unknown",b8),("Unknown","Unlearnt",cc),("Unknown","ValueError",b8),("Unlearnt","Lacking",cc),("Unlearnt","NoDeed",cc),("Unlearnt","NoRow",cc),("Unlearnt","NoText",cc),("Unlearnt","TooMany",cc),("Unlearnt","Unfit",cc),("Unlearnt","Unknown",cc),("Unlearnt","Unlearnt",b8),("Unlearnt","ValueError",b8)],[("Unknown","PrimerError"),("Unlearnt","PrimerError")]⟩
theorem pure(ns:List Int)(g:ns.length<=63):I_ prog 9 "law" [sF ns]=a5 (.ok (.loc,.bl b8)):=by
 have d:Ju prog "_law_draw" uY:=rfl;have hs:Ju prog "_law_source" zu:=rfl;have a:Ju prog "_law_same" i_:=rfl;have f:Ju prog "without" RP:=rfl;have c:Ju prog "_law_learnt" FD:=rfl;have h:Ju prog "_law_all" zU:=rfl;have i:Ju prog "_law_due" FI:=rfl;have H:Wi prog:=⟨⟨rfl,rfl,rfl,rfl,rfl,rfl⟩,rfl,rfl,rfl,rfl,rfl,rfl,rfl,rfl⟩
 have j:bA (I_ prog 6):=sU d;have e:bA (I_ prog 7):=sU d;have hl:Ju prog "law" tu:=rfl;rw[show I_ prog 9 "law" [sF ns]=_ from aJ hl [sF ns]];refine w_ (zJ hs) (sU d) (Cz e rfl) (Ab (zJ hs) e (Hv j rfl) (Hx rfl) rfl) (HA e (Hy rfl) rfl) (HH c) (λrs hl o=>HI f ⋯ o) (λws f l hl n=>?_) (λws rs b p w=>?_) g
 ·refine z_ a (by rw[dt];lia) (bJ l) λu q=>?_;obtain⟨r,c,rfl⟩:=js.mp q;have A:=(n r c).2.2.2;refine z_ a (by simp) (by show(b8&&(cB (r.2.map U.str)&&b8))=b8;rw[gB];rfl) λv hv=>?_;rcases d7.mp hv with rfl|hv
  ·exact u9 a _
  ·rw[i2]at hv;subst hv;refine z_ a (by rw[dt];lia) (gB _) λx s=>?_;obtain⟨y,_,rfl⟩:=js.mp s;exact u9 a _
 ·obtain⟨k,u,t,o1⟩:=CL H 0 b p w;obtain⟨k',u',z,o2⟩:=HM (Γ:=I_ prog 7) (HH c) b (all2 h b) w;obtain⟨rfl,rfl⟩:=o1.det o2;refine⟨k,u,(aJ i _).trans z,t,?_⟩;cases o1 with
  |@OR M _ _ m =>
   obtain⟨K,k1,k2⟩:=Kn.some b.wl b.ok;have B:M.length<=24:=wh (Od.qU m.nd λo ho=>k2.2 o ((Kn.mem k1).mpr ((m.iff o).mp ho).1.1)) b.wl;exact⟨FA a (by rw[bx];lia),.inr ⟨rfl,_,rfl,by rw[bx];lia⟩⟩
  |_=>exact⟨u9 a _,.inl ⟨rfl,_,rfl⟩⟩
end K
namespace K
open PySem L2 TM PySem.W PyProof.Rows
noncomputable def m0:d3:=.str "primer.books" 335
noncomputable def m1:d3:=.str "primer.learning" 364
noncomputable def m2:d3:=.str "primer.musts" 413
noncomputable def m3:d3:=.str "law_primer_k33_musts" 439
noncomputable def ml:Me:=⟨Dg,39,["_law_script","_law_left","_law_query","_law_source_here","_law_words_here","_law_book_here","_law_some","_law_turn","_law_word","_law_due_here","_law_found"],283,282,m3,co "law" 557 226 1 279 280 .none .none (.ref 281) 560 561 181⟩
noncomputable def ms:List Me:=[⟨lY,11,["book","words","row"],130,129,m0,co "words_of" 337 21 1 124 125 (.ref 126) (.ref 127) (.ref 128) 343 344 181⟩,
 ⟨dm,12,["pairs","found","key","value"],137,136,m0,co "gathered" 346 27 1 131 132 (.ref 133) (.ref 134) (.ref 135) 353 354 181⟩,
 ⟨ff,13,["book","words"],144,143,m0,co "refuse_unknown" 356 34 2 138 139 (.ref 140) (.ref 141) (.ref 142) 361 362 181⟩,
 ⟨bo,15,["book","pairs","place","row"],149,148,m1,co "places_that_tell" 366 38 1 145 146 .none .none (.ref 147) 369 370 181⟩,
 ⟨cT,16,["book","places","known","steps","place","word"],156,155,m1,co "new_steps" 372 43 3 150 151 (.ref 152) (.ref 153) (.ref 154) 381 382 181⟩,
 ⟨br,17,["book","tellers","missing","known","found","ready","steps","word","place","teller"],161,160,m1,co "steps_in_rounds" 384 50 1 157 158 .none .none (.ref 159) 387 388 181⟩,
 ⟨fF,18,["book","found","steps"],168,167,m1,co "order" 390 68 1 162 163 (.ref 164) (.ref 165) (.ref 166) 396 397 181⟩,
 ⟨fe,19,["book"],173,172,m1,co "learnt" 399 73 1 169 170 .none .none (.ref 171) 402 403 181⟩,
 ⟨eF,20,["book","word"],180,179,m1,co "refuse_unlearnt" 405 75 2 174 175 (.ref 176) (.ref 177) (.ref 178) 410 411 181⟩,
 ⟨nX,22,["book","word"],185,184,m2,co "without" 415 79 2 181 182 .none .none (.ref 183) 418 419 181⟩,
 ⟨gV,23,["book","word","backward","wanted","step","each"],192,191,m2,co "order_up_to" 421 81 2 186 187 (.ref 188) (.ref 189) (.ref 190) 430 431 181⟩,
 ⟨vf,24,["book","word","others"],197,196,m2,co "musts" 433 90 2 193 194 .none .none (.ref 195) 436 437 181⟩,
 ⟨jf,26,["_law_left","_law_k","_law_cell"],204,203,m3,co "_law_source" 441 96 2 198 199 (.ref 200) (.ref 201) (.ref 202) 447 448 181⟩,
 ⟨lZ,27,["_law_source_here","_law_many","_law_number","_law_turn","_law_mixed"],211,210,m3,co "_law_draw" 450 101 2 205 206 (.ref 207) (.ref 208) (.ref 209) 458 459 181⟩,
 ⟨jR,28,["_law_source_here","_law_letters","_law_many","_law_base","_law_way","_law_size","_law_first","_law_words_here","_law_k","_law_word","_law_sense"],216,215,m3,co "_law_words" 461 110 1 212 213 .none .none (.ref 214) 464 465 181⟩,
 ⟨nY,29,["_law_source_here","_law_words_here","_law_at","_law_below","_law_told","_law_k","_law_one"],223,222,m3,co "_law_row" 467 131 4 217 218 (.ref 219) (.ref 220) (.ref 221) 477 478 181⟩,
 ⟨nZ,30,["_law_rows","_law_row_here","_law_other"],230,229,m3,co "_law_lay" 480 140 2 224 225 (.ref 226) (.ref 227) (.ref 228) 486 487 181⟩,
 ⟨l8,31,["_law_left","_law_source_here","_law_words_here","_law_rows","_law_way","_law_k","_law_at","_law_more"],237,236,m3,co "_law_book" 489 145 3 231 232 (.ref 233) (.ref 234) (.ref 235) 500 501 181⟩,
 ⟨jg,32,["_law_book_here","_law_known","_law_fell","_law_word","_law_told"],242,241,m3,co "_law_learnt" 503 157 1 238 239 .none .none (.ref 240) 506 507 181⟩,
 ⟨n9,33,["_law_book_here","_law_met","_law_word","_law_told","_law_one"],249,248,m3,co "_law_all" 509 167 1 243 244 (.ref 245) (.ref 246) (.ref 247) 517 518 181⟩,
 ⟨l9,34,["_law_found","_law_due_here"],254,253,m3,co "_law_same" 520 174 2 250 251 .none .none (.ref 252) 523 524 181⟩,
 ⟨l_,35,["_law_e","_law_some"],261,260,m3,co "_law_kind" 526 188 1 255 256 (.ref 257) (.ref 258) (.ref 259) 531 532 181⟩,
 ⟨jS,36,["_law_book_here","_law_word","_law_found","_law_caught","_law_e"],268,267,m3,co "_law_asked" 534 194 2 262 263 (.ref 264) (.ref 265) (.ref 266) 542 543 181⟩,
 ⟨n_,37,["_law_book_here","_law_word","_law_known","_law_due_here","_law_other","_law_less"],273,272,m3,co "_law_due" 545 202 2 269 270 .none .none (.ref 271) 548 549 181⟩,
 ⟨gW,38,["_law_source_here","_law_book_here","_law_share","_law_heads","_law_pool","_law_more","_law_k","_law_word"],278,277,m3,co "_law_widened" 551 214 2 274 275 .none .none (.ref 276) 554 555 181⟩,
 ml]
noncomputable def gg(P:VF):Obj:=⟨.type "dict",bD,.dict #[ge P "__name__" 165 (.str "law_primer_k33_musts" 439),ge P "__doc__" 166 .none,ge P "__package__" 167 .none,ge P "__loader__" 168 (.builtin "__main__.__loader__#opaque"),ge P "__spec__" 169 .none,ge P "__annotations__" 170 (.ref 6),ge P "__builtins__" 171 (.ref 4),ge P "__file__" 173 (.str "/claim/cut.py" 172),ge P "__cached__" 174 .none,ge P "PrimerError" 206 (.ref 24),ge P "NoText" 222 (.ref 37),ge P "Unfit" 238 (.ref 49),ge P "Unknown" 254 (.ref 61),ge P "Unlearnt" 270 (.ref 73),ge P "TooMany" 286 (.ref 85),ge P "Lacking" 302 (.ref 97),ge P "NoRow" 318 (.ref 109),ge P "NoDeed" 334 (.ref 121),ge P "words_of" 345 (.ref 130),ge P "gathered" 355 (.ref 137),ge P "refuse_unknown" 363 (.ref 144),ge P "places_that_tell" 371 (.ref 149),ge P "new_steps" 383 (.ref 156),ge P "steps_in_rounds" 389 (.ref 161),ge P "order" 398 (.ref 168),ge P "learnt" 404 (.ref 173),ge P "refuse_unlearnt" 412 (.ref 180),ge P "without" 420 (.ref 185),ge P "order_up_to" 432 (.ref 192),ge P "musts" 438 (.ref 197),ge P "_law_source" 449 (.ref 204),ge P "_law_draw" 460 (.ref 211),ge P "_law_words" 466 (.ref 216),ge P "_law_row" 479 (.ref 223),ge P "_law_lay" 488 (.ref 230),ge P "_law_book" 502 (.ref 237),ge P "_law_learnt" 508 (.ref 242),ge P "_law_all" 519 (.ref 249),ge P "_law_same" 525 (.ref 254),ge P "_law_kind" 533 (.ref 261),ge P "_law_asked" 544 (.ref 268),ge P "_law_due" 550 (.ref 273),ge P "_law_widened" 556 (.ref 278),ge P "law" 562 (.ref 283)] 44,#[]⟩
noncomputable def xo(P:VF):List (eH×Obj):=[(97,({cls:=.type "type",data:=.cls {name:="Lacking",bases:=[.ref 24],mro:=[.ref 97,.ref 24,.type "ValueError",.type "Exception",.type "BaseException",.type "object"],ns:=96,qualname:="Lacking" },slots:=#[a5 (.ref 88),bD,a5 (.str "Lacking" 287),a5 (.str "Lacking" 295),a5 (.builtin "ValueError.__new__"),a5 (.bool b8)]}:Obj)),
 (121,({cls:=.type "type",data:=.cls {name:="NoDeed",bases:=[.ref 24],mro:=[.ref 121,.ref 24,.type "ValueError",.type "Exception",.type "BaseException",.type "object"],ns:=120,qualname:="NoDeed" },slots:=#[a5 (.ref 112),bD,a5 (.str "NoDeed" 319),a5 (.str "NoDeed" 327),a5 (.builtin "ValueError.__new__"),a5 (.bool b8)]}:Obj)),
 (109,({cls:=.type "type",data:=.cls {name:="NoRow",bases:=[.ref 24],mro:=[.ref 109,.ref 24,.type "ValueError",.type "Exception",.type "BaseException",.type "object"],ns:=108,qualname:="NoRow" },slots:=#[a5 (.ref 100),bD,a5 (.str "NoRow" 303),a5 (.str "NoRow" 311),a5 (.builtin "ValueError.__new__"),a5 (.bool b8)]}:Obj)),
 (37,({cls:=.type "type",data:=.cls {name:="NoText",bases:=[.ref 24],mro:=[.ref 37,.ref 24,.type "ValueError",.type "Exception",.type "BaseException",.type "object"],ns:=36,qualname:="NoText" },slots:=#[a5 (.ref 28),bD,a5 (.str "NoText" 207),a5 (.str "NoText" 215),a5 (.builtin "ValueError.__new__"),a5 (.bool b8)]}:Obj)),
 (24,({cls:=.type "type",data:=.cls {name:="PrimerError",bases:=[.type "ValueError"],mro:=[.ref 24,.type "ValueError",.type "Exception",.type "BaseException",.type "object"],ns:=23,qualname:="PrimerError",subclasses:=[.ref 37,.ref 49,.ref 61,.ref 73,.ref 85,.ref 97,.ref 109,.ref 121]},slots:=#[a5 (.ref 15),bD,a5 (.str "PrimerError" 189),a5 (.str "PrimerError" 197),a5 (.builtin "ValueError.__new__"),a5 (.bool b8)]}:Obj)),
 (85,({cls:=.type "type",data:=.cls {name:="TooMany",bases:=[.ref 24],mro:=[.ref 85,.ref 24,.type "ValueError",.type "Exception",.type "BaseException",.type "object"],ns:=84,qualname:="TooMany" },slots:=#[a5 (.ref 76),bD,a5 (.str "TooMany" 271),a5 (.str "TooMany" 279),a5 (.builtin "ValueError.__new__"),a5 (.bool b8)]}:Obj)),
 (49,({cls:=.type "type",data:=.cls {name:="Unfit",bases:=[.ref 24],mro:=[.ref 49,.ref 24,.type "ValueError",.type "Exception",.type "BaseException",.type "object"],ns:=48,qualname:="Unfit" },slots:=#[a5 (.ref 40),bD,a5 (.str "Unfit" 223),a5 (.str "Unfit" 231),a5 (.builtin "ValueError.__new__"),a5 (.bool b8)]}:Obj)),
 (61,({cls:=.type "type",data:=.cls {name:="Unknown",bases:=[.ref 24],mro:=[.ref 61,.ref 24,.type "ValueError",.type "Exception",.type "BaseException",.type "object"],ns:=60,qualname:="Unknown" },slots:=#[a5 (.ref 52),bD,a5 (.str "Unknown" 239),a5 (.str "Unknown" 247),a5 (.builtin "ValueError.__new__"),a5 (.bool b8)]}:Obj)),
 (73,({cls:=.type "type",data:=.cls {name:="Unlearnt",bases:=[.ref 24],mro:=[.ref 73,.ref 24,.type "ValueError",.type "Exception",.type "BaseException",.type "object"],ns:=72,qualname:="Unlearnt" },slots:=#[a5 (.ref 64),bD,a5 (.str "Unlearnt" 255),a5 (.str "Unlearnt" 263),a5 (.builtin "ValueError.__new__"),a5 (.bool b8)]}:Obj)),
 (96,({cls:=.type "dict",data:=.dict #[{hash:=i1 P "__module__",key:=.str "__module__" 294,val:=.str "primer.errors" 187},{hash:=i1 P "__firstlineno__",key:=.str "__firstlineno__" 298,val:=.int 14 297},{hash:=i1 P "__static_attributes__",key:=.str "__static_attributes__" 299,val:=.ref 95},{hash:=i1 P "__doc__",key:=.str "__doc__" 300,val:=.none}] 2}:Obj)),
 (120,({cls:=.type "dict",data:=.dict #[{hash:=i1 P "__module__",key:=.str "__module__" 326,val:=.str "primer.errors" 187},{hash:=i1 P "__firstlineno__",key:=.str "__firstlineno__" 330,val:=.int 18 329},{hash:=i1 P "__static_attributes__",key:=.str "__static_attributes__" 331,val:=.ref 119},{hash:=i1 P "__doc__",key:=.str "__doc__" 332,val:=.none}] 2}:Obj)),
 (108,({cls:=.type "dict",data:=.dict #[{hash:=i1 P "__module__",key:=.str "__module__" 310,val:=.str "primer.errors" 187},{hash:=i1 P "__firstlineno__",key:=.str "__firstlineno__" 314,val:=.int 16 313},{hash:=i1 P "__static_attributes__",key:=.str "__static_attributes__" 315,val:=.ref 107},{hash:=i1 P "__doc__",key:=.str "__doc__" 316,val:=.none}] 2}:Obj)),
 (36,({cls:=.type "dict",data:=.dict #[{hash:=i1 P "__module__",key:=.str "__module__" 214,val:=.str "primer.errors" 187},{hash:=i1 P "__firstlineno__",key:=.str "__firstlineno__" 218,val:=.int 4 217},{hash:=i1 P "__static_attributes__",key:=.str "__static_attributes__" 219,val:=.ref 35},{hash:=i1 P "__doc__",key:=.str "__doc__" 220,val:=.none}] 2}:Obj)),
 (23,({cls:=.type "dict",data:=.dict #[{hash:=i1 P "__module__",key:=.str "__module__" 196,val:=.str "primer.errors" 187},{hash:=i1 P "__firstlineno__",key:=.str "__firstlineno__" 200,val:=.int 2 199},{hash:=i1 P "__static_attributes__",key:=.str "__static_attributes__" 201,val:=.ref 22},{hash:=i1 P "__weakref__",key:=.str "__weakref__" 203,val:=.ref 25},{hash:=i1 P "__doc__",key:=.str "__doc__" 204,val:=.none}] 3}:Obj)),
 (84,({cls:=.type "dict",data:=.dict #[{hash:=i1 P "__module__",key:=.str "__module__" 278,val:=.str "primer.errors" 187},{hash:=i1 P "__firstlineno__",key:=.str "__firstlineno__" 282,val:=.int 12 281},{hash:=i1 P "__static_attributes__",key:=.str "__static_attributes__" 283,val:=.ref 83},{hash:=i1 P "__doc__",key:=.str "__doc__" 284,val:=.none}] 2}:Obj)),
 (48,({cls:=.type "dict",data:=.dict #[{hash:=i1 P "__module__",key:=.str "__module__" 230,val:=.str "primer.errors" 187},{hash:=i1 P "__firstlineno__",key:=.str "__firstlineno__" 234,val:=.int 6 233},{hash:=i1 P "__static_attributes__",key:=.str "__static_attributes__" 235,val:=.ref 47},{hash:=i1 P "__doc__",key:=.str "__doc__" 236,val:=.none}] 2}:Obj)),
 (60,({cls:=.type "dict",data:=.dict #[{hash:=i1 P "__module__",key:=.str "__module__" 246,val:=.str "primer.errors" 187},{hash:=i1 P "__firstlineno__",key:=.str "__firstlineno__" 250,val:=.int 8 249},{hash:=i1 P "__static_attributes__",key:=.str "__static_attributes__" 251,val:=.ref 59},{hash:=i1 P "__doc__",key:=.str "__doc__" 252,val:=.none}] 2}:Obj)),
 (72,({cls:=.type "dict",data:=.dict #[{hash:=i1 P "__module__",key:=.str "__module__" 262,val:=.str "primer.errors" 187},{hash:=i1 P "__firstlineno__",key:=.str "__firstlineno__" 266,val:=.int 10 265},{hash:=i1 P "__static_attributes__",key:=.str "__static_attributes__" 267,val:=.ref 71},{hash:=i1 P "__doc__",key:=.str "__doc__" 268,val:=.none}] 2}:Obj))]
noncomputable def gx(P:VF):Gx:=(gg P,xo P)
noncomputable def xa:List eH:=[97,121,109,37,24,85,49,61,73,96,120,108,36,23,84,48,60,72]
noncomputable def vw:va:=view PySem.Challenge.pw_primer_k33_musts [11,12,13,15,16,17,18,19,20,22,23,24,26,27,28,29,30,31,32,33,34,35,36,37,38,39]
noncomputable def hk:Hook:=kHook (λP=>KR top (gx P) ms) (adr ms xa) λP=>uO top (gx P) ms xa rfl
theorem hl:LeftO PySem.Challenge.rw_primer_k33_musts.row.prog vw ["PrimerError","NoText","Unfit","Unknown","Unlearnt","TooMany","Lacking","NoRow","NoDeed"] (λs=>xlAt vw [] s&&recOk (RowW.records PySem.Challenge.rw_primer_k33_musts.row.toRowW) s) hk.obs hk.val 4000:=λw=>by kernel_rfl
theorem hs:PySem.Challenge.rw_primer_k33_musts.wellSaid=b8:=by kernel_rfl
theorem ho(P:VF):NM ck top (KR top (gx P) ms) ms=b8:=by kernel_rfl
theorem Zw(P:VF):(gX ck (KR top (gx P) ms)&&gY ck (KR top (gx P) ms))=b8:=by kernel_rfl
end K
open PySem PySem.W PyProof.Rows K
theorem PySem.Challenge.cw_primer_k33_musts_holds : PySem.Challenge.rw_primer_k33_musts.Holds := by
 w_on
 refine holds_law hs λz => ?_;refine holds_open hl hk.of hk.keeps (λs e => xl_of s (LO.mp e).1) XL.keeps rfl rfl rfl (λs e => recFacts_of (LO.mp e).2) rfl z (by kernel_rfl) ⟨rfl, rfl, rfl, rfl, rfl, by decide +kernel⟩ ?hw ?a
 (case hw => w_witness2)
 exact TM.walk2 (l := PySem.Challenge.rw_primer_k33_musts) (Pg := prog) (ck := ck) (dp := 8) (x := "_law_script") (m := ml) rfl rfl ⟨rfl, by decide, by decide, rfl⟩ rfl (by decide +kernel) (by decide +kernel) rfl (by simp [ms]) rfl rfl ho Zw (λ_ => rfl) K.pure
