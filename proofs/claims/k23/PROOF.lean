import PyProof.Rows.All
import Wide.All
import OpenK.AllK
import Wide.FinOn
import Lean
import PyProof.EqAt
import PyProof.EqKinds
import PyProof.TupleCall
import PyProof.StrLawsChain
import PyProof.StrLawsFirst
import PyProof.Rows.StrNews2
import OpenK.AllK
import PySem.SetOps
import OpenK.AllK
import PyProof.DictItems
import OpenK.AllK
import PyProof.AttrMissHeap
import OpenK.AllK
import PyProof.StationsW
import PyProof.ExcBaseAll.ValueError
import PyProof.RulesAs
import PyProof.NsDelKeeps
import OpenK.AllK
import PyProof.ReprBulk
import PySem.Challenge.RW_primer_k23_readings_walked
set_option Elab.async false
set_option linter.all false
set_option bootstrap.genMatcherCode false
set_option maxRecDepth 100000
set_option maxHeartbeats 4000000
set_option genInjectivity false
set_option genSizeOf false
set_option autoImplicit true
set_option relaxedAutoImplicit true
open Option renaming some->a5,none->b6,map_eq_some_iff->fx,bind_eq_some_iff->nC,isNone_iff_eq_none->RU,isSome_iff_exists->Sm,map_eq_none_iff->SG,map_some->Tc,isSome_map->U0,getD_none->Vn
open PySem renaming wpAny_bind->bD,sizeLine->cL,wpAny_pure->df,Value->d3,wpAny->d4,Addr->fR,Shared->fS,model->gs,starEach->i3,wpAny_setState_of->mn,Expr->mx,wpAny_mono->qb,wpAny_holding->qs,mainGlobals->qP,wpAny_Call_Name_kw->sL,rawInt->u5,bootBuiltins->u7,Program->ve,eval->wk,wpAny_newObj_type->x2,wpAny_call_entry->B',scanBound->DD,World->Jq,Heap->Jy,wpAny_truthy_bool->Jz,isSubtype_type->JK,backTo->JL,codeAny_builtin->JU,cLine->LU,compareOp->LZ,Builtin->Mq,keywordEach->MO,holding->MP,foldedSetIterable->MQ,Stmt->M3,Scope->Nb,call->Nd,wpAny_setField->NA,wpAny_rule->N3,sysModules->N4,Around->N8,wpAny_passesOwn->N',builtinLookup_eq_fast->Ob,Keyword->Oj,binaryOp->OJ,SetTable->OL,NameKind->OM,wpAny_isInstance->OO,plainId_quiet->Py,attributeBase->Pz,wpAny_pyIter_tuple->PM,tupleKind_room_in1->PR,assignEach->P5,wpAny_getItem_str_slice->Qa,wpAny_callSpecial?_slot->Qc,isSubtype->Qe,codeAny->Qq,backToKw->Qt,wpAny_askSetting->QS,swapsWith->QU,swapsWithSole->Rk,behindInMarks->Rq,sliceBounds->Rt,wpAny_updateSeq->R4,wpAny_execs_nil->R5,typeLookup_type->R6,call_isinstance->R9,wpAny_setEntries_of->Sd,wpAny_typeOf->So,codeAny_mono->Sq,wpAny_seqItems->Sx,pyNext->Sy,assign->SE,FuncData->SF,wpAny_pyIter_list->Tj,wpAny_Call_method0_late->TF,typeLookup->T_,setItem->Ua,relabel->Ud,notedBy->Ue,callerA->Uk,call_meets->Um,wpAny_specialOf->UH,wpAny_loadPart'->UI,post_val_or_str->UN,letOwnedTupleGo->UO,wpAny_field->U1,firstArgMember->U6,tupleKind->Vh,wpAny_newList->Vz,swappedStores->VA,Params->VH,wpAny_storeSet_of->V6,wpAny_setEpoch_of->V7,wpAny_pyIter_enum->V8,valueAt->Wj,sub_set_self->Wl,setNext->Wn,setField->Wr,release->Ws,getItem->Wu,fits_of_scanBound->Ww,concat_meets->Wx,compEnvC->Wy,call_meetsIn->Wz,wpAny_eqBool_str->Xp,wpAny_eqBool_int->Xq,seqItems?->Xr,seqIndex?->Xw,pickOrder->Xz,noFill_tuple_add->XH,PassesOwn->XI,wpAny_of_eq->XO,unsupported->XZ,subscripted->X0,standAt->Yp,wpAny_runValue->Y7,typeOf->Y8,typeIs_str->Y9,relayAll->Y_,raiseNew->Y',pyIter->Za,entryFor_alias->Zb,entryFor->Zc,atKey->Zd,wpAny_standAt->ZC,wpAny_comprehension_free->ZD,seq_tuple_add->ZF,bindL->Z6,bindC->Z7,wpAny_Call_method_late->Á,setNextDrawn->Â,newExc->Ã,collect->Ä,IsEnum->Ç,BindsTo->Ê,wpAny_isTrue_Compare1->Ø,step->â,seqIndex_of->ã,codeAny_extend_loopS->ä,bindArgs->å,Operator->è,GenState->é,wpAny_Tuple_spliced->ô,wpAny_load->þ,wpAny_call->ÿ,wpAny_Name->Ā,setsByText->ā,getattributeRaised->Ă,checkCount->ă,builtinsNs->Ą,WalksS->ą,JoinOk->ć,wpAny_pyIter_slot->Đ,wpAny_assign_Name->đ,wpAny_Assign_Name->Ē,spliced->ē,slot_list_getitem->Ĕ,newList->ĕ,ItemsOf->ě,CmpOp->Ğ,wpAny_setScan_of->Ģ,wpAny_execs_cons->ģ,updateSeq->Ĥ,storeName->ĥ,setDiscardHashed->Ħ,rule->ħ,meets_dict_items->Ĩ,entryFor_of_tree->ĩ,cellsFrom->Ī,codeAny_of_tree->ĳ,truthy->Ļ,table->ļ,stored->Ľ,recursionLimit->ľ,newTuple->Ŀ,isSubtype_stop->ŀ,field->Ł,callType_codes->ł,augStore->Ń,argsOk->ń,again->Ņ
open Bool renaming true->b8,and_eq_true->cb,false->cc,false_ne_true->kr,not_eq_true'->t4,false_eq_true->J',and_eq_true_iff->KJ,or_eq_true->Lj,eq_iff_iff->Ll,or_false->ON,and_false->PL,false_and->T9,and_true->UW,not_true->X_,or_eq_false_iff->ZA,true_and->Ď,and_self->ď,or_true->ġ
open PySem.Heap renaming get?_push_of_some->cK,lt_size->ez,get?_push_size->eH,SameBut->o3,get?_update_self->uk,get?_update_other->Nw,get?_update_ne->OI,size_push->W9,size_update->Ù,ExtBut->ī
open List renaming length_map->c4,getElem?_eq_some_iff->dV,map_cons->d6,mem_cons->et,getElem?_set_self->gj,size_toArray->hH,length_append->hV,range->i0,getElem?_set_ne->i1,map_map->i5,getElem?_map->i6,mem_singleton->i7,all_eq_true->i8,replicate->i9,map_append->js,length_cons->ke,mem_append->kj,mem_map->lg,mem_of_getElem?->l0,mem_cons_of_mem->l',nil_append->mf,nodup_cons->my,mem_append_right->mA,getElem?_eq_getElem->mN,mem_cons_self->nc,getElem?_append_right->pa,nodup_append->rr,append_nil->r6,length_singleton->sx,map_congr_left->td,lookup_cons->tj,mem_range->tA,getElem?_append_left->ux,length_range->vr,length_filter_le->w6,length_take->x4,isEmpty_iff->y1,getD->y4,take_of_length_le->D7,filterMap_cons->I0,filter_cons->J3,getElem?_replicate->KX,map_nil->Lx,length->LA,ext_getElem->LD,getElem?_drop->LO,filter_eq_self->MR,getElem_mem->MY,mem_filter->NX,find?_cons->NY,sum_cons->NZ,zip_cons_cons->OU,mem_filterMap->OY,filter_cons_of_pos->Pt,filter_cons_of_neg->Pw,eraseIdx_eq_take_drop_succ->Qh,length_replicate->Qj,getElem?_eq_none->Qk,mem_append_left->QK,of_mem_zip->QQ,dropLast_concat_getLast->QR,mem_map_of_mem->QZ,length_reverse->Q2,getElem_of_mem->Q8,pairwise_cons->RX,nodup_nil->RZ,map_singleton->R0,filter_append->R3,drop_eq_getElem_cons->Sn,reverse_cons->Sv,not_mem_nil->SH,length_eq_zero_iff->S0,getElem?_cons_succ->S3,eraseIdx_cons_succ->S7,any_eq_true->S9,length_nil->Tt,foldl_cons->Tu,filter_nil->Tx,mem_iff_getElem->TU,mem_erase_of_ne->T5,getElem?_zipIdx->T6,any_cons->UR,findIdx?_eq_some_iff_getElem->U9,flatten_cons->Vo,eraseIdxIfInBounds_toArray->Vu,getElem_inj->VG,map_id->VI,sum_append->VO,length_zip->VT,forIn_cons->VU,drop_left'->V5,map->Xg,getD_eq_getElem?_getD->Xh,forIn_nil->Xn,drop_zero->Xo,findIdx?_eq_none_iff->XN,length_erase_of_mem->X1,getElem?_take_of_lt->X4,findIdx?->X8,length_pos_of_mem->YZ,length_eq_one_iff->Y4,filter_eq_nil_iff->Y6,mem_iff_getElem?->Zs,dropLast_eq_take->Zt,length_eraseIdx->Zy,getElem_eq_getD->Zz,flatten_append->ZM,filter_sublist->ZO,sum_singleton->Z',take_sublist->Ó,filter_congr->Ô,ext_getElem?->Õ,append_assoc->Ö,mem_flatten->Û,map_reverse->Ü,map_fst_zip->Ý,length_drop->Þ,getElem_map->ß,drop_length->à,cons_append->á,zipIdx_map->ñ,range_succ->ò,length_set->ó,lt_irrefl->ü,perm_nil->Ċ,map_take->ċ,map_drop->Č,all_cons->č,all_map->ğ,range'->İ
open Decidable renaming decide->dt
open Nat renaming ne_of_lt->hQ,le_refl->hU,lt_of_lt_of_le->i2,zero_le->ki,lt_irrefl->uv,ne_of_gt->H0,le_trans->H8,le_succ->LB,zero_add->OE,lt_succ_self->OH,lt_trans->P6,lt_succ_of_lt->P9,le_of_lt->P_,mod_lt->XJ,add_sub_cancel_left->YP,succ_pos->Zk,le_of_eq->Zl,lt_of_le_of_lt->Ò,not_lt_of_lt->ð,sub_zero->Į,add_zero->į
open Array renaming length_toList->hW,getElem?_toList->qp,getElem?_eq_getElem->OB,size_map->RS,getD->UY,forIn_toList->UZ,size_append->U',toList->Ye,toList_extract->Zu,toArray_toList->Zv,append_assoc->ZW,toList_push->À
open PySem.Value renaming ref->hY,none->mh,type->ri,str->t5,isStrOf->Qm,bool->RJ,int->Vq,isStrOf_shape->Zw,isInt->Ę
open Sum renaming inr->ko,inl->Vp
open PySem.Str renaming empty->nH,ofString->RP,length->Ň
open PySem.Obj renaming mapSeq->oT,data_mapFields->NG,putSet->O7,isFreed_of_fields->TQ,cls_mapFields->Vr,mapFields->ę
open Ne renaming symm->ro
open PySem.Builtin.List renaming listExtendWith->ti,listTooLong->LN,listSameRef->N9,listLengthHint->UQ,listItems->VD,listUpdate->ĵ
open PySem.SetTable.layClean renaming free->va
open Option.some renaming inj->vl,injEq->QO
open PyProof.Rows renaming seqObj->vu,size_push'->KO,callWith_type1->M7,callWith_builtin1->OQ,StrsAre->Qv,AllBare->To,envOfC->Uv,subscriptTail->VE,listUpdate_at->VF,entry_list_sort->Yd,sortedHeap_old->Zf,sortedHeap->Zh,slot_list_sort->Zi,args_list_sort->Zj,sortedHeap_at->ZL,subscriptTail_builtinR->Ë,plain_sorted->Ì,listItems_at->Í,entry_sorted->Î,args_sorted1->Ï,IntsAre->Ñ,seqEpoch_at->î,kind_sorted->ï,Subscript_->ĉ,slot_str_getitem->ĭ,joinParts_consE->ĸ,get?_update_seq->Ĺ,call_isinstance_yes->ĺ,tail_any->ŉ,keyKind'->Ŋ,joinParts_cons->ŋ,isTrue_and_nil->Ō,IsTup->ō
open Int renaming eq_ofNat_of_zero_le->wh,toNat_natCast->N_,emod_nonneg->Q9,emod_lt_of_pos->Sb,le_trans->TB,le_refl->UG,natCast_pow->ý
open PySem.Heap.SameBut renaming update->x3,refl->JR
open PySem.Calls renaming callWith_builtin->D6,evalArgs_plain->Mm,spliced_cons->Nt,spliced_nil->PB,call_function_entry->R',Name_function_global->WJ
open PySem.PyData renaming keyHash->Ke
open PySem.Around renaming under_plainId->Kk
open PySem.Builtin.Frozenset renaming isAnySet->KD,difference->OP,sizeOf->Qi,differenceUpdate->Sr,unchanged->TC,copyOf->Uq,baseOf->Ur,addrOf->Uu,slot1->UP,updateFrom->ë,slot0->ì,newClass->í
open PySem.Builtin.SmallTypes renaming nextOf->KW
open PySem.SetTable renaming sizeAbove->Ls,below->Mw,grown->N2,bits->Oh,eraseAt->PK,turns->QL,layClean->RQ,fits->RT,laid->TN,runEnd->Vl,relaid->Vm,fill->VJ,orStandIn->YE,fresh->Z8,leap->Å,drop->Æ
open PySem.W renaming kas_sort->L6,kas_ask->WH,kat_cons->æ,kat_yes->Ė
open List.Perm renaming refl->Mu,swap->ZP,cons->ZQ
open PySem.NameKind renaming free->Nr
open False renaming elim->Nv
open PyProof.Rows.F renaming plain_set_update_loop->NM,entry_set_update_loop->Sw
open PySem.AutoSeq1 renaming wpAny_loadPart'->Om,sub_tuple_tuple->VM,sub_tuple_list->WK,sub_list_tuple->WL,sub_list_list->W_,idx_int->Zx
open ForInStep renaming yield->OA
open List.cons renaming injEq->Ql
open LT renaming lt->Qy
open ToString renaming toString->Rr
open PySem.Shared renaming TypeIs->Sk
open PySem.SeqAt renaming EqAt->Tb,ne_of_list_tuple->X',RcAt->ZG,RcNeAt->Ć
open PySem.Data renaming fields->TR,cell->Yc
open PySem.Txt renaming join->Uo
open Sum.inr renaming inj->Vd
open PySem.Builtin.Dict renaming updateFrom->Vt,selfAndRest->Ķ,pairItems->ķ
open PySem.pickOrder renaming go->Wt
open PySem.Walks renaming list->WA
open PySem.SetTable.below renaming go->WI
open Prod.mk renaming injEq->WO
open True renaming intro->W3
open List.Nodup renaming sublist->X9
open PySem.Heap.DictOf renaming new->YF
open PySem.Code renaming quiet_builtin->Z9
open PySem.F renaming excBase_ValueError->È,args_list_extend_2->É,entry_list_extend->Ú,slot_list_extend->ê,entry_list_pop->Ĉ,slot_list_pop->ĝ
open PyProof.Rows.IsTup renaming new->Ð
open PySem.W.KatTups renaming cons->ç,nil->ö
open PySem.W.Looks renaming of_pure->õ,ld->ņ
open PySem.ItemsOf renaming nil->ø
open PyProof.Rows.LSm renaming range_all->ù,kept_iter->ú
open Prod renaming fst->û
open PySem.W.WShape renaming has->ė
open PySem.Moved renaming trans->Ě
open PySem.Heap.IsSliceOf renaming new->Ĝ
open LE renaming le->Ġ
open PySem.Builtin.Range renaming rangeSize->Ĭ
open List.Pairwise renaming nil->ı,map->Ĳ
open PySem.W.WData renaming int->Ĵ
open PySem.Flow renaming next->ň
open ForIn renaming forIn->Ŏ
abbrev ŏ:=@decide_eq_true_eq
abbrev Ő:=@if_pos
abbrev ő:=@if_neg
abbrev Œ:=@decide_eq_false
abbrev œ:=@decide_eq_true
abbrev Ŕ:=@congrArg
abbrev ŕ:=@of_decide_eq_true
local macro_rules|`(⋯)=>`(by lia)
local macro_rules|`(∅)=>`(by(first|exact trivial|exact⟨⟨_,rfl,rfl⟩,trivial⟩|exact⟨⟨_,rfl,rfl⟩,⟨_,rfl,rfl⟩,trivial⟩))
namespace L2
open PySem PySem.Spec PyProof.Rows
abbrev Key:=Sum Int Str
noncomputable def jk:Key->d3->Bool
 |.inl k,v=>Ę k v
 |.inr x,v=>Qm x v
noncomputable def H_(w:Jq):Key->Int
 |.inl k=>hashInt k
 |.inr x=>hashStr w x
theorem bg:∀{k:Key}{v:d3},jk k v=b8->(∃i t,k=Vp i/\v=Vq i t)\/(∃x t,k=ko x/\v=t5 x t)
 |.inl i,v,h=>by
  obtain⟨t,e⟩:=Value.isInt_shape (k:=i) (v:=v) h;exact .inl ⟨i,t,rfl,e⟩
 |.inr x,v,h=>by
  obtain⟨t,e⟩:=Zw (x:=x) (v:=v) h;exact .inr ⟨x,t,rfl,e⟩
theorem vT(i:Int)(t:Tok):jk (.inl i) (.int i t)=b8:=by simp[jk,Ę]
theorem vU(x:Str)(t:Tok):jk (.inr x) (.str x t)=b8:=by simp[jk,Qm]
theorem DI(a b:Int):dt ((Vp a:Key)=Vp b)=(a==b):=by
 by_cases e:a=b
 ·subst e;simp
 ·have h:¬(Vp a:Key)=Vp b:=λq=>e (Sum.inl.inj q);rw[Œ h];exact(beq_eq_false_iff_ne.mpr e).symm
theorem DJ(a b:Str):dt ((ko a:Key)=ko b)=dt (a=b):=by
 by_cases e:a=b
 ·subst e;simp
 ·have h:¬(ko a:Key)=ko b:=λq=>e (Vd q);rw[Œ h,Œ e]
theorem DK(a:Int)(b:Str):dt ((Vp a:Key)=ko b)=cc:=Œ (λq=>nomatch q)
theorem DL(a:Str)(b:Int):dt ((ko a:Key)=Vp b)=cc:=Œ (λq=>nomatch q)
noncomputable def aG(prog:ve)(w:Jq):PySem.KeyKind prog w Key where
 is:=jk
 hash:=H_ w
 inj:=λv a b g f=>by
  rcases bg g with⟨i,t,rfl,rfl⟩|⟨x,t,rfl,rfl⟩
  ·rcases bg f with⟨j,u,rfl,e⟩|⟨y,u,rfl,e⟩
   ·injection e with c _;rw[c]
   ·exact nomatch e
  ·rcases bg f with⟨j,u,rfl,e⟩|⟨y,u,rfl,e⟩
   ·exact nomatch e
   ·injection e with c _;rw[c]
 byValue:=λk v h=>by
  rcases bg h with⟨i,t,rfl,rfl⟩|⟨x,t,rfl,rfl⟩<;>rfl
 pyHash:=λd h=>by
  rcases bg d with⟨i,t,rfl,rfl⟩|⟨x,t,rfl,rfl⟩
  ·exact wpAny_pyHash_int h
  ·exact wpAny_pyHash_str h
 eqBool:=λl d h=>by
  rcases bg l with⟨i,t,rfl,rfl⟩|⟨x,t,rfl,rfl⟩
  ·rcases bg d with⟨j,u,rfl,rfl⟩|⟨y,u,rfl,rfl⟩
   ·rw[DI]at h;exact Xq h
   ·rw[DK]at h;exact SeqAt.EqAt.int_str i t y u _ _ _ _ h
  ·rcases bg d with⟨j,u,rfl,rfl⟩|⟨y,u,rfl,rfl⟩
   ·rw[DL]at h;exact SeqAt.EqAt.str_int x t j u _ _ _ _ h
   ·rw[DJ]at h;exact Xp h
 «strs»:=λk x t v h=>by
  rcases bg h with⟨i,u,rfl,e⟩|⟨y,u,rfl,e⟩
  ·exact nomatch e
  ·injection e with c _
   subst c;cases v<;>rfl
theorem pM(prog:ve)(w:Jq)(i:Int)(t:Tok):(aG prog w).is (.inl i) (.int i t)=b8:=vT i t
theorem pN(prog:ve)(w:Jq)(x:Str)(t:Tok):(aG prog w).is (.inr x) (.str x t)=b8:=vU x t
inductive V where
 |Jc|bl (b:Bool)|int (i:Int)|str (x:Str)|QV (b:Array UInt8)|QW (b:UInt64)|ref (a:fR)|ty (n:String)
 deriving DecidableEq
def RelV:V->d3->Prop
 |.Jc,u=>u=mh
 |.bl b,u=>u=RJ b
 |.int i,u=>∃t,u=Vq i t
 |.str x,u=>∃t,u=t5 x t
 |.QV b,u=>∃t,u=Value.bytes b t
 |.QW b,u=>∃t,u=Value.float b t
 |.ref a,u=>u=hY a
 |.ty n,u=>u=ri n
abbrev Vals:List V->List d3->Prop:=Paired RelV
theorem Vals.length(r:Vals xs us):xs.length=us.length:=Paired.length r
theorem Vals.get:∀{xs:List V}{us:List d3}{i:Nat}{x:V},Vals xs us->xs[i]?=a5 x->∃u,us[i]?=a5 u/\RelV x u
 |_,_,_,_,.nil,e=>by simp at e
 |_,_,0,_,.cons r _,e=>by simp at e;subst e;exact⟨_,rfl,r⟩
 |_,_,i+1,x,.cons _ t,e=>by
  obtain⟨u,a,b⟩:=Vals.get (i:=i) (x:=x) t (by simpa using e);exact⟨u,by simpa using a,b⟩
theorem Vals.set(r:RelV x u):∀{xs:List V}{us:List d3} (i:Nat),Vals xs us->Vals (xs.set i x) (us.set i u)
 |_,_,_,.nil=>.nil
 |_,_,0,.cons _ t=>.cons r t
 |_,_,i+1,.cons q t=>.cons q (Vals.set r i t)
theorem Vals.append:∀{xs a:List V}{us ws:List d3},Vals xs us->Vals a ws->Vals (xs++a) (us++ws)
 |_,_,_,_,.nil,s=>s
 |_,_,_,_,.cons r t,s=>.cons r (Vals.append t s)
theorem Vals.take:∀{xs:List V}{us:List d3} (n:Nat),Vals xs us->Vals (xs.take n) (us.take n)
 |_,_,0,_=>.nil
 |_,_,_+1,.nil=>.nil
 |_,_,n+1,.cons r t=>.cons r (Vals.take n t)
theorem Vals.drop:∀{xs:List V}{us:List d3} (n:Nat),Vals xs us->Vals (xs.drop n) (us.drop n)
 |_,_,0,r=>r
 |_,_,_+1,.nil=>.nil
 |_,_,n+1,.cons _ t=>Vals.drop n t
def jH:Option V->Option d3->Prop
 |some v,a5 u=>RelV v u
 |none,b6=>True
 |_,_=>False
def KV{κ:Type}:List (κ×V)->List (κ×d3)->Prop:=Paired λ(p:κ×V) (q:κ×d3)=>p.1=q.1/\RelV p.2 q.2
noncomputable def kV:Key->V
 |.inl i=>.int i
 |.inr x=>.str x
inductive HO where
 |lst (xs:List V)
 |tup (xs:List V)
 |dK (kvs:List (Key×V))|dT (kvs:List (List Key×V))
 |set (S:Int->Bool) (n:Nat)
 |ins (C dx:fR) (fs:List (Str×V))
 |own (x:fR)
 |xd (fs:List (Str×V))
 |met (f x:fR)
 |QX (lo hi:Int)
 |Kq (o:Obj) (u:HO)
 |Nu (ps:Array d3)
 |ext (φ:Jy->Prop)
abbrev Hp:=fR->Option HO
noncomputable def upd(H:Hp)(a:fR)(o:HO):Hp:=λb=>if b=a then a5 o else H b
theorem ay:upd H a o a=a5 o:=by unfold upd;rw[Ő rfl]
theorem au(h:b≠a):upd H a o b=H b:=by unfold upd;rw[ő h]
theorem Gh{H:Hp}(h:H a=a5 o)(h':H b=a5 u)(d:o≠u):a≠b:=by
 intro e;subst e;rw[h]at h';exact d (vl h')
theorem bz{H:Hp}(h:H a=a5 o)(h':H b=b6):a≠b:=by
 intro e;subst e;rw[h]at h';cases h'
section
variable(P:ve)(w:Jq)
def bA(H:Hp)(h:Jy)(a:fR):HO->Prop
 |.lst xs=>xs.length<=cL/\∃(its:List d3) (n:Nat),Vals xs its/\h.get? a=a5 {cls:=.type "list",data:=.seq its.toArray n}
 |.tup xs=>xs.length<=cL/\∃its:List d3,Vals xs its/\ō h a its.toArray
 |.dK kvs=>kvs.length<=cL/\(a==N4)=cc/\∃vs,KV kvs vs/\h.DictOf (aG P w) a vs
 |.dT kvs=>kvs.length<=cL/\(a==N4)=cc/\∃xs:List (List Key×fR×d3),
   Paired (λ(p:List Key×V) (q:List Key×fR×d3)=>p.1=q.1/\H q.2.1=a5 (.tup (p.1.map kV))/\RelV p.2 q.2.2) kvs xs /\
   ∃o es ep,h.get? a=a5 o/\o.ExactDict/\o.data=.dict es ep/\es.toList=xs.map (entryOfKey (Vh (aG P w)))/\(xs.map (·.1)).Nodup
 |.set S n=>h.SetOf (intKind P w) a S n
 |.ins C d c=>H d=a5 (.own a)/\c.length<=1000/\d≠a/\h.get? a=a5 (PySem.W.instObj C d) /\
   ∃b,h.Ns1 d b/\(∀f,jH (c.lookup f) (b f))/\PySem.Within b (c.map (·.1))
 |.own _=>∃o,h.get? a=a5 o
 |.xd c=>∃b,h.Ns1 a b/\∀f,jH (c.lookup f) (b f)
 |.QX lo hi=>∃t u v,h.get? a=a5 {cls:=.type "range",data:=.fields #[.int lo t,.int hi u,.int 1 v]}
 |.Kq o u=>h.get? a=a5 o/\bA H h a u
 |.Nu ps=>h.get? a=a5 {cls:=.none,data:=.fields ps}
 |.met f x=>h.get? a=a5 (PySem.W.methodObj (.ref f) (.ref x))
 |.ext φ=>φ h/\(∃o,h.get? a=a5 o)/\∀e g:Jy,φ e->(∀o,e.get? a=a5 o->g.get? a=a5 o)->φ g
def J6(H:Hp)(h:Jy):Prop:=∀a o,H a=a5 o->bA P w H h a o
end
section
theorem bA.lt(x:bA P w H h a o):a<h.objs.size:=by
 cases o with
 |lst xs=>obtain⟨_,_,_,_,e⟩:=x;exact ez e
 |tup xs=>obtain⟨_,_,_,p⟩:=x;exact p.lt
 |set S n=>obtain⟨o,_,_,_,e,_⟩:=x;exact ez e
 |ins C c b=>obtain⟨_,_,_,e,_⟩:=x;exact ez e
 |own y=>obtain⟨_,e⟩:=x;exact ez e
 |xd b=>obtain⟨_,⟨_,_,_,e,_⟩,_⟩:=x;exact ez e
 |QX lo hi=>obtain⟨_,_,_,e⟩:=x;exact ez e
 |Kq d u=>obtain⟨e,_⟩:=x;exact ez e
 |Nu ps=>exact ez (show h.get? a=a5 _ from x)
 |met f y=>exact ez (show h.get? a=a5 _ from x)
 |ext φ=>obtain⟨_,⟨_,e⟩,_⟩:=x;exact ez e
 |_=>obtain⟨_,_,_,_,o,_,_,e,_⟩:=x;exact ez e
theorem Paired.DM:∀{c:List α}{d:List β},Paired F c d->(∀a b,F a b->G a b)->Paired G c d
 |_,_,.nil,_=>.nil
 |_,_,.cons r t,f=>.cons (f _ _ r) (Paired.DM t f)
theorem bA.fA(x:bA P w H h a o)(k:∀b u,(b=a\/H b=a5 (.own a))->h.get? b=a5 u->h'.get? b=a5 u)
  (ho:∀b,H b=a5 (.own a)->H' b=a5 (.own a)) (l:∀b xs,H b=a5 (.tup xs)->H' b=a5 (.tup xs)):bA P w H' h' a o:=by
 induction o with
 |lst xs=>obtain⟨z,its,n,r,e⟩:=x;exact⟨z,its,n,r,k _ _ (.inl rfl) e⟩
 |tup xs=>obtain⟨z,its,r,g,e,c⟩:=x;exact⟨z,its,r,g,k _ _ (.inl rfl) e,c⟩
 |dK kvs=>obtain⟨z,y,vs,r,g,es,ep,e,c⟩:=x;exact⟨z,y,vs,r,g,es,ep,k _ _ (.inl rfl) e,c⟩
 |dT kvs =>
  obtain⟨z,y,xs,r,g,es,ep,e,c⟩:=x;exact⟨z,y,xs,Paired.DM r λp q z=>⟨z.1,l _ _ z.2.1,z.2.2⟩,g,es,ep,k _ _ (.inl rfl) e,c⟩
 |set S n=>obtain⟨g,es,ep,t,e,c⟩:=x;exact⟨g,es,ep,t,k _ _ (.inl rfl) e,c⟩
 |ins C D m =>
  obtain⟨d,z,s,e,i,⟨j,es,ep,A,c⟩,r⟩:=x;exact⟨ho _ d,z,s,k _ _ (.inl rfl) e,i,⟨j,es,ep,k _ _ (.inr d) A,c⟩,r⟩
 |own y=>obtain⟨g,e⟩:=x;exact⟨g,k _ _ (.inl rfl) e⟩
 |xd m=>obtain⟨i,⟨j,es,ep,e,c⟩,r⟩:=x;exact⟨i,⟨j,es,ep,k _ _ (.inl rfl) e,c⟩,r⟩
 |QX lo hi=>obtain⟨t,u,v,e⟩:=x;exact⟨t,u,v,k _ _ (.inl rfl) e⟩
 |Kq g u B=>obtain⟨e,q⟩:=x;exact⟨k _ _ (.inl rfl) e,B q⟩
 |Nu ps =>
  have e:h.get? a=a5 {cls:=.none,data:=.fields ps}:=x;show h'.get? a=a5 {cls:=.none,data:=.fields ps};exact k a _ (.inl rfl) e
 |met f y =>
  have e:h.get? a=a5 (PySem.W.methodObj (.ref f) (.ref y)):=x;show h'.get? a=a5 (PySem.W.methodObj (.ref f) (.ref y));exact k a _ (.inl rfl) e
 |ext φ=>obtain⟨p,⟨o,e⟩,st⟩:=x;exact⟨st _ _ p λo q=>k _ _ (.inl rfl) q,⟨o,k _ _ (.inl rfl) e⟩,st⟩
theorem J6.lt(x:J6 P w H h)(e:H a=a5 o):a<h.objs.size:=(x a o e).lt
theorem J6.fresh(x:J6 P w H h)(e:h.objs.size<=a):H a=b6:=by
 cases q:H a with
 |none=>rfl
 |some u=>exact absurd (i2 (x.lt q) e) (uv _)
theorem J6.kept(x:J6 P w H h)(k:∀b u,h.get? b=a5 u->h'.get? b=a5 u):J6 P w H h':=λa o e =>
 (x a o e).fA (λb u _ q=>k b u q) (λ_ q=>q) λ_ _ q=>q
theorem J6.laid(x:J6 P w H h)(k:∀b u,h.get? b=a5 u->h'.get? b=a5 u)(g:h.objs.size<=a)(new:bA P w (upd H a o) h' a o):J6 P w (upd H a o) h':=λb u e=>by
 have d:=x.fresh g;by_cases f:b=a
 ·subst f;rw[ay]at e;cases e;exact new
 ·rw[au f]at e;exact(x b u e).fA (λc v _ q=>k c v q) (λc q=>by rw[au (bz q d)];exact q) λc xs q=>by rw[au (bz q d)];exact q
end
def Rd(H:Hp)(a:fR)(u:HO):Prop:=H a=a5 u\/∃o,H a=a5 (.Kq o u)
theorem Rd.ok(r:Rd H a u)(x:J6 P w H h):bA P w H h a u:=by
 rcases r with r|⟨o,r⟩
 ·exact x a u r
 ·obtain⟨_,q⟩:=x a _ r;exact q
def Pu:Option HO->Prop
 |some (.lst _)=>True
 |some (.dK _)=>True
 |some (.dT _)=>True
 |some (.set _ _)=>True
 |some (.ins _ _ _)=>True
 |some (.ext _)=>True
 |_=>False
section
theorem J6.write(j:J6 P w H h)(mu:Pu (H x))(f:e=x\/H e=a5 (.own x))(k:∀b u,b≠e->h.get? b=a5 u->h'.get? b=a5 u)(l:∃u,h'.get? e=a5 u)
  (new:bA P w (upd H x o') h' x o'):J6 P w (upd H x o') h':=λb u q=>by
 have g:∀c y,H c=a5 (.own y)->c≠x:=λc y r z=>by subst z;rw[r]at mu;exact mu
 have m:∀c xs,H c=a5 (.tup xs)->c≠x:=λc xs r z=>by subst z;rw[r]at mu;exact mu
 by_cases a:b=x
 ·subst a;rw[ay]at q;cases q;exact new
 ·rw[au a]at q;by_cases d:b=e
  ·have i:H b=a5 (.own x):=by
    rcases f with z|z
    ·exact absurd (d.trans z) a
    ·rw[d];exact z
   rw[q]at i;cases i;obtain⟨v,n⟩:=l;exact⟨v,by rw[d];exact n⟩
  ·refine(j b u q).fA (λc v hc r=>k c v ?_ r) (λc r=>by rw[au (g c b r)];exact r) λc xs r=>by rw[au (m c xs r)];exact r
   rcases hc with rfl|hc
   ·exact d
   ·rintro rfl;rcases f with z|z
    ·exact g c b hc z
    ·rw[hc]at z;cases z;exact a rfl
end
structure Un(fs ex:List fR)(H H':Hp)(h h':Jy):Prop where
 keep:∀b o,h.get? b=a5 o->H b=b6->b∉fs->b∉ex->h'.get? b=a5 o
 slot:∀b o,h.get? b=a5 o->H b=b6->b∈fs->b∉ex->∃sl,h'.get? b=a5 {o with slots:=sl}
 free:∀b o,h.get? b=a5 o->H b=b6->b∉ex->H' b=b6
 there:∀b o,h.get? b=a5 o->b∉ex->∃o',h'.get? b=a5 o'
 eX:∀b xs,H b=a5 (.tup xs)->H' b=a5 (.tup xs)
 J_:∀b o u,H b=a5 (.Kq o u)->H' b=a5 (.Kq o u)
 Kj:∀b ps,H b=a5 (.Nu ps)->∃more,H' b=a5 (.Nu (ps++more))
section
theorem Un.any(u:Un e ex H i h f)(q:h.get? b=a5 a)(n:H b=b6)(c:b∉ex):∃g,f.get? b=a5 {a with slots:=g}:=by
 by_cases d:b∈e
 ·exact u.slot b a q n d c
 ·exact⟨a.slots,u.keep b a q n d c⟩
theorem Un.kept(k:∀b u,h.get? b=a5 u->h'.get? b=a5 u):Un c ex H H h h' :=
 ⟨λb a q _ _ _=>k b a q,λb a q _ _ _=>⟨a.slots,k b a q⟩,λ_ _ _ n _=>n,λb a q _=>⟨a,k b a q⟩,λ_ _ q=>q,λ_ _ _ q=>q,λ_ ps q=>⟨#[],by rw[q];simp⟩⟩
theorem Un.refl:Un a ex H H h h:=Un.kept λ_ _ q=>q
theorem Un.laid(k:∀b u,h.get? b=a5 u->h'.get? b=a5 u)(d:h.objs.size<=a)(c:H a=b6):Un e ex H (upd H a o) h h' where
 keep:=λb u q _ _ _=>k b u q
 slot:=λb u q _ _ _=>⟨u.slots,k b u q⟩
 free:=λb u q n _=>by rw[au (hQ (i2 (ez q) d))];exact n
 there:=λb u q _=>⟨u,k b u q⟩
 eX:=λb xs q=>by rw[au (bz q c)];exact q
 J_:=λb u xs q=>by rw[au (bz q c)];exact q
 Kj:=λb ps q=>⟨#[],by rw[au (bz q c),q];simp⟩
theorem Un.write(mu:Pu (H x))(g:e=x\/H e=a5 (.own x))(k:∀b u,b≠e->h.get? b=a5 u->h'.get? b=a5 u)(i:∃u,h'.get? e=a5 u):Un j ex H (upd H x o) h h':=by
 have c:∀b,H b=b6->b≠x:=λb n z=>by subst z;rw[n]at mu;exact mu
 have d:∀b,H b=b6->b≠e:=λb n z=>by
  subst z;rcases g with r|r
  ·exact c b n r
  ·rw[n]at r;cases r
 have a:∀b u,H b=a5 u->¬Pu (a5 u)->b≠x:=λb u q nm z=>by subst z;rw[q]at mu;exact nm mu
 refine⟨λb u q n _ _=>k b u (d b n) q,λb u q n _ _=>⟨u.slots,k b u (d b n) q⟩,λb u q n _=>by rw[au (c b n)];exact n,λb u q _=>?_,
  λb xs q=>by rw[au (a b _ q λz=>z)];exact q,λb u xs q=>by rw[au (a b _ q λz=>z)];exact q,λb ps q=>⟨#[],by rw[au (a b _ q λz=>z),q];simp⟩⟩
 by_cases f:b=e
 ·subst f;exact i
 ·exact⟨u,k b u f q⟩
end
noncomputable def QY(h:Jy)(H:Hp):List fR:=(i0 h.objs.size).filter λa=>(H a).isSome
noncomputable def nV(h:Jy)(H:Hp):Jy:=PySem.W.hideAll h (QY h H)
theorem vV(h:Jy)(H:Hp):(nV h H).objs.size=h.objs.size:=PySem.W.hideAll_size _ _
theorem xG(e:h.get? b=a5 o)(n:H b=b6):(nV h H).get? b=a5 o :=
 PySem.W.hideAll_get _ e λa=>by
  have q:(H b).isSome=b8:=(NX.mp a).2;rw[n]at q;simp at q
theorem AS(e:(nV h H).get? b=a5 o):h.get? b=a5 o/\H b=b6:=by
 have a:h.get? b=a5 o:=PySem.W.of_hideAll (QY h H) e;refine⟨a,?_⟩;cases q:H b with
 |none=>rfl
 |some x =>
  have c:b∈QY h H:=NX.mpr ⟨tA.mpr (ez a),by simp[q]⟩;have z:(nV h H).get? b=b6:=PySem.W.hideAll_none (QY h H) c;rw[z]at e;cases e
structure Mod(K:PySem.W.Frag)(mg:Str->Option d3)(base:Jy):Prop where
 OS:K.In base
 glob:base.Ns qP mg
 blt:∃mb,base.Ns Ą mb/\∀x:Str,x≠"__name__"->mb x=u7 x
 nolimit:base.NoLimit
structure Cx where
 prog:ve
 w:Jq
 K:PySem.W.Frag
 mg:Str->Option d3
 base:Jy
 A:N8
 N:List Str
 s₀:fS
 H₀:Hp
 env:Env
 outer:List Env
 stack:List Env
 ex:List fR
 fn:Str->Bool
 calm:Bool
 pn:List (fR×Obj)
 xe:d3->fS->Prop
noncomputable def JO(l:List Env):List fR:=l.filterMap (·.frame)
noncomputable abbrev Cx.fs(X:Cx):List fR:=JO X.outer
def K8(a:Nb)(x:Str):Prop:=a.names.lookup x=a5 .local\/a.names.lookup x=a5 .cell\/a.names.lookup x=a5 .free
def Loc(a:Nb)(x:Str):Prop:=a.names.lookup x=a5 .local\/a.names.lookup x=a5 .cell
def Look(env:Env)(h:Jy)(m:Str->Option d3)(x:Str)(u:d3):Prop :=
 (env.kindOf x=a5 .local/\m x=a5 u)\/((env.kindOf x=a5 .cell\/env.kindOf x=a5 .free)/\∃c,env.cells.lookup x=a5 c/\h.IsCell c (a5 u))
structure Cx.Ok(X:Cx):Prop where
 mod:Mod X.K X.mg X.base
 kind:X.env.scope.kind=.function
 glob:X.env.globals=qP
 blt:X.env.builtins=Ą
 above:X.s₀.heap.objs.size<=X.env.locals
 inj:∀x y c,X.env.cells.lookup x=a5 c->X.env.cells.lookup y=a5 c->x=y
 has:∀x,(X.env.kindOf x=a5 .cell\/X.env.kindOf x=a5 .free)->∃c,X.env.cells.lookup x=a5 c
 OT:∀x c,X.fn x=b8->X.env.cells.lookup x=a5 c->X.s₀.heap.objs.size<=c
 hd:X.calm=b8->X.A.handled=b6
 frames:X.A.frames=a5 X.stack
 Px:X.stack=X.outer\/(X.stack=X.env::X.outer/\X.env.frame=a5 X.env.locals)
 RV:∀b∈X.ex,b≠X.env.locals/\∀x c,X.env.cells.lookup x=a5 c->c≠b
 bs:∀b o,X.base.get? b=a5 o->X.s₀.heap.get? b=a5 o/\X.H₀ b=b6
 MZ:X.base.objs.size<=X.s₀.heap.objs.size
 L0:∀b o,X.base.get? b=a5 o->b∉X.ex
 Mr:∀b∈X.ex,b∉X.fs
 jI:X.s₀.heap.FunFrames X.base X.outer
 N0:∀b∈X.fs,X.H₀ b=b6
structure Inv(X:Cx)(pins:List (fR×Obj))(σ:List (Option V))(H:Hp)(s:fS):Prop where
 ok:X.Ok
 os:s.os=X.s₀.os
 bare:To s.gens
 base:Un X.fs X.ex X.H₀ H X.s₀.heap s.heap
 loc:∃m,s.heap.Ns X.env.locals m/\∀(i:Nat) (x:Str) (v:V),X.N[i]?=a5 x->σ[i]?=a5 (a5 v)->K8 X.env.scope x->∃u,RelV v u/\Look X.env s.heap m x u
 cell:∀x c,X.env.cells.lookup x=a5 c->∃v,s.heap.IsCell c v
 free:H X.env.locals=b6
 Jx:∀x c,X.env.cells.lookup x=a5 c->H c=b6
 pin:∀p∈X.pn++pins,s.heap.get? p.1=a5 p.2/\H p.1=b6/\p.1≠X.env.locals/\p.1∉X.fs/\∀v,p.2.data≠.cell v
 Ja:J6 X.prog X.w H s.heap
 len:σ.length=X.N.length
section
variable{X:Cx}{pins:List (fR×Obj)}{σ:List (Option V)}{H H':Hp}{s:fS}{h':Jy}
theorem Cx.Ok.Ia(a:X.Ok)(e:X.base.get? b=a5 o):b∉X.fs:=λc=>by
 have:=(a.jI.mem c).1;rw[e]at this;cases this
theorem Inv.bs(I:Inv X pins σ H s):∀b o,X.base.get? b=a5 o->s.heap.get? b=a5 o/\H b=b6:=λb o e =>
 ⟨I.base.keep b o (I.ok.bs b o e).1 (I.ok.bs b o e).2 (I.ok.Ia e) (I.ok.L0 b o e),I.base.free b o (I.ok.bs b o e).1 (I.ok.bs b o e).2 (I.ok.L0 b o e)⟩
theorem Inv.bk(I:Inv X pins σ H s):∀b o,X.base.get? b=a5 o->s.heap.get? b=a5 o:=λb o e=>(I.bs b o e).1
theorem Inv.mod(I:Inv X pins σ H s):Mod X.K X.mg X.base:=I.ok.mod
theorem Inv.Ms(I:Inv X pins σ H s):X.K.In s.heap:=I.ok.mod.OS.keeps I.bk
theorem Inv.lt(I:Inv X pins σ H s):X.env.locals<s.heap.objs.size:=let ⟨_,a,_⟩:=I.loc;a.lt
theorem Inv.sz(I:Inv X pins σ H s):X.s₀.heap.objs.size<=s.heap.objs.size:=H8 I.ok.above (P_ I.lt)
theorem Inv.DN(I:Inv X pins σ H s)(h:s.heap.objs.size<=a):a∉X.fs:=λb=>by
 obtain⟨_,o,ho,_⟩:=I.ok.jI.mem b;exact absurd (i2 (ez ho) (H8 I.sz h)) (uv _)
theorem Inv.Mt(I:Inv X pins σ H s):∀x c,X.env.cells.lookup x=a5 c->c≠X.env.locals:=λx c e z=>by
 obtain⟨v,o,ho,a⟩:=I.cell x c e;obtain⟨m,⟨o',es,ep,b,d,_⟩,_⟩:=I.loc;rw[z,b]at ho;cases ho;rw[d]at a;cases a
theorem Inv.jI(I:Inv X pins σ H s):s.heap.FunFrames X.base X.outer:=by
 have all:∀(l:List Env),(∀b∈JO l,b∈X.fs)->X.s₀.heap.FunFrames X.base l->s.heap.FunFrames X.base l:=by
  intro l;induction l with
  |nil=>intro _ _;trivial
  |cons env r f =>
   intro hs hl;obtain⟨hk,⟨L,o,a,g,ho,h⟩,i⟩:=hl;have c:L∈X.fs:=hs L (by unfold JO;rw[I0,a];exact nc);obtain⟨j,e⟩:=I.base.slot L o ho (I.ok.N0 L c) c λz=>I.ok.Mr L z c;exact⟨hk,⟨L,_,a,g,e,h⟩,f (λb d=>hs b (by unfold JO;rw[I0,a];exact l' _ d)) i⟩
 exact all X.outer (λ_ d=>d) I.ok.jI
theorem Inv.stack(I:Inv X pins σ H s):s.heap.FunFrames X.base X.stack:=by
 rcases I.ok.Px with e|⟨e,a⟩
 ·rw[e];exact I.jI
 ·rw[e];obtain⟨m,b,_⟩:=I.loc;refine .cons (by rw[I.ok.kind];decide) a b ?_ I.jI;exact Heap.get?_none_of_le (H8 I.ok.MZ I.ok.above)
theorem Inv.j7(I:Inv X pins σ H s):∀b∈JO X.stack,b∈X.env.locals::X.fs:=λb a=>by
 rcases I.ok.Px with e|⟨e,c⟩
 ·rw[e]at a;exact l' _ a
 ·rw[e]at a;unfold JO at a;rw[I0,c]at a;exact a
theorem Inv.jQ(I:Inv X pins σ H s):∀b∈JO X.stack,H b=b6:=λb hb=>by
 rcases et.mp (I.j7 b hb) with e|hb
 ·rw[e];exact I.free
 ·obtain⟨_,o,ho,_⟩:=I.ok.jI.mem hb;exact I.base.free b o ho (I.ok.N0 b hb) λz=>I.ok.Mr b z hb
theorem Inv.step{ch:List fR}(I:Inv X pins σ H s)
  (j:∀b∈ch,(b∈X.ex\/X.s₀.heap.objs.size<=b)/\b≠X.env.locals/\(∀x c,X.env.cells.lookup x=a5 c->c≠b)/\∀p∈X.pn++pins,p.1≠b)
  (keep:∀b o,b≠X.env.locals->b∉X.fs->b∉ch->s.heap.get? b=a5 o->H b=b6->h'.get? b=a5 o)
  (slot:∀b o,b≠X.env.locals->b∈X.fs->b∉ch->s.heap.get? b=a5 o->H b=b6->∃B,h'.get? b=a5 {o with slots:=B}) (free:∀b o,b∉ch->s.heap.get? b=a5 o->H b=b6->H' b=b6)
  (there:∀b o,b∉ch->s.heap.get? b=a5 o->∃o',h'.get? b=a5 o')
  (eX:∀b xs,H b=a5 (.tup xs)->H' b=a5 (.tup xs)) (J_:∀b o u,H b=a5 (.Kq o u)->H' b=a5 (.Kq o u)) (Kj:∀b ps,H b=a5 (.Nu ps)->∃more,H' b=a5 (.Nu (ps++more)))
  (ns:∀m,s.heap.Ns X.env.locals m->h'.Ns X.env.locals m) (O:J6 X.prog X.w H' h') (Q:To g') :
  Inv X pins σ H' {s with heap:=h',gens:=g',drawn:=d',toks:=t' }:=by
 have D:∀b o,X.s₀.heap.get? b=a5 o->b≠X.env.locals:=λb o e=>hQ (i2 (ez e) I.ok.above);have A:∀b o,X.s₀.heap.get? b=a5 o->b∉X.ex->b∉ch:=λb o e a h=>by
  rcases(j b h).1 with z|z
  ·exact a z
  ·exact absurd (i2 (ez e) z) (uv _)
 have f:∀x c,X.env.cells.lookup x=a5 c->∀v,s.heap.IsCell c v->h'.IsCell c v:=λx c e v T=>by
  obtain⟨o,ho,C⟩:=T;have t:c∉ch:=λz=>(j c z).2.2.1 x c e rfl;by_cases G:c∈X.fs
  ·obtain⟨B,q⟩:=slot c o (I.Mt x c e) G t ho (I.Jx x c e);exact⟨_,q,C⟩
  ·exact⟨o,keep c o (I.Mt x c e) G t ho (I.Jx x c e),C⟩
 refine⟨I.ok,I.os,Q,⟨λb o e n h a=>?_,λb o e n h a=>?_,λb o e n a=>?_,λb o e a=>?_,λb xs e=>eX b xs (I.base.eX b xs e),λb o xs e=>J_ b o xs (I.base.J_ b o xs e),λb ps e=>?_⟩,?_,λx c e=>?_,?_,λx c e=>?_,λp J=>?_,O,I.len⟩
 ·exact keep b o (D b o e) h (A b o e a) (I.base.keep b o e n h a) (I.base.free b o e n a)
 ·obtain⟨B,g⟩:=I.base.slot b o e n h a;obtain⟨Y,y⟩:=slot b _ (D b o e) h (A b o e a) g (I.base.free b o e n a);exact⟨Y,y⟩
 ·obtain⟨o',g⟩:=I.base.there b o e a;exact free b o' (A b o e a) g (I.base.free b o e n a)
 ·obtain⟨o',g⟩:=I.base.there b o e a;exact there b o' (A b o e a) g
 ·obtain⟨m1,g⟩:=I.base.Kj b ps e;obtain⟨m2,y⟩:=Kj b _ g;exact⟨m1++m2,by rw[y,ZW]⟩
 ·obtain⟨m,hn,hl⟩:=I.loc;refine⟨m,ns m hn,λi x v g y e3=>?_⟩;obtain⟨u,r,l⟩:=hl i x v g y e3;refine⟨u,r,?_⟩;rcases l with l|⟨k,c,e,z⟩
  ·exact .inl l
  ·exact .inr ⟨k,c,e,f x c e _ z⟩
 ·obtain⟨v,z⟩:=I.cell x c e;exact⟨v,f x c e v z⟩
 ·obtain⟨m,⟨o,_,_,ho,_⟩,_⟩:=I.loc;exact free _ o (λz=>(j _ z).2.1 rfl) ho I.free
 ·obtain⟨v,o,ho,C⟩:=I.cell x c e;exact free c o (λz=>(j c z).2.2.1 x c e rfl) ho (I.Jx x c e)
 ·obtain⟨e,n,L,N,d⟩:=I.pin p J;have t:p.1∉ch:=λz=>(j p.1 z).2.2.2 p J rfl;exact⟨keep p.1 p.2 L N t e n,free p.1 p.2 t e n,L,N,d⟩
theorem Inv.un(I:Inv X pins σ H s)(u:Un X.fs [] H H' s.heap h')(d:J6 X.prog X.w H' h'):Inv X pins σ H' {s with heap:=h',toks:=t' }:=by
 obtain⟨m,⟨o,es,ep,ho,r⟩,_⟩:=id I.loc;obtain⟨k,f⟩:=u.any ho I.free (by simp);exact I.step (g':=s.gens) (d':=s.drawn) (ch:=[]) (λ_ z=>nomatch z) (λb o _ a _ e n=>u.keep b o e n a (by simp)) (λb o _ a _ e n=>u.slot b o e n a (by simp)) (λb o _ e n=>u.free b o e n (by simp)) (λb o _ e=>u.there b o e (by simp)) u.eX u.J_ u.Kj (λl g=>by
  obtain⟨o',h,i,c,j⟩:=g;rw[ho]at c;cases c;exact⟨_,h,i,f,j⟩) d I.bare
theorem Inv.call(I:Inv X pins σ H s)(u:Un (JO X.stack) ch H H' s.heap h')(h:J6 X.prog X.w H' h')(i:To g')
  (f:∀b∈ch,(b∈X.ex\/X.s₀.heap.objs.size<=b)/\b≠X.env.locals/\(∀x c,X.env.cells.lookup x=a5 c->c≠b)/\∀p∈X.pn++pins,p.1≠b) :
  Inv X pins σ H' {s with heap:=h',gens:=g',drawn:=d',toks:=t' }:=by
 obtain⟨m,⟨o,es,ep,ho,r⟩,_⟩:=id I.loc;obtain⟨v,d⟩:=u.any ho I.free λz=>(f _ z).2.1 rfl;exact I.step (ch:=ch) f (λb o d j a e n=>u.keep b o e n (λz=>(et.mp (I.j7 b z)).elim d j) a) (λb o _ _ a e n=>u.any e n a) (λb o a e n=>u.free b o e n a) (λb o a e=>u.there b o e a) u.eX u.J_ u.Kj (λy k=>by
  obtain⟨o',l,q,g,t⟩:=k;rw[ho]at g;cases g;exact⟨_,l,q,d,t⟩) h i
theorem Inv.turned(I:Inv X pins σ H s)(k:∀b o,b≠it->s.heap.get? b=a5 o->h'.get? b=a5 o)(g:H it=b6)(d:it≠X.env.locals)
  (h:it∈X.ex\/X.s₀.heap.objs.size<=it) (i:∀x c,X.env.cells.lookup x=a5 c->c≠it) (j:∀p∈X.pn++pins,p.1≠it):Inv X pins σ H {s with heap:=h',toks:=t' }:=by
 have f:∀b u,H b=a5 u->b≠it:=λb u e z=>by rw[z,g]at e;cases e
 refine I.step (g':=s.gens) (d':=s.drawn) (ch:=[it]) (λb l=>?_) (λb o _ _ a e _=>k b o (λz=>a (by simp[z])) e) (λb o _ _ a e _=>⟨o.slots,k b o (λz=>a (by simp[z])) e⟩) (λ_ _ _ _ n=>n)
  (λb o a e=>⟨o,k b o (λz=>a (by simp[z])) e⟩) (λ_ _ e=>e) (λ_ _ _ e=>e) (λb ps e=>⟨#[],by rw[e];simp⟩) (λm t=>?_) (λb u e=>?_) I.bare
 ·have e:b=it:=by simpa using l
  subst e;exact⟨h,d,i,j⟩
 ·obtain⟨o,es,ep,ho,r⟩:=t;exact⟨o,es,ep,k _ o (ro d) ho,r⟩
 ·refine(I.Ja b u e).fA (λc v a q=>k c v ?_ q) (λ_ q=>q) λ_ _ q=>q;rcases a with z|z
  ·rw[z];exact f b u e
  ·exact f c _ z
theorem Inv.tok(I:Inv X pins σ H s)(t:Nat):Inv X pins σ H {s with toks:=t}:=I.un (h':=s.heap) (t':=t) Un.refl I.Ja
theorem Inv.kept(I:Inv X pins σ H s)(k:∀b u,s.heap.get? b=a5 u->h'.get? b=a5 u):Inv X pins σ H {s with heap:=h',toks:=t' }:=I.un (Un.kept k) (I.Ja.kept k)
theorem Inv.laid(I:Inv X pins σ H s)(k:∀b u,s.heap.get? b=a5 u->h'.get? b=a5 u)(c:s.heap.objs.size<=a)(new:bA X.prog X.w (upd H a o) h' a o):
  Inv X pins σ (upd H a o) {s with heap:=h',toks:=t' }:=I.un (Un.laid k c (I.Ja.fresh c)) (I.Ja.laid k c new)
theorem Inv.write(I:Inv X pins σ H s)(mu:Pu (H x))(a:e=x\/H e=a5 (.own x))(k:∀b u,b≠e->s.heap.get? b=a5 u->h'.get? b=a5 u)(c:∃u,h'.get? e=a5 u)
  (new:bA X.prog X.w (upd H x o) h' x o):Inv X pins σ (upd H x o) {s with heap:=h',toks:=t' }:=I.un (Un.write mu a k c) (I.Ja.write mu a k c new)
theorem Inv.weak(I:Inv X pins σ H s)(hl:a.length=σ.length)(w:∀(i:Nat) v,a[i]?=a5 (a5 v)->σ[i]?=a5 (a5 v)):Inv X pins a H s :=
 ⟨I.ok,I.os,I.bare,I.base,let ⟨m,b,c⟩:=I.loc;⟨m,b,λi x v d e f=>c i x v d (w i v e) f⟩,I.cell,I.free,I.Jx,I.pin,I.Ja,hl.trans I.len⟩
theorem Inv.dS(I:Inv X pins σ H s)(h:∀p∈a,s.heap.get? p.1=a5 p.2/\H p.1=b6/\p.1≠X.env.locals/\p.1∉X.fs/\∀v,p.2.data≠.cell v):Inv X a σ H s :=
 ⟨I.ok,I.os,I.bare,I.base,I.loc,I.cell,I.free,I.Jx,λp b=>(kj.mp b).elim (λz=>I.pin p (QK _ z)) (h p),I.Ja,I.len⟩
theorem gV{N:List Str}(c:N.Nodup){i j:Nat}(a:N[i]?=a5 x)(b:N[j]?=a5 x):i=j:=by
 obtain⟨f,d⟩:=dV.mp a;obtain⟨g,e⟩:=dV.mp b;exact(VG c).mp (d.trans e.symm)
theorem l_(I:Inv X pins σ H s)(hN:X.N.Nodup)(hi:X.N[i]?=a5 x)(l:Loc X.env.scope x)(r:RelV v u)
  (h:∀s',Inv X pins (σ.set i (a5 v)) H s'->(∃a,o3 a s.heap s'.heap/\(a=X.env.locals\/X.env.cells.lookup x=a5 a))->Q () s') (hf:X.fn x=b8\/X.env.scope.names.lookup x=a5 .local:=by first|exact .inl rfl|exact .inr rfl|assumption):d4 M A (ĥ X.env x u) Q E s:=by
 obtain⟨m,L,hl⟩:=id I.loc;have N1:(X.env.scope.kind==.class||(X.env.scope.kind==.module&&X.env.locals != X.env.globals))=cc:=by rw[I.ok.kind];rfl
 have U2:i < σ.length:=by rw[I.len];exact(dV.mp hi).1
 have O:=I.Mt;have f:∀{a:fR} {h':Jy},(∃o,s.heap.get? a=a5 o/\H a=b6)->o3 a s.heap h'->J6 X.prog X.w H h':=λ{a h'} ha hs b ob e=>by
  obtain⟨_,_,JV⟩:=ha;refine(I.Ja b ob e).fA (λc D hc q=>(hs.2 c ?_).trans q) (λ_ q=>q) λ_ _ q=>q;rintro rfl;rcases hc with rfl|hc
  ·rw[JV]at e;cases e
  ·rw[JV]at hc;cases hc
 rcases l with hk|hk
 ·refine wpAny_storeName_local hk L (λh' OV hs=>?_) N1;obtain⟨oL,_,_,L3,_⟩:=id L;refine h _ ⟨I.ok,I.os,I.bare,⟨λb o e n B l=>?_,λb o e n B l=>?_,I.base.free,λb o e l=>?_,I.base.eX,I.base.J_,I.base.Kj⟩,⟨_,OV,λj y T g t Y=>?_⟩,λy c e=>?_,I.free,I.Jx,λp hp=>?_,f ⟨oL,L3,I.free⟩ hs,by simpa using I.len⟩ ⟨_,hs,.inl rfl⟩
  ·exact(hs.2 b (hQ (i2 (ez e) I.ok.above))).trans (I.base.keep b o e n B l)
  ·obtain⟨sl,g⟩:=I.base.slot b o e n B l;exact⟨sl,(hs.2 b (hQ (i2 (ez e) I.ok.above))).trans g⟩
  ·obtain⟨o',g⟩:=I.base.there b o e l;exact⟨o',(hs.2 b (hQ (i2 (ez e) I.ok.above))).trans g⟩
  ·by_cases C:j=i
   ·subst C;rw[hi]at g;cases g;rw[gj U2]at t;cases t;exact⟨u,r,.inl ⟨hk,by simp⟩⟩
   ·rw[i1 (ro C)]at t;obtain⟨u',r',q⟩:=hl j y T g t Y;refine⟨u',r',?_⟩;rcases q with⟨k,e⟩|⟨k,c,e,z⟩
    ·refine .inl ⟨k,?_⟩;have:y≠x:=λe=>C (gV hN g (e▸hi));simp[this,e]
    ·exact .inr ⟨k,c,e,z.sameBut hs (O y c e)⟩
  ·obtain⟨D,z⟩:=I.cell y c e;exact⟨D,z.sameBut hs (O y c e)⟩
  ·obtain⟨e,n,G,nf,d⟩:=I.pin p hp;exact⟨(hs.2 p.1 G).trans e,n,G,nf,d⟩
 ·have Lu:X.fn x=b8:=by
   rcases hf with z|z
   ·exact z
   ·rw[z]at hk;cases hk
  obtain⟨c,hc⟩:=I.ok.has x (.inl hk);obtain⟨D,z⟩:=I.cell x c hc;refine wpAny_storeName_cell I.ok.kind hk hc z (λh' OW hs=>?_);obtain⟨oc,U3,RW⟩:=id z;refine h {s with heap:=h' } ⟨I.ok,I.os,I.bare,⟨λb o e n B l=>?_,λb o e n B l=>?_,I.base.free,λb o e l=>?_,I.base.eX,I.base.J_,I.base.Kj⟩,⟨m,L.sameBut hs (ro (O x c hc)),λj y T g t Y=>?_⟩,λy J e=>?_,I.free,I.Jx,λp hp=>?_,f ⟨oc,U3,I.Jx x c hc⟩ hs,by simpa using I.len⟩ ⟨c,hs,.inr hc⟩
  ·exact(hs.2 b (hQ (i2 (ez e) (I.ok.OT x c Lu hc)))).trans (I.base.keep b o e n B l)
  ·obtain⟨sl,g⟩:=I.base.slot b o e n B l;exact⟨sl,(hs.2 b (hQ (i2 (ez e) (I.ok.OT x c Lu hc)))).trans g⟩
  ·obtain⟨o',g⟩:=I.base.there b o e l;exact⟨o',(hs.2 b (hQ (i2 (ez e) (I.ok.OT x c Lu hc)))).trans g⟩
  ·by_cases C:j=i
   ·subst C;rw[hi]at g;cases g;rw[gj U2]at t;cases t;exact⟨u,r,.inr ⟨.inl hk,c,hc,OW⟩⟩
   ·rw[i1 (ro C)]at t;obtain⟨u',r',q⟩:=hl j y T g t Y;refine⟨u',r',?_⟩;rcases q with q|⟨k,J,e,z'⟩
    ·exact .inl q
    ·refine .inr ⟨k,J,e,z'.sameBut hs ?_⟩;rintro rfl;exact C (gV hN g (I.ok.inj _ _ _ e hc▸hi))
  ·by_cases U4:J=c
   ·subst U4;exact⟨_,OW⟩
   ·obtain⟨w2,z2⟩:=I.cell y J e;exact⟨w2,z2.sameBut hs U4⟩
  ·obtain⟨e,n,G,nf,d⟩:=I.pin p hp;refine⟨(hs.2 p.1 ?_).trans e,n,G,nf,d⟩;intro q;rw[q,U3]at e;have q':oc=p.2:=vl e;exact d D (by rw[<-q'];exact RW)
theorem gW(I:Inv X pins σ H s)(a:X.N.Nodup)(hi:X.N[i]?=a5 x)(b:Loc X.env.scope x)(r:RelV v u)
  (h:∀s',Inv X pins (σ.set i (a5 v)) H s'->Q () s') (c:X.fn x=b8\/X.env.scope.names.lookup x=a5 .local:=by first|exact .inl rfl|exact .inr rfl|assumption):d4 M A (ĥ X.env x u) Q E s :=
 l_ I a hi b r (λs' d _=>h s' d) c
theorem Inv.Dc(I:Inv X pins σ H s)(ho:s'.os=s.os)(u:Un (JO X.stack) ch H H' s.heap s'.heap)(a:J6 X.prog X.w H' s'.heap)(d:To s'.gens)
  (f:∀b∈ch,(b∈X.ex\/X.s₀.heap.objs.size<=b)/\b≠X.env.locals/\(∀x c,X.env.cells.lookup x=a5 c->c≠b)/\∀p∈X.pn++pins,p.1≠b):Inv X pins σ H' s':=by
 obtain⟨h',g',d',t',o'⟩:=s';have e:o'=s.os:=ho;subst e;exact I.call (g':=g') (t':=t') (d':=d') u a d f
end
abbrev XK:=d3->Option fR->Hp->Prop
abbrev St:=List (Option V)
abbrev VK:=V->Hp->Prop
abbrev TE:=St->Hp->VK->Prop
abbrev TT:=St->Hp->(Bool->Hp->Prop)->Prop
abbrev TA:=St->Hp->(List V->Hp->Prop)->Prop
structure Ends where
 nx:St->Hp->Prop
 rt:VK
 bk:St->Hp->Prop:=λ_ _=>False
 ct:St->Hp->Prop:=λ_ _=>False
abbrev TS:=Ends->St->Hp->Prop
def EP(X:Cx)(pins:List (fR×Obj))(σ:St)(Q:VK)(u:d3)(s':fS):Prop:=∃v H',Inv X pins σ H' s'/\RelV v u/\Q v H'
def TP(X:Cx)(pins:List (fR×Obj))(σ:St)(Q:Bool->Hp->Prop)(b:Bool)(s':fS):Prop:=∃H',Inv X pins σ H' s'/\Q b H'
def AP(X:Cx)(pins:List (fR×Obj))(σ:St)(Q:List V->Hp->Prop)(us:List d3)(s':fS):Prop:=∃vs H',Inv X pins σ H' s'/\Vals vs us/\Q vs H'
def SP(X:Cx)(pins:List (fR×Obj))(D:Ends)(f:Flow)(s':fS):Prop :=
 match f with
 |.next=>∃a H',Inv X pins a H' s'/\D.nx a H'
 |.brk=>∃a H',Inv X pins a H' s'/\D.bk a H'
 |.cont=>∃a H',Inv X pins a H' s'/\D.ct a H'
 |.ret u=>∃v a H',Inv X pins a H' s'/\RelV v u/\D.rt v H'
def PE(X:Cx)(e:mx)(t:TE):Prop :=
 ∀(pins:List (fR×Obj)) (s:fS) (σ:St) (H:Hp) (Q:VK),Inv X pins σ H s->t σ H Q->d4 (gs X.prog X.w) X.A (wk e X.env) (EP X pins σ Q) X.xe s
def PT(X:Cx)(e:mx)(t:TT):Prop :=
 ∀(pins:List (fR×Obj)) (s:fS) (σ:St) (H:Hp) (Q:Bool->Hp->Prop),Inv X pins σ H s->t σ H Q->d4 (gs X.prog X.w) X.A (isTrue e X.env (wk e X.env)) (TP X pins σ Q) X.xe s
def PW(X:Cx)(e:mx)(t:TT):Prop :=
 ∀(a:Sem d3) (pins:List (fR×Obj)) (s:fS) (σ:St) (H:Hp) (Q:Bool->Hp->Prop),Inv X pins σ H s->t σ H Q->d4 (gs X.prog X.w) X.A (isTrue e X.env a) (TP X pins σ Q) X.xe s
theorem PW.pt(h:PW X e t):PT X e t:=h _
def PA(X:Cx)(es:List mx)(t:TA):Prop :=
 ∀(pos:Pos) (pins:List (fR×Obj)) (s:fS) (σ:St) (H:Hp) (Q:List V->Hp->Prop),Inv X pins σ H s->t σ H Q->d4 (gs X.prog X.w) X.A (ē (JL pos (i3 es X.env))) (AP X pins σ Q) X.xe s
def PS(X:Cx)(st:M3)(t:TS):Prop :=
 ∀(pins:List (fR×Obj)) (s:fS) (σ:St) (H:Hp) (D:Ends),Inv X pins σ H s->t D σ H->d4 (gs X.prog X.w) X.A (exec st X.env) (SP X pins D) X.xe s
def Kf(X:Cx)(st:List M3)(t:TS):Prop :=
 ∀(pins:List (fR×Obj)) (s:fS) (σ:St) (H:Hp) (D:Ends),Inv X pins σ H s->t D σ H->d4 (gs X.prog X.w) X.A (execs st X.env) (SP X pins D) X.xe s
theorem Jf(h:d4 M A t Q E s)(b:∀a s,Q a s->Q' a s):d4 M A t Q' E s:=qb h b λ_ _ x=>x
section
def Ib(i:Nat):TE:=λσ H Q=>∃v,σ[i]?=a5 (a5 v)/\Q v H
def tC(v:V):TE:=λ_ H Q=>Q v H
theorem cz(g:X.N[i]?=a5 x)(j:K8 X.env.scope x)(b:(x==("__debug__":Str))=cc:=by decide)(k:(x==("__classdict__":Str))=cc:=by decide):PE X (.Name x pos) (Ib i):=by
 intro pins s σ H Q I h;obtain⟨v,e,h⟩:=h;obtain⟨m,n,hl⟩:=I.loc;obtain⟨u,r,l⟩:=hl i x v g e j;have a:EP X pins σ Q u s:=⟨v,H,I,r,h⟩
 rcases l with⟨hk,o⟩|⟨hk,c,d,f⟩
 ·exact Ā (wpAny_loadName_local I.ok.kind hk n o a) b
 ·rcases hk with hk|hk
  ·exact Ā (wpAny_loadName_cell I.ok.kind hk d f a) b
  ·exact Ā (wpAny_loadName_free I.ok.kind hk d f a k) b
theorem xH:PE X (.Constant (.int i) j pos) (tC (.int i)):=λ_ _ _ H _ I h=>wpAny_Constant_int ⟨.int i,H,I.tok _,⟨_,rfl⟩,h⟩
theorem Dd:PE X (.Constant (.bool b) j pos) (tC (.bl b)):=λ_ _ _ H _ I h=>Constant_bool ⟨.bl b,H,I,rfl,h⟩
theorem xI:PE X (.Constant .none j pos) (tC .Jc):=λ_ _ _ H _ I h=>Constant_none ⟨.Jc,H,I,rfl,h⟩
theorem nW:PE X (.Constant (.str x) j pos) (tC (.str x)):=λ_ _ _ H _ I h=>Calls.Constant_str ⟨.str x,H,I.tok _,⟨_,rfl⟩,h⟩
def Gl(X:Cx)(x:Str):Prop:=X.env.kindOf x=a5 .globalImplicit
theorem eR(I:Inv X pins σ H s)(a:Gl X x)(b:X.mg x=a5 u)(h:Q u s)
  (c:(x==("__debug__":Str))=cc:=by decide):d4 (gs X.prog X.w) X.A (wk (.Name x pos) X.env) Q E s :=
 WJ I.ok.kind a (Calls.loadGlobal_global (by rw[I.ok.glob];exact I.mod.glob.keeps I.bk) b h) c
theorem c9(I:Inv X pins σ H s)(a:Gl X x)(b:X.mg x=b6)(c:u7 x=a5 u)(h:Q u s)
  (d:x≠"__name__":=by decide) (e:(x==("__debug__":Str))=cc:=by decide):d4 (gs X.prog X.w) X.A (wk (.Name x pos) X.env) Q E s:=by
 obtain⟨i,f,g⟩:=I.mod.blt;exact WJ I.ok.kind a (Calls.loadGlobal_builtin (by rw[I.ok.glob];exact I.mod.glob.keeps I.bk) b (by rw[I.ok.blt];exact f.keeps I.bk) ((g x d).trans c) h) e
theorem AU(a:Gl X x)(b:X.mg x=a5 u)(r:RelV v u)(c:(x==("__debug__":Str))=cc:=by decide):PE X (.Name x pos) (tC v) :=
 λ_ _ _ H _ I h=>eR I a b ⟨v,H,I,r,h⟩ c
theorem AV(a:Gl X x)(b:X.mg x=b6)(c:u7 x=a5 u)(r:RelV v u)(d:x≠"__name__":=by decide)(e:(x==("__debug__":Str))=cc:=by decide):PE X (.Name x pos) (tC v) :=
 λ_ _ _ H _ I h=>c9 I a b c ⟨v,H,I,r,h⟩ d e
def PC(X:Cx)(c:Ğ)(a b:mx)(t:TE):Prop :=
 ∀(pins:List (fR×Obj)) (s:fS) (σ:St) (H:Hp) (Q:VK),Inv X pins σ H s->t σ H Q ->
  d4 (gs X.prog X.w) X.A (wk a X.env) (λv d=>d4 (gs X.prog X.w) X.A (wk b X.env) (λu e=>d4 (gs X.prog X.w) X.A (LZ c v u) (EP X pins σ Q) X.xe e) X.xe d) X.xe s
def tB(t:TE):TT:=λσ H Q=>t σ H λx a=>∃c,x=.bl c/\Q c a
theorem xJ(h:PC X f a b t)(e:Rq f b=cc:=by first|exact n _ (by decide) (by decide)|rfl):PT X (.Compare a [f] [b] pos) (tB t):=by
 intro pins s σ H Q I g;refine Ø (Jf (h pins s σ H _ I g) λv s1 e=>Jf e λu s2 i=>Jf i λc s3 ⟨x,j,k,l,m⟩=>?_) e;obtain⟨d,rfl,q⟩:=m;cases l;exact Jz ⟨j,k,q⟩
def Ic(t u:TT):TT:=λσ H Q=>t σ H λc a=>if c=b8 then u σ a Q else Q cc a
def Wq(t u:TT):TT:=λσ H Q=>t σ H λc a=>if c=b8 then Q b8 a else u σ a Q
def Ie(t:TT):TT:=λσ H Q=>t σ H λc a=>Q (!c) a
theorem AW(b:PT X a d):PW X (.BoolOp .And [a] pos) d:=by
 intro f pins s σ H Q I h;refine isTrue_and (Jf (b pins s σ H Q I h) λc s1 e=>?_);cases c with
 |true=>exact Ō e
 |false=>exact e
theorem DO(b:PT X a d):PW X (.BoolOp .Or [a] pos) d:=by
 intro f pins s σ H Q I h;refine isTrue_or (Jf (b pins s σ H Q I h) λc s1 e=>?_);cases c with
 |false=>exact isTrue_or_nil e
 |true=>exact e
theorem DP(g:PT X a i)(j:PW X (.BoolOp .And (b::rest) pos) k):PW X (.BoolOp .And (a::b::rest) pos) (Ic i k):=by
 intro l pins s σ H Q I h;refine isTrue_and (Jf (g pins s σ H _ I h) λc s1 m=>?_);obtain⟨d,e,f⟩:=m;cases c with
 |true=>exact j l pins s1 σ d Q e f
 |false=>exact⟨d,e,f⟩
theorem Gi(g:PT X a i)(j:PW X (.BoolOp .Or (b::rest) pos) k):PW X (.BoolOp .Or (a::b::rest) pos) (Wq i k):=by
 intro l pins s σ H Q I h;refine isTrue_or (Jf (g pins s σ H _ I h) λc s1 m=>?_);obtain⟨d,e,f⟩:=m;cases c with
 |true=>exact⟨d,e,f⟩
 |false=>exact j l pins s1 σ d Q e f
theorem DQ(b:PT X a d):PT X (.UnaryOp .Not a pos) (Ie d):=by
 intro pins s σ H Q I h;exact isTrue_not (b pins s σ H (λc e=>Q (!c) e) I h)
def Gj(b d:TE):TE:=λσ H Q=>b σ H λx a=>∃c,x=.bl c/\if c=b8 then d σ a Q else Q (.bl cc) a
def Gk(a:TE):TE:=λσ H Q=>a σ H λx b=>∃c,x=.bl c/\Q (.bl (!c)) b
theorem DR(h:PE X a t):PE X (.BoolOp c [a] pos) t:=λpins s σ H Q I b=>BoolOp_one (h pins s σ H Q I b)
theorem DS(g:PE X a i)(j:PE X (.BoolOp .And (b::rest) pos) k):PE X (.BoolOp .And (a::b::rest) pos) (Gj i k):=by
 intro pins s σ H Q I h;refine BoolOp_and (Jf (g pins s σ H _ I h) λv s1 l=>?_);obtain⟨x,e,f,m,d⟩:=l;obtain⟨c,rfl,d⟩:=d;cases m;refine Jz ?_;cases c with
 |true=>exact j pins s1 σ e Q f d
 |false=>exact⟨.bl cc,e,f,rfl,d⟩
theorem DT(d:PE X a e):PE X (.UnaryOp .Not a pos) (Gk e):=by
 intro pins s σ H Q I h;refine UnaryOp_ (Jf (d pins s σ H _ I h) λv s1 f=>?_);obtain⟨x,g,i,j,b⟩:=f;obtain⟨c,rfl,b⟩:=b;cases j;exact not_of (Jz ⟨.bl (!c),g,i,rfl,b⟩)
def Wv(t:TT)(b d:TE):TE:=λσ H Q=>t σ H λc a=>if c=b8 then b σ a Q else d σ a Q
theorem xK(i:PT X c j)(k:PE X a l)(m:PE X b n):PE X (.IfExp c a b pos) (Wv j l n):=by
 intro pins s σ H Q I h;refine wpAny_IfExp (Jf (i pins s σ H _ I h) λd s1 o=>?_);obtain⟨e,f,g⟩:=o;cases d with
 |true=>exact k pins s1 σ e Q f g
 |false=>exact m pins s1 σ e Q f g
end
def JA(K:PySem.W.Frag)(H:Hp)(a:fR)(xs:List V):Prop :=
 Rd H a (.lst xs) \/
  ∃(o:Obj) (its:Array d3) (n:Nat),K.lookup a=a5 o/\o.cls=.type "list"/\o.dict=b6/\o.data=.seq its n/\its.size<=cL/\Vals xs its.toList
def JH(K:PySem.W.Frag)(H:Hp)(a:fR)(xs:List V):Prop :=
 Rd H a (.tup xs) \/
  ∃(o:Obj) (its:Array d3) (n:Nat),K.lookup a=a5 o/\o.cls=.type "tuple"/\o.data=.seq its n/\its.size<=cL/\Vals xs its.toList
noncomputable def Ig:d3->Option V
 |.none=>a5 .Jc
 |.bool b=>a5 (.bl b)
 |.int i _=>a5 (.int i)
 |.str x _=>a5 (.str x)
 |.bytes b _=>a5 (.QV b)
 |.float b _=>a5 (.QW b)
 |.ref a=>a5 (.ref a)
 |.type n=>a5 (.ty n)
 |_=>b6
theorem RelV.abs(r:RelV x u):Ig u=a5 x:=by
 cases x with
 |Jc=>cases r;rfl
 |bl _=>cases r;rfl
 |ref _=>cases r;rfl
 |ty _=>cases r;rfl
 |_=>obtain⟨t,rfl⟩:=r;rfl
theorem RelV.inj(r:RelV x u)(q:RelV y u):x=y:=vl (r.abs.symm.trans q.abs)
theorem Vals.inj:∀{xs a:List V}{us:List d3},Vals xs us->Vals a us->xs=a
 |_,_,_,.nil,.nil=>rfl
 |_,_,_,.cons r t,.cons b t'=>by rw[r.inj b,Vals.inj t t']
section
theorem JA.of{K:PySem.W.Frag}(h:H a=a5 (.lst xs)):JA K H a xs:=.inl (.inl h)
theorem JH.of{K:PySem.W.Frag}(h:H a=a5 (.tup xs)):JH K H a xs:=.inl (.inl h)
theorem Inv.list(I:Inv X pins σ H s)(h:JA X.K H a xs):∃its:List d3,Vals xs its/\PlainL s.heap a its.toArray/\xs.length<=cL:=by
 rcases h with h|⟨o,its,n,hk,b,c,hs,hz,r⟩
 ·obtain⟨z,its,n,r,e⟩:=h.ok I.Ja;exact⟨its,r,⟨_,n,e,rfl,rfl,rfl⟩,z⟩
 ·refine⟨its.toList,r,⟨o,n,I.Ms a o hk,b,c,by simpa using hs⟩,?_⟩;have e:=r.length;simp only[hW]at e;lia
theorem Inv.tuple(I:Inv X pins σ H s)(h:JH X.K H a xs):∃its:List d3,Vals xs its/\ō s.heap a its.toArray/\xs.length<=cL:=by
 rcases h with h|⟨o,its,n,hk,b,hs,hz,r⟩
 ·obtain⟨z,its,r,p⟩:=h.ok I.Ja;exact⟨its,r,p,z⟩
 ·refine⟨its.toList,r,⟨o,I.Ms a o hk,b,n,by simpa using hs⟩,?_⟩;have e:=r.length;simp only[hW]at e;lia
theorem Inv.pO(I:Inv X pins σ H s)(h:JA X.K H a xs)(h':JA X.K H a c):xs=c:=by
 obtain⟨its,r,⟨o,n,e,_,_,d⟩,_⟩:=I.list h;obtain⟨its',f,⟨o',i,b,_,_,d'⟩,_⟩:=I.list h';rw[e]at b;cases b;rw[d]at d';injection d' with g _
 have:its=its':=by simpa using Ŕ Ye g
 subst this;exact r.inj f
theorem Inv.mj(I:Inv X pins σ H s)(h:JH X.K H a xs)(h':JH X.K H a c):xs=c:=by
 obtain⟨its,r,⟨o,e,_,n,d⟩,_⟩:=I.tuple h;obtain⟨its',f,⟨o',b,_,i,d'⟩,_⟩:=I.tuple h';rw[e]at b;cases b;rw[d]at d';injection d' with g _
 have:its=its':=by simpa using Ŕ Ye g
 subst this;exact r.inj f
end
abbrev Cx.j8(X:Cx)(E:d3->fS->Prop):Cx:={X with xe:=E}
abbrev Cx.M1(X:Cx):Cx:=X.j8 λ_ _=>False
theorem Cx.Ok.j8{X:Cx}(a:X.Ok)(E:d3->fS->Prop):(X.j8 E).Ok :=
 ⟨a.mod,a.kind,a.glob,a.blt,a.above,a.inj,a.has,a.OT,a.hd,a.frames,a.Px,a.RV,a.bs,a.MZ,a.L0,a.Mr,a.jI,a.N0⟩
theorem Cx.Ok.gG{X:Cx}(a:(X.j8 E).Ok):X.Ok :=
 ⟨a.mod,a.kind,a.glob,a.blt,a.above,a.inj,a.has,a.OT,a.hd,a.frames,a.Px,a.RV,a.bs,a.MZ,a.L0,a.Mr,a.jI,a.N0⟩
section
theorem Inv.j8(I:Inv X pins σ H s)(E:d3->fS->Prop):Inv (X.j8 E) pins σ H s:=⟨I.ok.j8 E,I.os,I.bare,I.base,I.loc,I.cell,I.free,I.Jx,I.pin,I.Ja,I.len⟩
theorem Inv.gG(I:Inv (X.j8 E) pins σ H s):Inv X pins σ H s:=⟨I.ok.gG,I.os,I.bare,I.base,I.loc,I.cell,I.free,I.Jx,I.pin,I.Ja,I.len⟩
theorem SP.gG(h:SP (X.j8 E) pins D f s'):SP X pins D f s':=by
 cases f with
 |ret u=>obtain⟨v,a,H',I,r,q⟩:=h;exact⟨v,a,H',I.gG,r,q⟩
 |_=>obtain⟨a,H',I,q⟩:=h;exact⟨a,H',I.gG,q⟩
theorem Kf.M1{st:List M3}(h:Kf X.M1 st t):Kf X st t:=λpins s σ H D I a =>
 qb (h pins s σ H D (I.j8 _) a) (λ_ _ q=>q.gG) λ_ _ z=>Nv z
end
section
variable{X:Cx}{st:M3}{rest:List M3}{t u:TS}{e:mx}{te:TE}{pos:Pos}
def Gm:TS:=λD σ H=>D.nx σ H
def Ih(t u:TS):TS:=λD σ H=>t {D with nx:=u D} σ H
theorem t7:Kf X [] Gm:=λ_ _ σ H _ I h=>R5 ⟨σ,H,I,h⟩
theorem pP(a:PS X st t)(b:Kf X rest u):Kf X (st::rest) (Ih t u):=by
 intro pins s σ H D I h;refine ģ (Jf (a pins s σ H {D with nx:=u D} I h) λf s1 q=>?_);cases f with
 |next =>
  obtain⟨c,H',d,q⟩:=q;exact b pins s1 c H' D d q
 |_=>exact q
theorem Inv.quiet(I:Inv X pins σ H s):interactive X.env=cc:=by simp[interactive,I.ok.kind]
def Gn(te:TE):TS:=λD σ H=>te σ H λ_ a=>D.nx σ a
theorem jR(a:PE X e te)(hs:QU e b6 pos.line X.env=pure cc:=by rfl):PS X (.Expr e pos) (Gn te):=by
 intro pins s σ H D I h;exact wpAny_Expr_any (Jf (a pins s σ H _ I h) λv s1 ⟨x,b,c,f,d⟩=>⟨σ,b,c,d⟩) I.quiet hs
def Ii(te:TE):TS:=λD σ H=>te σ H D.rt
theorem DU(a:PE X e te):PS X (.Return (a5 e) pos) (Ii te):=by
 intro pins s σ H D I h;exact wpAny_Return_some (Jf (a pins s σ H _ I h) λv s1 ⟨x,b,c,d,f⟩=>⟨x,σ,b,c,d,f⟩)
def Gp:TS:=λD _ H=>D.rt .Jc H
theorem AX:PS X (.Return b6 pos) Gp:=λ_ _ σ H _ I h=>wpAny_Return_none ⟨.Jc,σ,H,I,rfl,h⟩
def Ij(c:TT)(t u:TS):TS:=λD σ H=>c σ H λb a=>if b=b8 then t D σ a else u D σ a
theorem Gq(j:PT X c k)(l:Kf X a t)(m:Kf X b u):PS X (.If c a b pos) (Ij k t u):=by
 intro pins s σ H D I h;refine wpAny_If (Jf (j pins s σ H _ I h) λd s1 n=>?_);obtain⟨f,g,i⟩:=n;cases d with
 |true=>exact l pins s1 σ f D g i
 |false=>exact m pins s1 σ f D g i
end
abbrev TG:=V->St->Hp->(St->Hp->Prop)->Prop
abbrev OX:=List V->St->Hp->(St->Hp->Prop)->Prop
def PG(X:Cx)(a:mx)(t:TG):Prop :=
 ∀(pins:List (fR×Obj)) (s:fS) (σ:St) (H:Hp) (v:V) (u:d3) (Q:St->Hp->Prop),Inv X pins σ H s->RelV v u->t v σ H Q ->
  d4 (gs X.prog X.w) X.A (SE a X.env u) (λ_ s'=>∃b H',Inv X pins b H' s'/\Q b H') X.xe s
def PD(X:Cx)(ts:List mx)(t:OX):Prop :=
 ∀(pins:List (fR×Obj)) (s:fS) (σ:St) (H:Hp) (vs:List V) (us:List d3) (Q:St->Hp->Prop),Inv X pins σ H s->Vals vs us->t vs σ H Q ->
  d4 (gs X.prog X.w) X.A (assignInOrder ((P5 ts X.env).map (·.2)) us) (λ_ s'=>∃a H',Inv X pins a H' s'/\Q a H') X.xe s
abbrev DV:=V->V->V->Hp->(Hp->Prop)->Prop
def nX(X:Cx)(t:DV):Prop :=
 ∀(pins:List (fR×Obj)) (s:fS) (σ:St) (H:Hp) (o i v:V) (a b u:d3) (Q:Hp->Prop),Inv X pins σ H s->RelV o a->RelV i b->RelV v u->t o i v H Q ->
  d4 (gs X.prog X.w) X.A (Ua a b u) (λ_ s'=>∃H',Inv X pins σ H' s'/\Q H') X.xe s
abbrev RY:=V->V->Hp->VK->Prop
def Q0(X:Cx)(a:è)(t:RY):Prop :=
 ∀(pins:List (fR×Obj)) (s:fS) (σ:St) (H:Hp) (x y:V) (v u:d3) (Q:VK),Inv X pins σ H s->RelV x v->RelV y u->t x y H Q ->
  d4 (gs X.prog X.w) X.A (inplaceOp a v u) (EP X pins σ Q) X.xe s
section
def t8(i:Nat):TG:=λv σ H Q=>Q (σ.set i (a5 v)) H
theorem t9(a:X.N.Nodup)(hi:X.N[i]?=a5 x)(b:Loc X.env.scope x)(c:X.fn x=b8\/X.env.scope.names.lookup x=a5 .local:=by first|exact .inl rfl|exact .inr rfl|assumption):PG X (.Name x pos) (t8 i):=by
 intro pins s σ H v u Q I r h;exact đ (gW I a hi b r (λs' d=>⟨_,H,d,h⟩) c)
noncomputable def Gr:OX:=λvs σ H Q=>vs=[]/\Q σ H
noncomputable def De(t:TG)(u:OX):OX:=λvs σ H Q=>∃v r,vs=v::r/\t v σ H λa H'=>u r a H' Q
theorem AY:PD X [] Gr:=by
 intro pins s σ H vs us Q I r h;obtain⟨e,h⟩:=h;subst e;cases r;exact assignInOrder_nil ⟨σ,H,I,h⟩
theorem xM(a:PG X e t)(b:PD X es u)
  (hs:(P5 (e::es) X.env).map (·.2)=SE e X.env::(P5 es X.env).map (·.2):=by rfl):PD X (e::es) (De t u):=by
 intro pins s σ H vs us Q I r h;obtain⟨v,l,c,h⟩:=h;subst c;cases r with
 |cons r d =>
  rw[hs];refine assignInOrder_cons (Jf (a pins s σ H _ _ _ I r h) λ_ s1 f=>?_);obtain⟨g,i,j,k⟩:=f;exact b pins s1 g i _ _ Q j d k
def Il(K:PySem.W.Frag)(n:Nat)(t:OX):TG:=λv σ H Q=>∃a xs,v=.ref a/\JH K H a xs/\xs.length=n/\t xs σ H Q
theorem DW(d:X.calm=b8)(h:PD X es t)
  (f:(P5 es X.env).length=n:=by rfl) (g:(P5 es X.env).findIdx? (·.1)=b6:=by rfl):PG X (.Tuple es k pos) (Il X.K n t):=by
 intro pins s σ H v u Q I r c;obtain⟨a,xs,i,j,hl,c⟩:=c;subst i;cases r;obtain⟨its,rv,l,hz⟩:=I.tuple j;refine assign_Tuple_tuple (I.ok.hd d) l (by simp[f,<-hl,rv.length]) g λh' m=>?_;have p:Inv X pins σ H {s with heap:=h' }:=I.kept (t':=s.toks) λb o e=>m b o (hQ (ez e)) e;exact h pins _ σ H xs _ Q p (by simpa using rv) c
def Im(a b:TE)(t:DV):TG:=λv σ H Q=>a σ H λo c=>b σ c λi d=>t o i v d λe=>Q σ e
theorem xN(ho:PE X o c)(hi:PE X i d)(hs:nX X t)
  (e:∀v,SE (.Subscript o i pos) X.env v=(do
   let a <-MP [v] (wk o X.env)
   let b <-MP [v,a] (wk i X.env)
   Yp pos
   MP [v,a,b] (Ua a b v)
   Ws [v,a,b] []):=by intro _;rfl):PG X (.Subscript o i pos) (Im c d t):=by
 intro pins s σ H v u Q I r h;rw[e];refine bD (qs (Jf (ho pins s σ H _ I h) λa s1 f=>?_));obtain⟨x,g,j,k,l⟩:=f;refine bD (qs (Jf (hi pins s1 σ g _ j l) λb s2 m=>?_));obtain⟨y,n,p,q,w⟩:=m;refine bD (ZC (bD (qs (Jf (hs pins s2 σ n x y v a b u _ p k q r w) λ_ s3 z=>?_))));obtain⟨A,B,C⟩:=z;exact wpAny_release ⟨σ,A,B,C⟩
def DX(te:TE)(g:TG):TS:=λD σ H=>te σ H λx a=>g x σ a D.nx
theorem rG(b:PE X e te)(c:PG X a g)(hs:Rk [a] e pos.line X.env=pure cc:=by rfl)(d:VA [a] e X.env=pure b6:=by rfl)
  (f:(P5 [a] X.env).map (·.2)=[SE a X.env]:=by rfl):PS X (.Assign [a] e pos) (DX te g):=by
 intro pins s σ H D I h;refine wpAny_Assign_stores (Jf (b pins s σ H _ I h) λv s1 ⟨x,i,j,k,l⟩=>?_) hs d;rw[f];exact Jf (c pins s1 σ i x v _ j k l) λ_ s2 q=>q
theorem rH(a:X.N.Nodup)(hi:X.N[i]?=a5 x)(b:Loc X.env.scope x)(c:PE X e te)(hs:QU e (a5 (.Name x pos')) pos.line X.env=pure cc:=by rfl)(d:X.fn x=b8\/X.env.scope.names.lookup x=a5 .local:=by first|exact .inl rfl|exact .inr rfl|assumption):
  PS X (.Assign [.Name x pos'] e pos) (DX te (t8 i)):=by
 intro pins s σ H D I h;refine Ē (Jf (c pins s σ H _ I h) λv s1 ⟨y,f,g,j,k⟩=>?_) hs;exact gW g a hi b j (λs2 l=>⟨_,f,l,k⟩) d
def Gu(a b te:TE)(c:V->V->Hp->VK->Prop)(d:RY)(e:DV):TS:=λD σ H=>a σ H λo f=>b σ f λi g=>c o i g λx h=>te σ h λy j=>d x y j λz k=>e o i z k λl=>D.nx σ l
def Gv(X:Cx)(t:V->V->Hp->VK->Prop):Prop :=
 ∀(pins:List (fR×Obj)) (s:fS) (σ:St) (H:Hp) (o i:V) (a b:d3) (Q:VK),Inv X pins σ H s->RelV o a->RelV i b->t o i H Q ->
  d4 (gs X.prog X.w) X.A (Wu a b) (EP X pins σ Q) X.xe s
theorem AZ(ho:PE X o j)(hi:PE X i k)(l:Gv X m)(n:PE X e te)(p:Q0 X q r)(hs:nX X t)
  (u:∀a b new,Ń i a b new=(do MP [new,a,b] (Ua a b new);Ws [new,a,b] [];pure .next):=by intros;rfl):PS X (.AugAssign (.Subscript o i WB) q e pos) (Gu j k te m r t):=by
 intro pins s σ H D I h;refine wpAny_AugAssign_SubscriptAny (Jf (ho pins s σ H _ I h) λa s1 ⟨x1,w,x,d,y⟩=>?_) u;refine Jf (hi pins s1 σ w _ x y) λb s2 z=>?_;obtain⟨f,A,B,g,C⟩:=z;refine Jf (l pins s2 σ A x1 f a b _ B d g C) λc s3 G=>?_;obtain⟨J,L,N,O,Q⟩:=G;refine Jf (n pins s3 σ L _ N Q) λv s4 T=>?_;obtain⟨Y,H4,I4,r4,q4⟩:=T;refine Jf (p pins s4 σ H4 J Y c v _ I4 O r4 q4) λnew s5 R7=>?_;obtain⟨x5,H5,I5,r5,q5⟩:=R7;exact Jf (hs pins s5 σ H5 x1 f x5 a b new _ I5 d g r5 q5) λ_ s6 ⟨H6,I6,q6⟩=>⟨σ,H6,I6,q6⟩
noncomputable def R8(f:Int->Int->Int):RY:=λx y H Q=>∃i j,x=.int i/\y=.int j/\Q (.int (f i j)) H
theorem DY:Q0 X .Add (R8 λi j=>i+j):=by
 intro pins s σ H x y v u Q I a b h;obtain⟨i,j,c,d,q⟩:=h;subst c;subst d;obtain⟨t,rfl⟩:=a;obtain⟨t',rfl⟩:=b;exact iadd_int ⟨.int _,H,I.tok _,⟨_,rfl⟩,q⟩
theorem DZ:Q0 X .Sub (R8 λi j=>i - j):=by
 intro pins s σ H x y v u Q I a b h;obtain⟨i,j,c,d,q⟩:=h;subst c;subst d;obtain⟨t,rfl⟩:=a;obtain⟨t',rfl⟩:=b;exact isub_int ⟨.int _,H,I.tok _,⟨_,rfl⟩,q⟩
end
section
def D0(c:TT)(f:TS):TS:=λD σ H=>∃W:Nat->St->Hp->Prop,(∃m,W m σ H)/\∀m σ H,W m σ H ->
 c σ H λb a=>if b=b8 then ∃N:St->Hp->Prop,(∀d H',N d H'->∃e,e<m/\W e d H')/\f {D with nx:=N,ct:=N,bk:=D.nx} σ a else D.nx σ a
theorem xO(q:XI (gs X.prog X.w) X.A X.env X.xe)(y:PT X c z)(B:Kf X body C):PS X (.While c body [] pos) (D0 z C):=by
 intro pins s σ H D I h;obtain⟨W,⟨m0,G⟩,a⟩:=h;refine wpAny_While (codeAny_whileLoop (λn s'=>∃r H',Inv X pins r H' s'/\W n r H') ?_ m0 ⟨σ,H,I,G⟩);rintro n s1 ⟨g,t,J,L⟩;refine N' q (Jf (y pins s1 g t _ J (a n g t L)) λb s2 O=>?_);obtain⟨u,v,i⟩:=O;cases b with
 |true =>
  obtain⟨N,x,i⟩:=i;rw[Ő rfl];refine N' q (Jf (B pins s2 g u _ v i) λf s3 j=>?_);cases f with
  |next =>
   obtain⟨d,e,k,l⟩:=j;obtain⟨m,o,p⟩:=x d e l;exact⟨m,o,d,e,k,p⟩
  |cont =>
   obtain⟨d,e,k,l⟩:=j;obtain⟨m,o,p⟩:=x d e l;exact⟨m,o,d,e,k,p⟩
  |_=>exact j
 |false =>
  rw[ő kr];exact R5 ⟨g,u,v,i⟩
end
structure It where
 go:Nat->Hp->Prop
 Q1:Nat->Hp->V->Hp->Prop
 stop:Nat->Hp->Prop
def gY(X:Cx)(pins:List (fR×Obj))(H:Hp)(b:fR):Prop :=
 H b=b6/\b≠X.env.locals/\b∉X.fs/\(b∈X.ex\/X.s₀.heap.objs.size<=b)/\(∀x c,X.env.cells.lookup x=a5 c->c≠b)/\∀p∈X.pn++pins,p.1≠b
theorem Inv.xP(I:Inv X pins σ H s)(a:s.heap.objs.size<=b)(d:H' b=b6):gY X pins H' b:=by
 refine⟨d,H0 (i2 I.lt a),I.DN a,.inr (H8 I.sz a),λx c e z=>?_,λp f z=>?_⟩
 ·obtain⟨v,q⟩:=I.cell x c e;exact absurd (i2 q.lt (by rw[z];exact a)) (uv _)
 ·exact absurd (i2 (ez (I.pin p f).1) (by rw[z];exact a)) (uv _)
structure Turn(P:ve)(w:Jq)(K:PySem.W.Frag)(tg:mx)(J:It)(fp:List fR)(it:fR)(tn:Nat->Jy->Prop):Prop where
 mem:it∈fp
 obj:∀i h,tn i h->∀b∈fp,∃o,h.get? b=a5 o/\∀v,o.data≠.cell v
 keep:∀i h h',tn i h->(∀b∈fp,∀o,h.get? b=a5 o->h'.get? b=a5 o)->tn i h'
 item:∀(X:Cx),X.prog=P->X.w=w->X.K=K->X.calm=b8->∀(i:Nat) (pins:List (fR×Obj)) (s:fS) (σ:St) (H:Hp) (E:d3->fS->Prop),Inv X pins σ H s->(∀b∈fp,gY X pins H b)->tn i s.heap->J.go i H ->
  d4 (gs P w) X.A (Sy (.ref it)) (λr s1=>∃u,r=a5 u /\
   d4 (gs P w) X.A (UO tg (.ref it) u) (λ_ s2=>∃x H',Inv X pins σ H' s2/\RelV x u/\J.Q1 i H x H'/\tn (i+1) s2.heap/\∀b∈fp,H' b=b6) E s1) E s
 done:∀(X:Cx),X.prog=P->X.w=w->X.K=K->X.calm=b8->∀(i:Nat) (pins:List (fR×Obj)) (s:fS) (σ:St) (H:Hp) (E:d3->fS->Prop),Inv X pins σ H s->(∀b∈fp,gY X pins H b)->tn i s.heap->J.stop i H ->
  d4 (gs P w) X.A (Sy (.ref it)) (λr s1=>r=b6/\Inv X pins σ H s1) E s
 self:∀(A:N8) (i:Nat) (s:fS) (Q:d3->fS->Prop) (E:d3->fS->Prop),tn i s.heap->Q (.ref it) s->d4 (gs P w) A (Za (.ref it)) Q E s
abbrev TI:=St->Hp->(It->Hp->Prop)->Prop
def U5(X:Cx)(pins:List (fR×Obj))(σ:St)(d:mx)(R:It->Hp->Prop)(e:d3)(s2:fS):Prop :=
 ∃(it:fR) (a:List fR) (c:Nat->Jy->Prop) (J:It) (H':Hp),e=.ref it/\Inv X pins σ H' s2/\Turn X.prog X.w X.K d J a it c/\c 0 s2.heap/\(∀b∈a,gY X pins H' b)/\R J H'
def PI(X:Cx)(b a:mx)(c:TI):Prop :=
 ∀(pins:List (fR×Obj)) (s:fS) (σ:St) (H:Hp) (R:It->Hp->Prop),Inv X pins σ H s->c σ H R ->
  d4 (gs X.prog X.w) X.A (wk a X.env) (λv s1=>d4 (gs X.prog X.w) X.A (Za v) (U5 X pins σ b R) X.xe s1) X.xe s
theorem xQ(ho:s.heap.get? it=a5 o)(b:o.cls=.type n)(c:o.data=.fields vs)
    (d:["enumerate","zip","dict_itemiterator","dict_reverseitemiterator","odict_iterator","itertools.zip_longest","itertools.pairwise"].contains n=cc) (a:Q () s):d4 M A (UO e (.ref it) u) Q E s:=by
  unfold UO;cases e<;>first
    | exact df a
    | (cases u<;>first
        | exact df a
        | (refine bD (þ ho ?_)
           rw[b,c];show d4 M A (if (["enumerate","zip","dict_itemiterator","dict_reverseitemiterator","odict_iterator","itertools.zip_longest","itertools.pairwise"].contains n&&vs[0]?==a5 (u5 _))=b8 then _ else _) Q E s;rw[ő (by intro h;rw[d,T9]at h;cases h)];exact df a))
noncomputable def R_(K:PySem.W.Frag)(a:fR):It :=
 ⟨λi H=>∃xs x,JA K H a xs/\xs[i]?=a5 x,λi H x H'=>H'=H/\∀xs,JA K H a xs->xs[i]?=a5 x,λi H=>∃xs,JA K H a xs/\xs.length<=i⟩
noncomputable def Sa(K:PySem.W.Frag)(a:fR):It :=
 ⟨λi H=>∃xs x,JH K H a xs/\xs[i]?=a5 x,λi H x H'=>H'=H/\∀xs,JH K H a xs->xs[i]?=a5 x,λi H=>∃xs,JH K H a xs/\xs.length<=i⟩
noncomputable def Q4(lo:Int)(n:Nat):It:=⟨λi _=>i<n,λi H x H'=>H'=H/\x=.int (lo+i),λi _=>n<=i⟩
theorem vW{K:PySem.W.Frag}(a it:fR):Turn P w K Y (R_ K a) [it] it (λi h=>h.IsListIter it a i) where
 mem:=by simp
 obj:=λi h st b f=>by
  have e:b=it:=by simpa using f
  subst e;obtain⟨o,e,c,d⟩:=st;exact⟨o,e,λv z=>by rw[d]at z;cases z⟩
 keep:=λi h h' st k=>st.at λo e=>k it (by simp) o e
 item:=by
  intro X l m n D i pins s σ H E I g st q;subst l m n;obtain⟨xs,x,j,r⟩:=q;obtain⟨its,rv,p,hz⟩:=I.list j;obtain⟨u,G,J⟩:=rv.get r;obtain⟨t,y,L,A,B,C⟩:=g it (by simp);refine wpAny_pyNext_list_item st p.isList (x:=u) (by simpa using G) λh' st' N=>?_;have O:Inv X pins σ H {s with heap:=h' }:=I.turned (t':=s.toks) (λb o f e=>(N.2 b f).trans e) t y A B C;obtain⟨o,e,c,d⟩:=id st';exact⟨u,rfl,xQ (s:={s with heap:=h' }) e c d (by decide) ⟨x,H,O,J,⟨rfl,λys Q=>by rw[I.pO Q j];exact r⟩,st',λb f=>(g b f).1⟩⟩
 done:=by
  intro X l m n D i pins s σ H E I g st q;subst l m n;obtain⟨xs,j,r⟩:=q;obtain⟨its,rv,p,hz⟩:=I.list j;obtain⟨t,y,L,A,B,C⟩:=g it (by simp);have hl:=rv.length;exact wpAny_pyNext_list_end (I.ok.hd D) st p.isList (by simp;lia) λh' T=>⟨rfl,I.turned (t':=s.toks) (λb o f e=>T b o f e) t y A B C⟩
 self:=λ_ _ _ _ _ st h=>wpAny_pyIter_listiter st h
theorem rJ{K:PySem.W.Frag}(a it:fR):Turn P w K Y (Sa K a) [it] it (λi h=>h.IsTupleIter it a i) where
 mem:=by simp
 obj:=λi h st b f=>by
  have e:b=it:=by simpa using f
  subst e;obtain⟨o,e,c,d⟩:=st;exact⟨o,e,λv z=>by rw[d]at z;cases z⟩
 keep:=λi h h' st k=>st.at λo e=>k it (by simp) o e
 item:=by
  intro X l m n D i pins s σ H E I g st q;subst l m n;obtain⟨xs,x,j,r⟩:=q;obtain⟨its,rv,p,hz⟩:=I.tuple j;obtain⟨u,G,J⟩:=rv.get r;obtain⟨t,y,L,A,B,C⟩:=g it (by simp);refine wpAny_pyNext_tuple_item st (show s.heap.IsTuple a its.toArray from p) (x:=u) (by simpa using G) λh' st' N=>?_;have O:Inv X pins σ H {s with heap:=h' }:=I.turned (t':=s.toks) (λb o f e=>(N.2 b f).trans e) t y A B C;obtain⟨o,e,c,d⟩:=id st';exact⟨u,rfl,xQ (s:={s with heap:=h' }) e c d (by decide) ⟨x,H,O,J,⟨rfl,λys Q=>by rw[I.mj Q j];exact r⟩,st',λb f=>(g b f).1⟩⟩
 done:=by
  intro X l m n D i pins s σ H E I g st q;subst l m n;obtain⟨xs,j,r⟩:=q;obtain⟨its,rv,p,hz⟩:=I.tuple j;obtain⟨t,y,L,A,B,C⟩:=g it (by simp);have hl:=rv.length;exact wpAny_pyNext_tuple_end (I.ok.hd D) st (show s.heap.IsTuple a its.toArray from p) (by simp;lia) λh' T=>⟨rfl,I.turned (t':=s.toks) (λb o f e=>T b o f e) t y A B C⟩
 self:=λ_ _ _ _ _ st h=>wpAny_pyIter_tupleiter st h
theorem rK{K:PySem.W.Frag}(it:fR)(lo:Int)(n:Nat):Turn P w K J (Q4 lo n) [it] it (λi h=>IsRangeIter h it (lo+(i:Nat) * 1) ((n:Int) - (i:Nat)) 1) where
 mem:=by simp
 obj:=λi h st b a=>by
  have e:b=it:=by simpa using a
  subst e;exact⟨_,st,λv z=>by
   have y:TR _=Yc v:=z;cases y⟩
 keep:=λi h h' st k=>k it (by simp) _ st
 item:=by
  intro X d f g j i pins s σ H E I c st l;subst d f g;obtain⟨m,p,A,q,r,u⟩:=c it (by simp);have W:=Walks.range (prog:=X.prog) (w:=X.w) (I.ok.hd j) it lo 1 n;refine W.item i s _ _ l st λv h' x B st' C=>?_;obtain⟨t,rfl⟩:=B;have D:Inv X pins σ H {s with heap:=h',toks:=x}:=I.turned (λb o a e=>C b o (by simpa using a) e) m p q r u;refine⟨_,rfl,xQ (s:={s with heap:=h',toks:=x}) (n:="range_iterator") st' rfl rfl (by decide) ⟨.int (lo+i),H,D,⟨t,?_⟩,⟨rfl,rfl⟩,st',λb a=>(c b a).1⟩⟩;rw[Int.mul_one]
 done:=by
  intro X d f g j i pins s σ H E I c st l;subst d f g;obtain⟨m,p,A,q,r,u⟩:=c it (by simp);exact wpAny_pyNext_range_end (I.ok.hd j) st (by have:n<=i:=l;lia) λh' G=>⟨rfl,I.turned (t':=s.toks) (λb o a e=>G b o a e) m p q r u⟩
 self:=λ_ _ _ _ _ st h=>wpAny_pyIter_rangeiter st h
section
def Gw(K:PySem.W.Frag)(c:TE):TI:=λσ H R=>c σ H λx b=>∃a,x=.ref a/\(∃xs,JA K b a xs)/\R (R_ K a) b
def Io(K:PySem.W.Frag)(c:TE):TI:=λσ H R=>c σ H λx b=>∃a,x=.ref a/\(∃xs,JH K b a xs)/\R (Sa K a) b
theorem A0(hl:PE X l d):PI X n l (Gw X.K d):=by
 intro pins s σ H R I h;refine Jf (hl pins s σ H _ I h) λv s1 f=>?_;obtain⟨x,g,c,i,j⟩:=f;obtain⟨a,e,⟨xs,k⟩,q⟩:=j;subst e;cases i;obtain⟨its,rv,p,hz⟩:=c.list k;refine Tj p.isList ?_;refine⟨s1.heap.objs.size,[s1.heap.objs.size],_,_,g,rfl,c.kept (t':=s1.toks) λb o e=>cK _ e,vW a _,⟨_,eH _ rfl,rfl,rfl⟩,λb m=>?_,q⟩;have e:b=s1.heap.objs.size:=by simpa using m
 subst e;exact c.xP (hU _) (c.Ja.fresh (hU _))
theorem D3(hl:PE X l d):PI X n l (Io X.K d):=by
 intro pins s σ H R I h;refine Jf (hl pins s σ H _ I h) λv s1 f=>?_;obtain⟨x,g,c,i,j⟩:=f;obtain⟨a,e,⟨xs,k⟩,q⟩:=j;subst e;cases i;obtain⟨its,rv,p,hz⟩:=c.tuple k;refine PM (show s1.heap.IsTuple a its.toArray from p) ?_;refine⟨s1.heap.objs.size,[s1.heap.objs.size],_,_,g,rfl,c.kept (t':=s1.toks) λb o e=>cK _ e,rJ a _,⟨_,eH _ rfl,rfl,rfl⟩,λb m=>?_,q⟩;have e:b=s1.heap.objs.size:=by simpa using m
 subst e;exact c.xP (hU _) (c.Ja.fresh (hU _))
theorem xR{lo hi:Int}(I:Inv X pins σ H s)(d:-(2 ^ 62)<=lo)(f:lo<2 ^ 62)(g:-(2 ^ 62)<=hi)(h:hi<2 ^ 62)
  (q:R (Q4 lo (hi - lo).toNat) H):d4 (gs X.prog X.w) X.A (Za (.ref s.heap.objs.size)) (U5 X pins σ l R) E {s with heap:=s.heap.push {cls:=.type "range",data:=.fields #[.int lo t,.int hi u,.int 1 v]},toks:=c}:=by
 refine wpAny_pyIter_range (IsRange.new ..) (small_one d f g h) ?_;have a:Inv X pins σ H {s with heap:=s.heap.push {cls:=.type "range",data:=.fields #[.int lo t,.int hi u,.int 1 v]},toks:=c}:=I.kept λb o e=>cK _ e;refine⟨(s.heap.push {cls:=.type "range",data:=.fields #[.int lo t,.int hi u,.int 1 v]}).objs.size,[(s.heap.push {cls:=.type "range",data:=.fields #[.int lo t,.int hi u,.int 1 v]}).objs.size],_,_,H,rfl,
  a.kept (t':=c) λb o e=>cK _ e,rK _ lo (hi - lo).toNat,?_,λb i=>?_,q⟩
 ·have j:lo+((0:Nat):Int) * 1=lo:=by simp
  have k:(((hi - lo).toNat:Nat):Int) - ((0:Nat):Int)=Ĭ lo hi 1:=by rw[rangeSize_one];split<;>lia
  show IsRangeIter _ _ (lo+((0:Nat):Int) * 1) ((((hi - lo).toNat:Nat):Int) - ((0:Nat):Int)) 1;rw[j,k];exact eH _ rfl
 ·have e:b=(s.heap.push {cls:=.type "range",data:=.fields #[.int lo t,.int hi u,.int 1 v]}).objs.size:=by simpa using i
  subst e;exact a.xP (hU _) (a.Ja.fresh (hU _))
def Gy(a:TA):TI:=λσ H R=>a σ H λvs b=>∃j:Int,vs=[.int j]/\-(2 ^ 62)<=j/\j<2 ^ 62/\R (Q4 0 j.toNat) b
theorem vX(c:Gl X "range")(d:X.mg "range"=b6)(f:PA X [a] g)(hs:i3 [a] X.env=[(cc,wk a X.env)]:=by rfl):PI X n (.Call (.Name "range" p) [a] [] pos) (Gy g):=by
 intro pins s σ H R I h;refine Call_ (c9 I c d boot_range (M7 (Jf (f pos pins s σ H _ I h) λus s1 ⟨vs,o,i,k,b⟩=>?_) hs rfl));obtain⟨j,e,b,l,q⟩:=b;subst e;cases k with
 |cons r m =>
  cases m;obtain⟨t,rfl⟩:=r;exact call_range_1 (xR i ⋯ ⋯ b l (by simpa using q))
def Ip(c:TI)(g:TG)(d:TS):TS:=λD σ H=>c σ H λJ e=>∃W:Nat->Nat->St->Hp->Prop,(∃m,W 0 m σ e)/\∀i m σ H,W i m σ H ->
 (J.stop i H/\D.nx σ H)\/(J.go i H/\∃N:St->Hp->Prop,(∀a H',N a H'->∃b,b<m/\W (i+1) b a H')/\∀x H',J.Q1 i H x H'->g x σ H' λf h=>d {D with nx:=N,ct:=N,bk:=D.nx} f h)
noncomputable def j9(a:List fR)(h:Jy):List (fR×Obj):=a.filterMap λb=>(h.get? b).map λo=>(b,o)
theorem eS(a:b∈c)(e:h.get? b=a5 o):(b,o)∈j9 c h:=OY.mpr ⟨b,a,by rw[e];rfl⟩
theorem vY(a:p∈j9 c h):p.1∈c/\h.get? p.1=a5 p.2:=by
 obtain⟨b,d,e⟩:=OY.mp a;cases q:h.get? b with
 |none=>rw[q]at e;cases e
 |some o =>
  rw[q]at e;have f:(b,o)=p:=vl e;subst f;exact⟨d,q⟩
theorem Inv.pinned(I:Inv X pins σ H s)(g:∀b∈a,gY X pins H b)(ho:∀b∈a,∃o,s.heap.get? b=a5 o/\∀v,o.data≠.cell v):Inv X (pins++j9 a s.heap) σ H s :=
 I.dS λp h=>(kj.mp h).elim (λz=>I.pin p (mA _ z)) λz=>by
  obtain⟨c,e⟩:=vY z;obtain⟨i,j,k,_⟩:=g p.1 c;obtain⟨o,f,d⟩:=ho p.1 c;rw[e]at f;cases f;exact⟨e,i,j,k,d⟩
theorem Inv.j_(I:Inv X (pins++pl) σ H s):Inv X pins σ H s:=I.dS λp a=>I.pin p (mA _ (QK _ a))
theorem D4(q:XI (gs X.prog X.w) X.A X.env X.xe)(hc:X.calm=b8)(hi:PI X tg l wi)(hg:PG X tg g)(a:Kf X body tb)
  (hs:∀x,MQ l X.env x=pure x:=by intro _;rfl):PS X (.For tg l body [] pos) (Ip wi g tb):=by
 intro pins s σ H D I h;refine wpAny_For (Jf (hi pins s σ H _ I h) λv s1 h1=>Jf h1 λQ3 s2 h2=>?_) hs;obtain⟨it,t,tn,J,H2,e,I2,T,st2,f2,W,⟨m0,w0⟩,y⟩:=h2;subst e;have L:∀{H':Hp},(∀b∈t,H' b=b6)->∀b∈t,gY X pins H' b:=λhn b a=>⟨hn b a,(f2 b a).2⟩
 refine codeAny_forLoop_any (λn s'=>∃i z H',Inv X pins z H' s'/\tn i s'.heap/\(∀b∈t,H' b=b6)/\W i n z H') ?_ m0 ⟨0,σ,H2,I2,st2,λb a=>(f2 b a).1,w0⟩;rintro n s3 ⟨i,B,G,I3,JD,PF,w3⟩;rcases y i n B G w3 with⟨C,qn⟩|⟨go,N,hN,â⟩
 ·refine N' q (Jf (T.done X rfl rfl rfl hc i pins s3 B G X.xe I3 (L PF) JD C) λr s4 Se=>?_);obtain⟨O,I4⟩:=Se;subst O;exact R5 ⟨B,G,I4,qn⟩
 ·refine N' q (Jf (T.item X rfl rfl rfl hc i pins s3 B G X.xe I3 (L PF) JD go) λr s4 Sf=>?_);obtain⟨u,O,h4⟩:=Sf;subst O;refine N' q (Jf h4 λ_ s5 Sg=>?_);obtain⟨x,H5,I5,r5,y5,Q,Sh⟩:=Sg;have Si:=I5.pinned (L Sh) (T.obj _ _ Q);refine N' q (Jf (hg _ s5 B H5 x u _ Si r5 (â x H5 y5)) λ_ s6 Sj=>?_);obtain⟨σ6,H6,I6,q6⟩:=Sj;refine N' q (Jf (a _ s6 σ6 H6 _ I6 q6) λf Y p=>?_);have Ņ:∀{c:St} {j:Hp},Inv X (pins++j9 t s5.heap) c j Y->N c j->∃m,m<n/\∃i z H',Inv X pins z H' Y/\tn i Y.heap/\(∀b∈t,H' b=b6)/\W i m z H':=λ{c j} k n7=>by
   obtain⟨m',hm,w7⟩:=hN c j n7;refine⟨m',hm,i+1,c,j,k.j_,T.keep _ _ _ Q λb a o e=>(k.pin (b,o) (mA _ (mA _ (eS a e)))).1,λb a=>?_,w7⟩;obtain⟨o,e,d⟩:=T.obj _ _ Q b a;exact(k.pin (b,o) (mA _ (mA _ (eS a e)))).2.1
  cases f with
  |brk=>obtain⟨c,j,k,p⟩:=p;exact⟨c,j,k.j_,p⟩
  |ret v=>obtain⟨x7,c,j,k,r7,p⟩:=p;exact⟨x7,c,j,k.j_,r7,p⟩
  |_=>obtain⟨c,j,k,n7⟩:=p;exact Ņ k n7
end
abbrev R2:=V->V->Hp->VK->Prop
def KG(X:Cx)(f:d3->d3->Sem d3)(r:R2):Prop :=
 ∀(pins:List (fR×Obj)) (s:fS) (σ:St) (H:Hp) (x y:V) (v u:d3) (Q:VK),Inv X pins σ H s->RelV x v->RelV y u->r x y H Q ->
  d4 (gs X.prog X.w) X.A (f v u) (EP X pins σ Q) X.xe s
def fh(X:Cx)(f:d3)(r:List V->Hp->VK->Prop):Prop :=
 ∀(pins:List (fR×Obj)) (s:fS) (σ:St) (H:Hp) (xs:List V) (us:List d3) (Q:VK),Inv X pins σ H s->Vals xs us->r xs H Q ->
  d4 (gs X.prog X.w) X.A (Nd f us) (EP X pins σ Q) X.xe s
def Iq(X:Cx)(r:V->Hp->(Bool->Hp->Prop)->Prop):Prop :=
 ∀(pins:List (fR×Obj)) (s:fS) (σ:St) (H:Hp) (x:V) (v:d3) (Q:Bool->Hp->Prop),Inv X pins σ H s->RelV x v->r x H Q ->
  d4 (gs X.prog X.w) X.A (Ļ v) (TP X pins σ Q) X.xe s
noncomputable def rI(C:Int->Int->Prop)(g:Int->Int->V):R2:=λx y H Q=>∃i j,x=.int i/\y=.int j/\C i j/\Q (g i j) H
noncomputable def Ny(g:Int->Int->V):R2:=λx y H Q=>∃i j,x=.int i/\y=.int j/\Q (g i j) H
section
theorem Q5{g:Int->Int->Int}
  (ħ:∀(i j:Int) (t u:Tok) (s:fS) (Q:d3->fS->Prop) (E:d3->fS->Prop),C i j->Q (.int (g i j) s.toks) {s with toks:=s.toks+1}->d4 (gs X.prog X.w) X.A (f (.int i t) (.int j u)) Q E s) :
  KG X f (rI C λi j=>.int (g i j)):=by
 intro pins s σ H x y v u Q I a b h;obtain⟨i,j,rfl,rfl,c,q⟩:=h;obtain⟨t,rfl⟩:=a;obtain⟨t',rfl⟩:=b;exact ħ i j t t' s _ _ c ⟨.int (g i j),H,I.tok _,⟨_,rfl⟩,q⟩
theorem Gz{g:Int->Int->Int}
  (ħ:∀(i j:Int) (t u:Tok) (s:fS) (Q:d3->fS->Prop) (E:d3->fS->Prop),Q (.int (g i j) s.toks) {s with toks:=s.toks+1}->d4 (gs X.prog X.w) X.A (f (.int i t) (.int j u)) Q E s) :
  KG X f (Ny λi j=>.int (g i j)):=by
 intro pins s σ H x y v u Q I a b h;obtain⟨i,j,rfl,rfl,q⟩:=h;obtain⟨t,rfl⟩:=a;obtain⟨t',rfl⟩:=b;exact ħ i j t t' s _ _ ⟨.int (g i j),H,I.tok _,⟨_,rfl⟩,q⟩
theorem A4{g:Int->Int->Bool}
  (ħ:∀(i j:Int) (t u:Tok) (s:fS) (Q:d3->fS->Prop) (E:d3->fS->Prop),Q (.bool (g i j)) s->d4 (gs X.prog X.w) X.A (f (.int i t) (.int j u)) Q E s) :
  KG X f (Ny λi j=>.bl (g i j)):=by
 intro pins s σ H x y v u Q I a b h;obtain⟨i,j,rfl,rfl,q⟩:=h;obtain⟨t,rfl⟩:=a;obtain⟨t',rfl⟩:=b;exact ħ i j t t' s _ _ ⟨.bl (g i j),H,I,rfl,q⟩
def Ir(i j:Int):Prop:=0<j/\j<1073741824
def Iu(i j:Int):Prop:=0<=j/\j<=1000000/\i.natAbs<2 ^ 64
def D5(i j:Int):Prop:=(-(2 ^ 64)<i/\i<2 ^ 64)\/(-(2 ^ 64)<j/\j<2 ^ 64)
theorem D5.ok(h:D5 i j):IntMulOk i j:=by
 rcases h with⟨a,b⟩|⟨a,b⟩
 ·exact .of_left (intBits_le_64 a b)
 ·exact .of_right (intBits_le_64 a b)
theorem bV:KG X (OJ .Add) (Ny λi j=>.int (i+j)):=Gz λ_ _ _ _ _ _ _ q=>add_int q
theorem ka:KG X (OJ .Sub) (Ny λi j=>.int (i - j)):=Gz λ_ _ _ _ _ _ _ q=>sub_int q
theorem kb:KG X (OJ .Mult) (rI D5 λi j=>.int (i * j)):=Q5 λ_ _ _ _ _ _ _ a q=>mul_int q a.ok
theorem A5:KG X (OJ .FloorDiv) (rI Ir λi j=>.int (i / j)):=Q5 λi j _ _ _ _ _ a q=>by
 have b:(0:Int)<j:=a.1;have c:j<1073741824:=a.2;exact floordiv_int ⋯ (by rw[Int.fdiv_eq_ediv_of_nonneg i ⋯];exact q) (.inl (PyProof.noPylong_small ⋯))
theorem dZ:KG X (OJ .Mod) (rI (λ_ j=>0<j) λi j=>.int (i % j)):=Q5 λi j _ _ _ _ _ a q=>by
 have b:(0:Int)<j:=a;exact mod_int' ⋯ (by rw[Int.fmod_eq_emod_of_nonneg i ⋯];exact q)
theorem nY:KG X (OJ .Pow) (rI Iu λi j=>.int (i ^ j.toNat)):=Q5 λ_ _ _ _ _ _ _ a q=>pow_int_small a.1 a.2.1 a.2.2 q
end
section
theorem nZ(I:Inv X pins σ H s)(q:Q (.bl k) H)(e:k=k'):EP X pins σ Q (.bool k') s:=by
 subst e;exact⟨.bl k,H,I,rfl,q⟩
theorem GA:KG X (LZ .Lt) (Ny λi j=>.bl (dt (i<j))):=A4 λ_ _ _ _ _ _ _ q=>lt_int q
theorem GB:KG X (LZ .LtE) (Ny λi j=>.bl (dt (i<=j))):=A4 λ_ _ _ _ _ _ _ q=>le_int q
theorem GC:KG X (LZ .Gt) (Ny λi j=>.bl (dt (j<i))):=A4 λ_ _ _ _ _ _ _ q=>gt_int q
theorem GD:KG X (LZ .GtE) (Ny λi j=>.bl (dt (j<=i))):=A4 λ_ _ _ _ _ _ _ q=>ge_int q
theorem D8:KG X (LZ .Is) (λx y H Q=>y=.Jc/\Q (.bl (dt (x=.Jc))) H):=by
 intro pins s σ H x y v u Q I a b h;obtain⟨rfl,q⟩:=h;cases b;refine is_none_gen (nZ I q ?_);cases x<;>first
  |(cases a;rfl)
  |(obtain⟨t,rfl⟩:=a;rfl)
theorem A6:KG X (LZ .IsNot) (λx y H Q=>y=.Jc/\Q (.bl (!dt (x=.Jc))) H):=by
 intro pins s σ H x y v u Q I a b h;obtain⟨rfl,q⟩:=h;cases b;refine isnot_none_gen (nZ I q ?_);cases x<;>first
  |(cases a;rfl)
  |(obtain⟨t,rfl⟩:=a;rfl)
def GF(K:PySem.W.Frag)(x:V)(H:Hp)(k:Bool):Prop :=
 match x with
 |.Jc=>k=cc
 |.bl b=>k=b
 |.int i=>k=(i != 0)
 |.str y=>y.length<=cL/\k=((y.length:Int) != 0)
 |.QV y=>y.size<=cL/\k=((y.size:Int) != 0)
 |.ref p=>(∃xs,JA K H p xs/\k=!xs.isEmpty)\/(∃xs,JH K H p xs/\k=!xs.isEmpty)\/∃kvs,H p=a5 (.dK kvs)/\k=!kvs.isEmpty
 |_=>False
theorem rL(r:KV kvs vs):(!vs.isEmpty)=!kvs.isEmpty:=by
 cases r<;>rfl
theorem kf(r:Vals xs its):(!its.toArray.isEmpty)=!xs.isEmpty:=by
 cases r<;>simp
theorem fB:(cL:Nat)<2 ^ 63:=by rw[sizeLine_eq];decide
theorem D9:Iq X (λx H Q=>∃k,GF X.K x H k/\Q k H):=by
 intro pins s σ H x v Q I d h;obtain⟨k,e,q⟩:=h;have hl:=fB;have hs:cL=16777216:=sizeLine_eq;cases x with
 |Jc =>
  cases d;have a:k=cc:=e;subst a;exact truthy_none ⟨H,I,q⟩
 |bl b =>
  cases d;have a:k=b:=e;subst a;exact Jz ⟨H,I,q⟩
 |int i =>
  obtain⟨t,rfl⟩:=d;have a:k=(i != 0):=e;subst a;exact PySem.P.truthy_int ⟨H,I,q⟩
 |str y =>
  obtain⟨t,rfl⟩:=d;obtain⟨g,a⟩:y.length<=cL/\k=((y.length:Int) != 0):=e;subst a;exact PySem.P.truthy_str ⋯ ⟨H,I.tok _,q⟩
 |QV y =>
  obtain⟨t,rfl⟩:=d;obtain⟨g,a⟩:y.size<=cL/\k=((y.size:Int) != 0):=e;subst a;exact PySem.W.truthy_bytes ⋯ ⟨H,I.tok _,q⟩
 |ref p =>
  cases d;have a:(∃xs,JA X.K H p xs/\k=!xs.isEmpty)\/(∃xs,JH X.K H p xs/\k=!xs.isEmpty)\/∃kvs,H p=a5 (.dK kvs)/\k=!kvs.isEmpty:=e;rcases a with⟨xs,f,a⟩|⟨xs,f,a⟩|⟨kvs,f,a⟩
  ·subst a;obtain⟨its,r,pl,hz⟩:=I.list f;have c:=r.length;exact wpAny_truthy_list pl.isList (by simp only[hH];lia) ⟨H,I.tok _,by rw[kf r];exact q⟩
  ·subst a;obtain⟨its,r,pl,hz⟩:=I.tuple f;have c:=r.length;exact truthy_tuple pl (by simp only[hH];lia) ⟨H,I.tok _,by rw[kf r];exact q⟩
  ·subst a;obtain⟨hz,j,vs,r,m⟩:kvs.length<=cL/\(p==N4)=cc/\∃vs,KV kvs vs/\s.heap.DictOf (aG X.prog X.w) p vs:=I.Ja p _ f;have c:kvs.length=vs.length:=Paired.length r;exact wpAny_truthy_dict j m ⋯ ⟨H,I.tok _,by rw[rL r];exact q⟩
 |_=>exact(show False from e).elim
theorem xS(c:PE X a d)(e:∀b,isTrue a X.env b=(do let v <-b;Yp a.pos;MP [v] (Ļ v))):
  PT X a (λσ H Q=>d σ H λx H'=>∃k,GF X.K x H' k/\Q k H'):=by
 intro pins s σ H Q I h;exact isTrue_plain (Jf (c pins s σ H _ I h) λv s1 ⟨x,f,g,i,j⟩=>D9 pins s1 σ f x v Q g i j) (e _)
theorem rM:KG X (OJ .Add) (λx y H Q=>∃i j,x=.str i/\y=.str j/\i.length+j.length<=cL/\Q (.str (i++j)) H):=by
 intro pins s σ H x y v u Q I a b h;obtain⟨i,j,rfl,rfl,hz,q⟩:=h;obtain⟨t,rfl⟩:=a;obtain⟨t',rfl⟩:=b;exact add_str (λt' c=>⟨.str (i++j),H,I.tok _,⟨_,rfl⟩,q⟩) hz
theorem vals1(r:Vals [x] us):∃u,us=[u]/\RelV x u:=by
 cases r with
 |cons a b=>cases b;exact⟨_,rfl,a⟩
theorem vals2(r:Vals [x,y] us):∃u a,us=[u,a]/\RelV x u/\RelV y a:=by
 cases r with
 |cons b c =>
  cases c with
  |cons d e=>cases e;exact⟨_,_,rfl,b,d⟩
theorem vZ(b:X.calm=b8):fh X (.builtin "max") (λxs H Q=>∃i j,xs=[.int i,.int j]/\Q (.int (if j>i then j else i)) H):=by
 intro pins s σ H xs us Q I r h;obtain⟨i,j,rfl,q⟩:=h;obtain⟨u,c,rfl,⟨t,rfl⟩,⟨t',rfl⟩⟩:=vals2 r;refine max_two_ints (I.ok.hd b) λh' d k=>⟨_,H,I.kept k,?_,q⟩
 by_cases a:j>i
 ·rw[Ő a,Ő a];exact⟨_,rfl⟩
 ·rw[ő a,ő a];exact⟨_,rfl⟩
theorem v5(b:X.calm=b8):fh X (.builtin "min") (λxs H Q=>∃i j,xs=[.int i,.int j]/\Q (.int (if j<i then j else i)) H):=by
 intro pins s σ H xs us Q I r h;obtain⟨i,j,rfl,q⟩:=h;obtain⟨u,c,rfl,⟨t,rfl⟩,⟨t',rfl⟩⟩:=vals2 r;refine min_two_ints (I.ok.hd b) λh' d k=>⟨_,H,I.kept k,?_,q⟩
 by_cases a:j<i
 ·rw[Ő a,Ő a];exact⟨_,rfl⟩
 ·rw[ő a,ő a];exact⟨_,rfl⟩
theorem n9:fh X (.type "str") (λxs H Q=>∃i,xs=[.int i]/\i.natAbs.log2<1920/\Q (.str (Rr i)) H):=by
 intro pins s σ H xs us Q I r h;obtain⟨i,rfl,hz,q⟩:=h;obtain⟨u,rfl,t,rfl⟩:=vals1 r;exact PySem.P.str_of_int hz ⟨.str _,H,I.tok _,⟨_,rfl⟩,q⟩
end
section
end
theorem jH.some_of(r:jH (a5 v) o):∃u,o=a5 u/\RelV v u:=by
 cases o with
 |none=>exact(show False from r).elim
 |some u=>exact⟨u,rfl,r⟩
section
end
structure WC(K:PySem.W.Frag)(C:fR):Prop where
 pg:PySem.W.plainGet K C nH=b8
 hd:PySem.W.hasDictIn K C=b8
 po:PySem.W.plainOver K C=b8
 sa:PySem.W.findIn K (.ref C) "__setattr__"=a5 (a5 (.builtin "object.__setattr__"))
section
end
section
end
section
inductive kg(K:PySem.W.Frag)(H:Hp):V->d3->Prop where
 |Jc:kg K H .Jc (.type "NoneType")
 |bl (x:Bool):kg K H (.bl x) (.type "bool")
 |int (i:Int):kg K H (.int i) (.type "int")
 |str (x:Str):kg K H (.str x) (.type "str")
 |QW (x:UInt64):kg K H (.QW x) (.type "float")
 |lst {a:fR} {xs:List V} (e:H a=a5 (.lst xs)):kg K H (.ref a) (.type "list")
 |Kq {a:fR} {o:Obj} {xs:List V} (e:H a=a5 (.Kq o (.lst xs))):kg K H (.ref a) (.type "list")
 |tup {a:fR} {xs:List V} (e:H a=a5 (.tup xs)):kg K H (.ref a) (.type "tuple")
 |dK {a:fR} {kvs:List (Key×V)} (e:H a=a5 (.dK kvs)):kg K H (.ref a) (.type "dict")
 |dT {a:fR} {kvs:List (List Key×V)} (e:H a=a5 (.dT kvs)):kg K H (.ref a) (.type "dict")
 |ins {a C dx:fR} {fs:List (Str×V)} (e:H a=a5 (.ins C dx fs)) (cl:WC K C) (ha:PySem.W.findIn K (.ref C) "__class__"=a5 (a5 (.builtin "object.__class__")))
   (hn:PySem.W.specialIn K (.builtin "object.__class__") "__get__"=a5 (a5 (.builtin "getset_descriptor.__get__"))) (WD:PySem.W.takesIn K (.builtin "object.__class__")=a5 b8)
   (hm:PySem.W.mroIn K C (.type "object")=a5 b8):kg K H (.ref a) (.ref C)
end
structure ft(k:Nat)(A:N8):Prop where
 hd:A.handled=b6
 dp:A.depth+3 * k+5<ľ
 un:A.units+16 * k+200<LU
 gd:A.guards=a5 []
theorem ft.deeper(r:ft (k+1) A)(env:Env):ft k (A.deeper env) :=
 ⟨r.hd,by have:=r.dp;show A.depth+1+3 * k+5 < _;lia,by have:=r.un;show A.units+3+16 * k+200 < _;lia,r.gd⟩
theorem ft.depth(r:ft k A):A.depth<ľ:=by have:=r.dp;lia
def Iv:TA:=λ_ H Q=>Q [] H
def GG(a:TE)(b:TA):TA:=λσ H Q=>a σ H λx c=>b σ c λxs d=>Q (x::xs) d
section
theorem fC:PA X [] Iv:=λ_ _ _ _ H Q I h=>PB ⟨[],H,I,.nil,h⟩
theorem cS(a:PE X e te)(b:PA X es t)(hs:i3 (e::es) X.env=(cc,wk e X.env)::i3 es X.env:=by rfl):PA X (e::es) (GG te t):=by
 intro pos pins s σ H Q I h;rw[hs];show d4 _ _ (ē ((cc,wk e X.env)::JL pos (i3 es X.env))) _ _ s;refine Nt (Jf (a pins s σ H _ I h) λu s1 c=>?_);obtain⟨x,d,f,g,i⟩:=c;exact Jf (b pos pins s1 σ d _ f i) λus s2 ⟨xs,j,k,l,m⟩=>⟨x::xs,j,k,.cons g l,m⟩
def Iw(t:TA):TE:=λσ H Q=>t σ H λxs a=>xs.length<=cL/\∀p,a p=b6->Q (.ref p) (upd a p (.tup xs))
theorem D_(h:PA X es t):PE X (.Tuple es x1 pos) (Iw t):=by
 intro pins s σ H Q I d;refine ô (Jf (h pos pins s σ H _ I d) λus s1 ⟨xs,a,c,r,z,q⟩=>⟨by rw[<-r.length];exact z,?_⟩);have f:a s1.heap.objs.size=b6:=c.Ja.fresh (hU _);refine⟨.ref s1.heap.objs.size,upd a s1.heap.objs.size (.tup xs),c.laid (t':=s1.toks) (λb u e=>cK _ e) (hU _) ?_,rfl,q _ f⟩;exact⟨z,us,r,⟨_,eH _ rfl,rfl,_,rfl⟩⟩
end
abbrev Sp:=List V->Hp->VK->XK->Prop
abbrev N5:=List Env->Hp->fS->XK->d3->fS->Prop
structure A7(P:ve)(w:Jq)(K:PySem.W.Frag)(mg:Str->Option d3)(base:Jy)(A:N8)(outer:List Env)(s:fS)(H:Hp):Prop where
 frames:A.frames=a5 outer
 mod:Mod K mg base
 bs:∀b o,base.get? b=a5 o->s.heap.get? b=a5 o/\H b=b6
 MZ:base.objs.size<=s.heap.objs.size
 jI:s.heap.FunFrames base outer
 N0:∀b∈JO outer,H b=b6
 Ja:J6 P w H s.heap
 bare:To s.gens
def CE(outer:List Env)(P:ve)(w:Jq)(H:Hp)(s:fS)(Q:VK)(u:d3)(s':fS):Prop :=
 ∃v H',s'.os=s.os/\To s'.gens/\Un (JO outer) [] H H' s.heap s'.heap/\J6 P w H' s'.heap/\RelV v u/\Q v H'
def CR(CX:N5)(outer:List Env)(P:ve)(w:Jq)(H:Hp)(s:fS)(Q:VK)(E:XK)(r:Result)(s':fS):Prop :=
 match r with
 |.ok (.ret u)=>CE outer P w H s Q u s'
 |.ok _=>False
 |.error e=>CX outer H s E e s'
structure iN(P:ve)(w:Jq)(K:PySem.W.Frag)(mg:Str->Option d3)(base:Jy)(CX:N5)(k:Nat)(f:fR)(fd:SF)(ps:List Str)(sp:Sp):Prop where
 len:∀vs H Q E,sp vs H Q E->vs.length=ps.length
 run:∀(A:N8) (outer:List Env) (s:fS) (H:Hp) (args:Args) (us:List d3) (vs:List V) (Q:VK) (E:XK),ft k A->A7 P w K mg base A outer s H->Ê s fd args (ps.zip us)->Vals vs us->sp vs H Q E ->
  Qq (gs P w) A (.call (.ref f) args) (CR CX outer P w H s Q E) s
section
theorem Inv.GH(I:Inv X pins σ H s):A7 X.prog X.w X.K X.mg X.base X.A X.stack s H :=
 ⟨I.ok.frames,I.ok.mod,I.bs,H8 I.ok.MZ I.sz,I.stack,I.jQ,I.Ja,I.bare⟩
theorem Inv.after(I:Inv X pins σ H s)(h:CE X.stack X.prog X.w H s Q u s'):EP X pins σ Q u s':=by
 obtain⟨v,H',os,a,c,e,r,q⟩:=h;obtain⟨f,g,d,t,i⟩:=s';obtain rfl:i=s.os:=os;exact⟨v,H',I.call (h':=f) (g':=g) (d':=d) (t':=t) (ch:=[]) c e a (λb z=>absurd z (by simp)),r,q⟩
end
def Binds(K:PySem.W.Frag)(b:SF)(ps:List Str)(a:List d3):Prop :=
 ∀(s:fS) (us:List d3),K.In s.heap->(us++a).length=ps.length->Ê s b ⟨us,[]⟩ (ps.zip (us++a))
theorem Binds.all{K:PySem.W.Frag}(h:∀us:List d3,us.length=ps.length->å a ⟨us,[]⟩=pure (ps.zip us)):Binds K a ps []:=λs us _ hl=>by
 rw[r6]at hl ⊢;exact .of_eq (h us hl)
def Passes(CX:N5)(X:Cx)(E:XK):Prop:=∀(pins:List (fR×Obj)) (σ:St) (H:Hp) (s:fS) (e:d3) (s':fS),Inv X pins σ H s->CX X.stack H s E e s'->X.xe e s'
section
theorem xT(F:iN X.prog X.w X.K X.mg X.base CX k f g ps sp)(i:ft k X.A)(j:Binds X.K g ps a)(l:Vals b a)(m:Passes CX X E)
  (I:Inv X pins σ H s) (r:Vals vs us) (h:sp (vs++b) H Q E):d4 (gs X.prog X.w) X.A (Nd (.ref f) us) (EP X pins σ Q) X.xe s:=by
 have d:Vals (vs++b) (us++a):=r.append l;have hl:(us++a).length=ps.length:=by rw[<-d.length];exact F.len _ _ _ _ h
 refine ÿ (Sq (F.run X.A X.stack s H ⟨us,[]⟩ (us++a) (vs++b) Q E i I.GH (j s us I.Ms hl) d h) λr s' c=>?_);cases r with
 |error e=>exact m pins σ H s e s' I c
 |ok n =>
  cases n with
  |ret u=>exact I.after c
  |_=>exact Nv c
end
section
end
structure dU(N P:List Str)(sc:Nb):Prop where
 kind:sc.kind=.function
 co:sc.isCoroutine=cc
 gen:sc.isGenerator=cc
 nd:N.Nodup
 pre:N.take P.length=P
 par:∀x∈P,sc.names.lookup x=a5 .local\/sc.names.lookup x=a5 .cell
 N6:∀y∈sc.names,y.2≠.free
theorem mq{kindOf:Str->Option OM}:∀{a:List (Str×d3)}{m:Str->Option d3},(∀v,(x,v)∉a)->Z6 kindOf a m x=m x
 |[],_,_=>rfl
 |(n,v)::r,m,h=>by
  unfold Z6;rw[mq λw b=>h w (l' _ b)];split
  ·have:x≠n:=by rintro rfl;exact h v nc
   simp[this]
  ·rfl
theorem mr{kindOf:Str->Option OM}:∀{a:List (Str×d3)}{m:Str->Option d3},(∀v,(x,v)∉a)->Z7 kindOf a m x=m x
 |[],_,_=>rfl
 |(n,v)::r,m,h=>by
  unfold Z7;rw[mr λw b=>h w (l' _ b)];split
  ·rfl
  ·have:x≠n:=by rintro rfl;exact h v nc
   simp[this]
theorem mw{kindOf:Str->Option OM}:∀{P:List Str}{vs:List d3}{i:Nat}{m:Str->Option d3},P.Nodup->P[i]?=a5 x->vs[i]?=a5 v->kindOf x=a5 .local ->
  Z6 kindOf (P.zip vs) m x=a5 v
 |[],_,_,_,_,h,_,_=>by simp at h
 |_::_,[],_,_,_,_,h,_=>by simp at h
 |p::P,w::vs,0,m,c,a,b,hk=>by
  simp at a b;subst a;subst b;show Z6 kindOf ((p,w)::P.zip vs) m p=_;unfold Z6;rw[mq λv d=>(my.mp c).1 (QQ d).1,Ő hk];simp
 |p::P,w::vs,i+1,m,c,a,b,hk=>by
  show Z6 kindOf ((p,w)::P.zip vs) m x=_;unfold Z6;exact mw (i:=i) (my.mp c).2 (by simpa using a) (by simpa using b) hk
theorem mz{kindOf:Str->Option OM}:∀{P:List Str}{vs:List d3}{i:Nat}{m:Str->Option d3},P.Nodup->P[i]?=a5 x->vs[i]?=a5 v->kindOf x≠a5 .local ->
  Z7 kindOf (P.zip vs) m x=a5 v
 |[],_,_,_,_,h,_,_=>by simp at h
 |_::_,[],_,_,_,_,h,_=>by simp at h
 |p::P,w::vs,0,m,c,a,b,hk=>by
  simp at a b;subst a;subst b;show Z7 kindOf ((p,w)::P.zip vs) m p=_;unfold Z7;rw[mr λv d=>(my.mp c).1 (QQ d).1,ő hk];simp
 |p::P,w::vs,i+1,m,c,a,b,hk=>by
  show Z7 kindOf ((p,w)::P.zip vs) m x=_;unfold Z7;exact mz (i:=i) (my.mp c).2 (by simpa using a) (by simpa using b) hk
noncomputable def start(N:List Str)(vs:List V):St:=vs.map a5++i9 (N.length - vs.length) b6
noncomputable def pQ(CX:N5)(P:ve)(w:Jq)(K:PySem.W.Frag)(mg:Str->Option d3)(base:Jy)(N:List Str)(a:Str)(scope:Nb)(f:fR)(b:d3)(A:N8)(outer:List Env)(s:fS)(H:Hp)(E:XK):Cx where
 prog:=P
 w:=w
 K:=K
 mg:=mg
 base:=base
 A:=A.deeper (Uv a scope s.heap.objs.size f b)
 N:=N
 s₀:=s
 H₀:=H
 env:=Uv a scope s.heap.objs.size f b
 outer:=outer
 stack:=Uv a scope s.heap.objs.size f b::outer
 ex:=[]
 calm:=b8
 fn:=λ_=>b8
 pn:=[]
 xe:=λe s'=>d4 (gs P w) (A.deeper (Uv a scope s.heap.objs.size f b)) (leaving (Uv a scope s.heap.objs.size f b) e) (λ_ c=>CX outer H s E e c) (λd c=>CX outer H s E d c) s'
theorem pR{a:Nb}(h:a.names.lookup x=a5 .cell):∃c,(Ī n a.names []).lookup x=a5 c:=by
 have q:=PySem.W.cellsFrom_some a.names n [] (.inl h);exact Sm.mp q
theorem v7{K:PySem.W.Frag}
  (S:dU N ps scope) (D:A.handled=b6) (j:A7 P w K mg base A outer s H) (hl:vs.length=ps.length) (r:Vals vs us)
  (x:InCallC s s.heap.objs.size (Z6 (Uv g scope s.heap.objs.size f o).kindOf (ps.zip us) λ_=>b6) (Ī (s.heap.objs.size+1) scope.names []) (Z7 (Uv g scope s.heap.objs.size f o).kindOf (ps.zip us) λ_=>b6) s1) :
  Inv (pQ CX P w K mg base N g scope f o A outer s H E) [] (start N vs) H s1:=by
 have I:ps.length<=N.length:=by have:=Ŕ LA S.pre;rw[x4]at this;lia
 obtain⟨m,J,rfl,hk⟩:=x.done;have t:∀b:fR,b∉(pQ CX P w K mg base N g scope f o A outer s H E).ex:=λb z=>absurd (show b∈([]:List fR) from z) (by simp);refine⟨⟨j.mod,S.kind,rfl,rfl,hU _,λy z c m d=>?_,λy hy=>?_,λy c _ h=>?_,λ_=>D,Around.frames_deeper j.frames,.inr ⟨rfl,rfl⟩,λb z=>absurd z (t b),j.bs,j.MZ,λb _ _=>t b,λb z=>absurd z (t b),j.jI,j.N0⟩,
  rfl,j.bare,Un.kept hk,⟨_,x.toInCall.ns,λi y v m d L=>?_⟩,λy c h=>⟨_,x.cell y c h⟩,j.Ja.fresh (hU _),λy c h=>?_,λp l=>absurd (show p∈([]:List (fR×Obj)) from l) (by simp),j.Ja.kept hk,?_⟩
 ·exact name_of_addr x.apart (PySem.mem_of_lookup m) (PySem.mem_of_lookup d)
 ·have hy:scope.names.lookup y=a5 .cell\/scope.names.lookup y=a5 .free:=hy;rcases hy with hy|hy
  ·exact pR hy
  ·exact absurd rfl (S.N6 _ (PySem.mem_of_lookup hy))
 ·exact P_ (x.above y c (PySem.mem_of_lookup h))
 ·have hi:i<vs.length:=by
   unfold start at d;by_cases hi:i<vs.length
   ·exact hi
   ·rw[pa (by simpa using hi)]at d;rw[KX]at d;split at d<;>cases d
  have G:vs[i]?=a5 v:=by
   unfold start at d;rw[ux (by simpa using hi),i6]at d;cases e:vs[i]? with
   |none=>rw[e]at d;cases d
   |some a=>rw[e]at d;cases d;rfl
  obtain⟨u,B,rv⟩:=r.get G;have l:ps[i]?=a5 y:=by
   rw[<-S.pre,X4 ⋯];exact m
  have C:ps.Nodup:=by rw[<-S.pre];exact S.nd.sublist (Ó _ _)
  refine⟨u,rv,?_⟩;rcases S.par y (l0 l) with k|k
  ·exact .inl ⟨k,mw C l B k⟩
  ·obtain⟨c,e⟩:=pR (n:=s.heap.objs.size+1) k;refine .inr ⟨.inl k,c,e,?_⟩;have q:=x.cell y c e;rw[mz C l B (by show scope.names.lookup y≠_;rw[k];decide)]at q;exact q
 ·exact j.Ja.fresh (P_ (x.above y c (PySem.mem_of_lookup h)))
 ·unfold start;show _=N.length;rw[hV,c4,Qj];lia
theorem Df{K:PySem.W.Frag}{p kV g z d ct D:d3}
 (lk:K.lookup f=a5 ⟨D,od,.func (PySem.W.fnOf name a c body scope p kV g z G d ct),N7⟩) (L:PySem.W.codeIn K d a=b8) (S:dU N ps scope)
    (h:∀vs H Q E,sp vs H Q E->vs.length=ps.length)
    (O:∀(A:N8) (outer:List Env) (s:fS) (H:Hp) (vs:List V) (Q:VK) (E:XK),ft k (A.deeper (Uv a scope s.heap.objs.size f d))->sp vs H Q E ->
      ∃t,Kf (pQ CX P w K mg base N a scope f d A outer s H E) body t/\t {nx:=λ_ H'=>Q .Jc H',rt:=Q} (start N vs) H) :
    iN P w K mg base CX (k+1) f (PySem.W.fnOf name a c body scope p kV g z G d ct) ps sp:=by
  refine⟨h,λA outer s H args us vs Q E m i T r B=>?_⟩;have hl:=h _ _ _ _ B;have C:K.In s.heap:=i.mod.OS.keeps λb o e=>(i.bs b o e).1;have lim:s.heap.NoLimit:=i.mod.nolimit.keeps λb o e=>(i.bs b o e).1;have Y:∀y∈ps.zip us,scope.names.lookup y.1=a5 .local\/(scope.names.lookup y.1=a5 .cell/\((Ī (s.heap.objs.size+1) scope.names []).lookup y.1).isSome=b8):=λ⟨n,v⟩ hy=>by
    rcases S.par n (QQ hy).1 with q|q
    · exact .inl q
    · exact .inr ⟨q,PySem.W.cellsFrom_some _ _ _ (.inl q)⟩
  refine codeAny_call_function m.depth (C _ _ lk) rfl S.co S.gen rfl (PySem.W.codeRec_of C L) (T _ _ _ _ ?_);refine wpAny_newFunctionEnv_cells S.kind Y λenv he s1 x=>?_;subst he;refine⟨lim.keeps x.toInCall.keep,codeAny_func ?_⟩;obtain⟨t,ht,hq⟩:=O A outer s H vs Q E (m.deeper _) B;have I:Inv (pQ CX P w K mg base N a scope f d A outer s H E) [] (start N vs) H s1:=v7 S m.hd i hl r x;refine qb (ht [] s1 (start N vs) H _ I hq) (λfl s' hs=>?_) λe s' hs=>hs;have j:∀{l:St} {H':Hp} {v:V} {u:d3},Inv (pQ CX P w K mg base N a scope f d A outer s H E) [] l H' s'->RelV v u->Q v H'->CE outer P w H s Q u s' :=
    λ{l H' v u} J rv q=>⟨v,H',J.os,J.bare,J.base,J.Ja,rv,q⟩
  cases fl with
  | ret u =>
    obtain⟨v,l,H',J,rv,q⟩:=hs;exact j J rv q
  | next =>
    obtain⟨l,H',J,q⟩:=hs;exact j (v:=V.Jc) (u:=mh) J rfl q
  | brk =>
    obtain⟨_,_,_,q⟩:=hs;exact Nv q
  | cont =>
    obtain⟨_,_,_,q⟩:=hs;exact Nv q
section
end
end L2
namespace HT
open PySem PyProof.Rows
section
open PySem.SeqAt
open PySem.AutoSeq1 (wpAny_loadPart')
open PySem.MeetsSeq PySem.MeetsSeq2 PySem.MeetsSeq3
end
section
theorem A8(o:ō s.heap t vs.toArray)(p:ō s.heap b ws.toArray)(f:vs≠[])
  (q:ws=[]->Q (.ref t) s) (r:ws≠[]->Q (.ref s.heap.objs.size) {s with heap:=s.heap.push {cls:=.type "tuple",data:=.seq (vs++ws).toArray}})
  (hsz:vs.length+ws.length<=cL):d4 (gs prog w) A (OJ .Add (.ref t) (.ref b)) Q E s:=by
 obtain⟨⟨cls,dd,data,g⟩,ho,h,n,i⟩:=id o;obtain⟨⟨u,j,data2,k⟩,c,l,m,a⟩:=id p;simp only at h i l a;subst h i l a;have e:vs.toArray++ws.toArray=(vs++ws).toArray:=by simp
 by_cases d:ws=[]
 ·exact Wx ⟨_,ho,rfl⟩ ⟨_,c,rfl⟩ XH ZF PySem.F.slot_tuple_add PySem.F.entry_tuple_add (PySem.F.args_tuple_add_2 _ _)
   (tuple_addW1 t b vs.toArray ws.toArray n m dd j g k (by simpa using f) (by simp[d])) ⟨ho,c,q d⟩
 ·refine Wx ⟨_,ho,rfl⟩ ⟨_,c,rfl⟩ XH ZF PySem.F.slot_tuple_add PySem.F.entry_tuple_add (PySem.F.args_tuple_add_2 _ _)
   (tuple_addW2 t b vs.toArray ws.toArray n m dd j g k (by simpa using f) (by simpa using d) (by rw[hH,hH];exact hsz)) ⟨ho,c,?_⟩
  rw[e];exact r d
noncomputable def Kz(n d:Nat):Option Int->Nat
 |none=>d
 |some v=>if v<0 then(v+(n:Int)).toNat else min v.toNat n
theorem t_(n d k:Nat):Kz n d (a5 (k:Int))=min k n:=by
 show(if (k:Int)<0 then((k:Int)+(n:Int)).toNat else min (k:Int).toNat n)=min k n;rw[ő ⋯,N_]
end
end HT
namespace L2
open PySem PySem.Spec PyProof.Rows
abbrev TO:=St->Hp->(Option Int->Hp->Prop)->Prop
def PO(X:Cx)(e:Option mx)(t:TO):Prop :=
 ∀(pins:List (fR×Obj)) (s:fS) (σ:St) (H:Hp) (Q:Option Int->Hp->Prop),Inv X pins σ H s->t σ H Q ->
  d4 (gs X.prog X.w) X.A (evalPart e X.env) (λu s'=>∃o H',Inv X pins σ H' s'/\IsPart u o/\Q o H') X.xe s
def A9:TO:=λ_ H Q=>Q b6 H
def GI(t:TE):TO:=λσ H Q=>t σ H λx a=>∃i,x=.int i/\Q (a5 i) a
section
variable{X:Cx}{e:mx}{te:TE}{lo hi:Option mx}{tl th:TO}{pos p2:Pos}
theorem A_:PO X b6 A9:=by
 intro pins s σ H Q I h;rw[evalPart_none];exact df ⟨b6,H,I,.none,h⟩
theorem Ba(h:PE X e te):PO X (a5 e) (GI te):=by
 intro pins s σ H Q I a;rw[evalPart_some];refine Jf (h pins s σ H _ I a) λu s1 b=>?_;obtain⟨x,c,d,f,g⟩:=b;obtain⟨i,rfl,q⟩:=g;obtain⟨t,rfl⟩:=f;exact⟨a5 i,c,d,.int i t,q⟩
def NB(X:Cx)(r:V->Option Int->Option Int->Hp->VK->Prop):Prop :=
 ∀(pins:List (fR×Obj)) (s:fS) (σ:St) (H:Hp) (x:V) (v a b:d3) (lo hi:Option Int) (c:fR) (Q:VK),Inv X pins σ H s->RelV x v->s.heap.IsSliceOf c a b .none->IsPart a lo->IsPart b hi->r x lo hi H Q ->
  ∃T id,T_ (.type T) "__getitem__"=pure (a5 (.builtin id))/\s.TypeIs v T/\d4 (gs X.prog X.w) X.A (Wu v (.ref c)) (EP X pins σ Q) X.xe s
theorem NB.or(h:NB X r)(h':NB X g):NB X (λx lo hi H Q=>r x lo hi H Q\/g x lo hi H Q):=by
 intro pins s σ H x v a b lo hi c Q I d hs pl f q;rcases q with q|q
 ·exact h pins s σ H x v a b lo hi c Q I d hs pl f q
 ·exact h' pins s σ H x v a b lo hi c Q I d hs pl f q
def WE(r:V->Option Int->Option Int->Hp->VK->Prop)(te:TE)(tl th:TO):TE:=λσ H Q=>te σ H λx a=>tl σ a λl b=>th σ b λu c=>r x l u c Q
theorem xU(f:NB X r)(g:PE X e te)(hl:PO X lo tl)(i:PO X hi th):PE X (.Subscript e (.Slice lo hi b6 p2) pos) (WE r te tl th):=by
 intro pins s σ H Q I h;refine ĉ (Jf (g pins s σ H _ I h) λv s1 j=>?_);obtain⟨x,k,m,n,o⟩:=j;refine wpAny_Slice (Jf (hl pins s1 σ k _ m o) λa s2 ⟨l,p,t,pl,y⟩=>Jf (i pins s2 σ p _ t y) λc s3 z=>?_);obtain⟨u,d,B,C,D⟩:=z;rw[evalPart_none];refine df ?_;have G:Inv X pins σ d {s3 with heap:=s3.heap.push {cls:=.type "slice",data:=.fields #[a,c,.none]}}:=B.kept (t':=s3.toks) λb O q=>cK _ q;obtain⟨T,id,J,L,N⟩:=f pins {s3 with heap:=s3.heap.push {cls:=.type "slice",data:=.fields #[a,c,.none]}} σ d x v a c l u s3.heap.objs.size Q G n (Ĝ ..) pl C D;show d4 (gs X.prog X.w) X.A (VE e (.Slice lo hi b6 p2) v (.ref s3.heap.objs.size)) (EP X pins σ Q) X.xe {s3 with heap:=s3.heap.push {cls:=.type "slice",data:=.fields #[a,c,.none]}};exact ŉ (ops:=[.ref s3.heap.objs.size,v]) L J N (by with_unfolding_all rfl)
noncomputable def v8(xs:List V)(lo hi:Option Int):List V:=(xs.drop (HT.Kz xs.length 0 lo)).take (HT.Kz xs.length xs.length hi - HT.Kz xs.length 0 lo)
theorem pS(xs:List V)(lo hi:Option Int):(v8 xs lo hi).length<=xs.length:=by
 unfold v8;rw[x4,Þ];lia
noncomputable def GJ(K:PySem.W.Frag):R2:=λx y H Q=>∃a b xs c,x=.ref a/\y=.ref b/\JH K H a xs/\JH K H b c/\xs≠[]/\xs.length+c.length<=cL /\
 (c=[]->Q (.ref a) H)/\(c≠[]->∀p,H p=b6->Q (.ref p) (upd H p (.tup (xs++c))))
theorem Vals.n_(r:Vals xs us):us=[]↔xs=[]:=by
 cases r with
 |_=>simp
theorem Bb:KG X (OJ .Add) (GJ X.K):=by
 intro pins s σ H x y v u Q I f g h;obtain⟨a,b,xs,i,rfl,rfl,j,k,l,hz,m,n⟩:=h;cases f;cases g;obtain⟨its,d,p,_⟩:=I.tuple j;obtain⟨r,c,p2,_⟩:=I.tuple k;refine HT.A8 p p2 (λz=>l (d.n_.mp z)) (λz=>⟨.ref a,H,I,rfl,m (c.n_.mp z)⟩) (λz=>?_) (by rw[<-d.length,<-c.length];exact hz);refine⟨.ref s.heap.objs.size,_,I.laid (t':=s.toks) (o:=.tup (xs++i)) (λb t q=>cK _ q) (hU _) ?_,rfl,n (λw=>z (c.n_.mpr w)) _ (I.Ja.fresh (hU _))⟩;exact⟨by rw[hV];exact hz,_,d.append c,Ð _ _⟩
end
noncomputable def Mx(n:Nat)(i:Int):Option Nat:=if 0<=i then(if i<n then a5 i.toNat else b6) else if -(n:Int)<=i then a5 (i+n).toNat else b6
noncomputable def J7{α:Type}(xs:List α)(i:Int):Option α:=(Mx xs.length i).bind λj=>xs[j]?
theorem ua{n:Nat}(h:Mx n i=a5 j):Xw i n=a5 j/\j<n/\-(n:Int)<=i/\i<n:=by
 unfold Mx at h;by_cases b:0<=i
 ·rw[Ő b]at h;by_cases a:i<n
  ·rw[Ő a]at h;have e:i.toNat=j:=vl h;exact⟨by rw[ã b a,e],⋯,⋯,a⟩
  ·rw[ő a]at h;cases h
 ·rw[ő b]at h;by_cases a:-(n:Int)<=i
  ·rw[Ő a]at h;have e:(i+n).toNat=j:=vl h;exact⟨by rw[seqIndex_neg ⋯ a,e],⋯,a,⋯⟩
  ·rw[ő a]at h;cases h
theorem oa(h:J7 xs i=a5 v):∃j,Xw i xs.length=a5 j/\xs[j]?=a5 v/\j<xs.length/\-(xs.length:Int)<=i/\i<xs.length:=by
 unfold J7 at h;cases e:Mx xs.length i with
 |none=>rw[e]at h;cases h
 |some j =>
  rw[e]at h;obtain⟨a,b,c,d⟩:=ua e;exact⟨j,a,h,b,c,d⟩
theorem jS{j:Nat}(h:xs[j]?=a5 v):J7 xs (j:Int)=a5 v:=by
 have a:j<xs.length:=(dV.mp h).1;have e:Mx xs.length (j:Int)=a5 j:=by
  unfold Mx;rw[Ő ⋯,Ő ⋯];simp
 unfold J7;rw[e];exact h
def og(b:mx):Prop:=∀o i,X0 b cc o i=operate [o,i] (Wu o i)
def Ss(X:Cx)(r:R2):Prop :=
 ∀(b a:mx) (pins:List (fR×Obj)) (s:fS) (σ:St) (H:Hp) (x y:V) (v u:d3) (Q:VK),Inv X pins σ H s->RelV x v->RelV y u->r x y H Q ->
  X0 a cc v u=operate [v,u] (Wu v u)->d4 (gs X.prog X.w) X.A (VE b a v u) (EP X pins σ Q) X.xe s
def Su(X:Cx)(id:String)(r:V->List V->Hp->VK->Prop):Prop :=
 ∀(pins:List (fR×Obj)) (s:fS) (σ:St) (H:Hp) (x:V) (xs:List V) (v:d3) (us:List d3) (Q:VK),Inv X pins σ H s->RelV x v->Vals xs us->r x xs H Q ->
  d4 (gs X.prog X.w) X.A (Nd (.builtin id) (v::us)) (EP X pins σ Q) X.xe s
section
noncomputable def Iy(K:PySem.W.Frag):R2:=λx y H Q=>∃p xs i v,x=.ref p/\y=.int i/\JA K H p xs/\J7 xs i=a5 v/\Q v H
noncomputable def Iz(K:PySem.W.Frag):R2:=λx y H Q=>∃p xs i v,x=.ref p/\y=.int i/\JH K H p xs/\J7 xs i=a5 v/\Q v H
noncomputable def IA:R2:=λx y H Q=>∃z i c,x=.str z/\y=.int i/\z.length<=cL/\J7 z.cps.toList i=a5 c/\Q (.str ⟨#[c]⟩) H
theorem Bc:Ss X (Iy X.K):=by
 intro c d pins s σ H x y v u Q I l m h hs;obtain⟨p,xs,i,z,rfl,rfl,n,A,q⟩:=h;cases l;obtain⟨t,rfl⟩:=m;obtain⟨its,r,pl,hz⟩:=I.list n;obtain⟨j,b,B,J,C,D⟩:=oa A;obtain⟨w,g,G⟩:=r.get B;have hl:=r.length;have L:=fB;have a:EP X pins σ Q w s:=⟨z,H,I,G,q⟩
 by_cases k:0<=i
 ·have f:i.toNat=j:=by
   rw[ã k D]at b;exact vl b
  exact item_listR pl.isList k ⋯ (by rw[f];simpa using g) a hs
 ·have f:(i+(its.toArray.size:Int)).toNat=j:=by
   rw[seqIndex_neg ⋯ C]at b;rw[hH,<-hl];exact vl b
  exact Ë (x:=w) pl.isList.typeIs Ĕ.lookup
   (wpAny_getItem_list_neg (Q:=λr s'=>r=w/\EP X pins σ Q r s') pl.isList ⋯ (by rw[hH]<;>lia) ⋯ (by rw[f];simpa using g) ⟨rfl,a⟩) hs
theorem kh:Ss X (Iz X.K):=by
 intro a b pins s σ H x y v u Q I d f h hs;obtain⟨p,xs,i,z,rfl,rfl,g,k,q⟩:=h;cases d;obtain⟨t,rfl⟩:=f;obtain⟨its,r,pl,hz⟩:=I.tuple g;obtain⟨j,l,m,B,C,D⟩:=oa k;obtain⟨w,n,A⟩:=r.get m;have hl:=r.length;have G:=fB;have c:EP X pins σ Q w s:=⟨z,H,I,A,q⟩
 exact Ë (x:=w) pl.typeIs slot_tuple_getitem.lookup
  (getItem_tuple (j:=j) (Q:=λr s'=>r=w/\EP X pins σ Q r s') pl ⋯ ⋯ (by rw[hH,<-hl];exact l) (by simpa using n) ⟨rfl,c⟩) hs
theorem oh:Ss X IA:=by
 intro a b pins s σ H x y v u Q I f g h hs;obtain⟨z,i,c,rfl,rfl,hz,k,q⟩:=h;obtain⟨t,rfl⟩:=f;obtain⟨t',rfl⟩:=g;obtain⟨j,d,l,A,m,n⟩:=oa k;have hl:z.cps.toList.length=z.length:=by simp[Ň]
 rw[hl]at d m n;have B:=fB;exact ŉ (Y9 s z t) ĭ.lookup (getItem_str (c:=c) (by
  have p:dt (i < -(2 ^ 63:Int))=cc:=Œ ⋯;have w:dt (i >= 2 ^ 63)=cc:=Œ ⋯;rw[p,w,ON]) (by rw[d];simpa using l) ⟨.str ⟨#[c]⟩,H,I.tok _,⟨_,rfl⟩,q⟩) hs
theorem rN(its:List d3)(n j:Nat)(u:d3):oT (·.setIfInBounds j u) {cls:=.type "list",data:=.seq its.toArray n}={cls:=.type "list",data:=.seq (its.set j u).toArray n}:=by
 simp[oT]
theorem Inv.lst(I:Inv X pins σ H s)(h:H p=a5 (.lst xs)):
  ∃(its:List d3) (n:Nat),Vals xs its/\s.heap.get? p=a5 {cls:=.type "list",data:=.seq its.toArray n}/\xs.length<=cL:=by
 obtain⟨z,its,n,r,e⟩:=I.Ja p _ h;exact⟨its,n,r,e,z⟩
theorem Inv.Ea{its its':List d3}(I:Inv X pins σ H s)(h:H p=a5 (.lst xs))
  (ho:s.heap.get? p=a5 {cls:=.type "list",data:=.seq its.toArray n}) (a:f {cls:=.type "list",data:=.seq its.toArray n}={cls:=.type "list",data:=.seq its'.toArray c }) (r:Vals d its') (hz:d.length<=cL) (t:Nat) :
  Inv X pins σ (upd H p (.lst d)) {s with heap:=s.heap.update p f,toks:=t}:=by
 have e:(s.heap.update p f).get? p=a5 {cls:=.type "list",data:=.seq its'.toArray c }:=by
  rw[uk f ho (by rw[a]<;>rfl),a]
 refine I.write (x:=p) (e:=p) (by rw[h];trivial) (.inl rfl) (λb u g q=>(Nw _ _ (ro g)).trans q) ⟨_,e⟩ ?_;exact⟨hz,its',c,r,e⟩
def GK:V->V->V->Hp->(Hp->Prop)->Prop:=λo i v H Q=>∃p xs k j,o=.ref p/\i=.int k/\H p=a5 (.lst xs)/\Mx xs.length k=a5 j/\Q (upd H p (.lst (xs.set j v)))
theorem set_list:nX X GK:=by
 intro pins s σ H o i v x y u Q I l m rv h;obtain⟨p,xs,k,j,rfl,rfl,b,w,q⟩:=h;cases l;obtain⟨t,rfl⟩:=m;obtain⟨its,n,r,ho,hz⟩:=I.lst b;obtain⟨a,z,c,d⟩:=ua w;have hl:=r.length;have A:=fB;have f:Inv X pins σ (upd H p (.lst (xs.set j v))) {s with heap:=s.heap.update p (oT (·.setIfInBounds j u))} :=
  I.Ea b ho (rN its n j u) (r.set rv j) (by rw[ó];exact hz) s.toks
 by_cases g:0<=k
 ·have hk:k.toNat=j:=by
   rw[ã g d]at a;exact vl a
  exact PySem.W.ki_setAt ho g ⋯ (by rw[hH,<-hl];exact d) (by rw[hk];exact⟨_,f,q⟩)
 ·have hk:(k+(its.toArray.size:Int)).toNat=j:=by
   rw[seqIndex_neg ⋯ c]at a;rw[hH,<-hl];exact vl a
  exact PySem.W.ki_setBack ho ⋯ (by rw[hH,<-hl];exact c) ⋯ (by rw[hk];exact⟨_,f,q⟩)
theorem oi(lo hi:Option Int)(n:Nat):(Rt lo hi b6 n).1=((HT.Kz n 0 lo:Nat):Int)/\(Rt lo hi b6 n).2.1=((HT.Kz n n hi:Nat):Int)/\(Rt lo hi b6 n).2.2=1:=by
 refine⟨?_,?_,rfl⟩
 ·cases lo with
  |none=>simp[Rt,HT.Kz]
  |some i =>
   simp only[Rt,HT.Kz,Vn,show(1:Int)>0 by decide,if_true];by_cases h:i<0
   ·simp only[h,if_true]<;>lia
   ·simp only[h,if_false]<;>lia
 ·cases hi with
  |none=>simp[Rt,HT.Kz]
  |some i =>
   simp only[Rt,HT.Kz,Vn,show(1:Int)>0 by decide,if_true];by_cases h:i<0
   ·simp only[h,if_true]<;>lia
   ·simp only[h,if_false]<;>lia
theorem lO(its:List d3)(lo hi:Option Int):slicePick its.toArray lo hi b6=((its.drop (HT.Kz its.length 0 lo)).take (HT.Kz its.length its.length hi - HT.Kz its.length 0 lo)).toArray:=by
 obtain⟨a,b,c⟩:=oi lo hi its.toArray.size;unfold slicePick;rw[a,b,c];simp only[sliceRange_one,pick_run,hH]<;>rfl
def GL(K:PySem.W.Frag):V->Option Int->Option Int->Hp->VK->Prop:=λx lo hi H Q=>∃a xs,x=.ref a/\JA K H a xs/\∀p,H p=b6->Q (.ref p) (upd H p (.lst (v8 xs lo hi)))
theorem Bd:NB X (GL X.K):=by
 intro pins s σ H x v j k lo hi l Q I f hs pl g h;obtain⟨a,xs,rfl,i,q⟩:=h;cases f;obtain⟨its,r,d,hz⟩:=I.list i;have c:=r.length;refine⟨"list",_,Ĕ.lookup,d.isList.typeIs,?_⟩;refine wpAny_getItem_list_slice d.isList hs pl g .none (by simp) ?_ (by rw[hH]<;>lia);rw[lO,<-c];refine⟨.ref s.heap.objs.size,_,I.laid (t':=s.toks) (o:=.lst (v8 xs lo hi)) (λb m q=>cK _ q) (hU _) ?_,rfl,q _ (I.Ja.fresh (hU _))⟩;exact⟨H8 (pS xs lo hi) hz,_,0,(r.drop (HT.Kz xs.length 0 lo)).take (HT.Kz xs.length xs.length hi - HT.Kz xs.length 0 lo),eH _ rfl⟩
theorem gZ:fh X (.builtin "len") (λxs H Q=>∃p b,xs=[.ref p]/\(JA X.K H p b\/JH X.K H p b)/\Q (.int b.length) H):=by
 intro pins s σ H xs us Q I r h;obtain⟨p,b,rfl,hq,q⟩:=h;obtain⟨u,rfl,d⟩:=vals1 r;cases d;have f:=fB;rcases hq with hq|hq
 ·obtain⟨its,c,pl,hz⟩:=I.list hq;have a:=c.length;exact Calls.call_len_list pl.isList (by simp only[hH]<;>lia) ⟨.int b.length,H,I.tok _,⟨s.toks+1,by rw[hH,a]⟩,q⟩
 ·obtain⟨its,c,pl,hz⟩:=I.tuple hq;have a:=c.length;exact len_tuple pl (by simp only[hH]<;>lia) ⟨.int b.length,H,I.tok _,⟨s.toks+1,by rw[hH,a]⟩,q⟩
theorem oj:fh X (.builtin "len") (λxs H Q=>∃z,xs=[.str z]/\z.length<=cL/\Q (.int z.length) H):=by
 intro pins s σ H xs us Q I r h;obtain⟨z,rfl,hz,q⟩:=h;obtain⟨u,rfl,t,rfl⟩:=vals1 r;have a:=fB;exact len_str ⋯ ⟨.int z.length,H,I.tok _,⟨_,rfl⟩,q⟩
theorem g9:fh X (.type "list") (λxs H Q=>∃p a,xs=[.ref p]/\(JA X.K H p a\/JH X.K H p a)/\∀l,H l=b6->Q (.ref l) (upd H l (.lst a))):=by
 intro pins s σ H xs us Q I r h;obtain⟨p,a,rfl,hq,q⟩:=h;obtain⟨u,rfl,m⟩:=vals1 r;cases m;have f:∀(its:List d3),Vals a its->a.length<=cL->∀(h':Jy) (c:Nat),(∀b o',s.heap.get? b=a5 o'->h'.get? b=a5 o') ->
   h'.get? s.heap.objs.size=a5 {cls:=.type "list",dict:=b6,data:=.seq its.toArray c,slots:=#[]}->EP X pins σ Q (.ref s.heap.objs.size) {s with heap:=h' }:=λits d hz h' c g e =>
  ⟨.ref s.heap.objs.size,_,I.laid (t':=s.toks) g (hU _) (show bA X.prog X.w _ h' _ (.lst a) from⟨hz,its,c,d,e⟩),rfl,q _ (I.Ja.fresh (hU _))⟩
 rcases hq with hq|hq
 ·obtain⟨its,d,pl,hz⟩:=I.list hq;have i:=d.length;obtain⟨o,ho,j,n,k⟩:=pl.isList;exact call_list_seq p (.inl rfl) ho j k (λh' c g e=>f its d hz h' c g e) (by simp only[hH]<;>lia)
 ·obtain⟨its,d,pl,hz⟩:=I.tuple hq;have i:=d.length;obtain⟨o,ho,j,n,k⟩:=pl;exact call_list_seq p (.inr rfl) ho j k (λh' c g e=>f its d hz h' c g e) (by simp only[hH]<;>lia)
theorem gr:fh X (.type "tuple") (λxs H Q=>∃p a,xs=[.ref p]/\((JA X.K H p a/\∀l,H l=b6->Q (.ref l) (upd H l (.tup a)))\/(JH X.K H p a/\Q (.ref p) H))):=by
 intro pins s σ H xs us Q I r h;obtain⟨p,a,rfl,h⟩:=h;obtain⟨u,rfl,i⟩:=vals1 r;cases i;rcases h with⟨c,q⟩|⟨c,q⟩
 ·obtain⟨its,d,pl,hz⟩:=I.list c;have f:=d.length;refine call_tuple_list pl.isList (λh' j=>?_) (by simp only[hH]<;>lia);have g:Inv X pins σ H {s with heap:=h' }:=I.kept (t':=s.toks) j;have k:Inv X pins σ (upd H h'.objs.size (.tup a)) {s with heap:=h'.push {cls:=.type "tuple",data:=.seq its.toArray}} :=
   g.laid (t':=s.toks) (λb o e=>cK _ e) (hU _) (show bA X.prog X.w _ _ _ (.tup a) from⟨hz,its,d,Ð _ _⟩)
  exact⟨.ref h'.objs.size,_,k,rfl,q _ (g.Ja.fresh (hU _))⟩
 ·obtain⟨its,d,pl,hz⟩:=I.tuple c;exact call_tuple_same pl ⟨.ref p,H,I,rfl,q⟩
def Q6(K:PySem.W.Frag)(T:String)(x:V)(H:Hp):Prop:=match x with
 |.str _=>T="str"
 |.int _=>T="int"
 |.ref p=>(T="list"/\∃xs,JA K H p xs)\/(T="tuple"/\∃o,K.lookup p=a5 o/\o.cls=.type "tuple"/\o.dict=b6) \/
   (T="dict"/\((∃kvs,H p=a5 (.dK kvs))\/∃kvs,H p=a5 (.dT kvs)))\/(T="set"/\∃S n,H p=a5 (.set S n))
 |_=>False
theorem om(I:Inv X pins σ H s)(r:RelV x v)(b:Q6 X.K T x H):
  s.TypeIs v T/\∀a,v=.ref a->∃g,s.heap.get? a=a5 g/\g.dict=b6:=by
 cases x with
 |str z =>
  obtain⟨t,rfl⟩:=r;cases(show T="str" from b);exact⟨Y9 s z t,λ_ e=>nomatch e⟩
 |int i =>
  obtain⟨t,rfl⟩:=r;cases(show T="int" from b);exact⟨typeIs_int s i t,λ_ e=>nomatch e⟩
 |ref p =>
  cases r;rcases b with⟨rfl,xs,h⟩|⟨rfl,o,hk,j,d⟩|⟨rfl,hk⟩|⟨rfl,S,n,hk⟩
  ·obtain⟨its,_,pl,_⟩:=I.list h;refine⟨pl.isList.typeIs,λa e=>?_⟩;cases e;obtain⟨o,n,e,c,d,_⟩:=pl;exact⟨o,e,d⟩
  ·refine⟨⟨o,I.Ms p o hk,j⟩,λa e=>?_⟩;cases e;exact⟨o,I.Ms _ o hk,d⟩
  ·have z:∃o,s.heap.get? p=a5 o/\o.ExactDict:=by
    rcases hk with⟨kvs,hk⟩|⟨kvs,hk⟩
    ·obtain⟨_,_,_,_,o,_,_,e,ex,_⟩:=I.Ja p _ hk;exact⟨o,e,ex⟩
    ·obtain⟨_,_,_,_,o,_,_,e,ex,_⟩:=I.Ja p _ hk;exact⟨o,e,ex⟩
   obtain⟨o,e,ex⟩:=z;refine⟨⟨o,e,ex.1⟩,λa f=>?_⟩;cases f;exact⟨o,e,ex.2.1⟩
  ·obtain⟨o,_,_,_,e,ex,_⟩:=I.Ja p _ hk;refine⟨⟨o,e,ex.1⟩,λa f=>?_⟩;cases f;exact⟨o,e,ex.2.1⟩
 |_=>exact Nv b
def IB(K:PySem.W.Frag)(T:String)(r:V->List V->Hp->VK->Prop)(to:TE):TE:=λσ H Q=>to σ H λx a=>Q6 K T x a/\r x [] a Q
def WG(K:PySem.W.Frag)(T:String)(r:V->List V->Hp->VK->Prop)(to:TE)(t:TA):TE:=λσ H Q=>to σ H λx a=>Q6 K T x a/\t σ a λxs b=>r x xs b Q
variable{o e:mx}{es:List mx}{to:TE}{t:TA}{name:Str}{apos G':Pos}{T id:String}{r:V->List V->Hp->VK->Prop}
theorem Eb(c:PlainAttrs T)(slot:Slot T name id)(d:Y8 (.builtin id)=pure (.type "method_descriptor"))(f:Su X id r)(ho:PE X o to)
  (g:Pz o name X.env (wk o X.env)=wk o X.env:=by rfl) (i:(apos.endLine==G'.line)=b8:=by rfl):PE X (.Call (.Attribute o name apos) [] [] G') (IB X.K T r to):=by
 intro pins s σ H Q I h;refine TF g i (Jf (ho pins s σ H _ I h) λv s1 j=>?_);obtain⟨x,k,a,b,l,m⟩:=j;obtain⟨n,p⟩:=om a b l;exact⟨T,id,c,slot,d,n,p,D6 rfl (PySem.evalArgs_none (f pins s1 σ k x [] v [] Q a b .nil m))⟩
theorem ub(d:PlainAttrs T)(slot:Slot T name id)(f:Y8 (.builtin id)=pure (.type "method_descriptor"))(g:Su X id r)(ho:PE X o to)(i:PA X (e::es) t)
  (j:Pz o name X.env (wk o X.env)=wk o X.env:=by rfl)
  (k:((JL G' (i3 (e::es) X.env)).all (λx=>!x.1)&&(Qt G' (MO [] X.env)).all (λx=>x.1.isSome)
   && dt ((e::es).length+([]:List Oj).length+(if ([]:List Oj).isEmpty then 0 else 1)<30))=b8:=by rfl)
  (l:(apos.endLine==G'.line)=b8:=by rfl) (hs:i3 (e::es) X.env=(cc,wk e X.env)::i3 es X.env:=by rfl) (m:(JL G' (i3 es X.env)).any (·.1)=cc:=by rfl) :
  PE X (.Call (.Attribute o name apos) (e::es) [] G') (WG X.K T r to t):=by
 intro pins s σ H Q I h;refine Á j k l rfl (Jf (ho pins s σ H _ I h) λv s1 n=>?_);obtain⟨x,p,a,b,q,u⟩:=n;obtain⟨w,y⟩:=om a b q;refine⟨T,id,d,slot,f,w,y,?_⟩;have c:=i G' pins s1 σ p _ a u;rw[hs]at c ⊢;refine D6 (by show(cc||(JL G' (i3 es X.env)).any (·.1))=cc;rw[m]<;>rfl) (Mm ?_);exact Jf c λus s2 ⟨vs,z,A,B,C⟩=>g pins s2 σ z x vs v us Q A b B C
end
def Q7(X:Cx)(id:String)(r:V->List V->Hp->VK->Prop):Prop :=
 ∀(pins:List (fR×Obj)) (s:fS) (σ:St) (H:Hp) (x:V) (xs:List V) (v:d3) (us:List d3) (Q:VK),Inv X pins σ H s->RelV x v->Vals xs us->r x xs H Q ->
  d4 (gs X.prog X.w) X.A (Nd (.builtin id) (v::us)) (EP X pins σ Q) X.xe s
theorem Vals.one:∀{x:V}{us:List d3},Vals [x] us->∃u,us=[u]/\RelV x u
 |_,_,.cons r .nil=>⟨_,rfl,r⟩
theorem Vals.zero:∀{us:List d3},Vals [] us->us=[]
 |_,.nil=>rfl
theorem Vals.dropLast(h:Vals xs us):Vals xs.dropLast us.dropLast:=by
 induction h with
 |nil=>exact .nil
 |cons r t a =>
  cases t with
  |nil=>exact .nil
  |cons q t'=>exact .cons r a
theorem Vals.eraseIdx:∀{xs:List V}{us:List d3} (i:Nat),Vals xs us->Vals (xs.eraseIdx i) (us.eraseIdx i)
 |_,_,_,.nil=>.nil
 |_,_,0,.cons _ t=>t
 |_,_,i+1,.cons r t=>.cons r (Vals.eraseIdx i t)
theorem Vals.reverse(h:Vals xs us):Vals xs.reverse us.reverse:=by
 induction h with
 |nil=>exact .nil
 |cons r t a=>rw[Sv,Sv];exact Vals.append a (.cons r .nil)
theorem rO(l:List α):l.eraseIdx (l.length - 1)=l.dropLast:=by
 induction l with
 |nil=>rfl
 |cons a r c =>
  cases r with
  |nil=>rfl
  |cons b r =>
   have e:(a::b::r).length - 1=((b::r).length - 1)+1:=by
    have d:(a::b::r).length=r.length+2:=rfl;have f:(b::r).length=r.length+1:=rfl;lia
   rw[e,S7,c]
   all_goals rfl
theorem mB:∀(l:List α) (i:Nat),(l.eraseIdx i).length<=l.length
 |[],_=>hU _
 |_::_,0=>LB _
 |_::r,i+1=>Nat.succ_le_succ (mB r i)
section
theorem Inv.lP{its its':List d3}(I:Inv X pins σ H s)(b:H l=a5 (.lst xs))
  (e:s.heap.get? l=a5 {cls:=.type "list",data:=.seq its.toArray n}) (c:f its.toArray=its'.toArray) (d:Vals a its') (hz:a.length<=cL) :
  Inv X pins σ (upd H l (.lst a)) {s with heap:=s.heap.update l (oT f),toks:=t' }:=by
 have q:=PySem.IsL.update e f;rw[c]at q;refine I.write (x:=l) (e:=l) (by rw[b];exact trivial) (.inl rfl) (λi u g h=>(Nw s.heap (oT f) (ro g)).trans h) ⟨_,q⟩ ?_;exact⟨hz,its',_,d,q⟩
theorem Inv.IC(I:Inv X pins σ H s)(b:Vals a its)(hz:a.length<=cL):
  Inv X pins σ (upd H s.heap.objs.size (.lst a)) {s with heap:=s.heap.push {cls:=.type "list",data:=.seq its.toArray},toks:=t' } :=
 I.laid (λ_ _ q=>cK _ q) (hU _) ⟨hz,its,0,b,eH _ rfl⟩
theorem Inv.fresh(I:Inv X pins σ H s):H s.heap.objs.size=b6:=I.Ja.fresh (hU _)
theorem Inv.Be(I:Inv X pins σ H s)(a:H l=a5 (.lst xs)):xs.length<=cL/\∃(its:List d3) (n:Nat),Vals xs its/\xs.length=its.length/\s.heap.get? l=a5 {cls:=.type "list",data:=.seq its.toArray n}:=by
 obtain⟨z,its,n,r,e⟩:=I.Ja l _ a;exact⟨z,its,n,r,r.length,e⟩
theorem xV(h:n<=cL):LN n=cc:=by
 unfold LN;exact Œ ⋯
end
section
def Bg:V->List V->Hp->VK->Prop:=λx vs H Q=>∃l xs y,x=.ref l/\vs=[y]/\H l=a5 (.lst xs)/\xs.length<cL/\Q .Jc (upd H l (.lst (xs++[y])))
theorem mC:Q7 X "list.append" Bg:=by
 intro pins s σ H x vs v us Q I b rv h;obtain⟨l,xs,y,rfl,rfl,a,hz,q⟩:=h;cases b;obtain⟨u,rfl,c⟩:=rv.one;obtain⟨z,its,n,r,hl,e⟩:=I.Be a;refine Um F.slot_list_append ⟨_,e,rfl⟩ F.entry_list_append (F.args_list_append_2 _ _) (PySem.list_append l its.toArray n u (by rw[hH];lia)) ⟨e,?_⟩;refine⟨.Jc,_,I.lP (its':=its++[u]) a e (by simp) (r.append (.cons c .nil)) ?_,rfl,q⟩;rw[hV,sx];lia
def ID:V->List V->Hp->VK->Prop:=λx vs H Q=>∃l xs y,x=.ref l/\vs=[]/\H l=a5 (.lst xs)/\xs[xs.length - 1]?=a5 y/\Q y (upd H l (.lst xs.dropLast))
theorem Ec:Q7 X "list.pop" ID:=by
 intro pins s σ H x vs v us Q I b rv h;obtain⟨l,xs,y,rfl,rfl,a,c,q⟩:=h;cases b;have d:=rv.zero;subst d;obtain⟨z,its,n,r,hl,e⟩:=I.Be a;obtain⟨u,f,g⟩:=r.get c;have i:its.toArray[its.toArray.size - 1]?=a5 u:=by
  show its.toArray[its.length - 1]?=a5 u;rw[<-qp,<-hl];exact f
 refine Um ĝ ⟨_,e,rfl⟩ Ĉ (F.args_list_pop_1 _) (MeetsSeq.list_pop_last l its.toArray n u i (by rw[hH];lia)) ⟨e,?_⟩;refine⟨y,_,I.lP (its':=its.dropLast) a e ?_ r.dropLast ?_,g,q⟩
 ·show its.toArray.eraseIdxIfInBounds (its.toArray.size - 1)=its.dropLast.toArray;rw[hH,Vu,rO]
 ·rw[List.length_dropLast];lia
def Ed:V->List V->Hp->VK->Prop:=λx vs H Q=>∃l xs i k y,x=.ref l/\vs=[.int i]/\H l=a5 (.lst xs)/\-(2 ^ 63)<=i/\i<2 ^ 63/\Xw i xs.length=a5 k/\xs[k]?=a5 y/\Q y (upd H l (.lst (xs.eraseIdx k)))
theorem xW:Q7 X "list.pop" Ed:=by
 intro pins s σ H x vs v us Q I b rv h;obtain⟨l,xs,i,k,y,rfl,rfl,a,c,d,hk,f,q⟩:=h;cases b;obtain⟨u,rfl,g⟩:=rv.one;obtain⟨t,rfl⟩:=g;obtain⟨z,its,n,r,hl,e⟩:=I.Be a;obtain⟨w,j,m⟩:=r.get f;refine Um ĝ ⟨_,e,rfl⟩ Ĉ (F.args_list_pop_2 _ _)
  (MeetsSeq.list_pop_at l its.toArray n i t k w (fitsIndex_both c d) (by rw[hH,<-hl];exact hk) (by rw[<-qp];exact j) (by rw[hH];lia)) ⟨e,?_⟩
 refine⟨y,_,I.lP (its':=its.eraseIdx k) a e ?_ (r.eraseIdx k) ?_,m,q⟩
 ·show its.toArray.eraseIdxIfInBounds k=(its.eraseIdx k).toArray;rw[Vu]
 ·have:=mB xs k;lia
end
section
set_option maxRecDepth 100000 in
end
section
end
end L2
namespace U7
open PySem PySem.W PySem.Calls PyProof.Rows
theorem jJ:∀(ns:List Int) (vs:List d3),WellAll P h vs (ns.map Ĵ)->Ñ vs ns:=by
 intro ns;induction ns with
 |nil =>
  intro vs w;rw[Lx]at w;cases w;exact .nil
 |cons n ns c =>
  intro vs w;rw[d6]at w;cases w with
  |cons a b =>
   cases a;exact .cons _ _ (c _ b)
theorem v9{l:OpenLaw}(i:l.most=a5 n)
  (f:l.row.toRowW.claim.pre args=b8) (j:WellAll P h vals args) :
  ∃a vs ns,vals=[hY a]/\args=[WData.list (ns.map Ĵ)]/\h.get? a=a5 {cls:=.type "list",data:=.seq vs.toArray}/\Ñ vs ns/\ns.length<=n:=by
 have k:WShape.hasAll [] args [.list .int]=b8:=(pre_splitW f).1;have g:l.pre.holds [] {args:=args}=b8:=(pre_splitW f).2;obtain⟨d,r,rfl,m,o⟩:=hasAllW_cons k;obtain rfl:=hasAllW_nil o;obtain⟨xs,rfl,p⟩:=hasW_list m;obtain⟨ns,rfl⟩:=items_int p;have b:ns.length<=n:=by
  unfold OpenLaw.pre at g;have c:(WTm.not (.lt (.lit (.int (n:Int))) (.len (.arg 0)))).holds [] {args:=[.list (ns.map .int)]}=b8:=by
   have c:=(holds_andW g).1;rw[i]at c;exact c
  have e:=condW_of c (w_not (w_lt w_lit (w_len_list (w_arg rfl))));rw[c4]at e;refine Nat.le_of_not_lt λq=>?_;have s:(n:Int)<((ns.length:Nat):Int):=by lia
  first
   |(rw[œ s]at e;exact absurd e (by decide))
   |(simp at e;lia)
 cases j with
 |cons t u =>
  cases u;cases t with
  |list ho v=>exact⟨_,_,ns,rfl,rfl,ho,jJ ns _ v,b⟩
theorem v_(l:OpenLaw)(args:List WData):l.row.toRowW.claim.post args (.bool b8) args=b8 :=
 postW_of (r:=l.row.toRowW) (X:=(b8==b8))
  (show ė [] (.bool b8) .bool=b8 by first|rfl|decide|simp[ė,WShape.arms,WShape.armsAll])
  (show(WTm.eq .res (.lit (.bool b8))).value [] {args:=args,res:=a5 (.bool b8),after:=args}=a5 (.bool (b8==b8)) from w_eq_bool (w_res rfl) w_lit) rfl
theorem pT{l:OpenLaw}
  (p:l.most=a5 n) (s:d.params.defaults=[])
  (Nd:∀(w:Jq) (s₀ b:fS) (mg j:Str->Option d3) (fa:fR) (o:Obj) (k i c:d3) (a:fR) (vs:List d3) (ns:List Int),
   Ground q e [] t w s₀ mg j b.heap->u w b.heap ->
   b.heap.get? fa=a5 o->o.data=.func (docDef d.name d.params d.body d.scope k i c)->b.heap.CodeRec i d.name->mg d.name=a5 (.ref fa) ->
   b.heap.get? a=a5 {cls:=.type "list",data:=.seq vs.toArray}->Ñ vs ns->ns.length<=n->b.gens=#[] ->
   Qq (gs l.prog w) Uk (.call (.ref fa) ⟨[.ref a],[]⟩) (λr s'=>r=.ok (.ret (.bool b8))/\OldK b.heap s'.heap/\s'.os=b.os/\To s'.gens) b) :
  WalkO q e t u l.row.toRowW d [] (λf vs=>PySem.call f vs):=by
 intro w s₀ b mg j G Y fa o k i c v kV ho x y m z A args vals as B O Q C T;obtain rfl:v=.none:=Dflts.none m s;obtain rfl:kV=.none:=Dflts.noKw m;obtain⟨a,vs,ns,rfl,rfl,D,g,h⟩:=v9 p B C;refine enter_call (Sq (Nd w s₀ b mg j fa o k i c a vs ns G Y ho (fd_plain x) y z D g h A) λr s' H=>?_);obtain⟨rfl,I,J,L⟩:=H;exact⟨.inl ⟨.bool b8,.bool b8,[],rfl,λ_=>rfl,.bool b8,v_ l _,λ_=>⟨ı,λ_ N=>(nomatch N)⟩⟩,I,J,L⟩
section
end
end U7
namespace L2
open PySem PySem.Spec PyProof.Rows
theorem mD:∀{vs:List d3}{ns:List Int},Ñ vs ns->Vals (ns.map V.int) vs
 |_,_,.nil=>.nil
 |_,_,.cons n t h=>.cons ⟨t,rfl⟩ (mD h)
def Ee(H:Hp):Prop:=∀b,H b=b6\/∃o xs,H b=a5 (.Kq o (.lst xs))
theorem xX{K:PySem.W.Frag}
  (y:K.In c.heap) (A:c.heap.Ns qP mg) (f:c.heap.Ns Ą B) (N:∀x:Str,x≠"__name__"->B x=u7 x) (O:c.heap.NoLimit) (Q:c.gens=#[])
  (l:c.heap.get? a=a5 {cls:=.type "list",data:=.seq vs.toArray}) (hi:Ñ vs ns) (hl:ns.length<=cL) (T:ft k Uk)
  (F:∀base:Jy,K.In base->base.Ns qP mg->iN P w K mg base CX k fa Y [x] sp) (PN:∀(s:fS) (u:d3),Ê s Y ⟨[u],[]⟩ [(x,u)])
  (KH:∀H:Hp,Ee H->JA K H a (ns.map V.int)->sp [.ref a] H (λv _=>v=.bl b8) λ_ _ _=>False)
  (Sz:∀H e s',CX [] H c (λ_ _ _=>False) e s'->False) :
  Qq (gs P w) Uk (.call (.ref fa) ⟨[.ref a],[]⟩) (λr s'=>r=.ok (.ret (.bool b8))/\OldK c.heap s'.heap/\s'.os=c.os/\To s'.gens) c:=by
 have rv:=mD hi;have SA:=hi.length;have g:∀H:Hp,Ee H->JA K H a (ns.map V.int)->J6 P w H c.heap->(∀b,H b≠b6->b=a)->(H a≠b6->K.lookup a=b6) ->
   Qq (gs P w) Uk (.call (.ref fa) ⟨[.ref a],[]⟩) (λr s'=>r=.ok (.ret (.bool b8))/\OldK c.heap s'.heap/\s'.os=c.os/\To s'.gens) c:=by
  intro H C hS D G hK;have jY:∀{b:fR} {o:Obj},c.heap.get? b=a5 o->H b=b6->(nV c.heap H).get? b=a5 o:=λe n=>xG e n;have PH:∀{b:fR} {o:Obj} {es:Array DictEntry} {ep:Nat},c.heap.get? b=a5 o->o.data=.dict es ep->H b=b6:=λ{b o es ep} e d=>by
   cases q:H b with
   |none=>rfl
   |some u =>
    have t:b=a:=G b (by rw[q];simp);subst t;rw[l]at e;cases e;have d':Data.seq vs.toArray _=Data.dict es ep:=d;cases d'
  have p:∀{b:fR} {m:Str->Option d3},c.heap.Ns b m->(nV c.heap H).Ns b m:=λ{b m} ⟨o,es,ep,e,d,r⟩=>⟨o,es,ep,jY e (PH e d),d,r⟩
  have I:K.In (nV c.heap H):=λb o e=>jY (y b o e) (by
   cases q:H b with
   |none=>rfl
   |some u =>
    have t:b=a:=G b (by rw[q];simp);subst t;rw[hK (by rw[q];simp)]at e;cases e)
  have hM:Mod K mg (nV c.heap H):=⟨I,p A,⟨B,p f,N⟩,let ⟨mc,h1,h2⟩:=O;⟨mc,p h1,h2⟩⟩
  have e0:A7 P w K mg (nV c.heap H) Uk [] c H:=⟨rfl,hM,λb o e=>AS e,Zl (vV _ _),trivial,λb f=>absurd (show b∈([]:List fR) from f) (by simp),D,.of_eq Q⟩
  refine Sq ((F _ I (p A)).run Uk [] c H ⟨[.ref a],[]⟩ [.ref a] [.ref a] _ _ T e0 (PN c (.ref a)) (.cons rfl .nil) (KH H C hS)) λr s' h=>?_;cases r with
  |error e=>exact(Sz H e s' h).elim
  |ok fl =>
   cases fl with
   |ret u =>
    obtain⟨v,H',os,i,J,SD,r',q⟩:=h;have q':v=.bl b8:=q;subst q';obtain rfl:u=RJ b8:=r';refine⟨rfl,OldK.of_keep λb o e=>?_,os,i⟩;cases q:H b with
    |none=>exact J.keep b o e q (by intro z;exact absurd (show b∈([]:List fR) from z) (by simp)) (by simp)
    |some u =>
     rcases C b with z|⟨ob,xs,z⟩
     ·rw[q]at z;cases z
     ·have z2:=J.J_ b ob _ z;obtain⟨L,_⟩:=D b _ z;obtain⟨e2,_⟩:=SD b _ z2;rw[e]at L;cases L;exact e2
   |_=>exact Nv h
 cases hk:K.lookup a with
 |some o =>
  have e:=y a o hk;rw[l]at e;cases e;refine g (λ_=>b6) (λ_=>.inl rfl) (.inr ⟨_,vs.toArray,_,hk,rfl,rfl,rfl,by rw[hH,SA];exact hl,by simpa using rv⟩) (λb u z=>by have j:(b6:Option HO)=a5 u:=z;cases j) (λb z=>absurd rfl z) λz=>absurd rfl z
 |none =>
  refine g (λb=>if b=a then a5 (.Kq {cls:=.type "list",data:=.seq vs.toArray} (.lst (ns.map V.int))) else b6) (λb=>?_) (.inl (.inr ⟨{cls:=.type "list",data:=.seq vs.toArray},Ő rfl⟩)) (λb u z=>?_) (λb z=>?_) λ_=>hk
  ·by_cases f:b=a
   ·exact .inr ⟨_,_,Ő f⟩
   ·exact .inl (ő f)
  ·by_cases f:b=a
   ·have j:=(Ő f).symm.trans z;cases j;subst f;exact⟨l,by rw[c4];exact hl,vs,_,rv,l⟩
   ·have j:=(ő f).symm.trans z;cases j
  ·by_cases f:b=a
   ·exact f
   ·exact absurd (ő f) z
theorem Bh{l:PySem.W.OpenLaw}{K:VH->PySem.W.Frag}{CX:Jq->N5}{sp:Jq->Sp}
  (r:l.most=a5 n) (t:n<=cL) (y:d.params.defaults=[]) (z:ft k Uk)
  (A:∀(w:Jq) (h:Jy),B w h->(K w.params).In h)
  (F:∀(w:Jq) (mg:Str->Option d3) (fa:fR) (h:Jy),(K w.params).In h->h.Ns qP mg->mg d.name=a5 (.ref fa) ->
   ∃j:SF,(∀(s:fS) (u:d3),Ê s j ⟨[u],[]⟩ [(x,u)]) /\
    ∀base:Jy,(K w.params).In base->base.Ns qP mg->iN l.prog w (K w.params) mg base (CX w) k fa j [x] (sp w))
  (C:∀(w:Jq) (H:Hp) (a:fR) (ns:List Int),ns.length<=n->Ee H->JA (K w.params) H a (ns.map V.int)->sp w [.ref a] H (λv _=>v=.bl b8) λ_ _ _=>False)
  (D:∀(w:Jq) (H:Hp) (s:fS) (e:d3) (s':fS),CX w [] H s (λ_ _ _=>False) e s'->False) :
  PySem.W.WalkO q m XP B l.row.toRowW d [] (λf vs=>PySem.call f vs):=by
 refine U7.pT r y λw s₀ I mg mb fa o pm cd J a vs ns G Y ho hd JM L N i c O=>?_;have p:=A w _ Y;obtain⟨j,Q,hF⟩:=F w mg fa _ p G.T.g L;exact xX p G.T.g G.T.b G.T.builtins G.T.nolimit O N i (H8 c t) z hF Q (λH hO hS=>C w H a ns c hO hS) λH e s'=>D w H I e s'
noncomputable def fW(s:M3):Arguments:=match s with
 |.FunctionDef _ a _ _ _ _ _ _ _ _=>a
 |_=>{posonlyargs:=[],args:=[],vararg:=b6,kwonlyargs:=[],kw_defaults:=[],kwarg:=b6,defaults:=[]}
noncomputable def cT(s:M3):List M3:=match s with
 |.FunctionDef _ _ b _ _ _ _ _ _ _=>b
 |_=>[]
noncomputable def aQ(s:M3):Nb:=match s with
 |.FunctionDef _ _ _ _ _ _ a _ _ _=>a
 |_=>{kind:=.function,names:=[],isGenerator:=cc,isCoroutine:=cc}
abbrev Oa:N5:=λ_ _ _ _ _ _=>False
abbrev E0:XK:=λ_ _ _=>False
theorem GN:Passes Oa X E0:=λ_ _ _ _ _ _ _ h=>h.elim
structure NC(K:PySem.W.Frag)(x qual:Str)(st:M3)(f:fR)(fd:SF):Prop where
 ex:∃(oc:d3) (od:Option fR) (kV doc pm:d3) (an:Option fR) (Kg ct:d3) (N7:Array (Option d3)),
  fd=PySem.W.fnOf x qual (fW st) (cT st) (aQ st) .none kV doc pm an Kg ct/\K.lookup f=a5 ⟨oc,od,.func fd,N7⟩/\PySem.W.codeIn K Kg qual=b8
 kp:PySem.W.keepIn K (.ref f)=b8
section
variable{P:ve}{w:Jq}{K:PySem.W.Frag}{mg:Str->Option d3}{base:Jy}
theorem NC.ok{st:M3}(F:NC K x a st f d)(S:dU N ps (aQ st))(c:∀vs H Q E,sp vs H Q E->vs.length=ps.length)
  (e:∀(b:d3) (A:N8) (outer:List Env) (s:fS) (H:Hp) (vs:List V) (Q:VK) (E:XK),ft k (A.deeper (Uv a (aQ st) s.heap.objs.size f b))->sp vs H Q E ->
   ∃t,Kf (pQ Oa P w K mg base N a (aQ st) f b A outer s H E).M1 (cT st) t/\t {nx:=λ_ H'=>Q .Jc H',rt:=Q} (start N vs) H):iN P w K mg base Oa (k+1) f d ps sp:=by
 obtain⟨m,n,kV,g,o,p,b,ct,r,rfl,lk,i⟩:=F.ex;refine Df lk i S c λA outer s H vs Q E j l=>?_;obtain⟨t,h,q⟩:=e b A outer s H vs Q E j l;exact⟨t,h.M1,q⟩
theorem Ef{st:M3}{kV b e d ct:d3}(l:K.lookup f=a5 ⟨h,i,.func (PySem.W.fnOf x a (fW st) (cT st) (aQ st) .none kV b e g d ct),j⟩)
  (c:PySem.W.codeIn K d a=b8) (k:PySem.W.keepIn K (.ref f)=b8):NC K x a st f (PySem.W.fnOf x a (fW st) (cT st) (aQ st) .none kV b e g d ct):=⟨⟨h,i,kV,b,e,g,d,ct,j,rfl,l,c⟩,k⟩
end
section
end
def pU(H H':Hp):Prop:=∀b o,H b=a5 o->H' b=a5 o
section
variable{κ:Type}[DecidableEq κ]
noncomputable def dy(kvs:List (κ×V))(k:κ):Option V:=(kvs.find? λkv=>dt (kv.1=k)).map (·.2)
noncomputable def putK(kvs:List (κ×V))(k:κ)(v:V):List (κ×V) :=
 if (kvs.any λkv=>dt (kv.1=k))=b8 then kvs.map (λkv=>if kv.1=k then(kv.1,v) else kv) else kvs++[(k,v)]
theorem eB{p:κ×V}{k:κ}(e:p.1=k):dy (p::r) k=a5 p.2:=by simp[dy,NY,e]
theorem eC{p:κ×V}{k:κ}(e:¬p.1=k):dy (p::r) k=dy r k:=by simp[dy,NY,e]
theorem g_(k:κ):∀kvs:List (κ×V),(kvs.any λkv=>dt (kv.1=k))=(dy kvs k).isSome
 |[]=>rfl
 |p::r=>by
  rw[UR];by_cases e:p.1=k
  ·simp only[eB e,œ e,Bool.true_or,Option.isSome_some]
  ·rw[eC e,Œ e,Bool.false_or];exact g_ k r
theorem jl(kvs:List (κ×V))(k:κ)(v:V):(putK kvs k v).length<=kvs.length+1:=by
 unfold putK;split
 ·rw[c4];lia
 ·rw[hV,ke,Tt];lia
theorem xY{k:κ}(v:V)(h:dy kvs k=b6):putK kvs k v=kvs++[(k,v)]:=by
 unfold putK;rw[g_,h];exact ő (by decide)
theorem jH.eD(r:jH o u):o.isSome=u.isSome:=by
 cases o with
 |none=>cases u with
  |none=>rfl
  |some _=>exact(show False from r).elim
 |some _=>cases u with
  |none=>exact(show False from r).elim
  |some _=>rfl
theorem jH.getD(r:jH o u)(a:RelV d d'):RelV (o.getD d) (u.getD d'):=by
 cases o with
 |none=>cases u with
  |none=>exact a
  |some _=>exact(show False from r).elim
 |some _=>cases u with
  |none=>exact(show False from r).elim
  |some _=>exact r
theorem KV.val(r:KV kvs vs)(k:κ):jH (dy kvs k) (Wj vs k):=by
 unfold KV at r;induction r with
 |nil=>exact W3
 |@cons p q ps a h t f =>
  obtain⟨d,g⟩:=h;by_cases e:p.1=k
  ·have c:q.1=k:=d.symm.trans e;have b:Wj (q::a) k=a5 q.2:=by simp[Wj,NY,c]
   rw[eB e,b];exact g
  ·have c:¬q.1=k:=λz=>e (d.trans z);have b:Wj (q::a) k=Wj a k:=by simp[Wj,NY,c]
   rw[eC e,b];exact f
theorem KV.any(r:KV kvs vs)(k:κ):(kvs.any λkv=>dt (kv.1=k))=vs.any λkv=>dt (kv.1=k):=by
 unfold KV at r;induction r with
 |nil=>rfl
 |cons h t a=>rw[UR,UR,a,h.1]
theorem KV.Eg(r:KV kvs vs)(k:κ)(b:RelV y u):
  KV (kvs.map λkv=>if kv.1=k then(kv.1,y) else kv) (vs.map λkv=>if kv.1=k then(kv.1,u) else kv):=by
 unfold KV at r ⊢;induction r with
 |nil=>exact .nil
 |@cons p q ps f h t c =>
  rw[d6,d6];refine .cons ?_ c;obtain⟨a,d⟩:=h;by_cases e:p.1=k
  ·rw[Ő e,Ő (a.symm.trans e)];exact⟨a,b⟩
  ·rw[ő e,ő (λz=>e (a.trans z))];exact⟨a,d⟩
theorem KV.put(r:KV kvs vs)(k:κ)(a:RelV y u):KV (putK kvs k y) (Ľ vs k u):=by
 unfold putK Ľ;rw[r.any k];by_cases e:(vs.any λkv=>dt (kv.1=k))=b8
 ·rw[Ő e,Ő e];exact r.Eg k a
 ·rw[ő e,ő e];exact Paired.snoc r ⟨rfl,a⟩
theorem KV.length(r:KV kvs vs):kvs.length=vs.length:=Paired.length r
end
theorem mE(r:RelV (kV k) u):(aG P w).is k u=b8:=by
 cases k with
 |inl i=>obtain⟨t,e⟩:=(show ∃t,u=Vq i t from r);subst e;exact pM P w i t
 |inr x=>obtain⟨t,e⟩:=(show ∃t,u=t5 x t from r);subst e;exact pN P w x t
theorem mF:∀{ks:List Key}{us:List d3},Vals (ks.map kV) us->ItemsAre (aG P w) ks us
 |[],_,r=>by rw[Lx]at r;cases r;exact .nil
 |k::ks,_,r=>by
  rw[d6]at r;cases r with
  |cons h t=>exact .cons (mE h) (mF t)
abbrev KT(H:Hp):List (List Key×V)->List (List Key×fR×d3)->Prop:=Paired λp q=>p.1=q.1/\H q.2.1=a5 (.tup (p.1.map kV))/\RelV p.2 q.2.2
theorem KT.val(r:KT H kvs xs)(k:List Key):jH (dy kvs k) ((Zd xs k).map (·.2)):=by
 induction r with
 |nil=>exact W3
 |@cons p q ps a h t f =>
  obtain⟨d,_,g⟩:=h;by_cases e:p.1=k
  ·have c:q.1=k:=d.symm.trans e;have b:Zd (q::a) k=a5 q.2:=by simp[Zd,NY,c]
   rw[eB e,b];exact g
  ·have c:¬q.1=k:=λz=>e (d.trans z);have b:Zd (q::a) k=Zd a k:=by simp[Zd,NY,c]
   rw[eC e,b];exact f
theorem KT.Eg(r:KT H kvs xs)(k:List Key)(c:RelV y u):
  KT H (kvs.map λkv=>if kv.1=k then(kv.1,y) else kv) (xs.map (putAt k u)):=by
 induction r with
 |nil=>exact .nil
 |@cons p q ps g h t d =>
  rw[d6,d6];refine .cons ?_ d;obtain⟨a,b,f⟩:=h;unfold putAt;by_cases e:p.1=k
  ·rw[Ő e,Ő (a.symm.trans e)];exact⟨a,b,c⟩
  ·rw[ő e,ő (λz=>e (a.trans z))];exact⟨a,b,f⟩
theorem KT.put(r:KT H kvs xs)(k:List Key)(c:H b=a5 (.tup (k.map kV)))(a:RelV y u):
  KT H (putK kvs k y) (storedH xs k b u):=by
 have e:(kvs.any λkv=>dt (kv.1=k))=(Zd xs k).isSome:=by
  rw[g_,(r.val k).eD,U0]
 unfold putK storedH;rw[e];by_cases q:(Zd xs k).isSome=b8
 ·rw[Ő q,Ő q];exact r.Eg k a
 ·rw[ő q,ő q];exact Paired.snoc r ⟨rfl,c,a⟩
theorem KT.keeps(r:KT H kvs xs)(c:∀b a,H b=a5 (.tup a)->H' b=a5 (.tup a)):KT H' kvs xs :=
 Paired.DM r λ_ _ z=>⟨z.1,c _ _ z.2.1,z.2.2⟩
section
theorem Dg(b:J6 P w H h)(e:Rd H a u):bA P w H h a u:=e.ok b
theorem kl(b:J6 P w H h)(e:Rd H a (.dK kvs)):kvs.length<=cL/\(a==N4)=cc/\∃vs,KV kvs vs/\h.DictOf (aG P w) a vs :=
 show bA P w H h a (.dK kvs) from Dg b e
theorem xZ(b:J6 P w H h)(e:H a=a5 (.dK kvs)):kvs.length<=cL/\(a==N4)=cc/\∃vs,KV kvs vs/\h.DictOf (aG P w) a vs:=kl b (.inl e)
theorem iO(b:J6 P w H h)(e:H a=a5 (.tup (ks.map kV))):(Vh (aG P w)).is h ks a:=by
 obtain⟨_,its,r,o,c,d,n,f⟩:=(show bA P w H h a (.tup (ks.map kV)) from b a _ e)
 exact⟨o,its.toArray,n,c,d,f,by simpa using mF r⟩
theorem km(b:J6 P w H h)(e:Rd H a (.dT kvs)):kvs.length<=cL/\(a==N4)=cc /\
  ∃xs,KT H kvs xs/\h.DictOfH (Vh (aG P w)) a xs:=by
 obtain⟨z,y,xs,r,o,es,ep,d,f,g,i,j⟩:=(show bA P w H h a (.dT kvs) from Dg b e)
 refine⟨z,y,xs,r,o,es,ep,d,f,g,i,λx hx=>?_,j⟩;have all:∀{l:List (List Key×V)} {m:List (List Key×fR×d3)},KT H l m->∀x∈m,(Vh (aG P w)).is h x.1 x.2.1:=by
  intro l m q;induction q with
  |nil=>intro x hx;exact nomatch hx
  |@cons p q ps n c t k =>
   intro x hx;rcases et.mp hx with e|hx
   ·subst e;exact iO b (by rw[<-c.1];exact c.2.1)
   ·exact k x hx
 exact all r x hx
theorem GO(b:J6 P w H h)(e:H a=a5 (.dT kvs)):kvs.length<=cL/\(a==N4)=cc /\
  ∃xs,KT H kvs xs/\h.DictOfH (Vh (aG P w)) a xs:=km b (.inl e)
end
def d0(H:Hp)(a:fR)(y:V)(r:Option V):Prop :=
 (∃kvs k,Rd H a (.dK kvs)/\y=kV k/\r=dy kvs k)\/∃kvs k b,Rd H a (.dT kvs)/\y=.ref b/\H b=a5 (.tup (k.map kV))/\r=dy kvs k
def wa(H:Hp)(a:fR)(y v:V)(H':Hp):Prop :=
 (∃kvs k,H a=a5 (.dK kvs)/\y=kV k/\kvs.length<cL/\H'=upd H a (.dK (putK kvs k v))) \/
 ∃kvs k b,H a=a5 (.dT kvs)/\y=.ref b/\H b=a5 (.tup (k.map kV))/\kvs.length<cL/\H'=upd H a (.dT (putK kvs k v))
theorem d0.k{H:Hp}{a:fR}{kvs:List (Key×V)}{k:Key}(e:H a=a5 (.dK kvs)):d0 H a (kV k) (dy kvs k):=.inl ⟨kvs,k,.inl e,rfl,rfl⟩
theorem wa.k{H:Hp}{a:fR}{kvs:List (Key×V)}{k:Key}{v:V}(e:H a=a5 (.dK kvs))(hl:kvs.length<cL):wa H a (kV k) v (upd H a (.dK (putK kvs k v))):=.inl ⟨kvs,k,e,rfl,hl,rfl⟩
section
theorem Inv.big(I:Inv X pins σ H s):N4<s.heap.objs.size:=by
 have h:qP<s.heap.objs.size:=(I.mod.glob.keeps I.bk).lt;exact P6 (by decide) h
theorem mG(n:A.units+1<LU)(I:Inv X pins σ H s)(g:d0 H a y (a5 v))(m:RelV y u)(h:∀d s',Inv X pins σ H s'->RelV v d->Q d s'):
  d4 (gs X.prog X.w) A (Wu (.ref a) u) Q E s:=by
 rcases g with⟨kvs,k,e,f,l⟩|⟨kvs,k,b,e,f,q,l⟩
 ·subst f;obtain⟨z,r,vs,c,dd⟩:=kl I.Ja e;obtain⟨d,i,j⟩:=jH.some_of (v:=v) (o:=Wj vs k) (by rw[l];exact c.val k);exact wpAny_getItem_of (mE m) dd.mapOf i (h d _ (I.tok _) j)
 ·subst f;cases(show u=hY b from m);obtain⟨z,r,xs,c,dd⟩:=km I.Ja e;obtain⟨d,i,j⟩:=jH.some_of (v:=v) (o:=(Zd xs k).map (·.2)) (by rw[l];exact c.val k);obtain⟨p,t,x⟩:=fx.mp i;refine wpAny_getItem_heap (PR n) (iO I.Ja q) dd t ?_;rw[x];exact h d _ (I.tok _) j
theorem GP(j:A.units+1<LU)(I:Inv X pins σ H s)(g:d0 H a y o)(i:RelV y u)(h:∀s',Inv X pins σ H s'->Q (.bool o.isSome) s'):
  d4 (gs X.prog X.w) A (LZ .In u (.ref a)) Q E s:=by
 rcases g with⟨kvs,k,e,d,l⟩|⟨kvs,k,b,e,d,m,l⟩
 ·subst d;obtain⟨z,f,vs,c,dd⟩:=kl I.Ja e;refine wpAny_in_of (mE i) f dd.mapOf ?_;rw[<-(c.val k).eD,<-l];exact h _ (I.tok _)
 ·subst d;cases(show u=hY b from i);obtain⟨z,f,xs,c,dd⟩:=km I.Ja e;refine wpAny_in_heap (PR j) (iO I.Ja m) f dd ?_;have q:=(c.val k).eD;rw[U0]at q;rw[<-q,<-l];exact h _ (I.tok _)
theorem uc(j:A.units+1<LU)(I:Inv X pins σ H s)(g:d0 H a y o)(i:RelV y u)(h:∀s',Inv X pins σ H s'->Q (.bool (!o.isSome)) s'):
  d4 (gs X.prog X.w) A (LZ .NotIn u (.ref a)) Q E s:=by
 rcases g with⟨kvs,k,e,d,l⟩|⟨kvs,k,b,e,d,m,l⟩
 ·subst d;obtain⟨z,f,vs,c,dd⟩:=kl I.Ja e;refine wpAny_notIn_of (mE i) f dd.mapOf ?_;rw[<-(c.val k).eD,<-l];exact h _ (I.tok _)
 ·subst d;cases(show u=hY b from i);obtain⟨z,f,xs,c,dd⟩:=km I.Ja e;refine wpAny_notIn_heap (PR j) (iO I.Ja m) f dd ?_;have q:=(c.val k).eD;rw[U0]at q;rw[<-q,<-l];exact h _ (I.tok _)
theorem ud(I:Inv X pins σ H s)(mu:Pu (H a))(hs:o3 a s.heap h')(d:∃q,h'.get? a=a5 q)(new:bA X.prog X.w (upd H a c) h' a c):
  Inv X pins σ (upd H a c) {s with heap:=h',toks:=t' } :=
 I.write (x:=a) (e:=a) mu (.inl rfl) (λb q f z=>(hs.2 b f).trans z) d new
theorem Eh(z:kvs.length<=cL)(c:(a==N4)=cc)(b:KV kvs vs)(dd:h'.DictOf (aG P w) a vs):
  bA P w H' h' a (.dK kvs):=⟨z,c,vs,b,dd⟩
theorem wb(x:A.units+1<LU)(I:Inv X pins σ H s)(g:wa H a y v H')(o:RelV y u)(rv:RelV v r)(h:∀s',Inv X pins σ H' s'->Q () s'):
  d4 (gs X.prog X.w) A (Ua (.ref a) u r) Q E s:=by
 rcases g with⟨kvs,k,e,j,l,m⟩|⟨kvs,k,b,e,j,p,l,m⟩
 ·subst j m;obtain⟨z,n,vs,d,dd⟩:=xZ I.Ja e;have hz:vs.length<=cL:=by rw[<-d.length];exact z
  have hl:(putK kvs k v).length<=cL:=by have:=jl kvs k v;lia
  refine wpAny_setItem_pairs (hsz:=hz) (mE o) dd λh' f hs=>h _ ?_;have B:∃q,h'.get? a=a5 q:=let ⟨q,_,_,i,_⟩:=f;⟨q,i⟩;exact ud I (by rw[e];exact W3) hs B (Eh hl n (d.put k rv) f)
 ·subst j m;cases(show u=hY b from o);obtain⟨z,n,xs,d,dd⟩:=GO I.Ja e;have hz:xs.length<=cL:=by rw[<-Paired.length d];exact z
  have hl:(putK kvs k v).length<=cL:=by have:=jl kvs k v;lia
  refine wpAny_setItem_heap (hsz:=hz) (PR x) (iO I.Ja p) dd λh' f hs=>h _ ?_;obtain⟨q,es,ep,i,C,D,G,_,J⟩:=f;refine ud I (by rw[e];exact W3) hs ⟨q,i⟩ ⟨hl,n,_,(d.put k p rv).keeps λc L t=>?_,q,es,ep,i,C,D,G,J⟩;rw[au (Gh t e (λz=>nomatch z))];exact t
end
section
end
def Ei(i:mx):Prop:=∀a b,X0 i cc a b=operate [a,b] (Wu a b)
theorem Bi{T id:String}
  (hl:T_ (.type T) "__getitem__"=pure (a5 (.builtin id))) (hs:Ei a)
  (h:d4 (gs prog w) A (wk b env) (λo f=>d4 (gs prog w) A (wk a env) (λi d=>d.TypeIs o T/\d4 (gs prog w) A (Wu o i) Q E d) E f) E s) :
  d4 (gs prog w) A (wk (.Subscript b a pos) env) Q E s:=by
 refine ĉ (qb h (λo f k=>qb k (λi d e=>?_) λ_ _ x=>x) λ_ _ x=>x);obtain⟨g,e⟩:=e;unfold VE;refine bD ?_;rw[getitemInPython_of_ne g.not_modules];refine bD (UH g hl ?_);have c:d4 (gs prog w) A (X0 a cc o i) (λr j=>d4 (gs prog w) A (letTemporaryGo b o r >>= λ_=>pure r) Q E j) E d:=by
  rw[hs o i];exact wpAny_operating (qb e (λr j l=>bD (wpAny_letTemporaryGo (df l))) λ_ _ x=>x)
 first
  |exact df (bD c)
  |exact bD (df (bD c))
  |exact bD c
theorem jm(I:Inv X pins σ H s)(g:d0 H a y o):s.TypeIs (.ref a) "dict":=by
 rcases g with⟨kvs,k,e,_,_⟩|⟨kvs,k,b,e,_,_,_⟩
 ·obtain⟨_,_,vs,_,dd⟩:=kl I.Ja e;exact dd.typeIs
 ·obtain⟨_,_,xs,_,dd⟩:=km I.Ja e;exact dd.typeIs
def GQ(c d:TE):TE:=λσ H Q=>c σ H λx e=>d σ e λy b=>∃a v,x=.ref a/\d0 b a y (a5 v)/\Q v b
def IE(c d:TE):TE:=λσ H Q=>c σ H λy e=>d σ e λx b=>∃a o,x=.ref a/\d0 b a y o/\Q (.bl o.isSome) b
def Bj(c d:TE):TE:=λσ H Q=>c σ H λy e=>d σ e λx b=>∃a o,x=.ref a/\d0 b a y o/\Q (.bl (!o.isSome)) b
section
theorem Bl(c:X.A.units+1<LU)(ho:PE X o d)(hi:PE X i e)(hs:Ei i):PE X (.Subscript o i pos) (GQ d e):=by
 intro pins s σ H Q I h;refine Bi PySem.F.slot_dict_getitem.lookup hs (Jf (ho pins s σ H _ I h) λu s1 ⟨x,f,j,k,l⟩=>Jf (hi pins s1 σ f _ j l) λw s2 m=>?_);obtain⟨y,n,b,p,a,v,ex,g,q⟩:=m;subst ex;obtain rfl:u=hY a:=k;exact⟨jm b g,mG c b g p λz s3 r t=>⟨v,n,r,t,q⟩⟩
theorem Ej(b:X.A.units+1<LU)(hi:PE X i c)(ho:PE X o d):PC X .In i o (IE c d):=by
 intro pins s σ H Q I h;refine Jf (hi pins s σ H _ I h) λv s1 ⟨y,e,f,j,k⟩=>Jf (ho pins s1 σ e _ f k) λu s2 l=>?_;obtain⟨x,m,n,p,a,q,ex,g,r⟩:=l;subst ex;obtain rfl:u=hY a:=p;exact GP b n g j λs3 t=>⟨.bl q.isSome,m,t,rfl,r⟩
theorem wc(b:X.A.units+1<LU)(hi:PE X i c)(ho:PE X o d):PC X .NotIn i o (Bj c d):=by
 intro pins s σ H Q I h;refine Jf (hi pins s σ H _ I h) λv s1 ⟨y,e,f,j,k⟩=>Jf (ho pins s1 σ e _ f k) λu s2 l=>?_;obtain⟨x,m,n,p,a,q,ex,g,r⟩:=l;subst ex;obtain rfl:u=hY a:=p;exact uc b n g j λs3 t=>⟨.bl (!q.isSome),m,t,rfl,r⟩
end
theorem x6(h:Jy)(a:N4<h.objs.size):bA P w H (h.push {cls:=.type "dict",data:=.dict #[]}) h.objs.size (.dK []) :=
 ⟨ki _,beq_eq_false_iff_ne.mpr (ro (hQ a)),[],.nil,YF h⟩
def Ek:TE:=λ_ H Q=>∀p,H p=b6->Q (.ref p) (upd H p (.dK []))
section
theorem pV:PE X (.Dict [] [] pos) Ek:=λpins s σ H Q I h =>
 wpAny_Dict_empty ⟨.ref s.heap.objs.size,_,I.laid (a:=s.heap.objs.size) (o:=.dK []) (t':=s.toks) (λ_ _ q=>cK _ q) (hU _) (x6 s.heap I.big),rfl,h _ (I.Ja.fresh (hU _))⟩
end
structure M2(X:Cx)(o:mx)(m:Str)(apos:Pos)(e f:mx)(G':Pos):Prop where
 base:Pz o m X.env (wk o X.env)=wk o X.env
 M4:((JL G' (i3 [e,f] X.env)).all (λx=>!x.1)&&(Qt G' (MO [] X.env)).all (λx=>x.1.isSome)
  && dt (([e,f]:List mx).length+([]:List Oj).length+(if ([]:List Oj).isEmpty then 0 else 1)<30))=b8
 line:(apos.endLine==G'.line)=b8
 trees:JL G' (i3 [e,f] X.env)=[(cc,wk e X.env),(cc,wk f X.env)]
def U_(H:Hp)(a:fR):Prop:=(∃kvs,Rd H a (.dK kvs))\/∃kvs,Rd H a (.dT kvs)
theorem El(I:Inv X pins σ H s)(d:U_ H a):
  s.TypeIs (.ref a) "dict"/\(∀b,hY a=.ref b->∃c,s.heap.get? b=a5 c/\c.dict=b6)/\(a==N4)=cc:=by
 rcases d with⟨kvs,e⟩|⟨kvs,e⟩
 ·obtain⟨_,f,vs,_,dd⟩:=kl I.Ja e;refine⟨dd.typeIs,λb q=>?_,f⟩;cases q;obtain⟨c,_,_,g,h,_⟩:=dd;exact⟨c,g,h.2.1⟩
 ·obtain⟨_,f,xs,_,dd⟩:=km I.Ja e;refine⟨dd.typeIs,λb q=>?_,f⟩;cases q;obtain⟨c,_,_,g,h,_⟩:=dd;exact⟨c,g,h.2.1⟩
section
theorem Em(p:A.units+1<LU)(I:Inv X pins σ H s)(g:d0 H a y o)(j:RelV y u)(m:RelV d r)(h:∀n s',Inv X pins σ H s'->RelV (o.getD d) n->Q n s'):
  d4 (gs X.prog X.w) A (Nd (.builtin "dict.get") [.ref a,u,r]) Q E s:=by
 rcases g with⟨kvs,k,e,f,l⟩|⟨kvs,k,b,e,f,q,l⟩
 ·subst f;obtain⟨z,i,vs,c,dd⟩:=kl I.Ja e;refine Wz PySem.F.slot_dict_get dd.typeIs PySem.F.entry_dict_get (PySem.F.args_dict_get_3 _ _ _) (meets_dict_get_default (aG X.prog X.w) a (mE j) i r) ⟨_,dd.mapOf,h _ _ (I.tok _) ?_⟩;rw[l];exact(c.val k).getD m
 ·subst f;cases(show u=hY b from j);obtain⟨z,i,xs,c,dd⟩:=km I.Ja e;refine Wz PySem.F.slot_dict_get dd.typeIs PySem.F.entry_dict_get (PySem.F.args_dict_get_3 _ _ _) (meetsH_dict_get_default (Vh (aG X.prog X.w)) a b i r) ⟨PR p,k,xs,iO I.Ja q,dd,h _ _ (I.tok _) ?_⟩;rw[l];exact(c.val k).getD m
end
def En(d e f:TE):TE:=λσ H Q=>d σ H λx b=>∃a,x=.ref a/\U_ b a/\e σ b λy g=>f σ g λz c=>∃o,d0 c a y o/\Q (o.getD z) c
section
theorem x8(i:X.A.units+1<LU)(ho:PE X o j)(k:PE X e l)(n:PE X f p)(m:M2 X o "get" b e f q):PE X (.Call (.Attribute o "get" b) [e,f] [] q) (En j l p):=by
 intro pins s σ H Q I h;refine wpAny_Call_method m.base m.M4 m.line PySem.F.plainAttrs_dict PySem.F.slot_dict_get PySem.F.type_dict_get (Jf (ho pins s σ H _ I h) λu s1 r=>?_);obtain⟨x,t,c,v,a,ex,d,w⟩:=r;subst ex;obtain rfl:u=hY a:=v;obtain⟨B,C,_⟩:=El c d;refine⟨B,C,?_⟩;rw[m.trees];refine D6 rfl (Mm (Nt (Jf (k pins s1 σ t _ c w) λiv s2 ⟨y,D,G,J,L⟩ =>
  Nt (Jf (n pins s2 σ D _ G L) λfv s3 ⟨z,N,O,T,ov,g,Y⟩=>PB ?_))))
 exact Em i O g J T λw' s4 I4 K9=>⟨_,N,I4,K9,Y⟩
end
section
end
section
end
end L2
namespace JB
open PySem PySem.Builtin.Str PySem.StrLaws
noncomputable def x9(i:Int):Str:=RP (Rr i)
theorem app_list(x y:Str):(x++y).cps.toList=x.cps.toList++y.cps.toList:=by
 show(x.cps++y.cps).toList=_;simp
end JB
namespace L2
open PySem PySem.Spec PyProof.Rows
noncomputable def bF(env:Env):List (Str×OM)->List (Str×fR)->List (Str×fR)
 |[],b=>b
 |(n,k)::r,b=>bF env r (if k==.free then(match env.cells.lookup n with|some a=>(n,a)::b|none=>b) else b)
theorem eE(h:∀y∈scope.names,y.2=.free->∃a,env.cells.lookup y.1=a5 a):closureFor scope env=pure (bF env scope.names []):=by
 unfold closureFor;generalize scope.names=names at h
 suffices H:∀b,(Ŏ names b (λ(x:Str×OM) (r:List (Str×fR))=>if (x.2==Nr)=b8 then do let a <-cellOf env x.1;pure (OA ((x.1,a)::r)) else pure (OA r)):Sem (List (Str×fR)))=pure (bF env names b) by
  have:=H [];exact Ŕ (λ(m:Sem (List (Str×fR)))=>m >>= pure) this
 induction names with
 |nil=>intro b;rfl
 |cons y r d =>
  intro b;obtain⟨n,k⟩:=y;rw[VU];have c:=d λy e=>h y (l' _ e);by_cases hk:(k==Nr)=b8
  ·obtain⟨a,f⟩:=h (n,k) nc (by simpa using hk);have g:env.cells.lookup n=a5 a:=f;simp only[hk,if_true,cellOf,g,bF];exact c _
  ·simp only[hk,if_false,bF];exact c _
theorem eT:∀(names:List (Str×OM)) (b:List (Str×fR)),(∀n c,b.lookup n=a5 c->env.cells.lookup n=a5 c)->∀n c,(bF env names b).lookup n=a5 c->env.cells.lookup n=a5 c
 |[],_,h=>h
 |(m,k)::r,b,h=>by
  unfold bF;refine eT r _ λn c e=>?_;by_cases hk:(k==Nr)=b8
  ·rw[Ő hk]at e;cases q:env.cells.lookup m with
   |none=>rw[q]at e;exact h n c e
   |some a =>
    rw[q]at e;simp only[tj]at e;cases d:n==m with
    |true =>
     rw[d]at e;have f:n=m:=by simpa using d
     subst f;simp only at e;rw[q];exact e
    |false=>rw[d]at e;exact h n c e
  ·rw[ő hk]at e;exact h n c e
theorem jn(d:env.cells.lookup n=a5 a):∀(names:List (Str×OM)) (c:List (Str×fR)),c.lookup n=a5 a->(bF env names c).lookup n=a5 a
 |[],_,h=>h
 |(m,k)::r,c,h=>by
  unfold bF;refine jn d r _ ?_;by_cases hk:(k==Nr)=b8
  ·rw[Ő hk];cases q:env.cells.lookup m with
   |none=>exact h
   |some b =>
    simp only[tj];cases e:n==m with
    |true =>
     have f:n=m:=by simpa using e
     subst f;rw[d]at q;cases q;rfl
    |false=>exact h
  ·rw[ő hk];exact h
theorem gH(b:env.cells.lookup n=a5 a):∀(names:List (Str×OM)) (c:List (Str×fR)),(n,Nr)∈names->(bF env names c).lookup n=a5 a
 |[],_,h=>by cases h
 |(m,k)::r,c,h=>by
  unfold bF;rcases et.mp h with e|e
  ·cases e;refine jn b r _ ?_;rw[Ő (by decide),b];simp[tj]
  ·exact gH b r _ e
theorem bP{env:Env}:∀{names:List (Str×OM)}{x:Str}{k:OM},
  (names.map λ(n,k)=>if (k==Nr&&env.scope.kind==.function&&env.kindOf n==a5 .cell) then(n,NameKind.cell) else(n,k)).lookup x=a5 k ->
  names.lookup x=a5 k\/(k=.cell/\names.lookup x=a5 .free)
 |[],_,_,h=>by simp at h
 |(n,k0)::r,x,k,h=>by
  have e:=@bP env r x k;rw[d6]at h;by_cases b:(k0==Nr&&env.scope.kind==.function&&env.kindOf n==a5 .cell)=b8
  ·simp only[Ő b,tj]at h;cases a:x==n with
   |true =>
    rw[a]at h;have f:k0=.free:=by
     have:=(KJ.mp (KJ.mp b).1).1;simpa using this
    refine .inr ⟨by simpa using h.symm,by simp[tj,a,f]⟩
   |false =>
    rw[a]at h;rcases e h with z|⟨c,d⟩
    ·exact .inl (by simp[tj,a,z])
    ·exact .inr ⟨c,by simp[tj,a,d]⟩
  ·simp only[ő b,tj]at h;cases a:x==n with
   |true=>rw[a]at h;exact .inl (by simpa[tj,a] using h)
   |false =>
    rw[a]at h;rcases e h with z|⟨c,d⟩
    ·exact .inl (by simp[tj,a,z])
    ·exact .inr ⟨c,by simp[tj,a,d]⟩
noncomputable def Kb(X:Cx)(N:List Str)(scope:Nb)(C:fR)(s:fS)(H:Hp)(ex:List fR):Cx where
 prog:=X.prog
 w:=X.w
 K:=X.K
 mg:=X.mg
 base:=X.base
 A:=X.A
 N:=N
 s₀:=s
 H₀:=H
 env:=Wy scope (bF X.env scope.names []) C X.env
 outer:=X.stack
 stack:=X.stack
 ex:=ex
 fn:=λ_=>cc
 calm:=X.calm
 pn:=[]
 xe:=λ_ _=>False
def d7(D N:List Str):Prop:=D.length=N.length/\∀(i:Nat) (y:Str),D[i]?=a5 y->N[i]?=a5 y\/y="."\/y=".."
theorem d7.refl(N:List Str):d7 N N:=⟨rfl,λ_ _ h=>.inl h⟩
theorem d7.set{D N:List Str}(h:d7 D N)(j:Nat){m:Str}(b:m="."\/m=".."):d7 (D.set j m) N:=by
 refine⟨by rw[ó];exact h.1,λi y e=>?_⟩;by_cases a:j=i
 ·subst a;rw[List.getElem?_set,Ő rfl]at e;split at e
  ·cases e;exact .inr b
  ·cases e
 ·rw[i1 a]at e;exact h.2 i y e
structure d8(X:Cx)(N own:List Str)(scope:Nb):Prop where
 kind:scope.kind=.function
 Lw:∀y∈scope.names,y.2≠.cell
 names:∀y∈scope.names,y.2=.local->scope.names.lookup y.1=a5 .local
 nd:N.Nodup
 pre:N.take own.length=own
 loc:∀y∈scope.names,y.2=.local->y.1∈own\/y.1=".0"
 WM:(".0":Str)∉N
 tail:d7 (N.drop own.length) X.N
 free:∀y∈scope.names,y.2=.free->X.env.scope.names.lookup y.1=a5 .cell\/X.env.scope.names.lookup y.1=a5 .free
 dot:∀y∈scope.names,y.1≠"."/\y.1≠".."
theorem mem_lookup{names:List (Str×OM)}(h:names.lookup x=a5 k):(x,k)∈names:=PySem.mem_of_lookup h
theorem d8.cells(S:d8 X N c scope)(b:X.Ok):∀y∈scope.names,y.2=.free->∃a,X.env.cells.lookup y.1=a5 a:=λy d e=>by
 rcases S.free y d e with z|z
 ·exact b.has y.1 (.inl z)
 ·exact b.has y.1 (.inr z)
theorem x_(S:d8 X N d scope)(I:Inv X pins σ H s)
  (D:s.heap.objs.size<=C) (SJ:s4.os=s.os) (hg:s4.gens=s.gens) (keep:∀b o,s.heap.get? b=a5 o->s4.heap.get? b=a5 o) (ns:∃m,s4.heap.Ns C m)
  (f:∀b∈ex,gY X pins H b/\b<s.heap.objs.size):Inv (Kb X N scope C s H ex) [] (i9 d.length b6++σ) H s4:=by
 obtain⟨m0,Q_⟩:=ns;have sub:=eT (env:=X.env) scope.names [] (λn c e=>by simp at e);have SM:∀b∈ex,b<C:=λb g=>i2 (f b g).2 D;have tl:d.length<=N.length:=by have:=Ŕ LA S.pre;rw[x4]at this;lia
 refine⟨⟨I.ok.mod,?_,I.ok.glob,I.ok.blt,D,λx y c A w=>I.ok.inj x y c (sub x c A) (sub y c w),λx hx=>?_,λx c h _=>absurd (show cc=b8 from h) (by decide),I.ok.hd,I.ok.frames,.inl rfl,λb g=>⟨hQ (SM b g),λx c e=>?_⟩,λb o e=>I.bs b o e,?_,λb o e g=>?_,λb g=>?_,I.stack,I.jQ⟩,
  SJ,(by rw[hg];exact I.bare),Un.kept keep,⟨m0,Q_,λi y v A w h3=>?_⟩,λx c e=>?_,I.Ja.fresh D,λx c e=>I.Jx x c (sub x c e),λp hp=>absurd (show p∈([]:List (fR×Obj)) from hp) (by simp),I.Ja.kept keep,?_⟩
 ·show(Ud scope X.env).kind=.function;exact S.kind
 ·
  have ND:(Ud scope X.env).names.lookup x=a5 .cell\/(Ud scope X.env).names.lookup x=a5 .free:=hx;have t:scope.names.lookup x=a5 .free:=by
   rcases ND with z|z
   ·rcases bP z with q|⟨_,q⟩
    ·exact absurd rfl (S.Lw _ (mem_lookup q))
    ·exact q
   ·rcases bP z with q|⟨q,_⟩
    ·exact q
    ·cases q
  obtain⟨a,ha⟩:=S.cells I.ok (x,.free) (mem_lookup t) rfl;exact⟨a,gH ha scope.names [] (mem_lookup t)⟩
 ·exact(f b g).1.2.2.2.2.1 x c (sub x c e)
 ·exact H8 I.ok.MZ I.sz
 ·obtain⟨f0,J,L,O,f4,f5⟩:=(f b g).1;rcases O with z|z
  ·exact I.ok.L0 b o e z
  ·exact absurd (i2 (ez e) (H8 I.ok.MZ z)) (uv _)
 ·intro J9;obtain⟨f0,J,L,O,f4,f5⟩:=(f b g).1;rcases et.mp (I.j7 b J9) with z|z
  ·exact J z
  ·exact L z
 ·
  have hi:d.length<=i:=by
   by_cases hi:i<d.length
   ·rw[ux (by simpa using hi),KX]at w;split at w<;>cases w
   ·lia
  rw[pa (by simpa using hi),Qj]at w;have WN:(N.drop d.length)[i - d.length]?=a5 y:=by
   rw[LO];have e:d.length+(i - d.length)=i:=by lia
   rw[e];exact A
  have Q:(Ud scope X.env).names.lookup y=a5 .local\/(Ud scope X.env).names.lookup y=a5 .cell\/(Ud scope X.env).names.lookup y=a5 .free:=h3;have t:scope.names.lookup y=a5 .free:=by
   rcases Q with z|z|z
   ·rcases bP z with q|⟨q,_⟩
    ·exfalso
     have K1:y∈d:=by
      rcases S.loc (y,.local) (mem_lookup q) rfl with z|z
      ·exact z
      ·have z':y=".0":=z;exact absurd (l0 A) (by rw[z'];exact S.WM)
     obtain⟨j,T,ej⟩:=Q8 K1;have L4:N[j]?=a5 y:=by
      have Y:(N.take d.length)[j]?=a5 y:=by rw[S.pre,mN T,ej]
      rw[X4 T]at Y;exact Y
     have:=gV S.nd L4 A;lia
    ·cases q
   ·rcases bP z with q|⟨_,q⟩
    ·exact absurd rfl (S.Lw _ (mem_lookup q))
    ·exact q
   ·rcases bP z with q|⟨q,_⟩
    ·exact q
    ·cases q
  have hX:X.N[i - d.length]?=a5 y:=by
   rcases S.tail.2 _ _ WN with e|e|e
   ·exact e
   ·exact absurd e (S.dot _ (mem_lookup t)).1
   ·exact absurd e (S.dot _ (mem_lookup t)).2
  obtain⟨m,hn,hl⟩:=I.loc;have hv:X.env.scope.names.lookup y=a5 .cell\/X.env.scope.names.lookup y=a5 .free:=S.free (y,.free) (mem_lookup t) rfl;obtain⟨u,r,l⟩:=hl _ y v hX w (.inr hv);refine⟨u,r,?_⟩;rcases l with⟨k,_⟩|⟨k,c,e,z⟩
  ·have k':X.env.scope.names.lookup y=a5 .local:=k;rcases hv with q|q<;>(rw[k']at q;cases q)
  ·have hk:(Ud scope X.env).names.lookup y=a5 .cell\/(Ud scope X.env).names.lookup y=a5 .free:=by
    rcases Q with q|q|q
    ·rcases bP q with B|⟨B,_⟩
     ·rw[t]at B;cases B
     ·cases B
    ·exact .inl q
    ·exact .inr q
   obtain⟨o,ho,G⟩:=z;exact .inr ⟨hk,c,gH e scope.names [] (mem_lookup t),o,keep c o ho,G⟩
 ·obtain⟨v,o,ho,G⟩:=I.cell x c (sub x c e);exact⟨v,o,keep c o ho,G⟩
 ·rw[hV,Qj,I.len];have e:N.length=d.length+(N.drop d.length).length:=by rw[Þ];lia
  show _=N.length;rw[e,S.tail.1]
theorem pW(I:Inv X pins σ H s)
  (d:Inv (Kb X N scope C s H ex) L O j s4) (r:s.heap.objs.size<=D) (t:s.heap.objs.size<=C) (w:D≠C) (g:j D=b6) (rv:Vals l its) (pl:s4.heap.PlainList D its.toArray) (hl:l.length<=cL)
  (h:o3 C s4.heap h') (k:∀b∈ex,gY X pins H b):Inv X pins σ (upd j D (.lst l)) {s4 with heap:=h' }:=by
 have m:j C=b6:=d.free;have lt:∀{b:fR} {o:Obj},s.heap.get? b=a5 o->b≠C/\b≠D:=λe=>⟨hQ (i2 (ez e) t),hQ (i2 (ez e) r)⟩
 refine I.Dc (s':={s4 with heap:=h' }) (ch:=ex) d.os ⟨λb o e n i f=>?_,λb o e n i f=>?_,λb o e n f=>?_,λb o e f=>?_,λb xs e=>?_,λb o u e=>?_,λb ps e=>?_⟩ (λa o e=>?_) d.bare λb i=>?_
 ·exact(h.2 b (lt e).1).trans (d.base.keep b o e n i f)
 ·obtain⟨x,q⟩:=d.base.slot b o e n i f;exact⟨x,(h.2 b (lt e).1).trans q⟩
 ·rw[au (lt e).2];exact d.base.free b o e n f
 ·obtain⟨o',q⟩:=d.base.there b o e f;exact⟨o',(h.2 b (lt e).1).trans q⟩
 ·have q:=d.base.eX b xs e;rw[au (bz q g)];exact q
 ·have q:=d.base.J_ b o u e;rw[au (bz q g)];exact q
 ·obtain⟨more,q⟩:=d.base.Kj b ps e;exact⟨more,by rw[au (bz q g)];exact q⟩
 ·by_cases p:a=D
  ·subst p;rw[ay]at e;cases e;obtain⟨n,q⟩:=pl;exact⟨hl,its,n,rv,(h.2 _ w).trans q⟩
  ·rw[au p]at e;refine(d.Ja a o e).fA (λc v y q=>(h.2 c ?_).trans q) (λc q=>?_) λc xs q=>?_
   ·rintro rfl;rcases y with z|z
    ·rw[<-z,m]at e;cases e
    ·rw[m]at z;cases z
   ·rw[au (bz q g)];exact q
   ·rw[au (bz q g)];exact q
 ·obtain⟨Q,A,T,B,G,J⟩:=k b i;exact⟨B,A,G,J⟩
section
theorem oo(I:Nat->fS->Prop)
  (b:∀n s,I n s->d4 (gs prog w) A (Sy it) (λr d=>match r with
   |none=>R (.ok .next) d
   |some v=>d4 (gs prog w) A (UO a it v) (λ_ d=>d4 (gs prog w) A (SE a env v) (λ_ j =>
     d4 (gs prog w) A (Ŏ f b8 λc r=>if r=b8 then do let ok <-isTrue c env (wk c env);pure (OA ok) else pure (OA r)) (λok i =>
      if ok=b8 then d4 (gs prog w) A (wk elt env) (λx k =>
       d4 (gs prog w) A (Nd (.builtin "list.append") [acc,x]) (λ_ l=>∃m,m<n/\I m l) (Ue (gs prog w) A env λe s'=>R (.error e) s') k) (Ue (gs prog w) A env λe s'=>R (.error e) s') i
      else ∃m,m<n/\I m i) (Ue (gs prog w) A env λe s'=>R (.error e) s') j) (Ue (gs prog w) A env λe s'=>R (.error e) s') d) (Ue (gs prog w) A env λe s'=>R (.error e) s') d) (Ue (gs prog w) A env λe s'=>R (.error e) s') s)
  (n:Nat) (h:I n s) :
  Qq (gs prog w) A (.compLoop (.ListComp elt [⟨a,g,f,0⟩] scope pos) 0 it acc env) R s:=by
 refine codeAny_loop rfl I (λn s q=>?_) n h;show d4 _ A ((compTurn (.ListComp elt [⟨a,g,f,0⟩] scope pos) 0 it acc env).onRaise (λx=>do noteFrame x env;theTreesLotGoes x)) _ _ s;refine wpAny_noted ?_;rw[compTurn_list];refine bD (ZC (bD (qb (b n s q) (λr d o=>?_) λ_ _ h'=>h')));cases r with
 |none=>exact df o
 |some v =>
  refine bD (qb o (λ_ B t=>?_) λ_ _ h'=>h');refine bD (qb t (λ_ j u=>bD (qb u (λok i p=>?_) λ_ _ h'=>h')) λ_ _ h'=>h');cases ok with
  |false=>exact df ⟨rfl,p⟩
  |true =>
   exact bD (bD (qb p (λx k y=>bD (qb y (λ_ l z=>df (df ⟨rfl,z⟩)) λ_ _ h'=>h')) λ_ _ h'=>h'))
end
def M5(X:Cx)(a:List mx)(t:TT):Prop :=
 ∀(pins:List (fR×Obj)) (s:fS) (σ:St) (H:Hp) (Q:Bool->Hp->Prop),Inv X pins σ H s->t σ H Q ->
  d4 (gs X.prog X.w) X.A (Ŏ a b8 λc r=>if r=b8 then do let b <-isTrue c X.env (wk c X.env);pure (OA b) else pure (OA r)) (TP X pins σ Q) X.xe s
def IF:TT:=λ_ H Q=>Q b8 H
theorem ue:M5 X [] IF:=λ_ _ _ H _ I h=>wpAny_tests_nil ⟨H,I,h⟩
theorem uf(h:PT X c t):M5 X [c] t:=λpins s σ H Q I q=>wpAny_tests_one (h pins s σ H Q I q)
def ug(k:Nat)(J:It)(g:TG)(l:TT)(te:TE)(Q:VK)(σ:St)(n:Hp):Prop :=
  ∃W:Nat->Nat->List V->Hp->Prop,(∃m,W 0 m [] n)/\∀i m a H,W i m a H->a.length<=cL /\
    ((J.stop i H/\∀p,H p=b6->Q (.ref p) (upd H p (.lst a))) \/
     (J.go i H/\∃d:List V->Hp->Prop,(∀f H',d f H'->∃h,h<m/\W (i+1) h f H')/\∀x H',J.Q1 i H x H'->g x (i9 k b6++σ) H' λe o=>∃c:St,c.length=k/\e=c++σ /\
        l e o λb j=>if b=b8 then te e j λy q=>d (a++[y]) q else d a j))
def ya(k:Nat)(a:TI)(g:TG)(b:TT)(te:TE):TE:=λσ H Q=>a σ H λJ c=>ug k J g b te Q σ c
section
theorem yb
  (S:d8 X N t scope) (hc:X.calm=b8) (hg:∀C s H ex,PG (Kb X N scope C s H ex) tg g) (hf:∀C s H ex,M5 (Kb X N scope C s H ex) ag tt) (he:∀C s H ex,PE (Kb X N scope C s H ex) elt te)
  (I:Inv X pins σ H s) (T:Turn X.prog X.w X.K tg J B it tn) (st:tn 0 s.heap) (f2:∀b∈B,gY X pins H b) (W:ug t.length J g tt te Q σ H)
  (hD:@Eq Nat D s.heap.objs.size) (hC:@Eq Nat C (s.heap.objs.size+1)) (SJ:s4.os=s.os) (WQ:s4.gens=s.gens) (keep:∀b o,s.heap.get? b=a5 o->s4.heap.get? b=a5 o) (ns:∃m,s4.heap.Ns C m) (pl:s4.heap.PlainList D #[])
  (al:∀s5 O L its,Inv (Kb X N scope C s H B) [] (i9 t.length b6++σ) O s5->O D=b6->Vals L its->s5.heap.PlainList D its.toArray->L.length<=cL->(∀p,O p=b6->Q (.ref p) (upd O p (.lst L)))->R (.ok .next) s5) :
  Qq (gs X.prog X.w) X.A (.compStart (.ListComp elt [⟨tg,am,ag,0⟩] scope pos) 0 (.ref it) (.ref D) (Wy scope (bF X.env scope.names []) C X.env)) R s4:=by
 have M6:∀b∈B,@Qy Nat _ b s.heap.objs.size:=λb h=>by
  obtain⟨o,e,_⟩:=T.obj 0 s.heap st b h;exact ez e
 have I4:Inv (Kb X N scope C s H B) [] (i9 t.length b6++σ) H s4:=x_ S I ⋯ SJ WQ keep ns λb h=>⟨f2 b h,M6 b h⟩
 have O2:tn 0 s4.heap:=T.keep 0 s.heap s4.heap st λb _ o e=>keep b o e;have nD:H D=b6:=I.Ja.fresh ⋯;obtain⟨W,⟨m0,w0⟩,â⟩:=W;generalize k:Kb X N scope C s H B=f at I4 al;have eP:f.prog=X.prog:=by rw[<-k];rfl
 have ew:f.w=X.w:=by rw[<-k];rfl
 have eK:f.K=X.K:=by rw[<-k];rfl
 have ec:f.calm=b8:=by rw[<-k];exact hc
 have eA:f.A=X.A:=by rw[<-k];rfl
 have ee:f.env=Wy scope (bF X.env scope.names []) C X.env:=by rw[<-k];rfl
 have SO:f.xe=λ_ _=>False:=by rw[<-k];rfl
 have el:f.env.locals=C:=by rw[ee];rfl
 have SQ:PG f tg g:=by rw[<-k];exact hg _ _ _ _
 have SR:M5 f ag tt:=by rw[<-k];exact hf _ _ _ _
 have SS:PE f elt te:=by rw[<-k];exact he _ _ _ _
 have s0:f.s₀=s:=by rw[<-k];rfl
 have PQ:f.pn=[]:=by rw[<-k];rfl
 have SU:∀{H':Hp} {o:Obj},(∀b∈B,H' b=b6)->∀b∈B,gY f [(D,o)] H' b:=λ{H' o} hn b h=>by
  have ex:f.ex=B:=by rw[<-k];rfl
  refine⟨hn b h,?_,?_,.inl (by rw[ex];exact h),λx c e=>?_,λp G=>?_⟩
  ·rw[el];have:=M6 b h;exact hQ (by show @Qy Nat _ b C;lia)
  ·have e1:f.fs=JO X.stack:=by rw[<-k];rfl
   rw[e1];intro z;obtain⟨f0,f1,WR,f3,f4,f5⟩:=f2 b h;rcases et.mp (I.j7 b z) with q|q
   ·exact f1 q
   ·exact WR q
  ·have e1:f.env.cells=bF X.env scope.names []:=by rw[ee];rfl
   rw[e1]at e;exact(f2 b h).2.2.2.2.1 x c (eT scope.names [] (λn c e=>by simp at e) x c e)
  ·rw[PQ,mf]at G;have:p=(D,o):=by simpa using G
   subst this;have:=M6 b h;exact H0 (by show @Qy Nat _ b D;lia)
 have SV:∀{σ':St} {H':Hp} {s':fS} {o:Obj},Inv f [] σ' H' s'->H' D=b6->s'.heap.get? D=a5 o->(∀v,o.data≠.cell v)->Inv f [(D,o)] σ' H' s':=λ{σ' H' s' o} I' n e d =>
  I'.dS λp G=>by
   have:p=(D,o):=by simpa using G
   subst this;refine⟨e,n,?_,?_,d⟩
   ·rw[el];exact hQ (by show @Qy Nat _ D C;lia)
   ·have e1:f.fs=JO X.stack:=by rw[<-k];rfl
    rw[e1];intro z;have zz:(D:fR)∈JO X.stack:=z;rcases et.mp (I.j7 D zz) with q|q
    ·have:=I.lt;rw[<-q]at this;exact absurd this (by show ¬@Qy Nat _ D s.heap.objs.size;lia)
    ·exact I.DN (a:=D) ⋯ q
 have start:∀s':fS,s'=s4->Qq (gs X.prog X.w) X.A (.compLoop (.ListComp elt [⟨tg,am,ag,0⟩] scope pos) 0 (.ref it) (.ref D) (Wy scope (bF X.env scope.names []) C X.env)) R s':=by
  rintro s' rfl;refine oo (λn s'=>∃i L its H',Inv f [] (i9 t.length b6++σ) H' s'/\tn i s'.heap/\(∀b∈B,H' b=b6)/\H' D=b6/\Vals L its/\s'.heap.PlainList D its.toArray/\W i n L H') ?_ m0
   ⟨0,[],[],H,I4,O2,λb h=>(f2 b h).1,nD,.nil,pl,w0⟩
  rintro n s3 ⟨i,L,its,H3,I3,JD,PF,Va,Ra,⟨nn,WS⟩,w3⟩;obtain⟨Y,LP⟩:=â i n L H3 w3;have IP:=SV I3 Va WS (λv z=>by have z':Data.seq _ _=Yc v:=z;cases z');rcases LP with⟨an,qn⟩|⟨go,NN,Vb,ap⟩
  ·have d:=T.done f eP ew eK ec i _ s3 _ H3 (Ue (gs X.prog X.w) X.A (Wy scope (bF X.env scope.names []) C X.env) λe s'=>R (.error e) s') IP (SU PF) JD an;rw[eA]at d;refine Jf d λr s4 SW=>?_;obtain⟨hr,I5⟩:=SW;subst hr;have e5:=(I5.pin (D,({cls:=.type "list",data:=.seq its.toArray nn}:Obj)) (by rw[PQ];simp)).1;exact al s4 H3 L its (I5.dS λp G=>by cases G) Va Ra ⟨nn,e5⟩ Y qn
  ·have d:=T.item f eP ew eK ec i _ s3 _ H3 (Ue (gs X.prog X.w) X.A (Wy scope (bF X.env scope.names []) C X.env) λe s'=>R (.error e) s') IP (SU PF) JD go;rw[eA]at d;refine Jf d λr s4 SX=>?_;obtain⟨u,hr,h4⟩:=SX;subst hr;refine Jf h4 λ_ s5 SY=>?_;obtain⟨x,O,I5,r5,y5,Mj,Sh⟩:=SY;have ZH:O D=b6:=(I5.pin (D,({cls:=.type "list",data:=.seq its.toArray nn}:Obj)) (by rw[PQ];simp)).2.1;have Si:=I5.pinned (SU Sh) (T.obj _ _ Mj);have a6:=SQ _ s5 _ O x u _ Si r5 (ap x O y5);rw[eP,ew,eA,ee,SO]at a6;refine qb a6 (λ_ s6 ⟨σ6,H6,I6,q6⟩=>?_) λ_ _ z=>Nv z;obtain⟨ow,ar,rfl,q6⟩:=q6;have a7:=SR _ s6 _ H6 _ I6 q6;rw[eP,ew,eA,ee,SO]at a7;refine qb a7 (λb s7 ⟨H7,I7,q7⟩=>?_) λ_ _ z=>Nv z;have ab:∀{s8:fS} {l:Hp} {K2:List V} {its':List d3} {nn':Nat},Inv f [] (ow++σ) l s8->tn (i+1) s8.heap->(∀b∈B,l b=b6)->l D=b6->Vals K2 its'->s8.heap.PlainList D its'.toArray->(∃m',m'<n/\W (i+1) m' K2 l) ->
     ∃m,m<n/\∃i L its H',Inv f [] (i9 t.length b6++σ) H' s8/\tn i s8.heap/\(∀b∈B,H' b=b6)/\H' D=b6/\Vals L its/\s8.heap.PlainList D its.toArray/\W i m L H':=λ{s8 l K2 its' nn'} I8 WT WU n8 WV WW w8=>by
    obtain⟨m',hm,w8⟩:=w8;refine⟨m',hm,i+1,K2,its',l,I8.weak (by simp[ar]) (λj v e=>?_),WT,WU,n8,WV,WW,w8⟩;by_cases hj:j<t.length
    ·rw[ux (by simpa using hj),KX]at e;split at e<;>cases e
    ·rw[pa (by simpa using(Nat.not_lt.mp hj)),Qj]at e;rw[pa ⋯,ar];exact e
   have ac:∀{σ':St} {l:Hp} {s8:fS},Inv f ([(D,({cls:=.type "list",data:=.seq its.toArray nn}:Obj))]++j9 B s5.heap) σ' l s8->s8.heap.get? D=a5 {cls:=.type "list",data:=.seq its.toArray nn}/\l D=b6/\tn (i+1) s8.heap/\∀b∈B,l b=b6:=λ{σ' l s8} I8=>by
    have p1:=I8.pin (D,({cls:=.type "list",data:=.seq its.toArray nn}:Obj)) (by rw[PQ];simp);refine⟨p1.1,p1.2.1,T.keep _ _ _ Mj λb h o e=>(I8.pin (b,o) (mA _ (mA _ (eS h e)))).1,λb h=>?_⟩;obtain⟨o,e,d⟩:=T.obj _ _ Mj b h;exact(I8.pin (b,o) (mA _ (mA _ (eS h e)))).2.1
   cases b with
   |false =>
    rw[ő kr]at q7 ⊢;obtain⟨p1,p2,p3,p4⟩:=ac I7;exact ab (nn':=0) (I7.dS λp G=>by cases G) p3 p4 p2 Ra ⟨nn,p1⟩ (Vb _ _ q7)
   |true =>
    rw[Ő rfl]at q7 ⊢;have a8:=SS _ s7 _ H7 _ I7 q7;rw[eP,ew,eA,ee,SO]at a8;refine qb a8 (λy s8 ⟨yv,l,I8,r8,q8⟩=>?_) λ_ _ z=>Nv z;obtain⟨p1,p2,p3,p4⟩:=ac I8;have hsz:its.toArray.size<=cL:=by rw[hH,<-Ra.length];exact Y
    refine wpAny_list_append_plain (hsz:=hsz) ⟨nn,p1⟩ λh9 WX Vc=>?_;have WY:Inv f [] (ow++σ) l s8:=I8.dS λp G=>by cases G
    have Rb:∀x c,f.env.cells.lookup x=a5 c->c≠D:=λx c e=>by
     have e1:f.env.cells=bF X.env scope.names []:=by rw[ee];rfl
     rw[e1]at e;have q:=eT scope.names [] (λn c e=>by simp at e) x c e;obtain⟨v,z⟩:=I.cell x c q;have:@Qy Nat _ c s.heap.objs.size:=z.lt;exact hQ (by show @Qy Nat _ c D;lia)
    have I9:Inv f [] (ow++σ) l {s8 with heap:=h9,toks:=s8.toks}:=WY.turned (it:=D) (λb o h e=>(Vc.2 b h).trans e) p2 (by rw[el];exact hQ (by show @Qy Nat _ D C;lia)) (.inr (by rw[s0];show @Ġ Nat _ s.heap.objs.size D;lia)) Rb (λp G=>by rw[PQ]at G;cases G);have WZ:(its++[y]).toArray=its.toArray.push y:=by simp
    refine ab (nn':=0) (s8:={s8 with heap:=h9,toks:=s8.toks}) I9 (T.keep _ _ _ p3 λb h o e=>(Vc.2 b ?_).trans e) p4 p2 (Ra.append (.cons r8 .nil)) (by rw[WZ];exact WX) (Vb _ _ q8);have:=M6 b h;exact hQ (by show @Qy Nat _ b D;lia)
 exact codeAny_compStart_list (start _ rfl) (T.self _ _ _ _ _ O2 (start _ rfl))
theorem kq{RR:d3->fR->Result->fS->Prop}
    (S:d8 X N d scope) (B:X.calm=b8) (G:∀C s H ex,PG (Kb X N scope C s H ex) u g) (L:∀C s H ex,M5 (Kb X N scope C s H ex) k O) (Y:∀C s H ex,PE (Kb X N scope C s H ex) elt te)
 (I:Inv X pins σ H s) (T:Turn X.prog X.w X.K u J v it tn) (st:tn 0 s.heap) (f2:∀b∈v,gY X pins H b) (W:ug d.length J g O te Q σ H)
    (l:∀D C f c h its,@Eq Nat D s.heap.objs.size->@Eq Nat C (s.heap.objs.size+1)->Inv (Kb X N scope C s H v) [] (i9 d.length b6++σ) c f->c D=b6->Vals h its->f.heap.PlainList D its.toArray->h.length<=cL->(∀p,c p=b6->Q (.ref p) (upd c p (.lst h)))->RR (.ref D) C (.ok .next) f) :
    d4 (gs X.prog X.w) X.A (ĕ []) (λacc s₃=>d4 (gs X.prog X.w) X.A (newFunctionEnv scope X.env.globals (bF X.env scope.names []) [] X.env.qual b6 .none (a5 X.env)) (λx s₄ =>
      Qq (gs X.prog X.w) X.A (.compStart (.ListComp elt [⟨u,z,k,0⟩] scope pos) 0 (.ref it) acc {x with scope:=Ud scope X.env}) (RR acc x.locals) s₄) E s₃) E s:=by
  refine x2 (wpAny_newFunctionEnv S.Lw (by intro y hy;simp at hy) (λm n j=>?_) S.kind)
  dsimp only at n j ⊢
  generalize q:s.heap.push {cls:=.type "list",dict:=b6,data:=.seq ([]:List d3).toArray}=i at n j ⊢;have r:i.objs.size=s.heap.objs.size+1:=by rw[<-q,W9]
  have SN:s.heap.objs.size≠i.objs.size:=by rw[r];exact hQ (OH _)
  have a:∀b:fR,b<s.heap.objs.size->b≠i.objs.size:=λb hb=>hQ (by have J9:@Qy Nat _ b s.heap.objs.size:=hb;show @Qy Nat _ b i.objs.size;lia);have t:∀b o,s.heap.get? b=a5 o->m.get? b=a5 o:=λb o e=>j.extBut b o (a b (ez e)) (cK _ (q▸cK _ e));have JZ:m.PlainList s.heap.objs.size #[]:=⟨_,j.extBut _ _ SN (cK _ (q▸eH _ rfl))⟩
  exact yb (s:=s) (s4:={s with heap:=m,toks:=s.toks+([]:List (Str×d3)).length}) (C:=i.objs.size) (D:=s.heap.objs.size) S B G L Y I T st f2 W rfl r rfl rfl t ⟨_,n⟩ JZ
    λf c h its I5 n5 PU PV PX q5=>l _ _ f c h its rfl r I5 n5 PU PV PX q5
theorem Bm(S:d8 X N b scope)(l:X.calm=b8)(hi:PI X d a m)(n:∀C s H ex,PG (Kb X N scope C s H ex) d g)(o:∀C s H ex,M5 (Kb X N scope C s H ex) c p)(q:∀C s H ex,PE (Kb X N scope C s H ex) elt te)
  (hs:∀x,MQ a X.env x=pure x:=by intro _;rfl):PE X (.ListComp elt [⟨d,a,c,0⟩] scope pos) (ya b.length m g p te):=by
 intro pins s σ H Q I h;rw[eval_ListComp];refine ZD (use:=b6) (cl:=bF X.env scope.names []) rfl hs (eE (S.cells I.ok)) S.kind S.names ?_;refine Jf (hi pins s σ H _ I h) λv s1 r=>Jf r λQ3 s2 t=>?_;obtain⟨it,fp,tn,J,H2,e,f,T,st2,i,W⟩:=t;subst e;refine kq (RR:=λacc C=>compPost (gs X.prog X.w) X.A X.xe b6 (EP X pins σ Q) acc C) S l n o q f T st2 i W ?_;intro D C s5 H5 ys its u hC j k y z B G;obtain⟨L,O,_⟩:=j.loc;exact⟨L,O,λh' Y=>⟨.ref D,_,pW f j (Zl u.symm) (by show @Ġ Nat _ s2.heap.objs.size C;lia) (hQ (by show @Qy Nat _ D C;lia)) k y z B Y i,rfl,G D k⟩⟩
theorem Bn(S:d8 X N q scope)(hc:X.calm=b8)(hN:X.N.Nodup)(Rc:X.N[i]?=a5 y)(u:X.env.scope.names.lookup y=a5 .local)
  (hi:PI X m d wi) (hg:∀C s H ex,PG (Kb X N scope C s H ex) m g) (hf:∀C s H ex,M5 (Kb X N scope C s H ex) j tt) (he:∀C s H ex,PE (Kb X N scope C s H ex) elt te)
  (NF:QU (.ListComp elt [⟨m,d,j,0⟩] scope pos) (a5 (.Name y l)) L5.line X.env=pure b8:=by rfl)
  (hs:∀x,MQ d X.env x=pure x:=by intro _;rfl):PS X (.Assign [.Name y l] (.ListComp elt [⟨m,d,j,0⟩] scope pos) L5) (DX (ya q.length wi g tt te) (t8 i)):=by
 intro pins s σ H D I h;rw[exec_Assign_Name_used _ _ _ _ NF];refine bD (ZC (bD ?_));show d4 _ X.A (do let _ <-comprehension (.ListComp elt [⟨m,d,j,0⟩] scope pos) scope X.env _ (ĕ []) cc (wk d X.env) (a5 (SE (.Name y l) X.env))) _ _ s;refine bD (qb (ZD (use:=a5 (SE (.Name y l) X.env)) (cl:=bF X.env scope.names []) (Q:=λ_ s'=>SP X pins D .next s') rfl hs (eE (S.cells I.ok)) S.kind S.names ?_) (λ_ s' hq=>df (df hq)) λ_ _ e=>e);refine Jf (hi pins s σ H _ I h) λv s1 h1=>Jf h1 λQ3 s2 h2=>?_;obtain⟨it,fp,tn,J,H2,e,k,T,st2,G,W⟩:=h2;subst e;refine kq (RR:=λacc C=>compPost (gs X.prog X.w) X.A X.xe (a5 (SE (.Name y l) X.env)) (λ_ s'=>SP X pins D .next s') acc C) S hc hg hf he k T st2 G W ?_;intro f C n r L its hD hC t O PU PV PX q5;obtain⟨m5,S4,_⟩:=t.loc;have W0:r C=b6:=t.free;have B:Inv X pins σ (upd r f (.lst L)) {n with heap:=n.heap}:=pW k t (Zl hD.symm) (by show @Ġ Nat _ s2.heap.objs.size C;lia) (hQ (by show @Qy Nat _ f C;lia)) O PU PV PX (JR ..) G;show d4 _ X.A (SE (.Name y l) X.env (.ref f)) _ _ n;refine đ (l_ (s:=n) B hN Rc (.inl u) (show RelV (.ref f) (.ref f) from rfl) (λs6 I6 ⟨a,sb,ha⟩=>?_) (.inr u));have Y:@Qy Nat _ X.env.locals C:=by have:@Qy Nat _ X.env.locals s2.heap.objs.size:=k.lt;lia
 have My:∀x c,X.env.cells.lookup x=a5 c->c≠C:=λx c e=>by
  obtain⟨v,z⟩:=k.cell x c e;have:@Qy Nat _ c s2.heap.objs.size:=z.lt;exact hQ (by show @Qy Nat _ c C;lia)
 have W2:C≠a:=by
  rcases ha with z|z
  ·rw[z];exact H0 Y
  ·exact(My _ _ z).symm
 refine⟨m5,S4.sameBut sb W2,λh' PY=>?_⟩;refine⟨σ.set i (a5 (.ref f)),upd r f (.lst L),I6.turned (it:=C) (t':=s6.toks) (λb o hb e=>(PY.2 b hb).trans e) ?_ (H0 Y) (.inr (by have:@Ġ Nat _ X.s₀.heap.objs.size s2.heap.objs.size:=k.sz;show @Ġ Nat _ X.s₀.heap.objs.size C;lia)) My (λp hp=>?_),q5 f O⟩
 ·rw[au (H0 (by show @Qy Nat _ f C;lia))];exact W0
 ·have:@Qy Nat _ p.1 s2.heap.objs.size:=ez (k.pin p hp).1;exact hQ (by show @Qy Nat _ p.1 C;lia)
end
section
end
section
def GR:V->Option Int->Option Int->Hp->VK->Prop:=λx lo hi H Q=>∃z,x=.str z/\z.length<=cL/\Q (.str (PySem.StrLaws.sliceText z lo hi)) H
theorem lQ(x:Str)(lo hi:Option Int)(hz:x.length<=cL):(PySem.StrLaws.sliceText x lo hi).length<=cL:=H8 (Txt.slice_le x lo hi) hz
theorem Eo:NB X GR:=by
 intro pins s σ H x v f g lo hi m Q I e hs pl c h;obtain⟨z,rfl,hz,q⟩:=h;obtain⟨t,rfl⟩:=e;refine⟨"str",_,ĭ.lookup,Y9 _ _ _,?_⟩;have a:(PySem.StrLaws.sliceText z lo hi).length<=cL/\∀t' k,EP X pins σ Q (.str (PySem.StrLaws.sliceText z lo hi) t') {s with toks:=k}:=⟨lQ z lo hi hz,λt' k=>⟨.str _,H,I.tok k,⟨_,rfl⟩,q⟩⟩
 cases pl with
 |none =>
  cases c with
  |none=>exact Qa (l:=b6) (u:=b6) (st:=b6) hs rfl (UN a)
  |int j b=>exact Qa (l:=b6) (u:=a5 (j,b)) (st:=b6) hs rfl (UN a)
 |int i d =>
  cases c with
  |none=>exact Qa (l:=a5 (i,d)) (u:=b6) (st:=b6) hs rfl (UN a)
  |int j b=>exact Qa (l:=a5 (i,d)) (u:=a5 (j,b)) (st:=b6) hs rfl (UN a)
theorem hJ:∀{a:List Str}{its:List d3},Vals (a.map V.str) its->∃l:List (Str×Tok),its=strValues l/\l.map (·.1)=a
 |[],_,.nil=>⟨[],rfl,rfl⟩
 |y::a,_,.cons r t=>by
  obtain⟨b,rfl⟩:=r;obtain⟨l,rfl,e⟩:=hJ t;exact⟨(y,b)::l,rfl,by rw[d6,e]⟩
theorem Bo:Su X "str.join" (λx xs H Q=>∃a p b,x=.str a/\xs=[.ref p]/\JA X.K H p (b.map V.str)/\ć a b=b8/\Q (.str (Uo a b)) H):=by
 intro pins s σ H x xs v us Q I c rs h;obtain⟨a,p,b,rfl,rfl,d,f,q⟩:=h;obtain⟨t,rfl⟩:=c;obtain⟨u,rfl,r⟩:=vals1 rs;cases r;obtain⟨its,rv,pl,hz⟩:=I.list d;obtain⟨l,rfl,e⟩:=hJ rv;exact SC.join pl.isList e f λt' k=>⟨.str _,H,I.tok k,⟨_,rfl⟩,q⟩
theorem jo:∀{bs:List Bool}{its:List d3},Vals (bs.map V.bl) its->its=bs.map RJ
 |[],_,.nil=>rfl
 |b::bs,_,.cons r t=>by
  cases r;rw[jo t];rfl
theorem yc:X.calm=b8->fh X (.builtin "all") (λxs H Q=>∃(p:fR) (bs:List Bool),xs=[.ref p]/\JA X.K H p (bs.map V.bl)/\Q (.bl (bs.all id)) H):=by
 intro d pins s σ H xs us Q I rs h;obtain⟨p,bs,rfl,f,q⟩:=h;obtain⟨u,rfl,r⟩:=vals1 rs;cases r;obtain⟨its,rv,pl,hz⟩:=I.list f;have e:=jo rv;subst e;have g:p<s.heap.objs.size:=by obtain⟨_,_,e,_⟩:=pl;exact ez e
 refine call_all_walk (Tj pl.isList ?_);refine⟨s.heap.objs.size,[s.heap.objs.size,p],[s.heap.objs.size],(bs.map RJ).toArray.size,_,_,λi=>(bs[i]?).getD b8,rfl,WA (A:=X.A.in1) (I.ok.hd d) _ p (hQ g) (bs.map RJ).toArray,
  ⟨⟨_,eH _ rfl,rfl,rfl⟩,pl.isList.push _⟩,λi v s' Q' l j c=>?_,λh' k hk=>?_⟩
 ·have a:(bs.map RJ)[i]?=a5 v:=by simpa using j
  rw[i6]at a;cases e:bs[i]? with
  |none=>rw[e]at a;cases a
  |some b =>
   rw[e]at a;cases a;simp only[e,Option.getD_some]at c;exact Jz c
 ·have e:((i0 (bs.map RJ).toArray.size).all λi=>(bs[i]?).getD b8)=bs.all id:=by
   rw[hH,c4];exact ù bs
  rw[e];exact⟨.bl _,H,I.kept (t':=k) (ú hk),rfl,q⟩
end
section
end
noncomputable def Ep(N a:List Str)(scope:Nb)(out:List (Str×OM)):Bool :=
 dt (scope.kind=.function)&&scope.names.all (λy=>dt (y.2≠.cell))&&scope.names.all (λy=>dt (y.2≠.local)||decide (scope.names.lookup y.1=a5 .local))&&decide N.Nodup&&dt (N.take a.length=a) &&
 scope.names.all (λy=>dt (y.2≠.local)||decide (y.1∈a)||decide (y.1=".0"))&&dt ((".0":Str)∉N)&&scope.names.all (λy=>dt (y.2≠.free)||decide (out.lookup y.1=a5 .cell)||decide (out.lookup y.1=a5 .free))&&scope.names.all (λy=>dt (y.1≠".")&&dt (y.1≠".."))
theorem yd(c:X.env.scope.names=out)(d:d7 (N.drop a.length) X.N)(h:Ep N a scope out=b8):d8 X N a scope:=by
 unfold Ep at h;simp only[cb,i8,Lj,ŏ]at h;obtain⟨⟨⟨⟨⟨⟨⟨⟨f,g⟩,i⟩,j⟩,k⟩,l⟩,m⟩,n⟩,o⟩:=h;refine⟨f,g,λy b e=>?_,j,k,λy b e=>?_,m,d,λy b e=>?_,o⟩
 ·rcases i y b with z|z
  ·exact absurd e z
  ·exact z
 ·rcases l y b with(z|z)|z
  ·exact absurd e z
  ·exact .inl z
  ·exact .inr z
 ·rw[c];rcases n y b with(z|z)|z
  ·exact absurd e z
  ·exact .inl z
  ·exact .inr z
section
end
section
end
noncomputable def K_(a b:Str):Bool:=!dt (b.cps.toList<a.cps.toList)
theorem jT(a b:Str):K_ a b=b8↔a.cps.toList<=b.cps.toList:=by
 simp only[K_,t4,decide_eq_false_iff_not];exact List.not_lt
theorem mH(a b c:Str)(d:K_ a b=b8)(e:K_ b c=b8):K_ a c=b8:=by
 rw[jT]at d e ⊢;exact List.le_trans d e
theorem we(a b:Str):(K_ a b||K_ b a)=b8:=by
 rw[Lj,jT,jT];exact List.le_total _ _
theorem ye{x y:Str}(h:x.cps.toList=y.cps.toList):x=y:=by
 cases x;cases y;congr
 exact Array.toList_inj.mp h
theorem oq(c:K_ a b=b8)(d:K_ b a=b8):a=b:=by
 rw[jT]at c d;exact ye (List.le_antisymm c d)
noncomputable def aR(l:List Str):List Str:=l.mergeSort K_
theorem bJ(l:List Str):(aR l).Perm l:=List.mergeSort_perm l K_
theorem ku(l:List Str):(aR l).Pairwise (λa b=>K_ a b=b8):=List.pairwise_mergeSort mH we l
theorem hZ:∀(l:List Str) (p:Str),risingS p l=b8->(p::l).Pairwise (λa b=>K_ a b=b8)
 |[],p,_=>by simp
 |x::r,p,h=>by
  have h':(!ltCps x.cps.toList p.cps.toList&&risingS x r)=b8:=h;obtain⟨c,g⟩:=KJ.mp h';have d:=hZ r x g;have f:K_ p x=b8:=by rw[ltCps_eq]at c;exact c
  refine RX.mpr ⟨λy i=>?_,d⟩;rcases et.mp i with e|e
  ·rw[e];exact f
  ·exact mH _ _ _ f ((RX.mp d).1 y e)
theorem ot(h:sortedS l=b8):l.Pairwise (λa b=>K_ a b=b8):=by
 cases l with
 |nil=>exact .nil
 |cons x r=>exact hZ r x h
theorem iP:∀{l m:List Str},l.Perm m->l.Pairwise (λa b=>K_ a b=b8)->m.Pairwise (λa b=>K_ a b=b8)->l=m
 |[],m,c,_,_=>(List.Perm.nil_eq c)
 |x::l,m,c,d,f=>by
  cases m with
  |nil=>exact absurd c.length_eq (by simp)
  |cons y m =>
   obtain⟨a1,g⟩:=RX.mp d;obtain⟨b1,h⟩:=RX.mp f;have i:x=y:=by
    have m1:x∈y::m:=c.mem_iff.mp nc;have m2:y∈x::l:=c.mem_iff.mpr nc;rcases et.mp m1 with e|e
    ·exact e
    ·rcases et.mp m2 with e'|e'
     ·exact e'.symm
     ·exact oq (a1 y e') (b1 x e)
   subst i;rw[iP (List.Perm.cons_inv c) g h]
theorem yf(a:l.Perm m)(hs:sortedS l=b8):l=aR m:=iP (a.trans (bJ m).symm) (ot hs) (ku m)
theorem jq(a:l.Perm m):aR l=aR m:=iP ((bJ l).trans (a.trans (bJ m).symm)) (ku l) (ku m)
theorem bQ(l:List Str):(aR l).length=l.length:=(bJ l).length_eq
section
theorem cF:∀{a:List Str}{its:List d3},Vals (a.map V.str) its->Qv its a
 |[],_,.nil=>.nil
 |y::a,_,.cons r t=>by
  obtain⟨b,rfl⟩:=r;exact .cons y b (cF t)
theorem dz:∀{its:List d3}{a:List Str},Qv its a->Vals (a.map V.str) its
 |_,_,.nil=>.nil
 |_,_,.cons x t h=>.cons ⟨t,rfl⟩ (dz h)
theorem eU(hc:d4 (gs prog w) A.in1 (Ä x) (λvs s1=>∃ss,Qv vs ss/\vs.length<64 /\
      ∀(h':Jy) (JC:List d3) (e:Nat),(∀b o,s1.heap.get? b=a5 o->h'.get? b=a5 o)->h'.get? s1.heap.objs.size=a5 (vu "list" JC.toArray e)->Qv JC (aR ss)->Q (.ref s1.heap.objs.size) {s1 with heap:=h' }) E s) :
    d4 (gs prog w) A (Nd (.builtin "sorted") [x]) Q E s:=by
  refine R' ï Ì Î (Ï _) ?_;unfold Mq.«sorted»;refine bD (m:=ă "sorted" 1 1 _) (df ?_);refine bD (qb hc (λvs s1 h1=>?_) λ_ _ e=>e);obtain⟨ss,hS,K',h⟩:=h1
  refine wpAny_bind (wpAny_newList ?_ (by have : (64 : Nat) ≤ sizeLine := by decide
                                          lia))
  have L3:(s1.heap.push (vu "list" vs.toArray 0)).get? s1.heap.objs.size=a5 (vu "list" vs.toArray 0):=eH _ rfl;show d4 _ _ _ _ _ {s1 with heap:=s1.heap.push (vu "list" vs.toArray 0)};refine bD (qs (B' Zi ⟨_,L3,rfl⟩ Yd (list_sort_treeK strKind_oneLt L3 hS.keysOf (λv₁ v₂ rest e=>keyKind_strs (by rw[<-e];exact hS)) K' λst' a1 a2=>⟨_,rfl,?_⟩) (Zj _)));obtain⟨Ly,b1,b2,b3⟩:=sorted_out_str hS a1 a2;obtain⟨e,he⟩:=ZL (out:=(arrOf st').map (·.2)) L3;rw[yf b2 b3]at b1;refine df ⟨_,rfl,h _ ((arrOf st').map (·.2)).toList e (λb o q=>?_) (by rw[Zv];exact he) b1⟩;have Jk:b<s1.heap.objs.size:=ez q;show(Zh (s1.heap.push (vu "list" vs.toArray 0)) s1.heap.objs.size vs ((arrOf st').map (·.2))).get? b=a5 o;rw[Zf (hQ Jk) (by rw[KO];exact P9 Jk)];exact cK _ q
theorem lR(hl:ō s.heap l vs.toArray)
  (h:Q vs {s with heap:=(s.heap.push (vu "list" #[] 0)).update s.heap.objs.size (oT (·++vs.toArray))}) (hsz:vs.length<=cL) :
  d4 (gs prog w) A (Ä (.ref l)) Q E s:=by
 obtain⟨o,ho,b,n,c⟩:=id hl;unfold Ä;refine bD (Y7 (JU entry_proto_collect' ?_));show d4 _ _ (do Ņ (.builtin "list.__iadd__" ⟨[<-ĕ [],.ref l],[]⟩)) _ _ s;refine bD (Vz (df ⟨Z9 _ (by decide +kernel),JU entry_list_iadd' ?_⟩));show d4 _ _ (ti (.ref s.heap.objs.size) (.ref l) (.ref s.heap.objs.size)) _ _ {s with heap:=s.heap.push (vu "list" #[] 0)};unfold ti;have a:(s.heap.push (vu "list" #[] 0)).get? l=a5 o:=cK _ ho;refine bD (So (T:="tuple") ⟨o,a,b⟩ ?_);have d:(ri "tuple"==ri "tuple")=b8:=by rfl
 rw[Ő (by rw[d];simp)];refine bD (Í a c ?_);refine bD (Í (xs:=#[]) (n:=0) (eH _ rfl) rfl ?_);rw[ő (by simp)];refine bD (VF (xs:=#[]) (n:=0) (eH _ rfl) rfl ?_ (ki _) (by show(#[]++vs.toArray).size<=cL+1;simp only[U',hH,Tt];lia));refine df ?_;show d4 (gs prog w) A (do
   let o <-load s.heap.objs.size
   match o.data with
   |.seq xs _=>pure xs.toList
   |_=>XZ "internal:collect") Q E {s with heap:=(s.heap.push (vu "list" #[] 0)).update s.heap.objs.size (oT (·++vs.toArray))}
 refine bD (þ (Ĺ (eH _ rfl) _) ?_);show d4 _ _ (pure ((#[]:Array d3)++vs.toArray).toList) Q E _;rw[show((#[]:Array d3)++vs.toArray).toList=vs by simp];exact df h
end
section
theorem gu{h:Jy}{vs:List d3}(e:h.get? b=a5 o):((h.push (vu "list" #[] 0)).update h.objs.size (oT (·++vs.toArray))).get? b=a5 o:=by
 rw[OI _ _ _ _ (hQ (ez e))];exact cK _ e
theorem pX(I:Inv X pins σ H s)(k1:∀b o,s.heap.get? b=a5 o->s1.heap.get? b=a5 o)(g:∃c a,s1={s with heap:=c,toks:=a})
  (hk:∀b o,s1.heap.get? b=a5 o->h'.get? b=a5 o) (h:h'.get? s1.heap.objs.size=a5 (vu "list" d.toArray e)) (i:Qv d (aR ss)) (hsz:s.heap.objs.size<=s1.heap.objs.size) (hl:ss.length<=cL)
  (q:∀p,H p=b6->Q (.ref p) (upd H p (.lst ((aR ss).map V.str)))):EP X pins σ Q (.ref s1.heap.objs.size) {s1 with heap:=h' }:=by
 obtain⟨c,a,rfl⟩:=g;have f:Inv X pins σ H {s with heap:=c,toks:=a}:=I.kept (t':=a) k1;refine⟨.ref c.objs.size,_,f.laid (t':=a) (o:=.lst ((aR ss).map V.str)) hk (hU _) ⟨by rw[c4,bQ];exact hl,d,e,dz i,h⟩,rfl,q _ (f.Ja.fresh (hU _))⟩
theorem jr:fh X (.builtin "sorted") (λxs H Q=>∃(p:fR) (a:List Str),xs=[.ref p]/\(JA X.K H p (a.map V.str)\/JH X.K H p (a.map V.str))/\a.length<64/\∀q,H q=b6->Q (.ref q) (upd H q (.lst ((aR a).map V.str)))):=by
 intro pins s σ H xs us Q I rs h;obtain⟨p,a,rfl,hq,i,q⟩:=h;obtain⟨u,rfl,r⟩:=vals1 rs;cases r;have hl:a.length<=cL:=P_ (i2 i (by decide));have d:∀(its:List d3),Vals (a.map V.str) its->∀(h':Jy) (c:List d3) (e:Nat),(∀b o,((s.heap.push (vu "list" #[] 0)).update s.heap.objs.size (oT (·++its.toArray))).get? b=a5 o->h'.get? b=a5 o) ->
   h'.get? ((s.heap.push (vu "list" #[] 0)).update s.heap.objs.size (oT (·++its.toArray))).objs.size=a5 (vu "list" c.toArray e)->Qv c (aR a) ->
   EP X pins σ Q (.ref ((s.heap.push (vu "list" #[] 0)).update s.heap.objs.size (oT (·++its.toArray))).objs.size) {s with heap:=h' }:=λits rv h' c e hk f g =>
  pX (s1:={s with heap:=(s.heap.push (vu "list" #[] 0)).update s.heap.objs.size (oT (·++its.toArray))}) I (λb o z=>gu z) ⟨_,s.toks,rfl⟩ hk f g (by show s.heap.objs.size<=((s.heap.push (vu "list" #[] 0)).update s.heap.objs.size (oT (·++its.toArray))).objs.size;rw[Ù,KO];exact LB _) hl q
 rcases hq with hq|hq
 ·obtain⟨its,rv,pl,hz⟩:=I.list hq;have j:its.length=a.length:=by rw[<-rv.length,c4]
  exact eU (collect_list pl.isList ⟨a,cF rv,⋯,λh' c e hk f g=>d its rv h' c e hk f g⟩ ⋯)
 ·obtain⟨its,rv,pl,hz⟩:=I.tuple hq;have j:its.length=a.length:=by rw[<-rv.length,c4]
  exact eU (lR pl ⟨a,cF rv,⋯,λh' c e hk f g=>d its rv h' c e hk f g⟩ ⋯)
end
abbrev sK(P:ve)(w:Jq):=PySem.strKind P w
def aP(P:ve)(w:Jq)(h:Jy)(a:fR)(led:Bool)(D:List Str):Prop :=
 ∃(L:List (Str×Tok)) (es:Array (Int×d3)) (ep:Nat) (t:OL),h.get? a=a5 {cls:=.type "set",dict:=b6,data:=.set es ep t}/\es.toList=L.map (λp=>((sK P w).hash p.1,t5 p.1 p.2)) /\
  (L.map (·.1)).Perm D/\D.Nodup/\t.fits es.size=b8/\es.size<DD/\t.led=led/\(es.size=0\/t.plain=cc)
section
theorem kA{L:List (Str×Tok)}:ElemsOf (sK prog w) (L.map λp=>((sK prog w).hash p.1,t5 p.1 p.2)):=by
 intro e a;obtain⟨p,_,rfl⟩:=lg.mp a;exact⟨⟨p.1,by simp[PySem.strKind,Qm],rfl⟩,rfl⟩
theorem gv(x y:Str)(t:Tok):(sK prog w).is x (.str y t)=dt (x=y):=by
 rw[Ll];simp[PySem.strKind,Qm];exact⟨λh=>h.symm,λh=>h.symm⟩
theorem rP(t:OL)(es:Array (Int×d3))(h:Int)(x:d3):(layNew t es h x).2.1.led=t.led:=by
 unfold layNew;split
 ·show(YE (t.put _).1 _).led=t.led;unfold YE;split<;>rfl
 ·rfl
theorem ou(t:OL)(es:Array (Int×d3))(n:Nat):(Y_ t es n).2.1.led=t.led:=by
 unfold Y_;split
 ·rename_i t' b a;have:t'.led=t.led:=by
   unfold Vm TN at a;cases c:RQ (Ls n - 1) (es.map (·.1)) with
   |none=>rw[c]at a;cases a
   |some o=>rw[c]at a;cases a;rfl
  dsimp only
  split
  ·exact this
  ·rfl
 ·rfl
theorem kB(t:OL)(es:Array (Int×d3))(n:Nat)(h:t.plain=cc):(Y_ t es n).2.1.plain=cc:=by
 unfold Y_;split
 ·rename_i t' b a;have:t'.plain=t.plain:=by
   unfold Vm TN at a;cases c:RQ (Ls n - 1) (es.map (·.1)) with
   |none=>rw[c]at a;cases a
   |some o=>rw[c]at a;cases a;rfl
  dsimp only
  split
  ·rw[this];exact h
  ·rfl
 ·rfl
theorem c_(h:l.Perm (L.map λp=>((sK prog w).hash p.1,t5 p.1 p.2))):∃L':List (Str×Tok),l=L'.map (λp=>((sK prog w).hash p.1,t5 p.1 p.2))/\L'.Perm L:=by
 have all:∀e∈l,∃p:Str×Tok,e=((sK prog w).hash p.1,t5 p.1 p.2):=λe a=>by
  obtain⟨p,_,rfl⟩:=lg.mp (h.mem_iff.mp a);exact⟨p,rfl⟩
 have ex:∀l:List (Int×d3),(∀e∈l,∃p:Str×Tok,e=((sK prog w).hash p.1,t5 p.1 p.2))->∃L':List (Str×Tok),l=L'.map (λp=>((sK prog w).hash p.1,t5 p.1 p.2)):=by
  intro l;induction l with
  |nil=>intro _;exact⟨[],rfl⟩
  |cons e l c =>
   intro b;obtain⟨p,rfl⟩:=b e nc;obtain⟨L',rfl⟩:=c λe a=>b e (l' _ a);exact⟨p::L',rfl⟩
 obtain⟨L',rfl⟩:=ex l all;refine⟨L',rfl,?_⟩;have g:(L'.map λp=>((sK prog w).hash p.1,t5 p.1 p.2)).map (λe=>match e.2 with|.str x t=>(x,t)|_=>(nH,0))=L':=by
  rw[i5];exact VI _
 have d:(L.map λp=>((sK prog w).hash p.1,t5 p.1 p.2)).map (λe=>match e.2 with|.str x t=>(x,t)|_=>(nH,0))=L:=by
  rw[i5];exact VI _
 have:=h.map (λe=>match e.2 with|.str x t=>(x,t)|_=>(nH,0));rw[g,d]at this;exact this
theorem kC(hS:aP prog w s.heap a led D)(NH:D.length+1<DD)
    (h:∀h',o3 a s.heap h'->aP prog w h' a led (if x∈D then D else D++[x])->Q (dt (x∉D)) {s with heap:=h' }) :
    d4 (gs prog w) A (setAddHashed a (.str x tk) ((sK prog w).hash x)) Q E s:=by
  obtain⟨L,es,ep,t,ho,JS,Jd,Jj,hf,hb,JW,JE⟩:=hS;have Oc:(sK prog w).is x (.str x tk)=b8:=by rw[gv];simp
  have PZ:ElemsOf (sK prog w) es.toList:=by rw[JS];exact kA
  have hlen:es.size=D.length:=by rw[<-hW,JS,c4,<-c4 (f:=û) (as:=L),Jd.length_eq]
  unfold setAddHashed setAddHashedIn;refine qs (bD (mn ho rfl hf ?_))
  dsimp only
  rw[byScan_of (knd:=sK prog w) rfl hb PZ];simp only[↓reduceIte];unfold setAddByScan;refine bD ?_;refine bD (N3 ?_);refine bD (Ģ (knd:=sK prog w) Oc ho rfl hf PZ ?_);have mem_iff:(∃e∈es.toList,(sK prog w).is x e.2=b8)↔x∈D:=by
    rw[JS,<-Jd.mem_iff,lg];constructor
    · rintro⟨e,he,hi⟩
      obtain⟨p,hp,rfl⟩:=lg.mp he;rw[gv,ŏ]at hi;exact⟨p,hp,hi.symm⟩
    · rintro⟨p,hp,e⟩
      exact⟨_,lg.mpr ⟨p,hp,rfl⟩,by rw[gv];simp[e]⟩
  cases hr:X8 (λe=>(sK prog w).is x e.2) es.toList with
  | some j =>
    dsimp only
    obtain⟨hj,Rf,_⟩:=U9.mp hr;have hx:x∈D:=mem_iff.mp ⟨es.toList[j],MY hj,Rf⟩;refine df (df ?_);have e:s={s with heap:=s.heap}:=by cases s;rfl
    have:=h s.heap (JR a s.heap) (by rw[Ő hx];exact⟨L,es,ep,t,ho,JS,Jd,Jj,hf,hb,JW,JE⟩);rw[Œ (λz=>z hx)]at this;rw[e];exact this
  | none =>
    dsimp only
    have hx:x∉D:=λhx=>by
      obtain⟨e,he,hp⟩:=mem_iff.mpr hx;have:=XN.mp hr e he;rw[hp]at this;exact Bool.noConfusion this
    have W4:∀(b:Bool) {s₁:fS} {Q':Unit->fS->Prop},Q' () s₁->d4 (gs prog w) A (match b with|true=>ħ "set.scan.the-table-gave-way"|false=>pure ()) Q' E s₁ :=
      λb s₁ Q' hq=>by cases b<;>first|exact df hq|exact N3 hq
    have O3:=layNew_perm t es ((sK prog w).hash x) (.str x tk);have LQ:=layNew_fits t es ((sK prog w).hash x) (.str x tk);have Mz:=rP t es ((sK prog w).hash x) (.str x tk);generalize hL:layNew t es ((sK prog w).hash x) (.str x tk)=NL at O3 LQ Mz ⊢;obtain⟨JN,t1,MA,W5⟩:=NL
    dsimp only at O3 LQ Mz ⊢
    rw[À,JS,show [((sK prog w).hash x,t5 x tk)]=[(x,tk)].map (λp=>((sK prog w).hash p.1,t5 p.1 p.2)) from rfl,<-js]at O3;obtain⟨L1,e1,W6⟩:=c_ O3;have Lb:JN.size=D.length+1:=by rw[<-hW,O3.length_eq,c4,hV,<-hlen,<-hW,JS,c4];rfl
    have Ve:JN.size<DD:=by lia
    have NI:(L1.map (·.1)).Perm (D++[x]):=(W6.map _).trans (by rw[js];exact Jd.append_right _);have Vf:(D++[x]).Nodup:=by
      rw[rr]
      exact ⟨Jj, by simp, fun y hy z hz => by have : z = x := by simpa using hz
                                              subst this;rintro rfl;exact hx hy⟩
    refine bD (W4 _ ?_);have M8:∀h',o3 a s.heap h'->aP prog w h' a led (D++[x])->Q b8 {s with heap:=h' }:=λh' sb hs=>by
      have:=h h' sb (by rw[ő hx];exact hs);rw[œ hx]at this;exact this
    have tail:∀(g:Bool->Sem Unit),(∀(b:Bool) (s₁:fS) (Q':Unit->fS->Prop),Q' () s₁->d4 (gs prog w) A (g b) Q' E s₁)->∀(R:Option Bool->fS->Prop),(∀h',o3 a s.heap h'->aP prog w h' a led (D++[x])->R (a5 b8) {s with heap:=h' })->∀t2:OL,t2.fits JN.size=b8->t2.led=led->t2.plain=cc->d4 (gs prog w) A (do
        storeSet a JN t2
        if (!MA&&t2.tooFull)=true then do
            g (relayAll t2 JN (SetTable.grown JN.size)).2.2
            storeSet a (relayAll t2 JN (SetTable.grown JN.size)).1 (relayAll t2 JN (SetTable.grown JN.size)).2.1
            pure (some true)
          else pure (a5 b8)) R E s:=by
      intro g hg R hR t2 W7 M9 M_;refine bD (V6 ho rfl ?_ (Ww Ve));have MS:(s.heap.update a (O7 JN t2)).get? a=a5 {cls:=.type "set",dict:=b6,data:=.set JN (ep+1) t2}:=by
        have:=uk (O7 JN t2) ho rfl;exact this
      have P0:=x3 s.heap a (O7 JN t2);split
      · have hp:=relayAll_perm t2 JN (N2 JN.size)
        have LR:=relayAll_fits t2 JN (N2 JN.size);have S5:=ou t2 JN (N2 JN.size);have M':=kB t2 JN (N2 JN.size) M_;generalize S6:Y_ t2 JN (N2 JN.size)=Rl at hp LR S5 M' ⊢;obtain⟨NJ,t3,Vg⟩:=Rl
        dsimp only at hp LR S5 M' ⊢
        rw[e1]at hp;obtain⟨L2,e2,W8⟩:=c_ hp;have hsz:NJ.size=JN.size:=by rw[<-hW,hp.length_eq,<-e1,hW]
        refine bD (hg _ _ _ ?_);refine bD (V6 MS rfl ?_ (Ww ⋯));have NK:((s.heap.update a (O7 JN t2)).update a (O7 NJ t3)).get? a=a5 {cls:=.type "set",dict:=b6,data:=.set NJ (ep+1+1) t3}:=uk (O7 NJ t3) MS rfl;refine df (hR _ (P0.trans (x3 _ a _)) ⟨L2,NJ,_,t3,NK,e2,(W8.map _).trans NI,Vf,LR,⋯,S5.trans M9,.inr M'⟩)
      · exact df (hR _ P0 ⟨L1,JN,_,t2,MS,e1,NI,Vf,W7,Ve,M9,.inr M_⟩)
    split
    · rename_i hp
      refine bD ?_;rw[hashByValue_scannable 8 rfl];refine df ?_;have ep:(if plainKind (t5 x tk)=b8 then t1 else {t1 with plain:=cc})={t1 with plain:=cc}:=rfl;rw[ep];refine tail _ ?_ _ ?_ {t1 with plain:=cc} (SetTable.fits_plain_off LQ) (Mz.trans JW) rfl
      · intro b s₁ Q' hq;cases b<;>first|exact df hq|exact N3 hq
      · intro h' Na KQ;dsimp only;exact df (M8 h' Na KQ)
    · rename_i hp
      refine bD (df ?_);simp only[↓reduceIte];refine tail _ ?_ _ ?_ t1 LQ (Mz.trans JW) (Bool.eq_false_iff.mpr hp)
      · intro b s₁ Q' hq;cases b<;>first|exact df hq|exact N3 hq
      · intro h' Na KQ;dsimp only;exact df (M8 h' Na KQ)
end
noncomputable def iQ(D:List Str)(x:Str):List Str:=if x∈D then D else D++[x]
noncomputable def aM(l:List Str):List Str:=l.foldl iQ []
theorem rQ(h:D.Nodup):(iQ D x).Nodup:=by
  unfold iQ;split
  · exact h
  · rename_i hx
    rw[rr]
    exact ⟨h, by simp, fun y hy z hz => by have : z = x := by simpa using hz
                                           subst this;rintro rfl;exact hx hy⟩
theorem eV:∀(l D:List Str),D.Nodup->(l.foldl iQ D).Nodup/\(∀x,x∈l.foldl iQ D↔x∈D\/x∈l)/\(l.foldl iQ D).length<=D.length+l.length
 |[],D,h=>⟨h,by simp,by simp⟩
 |y::l,D,h=>by
  obtain⟨a,b,f⟩:=eV l (iQ D y) (rQ h);have c:∀x,x∈iQ D y↔x∈D\/x=y:=λx=>by
   unfold iQ;split
   ·rename_i d;exact⟨.inl,λz=>z.elim id (λe=>e▸d)⟩
   ·simp
  have hl:(iQ D y).length<=D.length+1:=by
   unfold iQ;split
   ·lia
   ·simp
  refine⟨a,λx=>?_,by rw[Tu,ke];lia⟩;rw[Tu,b,c,et,or_assoc]
theorem ox(l:List Str):(aM l).Nodup:=(eV l [] RZ).1
theorem gI(l:List Str)(x:Str):x∈aM l↔x∈l:=by rw[aM,(eV l [] RZ).2.1];simp
theorem kD(l:List Str):(aM l).length<=l.length:=by have:=(eV l [] RZ).2.2;simpa[aM] using this
theorem pY(l:List Str)(x:Str):aM (l++[x])=iQ (aM l) x:=by unfold aM;rw[List.foldl_append];rfl
section
variable{prog:ve}{w:Jq}{A:N8}{R:Result->fS->Prop}{I:fR}{fp wr:List fR}{G:Array é->Array é->Prop}{n:Nat}{P:Nat->d3->Prop}{St:Nat->fS->Prop}
theorem iR(W:ą prog w A.in1 I fp wr G n P St)(S:fR)(l:S∉fp)(led:Bool)
  (a:List Str) (hn:a.length=n) (u:∀i v,P i v->∃x t,a[i]?=a5 x/\v=.str x t) (c:n+1<DD) :
  ∀(k i:Nat) (s:fS),n - i=k->i<=n->St i s->aP prog w s.heap S led (aM (a.take i)) ->
   (∀s',Moved (S::wr) G s s'->aP prog w s'.heap S led (aM a)->R (.ok (.ret .none)) s') ->
   Qq (gs prog w) A (.builtin "set.update.loop" ⟨[.ref S,.ref I],[]⟩) R s:=by
 have m:S∉wr:=λh=>l (W.sub _ h);have p:∀b∈wr,b∈S::wr:=λb c=>l' _ c;intro k;induction k with
 |zero =>
  intro i s hk hi g f j;have y:i=n:=by lia
  subst y;refine JU Sw ?_;rw[Kk NM _];show d4 _ A.in1 (Sy (.ref I) >>= _) _ _ s;refine bD (W.done s _ _ g λs' d=>?_);show d4 _ A.in1 (ret mh) _ _ s';rw[D7 ⋯]at f;exact df (j s' (d.mono p) (by
   obtain⟨L,es,ep,t,ho,rest⟩:=f;exact⟨L,es,ep,t,d.heap S _ m ho,rest⟩))
 |succ k z =>
  intro i s hk hi g f j;have q:i<n:=by lia
  refine JU Sw ?_;rw[Kk NM _];show d4 _ A.in1 (Sy (.ref I) >>= _) _ _ s;refine bD (W.item i s _ _ q g λv s' B C d=>?_);obtain⟨x,t,D,rfl⟩:=u i v B;have H:aP prog w s'.heap S led (aM (a.take i)):=by
   obtain⟨L,es,ep,J,ho,rest⟩:=f;exact⟨L,es,ep,J,d.heap S _ m ho,rest⟩
  show d4 _ A.in1 (MP [t5 x t] (setAdd S (.str x t)) >>= _) _ _ s';refine bD (qs ?_);unfold setAdd;refine qs ?_;refine bD ((sK prog w).pyHash (k:=x) (by rw[gv];simp) ?_);have N:(aM (a.take i)).length+1<DD:=by have:=kD (a.take i);rw[x4]at this;lia
  refine kC (s:={s' with toks:=s'.toks+1}) H N λh' r O=>?_;have Q:aP prog w h' S led (aM (a.take (i+1))):=by
   rw[List.take_add_one,D];show aP prog w h' S led (aM (a.take i++[x]));rw[pY];exact O
  refine df ⟨Py NM _,z (i+1) _ ⋯ q (W.frame _ s' _ _ C (LB _) λb c o e=>?_) Q λT Y S8=>?_⟩
  ·rw[r.2 b (λh:b=S=>l (by rw[<-h];exact c))];exact e
  ·refine j T (Ě W.gtrans ((d.mono p).then_heap (LB _) λb o c e=>?_) Y) S8;rw[r.2 b (λh:b=S=>c (by rw[h];exact nc))];exact e
end
section
theorem lS(a:d3)
  (h:Q₁ (.ref s.heap.objs.size) {s with heap:=s.heap.push {cls:=.type "set",dict:=b6,data:=.set #[] 0 (.fresh 0 0 (!w.params.followText "set-order"))}}) :
  Qq (gs prog w) A (.call (.builtin "set.__new__") ⟨[.type "set",a],[]⟩) (wants Q₁ E) s:=by
 refine ĳ ?_;show d4 _ A.in1 (do checkBuiltinCall "set.__new__" ⟨[.type "set",a],[]⟩;Ņ (.builtin "set.__new__" ⟨[.type "set",a],[]⟩)) _ _ s;refine bD (XO (PySem.F.newCall_set_1 a) (df ⟨Py PySem.F.plain_set_new _,JU PySem.F.entry_set_new ?_⟩));rw[Kk PySem.F.plain_set_new _];unfold Mq.«set.__new__» í;have b:=Wl;obtain⟨c,g,d,e,os⟩:=s
 dsimp only
 wp_walk
 refine QS (df ?_)
 dsimp only
 simp only[newObj];refine bD (wpAny_alloc (df ?_));exact df h
theorem gJ(b:h.get? a=a5 {cls:=.type "set",dict:=b6,data:=.set #[] 0 (.fresh 0 0 led)}):aP prog w h a led [] :=
 ⟨[],#[],0,_,b,rfl,.nil,RZ,rfl,by unfold DD;decide,rfl,.inl rfl⟩
end
theorem sub_tuple_set:Qe (.type "tuple") (.type "set")=pure cc:=by rw[JK];kernel_rfl
theorem sub_tuple_frozenset:Qe (.type "tuple") (.type "frozenset")=pure cc:=by rw[JK];kernel_rfl
section
abbrev aD(w:Jq):Bool:=!w.params.followText "set-order"
abbrev rR(led:Bool):Obj:={cls:=.type "set",dict:=b6,data:=.set #[] 0 (.fresh 0 0 led)}
theorem h_
  (L:s.TypeIs (.ref l) T) (W':Qe (.type T) (.type "set")=pure cc) (Xa:Qe (.type T) (.type "frozenset")=pure cc) (JQ:(ri T==ri "dict")=cc)
  (N:a.length+1<DD)
  (k:∀(s1:fS) (B:N8) (Q':d3->fS->Prop),B.handled=A.handled->(∀b o,s.heap.get? b=a5 o->s1.heap.get? b=a5 o)->s.heap.objs.size<s1.heap.objs.size ->
   (∀I m n G P St d,ą prog w B.in1 I m n G a.length P St->(∀g g',G g g'->g'=g)->s.heap.objs.size∉m->(∀b∈n,s.heap.objs.size<b)->(∀i v,P i v->∃x t,a[i]?=a5 x/\v=.str x t)->St 0 {s1 with heap:=d}->(∀b o,s1.heap.get? b=a5 o->d.get? b=a5 o)->Q' (.ref I) {s1 with heap:=d})->d4 (gs prog w) B (Za (.ref l)) Q' E s1)
  (h:∀(h':Jy) (f:Nat),aP prog w h' s.heap.objs.size (aD w) (aM a)->(∀b o,b<s.heap.objs.size->s.heap.get? b=a5 o->h'.get? b=a5 o)->Q (.ref s.heap.objs.size) {s with heap:=h',toks:=f}) :
  d4 (gs prog w) A (Nd (.type "set") [.ref l]) Q E s:=by
 obtain⟨c,tl,Xb⟩:=PySem.F.called_set.mro;have Vi:=PySem.F.called_set.made;have Lz:=PySem.F.called_set.sub;refine ÿ (ĳ ?_);show d4 _ _ (callAny (.type "set") _) _ _ _;refine df ⟨Z9 _ (by decide +kernel),JU PySem.F.entry_type_call ?_⟩;rw[Around.under_plain (weight_type_call_type "set" [.ref l] []) rfl];have d:=PySem.F.called_set.notType;have h2:=PySem.F.called_set.canCreate;have ZI:=PySem.F.typeCall_set_1 (.ref l)
 repeat (any_goals (first|assumption|wp_step))
 refine Sq (lS (.ref l) (E:=E) (Q₁:=λobj C=>obj=.ref s.heap.objs.size/\C={s with heap:=s.heap.push (rR (aD w))}) ⟨rfl,rfl⟩) λr C p=>?_;cases r with
 |error e=>exact p
 |ok O =>
  cases O with
  |ret obj =>
   obtain⟨rfl,rfl⟩:=p;have D:(s.heap.push (rR (aD w))).get? s.heap.objs.size=a5 (rR (aD w)):=eH _ rfl;have Y:Sk {s with heap:=s.heap.push (rR (aD w))} (.ref s.heap.objs.size) "set":=⟨_,D,rfl⟩
   have ZJ:=PySem.F.called_set.init.lookup;have ZK:=PySem.F.called_set.init.bind (.ref s.heap.objs.size)
   repeat (any_goals (first|assumption|wp_step))
   refine Sq (codeAny_call_builtin (R:=wants (λr H=>r=.none/\∃h' f,H={s with heap:=h',toks:=f} /\
     aP prog w h' s.heap.objs.size (aD w) (aM a) /\
     (∀b o,b<s.heap.objs.size->s.heap.get? b=a5 o->h'.get? b=a5 o)) E) PySem.F.called_set.init.plain PySem.F.entry_set_init (check_set_init_1 Y ?_)) λr₂ H q=>?_
   ·obtain⟨ol,P1,J⟩:=L;obtain⟨Xc,P2,P4,Og⟩:=ol;simp only at J;subst J;have S_:(s.heap.push (rR (aD w))).get? l=a5 {cls:=.type T,dict:=P2,data:=P4,slots:=Og}:=cK _ P1;have Vj:Sk {s with heap:=s.heap.push (rR (aD w))} (.ref l) T:=⟨_,S_,rfl⟩
    unfold Mq.«set.__init__» noKeywords ë;generalize Xd:Za=PI
    wp_walk
    subst Xd;refine k {s with heap:=s.heap.push (rR (aD w))} _ _ rfl (λb o e=>cK _ e) (by rw[KO];exact OH _) λI m n G P St d W hG hf Xe Oe Jh hk=>?_;refine bD (Y7 ?_);refine iR W s.heap.objs.size hf (aD w) a rfl Oe N (a.length - 0) 0 _ ⋯ (ki _) Jh (gJ (hk _ _ D)) ?_;intro s' j u;obtain⟨h',g',d',Rg,Sl⟩:=s';have eg:g'=s.gens:=hG _ _ j.gens;have ed:d'=s.drawn:=j.drawn;have eo:Sl=s.os:=j.os;subst eg;subst ed;subst eo;show d4 _ _ _ _ _ _;refine df ?_;show d4 _ _ (ret mh) _ _ _;refine df ⟨rfl,h',Rg,rfl,u,λb o y e=>?_⟩;exact j.heap b o (λz=>by
     rcases et.mp z with z|z
     ·rw[z]at y;exact uv _ y
     ·exact absurd (Xe b z) (ð y)) (hk _ _ (cK _ e))
   ·cases r₂ with
    |error e=>exact q
    |ok Xf =>
     cases Xf with
     |ret r =>
      obtain⟨rfl,h',f,rfl,u,Jw⟩:=q
      repeat (any_goals (first|assumption|wp_step))
      exact h _ _ u Jw
     |_=>exact q.elim
  |_=>exact p.elim
end
section
theorem oy:∀{vs:List d3}{ss:List Str},Qv vs ss->∀(i:Nat) (v:d3),vs[i]?=a5 v->∃x t,ss[i]?=a5 x/\v=.str x t
 |_,_,.nil,i,v,h=>by simp at h
 |_,_,.cons x t h,0,v,e=>by simp at e;exact⟨x,t,rfl,e.symm⟩
 |_,_,.cons x t h,i+1,v,e=>by rw[S3]at e;rw[S3];exact oy h i v e
theorem ia:∀{vs:List d3}{ss:List Str},Qv vs ss->vs.length=ss.length
 |_,_,.nil=>rfl
 |_,_,.cons x t h=>by simp[ia h]
theorem uh(a:n≠S)(b:n≠l):n∉[S,l]:=by simp[a,b]
theorem fD(k:A.handled=b6)(hl:s.heap.IsList l vs.toArray)(f:Qv vs a)(c:a.length+1<DD)
  (h:∀(h':Jy) (m:Nat),aP prog w h' s.heap.objs.size (aD w) (aM a)->(∀b o,b<s.heap.objs.size->s.heap.get? b=a5 o->h'.get? b=a5 o)->Q (.ref s.heap.objs.size) {s with heap:=h',toks:=m}) :
  d4 (gs prog w) A (Nd (.type "set") [.ref l]) Q E s:=by
 have g:l<s.heap.objs.size:=let ⟨o,ho,_⟩:=hl;ez ho;refine h_ hl.typeIs PySem.F.sub_list_set PySem.F.sub_list_frozenset (by decide) c (λs1 B Q' n hk d p=>?_) h;have j:s1.heap.IsList l vs.toArray:=let ⟨o,ho,r⟩:=hl;⟨o,hk _ _ ho,r⟩;refine Tj j ?_;have q:l≠s1.heap.objs.size:=hQ (P6 g d);have W:=(WA (prog:=prog) (w:=w) (A:=B.in1) (by simp[n,k]) s1.heap.objs.size l q vs.toArray).toS;have t:vs.toArray.size=a.length:=by simp[ia f]
 rw[t]at W;refine p _ _ _ _ _ _ _ W (λ_ _ e=>e) (uh (hQ d) (H0 g)) (λb c=>by rw[i7.mp c];exact d) (λi v u=>oy f i v (by simpa using u)) ⟨⟨_,eH _ rfl,rfl,rfl⟩,j.push _⟩ λb o e=>cK _ e
theorem gw(k:A.handled=b6)(hl:s.heap.IsTuple l vs.toArray)(f:Qv vs a)(c:a.length+1<DD)
  (h:∀(h':Jy) (m:Nat),aP prog w h' s.heap.objs.size (aD w) (aM a)->(∀b o,b<s.heap.objs.size->s.heap.get? b=a5 o->h'.get? b=a5 o)->Q (.ref s.heap.objs.size) {s with heap:=h',toks:=m}) :
  d4 (gs prog w) A (Nd (.type "set") [.ref l]) Q E s:=by
 have g:l<s.heap.objs.size:=let ⟨o,ho,_⟩:=hl;ez ho;refine h_ hl.typeIs sub_tuple_set sub_tuple_frozenset (by decide) c (λs1 B Q' n hk d p=>?_) h;have j:s1.heap.IsTuple l vs.toArray:=let ⟨o,ho,r⟩:=hl;⟨o,hk _ _ ho,r⟩;refine PM j ?_;have q:l≠s1.heap.objs.size:=hQ (P6 g d);have W:=(Walks.tuple (prog:=prog) (w:=w) (A:=B.in1) (by simp[n,k]) s1.heap.objs.size l q vs.toArray).toS;have t:vs.toArray.size=a.length:=by simp[ia f]
 rw[t]at W;refine p _ _ _ _ _ _ _ W (λ_ _ e=>e) (uh (hQ d) (H0 g)) (λb c=>by rw[i7.mp c];exact d) (λi v u=>oy f i v (by simpa using u)) ⟨⟨_,eH _ rfl,rfl,rfl⟩,let ⟨o,ho,r⟩:=j;⟨o,cK _ ho,r⟩⟩ λb o e=>cK _ e
theorem oz(a:n≠0)(h:∀i<n,Q i {s with drawn:=s.drawn.bump src}):d4 M A (choose src n) Q E s:=λΓ p b=>by
 show Sem.wp M Γ (.choose src n .pure) _ _ p s;rw[Sem.wp_choose];exact⟨a,h _ (XJ _ (Nat.pos_of_ne_zero a))⟩
theorem gK:∀{xs:List α}{i:Nat}{x:α},xs[i]?=a5 x->(x::xs.eraseIdx i).Perm xs
 |[],i,x,h=>by simp at h
 |y::a,0,x,h=>by simp at h;subst h;exact .refl _
 |y::a,i+1,x,h=>by
  rw[S3]at h;rw[S7];exact(ZP y x _).trans ((gK h).cons y)
theorem gy:∀(n:Nat) (xs:List α) (s:fS) (Q:List α->fS->Prop),xs.length=n->(∀a d,a.Perm xs->Q a {s with drawn:=d})->d4 M A (drawOrder n xs) Q E s
 |0,xs,s,Q,b,h=>by
  have:xs=[]:=S0.mp b;subst this;exact df (h [] s.drawn (.refl _))
 |n+1,[],s,Q,b,h=>by simp at b
 |n+1,y::a,s,Q,b,h=>by
  show d4 M A (choose .order (y::a).length >>= _) Q E s;refine bD (oz (by simp) λi hi=>?_);have e:(y::a)[i]?=a5 ((y::a)[i]'hi):=mN hi;have c:=gK e;generalize (y::a)[i]'hi=x at e c;simp only[e];refine bD (gy n _ _ _ (by have:=c.length_eq;simp at this b ⊢;lia) λzs d hz=>?_);exact df (h (x::zs) d ((hz.cons x).trans c))
theorem jt(next:Nat->Nat):∀(fuel k:Nat) (left:List α) (out:Array α),left.length=fuel->(Wt next fuel k left out).toList.Perm (out.toList++left)
 |0,k,left,out,hl=>by
  have:left=[]:=S0.mp hl;subst this;simp[Wt]
 |fuel+1,k,left,out,hl=>by
  unfold Wt;have a:next k % left.length<left.length:=XJ _ ⋯;have e:left[next k % left.length]?=a5 (left[next k % left.length]'a):=mN a;have b:=gK e;generalize left[next k % left.length]'a=x at e b;simp only[e];refine(jt next fuel _ _ _ (by have:=b.length_eq;simp at this;lia)).trans ?_;rw[À,Ö];exact(b.append_left _)
theorem dH(next:Nat->Nat)(xs:Array α):(Xz next xs).toList.Perm xs.toList:=by
 have:=jt next xs.size 0 xs.toList #[] (by simp);simpa[Xz] using this
end
namespace SI
theorem pZ:Manifest.owners.lookup (String.ofList ['r','o','t','a','r','e','t','i','_','t','e','s'].reverse)=a5 Manifest.sig_set_iterator:=by kernel_rfl
theorem slot_next:Slot "set_iterator" "__next__" "set_iterator.__next__" :=
 .of (owner:="set_iterator") (n:="__next__") (by rw[R6,Ob];kernel_rfl) (by decide +kernel) (by decide +kernel) (by decide +kernel)
  (by first|exact .inl (by decide +kernel)|exact .inr (by decide +kernel)) (by rw[JK];kernel_rfl)
theorem entry_next:Zc ļ "set_iterator.__next__"=a5 Mq.«set_iterator.__next__»:=ĩ (by kernel_rfl)
theorem args_next(a:d3):ń "set_iterator.__next__" ⟨[a],[]⟩:=by
 unfold ń;rw[signature?_of (id:="set_iterator.__next__") (n:=['_','_','t','x','e','n','_','_']) (o:=['r','o','t','a','r','e','t','i','_','t','e','s']) (by kernel_rfl) pZ];kernel_rfl
theorem mI:Slot "set_iterator" "__iter__" "set_iterator.__iter__" :=
 .of (owner:="set_iterator") (n:="__iter__") (by rw[R6,Ob];kernel_rfl) (by decide +kernel) (by decide +kernel) (by decide +kernel)
  (by first|exact .inl (by decide +kernel)|exact .inr (by decide +kernel)) (by rw[JK];kernel_rfl)
theorem wg(a:d3):ń "set_iterator.__iter__" ⟨[a],[]⟩:=by
 unfold ń;rw[signature?_of (id:="set_iterator.__iter__") (n:=['_','_','r','e','t','i','_','_']) (o:=['r','o','t','a','r','e','t','i','_','t','e','s']) (by kernel_rfl) pZ];kernel_rfl
theorem rS:Zc ļ "set_iterator.__iter__"=a5 Mq.«dict_keyiterator.__iter__» :=
 Zb (id':="dict_keyiterator.__iter__") (by kernel_rfl) (by first|rfl|decide +kernel|(unfold String.splitOn;simp +decide [String.splitOnAux])) (by decide +kernel) (by kernel_rfl)
theorem kF:Zc ļ "set.__iter__"=a5 Mq.«frozenset.__iter__» :=
 Zb (id':="frozenset.__iter__") (by kernel_rfl) rfl (by decide +kernel) (by kernel_rfl)
end SI
section
variable{prog:ve}{w:Jq}{A:N8}{E:d3->fS->Prop}{s:fS}
def gL(h:Jy)(I:fR)(first:d3)(i:Nat)(S:fR)(n ep:Nat):Prop:=∃o,h.get? I=a5 o/\o.cls=.type "set_iterator"/\o.data=.fields #[first,u5 i,.ref S,u5 n,u5 ep]
theorem gL.typeIs(x:gL s.heap I f i S n ep):s.TypeIs (.ref I) "set_iterator":=let ⟨o,ho,a,_⟩:=x;⟨o,ho,a⟩
theorem Bp(a:gL s.heap I f i S n ep)(h:Q (.ref I) s):d4 (gs prog w) A (Za (.ref I)) Q E s:=by
 refine Đ a.typeIs SI.mI (B' SI.mI a.typeIs SI.rS ?_ (SI.wg _));show d4 _ _ (ret (.ref I)) _ _ s;exact df ⟨_,rfl,"set_iterator",_,a.typeIs,SI.slot_next.lookup,h⟩
theorem cG(h:Q (M.w.params.followText "set-order") s):d4 M A ā Q E s:=by
 unfold ā;exact bD (QS (df h))
end
end L2
namespace L2
open PySem PySem.Spec PyProof.Rows
section
variable{prog:ve}{w:Jq}{A:N8}{E:d3->fS->Prop}{s:fS}
abbrev oA(es:Array (Int×d3))(ep:Nat)(t:OL):Obj:={cls:=.type "set",dict:=b6,data:=.set es ep t}
theorem p_{I:fR}{B:N8}{Q:Option d3->fS->Prop}{c:Jy}{k:d3->Sem (Option d3)}(d:B.handled=b6)
  (f:∀h',(∀b o,c.get? b=a5 o->h'.get? b=a5 o)->∀e,Sk {s with heap:=h' } e "StopIteration"->E e {s with heap:=h' }) {Q':Fin->fS->Prop} :
  d4 (gs prog w) B (Ã (.type "StopIteration") [] >>= λe=>(Y' e:Sem Fin)) Q' E {s with heap:=c}:=by
 refine bD ?_;simp only[Ã,Ŀ];refine bD (x2 ?_ (by size_fits));refine bD (m:=U6 _ _) (XO (a:=mh) (by first|rfl|(simp only[U6];rfl)) ?_);refine x2 ?_ (by size_fits);simp only[Y'];refine bD (wpAny_handled ?_);rw[d];refine bD (df (wpAny_throw ?_));exact f _ (λb o e=>cK _ (cK _ e)) _ ⟨_,eH _ rfl,rfl⟩
theorem ui{I S:fR}{first:d3}{i ep:Nat}{es:Array (Int×d3)}{t:OL}(d:gL s.heap I first i S es.size ep)(ho:s.heap.get? S=a5 (oA es ep t))(j:t.fits es.size=b8)
  (k:∀(Q':Fin->fS->Prop) (h:d3->fS->Prop) ,(∀v s',Q (a5 v) s'->Q' (.done (.ret v)) s')->(∀e s',s'.TypeIs e "StopIteration"->Q b6 s'->h e s') ->
   d4 (gs prog w) A.in1 (if let .int slot _:=first then(do
     match <-Wn S slot.toNat i ep with
     |some (x,next) =>
      Wr (.ref I) 0 (u5 next)
      Wr (.ref I) 1 (u5 ((i:Int)+1))
      ret x
     |none=>Wr (.ref I) 2 .none;Y' (<-Ã (.type "StopIteration") []))
    else(do
     let a5 c <-Xr first|unsupported "internal:set_iterator"
     match c[i]? with
     |some (.int f _) =>
      let x <-Â S f.toNat ep
      Wr (.ref I) 1 (u5 ((i:Int)+1))
      ret x
     |some _=>XZ "internal:set_iterator"
     |none=>Wr (.ref I) 0 (u5 0);Wr (.ref I) 2 .none;Y' (<-Ã (.type "StopIteration") []))) Q' h s):d4 (gs prog w) A (Sy (.ref I)) Q E s:=by
 obtain⟨o,l,n,m⟩:=id d;unfold Sy;refine bD (wpAny_attempt (Qc (name:=RP "__next__") d.typeIs SI.slot_next
  (B' SI.slot_next d.typeIs SI.entry_next ?_ (SI.args_next _))))
 unfold Mq.«set_iterator.__next__»;refine bD (XO (a:=(hY I,[])) rfl ?_)
 try dsimp only
 refine bD (wpAny_fieldsOf l m ?_)
 try dsimp only
 refine bD (Sd ho rfl j ?_);rw[ő (by simp)];refine qb (k (λg s'=>∃r,g=.done (.ret r)/\Q (a5 r) s') (λe s'=>s'.TypeIs e "StopIteration"/\Q b6 s') (λv s' q=>⟨v,rfl,q⟩) λe s' z q=>⟨z,q⟩) ?_ ?_
 ·rintro g s' ⟨r,rfl,q⟩;exact⟨r,rfl,df q⟩
 ·rintro e s' ⟨z,q⟩;refine bD (OO (T:="StopIteration") (b:=b8) z ŀ ?_);exact df q
end
section
theorem uj{I S:fR}{f f':d3}{i n ep:Nat}{h:Jy}{o:Obj}(b:h.get? I=a5 o)(c:o.cls=.type "set_iterator")(a:o.data=.fields #[f,u5 i,.ref S,u5 n,u5 ep]):
  gL (h.update I (ę (·.setIfInBounds 1 (u5 ((i:Int)+1))))) I f (i+1) S n ep :=
 ⟨_,uk _ b (TQ (NG a _)),(Vr ..).trans c,by rw[NG a];simp⟩
theorem qa{h:Jy}(b:h.get? I=a5 o)(c:o.cls=.type "set_iterator")(a:o.data=.fields #[f,u5 i,.ref S,u5 n,u5 ep]):
  ∃o',(h.update I (ę (·.setIfInBounds 0 f'))).get? I=a5 o'/\o'.cls=.type "set_iterator"/\o'.data=.fields #[f',u5 i,.ref S,u5 n,u5 ep] :=
 ⟨_,uk _ b (TQ (NG a _)),(Vr ..).trans c,by rw[NG a];simp⟩
theorem yg{I S:fR}{slot i ep:Nat}{es:Array (Int×d3)}{t:OL}{Q:Option d3->fS->Prop}(a:gL s.heap I (u5 slot) i S es.size ep)(ho:s.heap.get? S=a5 (oA es ep t))(j:t.fits es.size=b8)(l:A.handled=b6)
  {r:Option (d3×Nat)} (m:∀(B:N8) (f:d3->fS->Prop) (Q':Option (d3×Nat)->fS->Prop),Q' r s->d4 (gs prog w) B (Wn S slot i ep) Q' f s)
  (n:∀x nx,r=a5 (x,nx)->∀h',gL h' I (u5 nx) (i+1) S es.size ep->o3 I s.heap h'->Q (a5 x) {s with heap:=h' })
  (q:r=b6->∀h',(∀b o,b≠I->s.heap.get? b=a5 o->h'.get? b=a5 o)->Q b6 {s with heap:=h' }):d4 (gs prog w) A (Sy (.ref I)) Q E s:=by
 refine ui a ho j λQ' f u v=>?_;obtain⟨o,c,y,d⟩:=id a;show d4 _ _ (Wn S slot i ep >>= _) _ _ s;refine bD (m _ _ _ ?_);cases r with
 |some p =>
  obtain⟨x,nx⟩:=p
  dsimp only
  refine bD (NA c d (by simp) ?_);obtain⟨o',g,z,h⟩:=qa (f':=u5 nx) c y d;refine bD (NA (s:={s with heap:=_}) g h (by simp) ?_);exact df (u _ _ (n x nx rfl _ (uj (f':=u5 nx) g z h) ((x3 ..).trans (x3 ..))))
 |none =>
  dsimp only
  refine bD (NA c d (by simp) ?_);refine p_ (I:=I) (k:=λ_=>pure b6) (Q:=λ_ _=>True) (s:=s) (by simpa using l) λh' hk e C=>v e _ C (q rfl h' λb D G H=>hk b D ?_);rw[OI _ _ _ _ G];exact H
theorem Er{I S T:fR}{i ep:Nat}{es:Array (Int×d3)}{t:OL}{pl:List Nat}{Q:Option d3->fS->Prop}(a:gL s.heap I (.ref T) i S es.size ep)(ho:s.heap.get? S=a5 (oA es ep t))(l:t.fits es.size=b8)(q:A.handled=b6)
  (r:s.heap.IsTuple T ((pl.map λ(j:Nat)=>u5 j).toArray))
  (u:∀(j:Nat) (e:Int×d3),pl[i]?=a5 j->es[j]?=a5 e->∀h',gL h' I (.ref T) (i+1) S es.size ep->o3 I s.heap h'->Q (a5 e.2) {s with heap:=h' })
  (v:∀j∈pl,j<es.size)
  (x:pl[i]?=b6->∀h',(∀b o,b≠I->s.heap.get? b=a5 o->h'.get? b=a5 o)->Q b6 {s with heap:=h' }):d4 (gs prog w) A (Sy (.ref I)) Q E s:=by
 refine ui a ho l λQ' N y z=>?_;obtain⟨o,c,m,d⟩:=id a;obtain⟨O,B,Y,nT,C⟩:=r;show d4 _ _ (Xr (.ref T) >>= _) _ _ s;refine bD (Sx B C ?_);cases e:pl[i]? with
 |some j =>
  have f:(pl.map λ(j:Nat)=>u5 j).toArray[i]?=a5 (u5 j):=by simp[e]
  simp only[f];have g:j<es.size:=v j (l0 e);have h:es[j]?=a5 (es[j]'g):=by simp[g]
  show d4 _ _ (Â S (j:Int).toNat ep >>= _) _ _ s;unfold Â;rw[N_];refine bD (bD (mn ho rfl l ?_))
  dsimp only
  rw[ő (by simp)];generalize es[j]'g=p at h;simp only[h];refine df ?_;refine bD (NA c d (by simp) ?_);exact df (y _ _ (u j p e h _ (uj (f':=.ref T) c m d) (x3 ..)))
 |none =>
  have f:(pl.map λ(j:Nat)=>u5 j).toArray[i]?=b6:=by simp at e ⊢;exact e
  simp only[f];refine bD (NA c d (by simp) ?_);obtain⟨o',D,e2,G⟩:=qa (f':=u5 0) c m d;refine bD (NA (s:={s with heap:=_}) D G (by simp) ?_);refine p_ (I:=I) (k:=λ_=>pure b6) (Q:=λ_ _=>True) (s:=s) (by simpa using q) λh' hk ex H=>z ex _ H (x e h' λb J n L=>hk b J ?_);rw[OI _ _ _ _ n,OI _ _ _ _ n];exact L
end
section
theorem gL.at(x:gL h I f i S n ep)(e:∀o,h.get? I=a5 o->h'.get? I=a5 o):gL h' I f i S n ep:=let ⟨o,ho,r⟩:=x;⟨o,e _ ho,r⟩
theorem kG(q:A.handled=b6)(n:S≠I)(r:t.fits es.size=b8)(T:fR)(p:T≠I)(c:List d3)(k:c.length=es.size)
  (first:Nat->d3) (a:Jy->Prop) (l:∀h h',a h->(∀o,h.get? T=a5 o->h'.get? T=a5 o)->a h')
  (m:∀(s:fS) (i:Nat) (E:d3->fS->Prop) (Q:Option d3->fS->Prop),i<=es.size->a s.heap->gL s.heap I (first i) i S es.size ep->s.heap.get? S=a5 (oA es ep t) ->
   (∀x,c[i]?=a5 x->∀h',gL h' I (first (i+1)) (i+1) S es.size ep->o3 I s.heap h'->Q (a5 x) {s with heap:=h' }) ->
   (c[i]?=b6->∀h',(∀b o,b≠I->s.heap.get? b=a5 o->h'.get? b=a5 o)->Q b6 {s with heap:=h' })->d4 (gs prog w) A (Sy (.ref I)) Q E s) :
  Walks prog w A I [I,S,T] [I] es.size (λi v=>c[i]?=a5 v) (λi h=>i<=es.size/\gL h I (first i) i S es.size ep/\h.get? S=a5 (oA es ep t)/\a h) where
 sub:=λb d=>by rw[i7.mp d];simp
 frame:=λi h h' x hk=>⟨x.1,x.2.1.at λo e=>hk I (by simp) o e,hk S (by simp) _ x.2.2.1,l h h' x.2.2.2 λo e=>hk T (by simp) o e⟩
 item:=λi s Q E hi x f=>by
  refine m s i E Q x.1 x.2.2.2 x.2.1 x.2.2.1 (λv g h' j hs=>?_) λz=>absurd z (by simp;lia);refine f v h' s.toks g ⟨hi,j,?_,l _ h' x.2.2.2 λo e=>?_⟩ λb o d e=>?_
  ·rw[hs.2 S n];exact x.2.2.1
  ·rw[hs.2 T p];exact e
  ·rw[hs.2 b λz=>d (by simp[z])];exact e
 done:=λs Q E x f=>by
  refine m s es.size E Q x.1 x.2.2.2 x.2.1 x.2.2.1 (λv g=>absurd g (by rw[Qk ⋯];simp)) λ_ h' hk=>f h' s.toks λb o d e=>hk b o (λz=>d (by simp[z])) e
 self:=λi s Q E x f=>Bp x.2.1 f
theorem oB(ho:s.heap.get? S=a5 (oA es ep t))(a:t.fits es.size=b8)(h:Q (!w.params.followText "set-order"&&(!t.plain&&dt (es.size>1))) s):d4 (gs prog w) A (setDrawn S) Q E s:=by
 unfold setDrawn;refine bD (mn ho rfl a ?_)
 dsimp only
 exact bD (cG (df h))
theorem oC(a:w.params.followText "set-order"=b8)(ho:s.heap.get? S=a5 (oA es ep t))(b:t.fits es.size=b8)
  (h:Q ((Xz (w.params.setOrder S ep) es)[i]?.map λe=>(e.2,0)) s):d4 (gs prog w) A (Wn S 0 i ep) Q E s:=by
 unfold Wn;refine bD (mn ho rfl b ?_)
 dsimp only
 refine bD (cG ?_);show d4 _ _ (if (w.params.followText "set-order")=b8 then _ else _) _ _ s;rw[Ő a];rw[ő (by simp)];unfold setWalk;refine bD (bD (mn ho rfl b ?_))
 dsimp only
 refine bD (cG ?_);show d4 _ _ (if (w.params.followText "set-order")=b8 then _ else _) _ _ s;rw[Ő a];refine bD (QS (df ?_));exact df h
theorem qc(hw:w.params.followText "set-order"=cc)(ho:s.heap.get? S=a5 (oA es ep t))(hf:t.fits es.size=b8)(hl:t.led=b8)(h1:es.size<=1)
    (h:Q (match es[Mw t.place slot]?,t.place[Mw t.place slot]? with|some (_,x),a5 j=>a5 (x,j+1)|_,_=>b6) s):d4 (gs prog w) A (Wn S slot i ep) Q E s:=by
  unfold Wn;refine bD (mn ho rfl hf ?_)
  dsimp only
  refine bD (cG ?_);show d4 _ _ (if (w.params.followText "set-order")=b8 then _ else _) _ _ s;rw[ő (by rw[hw];simp)];show d4 _ _ (if (!t.plain&&dt (es.size>1))=b8 then _ else _) _ _ s
  rw [if_neg (by have : decide (es.size > 1) = false := decide_eq_false (by lia)
                 rw[this];simp)]
  show d4 _ _ ((if (!t.led&&!es.isEmpty)=b8 then _ else _) >>= _) _ _ s;rw[ő (by rw[hl];simp)];exact bD (df (df h))
theorem qd(es:Array (Int×d3))(pl:Array Nat)(i:Nat)(b:es.size<=1)(c:pl.size=es.size)(a:i<=es.size):
  (match es[Mw pl (if i=0 then 0 else(pl[0]?).getD 0+1)]?,pl[Mw pl (if i=0 then 0 else(pl[0]?).getD 0+1)]? with|some (_,x),a5 j=>a5 (x,j+1)|_,_=>b6)=es[i]?.map λe=>(e.2,(pl[0]?).getD 0+1):=by
 obtain⟨es⟩:=es;obtain⟨pl⟩:=pl
 match es,pl,b,c,a with
 |[],[],_,_,a=>simp
 |[e],[p],_,_,a =>
  match i,a with
  |0,_ =>
   have:Mw #[p] 0=0:=by simp[Mw,WI]
   simp[this]
  |1,_ =>
   have:Mw #[p] (p+1)=1:=by simp[Mw,WI]
   simp[this]
  |n+2,h=>simp at h
 |[],_::_,_,h,_=>simp at h
 |[_],[],_,h,_=>simp at h
 |[_],_::_::_,_,h,_=>simp at h
 |_::_::_,_,h,_,_=>simp at h
theorem yh(C:B.handled=b6)(hS:aP prog w s.heap S (aD w) D)
  (h:∀(I:fR) (fp:List fR) (n:Nat) (P:Nat->d3->Prop) (St:Nat->Jy->Prop) (c:List Str) (h':Jy) (d':Drawn),Walks prog w B I fp [I] n P St->c.Perm D->n=c.length->(∀i v,P i v->∃x T,c[i]?=a5 x/\v=.str x T)->s.heap.objs.size<=I->(∀b∈fp,b=S\/s.heap.objs.size<=b)->St 0 h' ->
   (∀b o,s.heap.get? b=a5 o->h'.get? b=a5 o)->Q (.ref I) {s with heap:=h',drawn:=d' }):d4 (gs prog w) A (Za (.ref S)) Q E s:=by
 obtain⟨L,es,ep,t,ho,JS,Y,Jj,a,d,JW,JE⟩:=hS;have Vk:s.TypeIs (.ref S) "set":=⟨_,ho,rfl⟩
 have MB:S<s.heap.objs.size:=ez ho;refine Đ Vk PySem.F.slot_set_iter (B' PySem.F.slot_set_iter Vk SI.kF ?_ (PySem.F.args_set_iter_1 _));unfold Mq.«frozenset.__iter__» ì slotArgs;simp only[List.isEmpty_nil,X_,J',↓reduceIte,bind_assoc,Tt,bne_self_eq_false];unfold Uu Qi;refine bD (df ?_)
 try dsimp only
 refine bD (df ?_);refine bD (bD (Sd ho rfl a (df ?_)));have Rh:D.length=es.size:=by rw[<-Y.length_eq,c4,<-hW,JS,c4]
 have f:∀(l:List (Int×d3)),l.Perm es.toList->∃c:List Str,c.Perm D/\c.length=es.size/\∀(i:Nat) (v:d3),(l.map (·.2))[i]?=a5 v->∃(x:Str) (T:Tok),c[i]?=a5 x/\v=t5 x T:=by
  intro l hl;rw[JS]at hl;obtain⟨L',e',p'⟩:=c_ hl;refine⟨L'.map (·.1),(p'.map _).trans Y,by rw[((p'.map _).trans Y).length_eq,Rh],λi v G=>?_⟩;subst e';rw[i5,i6]at G;rw[i6];cases q:L'[i]? with
  |none=>rw[q]at G;simp at G
  |some p=>rw[q]at G;simp at G;exact⟨p.1,p.2,rfl,G.symm⟩
 refine bD (oB ho a ?_);cases hw:w.params.followText "set-order" with
 |true =>
  simp only[X_,T9,J',↓reduceIte];refine bD (df ?_);refine bD (bD (mn ho rfl a (df ?_)));refine bD (x2 ?_);have m:S≠s.heap.objs.size:=hQ MB;obtain⟨c,H,J,N⟩:=f (Xz (w.params.setOrder S ep) es).toList (dH _ _);have W:=kG (prog:=prog) (w:=w) (A:=B) (I:=s.heap.objs.size) (S:=S) (es:=es) (ep:=ep) (t:=t) C m a S m ((Xz (w.params.setOrder S ep) es).toList.map (·.2)) (by rw[c4,(dH _ _).length_eq,hW]) (λ_=>u5 0) (λ_=>True) (λ_ _ _ _=>trivial)
   (λs i E Q _ _ g u k1 k2=>yg (slot:=0) g u a C (λB E' Q' q=>oC hw u a q) (λx nx e h' O hs=>by
    rw[fx]at e;obtain⟨p,y,e2⟩:=e;cases e2;exact k1 _ (by rw[i6,qp,y];rfl) h' O hs) (λe=>k2 (by rw[i6,qp,SG];rwa [SG]at e)))
  refine df ⟨_,rfl,"set_iterator",_,⟨_,eH _ rfl,rfl⟩,SI.slot_next.lookup,?_⟩;exact h _ _ _ _ _ c _ s.drawn W H J.symm N (hU _) (λb d=>by
   simp only[et,SH,or_false]at d;rcases d with rfl|rfl|rfl
   ·exact .inr (hU _)
   ·exact .inl rfl
   ·exact .inl rfl) ⟨ki _,⟨_,eH _ rfl,rfl,rfl⟩,cK _ ho,trivial⟩ λb o e=>cK _ e
 |false =>
  by_cases hsz:es.size>1
  ·have J2:t.plain=cc:=by
    rcases JE with z|z
    ·lia
    ·exact z
   have y:(!cc&&(!t.plain&&dt (es.size>1)))=b8:=by rw[J2,œ hsz];rfl
   rw[y];simp only[↓reduceIte];refine bD (gy _ _ _ _ vr λpl d' hp=>?_);simp only[Ŀ];have M_:∀j∈pl,j<es.size:=λj hj=>by have:=hp.mem_iff.mp hj;simpa using this
   have P7:pl.length=es.size:=by rw[hp.length_eq];simp
   refine bD (x2 ?_ (by
    show(pl.map λ(j:Nat)=>u5 j).toArray.size<=_;have:es.size<4096:=d;simp only[hH,c4,P7];have:(4096:Nat)<=cL:=by decide
    lia))
   have L7:(s.heap.push {cls:=.type "tuple",data:=.seq (pl.map λ(j:Nat)=>u5 j).toArray}).get? S=a5 (oA es ep t):=cK _ ho;refine bD (bD (mn (s:={s with heap:=_,drawn:=d' }) L7 rfl a (df ?_)));refine bD (x2 ?_);have Xi:s.heap.objs.size≠(s.heap.push {cls:=.type "tuple",data:=.seq (pl.map λ(j:Nat)=>u5 j).toArray}).objs.size:=by rw[KO];exact hQ (OH _)
   have m:S≠(s.heap.push {cls:=.type "tuple",data:=.seq (pl.map λ(j:Nat)=>u5 j).toArray}).objs.size:=by rw[KO];exact hQ (P9 MB)
   have Oi:(pl.map λj=>(es[j]?).getD (0,mh)).Perm es.toList:=by
    refine(hp.map _).trans ?_;have:(i0 es.size).map (λj=>(es[j]?).getD (0,mh))=es.toList:=by
     apply LD
     ·simp
     ·intro i h1 h2;simp at h1 ⊢;simp[h1]
    rw[this]
   obtain⟨c,H,J,N⟩:=f _ Oi;have W:=kG (prog:=prog) (w:=w) (A:=B) (I:=(s.heap.push {cls:=.type "tuple",data:=.seq (pl.map λ(j:Nat)=>u5 j).toArray}).objs.size) (S:=S) (es:=es) (ep:=ep) (t:=t) C m a s.heap.objs.size Xi ((pl.map λj=>(es[j]?).getD (0,mh)).map (·.2)) (by simp[P7]) (λ_=>.ref s.heap.objs.size) (λh=>h.IsTuple s.heap.objs.size (pl.map λ(j:Nat)=>u5 j).toArray) (λh h' ⟨o,ho,r⟩ k=>⟨o,k _ ho,r⟩)
    (λs' i E Q _ LS g u k1 k2=>Er g u a C LS (λj e ej ee h' O hs=>k1 _ (by rw[i6,i6,ej];simp[ee]) h' O hs) M_ (λe=>k2 (by rw[i6,i6,e];rfl)))
   refine df ⟨_,rfl,"set_iterator",_,⟨_,eH _ rfl,rfl⟩,SI.slot_next.lookup,?_⟩;refine h _ _ _ _ _ c _ d' W H J.symm N (by rw[KO];exact LB _) (λb d=>?_) ⟨ki _,⟨_,eH _ rfl,rfl,rfl⟩,cK _ L7,⟨_,cK _ (eH _ rfl),rfl,_,rfl⟩⟩ λb o e=>cK _ (cK _ e);rw[KO]at d;simp only[et,SH,or_false]at d;rcases d with rfl|rfl|rfl
   ·exact .inr (LB _)
   ·exact .inl rfl
   ·exact .inr (hU _)
  ·have y:(!cc&&(!t.plain&&dt (es.size>1)))=cc:=by rw[Œ hsz];simp
   rw[y];simp only[J',↓reduceIte];refine bD (df ?_);refine bD (bD (mn ho rfl a (df ?_)));refine bD (x2 ?_);have m:S≠s.heap.objs.size:=hQ MB;have Xj:t.led=b8:=by rw[JW];show(!w.params.followText "set-order")=b8;rw[hw];rfl
   obtain⟨c,H,J,N⟩:=f es.toList (.refl _);have Lp:t.place.size=es.size:=by
    unfold RT at a;simp only[cb,beq_iff_eq]at a;exact a.1
   have W:=kG (prog:=prog) (w:=w) (A:=B) (I:=s.heap.objs.size) (S:=S) (es:=es) (ep:=ep) (t:=t) C m a S m (es.toList.map (·.2)) (by simp) (λi=>u5 ((if i=0 then 0 else(t.place[0]?).getD 0+1:Nat):Nat)) (λ_=>True) (λ_ _ _ _=>trivial)
    (λs' i E Q hi _ g u k1 k2=>yg (slot:=if i=0 then 0 else(t.place[0]?).getD 0+1) g u a C (λB E' Q' q=>qc hw u a Xj ⋯ q) (λx nx e h' O hs=>by
     rw[qd es t.place i ⋯ Lp hi,fx]at e;obtain⟨p,y,e2⟩:=e;cases e2;refine k1 _ (by rw[i6,qp,y];rfl) h' ?_ hs;rw[ő (Nat.succ_ne_zero i)];exact O) (λe=>by
     rw[qd es t.place i ⋯ Lp hi,SG]at e;exact k2 (by rw[i6,qp,e];rfl)))
   refine df ⟨_,rfl,"set_iterator",_,⟨_,eH _ rfl,rfl⟩,SI.slot_next.lookup,?_⟩;exact h _ _ _ _ _ c _ s.drawn W H J.symm N (hU _) (λb d=>by
    simp only[et,SH,or_false]at d;rcases d with rfl|rfl|rfl
    ·exact .inr (hU _)
    ·exact .inl rfl
    ·exact .inl rfl) ⟨ki _,⟨_,eH _ rfl,rfl,rfl⟩,cK _ ho,trivial⟩ λb o e=>cK _ e
end
theorem qe:T_ (.type "set") "__len__"=pure (a5 (.builtin "set.__len__")):=by rw[R6,Ob];kernel_rfl
section
theorem kH:∀{vs:List d3}{a:List Str},vs.length=a.length->(∀(i:Nat) (v:d3),vs[i]?=a5 v->∃x t,a[i]?=a5 x/\v=.str x t)->Qv vs a
 |[],[],_,_=>.nil
 |[],_::_,h,_=>by simp at h
 |_::_,[],h,_=>by simp at h
 |v::vs,y::a,h,k=>by
  obtain⟨x,t,b,c⟩:=k 0 v rfl;cases b;subst c;exact .cons y t (kH (by simpa using h) λi w d=>k (i+1) w d)
theorem qf(J:A.handled=b6)(N:aP prog w s.heap S (aD w) D)(O:D.length<=cL)
  (T:∀(vs:List d3) (c:List Str) (h':Jy) (d':Drawn) (h:Nat),c.Perm D->Qv vs c->s.heap.objs.size<=h'.objs.size->s.toks<=h->(∀b o,s.heap.get? b=a5 o->h'.get? b=a5 o)->Q vs {s with heap:=h',drawn:=d',toks:=h}) :
  d4 (gs prog w) A (Ä (.ref S)) Q E s:=by
 obtain⟨L,es,ep,t,ho,rest⟩:=id N;have Y:S<s.heap.objs.size:=ez ho;unfold Ä;refine bD (Y7 (JU PySem.F.entry_proto_collect ?_));rw[Kk PySem.F.plain_proto_collect _];show d4 _ A.in1 (ĕ [] >>= λl=>Ņ (.builtin "list.__iadd__" ⟨[l,.ref S],[]⟩)) _ _ s;refine bD (x2 ?_);refine df ⟨Py PySem.F.plain_list_iadd _,JU PySem.F.entry_list_iadd ?_⟩;rw[Kk PySem.F.plain_list_iadd _];have f:(s.heap.push {cls:=.type "list",data:=.seq ([]:List d3).toArray}).get? S=a5 {cls:=.type "set",dict:=b6,data:=.set es ep t}:=cK _ ho;have hT:Sk {s with heap:=s.heap.push {cls:=.type "list",data:=.seq ([]:List d3).toArray}} (.ref S) "set":=⟨_,f,rfl⟩
 show d4 _ A.in1 (ti (.ref s.heap.objs.size) (.ref S) (.ref s.heap.objs.size)) _ _ _;unfold ti;refine bD (So hT ?_);have j:s.heap.objs.size≠S:=H0 Y;have h1:N9 (.ref s.heap.objs.size) (.ref S)=cc:=by simp[N9,j]
 have h2:(ri "set"==ri "list")=cc:=by decide
 have h3:(ri "set"==ri "tuple")=cc:=by decide
 simp only[h1,h2,h3,ON,J',if_false];refine bD (yh (B:=A.in1) (by simpa using J) ⟨L,es,ep,t,f,rest⟩ ?_);intro I fp n P St c h' d' W k m hP p Ta Jh hk;have g:Sk {s with heap:=h',drawn:=d' } (.ref S) "set":=⟨_,hk _ _ f,rfl⟩
 refine bD (qs ?_);unfold UQ;refine bD (UH g qe ?_);have KH:splitId "set.__len__"=a5 ("set","__len__"):=by decide +kernel
 dsimp only
 rw[KH]
 dsimp only
 refine bD (OO g Wl ?_);rw[ő (by decide)];rw[Ő (by decide +kernel)];refine bD (So g ?_);refine df ?_;rw[Ő (by decide +kernel)];have q:s.heap.objs.size∉fp:=λa=>by
  rcases Ta _ a with z|z
  ·exact j z
  ·rw[KO]at z;exact absurd z (Nat.not_succ_le_self _)
 have r:h'.get? s.heap.objs.size=a5 {cls:=.type "list",data:=.seq ([]:List d3).toArray}:=hk _ _ (eH _ rfl);refine bD (N3 ?_);refine bD ?_;show d4 _ A.in1 (Ĥ s.heap.objs.size (·.push .none) >>= λ_=>Ĥ s.heap.objs.size (·.pop)) _ _ _;refine bD (R4 r rfl ?_);have u:=uk (oT (·.push mh)) r rfl;refine R4 u rfl ?_;have Xk:=uk (oT (·.pop)) u rfl;have x:∀b o,b≠s.heap.objs.size->h'.get? b=a5 o->((h'.update s.heap.objs.size (oT (·.push mh))).update s.heap.objs.size (oT (·.pop))).get? b=a5 o :=
  λb o d e=>(Nw _ _ (ro d)).trans ((Nw _ _ (ro d)).trans e)
 refine df ⟨Py PySem.F.plain_extend_loop _,ä W.toS (by rw[m,k.length_eq];exact O) _ q _ n 0 _ _ _ rfl (ki _) (W.frame 0 h' _ Jh λb d o e=>x b o (λz=>q (z▸d)) e) Xk (ø P) λs' JX c' a y C=>?_⟩;show d4 _ A (load s.heap.objs.size >>= _) _ _ s';refine bD (þ y ?_);obtain⟨Nc,g2,G,Xl,Xm⟩:=s';have eg:g2=s.gens:=a.gens;have ed:G=d':=a.drawn;have eo:Xm=s.os:=a.os;subst eg;subst ed;subst eo;refine df (T _ c Nc G Xl k (kH (by rw[hW,C.1,m]) λi v hv=>hP i v (C.2 i v (by rwa [qp]at hv))) (P_ (ez y)) a.toks λb o e=>?_);have H:b≠s.heap.objs.size:=λz=>by rw[z]at e;exact absurd (ez e) (uv _)
 refine a.heap b o (λz=>?_) (x b o H (hk _ _ (cK _ e)));rcases et.mp z with z|z
 ·exact H z
 ·rw[i7.mp z]at e;have:=ez e;rw[KO]at p;exact absurd (i2 this (H8 (LB _) p)) (uv _)
end
section
theorem Inv.drawn(I:Inv X pins σ H s)(d:Drawn):Inv X pins σ H {s with drawn:=d}:=⟨I.ok,I.os,I.bare,I.base,I.loc,I.cell,I.free,I.Jx,I.pin,I.Ja,I.len⟩
theorem oD(i:X.calm=b8)(I:Inv X pins σ H s)(hq:JA X.K H p (c.map V.str)\/JH X.K H p (c.map V.str))(f:c.length+1<DD)
  (h:∀(S:fR) (h':Jy) (a:Nat),aP X.prog X.w h' S (aD X.w) (aM c)->Inv X pins σ H {s with heap:=h',toks:=a}->Q (.ref S) {s with heap:=h',toks:=a}) :
  d4 (gs X.prog X.w) X.A (Nd (.type "set") [.ref p]) Q X.xe s:=by
 have g:X.A.handled=b6:=I.ok.hd i;rcases hq with hq|hq
 ·obtain⟨its,rv,pl,hz⟩:=I.list hq;exact fD g pl.isList (cF rv) f λh' a d k=>h _ h' a d (I.kept λb o e=>k b o (ez e) e)
 ·obtain⟨its,rv,pl,hz⟩:=I.tuple hq;exact gw g pl (cF rv) f λh' a d k=>h _ h' a d (I.kept λb o e=>k b o (ez e) e)
theorem gz(h:X.calm=b8)(I:Inv X pins σ H s)(i:aP X.prog X.w s.heap S (aD X.w) D)(c:D.length<64)
  (q:∀p,H p=b6->Q (.ref p) (upd H p (.lst ((aR D).map V.str)))):d4 (gs X.prog X.w) X.A (Nd (.builtin "sorted") [.ref S]) (EP X pins σ Q) X.xe s:=by
 have j:X.A.handled=b6:=I.ok.hd h;have hl:D.length<=cL:=P_ (i2 c (by decide));refine eU (qf (A:=X.A.in1) (by simpa using j) i hl λvs k h' d' a d f hsz n hk=>⟨k,f,by rw[ia f,d.length_eq];exact c,λr l e k2 b s2=>?_⟩);rw[jq d]at s2;have m:Inv X pins σ H {s with heap:=h',toks:=a}:=I.kept (t':=a) hk;have g:Inv X pins σ H {s with heap:=h',drawn:=d',toks:=a}:=m.drawn d';exact⟨.ref h'.objs.size,_,g.laid (t':=a) (o:=.lst ((aR D).map V.str)) k2 (hU _) ⟨by rw[c4,bQ];exact hl,l,e,dz s2,b⟩,rfl,q _ (g.Ja.fresh (hU _))⟩
theorem rT(I:Inv X pins σ H s)(b:aP X.prog X.w s.heap S (aD X.w) D)
  (q:Q (.int D.length) H):d4 (gs X.prog X.w) X.A (Nd (.builtin "len") [.ref S]) (EP X pins σ Q) X.xe s:=by
 obtain⟨L,es,ep,t,ho,c,d,i,g,h,j,k⟩:=b;have a:es.size=D.length:=by rw[<-hW,c,c4,<-c4 (f:=û) (as:=L),d.length_eq]
 have l:es.size<4096:=h;refine call_len_set ho ⟨rfl,rfl,rfl⟩ rfl g ⋯ ?_;exact⟨.int es.size,_,I.kept (t':=s.toks+1+1) (λ_ _ e=>e),⟨_,rfl⟩,by rw[a];exact q⟩
end
end L2
namespace L2
open PySem
noncomputable def dI(mask:Nat):Nat->Nat×Nat->Nat×Nat
 |0,q=>q
 |t+1,q=>dI mask t (Å mask q.1 q.2)
theorem mJ(mask:Nat):∀(a b:Nat) (q:Nat×Nat),dI mask (a+b) q=dI mask b (dI mask a q)
 |0,b,q=>by rw[OE];rfl
 |a+1,b,q=>by rw[show a+1+b=(a+b)+1 by lia];exact mJ mask a b _
theorem mK(mask:Nat):∀(t:Nat) (q:Nat×Nat),(dI mask t q).2=q.2 / 32 ^ t
 |0,q=>by simp[dI]
 |t+1,q=>by
  show(dI mask t (Å mask q.1 q.2)).2=_;rw[mK mask t];show q.2 / 32 / 32 ^ t=_;rw[Nat.div_div_eq_div_mul,Nat.pow_succ,Nat.mul_comm]
theorem qg(mask:Nat):∀(t:Nat) (q:Nat×Nat),q.1<mask+1->(dI mask t q).1<mask+1
 |0,q,h=>h
 |t+1,q,h=>qg mask t _ (XJ _ (Zk _))
noncomputable def MD(m:Nat):Nat->Nat->Nat
 |0,i=>i
 |t+1,i=>MD m t ((i * 5+1) % m)
theorem mL(mask:Nat):∀(t i:Nat),dI mask t (i,0)=(MD (mask+1) t i,0)
 |0,i=>rfl
 |t+1,i=>by
  show dI mask t ((i * 5+1+0 / 32) % (mask+1),0 / 32)=(MD (mask+1) t ((i * 5+1) % (mask+1)),0)
  rw[Nat.zero_div,į];exact mL mask t _
theorem jU(m:Nat):∀(a b i:Nat),MD m (a+b) i=MD m b (MD m a i)
 |0,b,i=>by rw[OE];rfl
 |a+1,b,i=>by rw[show a+1+b=(a+b)+1 by lia];exact jU m a b _
noncomputable def wj(m:Nat):Nat->Nat->List Nat
 |0,_=>[]
 |t+1,i=>i::wj m t ((i * 5+1) % m)
theorem um(m:Nat):∀(n i t:Nat),t<n->(wj m n i)[t]?=a5 (MD m t i)
 |0,_,_,h=>by lia
 |n+1,i,0,_=>rfl
 |n+1,i,t+1,h=>by
  show(wj m n ((i * 5+1) % m))[t]?=_;exact um m n _ t ⋯
theorem qh(m:Nat):∀(n i:Nat),(wj m n i).length=n
 |0,_=>rfl
 |n+1,i=>by show(wj m n _).length+1=_;rw[qh m n]
noncomputable def Full(m:Nat):Bool:=(i0 m).all (λj=>(wj m m 0).contains j)&&(MD m m 0==0)
theorem Dh:Full 8=b8:=by decide +kernel
theorem yi:Full 16=b8:=by decide +kernel
theorem yj:Full 32=b8:=by decide +kernel
theorem yk:Full 64=b8:=by decide +kernel
theorem uo:Full 128=b8:=by decide +kernel
theorem wm(h:Full m=b8)(hi:i<m)(l:j<m):∃t,t<m/\MD m t i=j:=by
 unfold Full at h;rw[cb,i8]at h;obtain⟨n,d⟩:=h;have d:MD m m 0=0:=by simpa using d
 have get:∀k,k<m->∃a,a<m/\MD m a 0=k:=λk hk=>by
  have:=n k (tA.mpr hk);rw[List.contains_iff_mem]at this;obtain⟨a,c⟩:=Zs.mp this;have e:a<m:=by have:=(dV.mp c).1;rw[qh]at this;exact this
  rw[um m m 0 a e]at c;exact⟨a,e,by simpa using c⟩
 obtain⟨a,c,f⟩:=get i hi;obtain⟨b,o,g⟩:=get j l;by_cases p:a<=b
 ·exact⟨b - a,⋯,by rw[<-f,<-jU,show a+(b - a)=b by lia,g]⟩
 ·refine⟨m - a+b,⋯,?_⟩;rw[<-f,<-jU,show a+(m - a+b)=m+b by lia,jU,d,g]
theorem mM:∀(f i p:Nat),va mask owner f i p=b6->∀t,t<f->(owner.getD (dI mask t (i,p)).1 (a5 0)).isNone=cc
 |0,_,_,_,t,h=>by lia
 |f+1,i,p,h,t,b=>by
  unfold va at h;cases a:(i0 (Vl mask i+1 - i)).find? (λk=>(owner.getD (i+k) (a5 0)).isNone) with
  |some k=>rw[a]at h;cases h
  |none =>
   rw[a]at h;cases t with
   |zero =>
    have:=List.find?_eq_none.mp a 0 (tA.mpr (by unfold Vl;split<;>lia));rw[į]at this;show(owner.getD i (a5 0)).isNone=cc;cases e:(owner.getD i (a5 0)).isNone with
    |false=>rfl
    |true=>exact absurd e this
   |succ t=>exact mM f _ _ h t ⋯
theorem mO:∀(f i p j:Nat),va mask owner f i p=a5 j->owner[j]?=a5 b6
 |0,_,_,_,h=>by cases h
 |f+1,i,p,j,h=>by
  unfold va at h;cases b:(i0 (Vl mask i+1 - i)).find? (λk=>(owner.getD (i+k) (a5 0)).isNone) with
  |some k =>
   rw[b]at h;cases h;have a:=List.find?_some b;have c:i+k<owner.size:=by
    refine Classical.byContradiction λz=>?_;have:owner.getD (i+k) (a5 0)=a5 0:=by simp[UY,z]
    rw[this]at a;cases a
   have d:owner.getD (i+k) (a5 0)=owner[i+k]:=by simp[UY,c]
   rw[d]at a;rw[OB c];cases e:owner[i+k] with
   |none=>rfl
   |some _=>rw[e]at a;cases a
  |none =>
   rw[b]at h;exact mO f _ _ j h
theorem Bq(c:Full (mask+1)=b8){j0:Nat}(a:owner[j0]?=a5 b6)(hsz:owner.size=mask+1)(hi:i<mask+1)(d:p<2 ^ 64):∃j,va mask owner (QL mask) i p=a5 j/\owner[j]?=a5 b6:=by
 cases e:va mask owner (QL mask) i p with
 |some j=>exact⟨j,rfl,mO _ _ _ _ e⟩
 |none =>
  have f:j0<mask+1:=by rw[<-hsz];exact(Array.getElem?_eq_some_iff.mp a).1
  have g:(dI mask 13 (i,p)).2=0:=by
   rw[mK];exact Nat.div_eq_of_lt (P6 d (by decide))
  obtain⟨t,m,h⟩:=wm c (qg mask 13 (i,p) hi) f;have k:dI mask (13+t) (i,p)=(j0,0):=by
   rw[mJ,show dI mask 13 (i,p)=((dI mask 13 (i,p)).1,0) from Prod.ext rfl g,mL,h]
  have:=mM _ _ _ e (13+t) (by unfold QL;lia);rw[k]at this;have l:owner.getD j0 (a5 0)=b6:=by
   have b:j0<owner.size:=by lia
   rw[OB b]at a;simp[UY,b];exact vl a
  rw[l]at this;cases this
noncomputable def vals(L:List (Option Nat)):List Nat:=L.filterMap id
theorem qi:∀{L:List (Option Nat)}{j:Nat},L[j]?=a5 b6->(vals (L.set j (a5 k))).Perm (k::vals L)
 |[],j,h=>by simp at h
 |x::L,0,h=>by
  have:x=b6:=by simpa using h
  subst this;exact Mu _
 |x::L,j+1,h=>by
  have a:=qi (k:=k) (L:=L) (j:=j) (by simpa using h);cases x with
  |none=>exact a
  |some y =>
   show(y::vals (L.set j (a5 k))).Perm (k::y::vals L);exact(ZQ y a).trans (ZP k y _)
theorem mP:∀{L:List (Option Nat)},(vals L).length<L.length->∃j:Nat,L[j]?=a5 b6
 |[],h=>by simp at h
 |none::L,_=>⟨0,rfl⟩
 |some y::L,h=>by
  obtain⟨j,a⟩:=mP (L:=L) (by
   have:(vals L).length+1<L.length+1:=h;lia)
  exact⟨j+1,by simpa using a⟩
theorem yl(d:Full (mask+1)=b8):∀(hs:List Int) (owner:Array (Option Nat)) (k:Nat),owner.size=mask+1->(vals owner.toList).Perm (i0 k)->k+hs.length<=mask ->
  ∃c,hs.foldl (λacc h=>do
   let (owner,k) <-acc
   let j <-va mask owner (QL mask) (Oh h % (mask+1)) (Oh h)
   pure (owner.setIfInBounds j (a5 k),k+1)) (a5 (owner,k))=a5 (c,k+hs.length)/\c.size=mask+1/\(vals c.toList).Perm (i0 (k+hs.length))
 |[],owner,k,a,b,_=>⟨owner,rfl,a,b⟩
 |h::hs,owner,k,a,b,f=>by
  rw[ke]at f;obtain⟨j0,g⟩:=mP (L:=owner.toList) (by rw[b.length_eq,vr,hW];lia);obtain⟨j,e,l⟩:=Bq d (owner:=owner) (j0:=j0) (by rw[<-qp];exact g) a (i:=Oh h % (mask+1)) (p:=Oh h) (XJ _ (Zk _)) (by unfold Oh;lia);have m:owner.toList[j]?=a5 b6:=by rw[qp];exact l
  have n:(vals (owner.setIfInBounds j (a5 k)).toList).Perm (i0 (k+1)):=by
   rw[Array.toList_setIfInBounds,ò];exact(qi m).trans ((ZQ k b).trans (List.perm_append_singleton k _).symm)
  obtain⟨o',o,q,r⟩:=yl d hs (owner.setIfInBounds j (a5 k)) (k+1) (by rw[Array.size_setIfInBounds];exact a) n ⋯;refine⟨o',?_,q,by rw[show k+(h::hs).length=k+1+hs.length by simp;lia];exact r⟩;rw[Tu,show k+(h::hs).length=k+1+hs.length by simp;lia,<-o];congr 1
  show(va mask owner (QL mask) (Oh h % (mask+1)) (Oh h)).bind _=_;rw[e];rfl
theorem rU(L:List (Option Nat)):(i0 L.length).filterMap (λj=>L.getD j b6)=vals L:=by
 have h:(i0 L.length).map (λj=>L.getD j b6)=L:=by
  apply LD
  ·simp
  ·intro i b a;simp[y4,a]
 have a:vals ((i0 L.length).map (λj=>L.getD j b6))=vals L:=Ŕ vals h;unfold vals at a;rw[List.filterMap_map]at a;exact a
theorem uq{led plain:Bool}(e:Full (mask+1)=b8)(f:hs.size<=mask):∃t a,TN mask finger moves led plain hs=a5 (t,a)/\t.fits hs.size=b8/\t.led=led/\t.plain=plain/\t.mask=mask/\t.dummies=#[]/\a.toList.Perm (i0 hs.size):=by
 obtain⟨owner,c,g,b⟩:=yl e hs.toList (Array.replicate (mask+1) b6) 0 (by simp) (by
  have:∀n:Nat,vals (i9 n b6)=[]:=λn=>by
   induction n with
   |zero=>rfl
   |succ n h=>rw[List.replicate_succ];exact h
  rw[Array.toList_replicate,this];exact Mu _) (by rw[hW];lia)
 rw[OE,hW]at c b;have i:RQ mask hs=a5 owner:=by
  unfold RQ;rw[<-Array.foldl_toList];rw[c];rfl
 have k:((i0 (mask+1)).filterMap λj=>owner.getD j b6)=vals owner.toList:=by
  rw[<-rU,hW,g];congr 1
  funext j
  simp only[Array.getD_eq_getD_getElem?,Xh,qp]
 have d:(((i0 (mask+1)).filterMap λj=>(owner.getD j b6).map (j,·)).map (·.2))=vals owner.toList:=by
  rw[<-k,List.map_filterMap];congr 1
  funext j
  cases owner.getD j b6<;>rfl
 have hl:((i0 (mask+1)).filterMap λj=>(owner.getD j b6).map (j,·)).length=hs.size:=by
  have:=Ŕ LA d;rw[c4,b.length_eq,vr]at this;exact this
 refine⟨_,_,by unfold TN;rw[i];rfl,?_,rfl,rfl,rfl,rfl,?_⟩
 ·unfold RT VJ;simp only[hH,c4,hl];simp;exact f
 ·show(((i0 (mask+1)).filterMap λj=>(owner.getD j b6).map (j,·)).map (·.2)).Perm _;rw[d];exact b
end L2
namespace L2
open PySem PySem.Spec PyProof.Rows
noncomputable def Es(P:ve)(w:Jq)(p:Str×Tok):Int×d3:=((sK P w).hash p.1,t5 p.1 p.2)
section
theorem aP.perm(b:aP prog w h a led D)(p:D.Perm c):aP prog w h a led c :=
 let ⟨L,es,ep,t,d,e,f,g,i⟩:=b;⟨L,es,ep,t,d,e,f.trans p,p.nodup_iff.mp g,i⟩
theorem aP.at(b:aP prog w h a led D)(k:∀o,h.get? a=a5 o->h'.get? a=a5 o):aP prog w h' a led D :=
 let ⟨L,es,ep,t,c,d⟩:=b;⟨L,es,ep,t,k _ c,d⟩
theorem aP.sz{h:Jy}{a:fR}{led:Bool}{D:List Str}{L:List (Str×Tok)}{es:Array (Int×d3)}(b:es.toList=L.map (λp=>((sK prog w).hash p.1,t5 p.1 p.2)))(c:(L.map (·.1)).Perm D):es.size=D.length:=by
 rw[<-hW,b,c4,<-c.length_eq,c4]
theorem aP.of(f:aP prog w h a led D):h.SetOf (sK prog w) a (λx=>dt (x∈D)) D.length:=by
 obtain⟨L,es,ep,t,ho,b,d,k,g,i,l,m⟩:=f;refine⟨_,es,ep,t,ho,⟨rfl,rfl,rfl⟩,rfl,by rw[b];exact kA,λx=>?_,i,g,aP.sz (h:=h) (a:=a) (led:=led) b d⟩;rw[ŏ,b,<-d.mem_iff,lg];constructor
 ·rintro⟨p,c,e⟩;exact⟨_,lg.mpr ⟨p,c,rfl⟩,by rw[gv];simp[e]⟩
 ·rintro⟨e,j,hi⟩;obtain⟨p,c,rfl⟩:=lg.mp j;rw[gv,ŏ]at hi;exact⟨p,c,hi.symm⟩
theorem qj(b:aP prog w s.heap a led D)(h:∀r:Option Nat,r.isSome=dt (x∈D)->Q r s):
  d4 (gs prog w) A (setFind a (.str x c) ((sK prog w).hash x)) Q E s :=
 wpAny_setFind_of (knd:=sK prog w) (by rw[gv];simp) rfl b.of h
theorem eF{L':List (Str×Tok)}(ho:s.heap.get? a=a5 {cls:=.type "set",dict:=b6,data:=.set es ep t})(f:b.toList=L'.map (λp=>((sK prog w).hash p.1,t5 p.1 p.2)))(g:(L'.map (·.1)).Perm c)(i:c.Nodup)
  (j:t'.fits b.size=b8) (d:b.size<DD) (hl:t'.led=led) (k:b.size=0\/t'.plain=cc) (h:∀h',o3 a s.heap h'->h'.get? a=a5 {cls:=.type "set",dict:=b6,data:=.set b (ep+1) t' }->aP prog w h' a led c->Q () {s with heap:=h' }) :
  d4 (gs prog w) A (storeSet a b t') Q E s:=by
 refine V6 ho rfl ?_ (Ww d);have e:(s.heap.update a (O7 b t')).get? a=a5 {cls:=.type "set",dict:=b6,data:=.set b (ep+1) t' }:=uk (O7 b t') ho rfl;exact h _ (x3 s.heap a (O7 b t')) e ⟨L',b,ep+1,t',e,f,g,i,j,d,hl,k⟩
theorem eW(xs:Array α)(i:Nat):(PK xs i).toList=xs.toList.eraseIdx i:=by
 unfold PK;rw[Array.toList_append,Zu,Zu,Qh];simp[List.extract];rw[D7 (by simp)]
theorem wo{t:OL}(h:t.fits n=b8)(hi:i<n):(t.drop i).fits (n - 1)=b8:=by
 simp only[RT,cb,beq_iff_eq,ŏ]at h;obtain⟨e,b⟩:=h;have a:i<t.place.size:=by lia
 have c:(PK t.place i).size=t.place.size - 1:=by
  rw[<-hW,eW,Zy,Ő (by simpa using a),hW]
 have d:∀p x,(SetTable.insertAt t.dummies p x).size=t.dummies.size+1:=λp x=>by
  have:=(SetTable.insertAt_perm t.dummies p x).length_eq;rw[hW,hW,Array.size_push]at this;exact this
 unfold Æ;rw[OB a];simp only[RT,VJ,cb,beq_iff_eq,ŏ,c,d]at b ⊢;constructor<;>lia
theorem ym(t:OL)(i:Nat):(t.drop i).led=t.led/\(t.drop i).plain=t.plain:=by
 unfold Æ;split<;>exact⟨rfl,rfl⟩
theorem erase_filter:∀{l:List Str}{j:Nat}{x:Str},l.Nodup->l[j]?=a5 x->l.eraseIdx j=l.filter λy=>dt (y≠x)
 |[],j,x,_,h=>by simp at h
 |y::l,0,x,a,h=>by
  obtain⟨b,c⟩:=my.mp a;have:y=x:=by simpa using h
  subst this;rw[List.eraseIdx_cons_zero,Pw (by simp)];exact(MR.mpr λz hz=>by
   have:z≠y:=λe=>b (e▸hz);simpa using this).symm
 |y::l,j+1,x,a,h=>by
  obtain⟨b,c⟩:=my.mp a;have d:l[j]?=a5 x:=by simpa using h
  have:y≠x:=λe=>b (e▸l0 d);rw[S7,erase_filter c d,Pt (by simpa using this)]
theorem fE(f:α->β):∀(l:List α) (j:Nat),(l.map f).eraseIdx j=(l.eraseIdx j).map f
 |[],_=>rfl
 |x::l,0=>rfl
 |x::l,j+1=>by
  show f x::(l.map f).eraseIdx j=f x::(l.eraseIdx j).map f;rw[fE f l j]
theorem qk{a:fR}{led:Bool}{D:List Str}{x:Str}{k:Tok}{Q:Bool->fS->Prop}(l:aP prog w s.heap a led D)(h:∀b h',o3 a s.heap h'->aP prog w h' a led (D.filter λy=>dt (y≠x))->Q b {s with heap:=h' }):
  d4 (gs prog w) A (Ħ a (.str x k) ((sK prog w).hash x)) Q E s:=by
 have u:=l;obtain⟨L,es,ep,t,ho,c,d,m,f,v,B,C⟩:=l;have G:(sK prog w).is x (.str x k)=b8:=by rw[gv];simp
 have n:ElemsOf (sK prog w) es.toList:=by rw[c];exact kA
 have hsz:=aP.sz (h:=s.heap) (a:=a) (led:=led) c d;unfold Ħ setFind setFindIn;refine bD (bD (mn ho rfl f ?_))
 dsimp only
 rw[byScan_of (knd:=sK prog w) rfl v n];simp only[↓reduceIte];refine bD (N3 ?_);refine bD (Ģ (knd:=sK prog w) G ho rfl f n ?_);cases o:X8 (λe=>(sK prog w).is x e.2) es.toList with
 |none =>
  dsimp only
  refine df (df ?_);have g:x∉D:=λg=>by
   rw[<-d.mem_iff,lg]at g;obtain⟨p,H,e⟩:=g;have I:((sK prog w).hash p.1,t5 p.1 p.2)∈es.toList:=by rw[c];exact lg.mpr ⟨p,H,rfl⟩
   have:=XN.mp o _ I;rw[gv,decide_eq_false_iff_not]at this;exact this e.symm
  have e:D.filter (λy=>dt (y≠x))=D:=MR.mpr λz hz=>by
   have:z≠x:=λe=>g (e▸hz);simpa using this
  have J:s={s with heap:=s.heap}:=by cases s;rfl
  rw[J];exact h cc s.heap (JR a s.heap) (by rw[e];exact u)
 |some j =>
  dsimp only
  obtain⟨i,q,_⟩:=U9.mp o;rw[OE];refine df ?_
  dsimp only
  refine bD (mn ho rfl f ?_)
  dsimp only
  have N:j<L.length:=by rw[c,c4]at i;exact i
  have O:j<es.size:=by simpa using i
  have T:L[j].1=x:=by
   have e:es.toList[j]=((sK prog w).hash L[j].1,t5 L[j].1 L[j].2):=by simp[c]
   rw[e,gv,ŏ]at q;exact q.symm
  have Y:(L.map (·.1)).Nodup:=d.nodup_iff.mpr m;have Xs:(L.eraseIdx j).map (·.1)=(L.map (·.1)).filter λy=>dt (y≠x):=by
   rw[<-erase_filter Y (j:=j) (by simp[N,T]),fE]
  have Td:(PK es j).toList=(L.eraseIdx j).map (λp=>((sK prog w).hash p.1,t5 p.1 p.2)):=by
   rw[eW,c,fE]
  have r:(PK es j).size=es.size - 1:=by rw[<-hW,eW,Zy,Ő i,hW]
  obtain⟨d1,d2⟩:=ym t j;refine bD (eF (t':=t.drop j) (led:=led) ho Td (by rw[Xs];exact d.filter _) (X9 ZO m) (by rw[r];exact wo f O) (by rw[r];lia) (d1.trans B) (.inr (d2.trans (C.resolve_left ⋯))) λh' sb hg KA=>?_);refine bD (wpAny_point ?_);exact df (h b8 h' sb KA)
end
theorem Br:Full 256=b8:=by decide +kernel
section
theorem ib{es:Array (Int×d3)}{a:Array Nat}(h:a.toList.Perm (i0 es.size)):(a.filterMap (es[·]?)).toList.Perm es.toList:=by
 rw[Array.toList_filterMap];exact(h.filterMap _).trans (by rw[filterMap_getElem?_range])
theorem mQ{L:List (Str×Tok)}(ho:s.heap.get? a=a5 {cls:=.type "set",dict:=b6,data:=.set es ep t})(n:es.toList=L.map (λp=>((sK prog w).hash p.1,t5 p.1 p.2)))(o:(L.map (·.1)).Perm D)(q:D.Nodup)
  (r:t.fits es.size=b8) (u:es.size<DD) (i:t.led=led) (v:es.size=0\/t.plain=cc) (j:Ls c=m+1) (x:Full (m+1)=b8) (y:es.size<=m) (Y:m<1000)
  (h:∀h' (d:Array (Int×d3)) (t':OL) (z:Nat),o3 a s.heap h'->h'.get? a=a5 {cls:=.type "set",dict:=b6,data:=.set d z t' }->aP prog w h' a led D->t'.fits d.size=b8->t'.mask=m->t'.dummies=#[]->t'.led=led->d.size=es.size->Q () {s with heap:=h' }) :
  d4 (gs prog w) A (setRelay a c) Q E s:=by
 have B:(2000:Nat)<=cL:=by decide
 obtain⟨t',b,C,f,k,G,H,I,l⟩:=uq (mask:=m) (finger:=t.finger) (moves:=t.movedTo m) (led:=t.led) (plain:=t.plain) (hs:=es.map (·.1)) x (by rw[RS];exact y);rw[RS]at f l;have e:t.relaid (es.map (·.1)) c=a5 (t',b):=by
  unfold Vm;rw[j,Nat.add_sub_cancel];exact C
 unfold setRelay;refine bD (mn ho rfl r ?_)
 dsimp only
 rw[ő (by rw[j];lia)];refine bD ?_;rw[e];show d4 (gs prog w) A (if ((b.filterMap (es[·]?)).size != es.size)=b8 then((XZ "internal:set-table-lost-an-element":Sem Unit) >>= λ_=>pure (b.filterMap (es[·]?),t')) else pure (b.filterMap (es[·]?),t')) _ E s;have g:=ib l;have hsz:(b.filterMap (es[·]?)).size=es.size:=by rw[<-hW,g.length_eq,hW]
 rw[ő (by rw[hsz];simp)];refine df ?_;rw[n]at g;obtain⟨L',J,N⟩:=c_ g;exact eF (led:=led) ho J ((N.map _).trans o) q (by rw[hsz];exact f) (by rw[hsz];exact u) (k.trans i) (by rw[hsz,G];exact v) λh' O T hs=>h h' _ t' _ O T hs (by rw[hsz];exact f) H I (k.trans i) hsz
theorem yn(b:5<=n)(a:n<64):∃m,Ls (2 * n)=m+1/\Full (m+1)=b8/\n<=m/\m<1000:=by
 have:∀n:_root_.Fin 64,Ls (2 * n.val)=(if n.val<4 then 8 else if n.val<8 then 16 else if n.val<16 then 32 else if n.val<32 then 64 else 128):=by decide +kernel
 have e:=this ⟨n,a⟩
 dsimp only at e
 rw[e,ő ⋯];split
 ·exact⟨15,rfl,yi,⋯,⋯⟩
 ·split
  ·exact⟨31,rfl,yj,⋯,⋯⟩
  ·split
   ·exact⟨63,rfl,yk,⋯,⋯⟩
   ·exact⟨127,rfl,uo,⋯,⋯⟩
theorem wq(a:n<64):∃m,Ls (N2 n)=m+1/\Full (m+1)=b8/\n<=m/\m<1000:=by
 have:∀n:_root_.Fin 64,Ls (N2 n.val)=(if n.val<2 then 8 else if n.val<4 then 16 else if n.val<8 then 32 else if n.val<16 then 64 else if n.val<32 then 128 else 256):=by decide +kernel
 have e:=this ⟨n,a⟩
 dsimp only at e
 rw[e];split
 ·exact⟨7,rfl,Dh,⋯,⋯⟩
 ·split
  ·exact⟨15,rfl,yi,⋯,⋯⟩
  ·split
   ·exact⟨31,rfl,yj,⋯,⋯⟩
   ·split
    ·exact⟨63,rfl,yk,⋯,⋯⟩
    ·split
     ·exact⟨127,rfl,uo,⋯,⋯⟩
     ·exact⟨255,rfl,Br,⋯,⋯⟩
theorem yo{a:fR}{led:Bool}{D:List Str}{Q:Unit->fS->Prop}(b:aP prog w s.heap a led D)(p:D.length<64)(h:∀h',o3 a s.heap h'->aP prog w h' a led D->Q () {s with heap:=h' }):
  d4 (gs prog w) A (setTidy a) Q E s:=by
 have f:=b;obtain⟨L,es,ep,t,ho,c,d,g,e,i,j,k⟩:=b;have hsz:=aP.sz (h:=s.heap) (a:=a) (led:=led) c d;unfold setTidy;refine bD (mn ho rfl e ?_)
 dsimp only
 split
 ·obtain⟨m,m1,m2,m3,m4⟩:=wq (n:=es.size) ⋯;exact mQ ho c d g e i j k m1 m2 m3 m4 λh' _ _ _ l _ hs _ _ _ _ _=>h h' l hs
 ·have o:s={s with heap:=s.heap}:=by cases s;rfl
  refine df ?_;rw[o];exact h s.heap (JR a s.heap) f
theorem wt{a b:fR}{es:Array (Int×d3)}{D:List Str}{Q:Unit->fS->Prop}(v:a≠b)(ho:s.heap.get? a=a5 {cls:=.type "set",dict:=b6,data:=.set #[] 0 (.fresh 0 0 (aD w))})(x:aP prog w s.heap b (aD w) D)(K':D.length<64)
  (h:∀h',o3 a s.heap h'->aP prog w h' a (aD w) D->Q () {s with heap:=h' }):d4 (gs prog w) A (setMerge a b) Q E s:=by
 have O5:=x;obtain⟨L,d,Xu,f,y,l,n,B,C,G,P',Te⟩:=x;have hsz:=aP.sz (h:=s.heap) (a:=b) (led:=aD w) l n;have o:(Z8 0 0 (aD w)).fits (#[]:Array (Int×d3)).size=b8:=rfl;unfold setMerge;rw[ő (by simpa using v)];refine bD (mn y rfl C ?_)
 dsimp only
 split
 ·rename_i Tf;have hD:D=[]:=by
   have:d.size=0:=by simpa using Tf
   exact List.eq_nil_of_length_eq_zero ⋯
  subst hD;have p:s={s with heap:=s.heap}:=by cases s;rfl
  refine df ?_;rw[p];exact h s.heap (JR a s.heap) (gJ ho)
 ·rename_i JQ;have Tg:d.size≠0:=λz=>JQ (by simpa using z);refine bD ?_;unfold setRoomFor;refine bD (mn ho rfl o ?_)
  dsimp only
  refine qb (Q:=λ_ s1=>∃(g:Jy) (ts:OL) (H:Nat) (k:Array (Int×d3)),s1={s with heap:=g}/\k.size=0/\o3 a s.heap g/\g.get? a=a5 {cls:=.type "set",dict:=b6,data:=.set k H ts}/\ts.fits k.size=b8/\Full (ts.mask+1)=b8/\d.size<=ts.mask/\ts.dummies=#[]/\ts.led=aD w) ?_ (λ_ s1 ⟨g,ts,H,k,e,z,i,j,I,hF,q,Th,hl⟩=>?_) λ_ _ e=>e
  ·unfold SetTable.roomFor;by_cases h5:5<=d.size
   ·rw[Ő (by show(0+d.size) * 5 >= 7 * 3;lia)]
    dsimp only
    obtain⟨m,m1,m2,m3,m4⟩:=yn h5 ⋯;have ew:((Z8 0 0 (aD w)).place.size+d.size) * 2=2 * d.size:=by show(0+d.size) * 2=_;lia
    rw[ew];exact mQ (L:=[]) (D:=[]) (led:=aD w) ho rfl (Mu _) .nil o (by decide) rfl (.inl rfl) m1 m2 (by show 0<=m;lia) m4 λh' IZ t' M0 i j _ SR J hd hl hz=>⟨h',t',M0,IZ,rfl,hz,i,j,SR,by rw[J];exact m2,by rw[J];exact m3,hd,hl⟩
   ·rw[ő (by show ¬(0+d.size) * 5 >= 7 * 3;lia)]
    dsimp only
    have p:s={s with heap:=s.heap}:=by cases s;rfl
    exact df ⟨s.heap,_,0,#[],p,rfl,JR a s.heap,ho,o,Dh,by show d.size<=7;lia,rfl,rfl⟩
  ·subst e;refine bD (mn j rfl I ?_)
   dsimp only
   have Ti:ts.place.size=0:=by
    simp only[RT,cb,beq_iff_eq]at I;lia
   have Qb:ts.road f=if ts.mask==f.mask&&f.dummies.isEmpty then .slotForSlot else .clean:=by
    unfold SetTable.road VJ;rw[Ti,Th];rfl
   have Xv:g.get? b=a5 {cls:=.type "set",dict:=b6,data:=.set d Xu f}:=(i.2 b (ro v)).trans y;have N:(ts.plain&&f.plain)=cc:=by rw[Te.resolve_left Tg,PL]
   have O:(ts.led&&f.led)=aD w:=by rw[hl,P',ď]
   rw[Qb];by_cases T:(ts.mask==f.mask&&f.dummies.isEmpty)=b8
   ·rw[Ő T]
    dsimp only
    exact eF (s:={s with heap:=g}) (led:=aD w) (L':=L) (t':={f with finger:=ts.finger,led:=ts.led&&f.led,moves:=ts.moves,plain:=ts.plain&&f.plain}) j l n B C G O (.inr N) λh' r _ hs=>h h' (i.trans r) hs
   ·rw[ő T]
    dsimp only
    obtain⟨t',c,q1,Y,q3,q4,q5,q6,q7⟩:=uq (mask:=ts.mask) (finger:=ts.finger) (moves:=ts.moves) (led:=ts.led&&f.led) (plain:=ts.plain&&f.plain) (hs:=d.map (·.1)) hF (by rw[RS];exact q);rw[RS]at Y q7;refine bD ?_;rw[q1];show d4 (gs prog w) A (if ((c.filterMap (d[·]?)).size != d.size)=b8 then((XZ "internal:set-table-lost-an-element":Sem Unit) >>= λ_=>pure (c.filterMap (d[·]?),t')) else pure (c.filterMap (d[·]?),t')) _ E _;have t:=ib q7;have u:(c.filterMap (d[·]?)).size=d.size:=by rw[<-hW,t.length_eq,hW]
    rw[ő (by rw[u];simp)];refine df ?_;rw[l]at t;obtain⟨L',e',p'⟩:=c_ t;exact eF (s:={s with heap:=g}) (led:=aD w) j e' ((p'.map _).trans n) B (by rw[u];exact Y) (by rw[u];exact G) (q3.trans O) (.inr (q4.trans N)) λh' r _ hs=>h h' (i.trans r) hs
end
section
theorem gM:∀{l:List α},(∀x∈l,∀Q':ForInStep β->fS->Prop,Q' (.yield b) s->d4 M A (body x b) Q' E s)->Q b s->d4 M A (Ŏ l b body) Q E s
 |[],_,h=>by rw[Xn];exact df h
 |x::l,a,h=>by
  rw[VU];exact bD (a x (by simp) _ (gM (λy c=>a y (by simp[c])) h))
theorem wu(hs:∀b∈sets,∃led D,aP prog w s.heap b led D)(h:Q b8 s):d4 (gs prog w) A (setsQuiet sets) Q E s:=by
 unfold setsQuiet;refine bD (gM (λb c Q' d=>?_) (df h));obtain⟨led,D,L,es,ep,t,f,g,k,l,i,m,n,o⟩:=hs b c;refine bD (Sd f rfl i ?_);rw[<-UZ];refine bD (gM (λe a q j=>?_) (df d));rw[g]at a;obtain⟨p,_,rfl⟩:=lg.mp a;exact df j
theorem ql(l:aP prog w s.heap a (aD w) D)(ho:∀b∈others,∃led B,aP prog w s.heap b led B)(m:∀r,f=a5 r->aP prog w s.heap r (aD w) [])
  (h:∀(es:Array (Int×d3)) (L:List (Str×Tok)) (h':Jy),es.toList=L.map (Es prog w)->(L.map (·.1)).Perm D->(f=b6->h'=s.heap)->(∀r,f=a5 r->o3 r s.heap h'/\aP prog w h' r (aD w) [])->Q es {s with heap:=h' }) :
  d4 (gs prog w) A (setWalkUnseen a others f) Q E s:=by
 have C:=l;obtain⟨L,es,ep,t,j,n,o,Jj,k,hb,G,H⟩:=l;have I:s={s with heap:=s.heap}:=by cases s;rfl
 have c:∀(d:Array (Int×d3)),d.toList.Perm es.toList->Q d s:=λd p=>by
  rw[n]at p;obtain⟨L',J,N⟩:=c_ p;rw[I];exact h d L' s.heap J ((N.map _).trans o) (λ_=>rfl) λr e=>⟨JR r s.heap,m r e⟩
 unfold setWalkUnseen;refine bD (mn j rfl k ?_)
 dsimp only
 refine bD (cG ?_);cases g:w.params.followText "set-order" with
 |true =>
  rw[Ő (by show(w.params.followText "set-order"||t.led&&t.plain||decide (es.size<=1))=b8;rw[g];rfl)];unfold setWalk;refine bD (mn j rfl k ?_)
  dsimp only
  refine bD (cG ?_);rw[Ő (by exact g)];refine bD (QS ?_);exact df (c _ (dH _ _))
 |false =>
  by_cases q:es.size<=1
  ·rw[Ő (by rw[œ q];simp)];unfold setWalk;refine bD (mn j rfl k ?_)
   dsimp only
   refine bD (cG ?_);rw[ő (by show ¬w.params.followText "set-order"=b8;rw[g];simp)];show d4 _ _ (if (!t.plain&&dt (es.size>1))=b8 then _ else _) _ _ s;rw[ő (by rw[Œ (show ¬es.size>1 by lia)];simp)];show d4 _ _ ((if (!t.led&&dt (es.size>1))=b8 then _ else _) >>= _) _ _ s;rw[ő (by rw[Œ (show ¬es.size>1 by lia)];simp)];exact bD (df (df (c es (Mu _))))
  ·have O:t.plain=cc:=H.resolve_left ⋯;rw[ő (by show ¬(w.params.followText "set-order"||t.led&&t.plain||decide (es.size<=1))=b8;rw[g,O,Œ q];simp)];refine bD (wu (λb J9=>by
    rcases et.mp J9 with rfl|J9
    ·exact⟨_,_,C⟩
    ·exact ho b J9) ?_)
   rw[ő (by simp)];refine bD (N3 ?_);cases f with
   |none=>exact df (c es (Mu _))
   |some r =>
    dsimp only
    obtain⟨Lr,T,ZN,i,u,v,x,Y,y,Xx,Qd,Xy⟩:=m r rfl;refine bD (mn u rfl y ?_)
    dsimp only
    have Ol:T.size=0:=by
     have:=aP.sz (h:=s.heap) (a:=r) (led:=aD w) v x;simpa using this
    split
    ·refine bD (eF (t':={i with led:=i.led&&t.led,plain:=i.plain&&t.plain}) (led:=aD w) u v x Y y Xx (by show(i.led&&t.led)=_;rw[Qd,G,ď]) (.inl Ol) λh' sb _ hs=>?_);exact df (h es L h' n o (λz=>nomatch z) λr' e=>by cases e;exact⟨sb,hs⟩)
    ·exact df (c es (Mu _))
end
section
variable{prog:ve}{w:Jq}{A:N8}{E:d3->fS->Prop}{s:fS}
theorem iS(J:List (Str×Tok)->fS->Prop)(a:∀d p r s,d++p::r=L->J d s->∀Q':ForInStep PUnit->fS->Prop,(∀s',J (d++[p]) s'->Q' (.yield ⟨⟩) s')->d4 M A (body (Es prog w p) ⟨⟩) Q' E s)(b:∀s',J L s'->Q ⟨⟩ s'):
  ∀(r d:List (Str×Tok)) (s:fS),d++r=L->J d s->d4 M A (Ŏ (r.map (Es prog w)) ⟨⟩ body) Q E s
 |[],d,s,e,h=>by
  rw[r6]at e;subst e;rw[Lx,Xn];exact df (b s h)
 |p::r,d,s,e,h=>by
  rw[d6,VU];exact bD (a d p r s e h _ λs' h'=>iS J a b r (d++[p]) s' (by rw[<-e];simp) h')
theorem aP.ty(h:aP prog w s.heap a led D):s.TypeIs (.ref a) "set":=let ⟨_,_,_,_,ho,_⟩:=h;⟨_,ho,rfl⟩
theorem fX(b:aP prog w s.heap a led D)(h:Q b8 s):d4 (gs prog w) A (KD (.ref a)) Q E s:=by
 unfold KD;refine bD (OO b.ty Wl ?_);exact df h
theorem ic{a:fR}{led:Bool}{D:List Str}{Q:Nat->fS->Prop}(b:aP prog w s.heap a led D)(h:Q D.length s):d4 (gs prog w) A (Qi a) Q E s:=by
 obtain⟨L,es,ep,t,ho,c,d,f,e,_⟩:=b;unfold Qi;refine bD (Sd ho rfl e (df ?_));rw[aP.sz (h:=s.heap) (a:=a) (led:=led) c d];exact h
theorem qm(b:aP prog w s.heap a led D)(h:Q (.type "set") s):d4 (gs prog w) A (Ur a) Q E s:=by
 unfold Ur;refine bD (OO b.ty Wl ?_);exact df h
theorem ur(h:Q (.ref s.heap.objs.size) {s with heap:=s.heap.push {cls:=.type "set",dict:=b6,data:=.set #[] 0 (.fresh 0 0 (aD w))}}):d4 (gs prog w) A (newSet (.type "set")) Q E s:=by
 unfold newSet ā;refine bD (bD (QS (df ?_)))
 dsimp only
 simp only[newObj];exact bD (wpAny_alloc (df h))
theorem yp{a:fR}{D:List Str}{Q:d3->fS->Prop}(b:aP prog w s.heap a (aD w) D)(c:D.length<64)(h:∀h',o3 s.heap.objs.size (s.heap.push {cls:=.type "set",dict:=b6,data:=.set #[] 0 (.fresh 0 0 (aD w))}) h'->aP prog w h' s.heap.objs.size (aD w) D->Q (.ref s.heap.objs.size) {s with heap:=h' }):
  d4 (gs prog w) A (Uq a) Q E s:=by
 unfold Uq;refine bD (qm b (bD (ur ?_)));refine bD (df ?_);have d:s.heap.objs.size≠a:=λe=>by obtain⟨_,_,_,_,ho,_⟩:=b;exact uv _ (e▸ez ho)
 refine bD (wt (es:=#[]) (s:={s with heap:=s.heap.push {cls:=.type "set",dict:=b6,data:=.set #[] 0 (.fresh 0 0 (aD w))}}) d (eH _ rfl) (b.at λo e=>cK _ e) c λh' f hs=>?_);exact df (h h' f hs)
theorem kI{id:String}(ho:s.heap.get? a=a5 {cls:=.type "set",dict:=b6,data:=.set es ep t})(b:t.fits es.size=b8)(h:Q () s):d4 (gs prog w) A (TC id a ep) Q E s:=by
 unfold TC;refine bD (V7 ho rfl b ?_);rw[ő (by simp)];exact df h
theorem yq{id:String}(v:a≠b)(o:aP prog w s.heap a (aD w) g)(j:aP prog w s.heap b (aD w) q)(B:g.length<64)(i:q.length<=g.length)
  (h:∀h',o3 a s.heap h'->aP prog w h' a (aD w) (g.filter λx=>dt (x∉q))->Q () {s with heap:=h' }):d4 (gs prog w) A (Sr id a (.ref b)) Q E s:=by
 unfold Sr;rw[ő (by simpa using ro v)];refine bD (fX j ?_);rw[Ő rfl];refine bD (df ?_);refine bD (ic j (bD (ic o ?_)));rw[ő ⋯];obtain⟨L2,I,J,N,y,O,T,Y,z,U8,Vs,XA⟩:=_root_.id j;refine bD (V7 y rfl z ?_);refine bD (qs ?_);refine bD (ql j (others:=[a]) (f:=b6) (λc C=>by rw[i7.mp C];exact⟨_,_,o⟩) (λr e=>nomatch e) λes L h0 D G t _=>?_);have t:=t rfl;subst t;rw[<-UZ,D];refine bD (iS (prog:=prog) (w:=w) (L:=L) (λd s'=>∃h',s'={s with heap:=h' }/\o3 a s.heap h'/\aP prog w h' a (aD w) (g.filter λx=>dt (x∉d.map (·.1)))) (λd p r s' ed ⟨h',u,k,l⟩ Q' H=>?_) (λs' ⟨h',u,k,l⟩=>?_) L [] _ rfl ⟨s.heap,by cases s;rfl,JR a s.heap,by rw[MR.mpr λx _=>by simp];exact o⟩)
 ·subst u;refine bD (qs (qk (s:={s with heap:=h' }) l λb' i m n=>?_));refine bD (kI (s:={s with heap:=i}) (((k.trans m).2 b (ro v)).trans y) z ?_);refine df (H _ ⟨i,rfl,k.trans m,?_⟩);rw[List.filter_filter]at n;have e:(g.filter λx=>dt (x≠p.1)&&dt (x∉d.map (·.1)))=g.filter λx=>dt (x∉(d++[p]).map (·.1)):=by
   refine Ô λx _=>?_;rw[Ll];simp[not_or,and_comm]
  rw[<-e];exact n
 ·subst u;refine df ?_;have e:(g.filter λx=>dt (x∉L.map (·.1)))=g.filter λx=>dt (x∉q):=by
   refine Ô λx _=>?_;rw[Ll];simp only[ŏ];rw[G.mem_iff]
  rw[e]at l;exact yo (s:={s with heap:=h' }) l (Ò (w6 _ _) B) λi m n=>h i (k.trans m) n
theorem yr{id:String}(L8:a≠b)(l:aP prog w s.heap a (aD w) m)(j:aP prog w s.heap b (aD w) g)(D:m.length<64)(k:g.length<64)
  (h:∀h',(∀c o,s.heap.get? c=a5 o->h'.get? c=a5 o)->aP prog w h' s.heap.objs.size (aD w) (m.filter λx=>dt (x∉g))->Q (.ref s.heap.objs.size) {s with heap:=h' }):d4 (gs prog w) A (OP id a (.ref b)) Q E s:=by
 have keep:∀h',o3 s.heap.objs.size (s.heap.push {cls:=.type "set",dict:=b6,data:=.set #[] 0 (.fresh 0 0 (aD w))}) h'->∀c o,s.heap.get? c=a5 o->h'.get? c=a5 o:=λh' i c o e =>
  (i.2 c (hQ (ez e))).trans (cK _ e)
 have G:a<s.heap.objs.size:=by obtain⟨_,_,_,_,ho,_⟩:=l;exact ez ho
 have v:b<s.heap.objs.size:=by obtain⟨_,_,_,_,ho,_⟩:=j;exact ez ho
 unfold OP
 dsimp only
 refine bD (fX j ?_);rw[ő (by simp)];refine bD (df ?_);rw[ő (by simp),Ő rfl];refine bD (ic j (bD (ic l ?_)));by_cases H:m.length / 4>g.length
 ·rw[Ő H];refine bD (N3 ?_);refine bD (yp l D λh' i hs=>?_);refine bD (df ?_);refine bD (qs (yq (s:={s with heap:=h' }) (H0 v) hs (j.at λo e=>keep h' i b o e) D ⋯ λk n t=>?_));exact df (h k (keep k (i.trans n)) t)
 ·rw[ő H];refine bD (qm l (bD (ur ?_)));refine bD (df ?_);have I:=l.at (h':=s.heap.push {cls:=.type "set",dict:=b6,data:=.set #[] 0 (.fresh 0 0 (aD w))}) λo e=>cK _ e;have Vj:=j.at (h':=s.heap.push {cls:=.type "set",dict:=b6,data:=.set #[] 0 (.fresh 0 0 (aD w))}) λo e=>cK _ e;have J:aP prog w (s.heap.push {cls:=.type "set",dict:=b6,data:=.set #[] 0 (.fresh 0 0 (aD w))}) s.heap.objs.size (aD w) []:=gJ (eH _ rfl);obtain⟨La,ea,XB,ta,N,Qf,ZR,Tn,y,ZS,Vv,XC⟩:=_root_.id I;refine bD (V7 N rfl y ?_);refine bD (qs ?_);rw[Ő rfl];refine bD (ql (s:={s with heap:=s.heap.push {cls:=.type "set",dict:=b6,data:=.set #[] 0 (.fresh 0 0 (aD w))}}) I (others:=[b,s.heap.objs.size]) (f:=a5 s.heap.objs.size) (λc hc=>by
   rcases et.mp hc with rfl|hc
   ·exact⟨_,_,Vj⟩
   ·rw[i7.mp hc];exact⟨_,_,J⟩) (λr e=>by cases e;exact J) λes L h0 he B _ e0=>?_)
  obtain⟨XD,Rm⟩:=e0 _ rfl;rw[<-UZ,he];have XE:L.length=m.length:=by rw[<-B.length_eq,c4]
  refine bD (iS (prog:=prog) (w:=w) (L:=L) (λd s'=>∃h',s'={s with heap:=h' }/\o3 s.heap.objs.size (s.heap.push {cls:=.type "set",dict:=b6,data:=.set #[] 0 (.fresh 0 0 (aD w))}) h'/\aP prog w h' s.heap.objs.size (aD w) ((d.map (·.1)).filter λx=>dt (x∉g))) (λd p r s' O ⟨h',C,i,u⟩ Q' T=>?_) (λs' ⟨h',C,i,u⟩=>?_) L [] _ rfl ⟨h0,rfl,XD,Rm⟩)
  ·subst C;have Y:(L.map (·.1)).Nodup:=B.nodup_iff.mpr Tn;have XF:p.1∉d.map (·.1):=λz=>by
    rw[<-O,js,rr]at Y;exact Y.2.2 p.1 z p.1 (by simp) rfl
   have XG:aP prog w h' b (aD w) g:=j.at λo e=>keep h' i b o e;have Vw:h'.get? a=a5 {cls:=.type "set",dict:=b6,data:=.set ea XB ta}:=(i.2 a (hQ G)).trans N;have MT:d.length<64:=by have:=Ŕ LA O;simp at this;lia
   refine bD (qs ?_);rw[Ő rfl];refine bD (qj (s:={s with heap:=h' }) XG λr hr=>?_);refine bD (df ?_);have em:((d++[p]).map (·.1)).filter (λx=>dt (x∉g))=(d.map (·.1)).filter (λx=>dt (x∉g))++if p.1∈g then [] else [p.1]:=by
    rw[js,R3];congr 1
    by_cases z:p.1∈g<;>simp[z]
   by_cases z:p.1∈g
   ·rw[ő (by rw[hr,œ z];simp)];refine df ?_;refine bD (kI (s:={s with heap:=h' }) Vw y ?_);refine df (T _ ⟨h',rfl,i,?_⟩);rw[em,Ő z,r6];exact u
   ·rw[Ő (by rw[hr,Œ z];rfl)];refine bD (kC (s:={s with heap:=h' }) u (by
     have:((d.map (·.1)).filter λx=>dt (x∉g)).length<=d.length:=H8 (w6 _ _) (by simp);have Na:DD=4096:=rfl;lia) λk n t=>?_)
    refine df ?_;refine bD (kI (s:={s with heap:=k}) ((n.2 a (hQ G)).trans Vw) y ?_);refine df (T _ ⟨k,rfl,i.trans n,?_⟩);rw[em,ő z];rw[ő (λq=>XF (NX.mp q).1)]at t;exact t
  ·subst C;refine df ?_;refine df (h h' (keep h' i) (u.perm ?_));exact B.filter _
end
theorem lT:Zc ļ "set.__sub__"=a5 Mq.«frozenset.__sub__» :=
 Zb (id':="frozenset.__sub__") (by kernel_rfl) rfl (by decide +kernel) (by kernel_rfl)
section
theorem jV(n:a≠b)(g:aP prog w s.heap a (aD w) j)(i:aP prog w s.heap b (aD w) k)(p:j.length<64)(q:k.length<64)
  (h:∀h',(∀c o,s.heap.get? c=a5 o->h'.get? c=a5 o)->aP prog w h' s.heap.objs.size (aD w) (j.filter λx=>dt (x∉k))->Q (.ref s.heap.objs.size) {s with heap:=h' }):d4 (gs prog w) A (OJ .Sub (.ref a) (.ref b)) Q E s:=by
 refine wpAny_binaryOp_same (T:="set") g.ty i.ty PySem.F.fills_set_sub PySem.F.slot_set_sub (B' PySem.F.slot_set_sub g.ty lT ?_ (PySem.F.args_set_sub_2 _ _));unfold Mq.«frozenset.__sub__»;show d4 (gs prog w) _ (do
  let x <-UP "__sub__" ⟨[.ref a,.ref b],[]⟩
  match x with
  |(self,f) =>
   match if cc=b8 then(f,self) else(self,f) with
   |(l,r)=>do
    let c <-KD l <&&> KD r
    if (!c)=b8 then do
      ħ (Rr "frozenset."++Rr "__sub__"++Rr ".declined")
      ret Value.notImplemented
     else do
      let d <-Uu l
      let e <-OP (Rr "frozenset."++Rr "__sub__") d r
      ret e) _ _ _
 refine bD (m:=UP "__sub__" ⟨[.ref a,.ref b],[]⟩) (df (a:=(hY a,hY b)) ?_)
 dsimp only
 refine bD (bD (fX g ?_));show d4 _ _ (KD (.ref b)) _ _ _;refine fX i ?_;rw[ő (by simp)];refine bD (df ?_);refine bD (yr n g i p q λh' hk hs=>?_);exact df ⟨_,rfl,(λz=>by cases z),h h' hk hs⟩
end
section
theorem rV(l:X.calm=b8)(I:Inv X pins σ H s)(hq:JA X.K H p (f.map V.str)\/JH X.K H p (f.map V.str))(g:f.length+1<DD)
  (h:∀(S:fR) (o:Obj) (s1:fS),s.heap.objs.size<=S->s1.heap.get? S=a5 o->aP X.prog X.w s1.heap S (aD X.w) (aM f)->Inv X ((S,o)::pins) σ H s1->Q (.ref S) s1) :
  d4 (gs X.prog X.w) X.A (Nd (.type "set") [.ref p]) Q X.xe s:=by
 have i:X.A.handled=b6:=I.ok.hd l;have d:∀(h':Jy) (a:Nat),aP X.prog X.w h' s.heap.objs.size (aD X.w) (aM f)->(∀b o,b<s.heap.objs.size->s.heap.get? b=a5 o->h'.get? b=a5 o)->Q (.ref s.heap.objs.size) {s with heap:=h',toks:=a}:=λh' a c k=>by
  obtain⟨L,es,ep,t,ho,r⟩:=_root_.id c;have j:Inv X pins σ H {s with heap:=h',toks:=a}:=I.kept λb o e=>k b o (ez e) e;refine h _ _ _ (hU _) ho c (j.dS λq hq=>?_);rcases et.mp hq with rfl|hq
  ·exact⟨ho,I.Ja.fresh (hU _),H0 I.lt,I.DN (hU _),λv z=>nomatch z⟩
  ·exact j.pin q (mA _ hq)
 rcases hq with hq|hq
 ·obtain⟨its,rv,pl,hz⟩:=I.list hq;exact fD i pl.isList (cF rv) g λh' a c k=>d h' a c k
 ·obtain⟨its,rv,pl,hz⟩:=I.tuple hq;exact gw i pl (cF rv) g λh' a c k=>d h' a c k
end
theorem rW:T_ (.type "list_reverseiterator") "__len__"=pure b6:=by rw[R6,Ob];kernel_rfl
theorem yt:T_ (.type "list_reverseiterator") "__length_hint__"=pure (a5 (.builtin "list_reverseiterator.__length_hint__")):=by rw[R6,Ob];kernel_rfl
theorem oE:Qe (.type "list_reverseiterator") (.type "list_reverseiterator")=pure b8:=by rw[JK];kernel_rfl
section
variable{I:fR}{fp wr:List fR}{G:Array é->Array é->Prop}{n:Nat}{P:Nat->d3->Prop}{St:Nat->fS->Prop}
theorem rX(W:ą prog w A.in1 I fp wr G n P St)(c:∀i s,St i s->s.TypeIs (.ref I) "list_reverseiterator")(S:fR)(res:d3)(j:Nat)(a:St 0 s)(h:S∉fp)(k:I∈fp)
  (l:s.heap.get? S=a5 {cls:=.type "list",data:=.seq #[] j})
  (m:∀s' d b,Moved (S::wr) G s s'->s'.heap.get? S=a5 {cls:=.type "list",dict:=b6,data:=.seq d b,slots:=#[]}->ě P d n->R (.ok (.ret res)) s') (o:n<=cL) :
  d4 (gs prog w) A.in1 (ti (.ref S) (.ref I) res)
   (λg s'=>match g with|.done f=>R (.ok f) s'|.again b=>b.quiet=b8/\Qq (gs prog w) A b R s') (λe s'=>R (.error e) s') s:=by
 have p:S≠I:=λe=>h (e▸k);unfold ti;refine bD (So (c 0 _ a) ?_);have q:N9 (.ref S) (.ref I)=cc:=by simp[N9,p]
 have r:(ri "list_reverseiterator"==ri "list")=cc:=by decide
 have t:(ri "list_reverseiterator"==ri "tuple")=cc:=by decide
 simp only[q,r,t,ON,J',if_false];refine bD (W.self 0 _ _ _ a ?_);refine bD (qs ?_);unfold UQ;refine bD (UH (c 0 _ a) rW ?_);show d4 _ A.in1 (specialOf (hY I) (RP "__length_hint__") >>= _) _ _ _;refine bD (UH (c 0 _ a) yt ?_);have u:splitId "list_reverseiterator.__length_hint__"=a5 ("list_reverseiterator","__length_hint__"):=by decide +kernel
 dsimp only
 rw[u]
 dsimp only
 refine bD (OO (c 0 _ a) oE ?_);rw[ő (by decide)];rw[Ő (by decide +kernel)];rw[ő (by decide +kernel)];refine df ?_;rw[ő (by decide +kernel)];refine df ⟨Py PySem.F.plain_extend_loop _,ä W o _ h _ n 0 _ _ _ rfl (ki _) a l (ø P) λs' d b v x y=>?_⟩;exact m s' d b v x y
theorem lU(W:ą prog w A.in1 I fp wr G n P St)(p:∀i s,St i s->s.TypeIs (.ref I) "list_reverseiterator")(S:fR)(q:St 0 s)(l:S∉fp)(r:I∈fp)
  (g:s.heap.get? S=a5 {cls:=.type "list",data:=.seq #[]})
  (t:∀s' d a,Moved (S::wr) G s s'->s'.heap.get? S=a5 {cls:=.type "list",dict:=b6,data:=.seq d a,slots:=#[]}->ě P d n->R (.ok (.ret .none)) s') (u:n<=cL) :
  d4 (gs prog w) A.in1 (Mq.«list.__init__» ⟨[.ref S,.ref I],[]⟩)
   (λj s'=>match j with|.done f=>R (.ok f) s'|.again a=>a.quiet=b8/\Qq (gs prog w) A a R s') (λe s'=>R (.error e) s') s:=by
 show d4 _ A.in1 (do let k <-VD (.ref S);ĵ (.ref S) (λ_=>#[]);letGo k.toList.reverse;ti (.ref S) (.ref I) .none) _ _ s;refine bD ?_;unfold VD;refine bD (Sx g rfl (df ?_));show d4 _ A.in1 (Ĥ S (λ_=>#[]) >>= λ_=>letGo (#[]:Array d3).toList.reverse >>= λ_=>ti (.ref S) (.ref I) .none) _ _ s;refine bD (R4 g rfl ?_);have v:=uk (oT (λ_=>(#[]:Array d3))) g rfl;have m:∀b o,b≠S->s.heap.get? b=a5 o->(s.heap.update S (oT (λ_=>(#[]:Array d3)))).get? b=a5 o :=
  λb o c e=>(Nw _ _ (ro c)).trans e
 refine bD (wpAny_letGo ?_);refine rX W p S .none _ (W.frame 0 s _ s.toks q (hU _) λb c o e=>m b o (λh=>l (h▸c)) e) l r v (λs' d a x y z=>?_) u;exact t s' d a (Ě W.gtrans ((Moved.refl W.grefl).then_heap (hU _) λb o c e=>m b o (λh=>c (h▸nc)) e) x) y z
theorem qo(W:ą prog w A.in1.in1 I fp wr G n P St)(h:∀i s,St i s->s.TypeIs (.ref I) "list_reverseiterator")(j:St 0 s)(k:∀b∈fp,b<s.heap.objs.size)(l:I∈fp)
  (m:∀s' a c,Moved (s.heap.objs.size::wr) G {s with heap:=s.heap.push {cls:=.type "list",data:=.seq #[]}} s' ->
   s'.heap.get? s.heap.objs.size=a5 {cls:=.type "list",dict:=b6,data:=.seq a c,slots:=#[]}->ě P a n->Q (.ref s.heap.objs.size) s') (p:n<=cL) :
  d4 (gs prog w) A (Nd (.type "list") [.ref I]) Q E s:=by
 have q:s.heap.objs.size∉fp:=λd=>uv _ (k _ d);refine ł (Q₁:=λobj f=>obj=.ref s.heap.objs.size/\f={s with heap:=s.heap.push {cls:=.type "list",data:=.seq #[]}}) PySem.F.called_list (PySem.F.typeCall_list_1 _) PySem.F.entry_list_init
  (code_list_new _ ⟨rfl,rfl⟩) λobj f r=>?_
 obtain⟨rfl,rfl⟩:=r;have g:(s.heap.push {cls:=.type "list",data:=.seq #[]}).get? s.heap.objs.size=a5 {cls:=.type "list",data:=.seq #[]}:=eH _ rfl;refine⟨⟨_,g,rfl⟩,PySem.F.args_list_init_2 _ _,lU W h _ (W.frame 0 s _ s.toks j (hU _) λb _ o e=>cK _ e) q l g (λs' a c d t u=>?_) p⟩;exact⟨rfl,m s' a c d t u⟩
open AutoSeq1 (wpAny_loadPart') in
end
section
theorem ie(a:s.heap.IsTupleIter it l i)
  (hl:s.heap.IsTuple l b) (d:b[i]?=a5 x)
  (e:∀h',h'.IsTupleIter it l (i+1)->o3 it s.heap h'->Q x {s with heap:=h' }) :
  d4 (gs prog w) A (KW (.ref it)) Q E s:=by
 obtain⟨o,ho,f,c⟩:=id a;obtain⟨j,g,_,k,h⟩:=hl;unfold KW;refine bD (Qc (name:=RP "__next__") a.typeIs PySem.F.slot_tuple_iterator_next
  (B' PySem.F.slot_tuple_iterator_next a.typeIs PySem.F.entry_tuple_iterator_next ?_ (PySem.F.args_tuple_iterator_next_1 _)))
 show d4 _ _ (Ł (.ref it) 0 >>= _) _ _ s;refine bD (U1 ho c (x:=.ref l) rfl ?_);show d4 _ _ (if (hY l==mh)=b8 then _ else _) _ _ s;rw[ő (show ¬((hY l==mh)=b8) from kr)];show d4 _ _ (Ł (.ref it) 1 >>= _) _ _ s;refine bD (U1 ho c (x:=.int i 0) rfl ?_);show d4 _ _ (Xr (.ref l) >>= _) _ _ s;refine bD (Sx g h ?_);simp only[N_,d];refine bD (NA ho c (by simp) (df ⟨x,rfl,df (e _ ?_ (x3 ..))⟩));exact⟨_,uk _ ho (TQ (NG c _)),(Vr ..).trans f,by
  rw[NG c];simp[u5]⟩
theorem eG(f:A.handled=b6)
  (b:s.heap.IsTupleIter it l i) (hl:s.heap.IsTuple l c) (g:c[i]?=b6)
  (h:∀h' e,ī it s.heap h'->(∃o,h'.get? e=a5 o/\o.cls=.type "StopIteration")->E (.ref e) {s with heap:=h' }) :
  d4 (gs prog w) A (KW (.ref it)) Q E s:=by
 obtain⟨o,ho,n,d⟩:=id b;obtain⟨p,j,_,q,k⟩:=hl;unfold KW;refine bD (Qc (name:=RP "__next__") b.typeIs PySem.F.slot_tuple_iterator_next
  (B' PySem.F.slot_tuple_iterator_next b.typeIs PySem.F.entry_tuple_iterator_next ?_ (PySem.F.args_tuple_iterator_next_1 _)))
 show d4 _ _ (Ł (.ref it) 0 >>= _) _ _ s;refine bD (U1 ho d (x:=.ref l) rfl ?_);show d4 _ _ (if (hY l==mh)=b8 then _ else _) _ _ s;rw[ő (show ¬((hY l==mh)=b8) from kr)];show d4 _ _ (Ł (.ref it) 1 >>= _) _ _ s;refine bD (U1 ho d (x:=.int i 0) rfl ?_);show d4 _ _ (Xr (.ref l) >>= _) _ _ s;refine bD (Sx j k ?_);simp only[N_,g];refine bD (N3 (bD (NA ho d (by simp) ?_)));show d4 _ _ (Ã (.type "StopIteration") [] >>= _) _ _ _;refine bD ?_;simp only[Ã,Ŀ];refine bD (x2 ?_ (by size_fits));refine bD (m:=U6 _ _) (XO (a:=mh) (by first|rfl|(simp only[U6];rfl)) ?_);refine x2 ?_ (by size_fits);simp only[Y'];refine bD (wpAny_handled ?_)
 first|rw[show A.in1.handled=b6 from f]|rw[f]
 refine bD (df (wpAny_throw ?_));exact h _ _ (((x3 ..).extBut.push _).push _) ⟨_,eH _ rfl,rfl⟩
end
theorem qq(c:A.handled=b6)(it l:fR)(d:l≠it)(a:Array d3):
  Draws prog w A it [it,l] a.size (λi v=>a[i]?=a5 v) (λi h=>h.IsTupleIter it l i/\h.IsTuple l a) where
 live:=λ_ _ st=>let ⟨o,ho,_⟩:=st.1;⟨o,ho⟩
 frame:=λ_ _ _ st hk=>⟨st.1.at λo e=>hk it (by simp) o e,let ⟨o,ho,r⟩:=st.2;⟨o,hk l (by simp) o ho,r⟩⟩
 item:=λi s Q E hi st f=>by
  refine ie st.1 st.2 (x:=a[i]) (by simp[hi]) λh' g b=>?_;exact f _ h' s.toks (by simp[hi]) ⟨g,let ⟨o,ho,r⟩:=st.2;⟨o,(b.2 l d).trans ho,r⟩⟩ b
 done:=λs Q E st j=>eG c st.1 st.2 (by simp) j
open AutoSeq1 (wpAny_loadPart') in
theorem kJ(l:fR)(a:Array d3)(n:Nat)(e:Option fR)(f:Array (Option d3)):
  Meets (Mq.«enumerate.__new__» ⟨[.type "enumerate",.ref l],[]⟩) (λ_ R s=>s.heap.get? l=a5 {cls:=.type "tuple",dict:=e,data:=.seq a n,slots:=f} /\
   R (.ok (.ret (.ref (s.heap.push {cls:=.type "tuple_iterator",data:=.fields #[.ref l,.int 0 0]}).objs.size)))
    {s with heap:=(s.heap.push {cls:=.type "tuple_iterator",data:=.fields #[.ref l,.int 0 0]}).push {cls:=.type "enumerate",data:=.fields #[.none,.bool cc,.ref s.heap.objs.size,u5 0,.none,.none]}}) :=
 .of_wp λprog w A R s h=>by
  obtain⟨i,g,d,j,os⟩:=s;obtain⟨hl,h⟩:=h;have k:=sub_enumerate;have b:Heap.IsTuple (Shared.heap ⟨i,g,d,j,os⟩) l a:=⟨_,hl,rfl,n,rfl⟩
  wp_walk using UI hl
  refine wpAny_stack_any λst=>df ?_;split
  ·rename_i c _ _ _ _ _;cases(c==ri "enumerate")
   ·wp_walk using UI hl,PM b
    exact⟨_,rfl,h⟩
   ·wp_walk using UI hl,PM b
    exact⟨_,rfl,h⟩
  ·wp_walk using UI hl,PM b
   exact⟨_,rfl,h⟩
section
theorem fF(g:s.heap.IsTuple l a)
  (h:∀h',Ç h' (s.heap.objs.size+1) s.heap.objs.size 0 .none->h'.IsTupleIter s.heap.objs.size l 0->h'.objs.size=s.heap.objs.size+2 ->
   (∀b o,s.heap.get? b=a5 o->h'.get? b=a5 o)->Q (.ref (s.heap.objs.size+1)) {s with heap:=h' }) :
  d4 (gs prog w) A (Nd (.type "enumerate") [.ref l]) Q E s:=by
 obtain⟨⟨c,i,j,k⟩,hl,d,n,e⟩:=g
 replace d:c=.type "tuple":=d
 replace e:j=.seq a n:=e
 subst d e;refine callType_new PySem.F.called_enumerate (by decide) (PySem.F.typeCall_enumerate_1 _) (PySem.F.newCall_enumerate_1 _) (λobj=>PySem.F.args_object_init_2 obj _) PySem.F.entry_enumerate_new
  (kJ l a n i k) ⟨hl,?_⟩
 have hz:(s.heap.push {cls:=.type "tuple_iterator",data:=.fields #[.ref l,.int 0 0]}).objs.size=s.heap.objs.size+1:=W9 ..;show _/\_;rw[hz];have f:Ç ((s.heap.push {cls:=.type "tuple_iterator",data:=.fields #[.ref l,.int 0 0]}).push
   {cls:=.type "enumerate",data:=.fields #[.none,.bool cc,.ref s.heap.objs.size,u5 0,.none,.none]}) (s.heap.objs.size+1) s.heap.objs.size 0 .none:=by
  have:=eH (s.heap.push {cls:=.type "tuple_iterator",data:=.fields #[.ref l,.int 0 0]})
   (o:={cls:=.type "enumerate",data:=.fields #[.none,.bool cc,.ref s.heap.objs.size,u5 0,.none,.none]}) rfl
  rw[hz]at this;exact this
 refine⟨⟨_,f,rfl⟩,h _ f ⟨_,cK _ (eH _ rfl),rfl,rfl⟩ (by rw[W9,hz]) λb o x=>cK _ (cK _ x)⟩
end
end L2
namespace L2
open PySem PySem.Spec PyProof.Rows
section
theorem Inv.oF{ch:List fR}(I:Inv X pins σ H s)(d:∀b∈ch,gY X pins H b)(k:∀b o,b∉ch->s.heap.get? b=a5 o->h'.get? b=a5 o):Inv X pins σ H {s with heap:=h',toks:=t' }:=by
 have f:∀b u,H b=a5 u->b∉ch:=λb u e z=>by rw[(d b z).1]at e;cases e
 refine I.step (g':=s.gens) (d':=s.drawn) (ch:=ch) (λb g=>?_) (λb o _ _ a e _=>k b o a e) (λb o _ _ a e _=>⟨o.slots,k b o a e⟩) (λ_ _ _ _ n=>n)
  (λb o a e=>⟨o,k b o a e⟩) (λ_ _ e=>e) (λ_ _ _ e=>e) (λb ps e=>⟨#[],by rw[e];simp⟩) (λm h=>?_) (λb u e=>?_) I.bare
 ·obtain⟨t,i,w,j,l,p⟩:=d b g;exact⟨j,i,l,p⟩
 ·obtain⟨o,es,ep,ho,r⟩:=h;exact⟨o,es,ep,k _ o (λz=>(d _ z).2.1 rfl) ho,r⟩
 ·refine(I.Ja b u e).fA (λc v a q=>k c v ?_ q) (λ_ q=>q) λ_ _ q=>q;rcases a with z|z
  ·rw[z];exact f b u e
  ·exact f c _ z
theorem Inv.kK{ch:List fR}(I:Inv X pins σ H s)(g:∀b∈ch,gY X pins H b)(k:∀b o,b∉ch->s.heap.get? b=a5 o->h'.get? b=a5 o)(h:s.heap.objs.size<=T)(new:bA X.prog X.w (upd H T o) h' T o):
  Inv X pins σ (upd H T o) {s with heap:=h',toks:=t' }:=by
 have i:Inv X pins σ H {s with heap:=h',toks:=t' }:=I.oF g k;have j:H T=b6:=I.Ja.fresh h;have l:∀b o,s.heap.get? b=a5 o->b≠T:=λb o e z=>by rw[z]at e;exact absurd (i2 (ez e) h) (uv _)
 have a:∀b u,H b=a5 u->b≠T:=λb u e z=>by rw[z,j]at e;cases e
 refine I.step (g':=s.gens) (d':=s.drawn) (ch:=ch) (λb f=>?_) (λb o _ _ d e _=>k b o d e) (λb o _ _ d e _=>⟨o.slots,k b o d e⟩) (λb o _ e n=>by rw[au (l b o e)];exact n)
  (λb o d e=>⟨o,k b o d e⟩) (λb _ e=>by rw[au (a b _ e)];exact e) (λb _ _ e=>by rw[au (a b _ e)];exact e) (λb ps e=>⟨#[],by rw[au (a b _ e),e];simp⟩) (λm p=>?_) (λb u e=>?_) I.bare
 ·obtain⟨B,t,C,x,y,A⟩:=g b f;exact⟨x,t,y,A⟩
 ·obtain⟨o,es,ep,ho,r⟩:=p;exact⟨o,es,ep,k _ o (λz=>(g _ z).2.1 rfl) ho,r⟩
 ·by_cases f:b=T
  ·subst f;rw[ay]at e;cases e;exact new
  ·rw[au f]at e;exact(i.Ja b u e).fA (λc v _ q=>q) (λc q=>by rw[au (a c _ q)];exact q) λc xs q=>by rw[au (a c _ q)];exact q
end
noncomputable def O6(a:Hp->List V->Prop):It :=
 ⟨λi H=>∃xs x,a H xs/\xs[i]?=a5 x,λi H x H'=>∃p,H p=b6/\x=.ref p/\∀xs v,a H xs->xs[i]?=a5 v->H'=upd H p (.tup [.int i,v]),λi H=>∃xs,a H xs/\xs.length<=i⟩
theorem mR{K:PySem.W.Frag}(m:Hp->List V->Prop)(a e it:fR)(L:e≠it)(At:Nat->Jy->Prop)(n:Jy->Array d3->Prop)
  (Ln:∀i h h',At i h->(∀o,h.get? it=a5 o->h'.get? it=a5 o)->At i h') (Vx:∀i h,At i h->∃o,h.get? it=a5 o/\∀v,o.data≠.cell v)
  (Rn:∀(X:Cx) (pins:List (fR×Obj)) (s:fS) (σ:St) (H:Hp) (xs:List V),X.K=K->Inv X pins σ H s->m H xs->∃its:List d3,Vals xs its/\n s.heap its.toArray)
  (Tq:∀(X:Cx) (pins:List (fR×Obj)) (s:fS) (σ:St) (H:Hp) (xs r:List V),X.K=K->Inv X pins σ H s->m H xs->m H r->xs=r)
  (Qf:∀h c i d,n h c->Ç h e it i d->e≠a)
  (hD:∀(A:N8) (c:Array d3),A.handled=b6->Draws P w A it [it,a] c.size (λi v=>c[i]?=a5 v) (λi h=>At i h/\n h c))
  (M8:∀(A:N8) (s:fS) (i:Nat) (c:Array d3) (Q:d3->fS->Prop) (E:d3->fS->Prop),A.handled=b6->At i s.heap->n s.heap c->c[i]?=b6 ->
   (∀h' x,ī it s.heap h'->(∃o,h'.get? x=a5 o/\o.cls=.type "StopIteration")->E (.ref x) {s with heap:=h' })->d4 (gs P w) A (KW (.ref it)) Q E s) :
  Turn P w K (.Tuple es kx ps) (O6 m) [e,it] e (λi h=>(∃d,Ç h e it i d)/\At i h) where
 mem:=by simp
 obj:=λi h st b f=>by
  obtain⟨⟨d,g⟩,hl⟩:=st;rcases et.mp f with z|z
  ·rw[z];exact⟨_,g,λv z=>by
    have z':TR _=Yc v:=z;cases z'⟩
  ·rw[i7.mp z];exact Vx i h hl
 keep:=λi h h' ⟨⟨d,g⟩,hl⟩ k=>⟨⟨d,k e (by simp) _ g⟩,Ln i h h' hl λo q=>k it (by simp) o q⟩
 item:=by
  intro X N O t Y i pins s σ H E I B ⟨⟨d,g⟩,hl⟩ hg;subst N O;obtain⟨xs,x,C,hx⟩:=hg;obtain⟨its,rv,p⟩:=Rn X pins s σ H xs t I C;obtain⟨u,hu,ru⟩:=rv.get hx;have Jk:i<its.toArray.size:=by simpa using(dV.mp hu).1
  have D:=hD X.A.in1 its.toArray (by simpa using I.ok.hd Y);have Tr:=Qf _ _ _ _ p g;refine wpAny_pyNext_enum_itemD D g ⟨hl,p⟩ Jk L (by simp[L,Tr]) λy h1 j G ho st1 J hsz hk=>?_;have ey:y=u:=by
   have:its.toArray[i]?=a5 u:=by simpa using hu
   rw[this]at G;cases G;rfl
  subst ey;refine⟨_,rfl,wpAny_letOwnedTupleGo_enum (s:={s with heap:=h1,toks:=j+1}) ho λl Ro Kh=>?_⟩;have Vy:e<s.heap.objs.size:=ez g;have Ts:l.get? s.heap.objs.size=a5 {cls:=.type "tuple",data:=.seq #[.int i j,y]}:=(Kh.2 _ (H0 Vy)).trans J;have k2:∀b o,b∉[e,it]->s.heap.get? b=a5 o->l.get? b=a5 o:=λb o f q=>by
   simp only[et,SH,or_false,not_or]at f;exact(Kh.2 b f.1).trans (hk b o f.1 f.2 q)
  have I2:Inv X pins σ (upd H s.heap.objs.size (.tup [.int i,x])) {s with heap:=l,toks:=j+1}:=I.kK B k2 (hU _)
   (show bA X.prog X.w _ l _ (.tup [.int i,x]) from⟨by show 2<=cL;decide,[.int i j,y],.cons ⟨j,rfl⟩ (.cons ru .nil),⟨_,Ts,rfl,_,rfl⟩⟩)
  refine⟨.ref s.heap.objs.size,_,I2,rfl,⟨_,I.Ja.fresh (hU _),rfl,λr v G hv=>?_⟩,⟨⟨_,Ro⟩,Ln (i+1) h1 l st1.1 λo q=>(Kh.2 it (ro L)).trans q⟩,λb f=>?_⟩
  ·have:=Tq X pins s σ H r xs t I G C;subst this;rw[hx]at hv;cases hv;rfl
  ·have J9:b≠s.heap.objs.size:=by
    rcases et.mp f with z|z
    ·rw[z];exact hQ Vy
    ·rw[i7.mp z];obtain⟨o,q,_⟩:=Vx i _ hl;exact hQ (ez q)
   rw[au J9];exact(B b f).1
 done:=by
  intro X N O t Y i pins s σ H E I B ⟨⟨d,g⟩,hl⟩ hg;subst N O;obtain⟨xs,C,hx⟩:=hg;obtain⟨its,rv,p⟩:=Rn X pins s σ H xs t I C;have ab:=rv.length;have J:s.TypeIs (.ref e) "enumerate":=⟨_,g,rfl⟩
  unfold Sy;refine bD (wpAny_attempt (Qc (name:=RP "__next__") J PySem.F.slot_enumerate_next
   (B' PySem.F.slot_enumerate_next J PySem.F.entry_enumerate_next ?_ (PySem.F.args_enumerate_next_1 _))))
  show d4 _ _ (Ł (.ref e) 2 >>= _) _ _ _;refine bD (U1 g rfl (x:=.ref it) rfl ?_);refine bD (M8 _ _ i its.toArray _ _ (by simpa using I.ok.hd Y) hl p (by simp;lia) λh' x SS ND=>?_);obtain⟨o,ho,Of⟩:=ND;refine bD (OO (T:="StopIteration") (b:=b8) ⟨o,ho,Of⟩ ŀ ?_);refine df ⟨rfl,I.oF (t':=s.toks) (ch:=[it]) (λb f=>B b (l' _ f)) λb o f q=>SS b o (λz=>f (by simp[z])) q⟩
 self:=λA i s Q E ⟨⟨d,g⟩,hl⟩ h=>V8 g h
section
variable{X:Cx}{es:List mx}{kx:Nat}{ps p pos:Pos}
theorem wx:u7 "enumerate"=a5 (.type "enumerate"):=by decide +kernel
def IG(K:PySem.W.Frag)(c:TA):TI:=λσ H R=>c σ H λvs b=>∃a,vs=[.ref a]/\((∃xs,JA K b a xs)/\R (O6 λH xs=>JA K H a xs) b\/(∃xs,JH K b a xs)/\R (O6 λH xs=>JH K H a xs) b)
theorem Et(a e it:fR)(n:e≠it)(q:a≠it):Turn X.prog X.w X.K (.Tuple es kx ps) (O6 λH xs=>JA X.K H a xs) [e,it] e (λi h=>(∃c,Ç h e it i c)/\h.IsListIter it a i):=by
 refine mR _ a e it n (λi h=>h.IsListIter it a i) (λh b=>h.IsList a b) (λi h h' x k=>x.at k) (λi h ⟨o,ho,j,r⟩=>⟨o,ho,λv z=>by rw[r]at z;cases z⟩)
  (λY pins s σ H xs f I l=>?_) (λY pins s σ H xs C f I d m=>?_) (λh b i c ⟨o,ho,j,_⟩ t z=>?_) (λA b g=>Draws.list g it a q b) (λA s i b Q E g hl u d y=>wpAny_nextOf_list_end g hl u d y)
 ·rw[<-f]at l;obtain⟨its,rv,p,hz⟩:=I.list l;exact⟨its,rv,p.isList⟩
 ·rw[<-f]at d m;exact I.pO d m
 ·rw[<-z,t]at ho;cases ho;have B:ri "enumerate"=ri "list":=j;exact absurd B (by decide)
theorem Eu(a e it:fR)(n:e≠it)(q:a≠it):Turn X.prog X.w X.K (.Tuple es kx ps) (O6 λH xs=>JH X.K H a xs) [e,it] e (λi h=>(∃c,Ç h e it i c)/\h.IsTupleIter it a i):=by
 refine mR _ a e it n (λi h=>h.IsTupleIter it a i) (λh b=>h.IsTuple a b) (λi h h' x k=>x.at k) (λi h ⟨o,ho,j,r⟩=>⟨o,ho,λv z=>by rw[r]at z;cases z⟩)
  (λY pins s σ H xs f I l=>?_) (λY pins s σ H xs C f I d m=>?_) (λh b i c ⟨o,ho,j,_⟩ t z=>?_) (λA b g=>qq g it a q b) (λA s i b Q E g hl u d y=>eG g hl u d y)
 ·rw[<-f]at l;obtain⟨its,rv,p,hz⟩:=I.tuple l;exact⟨its,rv,p⟩
 ·rw[<-f]at d m;exact I.mj d m
 ·rw[<-z,t]at ho;cases ho;have B:ri "enumerate"=ri "tuple":=j;exact absurd B (by decide)
theorem Bs(m:Gl X "enumerate")(n:X.mg "enumerate"=b6)(t:PA X [a] v)(hs:i3 [a] X.env=[(cc,wk a X.env)]):PI X (.Tuple es kx ps) (.Call (.Name "enumerate" p) [a] [] pos) (IG X.K v):=by
 intro pins s σ H R I h;refine Call_ (c9 I m n wx (M7 (Jf (t pos pins s σ H _ I h) λus s1 ⟨vs,i,c,w,x⟩=>?_) hs rfl));obtain⟨a',e,q⟩:=x;subst e;obtain⟨u,rfl,r⟩:=vals1 w;cases r;have d:s1.heap.objs.size+1≠s1.heap.objs.size:=Nat.succ_ne_self _;have f:∀(h':Jy),(∀b∈[s1.heap.objs.size+1,s1.heap.objs.size],gY X pins i b):=λh' b y=>by
  have l:s1.heap.objs.size<=b:=by
   rcases et.mp y with z|z
   ·rw[z];exact LB _
   ·rw[i7.mp z];exact hU _
  exact c.xP l (c.Ja.fresh l)
 rcases q with⟨⟨xs,j⟩,q⟩|⟨⟨xs,j⟩,q⟩
 ·obtain⟨its,rv,p,hz⟩:=c.list j;have k:a'<s1.heap.objs.size:=let ⟨o,ho,_⟩:=p.isList;ez ho;refine call_enumerate_list p.isList λh' g hl hsz hk=>?_;refine V8 g ⟨_,[s1.heap.objs.size+1,s1.heap.objs.size],_,_,i,rfl,c.kept (t':=s1.toks) hk,Et a' _ _ d (hQ k),⟨⟨_,g⟩,hl⟩,f h',q⟩
 ·obtain⟨its,rv,p,hz⟩:=c.tuple j;have k:a'<s1.heap.objs.size:=let ⟨o,ho,_⟩:=p;ez ho;refine fF p λh' g hl hsz hk=>?_;refine V8 g ⟨_,[s1.heap.objs.size+1,s1.heap.objs.size],_,_,i,rfl,c.kept (t':=s1.toks) hk,Eu a' _ _ d (hQ k),⟨⟨_,g⟩,hl⟩,f h',q⟩
end
theorem Bt{its:List d3}(h:ě (λi v=>its.toArray[its.toArray.size - 1 - i]?=a5 v) acc its.toArray.size):acc.toList=its.reverse:=by
 apply Õ;intro i;have hs:acc.size=its.length:=by have:=h.1;simpa using this
 by_cases hi:i<its.length
 ·have a:i<acc.size:=by lia
  have:=h.2 i (acc[i]'a) (by simp[a]);rw[qp,OB a,List.getElem?_reverse hi];simpa using this.symm
 ·rw[Qk (by rw[hW];lia),Qk (by rw[Q2];lia)]
section
theorem yu(f:X.calm=b8)(I:Inv X pins σ H s)(g:JA X.K H a xs)
  (h:∀its,Vals xs its->xs.length<=cL->∀(R:fR) (c:Jy),R=s.heap.objs.size->c.objs.size=s.heap.objs.size+1->(∀b o,s.heap.get? b=a5 o->c.get? b=a5 o)->(∀B:N8,B.handled=X.A.handled ->
   Walks X.prog X.w B R [R,a] [R] its.toArray.size (λi v=>its.toArray[its.toArray.size - 1 - i]?=a5 v) (λi h=>i<=its.toArray.size/\h.IsRevIter R a ((its.toArray.size:Int) - 1 - (i:Int))/\h.IsList a its.toArray)) ->
   c.IsRevIter R a ((its.toArray.size:Int) - 1 - ((0:Nat):Int))->c.IsList a its.toArray->a<s.heap.objs.size->Q (.ref R) {s with heap:=c}):d4 (gs X.prog X.w) X.A (Nd (.type "reversed") [.ref a]) Q X.xe s:=by
 obtain⟨its,rv,p,hz⟩:=I.list g;have d:a<s.heap.objs.size:=let ⟨o,ho,_⟩:=p.isList;ez ho;refine call_reversed_list p.isList (h its rv hz _ _ rfl (by rw[KO]) (λb o e=>cK _ e) (λB j=>Walks.listRev (by rw[j];exact I.ok.hd f) _ a (hQ d) its.toArray) ?_ (p.isList.push _) d);refine⟨_,eH _ rfl,rfl,?_⟩;show TR _=TR _;congr 3
 simp
theorem yw(m:X.calm=b8)(I:Inv X pins σ H s)(n:JA X.K H a xs)(q:∀l,H l=b6->Q (.ref l) (upd H l (.lst xs.reverse))):
  d4 (gs X.prog X.w) X.A (Nd (.type "reversed") [.ref a]) (λv s1=>d4 (gs X.prog X.w) X.A (Nd (.type "list") [v]) (EP X pins σ Q) X.xe s1) X.xe s:=by
 refine yu m I n λits rv hz R c g hsz hk p r hl t=>?_;have O:its.length=xs.length:=rv.length.symm;refine qo (s:={s with heap:=c}) (p X.A.in1.in1 rfl).toS (λi s st=>st.2.1.typeIs) ⟨ki _,r,hl⟩ (λb d=>?_) (by simp) (λs' acc h f u x=>?_) (by simp;lia)
 ·show b<c.objs.size;rw[hsz];rcases et.mp d with z|z
  ·rw[z,g];exact OH _
  ·rw[i7.mp z];exact P9 t
 ·obtain⟨j,y,B,C,o2⟩:=s';have D:y=s.gens:=f.gens;have G:B=s.drawn:=f.drawn;have J:o2=s.os:=f.os;subst D G J;have k2:∀b o,s.heap.get? b=a5 o->j.get? b=a5 o:=λb o e=>f.heap b o (λz=>by
   have d:=ez e;rcases et.mp z with z|z
   ·rw[z]at d;have k:c.objs.size<s.heap.objs.size:=d;rw[hsz]at k;exact absurd k (ð (OH _))
   ·rw[i7.mp z,g]at e;exact absurd (ez e) (uv _)) (cK _ (hk b o e))
  have L:=Bt x;refine⟨.ref c.objs.size,_,I.laid (t':=C) (o:=.lst xs.reverse) k2 (by rw[hsz];exact LB _) ⟨by rw[Q2];exact hz,its.reverse,h,rv.reverse,?_⟩,rfl,q _ (I.Ja.fresh (by rw[hsz];exact LB _))⟩;have N:j.get? c.objs.size=a5 {cls:=.type "list",dict:=b6,data:=.seq acc h,slots:=#[]}:=u;rw[N,<-L,Zv]
end
theorem wy(l:fR)(a:Array d3)(n:Nat)(b:fR)(c:Array d3)(e:Nat)(dd:Option fR)(f:Array (Option d3))(o:¬(!a.isEmpty&&LN (a.size+c.size))=b8)(i:a.size<=cL)(j:a.size+c.size<=cL+1):
  Meets (Mq.«list.extend» ⟨[.ref l,.ref b],[]⟩) (λ_ R s=>s.heap.get? l=a5 {cls:=.type "list",dict:=b6,data:=.seq a n,slots:=#[]}/\s.heap.get? b=a5 {cls:=.type "list",dict:=dd,data:=.seq c e,slots:=f}/\R (.ok (.ret mh)) {s with heap:=s.heap.update l (oT λx=>x++c),toks:=s.toks}) :=
 .of_wp λprog w A R s h=>by
  obtain⟨p,g,d,q,os⟩:=s;obtain⟨hl,k,h⟩:=h;have r:=Zx;have t:=VM;have u:=W_;have v:=WK;have y:=WL;
  have m:(a++c).size<=cL+1:=by rw[U'];exact j
  wp_walk using(R4 hl rfl (hz:=i) (_hz':=m)),Om hl,Om k;exact⟨_,rfl,h⟩
theorem wz(l:fR)(a:Array d3)(n:Nat)(b:fR)(c:Array d3)(e:Nat)(dd:Option fR)(f:Array (Option d3))(o:¬(!a.isEmpty&&LN (a.size+c.size))=b8)(i:a.size<=cL)(j:a.size+c.size<=cL+1):
  Meets (Mq.«list.extend» ⟨[.ref l,.ref b],[]⟩) (λ_ R s=>s.heap.get? l=a5 {cls:=.type "list",dict:=b6,data:=.seq a n,slots:=#[]}/\s.heap.get? b=a5 {cls:=.type "tuple",dict:=dd,data:=.seq c e,slots:=f}/\R (.ok (.ret mh)) {s with heap:=s.heap.update l (oT λx=>x++c),toks:=s.toks}) :=
 .of_wp λprog w A R s h=>by
  obtain⟨p,g,d,q,os⟩:=s;obtain⟨hl,k,h⟩:=h;have r:=Zx;have t:=VM;have u:=W_;have v:=WK;have y:=WL;
  have m:(a++c).size<=cL+1:=by rw[U'];exact j
  wp_walk using(R4 hl rfl (hz:=i) (_hz':=m)),Om hl,Om k;exact⟨_,rfl,h⟩
section
theorem rY:Q7 X "list.extend" (λx vs H Q=>∃l b xs zs,x=.ref l/\vs=[.ref b]/\H l=a5 (.lst xs)/\(JA X.K H b zs\/JH X.K H b zs)/\xs.length+zs.length<=cL/\Q .Jc (upd H l (.lst (xs++zs)))):=by
 intro pins s σ H x vs v us Q I t rv h;obtain⟨l,b,xs,zs,rfl,rfl,o,hB,hz,q⟩:=h;cases t;obtain⟨u,rfl,w⟩:=rv.one;cases w;obtain⟨z,its,n,r,hl,e⟩:=I.Be o;have d:∀a:List d3,Vals zs a->EP X pins σ Q mh {s with heap:=s.heap.update l (oT λx=>x++a.toArray),toks:=s.toks}:=λa c=>by
  refine⟨.Jc,_,I.lP (its':=its++a) o e (by simp) (r.append c) ?_,rfl,q⟩;rw[hV];lia
 have j:∀a:List d3,zs.length=a.length->its.toArray.size+a.toArray.size<=cL:=λa h=>by rw[hH,hH];lia
 have p:∀a:List d3,zs.length=a.length->¬(!its.toArray.isEmpty&&LN (its.toArray.size+a.toArray.size))=b8:=λa h=>by
  rw[xV (j a h),PL];exact kr
 rcases hB with hB|hB
 ·obtain⟨a,c,pl,_⟩:=I.list hB;obtain⟨⟨cls,dd,data,k⟩,ho,f,m,g⟩:=pl.isList;simp only at f g;subst f g;have i:=c.length;have y:=j a i;exact Um ê ⟨_,e,rfl⟩ Ú (É _ _) (wy l its.toArray n b a.toArray m dd k (p a i) ⋯ ⋯) ⟨e,ho,d a c⟩
 ·obtain⟨a,c,pl,_⟩:=I.tuple hB;obtain⟨⟨cls,dd,data,k⟩,ho,f,m,g⟩:=pl;simp only at f g;subst f g;have i:=c.length;have y:=j a i;exact Um ê ⟨_,e,rfl⟩ Ú (É _ _) (wz l its.toArray n b a.toArray m dd k (p a i) ⋯ ⋯) ⟨e,ho,d a c⟩
end
end L2
namespace L2
open PySem PySem.W PyProof.Rows
section
theorem wA{vs:List (Key×d3)}(hk:vs.map (·.1)=ks.map ko)(hl:acc.length=vs.length)(h:∀(j:Nat) (v:d3),acc[j]?=a5 v->∃k x,vs[j]?=a5 (k,x)/\(aG P w).is k v=b8):Qv acc ks:=by
 induction acc generalizing ks vs with
 |nil =>
  cases vs with
  |nil=>cases ks with
   |nil=>exact .nil
   |cons _ _=>cases hk
  |cons _ _=>cases hl
 |cons v acc b =>
  cases vs with
  |nil=>cases hl
  |cons p vs =>
   cases ks with
   |nil=>cases hk
   |cons k ks =>
    simp only[d6,Ql]at hk;obtain⟨k',x,a,c⟩:=h 0 v rfl;simp only[List.getElem?_cons_zero,QO]at a;subst a;have d:k'=ko k:=hk.1;subst d;rcases bg (show jk (ko k) v=b8 from c) with⟨i,t,e,rfl⟩|⟨y,t,e,rfl⟩
    ·cases e
    ·cases e;exact .cons _ _ (b hk.2 (by simpa using hl) λj u f=>h (j+1) u (by simpa using f))
theorem iT:X.calm=b8->fh X (.builtin "sorted") (λxs H Q=>∃(d:fR) (kvs:List (Key×V)) (ks:List Str),xs=[.ref d]/\H d=a5 (.dK kvs)/\kvs.map (·.1)=ks.map ko/\ks.length<64/\∀q,H q=b6->Q (.ref q) (upd H q (.lst ((aR ks).map V.str)))):=by
 intro k pins s σ H xs us Q I rs h;obtain⟨d,kvs,ks,rfl,e,hk,C,q⟩:=h;obtain⟨u,rfl,r⟩:=vals1 rs;cases r;obtain⟨hz,lo,vs,kv,dd⟩:=xZ I.Ja e;have a:vs.length=kvs.length:=(Paired.length kv).symm;have l:kvs.length=ks.length:=by rw[<-c4 (f:=(·.1)),hk,c4]
 have m:vs.map (·.1)=ks.map ko:=by
  rw[<-hk];clear dd a hk l e q hz;induction kv with
  |nil=>rfl
  |cons r _ n=>rw[d6,d6,n,r.1]
 obtain⟨o,es,ep,p⟩:=id dd;have t:(64:Nat)<=cL:=by decide
 refine eU (kdu_collect (A:=X.A.in1) (kdl_dict (knd:=aG X.prog X.w) (kvs:=vs) (ep:=ep) lo) (I.ok.hd k) ⟨o,es,p⟩ ⋯ λh' b acc x c=>⟨ks,wA m (by rw[hW];exact c.1) (λj v y=>c.2 j v (by rw[<-qp];exact y)),by rw[hW,c.1];lia,λD z B k2 g s2=>?_⟩);have i:Inv X pins σ H {s with heap:=h',toks:=b}:=I.kept (t':=b) x;exact⟨.ref h'.objs.size,_,i.laid (t':=b) (o:=.lst ((aR ks).map V.str)) k2 (hU _) ⟨by rw[c4,bQ];lia,z,B,dz s2,g⟩,rfl,q _ (i.Ja.fresh (hU _))⟩
end
section
theorem kL:∀{ns:List Int}{its:List d3},Vals (ns.map V.int) its->∃ps:List (Int×Tok),its=ps.map (λp=>Vq p.1 p.2)/\ps.map (·.1)=ns
 |[],_,h=>by cases h;exact⟨[],rfl,rfl⟩
 |n::ns,_,h=>by
  cases h with
  |cons r t =>
   obtain⟨a,rfl⟩:=r;obtain⟨ps,rfl,rfl⟩:=kL t;exact⟨(n,a)::ps,rfl,rfl⟩
theorem yx:X.calm=b8->fh X (.builtin "sum") (λxs H Q=>∃(p:fR) (ns:List Int),xs=[.ref p]/\JA X.K H p (ns.map V.int)/\Q (.int ns.sum) H):=by
 intro a pins s σ H xs us Q I rs h;obtain⟨p,ns,rfl,b,q⟩:=h;obtain⟨u,rfl,r⟩:=vals1 rs;cases r;obtain⟨its,rv,pl,hz⟩:=I.list b;obtain⟨ps,rfl,rfl⟩:=kL rv;have e:(ps.map λp=>Vq p.1 p.2).toArray=intItems ps.toArray:=by simp[intItems]
 refine sum_intListG (xs:=ps.toArray) (I.ok.hd a) (by rw[<-e];exact pl.isList) λh' c t' hk=>?_;rw[preSum_eq,D7 (by simp)];exact⟨.int _,H,I.kept (t':=c) hk,⟨t',rfl⟩,q⟩
end
noncomputable def fu{α:Type}(lt:Nat->Nat->Bool):KasT α->α
 |.ret x=>x
 |.ask i j k=>fu lt (k (lt i j))
def Kl{α:Type}(n:Nat)(P:α->Prop):KasT α->Prop
 |.ret x=>P x
 |.ask i j k=>i<n/\j<n/\∀b,Kl n P (k b)
theorem Kl.O8{P:α->Prop}{Q:β->Prop}{f:α->KasT β}(a:∀x,P x->Kl n Q (f x)):∀{t:KasT α},Kl n P t->Kl n Q (t.bind f)
 |.ret x,h=>a x h
 |.ask i j k,h=>⟨h.1,h.2.1,λb=>Kl.O8 a (h.2.2 b)⟩
theorem Kl.got:∀{t:KasT α},Kl n P t->P (fu lt t)
 |.ret _,h=>h
 |.ask i j k,h=>Kl.got (t:=k (lt i j)) (h.2.2 _)
theorem Kl.wp(b:∀i j,i<n->j<n->∀C:Bool->fS->Prop,C (lt i j) s->a i j C s):
  ∀{t:KasT α},Kl n P t->Q (fu lt t) s->t.kasWp a Q s
 |.ret _,_,q=>q
 |.ask i j k,h,q=>b i j h.1 h.2.1 _ (Kl.wp b (t:=k (lt i j)) (h.2.2 _) q)
def Pm(n:Nat)(p:Array Nat):Prop:=p.toList.Perm (i0 n)
section
variable{n:Nat}(hn:0<n)
include hn
theorem Pm.at(h:Pm n p)(i:Nat):p.getD i 0<n:=by
 by_cases hi:i<p.size
 ·have:p.getD i 0=p[i]:=by simp[UY,hi]
  rw[this];have a:p[i]∈p.toList:=by simp
  exact tA.mp (h.mem_iff.mp a)
 ·have:p.getD i 0=0:=by simp[UY,hi]
  rw[this];exact hn
omit hn in
theorem Pm.rev(h:Pm n p)(i j:Nat):Pm n (kas_rev p i j):=(mirror_perm p i j _).toList.trans h
omit hn in
theorem Pm.XM(h:Pm n p)(i j:Nat):Pm n (bubble p i j):=(bubble_perm p i j).toList.trans h
theorem rZ(h:Pm n p):∀(f m:Nat),Kl n (λ_=>True) (kas_asc p f m)
 |0,m=>trivial
 |f+1,m=>⟨h.at hn _,h.at hn _,λb=>by
  cases b
  ·exact rZ h f (m+1)
  ·exact trivial⟩
theorem jW:∀(f:Nat) (p:Array Nat) (m q:Nat),Pm n p->Kl n (λr=>Pm n r.1) (kas_desc f p m q)
 |0,p,m,q,h=>h
 |f+1,p,m,q,h=>⟨h.at hn _,h.at hn _,λb=>by
  cases b
  ·exact⟨h.at hn _,h.at hn _,λb=>by
    cases b
    ·exact jW f p (m+1) (q+1) h
    ·exact h⟩
  ·show Kl n _ (if q>0 then _ else _);split
   ·exact jW f _ _ _ (h.rev _ _)
   ·exact jW f _ _ _ h⟩
theorem uu(h:Pm n p)(m r:Nat):Kl n (λx=>Pm n x.2) (kas_tail3 m r p):=by
 unfold kas_tail3;refine Kl.O8 (λx _=>?_) (rZ hn (h.rev _ _) _ _);exact h.rev _ _
theorem uw(h:Pm n p)(m r:Nat):Kl n (λx=>Pm n x.2) (kas_descPart m r p):=by
 unfold kas_descPart;refine Kl.O8 (λx a=>?_) (jW hn _ _ _ _ h);split
 ·exact uu hn (a.rev _ _) _ _
 ·exact uu hn a _ _
theorem yy(h:Pm n p)(r:Nat):Kl n (λx=>Pm n x.2) (kas_count r p):=by
 unfold kas_count;refine Kl.O8 (λm _=>?_) (rZ hn h _ _);split
 ·exact h
 ·split
  ·exact⟨h.at hn _,h.at hn _,λb=>by
    cases b
    ·exact uw hn (h.rev _ _) _ _
    ·exact h⟩
  ·exact uw hn h _ _
theorem kM(h:Pm n p)(k:Nat):∀(f l r:Nat),Kl n (λ_=>True) (kas_place p k f l r)
 |0,l,r=>trivial
 |f+1,l,r=>by
  unfold kas_place;split
  ·exact trivial
  ·exact⟨h.at hn _,h.at hn _,λb=>by
    cases b
    ·exact kM h k f _ _
    ·exact kM h k f _ _⟩
theorem yz:∀(f:Nat) (p:Array Nat) (k:Nat),Pm n p->Kl n (Pm n) (kas_bin f p k)
 |0,p,k,h=>h
 |f+1,p,k,h=>Kl.O8 (λl _=>yz f _ _ (h.XM _ _)) (kM hn h _ _ _ _)
theorem uA:Kl n (Pm n) (L6 n):=by
 unfold L6;refine Kl.O8 (λx a=>?_) (yy hn (p:=List.toArray (i0 n)) (by unfold Pm;simp) n);split
 ·exact yz hn _ _ _ a
 ·exact a
end
theorem kN(lt:Nat->Nat->Bool)(n:Nat):(fu lt (L6 n)).toList.Perm (i0 n):=by
 cases n with
 |zero=>exact Mu _
 |succ n=>exact(uA (Zk n)).got
section
theorem mS(ho:s.heap.get? a=a5 (vu "list" vs.toArray n))(l:vs.length<64)
  (m:2<=vs.length->∀s1:fS,(∀b o,b≠a->s.heap.get? b=a5 o->s1.heap.get? b=a5 o)->d4 (gs prog w) A (Ŋ vs.toArray) (λκ s'=>s'=s1/\∀i j,i<vs.length->j<vs.length->∀C:Bool->fS->Prop,C (lt i j) s1->WH prog w A κ vs i j C s1) (λ_ _=>False) s1)
  (h:P (.done (.ret .none)) {s with heap:=Zh s.heap a vs (((fu lt (L6 vs.length)).toList.map λi=>vs.getD i mh).toArray)}) :
  d4 (gs prog w) A (Mq.«list.sort» ⟨[.ref a],[]⟩) P E s:=by
 have L:a<s.heap.objs.size:=ez ho;have u:(64:Nat)<=cL:=by decide
 rw[list_sort_plain];refine bD (Í ho rfl (bD (VF ho rfl ?_ (by rw[hH];lia) (ki _))));obtain⟨k,q⟩:∃k,(s.heap.update a (oT λ_=>(#[]:Array d3))).get? a=a5 (vu "list" #[] k):=⟨_,Ĺ ho λ_=>#[]⟩
 refine bD (î q rfl (bD (wpAny_newTuple (bD (Vz (qs ?_) (ki _))) (by show vs.length<=_;lia))));have d:(((s.heap.update a (oT λ_=>(#[]:Array d3))).push (vu "tuple" vs.toArray 0)).push (vu "list" #[] 0)).get? a=a5 (vu "list" #[] k):=cK _ (cK _ q);have f:∀b o,b≠a->s.heap.get? b=a5 o->(((s.heap.update a (oT λ_=>(#[]:Array d3))).push (vu "tuple" vs.toArray 0)).push (vu "list" #[] 0)).get? b=a5 o:=λb o y e =>
  cK _ (cK _ (by rw[OI _ _ _ _ y];exact e))
 show d4 (gs prog w) A _ P E {s with heap:=((s.heap.update a (oT λ_=>(#[]:Array d3))).push (vu "tuple" vs.toArray 0)).push (vu "list" #[] 0)}
 dsimp only
 have r:((fu lt (L6 vs.length)).toList.map λi=>vs.getD i mh).length=vs.length:=by rw[c4,(kN lt _).length_eq,vr]
 by_cases c:vs.toArray.size<2
 ·rw[Ő c,Ő c];refine bD (df ?_);rw[StateT.run_pure];refine bD (df ?_);have z:((fu lt (L6 vs.length)).toList.map λi=>vs.getD i mh).toArray=(vs.toArray.zip vs.toArray).map (·.2):=by
   have g:=kN lt vs.length;clear h m r f d ho l
   match vs,c,g with
   |[],_,g=>rw[show(fu lt (L6 ([]:List d3).length)).toList=[] from Ċ.mp g];simp
   |[v],_,g=>rw[show(fu lt (L6 [v].length)).toList=[0] from List.perm_singleton.mp g];simp
   |_::_::_,c,_=>simp at c;lia
  rw[z]at h
  dsimp only
  refine bD (î d rfl (bD (VF d rfl ?_ (ki _) (by rw[RS];show(pairsOf vs).size<=_;rw[pairsOf_size];lia))));simp only[bne_self_eq_false,J',if_false];exact df h
 ·rw[ő c,ő c];have t:2<=vs.length:=by rw[hH]at c;lia
  refine bD (qb (m t _ f) (λκ s0 hk=>?_) λ_ _ x=>x.elim);obtain⟨rfl,hk⟩:=hk;refine bD (qb (kat_run (κ:=κ) (ks:=vs) (vs:=vs) (G:=λp s'=>p=fu lt (L6 vs.length)/\s'={s with heap:=((s.heap.update a (oT λ_=>(#[]:Array d3))).push (vu "tuple" vs.toArray 0)).push (vu "list" #[] 0)})
   (Q:=λst' s'=>∃p:Array Nat,arrOf st'=p.map (kas_item (vs.toArray.zip vs.toArray))/\failedOf st'=b6/\p=fu lt (L6 vs.length)/\s'={s with heap:=((s.heap.update a (oT λ_=>(#[]:Array d3))).push (vu "tuple" vs.toArray 0)).push (vu "list" #[] 0)})
   rfl t l (λp st' s' a1 B a3 D=>⟨p,B,a3,D⟩) (Kl.wp hk (uA ⋯) ⟨rfl,rfl⟩)) ?_ λ_ _ e=>e)
  rintro⟨⟨⟩,st'⟩ s' ⟨p,H,I,rfl,rfl⟩
  dsimp only
  have J:=kat_snds rfl H;rw[J,I];refine bD (î d rfl (bD (VF d rfl ?_ (ki _) (by rw[hH,r];lia))));simp only[bne_self_eq_false,J',if_false];exact df h
end
abbrev Bu:=Str×Int
noncomputable def LC(ks:List Str)(i j:Nat):Bool:=dt ((ks.getD i nH).cps.toList<(ks.getD j nH).cps.toList)
noncomputable def eI(ks:List Str):List Nat:=(fu (LC ks) (L6 ks.length)).toList
theorem cu(ks:List Str):(eI ks).Perm (i0 ks.length):=kN _ _
noncomputable def GS(x:Str)(n:Int)(t u:Tok):Obj:={cls:=.type "tuple",data:=.seq #[.str x t,.int n u]}
def fi(h:Jy)(as:List fR)(ps:List Bu):Prop:=as.length=ps.length/\∀(j:Nat) (a:fR),as[j]?=a5 a->∃p t u,ps[j]?=a5 p/\h.get? a=a5 (GS p.1 p.2 t u)
theorem fi.keeps(x:fi h as ps)(k:∀b o,b∈as->h.get? b=a5 o->h'.get? b=a5 o):fi h' as ps :=
 ⟨x.1,λj a e=>let ⟨p,t,u,c,d⟩:=x.2 j a e;⟨p,t,u,c,k a _ (l0 e) d⟩⟩
theorem fi.tail(x:fi h (a::as) (p::ps)):fi h as ps :=
 ⟨by have:=x.1;simpa using this,λj b e=>by
  obtain⟨q,t,u,c,d⟩:=x.2 (j+1) b (by simpa using e);exact⟨q,t,u,by simpa using c,d⟩⟩
theorem fi.eX:∀{as:List fR}{ps:List Bu},fi h as ps->∃b:List d3,KatTups h (as.map hY) b/\b.length=as.length/\∀v∈b,∃x t,v=t5 x t
 |[],_,_=>⟨[],ö,rfl,by simp⟩
 |a::as,[],x=>by have:=x.1;simp at this
 |a::as,p::ps,x=>by
  obtain⟨b,c,d,e⟩:=fi.eX x.tail;obtain⟨q,t,u,g,f⟩:=x.2 0 a rfl;refine⟨.str q.1 t::b,ç f rfl rfl rfl c,by simp[d],λv hv=>?_⟩;rcases et.mp hv with rfl|hv
  ·exact⟨_,_,rfl⟩
  ·exact e v hv
theorem mT:∀{l:List α}{m:List β}{i:Nat}{x:α},Paired F l m->l[i]?=a5 x->∃y,m[i]?=a5 y/\F x y
 |_,_,_,_,.nil,e=>by simp at e
 |_,_,0,_,.cons r _,e=>by simp at e;subst e;exact⟨_,rfl,r⟩
 |_,_,i+1,x,.cons _ t,e=>by
  obtain⟨u,a,b⟩:=mT (i:=i) (x:=x) t (by simpa using e);exact⟨u,by simpa using a,b⟩
section
theorem Ew(x:fi s.heap as ps)(f:(ps.map (·.1)).Nodup)(hi:i<as.length)(e:j<as.length)(q:C (LC (ps.map (·.1)) i j) s):
  WH prog w A (tuples' b8) (as.map hY) i j C s:=by
 obtain⟨p,t,u,d,g⟩:=x.2 i as[i] (by simp[hi]);obtain⟨a,t',u',c,k⟩:=x.2 j as[j] (by simp[e]);have hl:=x.1;have l:i<ps.length:=by lia
 have m:j<ps.length:=by lia
 have n:(as.map hY).getD i mh=.ref as[i]:=by simp[y4,hi]
 have o:(as.map hY).getD j mh=.ref as[j]:=by simp[y4,e]
 have r:(ps.map (·.1)).getD i nH=p.1:=by simp[y4,d]
 have v:(ps.map (·.1)).getD j nH=a.1:=by simp[y4,c]
 unfold WH;rw[n,o];refine kat_lt (b:=b8) g rfl k rfl ?_;unfold LC at q;rw[r,v]at q;show KatLex prog w A b8 (dt (2<2)) C [(.str p.1 t,.str a.1 t'),(.int p.2 u,.int a.2 u')] 0 s;refine æ (Xp ?_);by_cases h:p.1=a.1
 ·have y:i=j:=by
   have a1:(ps.map (·.1))[i]'(by simpa using l)=(ps.map (·.1))[j]'(by simpa using m):=by
    obtain⟨_,z⟩:=dV.mp d;obtain⟨_,B⟩:=dV.mp c;simp[z,B,h]
   exact(VG f).mp a1
  subst y;rw[d]at c;cases c;rw[œ rfl];refine Ė (æ (Xq ?_));rw[show(p.2==p.2)=b8 by simp];refine Ė (kat_nil ?_);have:dt (p.1.cps.toList<p.1.cps.toList)=cc:=Œ (ü _);rw[this]at q;exact q
 ·rw[Œ h];exact kat_no (oneLt_str q)
theorem Ey(x:fi s.heap as ps)(b:(ps.map (·.1)).Nodup)(f:2<=as.length):
  d4 (gs prog w) A (Ŋ (as.map hY).toArray) (λκ s'=>s'=s/\∀i j,i<(as.map hY).length->j<(as.map hY).length->∀C:Bool->fS->Prop,C (LC (ps.map (·.1)) i j) s->WH prog w A κ (as.map hY) i j C s) (λ_ _=>False) s:=by
 obtain⟨g,c,h,d⟩:=x.eX;refine kat_kind (T:=.type "str") c ⋯ (λv e=>?_) rfl ⟨rfl,λi j hi a C q=>?_⟩
 ·obtain⟨y,t,rfl⟩:=d v e;exact õ rfl
 ·rw[c4]at hi a;exact Ew x b hi a q
end
noncomputable def jK(H:Hp):List (fR×List V)->Hp
 |[]=>H
 |(a,vs)::r=>upd (jK H r) a (.tup vs)
theorem kO:∀{l:List (fR×List V)}{b:fR}{o:HO},jK H l b=a5 o->(∃vs,(b,vs)∈l/\o=.tup vs)\/H b=a5 o
 |[],b,o,h=>.inr h
 |(a,vs)::r,b,o,h=>by
  by_cases c:b=a
  ·subst c;rw[jK,ay]at h;cases h;exact .inl ⟨vs,by simp,rfl⟩
  ·rw[jK,au c]at h;rcases kO h with⟨ws,d,e⟩|q
   ·exact .inl ⟨ws,by simp[d],e⟩
   ·exact .inr q
theorem kP:∀{l:List (fR×List V)}{b:fR},(∀p∈l,p.1≠b)->jK H l b=H b
 |[],b,_=>rfl
 |(a,vs)::r,b,h=>by
  rw[jK,au (ro (h _ nc))];exact kP λp c=>h p (by simp[c])
theorem uB:∀{l:List (fR×List V)}{b:fR}{vs:List V},(l.map (·.1)).Nodup->(b,vs)∈l->jK H l b=a5 (.tup vs)
 |(a,ws)::r,b,vs,d,h=>by
  have c:a∉r.map (·.1)/\(r.map (·.1)).Nodup:=by simpa using d
  rcases et.mp h with h|h
  ·cases h;exact ay
  ·have:b≠a:=λz=>c.1 (by rw[<-z];exact lg.mpr ⟨_,h,rfl⟩);rw[jK,au this];exact uB c.2 h
section
theorem Inv.many(I:Inv X pins σ H s)(k:∀b u,s.heap.get? b=a5 u->h'.get? b=a5 u)(a:∀b o,H b=a5 o->H' b=a5 o)
  (d:∀b o,H' b=a5 o->H b=a5 o\/(s.heap.objs.size<=b/\bA X.prog X.w H' h' b o)):Inv X pins σ H' {s with heap:=h',toks:=t' }:=by
 refine I.un ⟨λb u q _ _ _=>k b u q,λb u q _ _ _=>⟨u.slots,k b u q⟩,λb u q n _=>?_,λb u q _=>⟨u,k b u q⟩,λb xs q=>a b _ q,λb u xs q=>a b _ q,λb ps q=>⟨#[],by rw[a b _ q];simp⟩⟩ λb o e=>?_
 ·cases e:H' b with
  |none=>rfl
  |some o =>
   rcases d b o e with z|⟨z,_⟩
   ·rw[n]at z;cases z
   ·exact absurd (i2 (ez q) z) (uv _)
 ·rcases d b o e with z|⟨_,z⟩
  ·exact(I.Ja b o z).fA (λc v _ q=>k c v q) (λc q=>a c _ q) λc xs q=>a c _ q
  ·exact z
noncomputable def MU(p:Bu):List V:=[.str p.1,.int p.2]
theorem oG{ps:List Bu}(hc:X.calm=b8)(I:Inv X pins σ H s)(e:H d=a5 (.dK (ps.map λp=>((ko p.1:Key),V.int p.2))))(Jj:(ps.map (·.1)).Nodup)(K':ps.length<64)
  (q:∀(as:List fR) (L:fR),as.length=ps.length->as.Nodup->(∀a∈L::as,H a=b6)->L∉as->Q (.ref L) (upd (jK H (as.zip (ps.map MU))) L (.lst ((eI (ps.map (·.1))).map λi=>V.ref (as.getD i 0))))) :
  d4 (gs X.prog X.w) X.A (Nd (.builtin "dict.items") [.ref d]) (λv s1=>d4 (gs X.prog X.w) X.A (Nd (.builtin "sorted") [v]) (EP X pins σ Q) X.xe s1) X.xe s:=by
 have ab:(64:Nat)<=cL:=by decide
 obtain⟨hz,lo,vs,kv,dd⟩:=xZ I.Ja e;have B:vs.length=ps.length:=by
  have:=Paired.length kv;simpa using this.symm
 obtain⟨o,es,ep,n⟩:=id dd;refine Wz PySem.F.slot_dict_items (show s.TypeIs (.ref d) "dict" from⟨o,n.1,n.2.1.1⟩) PySem.F.entry_dict_items (PySem.F.args_dict_items_1 _) (Ĩ (aG X.prog X.w) d lo) ⟨⟨vs,dd⟩,?_⟩;show d4 (gs X.prog X.w) X.A (Nd (.builtin "sorted") [.ref s.heap.objs.size]) (EP X pins σ Q) X.xe {s with heap:=s.heap.push {cls:=.type "dict_items",data:=.fields #[.ref d]}};have k1:∀b u,s.heap.get? b=a5 u->(s.heap.push {cls:=.type "dict_items",data:=.fields #[.ref d]}).get? b=a5 u:=λb u z=>cK _ z;have ZT:(s.heap.push {cls:=.type "dict_items",data:=.fields #[.ref d]}).DictOf (aG X.prog X.w) d vs:=⟨o,es,ep,k1 _ _ n.1,n.2⟩
 have Ln:(s.heap.push {cls:=.type "dict_items",data:=.fields #[.ref d]}).DictAt (aG X.prog X.w) d vs ep:=⟨o,es,k1 _ _ n.1,n.2⟩
 refine R' ï Ì Î (Ï _) ?_;unfold Mq.«sorted»;refine bD (m:=ă "sorted" 1 1 _) (df ?_);refine bD (kdx_collect (A:=X.A.in1) (knd:=aG X.prog X.w) (kvs:=vs) (ep:=ep) (I.ok.hd hc) ⟨_,eH _ rfl,rfl,rfl⟩ Ln ⋯ λc tk as hk hl C=>?_);have D:as.length=ps.length:=hl.trans B;have f:∀a∈as,s.heap.objs.size<=a:=λa ha=>by
  have:=C.above a ha;have z:(s.heap.push {cls:=.type "dict_items",data:=.fields #[.ref d]}).objs.size=s.heap.objs.size+1:=KO ..;have VB:(s.heap.push {cls:=.type "dict_items",data:=.fields #[.ref d]}).objs.size<a:=this;lia
 have Y:fi c as ps:=⟨D,λj a ea=>by
  obtain⟨key,k,x,J,N,e3⟩:=C.pairs j a ea;have r:j<ps.length:=by rw[<-D];exact(dV.mp ea).1
  obtain⟨y,ey,r1,r2⟩:=mT kv (i:=j) (x:=((ko ps[j].1:Key),V.int ps[j].2)) (by simp[r]);rw[J]at ey;cases ey;obtain⟨tx,rfl⟩:∃t,x=.int ps[j].2 t:=r2;have XQ:k=ko ps[j].1:=r1.symm;subst XQ;obtain⟨t,rfl⟩:=Zw (x:=ps[j].1) (v:=key) N;exact⟨ps[j],t,tx,by simp[r],e3⟩⟩
 have nd:as.Nodup:=C.rise.imp λh=>hQ h;refine bD (Vz ?_ (by rw[c4];lia));have O:(c.push (vu "list" (as.map hY).toArray 0)).get? c.objs.size=a5 (vu "list" (as.map hY).toArray 0):=eH _ rfl;show d4 _ _ _ _ _ {s with heap:=c.push (vu "list" (as.map hY).toArray 0),toks:=tk};have Rp:∀a∈as,a<c.objs.size:=λa ha=>C.there ha;refine bD (qs (B' Zi ⟨_,O,rfl⟩ Yd (mS (lt:=LC (ps.map (·.1))) O (by rw[c4];lia) (λh2 s1 ks=>?_) ⟨_,rfl,?_⟩) (Zj _)))
 ·refine Ey (Y.keeps λb o G z=>ks b o (hQ (Rp b G)) (cK _ z)) Jj (by rw[c4]at h2;exact h2)
 ·obtain⟨ee,he⟩:=ZL (out:=((fu (LC (ps.map (·.1))) (L6 (as.map hY).length)).toList.map λi=>(as.map hY).getD i mh).toArray) O;have g:∀b o,c.get? b=a5 o->(Zh (c.push (vu "list" (as.map hY).toArray 0)) c.objs.size (as.map hY) ((fu (LC (ps.map (·.1))) (L6 (as.map hY).length)).toList.map λi=>(as.map hY).getD i mh).toArray).get? b=a5 o:=λb o z=>by
   have Jk:b<c.objs.size:=ez z;rw[Zf (hQ Jk) (by rw[KO];exact P9 Jk)];exact cK _ z
  have Lb:s.heap.objs.size<=c.objs.size:=P_ (ez (hk _ _ (eH _ rfl)));have eP:((fu (LC (ps.map (·.1))) (L6 (as.map hY).length)).toList)=eI (ps.map (·.1)):=by
   unfold eI;rw[c4,c4,D]
  have O9:H c.objs.size=b6:=I.Ja.fresh Lb;have XR:c.objs.size∉as:=λz=>uv _ (Rp _ z);have VC:∀a∈as,H a=b6:=λa ha=>I.Ja.fresh (f a ha);have Tw:∀{b:fR} {ws:List V},(b,ws)∈as.zip (ps.map MU)->b∈as:=λz=>(QQ z).1;refine df ⟨_,rfl,.ref c.objs.size,upd (jK H (as.zip (ps.map MU))) c.objs.size (.lst ((eI (ps.map (·.1))).map λi=>V.ref (as.getD i 0))),?_,rfl,q as _ D nd (λa ha=>?_) XR⟩
  ·refine I.many (λb u z=>g b u (hk b u (k1 b u z))) (λb o z=>?_) λb o z=>?_
   ·have n1:b≠c.objs.size:=λy=>by rw[y,O9]at z;cases z
    rw[au n1,kP λp hp y=>?_]
    ·exact z
    ·have:=VC p.1 (Tw (b:=p.1) (ws:=p.2) hp);rw[y,z]at this;cases this
   ·by_cases G:b=c.objs.size
    ·subst G;rw[ay]at z;cases z;refine .inr ⟨Lb,by rw[c4,(cu _).length_eq,vr,c4];lia,(eI (ps.map (·.1))).map λi=>(as.map hY).getD i mh,ee,?_,?_⟩
     ·have T:∀i∈eI (ps.map (·.1)),i<as.length:=λi hi=>by
       have:=tA.mp ((cu _).mem_iff.mp hi);rw[c4]at this;lia
      generalize eI (ps.map (·.1))=l at T;induction l with
      |nil=>exact .nil
      |cons i l ih =>
       refine .cons ?_ (ih λj r=>T j (by simp[r]));have hi:=T i (by simp);show RelV (.ref (as.getD i 0)) ((as.map hY).getD i mh);have:(as.map hY).getD i mh=.ref (as.getD i 0):=by simp[y4,hi]
       rw[this];rfl
     ·rw[<-eP];exact he
    ·rw[au G]at z;rcases kO z with⟨ws,z1,rfl⟩|z1
     ·obtain⟨j,r,ej⟩:=TU.mp z1;have Tz:j<as.length:=by simp at r;lia
      have Tv:j<ps.length:=by lia
      have XS:as[j]=b/\MU ps[j]=ws:=by simpa using ej
      obtain⟨rfl,rfl⟩:=XS;obtain⟨p,t,u,J,N⟩:=Y.2 j as[j] (by simp[Tz]);have:p=ps[j]:=by simpa[Tv] using J.symm
      subst this;exact .inr ⟨f _ (by simp),by show 2<=cL;lia,[.str ps[j].1 t,.int ps[j].2 u],.cons ⟨t,rfl⟩ (.cons ⟨u,rfl⟩ .nil),_,g _ _ N,rfl,0,rfl⟩
     ·exact .inl z1
  ·rcases et.mp ha with rfl|ha
   ·exact O9
   ·exact VC a ha
end
def fj(h:Jy)(as:List fR)(ks:List Str):Prop:=as.length=ks.length/\∀(j:Nat) (a:fR),as[j]?=a5 a->∃k t o n b u,ks[j]?=a5 k/\h.get? a=a5 o/\o.cls=.type "tuple"/\o.data=.seq #[.str k t,.int b u] n
theorem fj.keeps(x:fj h as ks)(k:∀b o,b∈as->h.get? b=a5 o->h'.get? b=a5 o):fj h' as ks :=
 ⟨x.1,λj a e=>let ⟨k0,t,o,n,b,u,c,d,f⟩:=x.2 j a e;⟨k0,t,o,n,b,u,c,k a o (l0 e) d,f⟩⟩
theorem fj.tail(x:fj h (a::as) (k::ks)):fj h as ks :=
 ⟨by have:=x.1;simpa using this,λj b e=>by
  obtain⟨k0,t,o,n,c,u,d,f⟩:=x.2 (j+1) b (by simpa using e);exact⟨k0,t,o,n,c,u,by simpa using d,f⟩⟩
theorem fj.eX:∀{as:List fR}{ks:List Str},fj h as ks->∃c:List d3,KatTups h (as.map hY) c/\c.length=as.length/\∀v∈c,∃x t,v=t5 x t
 |[],_,_=>⟨[],ö,rfl,by simp⟩
 |a::as,[],x=>by have:=x.1;simp at this
 |a::as,k::ks,x=>by
  obtain⟨c,d,e,f⟩:=fj.eX x.tail;obtain⟨k0,t,o,n,b,u,l,g,i,j⟩:=x.2 0 a rfl;refine⟨.str k0 t::c,ç g i j rfl d,by simp[e],λv hv=>?_⟩;rcases et.mp hv with rfl|hv
  ·exact⟨_,_,rfl⟩
  ·exact f v hv
section
theorem Ez(x:fj s.heap as ks)(y:ks.Nodup)(hi:i<as.length)(g:j<as.length)(q:C (LC ks i j) s):
  WH prog w A (tuples' b8) (as.map hY) i j C s:=by
 obtain⟨p,t,o,n,b,u,k,l,_,m⟩:=x.2 i as[i] (by simp[hi]);obtain⟨d,t',o',N,r,u',v,e,_,c⟩:=x.2 j as[j] (by simp[g]);have z:(as.map hY).getD i mh=.ref as[i]:=by simp[y4,hi]
 have B:(as.map hY).getD j mh=.ref as[j]:=by simp[y4,g]
 have D:ks.getD i nH=p:=by simp[y4,k]
 have G:ks.getD j nH=d:=by simp[y4,v]
 unfold WH;rw[z,B];refine kat_lt (b:=b8) l m e c ?_;unfold LC at q;rw[D,G]at q;show KatLex prog w A b8 (dt (2<2)) C [(.str p t,.str d t'),(.int b u,.int r u')] 0 s;refine æ (Xp ?_);by_cases h:p=d
 ·have H:i=j:=by
   obtain⟨O,I⟩:=dV.mp k;obtain⟨Q,J⟩:=dV.mp v;exact(VG y).mp (by rw[I,J,h])
  subst H;rw[l]at e;cases e;rw[m]at c;injection c with c _
  have f:b=r/\u=u':=by
   have:=Ŕ (λa:Array d3=>a[1]?) c;simpa using this
  obtain⟨f,L⟩:=f;subst f L;subst h;rw[œ rfl];refine Ė (æ (Xq ?_));rw[show(b==b)=b8 by simp];refine Ė (kat_nil ?_);have:dt (p.cps.toList<p.cps.toList)=cc:=Œ (ü _);rw[this]at q;exact q
 ·rw[Œ h];exact kat_no (oneLt_str q)
theorem EA(x:fj s.heap as ks)(b:ks.Nodup)(f:2<=as.length):
  d4 (gs prog w) A (Ŋ (as.map hY).toArray) (λκ s'=>s'=s/\∀i j,i<(as.map hY).length->j<(as.map hY).length->∀C:Bool->fS->Prop,C (LC ks i j) s->WH prog w A κ (as.map hY) i j C s) (λ_ _=>False) s:=by
 obtain⟨g,c,h,d⟩:=x.eX;refine kat_kind (T:=.type "str") c ⋯ (λv e=>?_) rfl ⟨rfl,λi j hi a C q=>?_⟩
 ·obtain⟨y,t,rfl⟩:=d v e;exact õ rfl
 ·rw[c4]at hi a;exact Ez x b hi a q
end
section
theorem r9{as:List fR}(I:Inv X pins σ H s)(e:JA X.K H L (as.map V.ref))(hl:as.length=ks.length)
  (N:∀(j:Nat) a k,as[j]?=a5 a->ks[j]?=a5 k->∃b,JH X.K H a [.str k,.int b]) (O:ks.Nodup) (K':as.length<64)
  (q:∀L',H L'=b6->Q (.ref L') (upd H L' (.lst ((eI ks).map λi=>V.ref (as.getD i 0))))) :
  d4 (gs X.prog X.w) X.A (Nd (.builtin "sorted") [.ref L]) (EP X pins σ Q) X.xe s:=by
 have T:(64:Nat)<=cL:=by decide
 obtain⟨its,rv,pl,hz⟩:=I.list e;have Y:its=as.map hY:=by
  have:∀(as:List fR) (its:List d3),Vals (as.map V.ref) its->its=as.map hY:=λas=>by
   induction as with
   |nil=>intro its h;cases h;rfl
   |cons a as v =>
    intro its h;cases h with
    |cons r t=>rw[v _ t];cases r;rfl
  exact this as its rv
 subst Y;have D:fj s.heap as ks:=⟨hl,λj a f=>by
  have c:j<ks.length:=by rw[<-hl];exact(dV.mp f).1
  obtain⟨b,x⟩:=N j a ks[j] f (by simp[c]);obtain⟨us,r,⟨o,h1,p,n,h3⟩,_⟩:=I.tuple x;cases r with
  |cons r1 y =>
   cases y with
   |cons y r3 =>
    cases r3;obtain⟨t,rfl⟩:=r1;obtain⟨u,rfl⟩:=y;exact⟨_,t,o,n,b,u,by simp[c],h1,p,h3⟩⟩
 refine R' ï Ì Î (Ï _) ?_;unfold Mq.«sorted»;refine bD (m:=ă "sorted" 1 1 _) (df ?_);refine bD (collect_list pl.isList ?_ (by simp;lia));generalize G:(s.heap.push (vu "list" #[] 0)).update s.heap.objs.size (oT (·++(as.map hY).toArray))=g;have k1:∀b o,s.heap.get? b=a5 o->g.get? b=a5 o:=λb o z=>by subst G;exact gu z
 have hsz:s.heap.objs.size<=g.objs.size:=by subst G;rw[Ù,KO];exact LB _
 have Rp:∀a∈as,a<g.objs.size:=λa ha=>by
  obtain⟨j,c,f⟩:=TU.mp ha;obtain⟨_,_,o,_,_,_,_,z,_⟩:=D.2 j a (by simp[c,f]);exact i2 (ez z) hsz
 refine bD (Vz ?_ (by rw[c4];lia));have B:(g.push (vu "list" (as.map hY).toArray 0)).get? g.objs.size=a5 (vu "list" (as.map hY).toArray 0):=eH _ rfl;show d4 _ _ _ _ _ {s with heap:=g.push (vu "list" (as.map hY).toArray 0)};refine bD (qs (B' Zi ⟨_,B,rfl⟩ Yd (mS (lt:=LC ks) B (by rw[c4];lia) (λp s1 kp=>?_) ⟨_,rfl,?_⟩) (Zj _)))
 ·exact EA (D.keeps λb o x z=>kp b o (hQ (Rp b x)) (cK _ (k1 b o z))) O (by rw[c4]at p;exact p)
 ·obtain⟨ee,he⟩:=ZL (out:=((fu (LC ks) (L6 (as.map hY).length)).toList.map λi=>(as.map hY).getD i mh).toArray) B;have d:∀b o,g.get? b=a5 o->(Zh (g.push (vu "list" (as.map hY).toArray 0)) g.objs.size (as.map hY) ((fu (LC ks) (L6 (as.map hY).length)).toList.map λi=>(as.map hY).getD i mh).toArray).get? b=a5 o:=λb o z=>by
   have J:b<g.objs.size:=ez z;rw[Zf (hQ J) (by rw[KO];exact P9 J)];exact cK _ z
  have eP:((fu (LC ks) (L6 (as.map hY).length)).toList)=eI ks:=by
   unfold eI;rw[c4,hl]
  have C:∀i∈eI ks,i<as.length:=λi hi=>by
   have:=tA.mp ((cu _).mem_iff.mp hi);lia
  refine df ⟨_,rfl,.ref g.objs.size,_,I.laid (t':=s.toks) (o:=.lst ((eI ks).map λi=>V.ref (as.getD i 0))) (λb u z=>d b u (k1 b u z)) hsz ⟨?_,(eI ks).map λi=>(as.map hY).getD i mh,ee,?_,by rw[<-eP];exact he⟩,rfl,q _ (I.Ja.fresh hsz)⟩
  ·rw[c4,(cu _).length_eq,vr];lia
  ·generalize eI ks=l at C;induction l with
   |nil=>exact .nil
   |cons i l v =>
    refine .cons ?_ (v λj c=>C j (by simp[c]));have hi:=C i (by simp);show RelV (.ref (as.getD i 0)) ((as.map hY).getD i mh);have:(as.map hY).getD i mh=.ref (as.getD i 0):=by simp[y4,hi]
    rw[this];rfl
end
section
theorem oH:T_ (.type "list") "keys"=pure b6:=am_miss_of_fast (by decide +kernel)
theorem oI(hx:s.heap.get? a=a5 {cls:=.type "list",dict:=b6,data:=.seq xs k,slots:=sl})(hA:A.handled=b6)
    (h:∀h' tk,(∀b ob,s.heap.get? b=a5 ob->h'.get? b=a5 ob)->Q b6 {s with heap:=h',toks:=tk}):d4 (gs prog w) A (getAttr? (.ref a) "keys") Q E s:=by
  obtain⟨hp,g,d,tk,os⟩:=s;have hT:∀Rg,(⟨hp,g,d,Rg,os⟩:fS).TypeIs (.ref a) "list":=λ_=>⟨_,hx,rfl⟩
  have f1:=sub_AttributeError;have f3:=PySem.F.slot_list_getattribute.lookup;have f4:=PySem.F.slot_list_getattribute.bind (.ref a);have f5:=am_list_getattr_none;have big:(1000:Nat)<=cL:=by decide
  have hk : (("keys" : Str)).length + 100 ≤ sizeLine := by have : ("keys" : Str).length = 4 := by decide
                                                           lia
  unfold getAttr? getAttrBy? getAttrBy
  repeat (any_goals (first|assumption|exact hT _|((with_reducible show d4 _ _ (Nd (Value.builtin "list.__getattribute__") _ _) _ _ _);refine Um PySem.F.slot_list_getattribute (hT _) am_entry_list_getattribute (PySem.F.args_list_getattribute_2 _ _) (meets_getattribute_miss_list a xs k sl "keys" _ oH (by decide) hk) ⟨hx,hA,λh' Rg e ND=>?_⟩)|wp_step))
  obtain⟨t',u',he⟩:=ND.there;show d4 _ _ (Ă _ _ _ _ _ _ _) _ _ _;unfold Ă
  repeat (any_goals (first|assumption|wp_step))
  exact h _ _ ND.keeps
theorem fG:Zc ļ "dict.update.loop"=a5 Mq.«dict.update.loop»:=ĩ (by kernel_rfl)
theorem cU:plainId "dict.update.loop"=b8:=by decide +kernel
def Bv(prog:ve)(w:Jq)(d I:fR)(its:Array d3)(ps:List (Key×d3))(h:Jy):Prop:=∀(j:Nat) p,ps[j]?=a5 p->∃a o e key,its[j]?=a5 (.ref a)/\a≠d/\a≠I/\h.get? a=a5 o/\o.cls=.type "tuple"/\o.data=.seq #[key,p.2] e/\(aG prog w).is p.1 key=b8
theorem Bv.keep(x:Bv prog w d I its ps h)(k:∀b o,b≠d->b≠I->h.get? b=a5 o->h'.get? b=a5 o):Bv prog w d I its ps h':=λj p e=>by
 obtain⟨a,o,n,key,g,c,f,i,l⟩:=x j p e;exact⟨a,o,n,key,g,c,f,k a o c f i,l⟩
theorem yA(G:A.handled=b6)(H:ax≠I)(t:d≠I)(XT:ax≠d)(hz:ps.length<=cL)(hl:its.size=ps.length):
  ∀(k i:Nat) (s:fS) (acc:List (Key×d3)),ps.length - i=k->i<=ps.length->s.heap.IsListIter I ax i->s.heap.IsList ax its->acc.length<=i->Bv prog w d I its ps s.heap->s.heap.DictOf (aG prog w) d acc->(acc.map (·.1)++(ps.drop i).map (·.1)).Nodup ->
  (∀h' m,h'.DictOf (aG prog w) d (acc++ps.drop i)->(∀b o,b≠d->b≠I->s.heap.get? b=a5 o->h'.get? b=a5 o)->R (.ok (.ret res)) {s with heap:=h',toks:=m}) ->
  Qq (gs prog w) A (.builtin "dict.update.loop" ⟨[.ref d,.ref I,u5 i,res],[]⟩) R s:=by
 intro k;induction k with
 |zero =>
  intro i s acc hk hi f u XU J y h j;have Lo:i=its.size:=by lia
  subst Lo;refine JU fG ?_;rw[Kk cU _];show d4 _ A.in1 (Sy (.ref I) >>= _) _ _ s;refine bD ((WA (A:=A.in1) G I ax H its).done s _ _ ⟨f,u⟩ λh' m B=>?_);have e0:ps.drop its.size=[]:=List.drop_eq_nil_of_le ⋯;rw[e0,r6]at j;have g:∀b o,b≠I->s.heap.get? b=a5 o->h'.get? b=a5 o:=λb o c e=>B b o (by simpa using c) e;refine bD (df (df (j h' m ?_ λb o _ c e=>g b o c e)));obtain⟨o,es,ep,ho,r⟩:=y;exact⟨o,es,ep,g d o t ho,r⟩
 |succ k ih =>
  intro i s acc hk hi f u XU J y h j;have n:i<ps.length:=by lia
  obtain⟨p,L⟩:∃p,ps[i]?=a5 p:=⟨ps[i],by simp[n]⟩
  refine JU fG ?_;rw[Kk cU _];show d4 _ A.in1 (Sy (.ref I) >>= _) _ _ s;refine bD ((WA (A:=A.in1) G I ax H its).item i s _ _ ⋯ ⟨f,u⟩ λv h' m hP N B=>?_);have g:∀b o,b≠I->s.heap.get? b=a5 o->h'.get? b=a5 o:=λb o c e=>B b o (by simpa using c) e;have Lm:h'.DictOf (aG prog w) d acc:=by
   obtain⟨o,es,ep,ho,r⟩:=y;exact⟨o,es,ep,g d o t ho,r⟩
  have O:=J.keep (h':=h') λb o _ c e=>g b o c e;obtain⟨a,o,e,key,e1,e2,e3,Q,e5,e6,e7⟩:=O i p L;have Y:its[i]?=a5 v:=hP;rw[e1]at Y;cases Y;refine bD (qs (bD (wpAny_tryCatch ?_)));unfold ķ;refine bD (So (T:="tuple") ⟨o,Q,e5⟩ ?_);rw[Ő (by decide)];refine bD (Sx Q e6 (df ?_));show d4 _ _ (MP [key,p.2] (dictSet d key p.2)) _ _ _;have C:ps.drop i=p::ps.drop (i+1):=by
   rw[Sn n];have:ps[i]=p:=by simpa[n] using L
   rw[this]
  have ME:p.1∉acc.map (·.1):=λz=>by
   rw[C,d6,rr]at h;exact h.2.2 _ z _ (by simp) rfl
  have TH:Ľ acc p.1 p.2=acc++[p]:=by
   unfold Ľ;rw[ő λz=>by
    obtain⟨x,hx,e⟩:=S9.mp z;exact ME (lg.mpr ⟨x,hx,by simpa using e⟩)]
  refine qs (wpAny_dictSet_pairs (hsz:=by lia) e7 Lm λD l Kh=>?_);rw[TH]at l;have q:∀b o,b≠d->h'.get? b=a5 o->D.get? b=a5 o:=λb o c e=>(Kh.2 b c).trans e;have TJ:D.IsListIter I ax (i+1):=by
   obtain⟨z,_⟩:=N;exact z.at λo e=>q _ o (ro t) e
  have TK:D.IsList ax its:=by
   obtain⟨_,z⟩:=N;exact z.at λo e=>q _ o XT e
  rw[C,d6]at h;rw[C]at j;exact df ⟨Py cU _,ih (i+1) _ (acc++[p]) ⋯ n TJ TK (by simp;lia) (O.keep λb o c _ e=>q b o c e) l (by simpa using h) λh3 XW XX k3=>j h3 XW (by simpa using XX) λb o c J9 e=>k3 b o c J9 (q b o c (g b o J9 e))⟩
end
theorem yB{h:Jy}:∀{as:List fR}{ps:List (Str×V)},as.length=ps.length->(∀(j:Nat) a p,as[j]?=a5 a->ps[j]?=a5 p->∃(o:Obj) (n:Nat) (t:Tok) (v:d3),h.get? a=a5 o/\o.cls=.type "tuple"/\o.data=.seq #[.str p.1 t,v] n/\RelV p.2 v) ->
  ∃vs:List (Key×d3),vs.length=ps.length/\vs.map (·.1)=ps.map (λp=>(ko p.1:Key))/\KV (ps.map λp=>((ko p.1:Key),p.2)) vs/\∀(j:Nat) q,vs[j]?=a5 q->∃a p o n t,as[j]?=a5 a/\ps[j]?=a5 p/\q.1=ko p.1/\h.get? a=a5 o/\o.cls=.type "tuple"/\o.data=.seq #[.str p.1 t,q.2] n
 |[],[],_,_=>⟨[],rfl,rfl,.nil,by simp⟩
 |[],_::_,h,_=>by simp at h
 |_::_,[],h,_=>by simp at h
 |a::as,p::ps,hl,f=>by
  obtain⟨vs,g,i,k,l⟩:=yB (as:=as) (ps:=ps) (by simpa using hl) λj b q c d=>f (j+1) b q (by simpa using c) (by simpa using d);obtain⟨o,n,t,v,c,d,m,r⟩:=f 0 a p rfl rfl;refine⟨(ko p.1,v)::vs,by simp[g],by simp[i],.cons ⟨rfl,r⟩ k,λj q e=>?_⟩;cases j with
  |zero =>
   simp at e;subst e;exact⟨a,p,o,n,t,rfl,rfl,rfl,c,d,m⟩
  |succ j =>
   obtain⟨a',s,o',u,t',w,x,z⟩:=l j q (by simpa using e);exact⟨a',s,o',u,t',by simpa using w,by simpa using x,z⟩
section
theorem Bw{as:List fR}{ps:List (Str×V)}(hc:X.calm=b8)(I:Inv X pins σ H s)(e:JA X.K H L (as.map V.ref))(hl:as.length=ps.length)(ht:∀(j:Nat) a p,as[j]?=a5 a->ps[j]?=a5 p->JH X.K H a [.str p.1,p.2])(Jj:(ps.map (·.1)).Nodup)
  (q:∀d,H d=b6->Q (.ref d) (upd H d (.dK (ps.map λp=>((ko p.1:Key),p.2))))) :
  d4 (gs X.prog X.w) X.A (Nd (.type "dict") [.ref L]) (EP X pins σ Q) X.xe s:=by
 obtain⟨its,rv,pl,hz⟩:=I.list e;rw[c4]at hz;have J4:its.length=ps.length:=by rw[<-rv.length,c4,hl]
 have Oo:its=as.map hY:=by
  have:∀(as:List fR) (its:List d3),Vals (as.map V.ref) its->its=as.map hY:=λas=>by
   induction as with
   |nil=>intro its h;cases h;rfl
   |cons a as ih =>
    intro its h;cases h with
    |cons r t=>rw[ih _ t];cases r;rfl
  exact this as its rv
 subst Oo;obtain⟨o,n,ho,y,B,C⟩:=pl;obtain⟨oc,od,ZU,N7⟩:=o;simp only at y B C;subst y B C;obtain⟨vs,v1,v2,v3,v4⟩:=yB (h:=s.heap) hl λj a p e1 e2=>by
  obtain⟨us,r,⟨o,c,h2,n,h3⟩,_⟩:=I.tuple (ht j a p e1 e2);cases r with
  |cons r1 l =>
   cases l with
   |cons l r3 =>
    cases r3;obtain⟨t,rfl⟩:=r1;exact⟨o,n,t,_,c,h2,h3,l⟩
 have D:X.A.handled=b6:=I.ok.hd hc;have G:L<s.heap.objs.size:=ez ho;refine ł (Q₁:=λobj J=>obj=.ref s.heap.objs.size/\J={s with heap:=s.heap.push {cls:=.type "dict",data:=.dict #[]}}) PySem.F.kt_called_dict (PySem.F.kt_typeCall_dict_1 _) PySem.F.entry_dict_init (kt_code_dict_new _ ⟨rfl,rfl⟩) ?_;rintro obj J ⟨rfl,rfl⟩;have v:(s.heap.push {cls:=.type "dict",data:=.dict #[]}).DictOf (aG X.prog X.w) s.heap.objs.size []:=YF s.heap;have k0:∀b u,s.heap.get? b=a5 u->(s.heap.push {cls:=.type "dict",data:=.dict #[]}).get? b=a5 u:=λb u z=>cK _ z;refine⟨v.typeIs,PySem.F.args_dict_init_2 _ _,?_⟩;unfold Mq.«dict.__init__»;refine bD ?_;unfold Ķ;refine bD (wpAny_notOrdered_dict v.typeIs ?_);show d4 _ _ (pure (s.heap.objs.size,[hY L])) _ _ _;refine df ?_;show d4 _ _ (Vt "dict.__init__" s.heap.objs.size (.ref L) [] .none) _ _ _;unfold Vt;refine bD (So (T:="list") ⟨_,k0 _ _ ho,rfl⟩ ?_);rw[Ő (by decide)];refine bD (oI (k0 _ _ ho) D λc ZV k1=>?_);have N:=k1 _ _ (k0 _ _ ho);have O:c.DictOf (aG X.prog X.w) s.heap.objs.size []:=by
  obtain⟨o,es,ep,ho,r⟩:=v;exact⟨o,es,ep,k1 _ _ ho,r⟩
 have k:s.heap.objs.size<c.objs.size:=by
  obtain⟨o,es,ep,ho,r⟩:=O;exact ez ho
 refine bD (N3 (bD (Tj ⟨_,N,rfl,n,rfl⟩ ?_)));refine df ⟨Py cU _,yA (A:=X.A.in1) (ax:=L) (I:=c.objs.size) (d:=s.heap.objs.size) (its:=(as.map hY).toArray) (ps:=vs) D (hQ (P6 G k)) (hQ k) (hQ G) ⋯ (by simp;lia) vs.length 0 _ [] ⋯ (ki _) ⟨_,eH _ rfl,rfl,rfl⟩ ⟨_,cK _ N,rfl,n,rfl⟩ (hU _) (λj q hq=>?_) (O.push _) (by rw[Lx,mf,Xo,v2];exact(i5 (f:=λp:Str×V=>p.1) (g:=λx=>(ko x:Key))▸(Ĳ _ (λa b L8 z=>L8 (by injection z)) Jj)) ) λh' tk Lm kp=>?_⟩
 ·obtain⟨a,p,o,m,t,z1,z2,z3,Y,z5,z6⟩:=v4 j q hq;have i:=ez Y;refine⟨a,o,m,.str p.1 t,by simp[z1],hQ i,hQ (P6 i k),cK _ (k1 _ _ (k0 _ _ Y)),z5,z6,?_⟩;rw[z3];show Qm p.1 (.str p.1 t)=b8;simp[Qm]
 ·refine⟨rfl,.ref s.heap.objs.size,upd H s.heap.objs.size (.dK (ps.map λp=>((ko p.1:Key),p.2))),I.laid (a:=s.heap.objs.size) (λb u z=>?_) (hU _) ⟨by rw[c4];lia,?_,vs,v3,?_⟩,rfl,q _ (I.Ja.fresh (hU _))⟩
  ·have i:=ez z;exact kp b u (hQ i) (hQ (P6 i k)) (cK _ (k1 _ _ (k0 _ _ z)))
  ·exact beq_eq_false_iff_ne.mpr (H0 I.big)
  ·simpa using Lm
end
section
theorem Inv.freeze(I:Inv X pins σ H s)(a:H r=a5 (.dK kvs))(ho:s.heap.get? r=a5 o):Inv X pins σ (upd H r (.Kq o (.dK kvs))) s:=by
 have c:∀b u,H b=a5 u->u≠.dK kvs->b≠r:=λb u e n z=>by subst z;rw[a]at e;cases e;exact n rfl
 exact I.write (t':=s.toks) (x:=r) (e:=r) (by rw[a];trivial) (.inl rfl) (λb u _ q=>q) ⟨o,ho⟩ ⟨ho,(I.Ja r _ a).fA (λ_ _ _ q=>q) (λb q=>by rw[au (c b _ q (λz=>by cases z))];exact q) λb xs q=>by rw[au (c b _ q (λz=>by cases z))];exact q⟩
end
noncomputable def TL(r:fR)(o:Obj)(kvs:List (Key×V)):It :=
 ⟨λi H=>H r=a5 (.Kq o (.dK kvs))/\i<kvs.length,λi H x H'=>∃p,H p=b6/\x=.ref p/\∀k v,kvs[i]?=a5 (k,v)->H'=upd H p (.tup [kV k,v]),λi H=>H r=a5 (.Kq o (.dK kvs))/\kvs.length<=i⟩
theorem EB(h:(aG P w).is k u=b8):RelV (kV k) u:=by
 rcases bg (show jk k u=b8 from h) with⟨i,t,rfl,rfl⟩|⟨y,t,rfl,rfl⟩
 ·exact⟨t,rfl⟩
 ·exact⟨t,rfl⟩
theorem Di:∀{kvs:List (Key×V)}{vs:List (Key×d3)},KV kvs vs->∀(i:Nat) (h:i<kvs.length) (h':i<vs.length),kvs[i].1=vs[i].1/\RelV kvs[i].2 vs[i].2
 |_,_,.cons a _,0,_,_=>a
 |_,_,.cons _ b,i+1,h,h'=>Di b i (by simpa using h) (by simpa using h')
theorem r_{K:PySem.W.Frag}(g:o.data=.dict D ep):
  Turn P w K (.Tuple es kx ps) (TL r o kvs) [it] it (λi h=>∃c d,IsItemIter h it r i kvs.length ep c d) where
 mem:=by simp
 obj:=λi h ⟨c,d,st⟩ b a=>by
  rw[i7.mp a];exact⟨_,st,λv z=>by
    have Y:TR _=Yc v:=z;cases Y⟩
 keep:=λi h h' ⟨c,d,st⟩ k=>⟨c,d,k it (by simp) _ st⟩
 item:=by
  intro X n p hK G i pins s σ H E I j ⟨c,d,st⟩ t;subst n p;obtain⟨u,hi⟩:=t;obtain⟨ho,z1,z2,vs,kv,o',XY,M0,e,x,f,y⟩:=(show bA X.prog X.w H s.heap r (.Kq o (.dK kvs)) from I.Ja r _ u)
  rw[ho]at e;cases e;rw[g]at f;cases f;have hl:vs.length=kvs.length:=(Paired.length kv).symm;have B:s.heap.DictAt (aG X.prog X.w) r vs ep:=⟨o,D,ho,x,g,y⟩
  obtain⟨q,hq,e1,e2⟩:∃q,vs[i]?=a5 q/\kvs[i].1=q.1/\RelV kvs[i].2 q.2:=by
   have J:i<vs.length:=by lia
   refine⟨vs[i],by simp[J],?_⟩;exact Di kv i hi J
  rw[<-hl]at st;refine wpAny_pyNext_items_item st B (k:=q.1) (v:=q.2) hq λkey h1 hk C hT hsz Oq=>⟨_,rfl,wpAny_letOwnedTupleGo_items (s:={s with heap:=h1}) C λl L N=>?_⟩
  have O:it<s.heap.objs.size:=ez st;have Ts:l.get? s.heap.objs.size=a5 {cls:=.type "tuple",data:=.seq #[key,q.2]}:=(N.2 _ (H0 O)).trans hT;have k2:∀b o,b∉[it]->s.heap.get? b=a5 o->l.get? b=a5 o:=λb o a q=>by
   have m:b≠it:=λz=>a (by simp[z]);exact(N.2 b m).trans (Oq b o m q)
  have I2:Inv X pins σ (upd H s.heap.objs.size (.tup [kV kvs[i].1,kvs[i].2])) {s with heap:=l,toks:=s.toks}:=I.kK j k2 (hU _)
   (show bA X.prog X.w _ l _ (.tup [kV kvs[i].1,kvs[i].2]) from⟨by show 2<=cL;decide,[key,q.2],.cons (by rw[e1];exact EB hk) (.cons e2 .nil),⟨_,Ts,rfl,_,rfl⟩⟩)
  refine⟨.ref s.heap.objs.size,_,I2,rfl,⟨_,I.Ja.fresh (hU _),rfl,λk v T=>?_⟩,⟨_,_,by rw[hl]at L;exact L⟩,λb a=>?_⟩
  ·rw[mN hi]at T;rw[vl T]
  ·have m:b≠s.heap.objs.size:=by rw[i7.mp a];exact hQ O
   rw[au m];exact(j b a).1
 done:=by
  intro X n p hK G i pins s σ H E I j ⟨c,d,st⟩ t;subst n p;obtain⟨u,hi⟩:=t;obtain⟨ho,z1,z2,vs,kv,o',XY,M0,e,x,f,y⟩:=(show bA X.prog X.w H s.heap r (.Kq o (.dK kvs)) from I.Ja r _ u)
  rw[ho]at e;cases e;rw[g]at f;cases f;have hl:vs.length=kvs.length:=(Paired.length kv).symm;have B:s.heap.DictAt (aG X.prog X.w) r vs ep:=⟨o,D,ho,x,g,y⟩
  rw[<-hl]at st;exact wpAny_pyNext_items_end (by simpa using I.ok.hd G) st B (Qk ⋯) λh' ND=>⟨rfl,I.oF (t':=s.toks) j λb o a q=>ND b o (λz=>a (by simp[z])) q⟩
 self:=λA i s Q E ⟨c,d,st⟩ h=>kcp_self st h
section
end
section
def GU(te:TE):TI:=λσ H R=>te σ H λv a=>∃r kvs,v=.ref r/\a r=a5 (.dK kvs)/\∀o,R (TL r o kvs) (upd a r (.Kq o (.dK kvs)))
theorem wB(y:PE X e te)(A:Pz e "items" X.env (wk e X.env)=wk e X.env)(B:(c.endLine==C.line)=b8):
  PI X (.Tuple es kx ps) (.Call (.Attribute e "items" c) [] [] C) (GU te):=by
 intro pins s σ H R I D;refine TF A B (Jf (y pins s σ H _ I D) λv s1 G=>?_);obtain⟨x1,l,m,J,r,kvs,n,p,g⟩:=G;subst n;cases(show v=hY r from J);obtain⟨_,_,_,_,o,_,_,L,_⟩:=(show bA X.prog X.w l s1.heap r (.dK kvs) from m.Ja r _ p)
 have d:=m.freeze p L;have g:=g o;generalize N:upd l r (.Kq o (.dK kvs))=i at d g;have O:i r=a5 (.Kq o (.dK kvs)):=by rw[<-N];exact ay
 obtain⟨ho,n,lo,vs,kv,o',j,ep,q,f,h,k⟩:=(show bA X.prog X.w i s1.heap r (.Kq o (.dK kvs)) from d.Ja r _ O)
 rw[ho]at q;cases q;have hl:vs.length=kvs.length:=(Paired.length kv).symm;have hm:s1.heap.DictAt (aG X.prog X.w) r vs ep:=⟨o,j,ho,f,h,k⟩
 have t:s1.TypeIs (.ref r) "dict":=⟨o,ho,f.1⟩
 refine⟨"dict","dict.items",PySem.F.plainAttrs_dict,PySem.F.slot_dict_items,PySem.F.type_dict_items,t,λa e=>⟨o,by cases e;exact ho,f.2.1⟩,D6 rfl (PySem.evalArgs_none (Wz PySem.F.slot_dict_items t PySem.F.entry_dict_items (PySem.F.args_dict_items_1 _) (Ĩ (aG X.prog X.w) r lo) ⟨⟨vs,o,j,ep,ho,f,h,k⟩,?_⟩))⟩;have k1:∀b u,s1.heap.get? b=a5 u->(s1.heap.push {cls:=.type "dict_items",data:=.fields #[.ref r]}).get? b=a5 u:=λb u z=>cK _ z;have Q:(s1.heap.push {cls:=.type "dict_items",data:=.fields #[.ref r]}).DictAt (aG X.prog X.w) r vs ep:=⟨o,j,k1 _ _ ho,f,h,k⟩
 refine wpAny_pyIter_items (s:={s1 with heap:=s1.heap.push {cls:=.type "dict_items",data:=.fields #[.ref r]}}) ⟨_,eH _ rfl,rfl,rfl⟩ Q ?_;have hsz:(s1.heap.push {cls:=.type "dict_items",data:=.fields #[.ref r]}).objs.size=s1.heap.objs.size+1:=KO ..;have T:=d.kept (t':=s1.toks) (h':=(s1.heap.push {cls:=.type "dict_items",data:=.fields #[.ref r]}).push {cls:=.type "dict_itemiterator",data:=.fields #[.none,.bool cc,.ref r,.int 0 0,.int vs.length 0,.int ep 0,.none,.none]}) λb u z=>cK _ (k1 b u z);refine⟨_,[_],_,_,i,rfl,T,r_ (kvs:=kvs) h,⟨.none,.none,by rw[<-hl];exact eH _ rfl⟩,λb Y=>?_,g⟩;rw[i7.mp Y];have x:s1.heap.objs.size<=(s1.heap.push {cls:=.type "dict_items",data:=.fields #[.ref r]}).objs.size:=by rw[hsz];exact LB _
 exact d.xP x (d.Ja.fresh x)
end
end L2
namespace L2
open PySem PyProof.Rows PySem.W
def IH(h:Jy)(e C:fR)(a0:d3)(T:Option fR)(c:d3):Prop:=∃a vs,h.get? e=a5 a/\a.cls=.ref C/\a.data=.fields vs/\vs[0]?=a5 a0/\match T with
 |none=>vs[1]?=a5 .none
 |some T=>T≠e/\vs[1]?=a5 (.ref T)/\∃b ts,h.get? T=a5 b/\b.data=.fields ts/\ts[3]?=a5 c
structure bX(P:ve)(w:Jq)(stack:List Env)(H:Hp)(s:fS)(e C:fR)(T:Option fR)(fl:d3)(H':Hp)(s':fS):Prop where
 os:s'.os=s.os
 bare:To s'.gens
 un:Un (JO stack) [] H H' s.heap s'.heap
 Ja:J6 P w H' s'.heap
 new:s.heap.get? e=b6
 he:H' e=b6
 exc:∃a0,IH s'.heap e C a0 T fl
 hT:∀a,T=a5 a->s.heap.get? a=b6/\H' a=b6
noncomputable def Ot(P:ve)(w:Jq):N5:=λouter H s E v s'=>∃e C T H',v=.ref e/\bX P w outer H s e C (a5 T) .none H' s'/\E (.ref C) b6 H'
theorem bA.there(x:bA P w H h a o):∃u,h.get? a=a5 u:=by
 cases o with
 |lst xs=>obtain⟨_,_,_,_,e⟩:=x;exact⟨_,e⟩
 |tup xs=>obtain⟨_,_,_,_,e,_⟩:=x;exact⟨_,e⟩
 |set S n=>obtain⟨o,_,_,_,e,_⟩:=x;exact⟨_,e⟩
 |ins C c b=>obtain⟨_,_,_,e,_⟩:=x;exact⟨_,e⟩
 |own y=>exact x
 |xd b=>obtain⟨_,⟨_,_,_,e,_⟩,_⟩:=x;exact⟨_,e⟩
 |QX lo hi=>obtain⟨_,_,_,e⟩:=x;exact⟨_,e⟩
 |Kq d u=>exact⟨_,x.1⟩
 |Nu ps=>exact⟨_,x⟩
 |met f y=>exact⟨_,x⟩
 |ext φ=>exact x.2.1
 |_=>obtain⟨_,_,_,_,o,_,_,e,_⟩:=x;exact⟨_,e⟩
section
variable{P:ve}{w:Jq}{stack outer:List Env}{H H':Hp}{s s':fS}{e C L:fR}{T:Option fR}{fl:d3}{base:Jy}{env:Env}{M:Model}{A:N8}{E:d3->fS->Prop}{Q:Unit->fS->Prop}
theorem uC(u:Un (JO stack) [] H H' s.heap s'.heap)(a:∀b∈JO stack,H b=b6):∀l:List Env,(∀b∈JO l,b∈JO stack)->s.heap.FunFrames base l->s'.heap.FunFrames base l
 |[],_,_=>trivial
 |env::l,hs,⟨hk,⟨L,o,c,d,ho,f⟩,g⟩=>by
  have h:JO (env::l)=L::JO l:=by unfold JO;rw[I0,c]
  rw[h]at hs;obtain⟨j,q⟩:=u.any ho (a L (hs L nc)) λz=>nomatch z
  exact⟨hk,⟨L,_,c,d,q,f⟩,uC u a l (λb i=>hs b (l' _ i)) g⟩
theorem bX.next(F:bX P w stack H s e C T fl H' s')(k:s.heap.FunFrames base stack)(l:∀b∈JO stack,H b=b6)(G:B=hideAll s'.heap (e::(T.toList++JO stack))):
  B.StaysIn s'.heap/\s'.heap.FunFrames B stack/\B.get? e=b6/\(∀a,T=a5 a->B.get? a=b6) /\
   ∀h' i,B.StaysIn h'->h'.FunFrames B stack->h'.TracedAtW B e (.ref C) a0 i->s'.heap.UpToSlots h'->∃c,bX P w stack H s e C (a5 c) i H' {s' with heap:=h' }:=by
 have m:=uC F.un l _ (λ_ z=>z) k;subst G;refine⟨λb o q=>of_hideAll _ q,funFrames_hide m λI J a N=>l' _ (mA _ (OY.mpr ⟨I,J,N⟩)),hideAll_none _ nc,λa z=>hideAll_none _ (l' _ (QK _ (by simp[z]))),λh' i k1 k2 ⟨O,Y,c,X2,Mk,b1,⟨b2,b0⟩,b3,b4,b5,p,r,t,b9⟩ k4=>?_⟩;have X3:∀a,a∈e::(T.toList++JO stack)->H' a=b6:=λa ha=>by
  rcases et.mp ha with rfl|ha
  ·exact F.he
  rcases kj.mp ha with ha|ha
  ·exact(F.hT a (by simpa using ha)).2
  ·obtain⟨_,o,ho,_⟩:=k.mem ha;exact F.un.free a o ho (l a ha) λz=>nomatch z
 have keep:∀b o,b∉e::(T.toList++JO stack)->s'.heap.get? b=a5 o->h'.get? b=a5 o:=λb o hb q=>k1 b o (hideAll_get _ q hb);have slot:∀b o,b∈JO stack->s'.heap.get? b=a5 o->∃v,h'.get? b=a5 {o with slots:=v}:=λb o hb q=>by
  obtain⟨_,o',d,j⟩:=m.mem hb;rw[q]at d;cases d;exact k4 b o q j
 have x:∀b o,s.heap.get? b=a5 o->b∉JO stack->b∉e::(T.toList++JO stack):=λb o q hb z=>by
  rcases et.mp z with z|z
  ·rw[z,F.new]at q;cases q
  rcases kj.mp z with z|z
  ·rw[(F.hT b (by simpa using z)).1]at q;cases q
  ·exact hb z
 have tn:s.heap.get? c=b6/\H' c=b6:=by
  by_cases z:c∈e::(T.toList++JO stack)
  ·rcases et.mp z with z|z
   ·exact absurd z p
   rcases kj.mp z with z|z
   ·exact F.hT c (by simpa using z)
   ·obtain⟨_,o',d,j⟩:=k2.mem z;rw[r]at d;cases d;exact absurd t (j _)
  ·have q:s'.heap.get? c=b6:=by
    cases q:s'.heap.get? c with
    |none=>rfl
    |some o=>have:=hideAll_get _ q z;rw[b5]at this;cases this
   refine⟨?_,?_⟩
   ·cases f:s.heap.get? c with
    |none=>rfl
    |some o=>obtain⟨o',y⟩:=F.un.there _ o f λz=>nomatch z;rw[q]at y;cases y
   ·cases f:H' c with
    |none=>rfl
    |some u =>
     obtain⟨o,z⟩:=(F.Ja c u f).there;rw[q]at z;cases z
 refine⟨c,F.os,F.bare,⟨λb o q n hb g=>keep b o (x b o q hb) (F.un.keep b o q n hb g),λb o q n hb g=>?_,F.un.free,λb o q g=>?_,F.un.eX,F.un.J_,F.un.Kj⟩,λa u q=>(F.Ja a u q).fA (λb o hb d=>?_) (λ_ z=>z) λ_ _ z=>z,F.new,F.he,⟨_,O,Y,b1,b2,b3,b0,p,b4,X2,Mk,r,t,b9⟩,λa z=>by cases z;exact tn⟩
 ·obtain⟨v,h⟩:=F.un.slot b o q n hb g;obtain⟨D,f⟩:=slot b _ hb h;exact⟨D,f⟩
 ·obtain⟨o',h⟩:=F.un.there b o q g;by_cases hb:b∈JO stack
  ·obtain⟨D,f⟩:=slot b _ hb h;exact⟨_,f⟩
  ·exact⟨_,keep b _ (x b o q hb) h⟩
 ·refine keep b o (λz=>?_) d;have:=X3 b z;rcases hb with rfl|hb
  ·rw[q]at this;cases this
  ·rw[hb]at this;cases this
theorem bX.leave(F:bX P w (env::outer) H s e C T .none H' s')(c:A.frames=a5 (env::outer))(d:env.frame=a5 L)(q:s.heap.FunFrames base (env::outer))(r:∀b∈JO (env::outer),H b=b6)
  (h:∀f g,bX P w (env::outer) H s e C (a5 f) .none H' g->Q () g):d4 M A (leaving env (.ref e)) Q E s':=by
 obtain⟨a0,t,vs,i,j,k,l,m⟩:=F.exc;obtain⟨B,u⟩:∃B,B=hideAll s'.heap (e::(T.toList++JO (env::outer))):=⟨_,rfl⟩
 obtain⟨n,o,p,v,x⟩:=F.next (a0:=a0) q r u;have a:∀h',Heap.LeftW B (env::outer) e (.ref C) a0 s'.heap h'->Q () {s' with heap:=h' }:=λh' y=>by
  obtain⟨k1,k2,k3,D⟩:=y;obtain⟨f,z⟩:=x h' .none k1 k2 k3 D;exact h _ _ z
 cases T with
 |none=>exact wpAny_leaving_firstW c o d i n p k m l λh' z=>a h' (j▸z)
 |some T =>
  obtain⟨G,I,J,ts,N,O,Y⟩:=m;exact wpAny_leaving_nextW c o d ⟨t,vs,T,J,ts,i,⟨j,l⟩,k,I,v T rfl,G,N,O,Y⟩ n p a
theorem bX.note{T:fR}(F:bX P w (env::outer) H s e C (a5 T) .none H' s')(d:A.frames=a5 (env::outer))(f:env.frame=a5 L)(g:s.heap.FunFrames base (env::outer))(i:∀b∈JO (env::outer),H b=b6)
  (h:∀a c,bX P w (env::outer) H s e C (a5 a) (u5 L) H' c->Q () c):d4 M A (noteFrame (.ref e) env) Q E s':=by
 obtain⟨a0,j,vs,k,l,m,n,o,p,q,ts,r,t,u⟩:=F.exc;obtain⟨v,x,y,B,D⟩:=F.next (a0:=a0) g i rfl;refine wpAny_noteFrame_onW d x f ⟨j,vs,T,q,ts,k,⟨l,n⟩,m,p,B T rfl,o,r,t,u⟩ v y λh' G=>?_;obtain⟨k1,k2,k3,I⟩:=G;obtain⟨a,z⟩:=D h' _ k1 k2 k3 I;exact h _ _ z
theorem bX.land{T:fR}(F:bX P w stack H s e C (a5 T) fl H' s')(d:s.heap.FunFrames base stack)(f:∀b∈JO stack,H b=b6)
  (h:∀a c,bX P w stack H s e C (a5 a) .none H' c->Q () c):d4 M A (setFlight (.ref e) b6) Q E s':=by
 obtain⟨a0,g,vs,i,j,k,l,m,p,r,ts,t,u,v⟩:=F.exc;obtain⟨x,y,I,B,D⟩:=F.next (a0:=a0) d f rfl;refine wpAny_setFlight_noneW x y ⟨g,vs,T,r,ts,i,⟨j,l⟩,k,p,B T rfl,m,t,u,v⟩ λh' k1 k2 k3 G=>?_;obtain⟨a,z⟩:=D h' _ k1 k2 k3 λb o q n=>⟨o.slots,G b o q n⟩
 exact h _ _ z
end
section
theorem bX.down(I:Inv X pins σ H s)(j:X.ex=[])(hs:X.stack=X.env::X.outer)(k:X.env.frame=a5 X.env.locals)(F:bX X.prog X.w X.stack H s e C T l H' s'):bX X.prog X.w X.outer X.H₀ X.s₀ e C T l H' s':=by
 have nx:∀b:fR,b∉X.ex:=λb z=>by rw[j]at z;cases z
 have i:JO X.stack=X.env.locals::JO X.outer:=by rw[hs];unfold JO;rw[I0,k]
 have c:∀b,s.heap.get? b=b6->X.s₀.heap.get? b=b6:=λb q=>by
  cases z:X.s₀.heap.get? b with
  |none=>rfl
  |some o=>obtain⟨o',z⟩:=I.base.there b o z (nx b);rw[q]at z;cases z
 have hl:∀b o,X.s₀.heap.get? b=a5 o->b≠X.env.locals:=λb o q=>hQ (i2 (ez q) I.ok.above);have g:∀b:fR,b∉([]:List fR):=λb z=>nomatch z
 refine⟨F.os.trans I.os,F.bare,⟨λb o q n f _=>?_,λb o q n f _=>?_,λb o q n _=>?_,λb o q _=>?_,λb xs q=>F.un.eX b xs (I.base.eX b xs q),λb o u q=>F.un.J_ b o u (I.base.J_ b o u q),λb ps q=>?_⟩,F.Ja,c _ F.new,F.he,F.exc,λa z=>⟨c _ (F.hT a z).1,(F.hT a z).2⟩⟩
 ·exact F.un.keep b o (I.base.keep b o q n f (nx b)) (I.base.free b o q n (nx b)) (λz=>by rw[i]at z;exact(et.mp z).elim (hl b o q) f) (g b)
 ·obtain⟨p,d⟩:=I.base.slot b o q n f (nx b);obtain⟨m,h⟩:=F.un.slot b _ d (I.base.free b o q n (nx b)) (by rw[i];exact l' _ f) (g b);exact⟨m,h⟩
 ·obtain⟨o',d⟩:=I.base.there b o q (nx b);exact F.un.free b o' d (I.base.free b o q n (nx b)) (g b)
 ·obtain⟨o',d⟩:=I.base.there b o q (nx b);exact F.un.there b o' d (g b)
 ·obtain⟨m1,d⟩:=I.base.Kj b ps q;obtain⟨m2,h⟩:=F.un.Kj b _ d;exact⟨m1++m2,by rw[h,ZW]⟩
theorem bX.made(I:Inv X pins σ H s)(b:Heap.MadeExcOf s.heap h' e (.ref C) vs):bX X.prog X.w X.stack H s e C b6 .none H {s with heap:=h' }:=by
 obtain⟨t,c,_⟩:=b.there;refine⟨rfl,I.bare,Un.kept b.keeps,I.Ja.kept b.keeps,b.new,?_,⟨_,_,_,c,rfl,rfl,rfl,rfl⟩,λa z=>nomatch z⟩;cases z:H e with
 |none=>rfl
 |some u=>obtain⟨o,q⟩:=(I.Ja e u z).there;rw[b.new]at q;cases q
noncomputable def O_:List d3:=[.type "ValueError",.type "Exception",.type "BaseException",.type "object"]
theorem EC{K:Frag}(b:K.In h)(q:excIn K C O_ a=b8):∃c N nm d bs hdct sn sub ab col dd k0 k1 k2 k3 k5 f,h.get? C=a5 (excClassObj nm d C N bs c hdct sn sub ab col dd k0 k1 k2 k3 k5 a)/\h.Ns N f/\f "__init__"=b6/\OwnTail h O_ c:=by
 unfold excIn at q;split at q
 ·rename_i dd k m ho;split at q
  ·rename_i s c k0 k1 k2 k3 n k5 g hs;simp only[cb,beq_iff_eq,t4]at q;obtain⟨⟨⟨⟨⟨rfl,rfl⟩,i⟩,o⟩,e⟩,j⟩:=q;obtain⟨nm,bs,mro,ns,d,p,sn,sub,ab,col,r⟩:=k
   dsimp only at g i e j
   subst g i;obtain⟨l⟩:=m;obtain rfl:l=_:=hs;exact⟨c,ns,nm,d,bs,p,sn,sub,ab,col,dd,k0,k1,k2,k3,k5,_,b _ _ ho,.of_isNs (isNs_of_in b e),nsMap_none_of_in b e j,tail_of_in b o⟩
  ·cases q
 ·cases q
theorem yC(g:X.calm=b8)(i:Gl X x)(d:X.mg x=a5 (.ref C))(j:(x==("__debug__":Str))=cc)(k:excIn X.K C O_ "ValueError.__new__"=b8)(l:PE X a m)
  (f:i3 [a] X.env=[(cc,wk a X.env)]) :
  PS X (.Raise (a5 (.Call (.Name x p) [a] [] z)) b6 pos) (λD σ H=>m σ H λv c=>∀pins s e s',Inv X pins σ c s->bX X.prog X.w X.stack c s e C b6 .none c s'->X.xe (.ref e) s'):=by
 intro pins s σ H D I h;obtain⟨A,N,nm,n,bs,hdct,sn,sub,ab,col,dd,k0,k1,k2,k3,k5,B,o,r,t,T⟩:=EC I.mod.OS k;refine wpAny_Raise_call_subT (nm:=nm) (q:=n) (N:=N) (bs:=bs) (hdct:=hdct) (sn:=sn) (sub:=sub) (ab:=ab) (col:=col) (dd:=dd) (k0:=k0) (k1:=k1) (k2:=k2) (k3:=k3) (k5:=k5) È (T.hasType È.hasBase) (I.ok.hd g) (by rw[f];rfl) t (eR I i d ⟨rfl,?_⟩ j);rw[f];refine Mm (Nt (Jf (l pins s σ H _ I h) λu s1 ⟨v,c,b,G,y⟩=>PB ⟨rfl,?_,b.bk _ _ o,r.keeps b.bk,T.keeps b.bk,λh' e d=>y pins s1 e _ b (.made b d)⟩));exact(by decide:1<=cL)
theorem GV:Passes (Ot X.prog X.w) X E0:=λ_ _ _ _ _ _ _ ⟨_,_,_,_,_,_,h⟩=>h.elim
theorem uD(F:iN X.prog X.w X.K X.mg X.base CX k f c ps sp)(d:ft k X.A)(g:Binds X.K c ps [])(I:Inv X pins σ H s)(r:Vals vs us)(h:sp vs H Q E)
  (i:∀e s',CX X.stack H s E e s'->EE e s'):d4 (gs X.prog X.w) X.A (Nd (.ref f) us) (EP X pins σ Q) EE s:=by
 have hl:us.length=ps.length:=by rw[<-r.length];exact F.len _ _ _ _ h
 have b:=g s us I.Ms (by rw[r6];exact hl);rw[r6]at b;refine ÿ (Sq (F.run X.A X.stack s H ⟨us,[]⟩ us vs Q E d I.GH b r h) λr s' a=>?_);cases r with
 |error e=>exact i e s' a
 |ok j =>
  cases j with
  |ret u=>exact I.after a
  |_=>exact Nv a
end
theorem ED{K:Frag}(b:K.In s.heap)(c:s.heap.get? e=a5 f)(i:f.cls=.ref C)(hk:(kitCls K (.ref C) (.ref D)==a5 b8&&C != D)=b8)(h:Q (.bool b8) s):
  d4 (gs prog w) A (Nd (.builtin "isinstance") [.ref e,.ref D]) Q E s:=by
 refine R9 (S:=λ_ R s=>(K.In s.heap/\s.heap.get? e=a5 f)/\R (.ok (.ret (.bool b8))) s) (λprog w A R s hs=>isinstance_outer ?_ λz=>nomatch z) ⟨⟨b,c⟩,h⟩;obtain⟨j,g,d,o,os⟩:=s;obtain⟨⟨b,c⟩,a⟩:=hs;rw[cb,beq_iff_eq,bne_iff_ne]at hk;obtain⟨hk,k⟩:=hk;have LT:Looks (gs prog w) j (Y8 (.ref e)) (.ref C):=by
  refine(ņ c).andThen ?_;rw[i];exact .now
 obtain⟨l,m,n⟩:=kit_cls (M:=gs prog w) b hk;unfold Mq.«isinstance.nested»;refine bD (LT.at ?_);rw[ő (by simp;exact k)];refine bD (l.at ?_);rw[Ő (by decide)]
 k_delta "plainIsInstance"
 refine bD (bD (m.at ?_));simp only[X_,J',if_false];refine bD ((LT.andThen n).at ?_)
 first
  |exact df (df a)
  |(simp only[if_true];first|exact df (df a)|exact df a|exact bD (df (df a)))
abbrev Cx.Ml(X:Cx)(e:fR)(a:Obj)(E:d3->fS->Prop):Cx:={X with A:=X.A.mark (a5 (.ref e)),calm:=cc,pn:=(e,a)::X.pn,xe:=E}
section
theorem Inv.Ml(I:Inv X pins σ H s)(b:s.heap.get? e=a5 a)(c:H e=b6)(d:e≠X.env.locals)(f:e∉X.fs)(g:∀v,a.data≠.cell v):Inv (X.Ml e a E) pins σ H s :=
 ⟨⟨I.ok.mod,I.ok.kind,I.ok.glob,I.ok.blt,I.ok.above,I.ok.inj,I.ok.has,I.ok.OT,λz=>(nomatch z),I.ok.frames,I.ok.Px,I.ok.RV,I.ok.bs,I.ok.MZ,I.ok.L0,I.ok.Mr,I.ok.jI,I.ok.N0⟩,I.os,I.bare,I.base,I.loc,I.cell,I.free,I.Jx,
  λp h=>(et.mp (show p∈(e,a)::(X.pn++pins) from h)).elim (λz=>by subst z;exact⟨b,c,d,f,g⟩) λz=>I.pin p z,I.Ja,I.len⟩
theorem Inv.II(a:X.Ok)(I:Inv (X.Ml e c E) pins σ H s):Inv X pins σ H s :=
 ⟨a,I.os,I.bare,I.base,I.loc,I.cell,I.free,I.Jx,λp b=>I.pin p (l' _ b),I.Ja,I.len⟩
theorem Inv.gone(I:Inv X pins σ H s)(D:X.N.Nodup)(w:X.N[j]?=a5 n)(hl:X.env.scope.names.lookup n=a5 .local)
  (h:∀s',Inv X pins (σ.set j b6) H s'->Q () s'):d4 M A (do bindName X.env n .none;unbindBehindTheSuite X.env n pos) Q E s:=by
 obtain⟨m,G,J⟩:=id I.loc;have L:(X.env.scope.kind==.class||(X.env.scope.kind==.module&&X.env.locals != X.env.globals))=cc:=by rw[I.ok.kind];rfl
 refine wpAny_nameGoes_keeps hl G L λh' v O hs=>h _ ?_;have x:=I.Mt;have T:j < σ.length:=by rw[I.len];exact(dV.mp w).1
 have k:∀b o,X.s₀.heap.get? b=a5 o->b≠X.env.locals:=λb o q=>hQ (i2 (ez q) I.ok.above);refine⟨I.ok,I.os,I.bare,⟨λb o e n t f=>(hs.2 b (k b o e)).trans (I.base.keep b o e n t f),λb o e n t f=>?_,I.base.free,λb o e f=>?_,I.base.eX,I.base.J_,I.base.Kj⟩,⟨_,O,λi y u B g Y=>?_⟩,λy c e=>?_,I.free,I.Jx,λp hp=>?_,λb ob e=>(I.Ja b ob e).fA (λc w' hc q=>(hs.2 c ?_).trans q) (λ_ q=>q) λ_ _ q=>q,by simpa using I.len⟩
 ·obtain⟨sl,q⟩:=I.base.slot b o e n t f;exact⟨sl,(hs.2 b (k b o e)).trans q⟩
 ·obtain⟨o',q⟩:=I.base.there b o e f;exact⟨o',(hs.2 b (k b o e)).trans q⟩
 ·have C:i≠j:=λz=>by subst z;rw[gj T]at g;cases g
  rw[i1 (ro C)]at g;obtain⟨u',r,l⟩:=J i y u B g Y;refine⟨u',r,l.imp (λ⟨a,b⟩=>⟨a,?_⟩) λ⟨a,c,b,d⟩=>⟨a,c,b,d.sameBut hs (x y c b)⟩⟩;show(if y=n then v else m y)=a5 u';rw[ő λ(z:y=n)=>C (gV D B (by rw[z];exact w))];exact b
 ·obtain⟨u,z⟩:=I.cell y c e;exact⟨u,z.sameBut hs (x y c e)⟩
 ·obtain⟨a,b,c,d⟩:=I.pin p hp;exact⟨(hs.2 p.1 c).trans a,b,c,d⟩
 ·rintro rfl;rcases hc with hc|hc
  ·rw[<-hc,I.free]at e;cases e
  ·rw[I.free]at hc;cases hc
end
end L2
namespace TM
open PySem L2
inductive U where
 |Jc|bl (b:Bool)|int (i:Int)|str (x:Str)
 |tup (xs:List U)|lst (xs:List U)
 |I_ (ks:List Str) (vs:List U)
mutual
noncomputable def Js:U->Bool
 |.tup xs=>bR xs
 |.lst _=>cc
 |.I_ _ _=>cc
 |.Jc=>b8|.bl _=>b8|.int _=>b8|.str _=>b8
noncomputable def bR:List U->Bool
 |[]=>b8
 |u::us=>Js u&&bR us
end
inductive Kd where|own|io|loc|any|bor (j:Nat)|IY
deriving DecidableEq
noncomputable def Kd.root:Kd->Bool
 |.own=>b8
 |.io=>b8
 |_=>cc
abbrev az:=List (Option (Kd×U))
structure Ct where
 P:ve
 w:Jq
 K:PySem.W.Frag
 H₀:Hp
 LF:fR->Prop
 IO:fR->Prop
 xw:U->Hp->Prop
def KL(K:PySem.W.Frag)(a:fR)(xs:List V):Prop :=
 ∃(o:Obj) (its:Array d3) (n:Nat),K.lookup a=a5 o/\o.cls=.type "list"/\o.dict=b6/\o.data=.seq its n/\its.size<=cL/\Vals xs its.toList
def Qn(K:PySem.W.Frag)(S:fR->Prop)(H:Hp)(a:fR)(vs:List V):Prop:=(S a/\Rd H a (.lst vs))\/KL K a vs
theorem Qn.sq(h:Qn K S H a vs):JA K H a vs:=h.elim (λz=>.inl z.2) .inr
def NO(H:Hp)(R:List V->Prop)(a:fR)(ks:List Str):Prop:=∃kvs:List (Key×V),H a=a5 (.dK kvs)/\kvs.map (·.1)=ks.map ko/\R (kvs.map (·.2))
section
variable(C:Ct)(S:fR->Prop)(H:Hp)
mutual
def Rep:U->V->Prop
 |.Jc,v=>v=.Jc
 |.bl b,v=>v=.bl b
 |.int i,v=>v=.int i
 |.str x,v=>v=.str x
 |.tup us,v=>∃a vs,v=.ref a/\JH C.K H a vs/\ak us vs
 |.lst us,v=>∃a vs,v=.ref a/\Qn C.K S H a vs/\ak us vs
 |.I_ ks us,v=>∃a,v=.ref a/\S a/\NO H (ak us) a ks
def ak:List U->List V->Prop
 |[],vs=>vs=[]
 |u::us,vs=>∃v r,vs=v::r/\Rep u v/\ak us r
end
end
def Tp:HO->Prop
 |.tup _=>True
 |.Kq _ (.tup _)=>True
 |_=>False
structure Mv(S:fR->Prop)(H:Hp)(S':fR->Prop)(H':Hp):Prop where
 sub:∀a,S a->S' a
 Qo:∀a o,H a=a5 o->Tp o->H' a=a5 o
 TV:∀a o,S a->H a=a5 o->H' a=a5 o
theorem Mv.X5(m:Mv S H S' H')(h:JH K H a vs):JH K H' a vs:=by
 rcases h with(h|⟨o,h⟩)|h
 ·exact .inl (.inl (m.Qo a _ h trivial))
 ·exact .inl (.inr ⟨o,m.Qo a _ h trivial⟩)
 ·exact .inr h
theorem Mv.X6(m:Mv S H S' H')(h:Qn K S H a vs):Qn K S' H' a vs:=by
 rcases h with⟨s,h|⟨o,h⟩⟩|h
 ·exact .inl ⟨m.sub a s,.inl (m.TV a _ s h)⟩
 ·exact .inl ⟨m.sub a s,.inr ⟨o,m.TV a _ s h⟩⟩
 ·exact .inr h
theorem NO.mv(b:∀o,H a=a5 o->H' a=a5 o)(c:∀vs,R vs->d vs)(h:NO H R a ks):NO H' d a ks :=
 let ⟨kvs,e,f,g⟩:=h;⟨kvs,b _ e,f,c _ g⟩
section
mutual
theorem Rep.NP(m:Mv S H S' H'):∀(u:U) (v:V),Rep C S H u v->Rep C S' H' u v
 |.Jc,_,h=>h
 |.bl _,_,h=>h
 |.int _,_,h=>h
 |.str _,_,h=>h
 |.tup us,v,h=>by
  obtain⟨a,vs,e,b,c⟩:=h;exact⟨a,vs,e,m.X5 b,ak.NP m us vs c⟩
 |.lst us,v,h=>by
  obtain⟨a,vs,e,b,c⟩:=h;exact⟨a,vs,e,m.X6 b,ak.NP m us vs c⟩
 |.I_ ks us,v,h=>by
  obtain⟨a,e,b,c⟩:=h;exact⟨a,e,m.sub a b,c.mv (λo q=>m.TV a o b q) λvs q=>ak.NP m us vs q⟩
theorem ak.NP(m:Mv S H S' H'):∀(us:List U) (vs:List V),ak C S H us vs->ak C S' H' us vs
 |[],_,h=>h
 |u::us,vs,h=>by
  obtain⟨v,r,e,a,b⟩:=h;exact⟨v,r,e,Rep.NP m u v a,ak.NP m us r b⟩
end
mutual
theorem Rep.wC:∀(u:U) (v:V),Js u=b8->Rep C S H u v->Rep C S' H u v
 |.Jc,_,_,h=>h
 |.bl _,_,_,h=>h
 |.int _,_,_,h=>h
 |.str _,_,_,h=>h
 |.tup us,v,i,h=>by
  obtain⟨a,vs,e,b,c⟩:=h;exact⟨a,vs,e,b,ak.wC us vs (by simpa[TM.Js] using i) c⟩
 |.lst us,v,i,h=>by simp[TM.Js]at i
 |.I_ ks us,v,i,h=>by simp[TM.Js]at i
theorem ak.wC:∀(us:List U) (vs:List V),bR us=b8->ak C S H us vs->ak C S' H us vs
 |[],_,_,h=>h
 |u::us,vs,i,h=>by
  obtain⟨v,r,e,b,c⟩:=h;have a:TM.Js u=b8/\bR us=b8:=by simpa[bR] using i
  exact⟨v,r,e,Rep.wC u v a.1 b,ak.wC us r a.2 c⟩
end
theorem Rep.mv(m:Mv S H S' H')(h:Rep C S H u v):Rep C S' H' u v:=Rep.NP m u v h
theorem ak.mv(m:Mv S H S' H')(h:ak C S H us vs):ak C S' H' us vs:=ak.NP m us vs h
theorem Rep.Js(i:TM.Js u=b8)(h:Rep C S H u v):Rep C S' H u v:=Rep.wC u v i h
theorem ak.Js(i:bR us=b8)(h:ak C S H us vs):ak C S' H us vs:=ak.wC us vs i h
theorem Mv.up(sub:∀a,S a->S' a):Mv S H S' H:=⟨sub,λ_ _ h _=>h,λ_ _ _ h=>h⟩
theorem ak.len:∀{us:List U}{vs:List V},ak C S H us vs->us.length=vs.length
 |[],_,h=>by cases h;rfl
 |u::us,vs,h=>by
  obtain⟨v,r,rfl,_,a⟩:=h;rw[ke,ke,ak.len a]
theorem ak.get:∀{us:List U}{vs:List V}{i:Nat}{u:U},ak C S H us vs->us[i]?=a5 u->∃v,vs[i]?=a5 v/\Rep C S H u v
 |[],_,_,_,_,e=>by simp at e
 |u::us,vs,0,w,h,e=>by
  obtain⟨v,r,rfl,a,_⟩:=h;simp at e;subst e;exact⟨v,rfl,a⟩
 |u::us,vs,i+1,w,h,e=>by
  obtain⟨v,r,rfl,_,b⟩:=h;obtain⟨c,d,h'⟩:=ak.get (i:=i) (u:=w) b (by simpa using e);exact⟨c,by simpa using d,h'⟩
theorem ak.append:∀{us ws:List U}{vs a:List V},ak C S H us vs->ak C S H ws a->ak C S H (us++ws) (vs++a)
 |[],_,_,_,h,h'=>by cases h;exact h'
 |u::us,ws,vs,a,h,h'=>by
  obtain⟨v,r,rfl,b,c⟩:=h;exact⟨v,r++a,rfl,b,c.append h'⟩
theorem ak.take:∀{us:List U}{vs:List V} (n:Nat),ak C S H us vs->ak C S H (us.take n) (vs.take n)
 |_,_,0,_=>by simp[ak]
 |[],_,n+1,h=>by cases h;simp[ak]
 |u::us,vs,n+1,h=>by
  obtain⟨v,r,rfl,a,b⟩:=h;exact⟨v,r.take n,rfl,a,b.take n⟩
theorem ak.drop:∀{us:List U}{vs:List V} (n:Nat),ak C S H us vs->ak C S H (us.drop n) (vs.drop n)
 |_,_,0,h=>h
 |[],_,n+1,h=>by cases h;simp[ak]
 |u::us,vs,n+1,h=>by
  obtain⟨v,r,rfl,b,a⟩:=h;exact a.drop n
theorem ak.set:∀{us:List U}{vs:List V} (n:Nat) {u:U}{v:V},ak C S H us vs->Rep C S H u v->ak C S H (us.set n u) (vs.set n v)
 |[],_,n,_,_,h,_=>by cases h;simp[ak]
 |u::us,vs,0,_,_,h,h'=>by
  obtain⟨v,r,rfl,b,a⟩:=h;exact⟨_,r,rfl,h',a⟩
 |u::us,vs,n+1,_,_,h,h'=>by
  obtain⟨v,r,rfl,b,a⟩:=h;exact⟨v,_,rfl,b,a.set n h'⟩
theorem ak.snoc(h:ak C S H us vs)(h':Rep C S H u v):ak C S H (us++[u]) (vs++[v]):=h.append ⟨v,[],rfl,h',rfl⟩
theorem ak.strs:∀{xs:List Str}{vs:List V},ak C S H (xs.map .str) vs↔vs=xs.map V.str
 |[],vs=>by simp[ak]
 |x::xs,vs=>by
  constructor
  ·rintro⟨v,r,rfl,a,b⟩;rw[ak.strs.mp b];have:v=.str x:=a;rw[this];rfl
  ·rintro rfl;exact⟨_,_,rfl,rfl,ak.strs.mpr rfl⟩
end
structure Ct.Eqv(C C':Ct):Prop where
 P:C.P=C'.P
 w:C.w=C'.w
 K:C.K=C'.K
section
mutual
theorem Rep.NQ(q:C.Eqv d):∀(u:U) (v:V),Rep C S H u v->Rep d S H u v
 |.Jc,_,h=>h
 |.bl _,_,h=>h
 |.int _,_,h=>h
 |.str _,_,h=>h
 |.tup us,v,h=>by
  obtain⟨a,vs,e,b,c⟩:=h;exact⟨a,vs,e,q.K▸b,ak.NQ q us vs c⟩
 |.lst us,v,h=>by
  obtain⟨a,vs,e,b,c⟩:=h;exact⟨a,vs,e,q.K▸b,ak.NQ q us vs c⟩
 |.I_ ks us,v,h=>by
  obtain⟨a,e,b,c⟩:=h;exact⟨a,e,b,c.mv (λ_ q=>q) λvs z=>ak.NQ q us vs z⟩
theorem ak.NQ(q:C.Eqv a):∀(us:List U) (vs:List V),ak C S H us vs->ak a S H us vs
 |[],_,h=>h
 |u::us,vs,h=>by
  obtain⟨v,r,e,b,c⟩:=h;exact⟨v,r,e,Rep.NQ q u v b,ak.NQ q us r c⟩
end
theorem Rep.cg(q:C.Eqv a)(h:Rep C S H u v):Rep a S H u v:=Rep.NQ q u v h
theorem ak.cg(q:C.Eqv a)(h:ak C S H us vs):ak a S H us vs:=ak.NQ q us vs h
end
def cV(C:Ct)(S:fR->Prop)(H:Hp)(r:fR):U->Prop
 |.lst us=>∃vs,H r=a5 (.lst vs)/\ak C S H us vs
 |.I_ ks us=>NO H (ak C S H us) r ks
 |_=>False
theorem cV.mv(m:Mv S H S' H')(a:∀o,H r=a5 o->H' r=a5 o)(h:cV C S H r u):cV C S' H' r u:=by
 cases u with
 |lst us=>obtain⟨vs,b,c⟩:=h;exact⟨vs,a _ b,c.mv m⟩
 |I_ ks us=>exact NO.mv a (λvs q=>q.mv m) h
 |_=>exact h
theorem cV.rep(hs:∀a,S a->S' a)(b:S' r)(h:cV C S H r u):Rep C S' H u (.ref r):=by
 cases u with
 |lst us=>obtain⟨vs,c,d⟩:=h;exact⟨r,vs,rfl,.inl ⟨b,.inl c⟩,d.mv (.up hs)⟩
 |I_ ks us=>exact⟨r,rfl,b,NO.mv (λ_ q=>q) (λvs q=>q.mv (.up hs)) h⟩
 |_=>exact h.elim
theorem cV.cg(q:C.Eqv a)(h:cV C S H r u):cV a S H r u:=by
 cases u with
 |lst us=>obtain⟨vs,b,c⟩:=h;exact⟨vs,b,c.cg q⟩
 |I_ ks us=>exact NO.mv (λ_ q=>q) (λvs z=>z.cg q) h
 |_=>exact h
theorem cV.some(h:cV C S H r u):∃o,H r=a5 o/\¬Tp o:=by
 cases u with
 |lst us=>obtain⟨vs,a,_⟩:=h;exact⟨_,a,λz=>z⟩
 |I_ ks us=>obtain⟨kvs,a,_⟩:=h;exact⟨_,a,λz=>z⟩
 |_=>exact h.elim
structure Cf where
 S:fR->Prop
 H:Hp
 σ:St
 st:az
 kid:Nat->List fR
def Cf.R1(c:Cf)(a:fR):Prop:=∃(j:Nat) (k:Kd) (u:U),k.root=b8/\c.st[j]?=a5 (a5 (k,u))/\c.σ[j]?=a5 (a5 (.ref a))
def Cf.RD(c:Cf)(j:Nat)(a:fR):Prop:=∃(u:U) (r:fR),c.st[j]?=a5 (a5 (.IY,u))/\c.σ[j]?=a5 (a5 (.ref r))/\(a=r\/a∈c.kid j)
def Cf.R(c:Cf)(a:fR):Prop:=c.R1 a\/∃j,c.RD j a
def PS(C:Ct)(S:fR->Prop):fR->Prop:=λa=>C.LF a\/S a
def fH(C:Ct)(S:fR->Prop)(H:Hp):Kd->U->V->Prop
 |.own,u,v=>∃r,v=.ref r/\¬S r/\¬C.LF r/\C.H₀ r=b6/\cV C S H r u
 |.io,u,v=>∃r,v=.ref r/\¬S r/\¬C.LF r/\C.IO r/\cV C S H r u
 |.loc,u,v=>Rep C S H u v
 |.any,u,v=>Rep C (PS C S) H u v
 |.bor _,_,_=>False
 |.IY,_,v=>∃r,v=.ref r
def du(C:Ct)(S:fR->Prop)(H:Hp):List U->List fR->Prop
 |[],as=>as=[]
 |u::us,as=>∃a as' b vs,as=a::as'/\u=.lst b/\H a=a5 (.lst vs)/\ak C S H b vs/\du C S H us as'
def cy(C:Ct)(S:fR->Prop)(H:Hp)(r:fR)(as:List fR):U->Prop
 |.I_ ks us=>∃kvs:List (Key×V),H r=a5 (.dK kvs)/\kvs.map (·.1)=ks.map ko/\kvs.map (·.2)=as.map V.ref/\(r::as).Nodup/\(∀a∈r::as,¬S a/\¬C.LF a/\C.H₀ a=b6)/\du C S H us as
 |_=>False
structure Ma(C:Ct)(c:Cf):Prop where
 kd:∀(j:Nat) (u:U) (r:fR),c.st[j]?=a5 (a5 (.IY,u))->c.σ[j]?=a5 (a5 (.ref r))->cy C c.S c.H r (c.kid j) u
 dj:∀(i j:Nat) (a:fR),c.RD i a->c.RD j a->i=j
 d1:∀(j:Nat) (a:fR),c.RD j a->¬c.R1 a
structure Ok(C:Ct)(c:Cf):Prop where
 same:∀a o,C.H₀ a=a5 o->¬C.IO a->c.H a=a5 o
 KR:∀a,c.S a->C.H₀ a=b6/\∃o,c.H a=a5 o
 par:∀a,C.LF a->(∃o,C.H₀ a=a5 o)/\¬C.IO a
 io:∀a,C.IO a->(∃o,C.H₀ a=a5 o)/\∃o,c.H a=a5 o
 len:c.st.length=c.σ.length
 sl:∀(i:Nat) (k:Kd) (u:U),c.st[i]?=a5 (a5 (k,u))->∃v,c.σ[i]?=a5 (a5 v)/\fH C c.S c.H k u v
 inj:∀(i j:Nat) (k k':Kd) (u u':U) (r:fR),k.root=b8->k'.root=b8->c.st[i]?=a5 (a5 (k,u))->c.st[j]?=a5 (a5 (k',u'))->c.σ[i]?=a5 (a5 (.ref r))->c.σ[j]?=a5 (a5 (.ref r))->i=j
 dd:Ma C c
structure Ns(c c':Cf):Prop where
 keep:∀a o,c.H a=a5 o->¬c.R a->c'.H a=a5 o
 there:∀a o,c.H a=a5 o->∃o',c'.H a=a5 o'
 roots:∀a,c'.R a->c.R a\/c.H a=b6
 sub:∀a,c.S a->c'.S a
 new:∀a,c'.S a->c.S a\/c.R a\/c.H a=b6
section
theorem Ns.refl(c:Cf):Ns c c:=⟨λ_ _ h _=>h,λ_ o h=>⟨o,h⟩,λ_ h=>.inl h,λ_ h=>h,λ_ h=>.inl h⟩
theorem Ns.none(n:Ns c b)(h:b.H a=.none):c.H a=.none:=by
 cases e:c.H a with
 |none=>rfl
 |some o=>obtain⟨o',q⟩:=n.there a o e;rw[h]at q;cases q
theorem Ns.trans(m:Ns c d)(n:Ns d e):Ns c e where
 keep:=λa o h b=>by
  refine n.keep a o (m.keep a o h b) λz=>?_;rcases m.roots a z with z|z
  ·exact b z
  ·rw[h]at z;cases z
 there:=λa o h=>let ⟨o',h'⟩:=m.there a o h;n.there a o' h'
 roots:=λa h=>by
  rcases n.roots a h with z|z
  ·exact m.roots a z
  ·exact .inr (m.none z)
 sub:=λa h=>n.sub a (m.sub a h)
 new:=λa h=>by
  rcases n.new a h with z|z|z
  ·exact m.new a z
  ·rcases m.roots a z with z|z
   ·exact .inr (.inl z)
   ·exact .inr (.inr z)
  ·exact .inr (.inr (m.none z))
theorem fH.rt(hk:k.root=b8)(h:fH C S H k u v):∃r,v=.ref r/\¬S r/\¬C.LF r/\(C.H₀ r=b6\/C.IO r)/\cV C S H r u:=by
 cases k with
 |own=>obtain⟨r,a,b,c,d,e⟩:=h;exact⟨r,a,b,c,.inl d,e⟩
 |io=>obtain⟨r,a,b,c,d,e⟩:=h;exact⟨r,a,b,c,.inr d,e⟩
 |_=>cases hk
theorem du.mem:∀{us:List U}{as:List fR}{a:fR},du C S H us as->a∈as->∃vs,H a=a5 (.lst vs)
 |[],as,a,h,ha=>by cases h;cases ha
 |u::us,as,a,h,ha=>by
  obtain⟨a',as',d,vs,rfl,_,b,_,c⟩:=h;rcases et.mp ha with rfl|ha
  ·exact⟨vs,b⟩
  ·exact du.mem c ha
theorem du.mv(m:Mv S H S' H'):∀{us:List U}{as:List fR},(∀a∈as,∀o,H a=a5 o->H' a=a5 o)->du C S H us as->du C S' H' us as
 |[],as,_,h=>h
 |u::us,as,b,h=>by
  obtain⟨a,as',c,vs,rfl,e,d,f,g⟩:=h;exact⟨a,as',c,vs,rfl,e,b a (by simp) _ d,f.mv m,du.mv m (λa i=>b a (by simp[i])) g⟩
theorem cy.fr(h:cy C S H r as u):∀a∈r::as,¬S a/\¬C.LF a/\C.H₀ a=b6:=by
 cases u<;>first|exact h.elim|(obtain⟨kvs,_,_,_,_,b,_⟩:=h;exact b)
theorem cy.there(h:cy C S H r as u):∀a∈r::as,∃o,H a=a5 o/\¬Tp o:=by
 cases u<;>first|exact h.elim|skip
 obtain⟨kvs,b,_,_,_,_,c⟩:=h;intro a ha;rcases et.mp ha with rfl|ha
 ·exact⟨_,b,λz=>z⟩
 ·obtain⟨vs,e⟩:=c.mem ha;exact⟨_,e,λz=>z⟩
theorem cy.mv(m:Mv S H S' H')(c:∀a∈r::as,¬S' a/\∀o,H a=a5 o->H' a=a5 o)(h:cy C S H r as u):cy C S' H' r as u:=by
 cases u<;>first|exact h.elim|skip
 obtain⟨kvs,d,e,f,g,i,j⟩:=h;exact⟨kvs,(c r (by simp)).2 _ d,e,f,g,λa b=>⟨(c a b).1,(i a b).2⟩,j.mv m λa b=>(c a (by simp[b])).2⟩
theorem Ma.of(d:Ma C c)(hk:e.kid=c.kid)(p:∀(j:Nat) (u:U),e.st[j]?=a5 (a5 (.IY,u))->c.st[j]?=a5 (a5 (.IY,u))/\e.σ[j]?=c.σ[j]?)(s:∀a,e.R1 a->c.R1 a\/∀j,¬c.RD j a)
  (m:Mv c.S c.H e.S e.H) (t:∀j a,c.RD j a->¬e.S a/\∀o,c.H a=a5 o->e.H a=a5 o):Ma C e:=by
 have b:∀j a,e.RD j a->c.RD j a:=λj a v=>by
  obtain⟨u,r,k,f,q⟩:=v;obtain⟨g,l⟩:=p j u k;rw[l]at f;rw[hk]at q;exact⟨u,r,g,f,q⟩
 refine⟨λj u r k f=>?_,λi j a h n=>d.dj i j a (b i a h) (b j a n),λj a h n=>?_⟩
 ·obtain⟨g,l⟩:=p j u k;rw[l]at f;rw[hk];exact cy.mv m (λa w=>t j a ⟨u,r,g,f,et.mp w⟩) (d.kd j u r g f)
 ·rcases s a n with z|z
  ·exact d.d1 j a (b j a h) z
  ·exact z j (b j a h)
theorem Ma.hs(d:Ma C c)(m:Mv c.S c.H S' H')(b:∀j a,c.RD j a->¬S' a/\∀o,c.H a=a5 o->H' a=a5 o):Ma C {c with H:=H',S:=S' } :=
 d.of rfl (λ_ _ e=>⟨e,rfl⟩) (λ_ z=>.inl z) m b
theorem Ok.root(f:Ok C c)(h:c.R r):¬c.S r/\¬C.LF r/\(C.H₀ r=b6\/C.IO r)/\∃o,c.H r=a5 o/\¬Tp o:=by
 rcases h with⟨j,k,u,hk,b,d⟩|⟨j,u,g,b,d,a⟩
 ·obtain⟨v,e,hs⟩:=f.sl j _ _ b;obtain⟨g,ev,a,l,m,n⟩:=hs.rt hk;rw[d]at e;cases e;cases ev;exact⟨a,l,m,n.some⟩
 ·have i:=f.dd.kd j u g b d;obtain⟨p,q,s⟩:=cy.fr i r (et.mpr a);exact⟨p,q,.inl s,cy.there i r (et.mpr a)⟩
theorem Ok.mv(b:Ok C c)(n:Ns c d):Mv c.S c.H d.S d.H:=⟨n.sub,λa o h t=>n.keep a o h λz=>by
  obtain⟨_,_,_,o',h',e⟩:=b.root z;rw[h]at h';cases h';exact e t,λa o s h=>n.keep a o h λz=>(b.root z).1 s⟩
theorem Ok.Nf(b:Ok C c)(n:Ns c d):Mv (PS C c.S) c.H (PS C d.S) d.H:=⟨λa h=>h.imp id (n.sub a),(b.mv n).Qo,λa o s h=>n.keep a o h λz=>by
  rcases s with s|s
  ·exact(b.root z).2.1 s
  ·exact(b.root z).1 s⟩
theorem Ok.jL(a:Ok C c)(h:c.H p=b6):C.H₀ p=b6/\¬c.S p/\¬C.LF p/\¬C.IO p/\¬c.R p:=by
 have b:¬C.IO p:=λz=>by obtain⟨_,o,q⟩:=a.io p z;rw[h]at q;cases q
 have d:C.H₀ p=b6:=by
  cases e:C.H₀ p with
  |none=>rfl
  |some o=>have:=a.same p o e b;rw[h]at this;cases this
 refine⟨d,λz=>?_,λz=>?_,b,λz=>?_⟩
 ·obtain⟨_,o,q⟩:=a.KR p z;rw[h]at q;cases q
 ·obtain⟨⟨o,q⟩,_⟩:=a.par p z;rw[d]at q;cases q
 ·obtain⟨_,_,_,o,q,_⟩:=a.root z;rw[h]at q;cases q
theorem fH.mv(m:Mv S H S' H')(i:Mv (PS C S) H (PS C S') H')(g:k.root=b8->∀r,v=.ref r->¬S' r/\∀o,H r=a5 o->H' r=a5 o)(h:fH C S H k u v):fH C S' H' k u v:=by
 cases k with
 |own =>
  obtain⟨r,e,l,a,b,c⟩:=h;obtain⟨d,f⟩:=g rfl r e;exact⟨r,e,d,a,b,c.mv m f⟩
 |io =>
  obtain⟨r,e,l,a,b,c⟩:=h;obtain⟨d,f⟩:=g rfl r e;exact⟨r,e,d,a,b,c.mv m f⟩
 |loc=>exact Rep.mv m h
 |any=>exact Rep.mv i h
 |bor j=>exact h.elim
 |IY=>exact h
structure Nx(c c':Cf):Prop extends Ns c c' where
instance {c a:Cf}:Coe (Nx c a) (Ns c a):=⟨Nx.toNs⟩
theorem Nx.refl(c:Cf):Nx c c:=⟨.refl c⟩
theorem Nx.trans(m:Nx c a)(n:Nx a b):Nx c b:=⟨m.toNs.trans n.toNs⟩
theorem Nx.none(n:Nx c b)(h:b.H a=.none):c.H a=.none:=n.toNs.none h
theorem Ok.lay(b:Ok C c)(h:c.H p=b6):Ok C {c with H:=upd c.H p o}/\Nx c {c with H:=upd c.H p o}:=by
 have l:∀{a:fR} {o':HO},c.H a=a5 o'->a≠p:=λe z=>by subst z;rw[h]at e;cases e
 have d:∀a o',c.H a=a5 o'->(upd c.H p o) a=a5 o':=λa o' e=>by rw[au (l e)];exact e
 have nx:Nx c {c with H:=upd c.H p o}:=⟨⟨λa o' e _=>d a o' e,λa o' e=>⟨o',d a o' e⟩,λa z=>.inl z,λ_ z=>z,λ_ z=>.inl z⟩⟩
 refine⟨⟨λa o' e z=>d a o' (b.same a o' e z),λa z=>⟨(b.KR a z).1,let ⟨o',q⟩:=(b.KR a z).2;⟨o',d a o' q⟩⟩,b.par,λa z=>⟨(b.io a z).1,let ⟨o',q⟩:=(b.io a z).2;⟨o',d a o' q⟩⟩,b.len,λi k u e=>?_,b.inj,b.dd.hs (b.mv nx.toNs) λj a z=>⟨(b.root (.inr ⟨j,z⟩)).1,λo' e=>d a o' e⟩⟩,nx⟩;obtain⟨v,m,f⟩:=b.sl i k u e;refine⟨v,m,f.mv (b.mv nx.toNs) (b.Nf nx.toNs) λhk r n=>?_⟩;obtain⟨t,g,s,_⟩:=f.rt hk;rw[n]at g;cases g;exact⟨s,λo' e=>d r o' e⟩
theorem Ok.grow(b:Ok C c)(hs:pU c.H H')(g:∀a,S' a->c.S a\/(c.H a=b6/\∃o,H' a=a5 o))(p:∀a,c.S a->S' a):Ok C {c with H:=H',S:=S' }/\Nx c {c with H:=H',S:=S' }:=by
 have nx:Nx c {c with H:=H',S:=S' }:=⟨⟨λa o' e _=>hs a o' e,λa o' e=>⟨o',hs a o' e⟩,λa z=>.inl z,p,λa z=>(g a z).imp id λq=>.inr q.1⟩⟩
 refine⟨⟨λa o' e z=>hs a o' (b.same a o' e z),λa z=>?_,b.par,λa z=>⟨(b.io a z).1,let ⟨o',q⟩:=(b.io a z).2;⟨o',hs a o' q⟩⟩,b.len,λi k u e=>?_,b.inj,b.dd.hs (b.mv nx.toNs) λj a z=>⟨λd=>?_,λo' e=>hs a o' e⟩⟩,nx⟩
 rotate_left 2
 ·obtain⟨f,_,_,o,h,_⟩:=b.root (.inr ⟨j,z⟩);rcases g a d with d|⟨d,_⟩
  ·exact f d
  ·rw[h]at d;cases d
 ·rcases g a z with q|⟨f,l⟩
  ·exact⟨(b.KR a q).1,let ⟨o',q⟩:=(b.KR a q).2;⟨o',hs a o' q⟩⟩
  ·exact⟨(b.jL f).1,l⟩
 ·obtain⟨v,s,m⟩:=b.sl i k u e;refine⟨v,s,m.mv (b.mv nx.toNs) (b.Nf nx.toNs) λhk r t=>?_⟩;obtain⟨w,n,f,l,x,h⟩:=m.rt hk;rw[t]at n;cases n;obtain⟨o,ho,_⟩:=h.some;refine⟨λz=>?_,λo' e=>hs r o' e⟩;rcases g r z with z|⟨z,_⟩
  ·exact f z
  ·rw[z]at ho;cases ho
def aL(C:Ct)(a c:Cf):Kd->U->V->Prop
 |.own,u,v=>∃r,v=.ref r/\a.H r=b6/\¬c.S r/\¬c.R r/\cV C c.S c.H r u
 |.loc,u,v=>Rep C c.S c.H u v
 |.any,u,v=>Rep C (PS C c.S) c.H u v
 |.bor j,u,v=>(∃k:Kd,k.root=b8/\c.st[j]?=a5 (a5 (k,u)))/\c.σ[j]?=a5 (a5 v)
 |.io,_,_=>False
 |.IY,_,_=>False
def fI(C:Ct)(a c:Cf):Kd->U->V->Prop
 |.own,u,v=>∃r,v=.ref r/\a.H r=b6/\¬c.S r/\¬c.R r/\cV C c.S c.H r u
 |.loc,u,v=>Rep C c.S c.H u v
 |.any,u,v=>Rep C (PS C c.S) c.H u v
 |.bor j,u,v=>c.σ[j]?=a5 (a5 v)
 |.io,_,_=>False
 |.IY,_,_=>False
theorem aL.w(h:aL C a c k u v):fI C a c k u v:=by
 cases k with
 |bor j=>exact h.2
 |_=>exact h
theorem fI.VL(a:Ok C c)(n:Ns c b)(g:∀j,k=.bor j->b.σ[j]?=c.σ[j]?)(h:fI C i c k u v):fI C i b k u v:=by
 cases k with
 |own =>
  obtain⟨r,e,l,m,d,f⟩:=h;obtain⟨o,ho,_⟩:=f.some;refine⟨r,e,l,λz=>?_,λz=>?_,f.mv (a.mv n) λo q=>n.keep r o q d⟩
  ·rcases n.new r z with z|z|z
   ·exact m z
   ·exact d z
   ·rw[z]at ho;cases ho
  ·rcases n.roots r z with z|z
   ·exact d z
   ·rw[z]at ho;cases ho
 |loc=>exact Rep.mv (a.mv n) h
 |any=>exact Rep.mv (a.Nf n) h
 |bor j=>show b.σ[j]?=_;rw[g j rfl];exact h
 |_=>exact h
theorem fI.on(b:Ok C c)(n:Ns c a)(d:a.σ=c.σ)(h:fI C e c k u v):fI C e a k u v:=h.VL b n λj _=>by rw[d]
theorem fI.from(n:Ns a b)(h:fI C b c k u v):fI C a c k u v:=by
 cases k with
 |own=>obtain⟨r,e,d,f⟩:=h;exact⟨r,e,n.none d,f⟩
 |_=>exact h
theorem aL.from(n:Ns a b)(h:aL C b c k u v):aL C a c k u v:=by
 cases k with
 |own=>obtain⟨r,e,d,f⟩:=h;exact⟨r,e,n.none d,f⟩
 |_=>exact h
def SK(C:Ct)(c:Cf):Kd->fR->Prop
 |.any=>PS C c.S
 |_=>c.S
noncomputable def kE:Kd->Kd
 |.any=>.any
 |_=>.loc
theorem Ok.rootOf(b:Ok C c){j:Nat}(h:∃k:Kd,k.root=b8/\c.st[j]?=a5 (a5 (k,u)))(e:c.σ[j]?=a5 (a5 v)):∃r,v=.ref r/\¬c.S r/\¬C.LF r/\(C.H₀ r=b6\/C.IO r)/\cV C c.S c.H r u:=by
 obtain⟨k,hk,h⟩:=h;obtain⟨f,a,d⟩:=b.sl j _ _ h;rw[e]at a;cases a;exact d.rt hk
theorem aL.list(f:Ok C c)(h:aL C g c k (.lst us) v):∃a vs,v=.ref a/\JA C.K c.H a vs/\ak C (SK C c k) c.H us vs:=by
 cases k with
 |own=>obtain⟨r,e,_,_,_,vs,b,d⟩:=h;exact⟨r,vs,e,JA.of b,d⟩
 |bor j=>obtain⟨r,e,_,_,_,vs,b,d⟩:=f.rootOf h.1 h.2;exact⟨r,vs,e,JA.of b,d⟩
 |io=>exact h.elim
 |IY=>exact h.elim
 |_=>obtain⟨a,vs,e,b,d⟩:=h;exact⟨a,vs,e,b.sq,d⟩
theorem aL.tuple(b:Ok C c)(h:aL C g c k (.tup us) v):∃a vs,v=.ref a/\JH C.K c.H a vs/\ak C (SK C c k) c.H us vs:=by
 cases k with
 |own=>obtain⟨r,e,_,_,_,h⟩:=h;exact h.elim
 |bor j=>obtain⟨r,e,_,_,_,h⟩:=b.rootOf h.1 h.2;exact h.elim
 |io=>exact h.elim
 |IY=>exact h.elim
 |_=>obtain⟨a,vs,e,d,f⟩:=h;exact⟨a,vs,e,d,f⟩
theorem aL.flat(b:Ok C c)(a:Js u=b8)(h:aL C d c k u v):Rep C c.S c.H u v:=by
 cases k with
 |own=>obtain⟨r,e,_,_,_,h⟩:=h;cases u<;>simp[Js]at a<;>exact h.elim
 |loc=>exact h
 |any=>exact Rep.Js a h
 |bor j=>obtain⟨r,e,_,_,_,h⟩:=b.rootOf h.1 h.2;cases u<;>simp[Js]at a<;>exact h.elim
 |_=>exact h.elim
theorem aL.int(a:Ok C c)(h:aL C b c k (.int i) v):v=.int i:=h.flat a rfl
theorem aL.str(a:Ok C c)(h:aL C b c k (.str x) v):v=.str x:=h.flat a rfl
theorem aL.bl(a:Ok C c)(h:aL C d c k (.bl b) v):v=.bl b:=h.flat a rfl
theorem aL.Jc(a:Ok C c)(h:aL C b c k .Jc v):v=.Jc:=h.flat a rfl
theorem aL.item(h:Rep C (SK C c k) c.H u v):aL C a c (kE k) u v:=by
 cases k<;>exact h
def KS(H:Hp):fR->Prop:=λa=>∃o,H a=a5 o
theorem Ok.yD(b:Ok C c):∀a,c.S a->KS c.H a:=λa h=>(b.KR a h).2
theorem Ok.GW(b:Ok C c):∀a,PS C c.S a->KS c.H a:=λa h=>by
 rcases h with h|h
 ·obtain⟨⟨o,e⟩,n⟩:=b.par a h;exact⟨o,b.same a o e n⟩
 ·exact b.yD a h
theorem aL.read(a:Ok C c)(h:aL C d c k u v):Rep C (KS c.H) c.H u v:=by
 cases k with
 |own =>
  obtain⟨r,e,_,_,_,b⟩:=h;rw[e];obtain⟨o,ho,_⟩:=b.some;exact b.rep a.yD ⟨o,ho⟩
 |loc=>exact Rep.mv (.up a.yD) h
 |any=>exact Rep.mv (.up a.GW) h
 |bor j =>
  obtain⟨r,e,_,_,_,b⟩:=a.rootOf h.1 h.2;rw[e];obtain⟨o,ho,_⟩:=b.some;exact b.rep a.yD ⟨o,ho⟩
 |_=>exact h.elim
theorem Ok.newList(a:Ok C c)(n:Nx b c)(h:c.H p=b6)(e:ak C c.S c.H us vs):
  Ok C {c with H:=upd c.H p (.lst vs)}/\Nx b {c with H:=upd c.H p (.lst vs)}/\aL C b {c with H:=upd c.H p (.lst vs)} .own (.lst us) (.ref p):=by
 obtain⟨f,d⟩:=a.lay (o:=.lst vs) h;obtain⟨j,g,k,l,i⟩:=a.jL h;exact⟨f,n.trans d,p,rfl,n.none h,g,i,vs,ay,e.mv (a.mv d.toNs)⟩
theorem Ok.EF(a:Ok C c)(n:Nx b c)(h:c.H p=b6)(e:ak C c.S c.H us vs):
  Ok C {c with H:=upd c.H p (.tup vs)}/\Nx b {c with H:=upd c.H p (.tup vs)}/\aL C b {c with H:=upd c.H p (.tup vs)} .loc (.tup us) (.ref p):=by
 obtain⟨f,d⟩:=a.lay (o:=.tup vs) h;exact⟨f,n.trans d,p,vs,rfl,JH.of ay,e.mv (a.mv d.toNs)⟩
end
inductive Ex(α:Type) where|ok (a:α)|exc (c:Str)
noncomputable def M(α:Type):=az->Option (Ex α×az)
namespace M
noncomputable def pure(a:α):M α:=λst=>a5 (.ok a,st)
noncomputable def fail:M α:=λ_=>b6
noncomputable def bind(m:M α)(f:α->M β):M β:=λst=>match m st with
 |none=>b6
 |some (.ok a,st')=>f a st'
 |some (.exc c,st')=>a5 (.exc c,st')
noncomputable def Jp(o:Option α):M α:=λst=>match o with
 |none=>b6
 |some a=>a5 (.ok a,st)
end M
noncomputable instance:Monad M:={pure:=M.pure,bind:=M.bind}
def W{α:Type}(m:M α)(st:az)(Q:α->az->Prop):Prop:=∃a st',m st=a5 (.ok a,st')/\Q a st'
section
theorem aq:W (pure a) st Q↔Q a st:=by
 constructor
 ·rintro⟨b,st',e,h⟩;cases e;exact h
 ·intro h;exact⟨a,st,rfl,h⟩
theorem ah:W (m >>= f) st Q↔W m st λa st'=>W (f a) st' Q:=by
 constructor
 ·rintro⟨b,st',e,h⟩;have d:M.bind m f st=a5 (.ok b,st'):=e;unfold M.bind at d;cases q:m st with
  |none=>rw[q]at d;cases d
  |some r =>
   obtain⟨r,s1⟩:=r;rw[q]at d;cases r with
   |ok a=>exact⟨a,s1,q,b,st',d,h⟩
   |exc c=>cases d
 ·rintro⟨a,s1,q,b,st',e,h⟩;refine⟨b,st',?_,h⟩;show M.bind m f st=_;unfold M.bind;rw[q];exact e
theorem bK:W (M.Jp o) st Q↔∃a,o=a5 a/\Q a st:=by
 cases o with
 |none=>exact⟨λ⟨_,_,e,_⟩=>(by cases e),λ⟨_,e,_⟩=>(by cases e)⟩
 |some a=>exact⟨λ⟨_,_,e,h⟩=>(by cases e;exact⟨a,rfl,h⟩),λ⟨_,e,h⟩=>(by cases e;exact⟨a,st,rfl,h⟩)⟩
theorem bo:W (M.fail:M α) st Q↔False:=⟨λ⟨_,_,e,_⟩=>(by cases e),Nv⟩
theorem W.mono(h:W m st Q)(i:∀a s,Q a s->Q' a s):W m st Q':=let ⟨a,s,e,q⟩:=h;⟨a,s,e,i a s q⟩
end
inductive Ru where|add|sub|mul|Ou|mod|pow
deriving DecidableEq
inductive Qp where|eq|ne|lt|le|gt|ge|isin|Jo|is|Ov
deriving DecidableEq
inductive Bf where|len|sorted|list|tuple|str|int|repr|max|min|all|any
 |dict
 |sum
deriving DecidableEq
inductive B2 where|MF|K4|sset|lP
deriving DecidableEq
inductive Mf where|split|join|partition|endswith
deriving DecidableEq
inductive Lc where|str|list|tuple|int|bool
deriving DecidableEq
inductive Ik where|seq|Kv|X7|Ng|zip|rev
 |O'
deriving DecidableEq
inductive E where
 |var (i:Nat)
 |cst (u:U)
 |Pa (x:Str) (u:U)
 |bin (op:Ru) (a b:E)
 |cmp (op:Qp) (a b:E)
 |LG (o1 o2:Qp) (a b c:E)
 |and (es:List E)|or (es:List E)|not (a:E)
 |ite (c a b:E)
 |tup (es:List E)|lst (es:List E)|KN (r:Bool)
 |idx (a b:E)
 |Mb (a:E) (lo hi:List E)
 |bi (f:Bf) (es:List E)
 |Nh (f:B2) (es:List E)
 |NR (m:Mf) (a:E) (es:List E)
 |call (f:Str) (es:List E)
 |comp (k:Nat) (t:Bool) (ik:Ik) (src:List E) (cond:List E) (e:E)
 |neg (a:E)|bad|MV (a:E) (T:Lc)|fst (es:List E)|inD (neg:Bool) (a:E) (i:Nat)|Pb (i:Nat)|LH (i:Nat) (k d:E)|Pc (i:Nat)|Pd (ln:Bool) (a b:E)
 |Jb (f:Str) (es:List E) (is:List Nat)
 |pop (i:Nat)|LJ (i:Nat) (e:E)
inductive S where
 |set (i:Nat) (e:E)
 |Mc (is:List Nat) (e:E)
 |put (i:Nat) (k v:E)
 |app (i:Nat) (e:E)|ext (i:Nat) (e:E)|bad|newD (i:Nat)|putD (i:Nat) (k v:E)|Le (i:Nat) (k v:E)|aug (sub:Bool) (i:Nat) (k v:E)|Rv (i:Nat)
 |exp (e:E)
 |ret (e:E)|Md
 |ite (c:E) (a b:List S)
 |Jv (t:Bool) (is:List Nat) (ik:Ik) (src:List E) (body:List S)
 |MW (c:E) (body:List S)
 |brk|cnt|Rw
 |Mn (is:List Nat)
 |Ni (c:Str) (e:E)|tr (i:Nat) (f:Str) (es:List E) (c D:Str) (j:Nat) (k:Str)
noncomputable def isAny:Kd->Bool
 |.any=>b8
 |_=>cc
noncomputable def d9(k:Kd)(xs:List U):Bool:=!isAny k||bR xs
noncomputable def kT(k k':Kd):Kd:=if isAny k||isAny k' then .any else .loc
noncomputable def cut{α:Type}(xs:List α)(lo hi:Option Int):List α:=(xs.drop (HT.Kz xs.length 0 lo)).take (HT.Kz xs.length xs.length hi - HT.Kz xs.length 0 lo)
noncomputable def yE:Kd×U->Kd×U->Option (Kd×U)
 |(_,.int i),(_,.int j)=>a5 (.loc,.int (i+j))
 |(_,.str x),(_,.str y)=>if x.length+y.length<=cL then a5 (.loc,.str (x++y)) else b6
 |(k,.lst xs),(k',.lst a)=>if xs.length+a.length<=cL/\d9 k xs=b8/\d9 k' a=b8 then a5 (.own,.lst (xs++a)) else b6
 |(k,.tup xs),(k',.tup a)=>if xs.length+a.length<=cL then a5 (kT k k',.tup (xs++a)) else b6
 |_,_=>b6
noncomputable def sd(f:Int->Int->Option Int):U->U->Option (Kd×U)
 |.int i,.int j=>(f i j).map λn=>(.loc,.int n)
 |_,_=>b6
noncomputable def Bx(i j:Int):Option Int:=if ((-(2 ^ 64)<i/\i<2 ^ 64)\/(-(2 ^ 64)<j/\j<2 ^ 64)) then a5 (i * j) else b6
noncomputable def By(i j:Int):Option Int:=if 0<j/\j<1073741824 then a5 (i / j) else b6
noncomputable def Bz(i j:Int):Option Int:=if 0<j then a5 (i % j) else b6
noncomputable def BA(i j:Int):Option Int:=if 0<=j/\j<=1000000/\i.natAbs<2 ^ 64 then a5 (i ^ j.toNat) else b6
noncomputable def LW(a:Ru)(x y:Kd×U):Option (Kd×U):=match a with
 |.add=>yE x y
 |.sub=>sd (λi j=>a5 (i - j)) x.2 y.2
 |.mul=>sd Bx x.2 y.2
 |.Ou=>sd By x.2 y.2
 |.mod=>sd Bz x.2 y.2
 |.pow=>sd BA x.2 y.2
mutual
noncomputable def J1:Nat->U->Bool
 |_,.I_ _ _=>cc
 |0,.tup _=>cc
 |0,.lst _=>cc
 |n+1,.tup xs=>dA n xs
 |n+1,.lst xs=>dA n xs
 |_,.Jc=>b8|_,.bl _=>b8|_,.int _=>b8|_,.str _=>b8
noncomputable def dA:Nat->List U->Bool
 |_,[]=>b8
 |n,u::us=>J1 n u&&dA n us
end
mutual
noncomputable def bS:U->U->Bool
 |.Jc,.Jc=>b8
 |.bl a,.bl b=>a==b
 |.bl a,.int b=>(if a then 1 else 0)==b
 |.int a,.bl b=>a==(if b then 1 else 0)
 |.int a,.int b=>a==b
 |.str a,.str b=>a==b
 |.tup xs,.tup c=>cC xs c
 |.lst xs,.lst c=>cC xs c
 |_,_=>cc
noncomputable def cC:List U->List U->Bool
 |[],[]=>b8
 |u::us,w::ws=>bS u w&&cC us ws
 |_,_=>cc
end
noncomputable def Ow(x:U)(a:List U):Option Bool:=if J1 50 x=b8/\dA 50 a=b8 then a5 (a.any λy=>bS y x) else b6
noncomputable def strsOf:List U->Option (List Str)
 |[]=>a5 []
 |.str x::us=>(strsOf us).map (x::·)
 |_::_=>b6
noncomputable def BB:U->U->Option Bool
 |x,.lst a=>Ow x a
 |x,.tup a=>Ow x a
 |.str x,.I_ ks _=>a5 (dt (x∈ks))
 |_,_=>b6
noncomputable def cv:List Str->List U->Str->Option U
 |y::ks,u::us,x=>if y=x then a5 u else cv ks us x
 |_,_,_=>b6
noncomputable def dput(ks:List Str)(us:List U)(x:Str)(u:U):List Str×List U :=
 if x∈ks then(ks,(ks.zip us).map λp=>if p.1=x then u else p.2) else(ks++[x],us++[u])
noncomputable def mU:U->Bool
 |.Jc=>b8
 |_=>cc
noncomputable def cm:Qp->U->U->Option Bool
 |.eq,a,b=>if J1 50 a=b8/\J1 50 b=b8 then a5 (bS a b) else b6
 |.ne,a,b=>if J1 50 a=b8/\J1 50 b=b8 then a5 (!bS a b) else b6
 |.lt,.int i,.int j=>a5 (dt (i<j))
 |.le,.int i,.int j=>a5 (dt (i<=j))
 |.gt,.int i,.int j=>a5 (dt (j<i))
 |.ge,.int i,.int j=>a5 (dt (j<=i))
 |.isin,x,y=>BB x y
 |.Jo,x,y=>(BB x y).map (!·)
 |.is,x,.Jc=>a5 (mU x)
 |.Ov,x,.Jc=>a5 (!mU x)
 |.is,.bl x,.bl y=>a5 (x==y)
 |.Ov,.bl x,.bl y=>a5 (!(x==y))
 |_,_,_=>b6
noncomputable def kQ:List U->Option (List Bool)
 |[]=>a5 []
 |.bl x::us=>(kQ us).map (x::·)
 |_::_=>b6
noncomputable def fJ:Kd×U->U->Option (Kd×U)
 |(k,.lst xs),.int i=>(J7 xs i).map λu=>(kE k,u)
 |(k,.tup xs),.int i=>(J7 xs i).map λu=>(kE k,u)
 |(_,.str x),.int i=>if x.length<=cL then(J7 x.cps.toList i).map λc=>(.loc,.str ⟨#[c]⟩) else b6
 |(k,.I_ ks us),.str x=>(cv ks us x).map λu=>(kE k,u)
 |_,_=>b6
noncomputable def lV:Kd×U->Option Int->Option Int->Option (Kd×U)
 |(k,.lst xs),lo,hi=>if d9 k xs=b8 then a5 (.own,.lst (cut xs lo hi)) else b6
 |(_,.str x),lo,hi=>if x.length<=cL then a5 (.loc,.str (PySem.StrLaws.sliceText x lo hi)) else b6
 |_,_,_=>b6
noncomputable def EG:U->Option Nat
 |.lst xs=>a5 xs.length
 |.tup xs=>a5 xs.length
 |.str x=>if x.length<=cL then a5 x.length else b6
 |_=>b6
noncomputable def fK{β:Type}(f:Kd×U->Option β):List (Kd×U)->Option β
 |[x]=>f x
 |_=>b6
noncomputable def intsOf:List U->Option (List Int)
 |[]=>a5 []
 |.int x::us=>(intsOf us).map (x::·)
 |_::_=>b6
noncomputable def mV:List U->Option (List Str)
 |[]=>a5 []
 |.tup [.str x,.int _]::us=>(mV us).map (x::·)
 |_::_=>b6
noncomputable def BC(k:Kd)(xs:List U):Option (Kd×U):=(mV xs).bind λks=>if ks.length<64/\ks.Nodup/\d9 k xs=b8 then a5 (.own,.lst ((eI ks).map λi=>xs.getD i .Jc)) else b6
noncomputable def wD(k:Kd)(xs:List U):Option (Kd×U):=match strsOf xs with
 |some ss=>if ss.length<64 then a5 (.own,.lst ((aR ss).map .str)) else b6
 |none=>BC k xs
noncomputable def EH:Kd×U->Option (Kd×U)
 |(k,.lst xs)=>wD k xs
 |(_,.I_ ks _)=>if ks.length<64 then a5 (.own,.lst ((aR ks).map .str)) else b6
 |(_,.tup xs)=>(strsOf xs).bind λss=>if ss.length<64 then a5 (.own,.lst ((aR ss).map .str)) else b6
 |_=>b6
noncomputable def EI:Kd×U->Option (Kd×U)
 |(k,.lst xs)=>if d9 k xs=b8 then a5 (.own,.lst xs) else b6
 |(k,.tup xs)=>if d9 k xs=b8 then a5 (.own,.lst xs) else b6
 |_=>b6
noncomputable def EJ:Kd×U->Option (Kd×U)
 |(k,.lst xs)=>a5 (kE k,.tup xs)
 |(k,.tup xs)=>a5 (kE k,.tup xs)
 |_=>b6
noncomputable def BD:Kd×U->Option (Kd×U)
 |(_,.int i)=>if i.natAbs.log2<1920 then a5 (.loc,.str (Rr i)) else b6
 |_=>b6
noncomputable def wF(a:Bool):List (Kd×U)->Option (Kd×U)
 |[(_,.int i),(_,.int j)]=>a5 (.loc,.int (if a=b8 then(if j<i then j else i) else(if j>i then j else i)))
 |_=>b6
noncomputable def EK:Kd×U->Option (Kd×U)
 |(_,.lst xs)=>(kQ xs).map λbs=>(.loc,.bl (bs.all id))
 |_=>b6
noncomputable def Pe:U->Bool
 |.str _=>b8
 |.int _=>b8
 |_=>cc
noncomputable def kR:List U->Option (List (Str×U))
 |[]=>a5 []
 |.tup [.str x,y]::us=>if Pe y=b8 then(kR us).map ((x,y)::·) else b6
 |_::_=>b6
noncomputable def EL:Kd×U->Option (Kd×U)
 |(_,.lst xs)=>(kR xs).bind λps=>if (ps.map (·.1)).Nodup then a5 (.own,.I_ (ps.map (·.1)) (ps.map (·.2))) else b6
 |_=>b6
noncomputable def EM:Kd×U->Option (Kd×U)
 |(_,.lst xs)=>(intsOf xs).map λns=>(.loc,.int ns.sum)
 |_=>b6
noncomputable def KU(f:Bf)(rs:List (Kd×U)):Option (Kd×U):=match f with
 |.len=>fK (λx=>(EG x.2).map λ(n:Nat)=>(Kd.loc,U.int (n:Int))) rs
 |.sorted=>fK EH rs
 |.list=>fK EI rs
 |.tuple=>fK EJ rs
 |.str=>fK BD rs
 |.max=>wF cc rs
 |.min=>wF b8 rs
 |.all=>fK EK rs
 |.dict=>fK EL rs
 |.sum=>fK EM rs
 |_=>b6
noncomputable def ig:U->Option (List Str)
 |.lst xs=>(strsOf xs).bind λss=>if ss.length+1<DD then a5 (aM ss) else b6
 |.tup xs=>(strsOf xs).bind λss=>if ss.length+1<DD then a5 (aM ss) else b6
 |_=>b6
noncomputable def EN:Kd×U->Option (Kd×U)
 |(k,.lst xs)=>if d9 k xs=b8 then a5 (.own,.lst xs.reverse) else b6
 |_=>b6
noncomputable def se(f:B2)(rs:List (Kd×U)):Option (Kd×U):=match f with
 |.MF=>b6
 |.K4=>fK EN rs
 |.sset=>fK (λx=>(ig x.2).bind λss=>if ss.length<64 then a5 (.own,.lst ((aR ss).map .str)) else b6) rs
 |.lP=>b6
noncomputable def lW:Mf->U->List (Kd×U)->Option (Kd×U)
 |.join,.str a,[(_,.lst xs)]=>(strsOf xs).bind λss=>if ć a ss=b8 then a5 (.loc,.str (Uo a ss)) else b6
 |_,_,_=>b6
noncomputable def IJ:Kd×U->Option (List (Kd×U))
 |(k,.lst xs)=>a5 (xs.map λu=>(kE k,u))
 |(k,.tup xs)=>a5 (xs.map λu=>(kE k,u))
 |_=>b6
noncomputable def yF:Kd×U->Option (List (Kd×U))
 |(_,.int n)=>if n<2 ^ 62/\-(2 ^ 62)<n then a5 ((i0 n.toNat).map λi:Nat=>(Kd.loc,U.int (0+(i:Int)))) else b6
 |_=>b6
noncomputable def EO:Kd×U->Option (List (Kd×U))
 |(k,.lst xs)=>a5 (xs.zipIdx.map λp=>(kE k,.tup [.int p.2,p.1]))
 |(k,.tup xs)=>a5 (xs.zipIdx.map λp=>(kE k,.tup [.int p.2,p.1]))
 |_=>b6
noncomputable def sf(d:List Str×List U):List (Kd×U):=(d.1.zip d.2).map λp=>(Kd.loc,U.tup [.str p.1,p.2])
noncomputable def ER:Kd×U->Option (List (Kd×U))
 |(.own,.I_ ks us)=>a5 (sf (ks,us))
 |_=>b6
noncomputable def K7(a:Ik)(rs:List (Kd×U)):Option (List (Kd×U)):=match a with
 |.seq=>fK IJ rs
 |.Kv=>fK yF rs
 |.Ng=>fK EO rs
 |.O'=>fK ER rs
 |_=>b6
noncomputable def BE(ps:List (Str×Int)):List (Str×Int):=(eI (ps.map (·.1))).map λi=>ps.getD i (nH,0)
noncomputable def wG(p:Str×Int):U:=.tup [.str p.1,.int p.2]
noncomputable def yG:U->Option (Kd×U)
 |.I_ ks us=>(intsOf us).bind λns=>if ks.length<64/\ks.Nodup/\ks.length=ns.length then a5 (.own,.lst ((BE (ks.zip ns)).map wG)) else b6
 |_=>b6
noncomputable def wH(ln:Bool)(a b:List Str):Option (Kd×U):=if a.length<64/\b.length<64 then a5 (if ln=b8 then(.loc,.int ((a.filter λx=>dt (x∉b)).length:Nat)) else(.own,.lst ((aR (a.filter λx=>dt (x∉b))).map .str))) else b6
noncomputable def wI:U->Option Bool
 |.bl b=>a5 b
 |.lst xs=>a5 !xs.isEmpty
 |.tup xs=>a5 !xs.isEmpty
 |.str x=>if x.length<=cL then a5 ((x.length:Int) != 0) else b6
 |_=>b6
noncomputable def lift:Kd×U->M U
 |(.own,u)=>pure u
 |(.loc,u)=>pure u
 |(.any,u)=>if Js u=b8 then pure u else M.fail
 |(.bor j,_)=>λst=>match st[j]? with
  |some (a5 (.own,u))=>a5 (.ok u,st.set j (a5 (.loc,u)))
  |_=>b6
 |(.io,_)=>M.fail
 |(.IY,_)=>M.fail
noncomputable def dm:List (Kd×U)->M (List U)
 |[]=>pure []
 |r::rs=>do let u <-lift r;let us <-dm rs;pure (u::us)
noncomputable def d_(i:Nat):Kd×U->M Unit
 |(.bor j,_)=>λst=>match st[j]? with
  |some (a5 (.own,u))=>a5 (.ok (),(st.set j (a5 (.loc,u))).set i (a5 (.loc,u)))
  |_=>b6
 |(.io,_)=>M.fail
 |(.IY,_)=>M.fail
 |(k,u)=>λst=>a5 (.ok (),st.set i (a5 (k,u)))
def bt:List (Kd×U)->az->Prop
 |[],_=>True
 |(.bor j,u)::rs,st=>(∃k:Kd,k.root=b8/\st[j]?=a5 (a5 (k,u)))/\bt rs st
 |_::rs,st=>bt rs st
open Classical in
noncomputable def aC(rs:List (Kd×U)):M Unit:=λst=>if bt rs st then a5 (.ok (),st) else b6
abbrev Tab:=Str->List U->Option (Ex (Kd×U))
noncomputable def kS(Γ:Tab)(f:Str)(us:List U):M (Kd×U):=λst=>match Γ f us with
 |some (.ok (.any,_))=>b6
 |none=>b6
 |some r=>a5 (r,st)
noncomputable def gN(rs:List (Kd×U))(p:Nat):Option Nat:=match rs[p]? with
 |some (.bor j,.lst us)=>if bR us=b8 then a5 j else b6
 |_=>b6
noncomputable def yH(a:List (Option Nat)):Kd×U->Bool
 |(.bor j,_)=>dt (a5 j∉a)
 |_=>b8
noncomputable def qr(rs:List (Kd×U))(is:List Nat):Bool:=is.all (λp=>(gN rs p).isSome)&&dt ((is.map (gN rs)).Nodup)&&(i0 rs.length).all λq=>dt (q∈is)||yH (is.map (gN rs)) (rs.getD q (.loc,.Jc))
noncomputable def gA(rs:List (Kd×U)):List Nat->List U->az->Option az
 |[],[],st=>a5 st
 |p::is,w::ws,st=>match gN rs p with
  |some j=>match w,st[j]? with
   |.lst us,a5 (a5 (k,_))=>gA rs is ws (st.set j (a5 (k,.lst us)))
   |_,_=>b6
  |none=>b6
 |_,_,_=>b6
noncomputable def TX:Kd×U->Option (Kd×U×List U)
 |(.own,.tup (u::ws))=>a5 (.own,u,ws)
 |(.loc,.tup (u::ws))=>a5 (.loc,u,ws)
 |_=>b6
noncomputable def dR(st:az):Kd×U->Kd×U
 |(.bor j,u)=>(.bor j,match st[j]? with|some (a5 (k,u'))=>if k.root=b8 then u' else u|_=>u)
 |r=>r
noncomputable def BF(rs:List (Kd×U)):M (List (Kd×U)):=λst=>a5 (.ok (rs.map (dR st)),st)
noncomputable def qt(Γ:Tab)(f:Str)(rs:List (Kd×U))(is:List Nat):M (Kd×U):=λst=>match Γ f (rs.map (·.2)) with
 |some (.ok r)=>match TX r with
  |some (k,u,ws)=>if qr rs is=b8 then(match gA rs is ws st with|some st'=>a5 (.ok (k,u),st')|none=>b6) else b6
  |none=>b6
 |_=>b6
noncomputable def yI(i:Nat):M (Kd×U):=λst=>match st[i]? with
 |some (a5 (k,.lst us))=>if k.root=b8 then(match us[us.length - 1]? with|some u=>a5 (.ok (.loc,u),st.set i (a5 (k,.lst us.dropLast)))|none=>b6) else b6
 |_=>b6
noncomputable def wJ(i:Nat):U->M (Kd×U)
 |.int j=>λst=>match st[i]? with
  |some (a5 (k,.lst us))=>if k.root=b8/\0<=j/\j<1000000 then(match us[j.toNat]? with|some u=>a5 (.ok (.loc,u),st.set i (a5 (k,.lst (us.eraseIdx j.toNat))))|none=>b6) else b6
  |_=>b6
 |_=>M.fail
noncomputable def dn(i:Nat):M (Kd×U):=λst=>match st[i]? with
 |some (a5 (.IY,_))=>b6
 |some (a5 (k,u))=>a5 (.ok (if k.root=b8 then .bor i else k,u),st)
 |_=>b6
noncomputable def ij(i:Nat):M (List Str×List U):=λst=>match st[i]? with
 |some (a5 (.IY,.I_ ks us))=>a5 (.ok (ks,us),st)
 |_=>b6
noncomputable def jM(x:Kd×U):M Str:=match x.2 with
 |.str y=>pure y
 |_=>M.fail
noncomputable def TY(neg:Bool)(y:Str)(ks:List Str):Bool:=if neg=b8 then !dt (y∈ks) else dt (y∈ks)
noncomputable def yJ(i:Nat):M (Kd×U):=λst=>match st[i]? with
 |some (a5 (.IY,u))=>a5 (.ok (.bor i,u),st.set i (a5 (.own,u)))
 |_=>dn i st
noncomputable def Dj(i:Nat):M Unit:=λst=>a5 (.ok (),st.set i (a5 (.IY,.I_ [] [])))
noncomputable def kU(i:Nat)(y:Str):Kd×U->M Unit
 |(.own,.lst us)=>λst=>match st[i]? with
  |some (a5 (.IY,.I_ ks vs))=>if y∉ks/\ks.length<cL then a5 (.ok (),st.set i (a5 (.IY,.I_ (ks++[y]) (vs++[.lst us])))) else b6
  |_=>b6
 |_=>M.fail
noncomputable def jN:List Str->List U->Str->U->List U
 |k::ks,v::vs,y,u=>if k=y then u::vs else v::jN ks vs y u
 |_,vs,_,_=>vs
noncomputable def kW(i:Nat)(y:Str)(u:U):M Unit:=λst=>match st[i]? with
 |some (a5 (.IY,.I_ ks vs))=>match cv ks vs y with
  |some (.lst xs)=>if xs.length<cL then a5 (.ok (),st.set i (a5 (.IY,.I_ ks (jN ks vs y (.lst (xs++[u])))))) else b6
  |_=>b6
 |_=>b6
noncomputable def TZ:U->M Unit
 |.I_ _ _=>pure ()
 |_=>M.fail
noncomputable def BG(x:Kd×U)(y:Str)(u:U):Option (Kd×U):=match x with
 |(k,.I_ ks us)=>a5 (match cv ks us y with|some v=>(kE k,v)|none=>(.loc,u))
 |_=>b6
noncomputable def qu(i:Nat):M (List U):=λst=>match st[i]? with
 |some (a5 (k,.lst us))=>if k.root=b8 then a5 (.ok us,st) else b6
 |_=>b6
noncomputable def wK(x:Kd×U):M Int:=match x.2 with
 |.int j=>pure j
 |_=>M.fail
noncomputable def qv(us:List U)(j:Int):Option Int:=if 0<=j then(match us[j.toNat]? with|some (.int o)=>a5 o|_=>b6) else b6
noncomputable def wL(sub:Bool)(o w:Int):Int:=if sub=b8 then o - w else o+w
noncomputable def IK:U->Option U
 |.lst us=>a5 (.lst us.reverse)
 |_=>b6
noncomputable def sets:List Nat->List (Kd×U)->M Unit
 |[],[]=>pure ()
 |i::is,r::rs=>do d_ i r;sets is rs
 |_,_=>M.fail
noncomputable def dB(t:Bool)(is:List Nat)(r:Kd×U):M Unit:=match t,is,r with
 |false,[i],r=>d_ i r
 |true,is,(k,.tup xs)=>sets is (xs.map λu=>(kE k,u))
 |_,_,_=>M.fail
noncomputable def inScope{α:Type}(k:Nat)(m:M α):M α:=λst=>match m (i9 k b6++st) with
 |none=>b6
 |some (r,st')=>a5 (r,st'.drop k)
noncomputable def bY(k:Nat)(t:Bool)(cond:M Bool)(elt:M (Kd×U))(src:List (Kd×U)):List (Kd×U)->List U->M (List U)
 |[],acc=>do aC src;pure acc
 |x::xs,acc=>do
  aC src
  let r <-inScope k (dB t (i0 k) x >>= λ_=>cond >>= λb=>if b=b8 then(elt >>= λr=>lift r >>= λu=>pure (a5 u)) else pure b6)
  match r with
  |some u=>if acc.length<cL then bY k t cond elt src xs (acc++[u]) else M.fail
  |none=>bY k t cond elt src xs acc
noncomputable def oJ:U->Lc->Option Bool
 |.str _,T=>a5 (dt (T=.str))
 |.int _,T=>a5 (dt (T=.int))
 |.bl _,.bool=>a5 b8
 |.bl _,.int=>a5 b8
 |.lst _,T=>a5 (dt (T=.list))
 |.tup _,T=>a5 (dt (T=.tuple))
 |_,_=>b6
noncomputable def qw:U->Str->Option Str
 |.str y,out=>if y.length<=cL/\(out++y).length<=cL then a5 (out++y) else b6
 |.int i,out=>if i.natAbs.log2<1920/\(out++(Rr i:Str)).length<=cL then a5 (out++(Rr i:Str)) else b6
 |_,_=>b6
noncomputable def IL:Kd×U->Option (Kd×U)
 |(_,.int i)=>a5 (.loc,.int (-i))
 |_=>b6
noncomputable def ES(x:Kd×U):M (Option Int):=match x.2 with
 |.int i=>pure (a5 i)
 |_=>M.fail
noncomputable def Nj:U->M Unit
 |.lst _=>pure ()
 |_=>M.fail
section
variable(Γ:Tab)
mutual
noncomputable def ev:E->M (Kd×U)
 |.var i=>dn i
 |.cst u=>pure (.loc,u)
 |.Pa _ u=>pure (.loc,u)
 |.bin g a b=>do
  let x <-ev a
  let y <-ev b
  aC [x,y]
  M.Jp (LW g x y)
 |.cmp g a b=>do
  let x <-ev a
  let y <-ev b
  aC [x,y]
  let c <-M.Jp (cm g x.2 y.2)
  pure (.loc,.bl c)
 |.LG _ _ _ _ _=>M.fail
 |.and es=>il es
 |.or _=>M.fail
 |.not a=>do
  let x <-ev a
  match x.2 with
  |.bl c=>pure (.loc,.bl !c)
  |_=>M.fail
 |.ite c a b=>do
  let p <-Jt c
  if p=b8 then ev a else ev b
 |.tup es=>do
  let rs <-bG es
  aC rs
  let us <-dm rs
  if us.length<=cL then pure (.loc,.tup us) else M.fail
 |.lst es=>do
  let rs <-bG es
  aC rs
  let us <-dm rs
  if us.length<=cL then pure (.own,.lst us) else M.fail
 |.KN r=>pure (.own,.I_ [] [])
 |.idx a b=>do
  let x <-ev a
  let y <-ev b
  aC [x,y]
  M.Jp (fJ x y.2)
 |.Mb a lo hi=>do
  let x <-ev a
  let l <-Ox lo
  let h <-Ox hi
  aC [x]
  M.Jp (lV x l h)
 |.bi f es=>do
  let rs <-bG es
  aC rs
  M.Jp (KU f rs)
 |.Nh f es=>do
  let rs <-bG es
  aC rs
  M.Jp (se f rs)
 |.NR m a es=>do
  let x <-ev a
  let rs <-bG es
  aC (x::rs)
  M.Jp (lW m x.2 rs)
 |.call f es=>do
  let rs <-bG es
  aC rs
  kS Γ f (rs.map (·.2))
 |.comp k t j src cond e=>do
  let rs <-bG src
  aC rs
  let xs <-M.Jp (K7 j rs)
  let us <-bY k t (bb cond) (ev e) rs xs []
  pure (.own,.lst us)
 |.neg a=>do
  let x <-ev a
  M.Jp (IL x)
 |.bad=>M.fail
 |.inD _ _ _=>M.fail
 |.Pb i=>yJ i
 |.LH i k d=>do
  let x <-dn i
  TZ x.2
  let y <-ev k
  let y <-jM y
  let z <-ev d
  let u <-lift z
  let x <-dn i
  M.Jp (BG x y u)
 |.Pc i=>do
  let x <-dn i
  M.Jp (yG x.2)
 |.Jb f es is=>do
  let rs <-(bG es >>= BF)
  aC rs
  qt Γ f rs is
 |.pop i=>yI i
 |.LJ i e=>do
  let x <-dn i
  Nj x.2
  let y <-ev e
  wJ i y.2
 |.Pd ln a b=>do
  let x <-ev a
  let n <-M.Jp (ig x.2)
  let y <-ev b
  let o <-M.Jp (ig y.2)
  M.Jp (wH ln n o)
 |.fst es=>do
  let s <-Nk es nH
  pure (.loc,.str s)
 |.MV a T=>do
  let x <-ev a
  let b <-M.Jp (oJ x.2 T)
  pure (.loc,.bl b)
noncomputable def Nk:List E->Str->M Str
 |[],out=>pure out
 |e::es,out=>do
  let x <-ev e
  let y <-M.Jp (qw x.2 out)
  Nk es y
noncomputable def bG:List E->M (List (Kd×U))
 |[]=>pure []
 |e::es=>do let r <-ev e;let rs <-bG es;pure (r::rs)
noncomputable def Ox:List E->M (Option Int)
 |[]=>pure b6
 |[e]=>do let x <-ev e;ES x
 |_=>M.fail
noncomputable def il:List E->M (Kd×U)
 |[]=>M.fail
 |[e]=>ev e
 |e::es=>do
  let x <-ev e
  match x.2 with
  |.bl b8=>il es
  |.bl cc=>pure (.loc,.bl cc)
  |_=>M.fail
noncomputable def Jt:E->M Bool
 |.and es=>bb es
 |.or es=>fL es
 |.not a=>do let b <-Jt a;pure !b
 |.cmp e a b=>do
  let x <-ev a
  let y <-ev b
  aC [x,y]
  M.Jp (cm e x.2 y.2)
 |.var i=>do let x <-dn i;M.Jp (wI x.2)
 |.bi f es=>do
  let rs <-bG es
  aC rs
  let r <-M.Jp (KU f rs)
  M.Jp (wI r.2)
 |.call f es=>do
  let rs <-bG es
  aC rs
  let r <-kS Γ f (rs.map (·.2))
  M.Jp (wI r.2)
 |.LG g o2 a b c=>do
  let x <-ev a
  let y <-ev b
  aC [x,y]
  let p <-M.Jp (cm g x.2 y.2)
  if p=b8 then do
   let z <-ev c
   aC [y,z]
   M.Jp (cm o2 y.2 z.2)
  else pure cc
 |.inD neg a i=>do
  let x <-ev a
  let y <-jM x
  let d <-ij i
  pure (TY neg y d.1)
 |.MV a T=>do
  let x <-ev a
  M.Jp (oJ x.2 T)
 |_=>M.fail
noncomputable def bb:List E->M Bool
 |[]=>pure b8
 |[e]=>Jt e
 |e::es=>do let b <-Jt e;if b=b8 then bb es else pure cc
noncomputable def fL:List E->M Bool
 |[]=>pure cc
 |[e]=>Jt e
 |e::es=>do let b <-Jt e;if b=b8 then pure b8 else fL es
end
inductive Fl where|nx|rt (k:Kd) (u:U)|bk|ct
noncomputable def retS:Kd×U->M Fl
 |(.own,u)=>pure (.rt .own u)
 |(.loc,u)=>pure (.rt .loc u)
 |(.any,u)=>if Js u=b8 then pure (.rt .loc u) else pure (.rt .any u)
 |(.bor j,_)=>λst=>match st[j]? with
  |some (a5 (.own,u))=>a5 (.ok (.rt .own u),st.set j b6)
  |_=>b6
 |(.io,_)=>M.fail
 |(.IY,_)=>M.fail
noncomputable def forM(t:Bool)(is:List Nat)(body:M Fl)(src:List (Kd×U)):List (Kd×U)->M Fl
 |[]=>do aC src;pure .nx
 |x::xs=>do
  aC src
  dB t is x
  let f <-body
  match f with
  |.nx=>forM t is body src xs
  |.ct=>forM t is body src xs
  |.bk=>pure .nx
  |.rt k u=>pure (.rt k u)
noncomputable def fw(c:M Bool)(body:M Fl):Nat->M Fl
 |0=>M.fail
 |n+1=>do
  let b <-c
  if b=b8 then do
   let f <-body
   match f with
   |.nx=>fw c body n
   |.ct=>fw c body n
   |.bk=>pure .nx
   |.rt k u=>pure (.rt k u)
  else pure .nx
noncomputable def gB(Γ:Tab)(f:Str)(us:List U)(c:Str):M (Option (Kd×U)):=λst=>match Γ f us with
 |some (.ok (.own,u))=>a5 (.ok (a5 (.own,u)),st)
 |some (.ok (.loc,u))=>a5 (.ok (a5 (.loc,u)),st)
 |some (.exc a)=>if a=c then a5 (.ok b6,st) else b6
 |_=>b6
noncomputable def lX(i j:Nat)(k:Str):Option (Kd×U)->M Fl
 |some r=>do d_ i r;pure .nx
 |none=>λst=>match st[j]? with
  |some b6=>if i≠j then(d_ i (.loc,.tup [.str k,.bl b8]) >>= λ_=>pure .nx) st else b6
  |_=>b6
noncomputable def modS(i:Nat)(f:U->Option U):M Unit:=λst=>match st[i]? with
 |some (a5 (k,u))=>if k.root=b8 then match f u with
   |some u'=>a5 (.ok (),st.set i (a5 (k,u')))
   |none=>b6
  else b6
 |_=>b6
noncomputable def yK(u:U):U->Option U
 |.lst xs=>if xs.length<cL then a5 (.lst (xs++[u])) else b6
 |_=>b6
noncomputable def kX:Kd×U->U->Option U
 |(k,.lst a),.lst xs=>if xs.length+a.length<=cL/\d9 k a=b8 then a5 (.lst (xs++a)) else b6
 |(k,.tup a),.lst xs=>if xs.length+a.length<=cL/\d9 k a=b8 then a5 (.lst (xs++a)) else b6
 |_,_=>b6
noncomputable def dC(x u:U):U->Option U
 |.I_ ks vs=>match x with
  |.str y=>if ks.length<cL then a5 (.I_ (dput ks vs y u).1 (dput ks vs y u).2) else b6
  |_=>b6
 |.lst xs=>match x with
  |.int i=>(Mx xs.length i).map λj=>.lst (xs.set j u)
  |_=>b6
 |_=>b6
noncomputable def uE:List U->U->Option U
 |[u,x]=>dC x u
 |_=>λ_=>b6
noncomputable def fuel:Nat:=1000000000000
mutual
noncomputable def Mo:S->Nat->Bool
 |.set i _,j=>dt (j≠i)
 |.Mc is _,j=>dt (j∉is)
 |.ite _ a b,j=>LK a j&&LK b j
 |.Jv _ is _ _ body,j=>dt (j∉is)&&LK body j
 |.MW _ body,j=>LK body j
 |.put _ _ _,_=>b8
 |.app _ _,_=>b8
 |.ext _ _,_=>b8
 |.bad,_=>b8
 |.newD i,j=>dt (j≠i)
 |.putD _ _ _,_=>b8
 |.Le _ _ _,_=>b8
 |.aug _ _ _ _,_=>b8
 |.Rv _,_=>b8
 |.exp _,_=>b8
 |.ret _,_=>b8
 |.Md,_=>b8
 |.brk,_=>b8
 |.cnt,_=>b8
 |.Rw,_=>b8
 |.Mn _,_=>b8
 |.Ni _ _,_=>b8
 |.tr i _ _ _ _ j _,n=>dt (n≠i)&&dt (n≠j)
noncomputable def LK:List S->Nat->Bool
 |[],_=>b8
 |s::ss,j=>Mo s j&&LK ss j
end
noncomputable def uF(rs:List (Kd×U))(is:List Nat)(body:List S):Bool:=rs.all λr=>match r.1 with
 |.bor j=>dt (j∉is)&&LK body j
 |_=>b8
mutual
noncomputable def exec:S->M Fl
 |.set i e=>do let r <-ev Γ e;d_ i r;pure .nx
 |.Mc is e=>do let r <-ev Γ e;dB b8 is r;pure .nx
 |.put i k v=>do
  let r <-ev Γ v
  let _ <-dn i
  let x <-ev Γ k
  let us <-dm [r,x]
  modS i (uE us)
  pure .nx
 |.app i e=>do
  let x <-dn i
  Nj x.2
  let r <-ev Γ e
  let u <-lift r
  modS i (yK u)
  pure .nx
 |.ext i e=>do
  let x <-dn i
  Nj x.2
  let r <-ev Γ e
  modS i (kX r)
  pure .nx
 |.bad=>M.fail
 |.newD i=>do Dj i;pure .nx
 |.putD i k v=>do
  let r <-ev Γ v
  let d <-ij i
  let x <-ev Γ k
  let y <-jM x
  kU i y r
  pure .nx
 |.Le i k v=>do
  let _ <-ij i
  let x <-ev Γ k
  let y <-jM x
  let d <-ij i
  if y∈d.1 then do
   let r <-ev Γ v
   let u <-lift r
   kW i y u
   pure .nx
  else M.fail
 |.aug sub i k v=>do
  let _ <-qu i
  let y <-ev Γ k
  let j <-wK y
  let us <-qu i
  let o <-M.Jp (qv us j)
  let z <-ev Γ v
  let w <-wK z
  modS i (dC (.int j) (.int (wL sub o w)))
  pure .nx
 |.Rv i=>do
  modS i IK
  pure .nx
 |.exp e=>do let _ <-ev Γ e;pure .nx
 |.ret e=>do let r <-ev Γ e;retS r
 |.Md=>pure (.rt .loc .Jc)
 |.ite c a b=>do let p <-Jt Γ c;if p=b8 then execs a else execs b
 |.Jv t is g src body=>do
  let rs <-bG Γ src
  aC rs
  let xs <-M.Jp (K7 g rs)
  if uF rs is body=b8 then forM t is (execs body) rs xs else M.fail
 |.MW c body=>fw (Jt Γ c) (execs body) fuel
 |.brk=>pure .bk
 |.cnt=>pure .ct
 |.Rw=>pure .nx
 |.Mn _=>M.fail
 |.Ni c e=>do let _ <-ev Γ e;pure (.rt .io (.str c))
 |.tr i f es c _ j k=>do
  let rs <-bG Γ es
  aC rs
  let r <-gB Γ f (rs.map (·.2)) c
  lX i j k r
noncomputable def execs:List S->M Fl
 |[]=>pure .nx
 |s::ss=>do
  let f <-exec s
  match f with
  |.nx=>execs ss
  |f=>pure f
end
end
structure Fn where
 name:Str
 np:Nat
 ns:Nat
 body:List S
noncomputable def start(us:List U)(n:Nat):az:=us.map (λu=>a5 (if Js u=b8 then Kd.loc else Kd.any,u))++i9 (n - us.length) b6
noncomputable def cw(Γ:Tab)(fn:Fn)(us:List U):Option (Ex (Kd×U)):=if us.length=fn.np then match execs Γ fn.body (start us fn.ns) with
  |some (.ok (.rt .own u),_)=>a5 (.ok (.own,u))
  |some (.ok (.rt .loc u),_)=>a5 (.ok (.loc,u))
  |some (.ok (.rt .any u),_)=>a5 (.ok (.any,u))
  |some (.ok .nx,_)=>a5 (.ok (.loc,.Jc))
  |some (.ok (.rt .io (.str c)),_)=>a5 (.exc c)
  |_=>b6
 else b6
noncomputable def cW(is:List Nat)(us:List U)(n:Nat):az:=(us.zipIdx.map λp=>a5 (if p.2∈is then Kd.io else if Js p.1=b8 then Kd.loc else Kd.any,p.1))++i9 (n - us.length) b6
noncomputable def Oy:List Nat->az->Option (List U)
 |[],_=>a5 []
 |i::is,st=>match st[i]? with
  |some (a5 (.io,u))=>(Oy is st).map (u::·)
  |_=>b6
noncomputable def Rx:Fl->Option (Kd×U)
 |.rt .own u=>a5 (.own,u)
 |.rt .loc u=>a5 (.loc,u)
 |.nx=>a5 (.loc,.Jc)
 |_=>b6
noncomputable def gk(Γ:Tab)(fn:Fn)(is:List Nat)(body:List S)(us:List U):Option (Ex (Kd×U)):=if us.length=fn.np then match execs Γ body (cW is us fn.ns) with
  |some (.ok f,st)=>(Rx f).bind λr=>(Oy is st).map λws=>.ok (r.1,.tup (r.2::ws))
  |_=>b6
 else b6
noncomputable def Fn.io(fn:Fn):Option (List Nat×List S):=match fn.body with
 |.Mn is::body=>a5 (is,body)
 |_=>b6
noncomputable def iU(Γ:Tab)(fn:Fn)(us:List U):Option (Ex (Kd×U)):=match fn.io with
 |some (is,body)=>gk Γ fn is body us
 |none=>cw Γ fn us
noncomputable def Jl(P:List Fn):Nat->Tab
 |0=>λ_ _=>b6
 |d+1=>λf us=>match P.find? λfn=>dt (fn.name=f) with
  |some fn=>iU (Jl P d) fn us
  |none=>b6
end TM
namespace TM
open PySem L2
section
variable{X:Cx}{pins:List (fR×Obj)}{σ:St}{H:Hp}{s:fS}{C:Ct}{S:fR->Prop}
theorem uG(I:Inv X pins σ H s)(h:JA X.K H a vs):∃its:List d3,Vals vs its/\s.heap.IsList a its.toArray/\vs.length<=cL:=by
 obtain⟨its,r,p,z⟩:=I.list h;exact⟨its,r,p.isList,z⟩
inductive JP(s:fS):Nat->U->d3->Prop where
 |Jc {n:Nat}:JP s n .Jc .none
 |bl {n:Nat} {b:Bool}:JP s n (.bl b) (.bool b)
 |int {n:Nat} {i:Int} {t:Tok}:JP s n (.int i) (.int i t)
 |str {n:Nat} {y:Str} {t:Tok}:JP s n (.str y) (.str y t)
 |tup {n:Nat} {us:List U} {its:List d3} {a:fR}:us.length=its.length->(∀j (hj:j<its.length),JP s n (us.getD j .Jc) its[j])->cC us us=b8->s.heap.IsTuple a its.toArray->JP s (n+1) (.tup us) (.ref a)
 |lst {n:Nat} {us:List U} {its:List d3} {a:fR}:us.length=its.length->(∀j (hj:j<its.length),JP s n (us.getD j .Jc) its[j])->cC us us=b8->s.heap.IsList a its.toArray->JP s (n+1) (.lst us) (.ref a)
theorem JP.self(h:JP s n u x):bS u u=b8:=by
 cases h<;>first|assumption|simp[bS]
theorem JP.wM(f:∀u v x,J1 n u=b8->Rep C S H u v->RelV v x->JP s n u x):∀{us:List U}{vs:List V}{its:List d3},dA n us=b8->ak C S H us vs->Vals vs its->us.length=its.length/\(∀j (a:j<its.length),JP s n (us.getD j .Jc) its[j])/\cC us us=b8
 |[],_,_,_,h,r=>by cases h;cases r;exact⟨rfl,λj a=>(nomatch a),rfl⟩
 |u::us,_,_,e,h,r=>by
  obtain⟨v,vs,rfl,b,d⟩:=h;simp only[dA,cb]at e;cases r with
  |cons c g =>
   obtain⟨l,k,y⟩:=JP.wM f e.2 d g;refine⟨by simp[l],λj a=>?_,by rw[cC,(f _ _ _ e.1 b c).self,y];rfl⟩;cases j with
   |zero=>exact f _ _ _ e.1 b c
   |succ j=>exact k j (by simpa using a)
theorem JP.of(I:Inv X pins σ H s)(d:C.K=X.K):∀(n:Nat) (u:U) (v:V) (x:d3),J1 n u=b8->Rep C S H u v->RelV v x->JP s n u x:=by
 intro n;induction n with
 |zero=>intro u v x e h r;cases u<;>first|(simp[J1]at e;done)|(simp only[Rep]at h;subst h;first|(cases r;constructor)|(obtain⟨t,rfl⟩:=r;constructor))
 |succ n f =>
  intro u v x e h r;cases u with
  |tup us =>
   obtain⟨a,vs,rfl,b,c⟩:=h;cases r;obtain⟨its,rv,p,_⟩:=I.tuple (d▸b);obtain⟨l,k,y⟩:=JP.wM f (by simpa[J1] using e) c rv;exact .tup l k y p
  |lst us =>
   obtain⟨a,vs,rfl,b,c⟩:=h;cases r;obtain⟨its,rv,p,_⟩:=uG I (d▸b.sq);obtain⟨l,k,y⟩:=JP.wM f (by simpa[J1] using e) c rv;exact .lst l k y p
  |_=>first|(simp[J1]at e;done)|(simp only[Rep]at h;subst h;first|(cases r;constructor)|(obtain⟨t,rfl⟩:=r;constructor))
theorem JP.inj:∀{n:Nat}{u w:U}{x:d3},JP s n u x->JP s n w x->u=w:=by
 intro n;induction n with
 |zero=>intro u w x h h';cases h<;>cases h'<;>rfl
 |succ n q =>
  have go:∀{us ws:List U} {its its':List d3} {a:fR} {o o':Obj} {m g:Nat},us.length=its.length->(∀j (r:j<its.length),JP s n (us.getD j .Jc) its[j])->ws.length=its'.length->(∀j (r:j<its'.length),JP s n (ws.getD j .Jc) its'[j])->s.heap.get? a=a5 o->o.data=.seq its.toArray m->s.heap.get? a=a5 o'->o'.data=.seq its'.toArray g->us=ws:=by
   intro us ws its its' a o o' m g l k c k' e d f d';rw[e]at f;cases f;rw[d]at d';injection d' with t _
   have:its=its':=by simpa using Ŕ Ye t
   subst this;refine LD ⋯ λj v z=>?_;have:=q (k j ⋯) (k' j ⋯);simpa[v,z] using this
  intro u w x h h';cases h with
  |tup l k y p =>
   cases h' with
   |tup c k' i b=>obtain⟨o,e,_,m,d⟩:=p;obtain⟨o',f,_,g,d'⟩:=b;rw[go l k c k' e d f d']
   |lst c k' i b=>exact absurd rfl (X' b p)
  |lst l k y p =>
   cases h' with
   |lst c k' i b=>obtain⟨o,e,_,m,d⟩:=p;obtain⟨o',f,_,g,d'⟩:=b;rw[go l k c k' e d f d']
   |tup c k' i b=>exact absurd rfl (X' p b)
  |_=>cases h';rfl
theorem iV:∀{us ws:List U},us.length≠ws.length->cC us ws=cc
 |[],[],h=>absurd rfl h
 |[],_::_,_=>rfl
 |_::_,[],_=>rfl
 |u::us,w::ws,h=>by
  rw[cC,iV (us:=us) (ws:=ws) (λe=>h (by simp[e])),PL]
theorem fM:∀{us ws:List U},us.length=ws.length->cC us ws=(i0 us.length).all λj=>bS (us.getD j .Jc) (ws.getD j .Jc)
 |[],[],_=>rfl
 |[],_::_,h=>by simp at h
 |_::_,[],h=>by simp at h
 |u::us,w::ws,h=>by
  have h':us.length=ws.length:=by simpa using h
  rw[cC,fM h',ke,List.range_succ_eq_map,č,ğ];rfl
theorem GX{its its':List d3}(b:us.length=its.length)(c:ws.length=its'.length):cC us ws=((i0 (min its.toArray.size its'.toArray.size)).all (λj=>bS (us.getD j .Jc) (ws.getD j .Jc))&&its.toArray.size==its'.toArray.size):=by
 simp only[hH];by_cases a:us.length=ws.length
 ·rw[fM a,show min its.length its'.length=us.length by lia,show(its.length==its'.length)=b8 by simp;lia,UW]
 ·rw[iV a,show(its.length==its'.length)=cc by simp;lia,PL]
theorem uH(b:JP s n u y)(h:ZG A s y x k)(hs:y=x->k=b8):Tb A s y x k:=λprog w E Q a=>by
 unfold eqBool;refine qs ?_;refine wpAny_ite_split (λc=>?_) (λ_=>?_)
 ·rw[hs (eq_of_beq c)]at a;exact bD (N3 (df a))
 ·cases b<;>exact bD (h prog w E _ (Jz a))
theorem T1(q:∀m,m+1=n->∀{u w:U}{x f:d3}{A:N8},JP s m u x->JP s m w f->A.units+m<LU->Tb A s x f (bS u w))(h:JP s n u x)(h':JP s n w f)(t:A.units+n<LU):ZG A s x f (bS u w)/\Ć A s x f (!bS u w):=by
 have a:A.units<LU:=by lia
 have go:∀{m:Nat} {us ws:List U} {its its':List d3},m+1=n->(∀j (r:j<its.length),JP s m (us.getD j .Jc) its[j])->(∀j (r:j<its'.length),JP s m (ws.getD j .Jc) its'[j])->∀j (g:j<its.toArray.size) (i:j<its'.toArray.size),Tb A.in1 s its.toArray[j] its'.toArray[j] (bS (us.getD j .Jc) (ws.getD j .Jc)):=λ{m us ws its its'} e k k' j g i=>q m e (k j g) (k' j i) (by show A.units+1+m < _;lia);cases h with
 |Jc =>
  cases h' with
  |Jc=>exact⟨.none_none,.none_none⟩
  |bl=>exact⟨.none_bool _,.none_bool _⟩
  |int=>exact⟨.none_int _ _,.none_int _ _⟩
  |str=>exact⟨.none_str _ _,.none_str _ _⟩
  |tup c k' d b=>exact⟨.none_tuple b a,.none_tuple b a⟩
  |lst c k' d b=>exact⟨.none_list b a,.none_list b a⟩
 |bl =>
  cases h' with
  |Jc=>exact⟨.bool_none _,.bool_none _⟩
  |bl=>exact⟨.bool_bool _ _,.bool_bool _ _⟩
  |int=>exact⟨.bool_int _ _ _,.bool_int _ _ _⟩
  |str=>exact⟨.bool_str _ _ _,.bool_str _ _ _⟩
  |tup c k' d b=>exact⟨.bool_tuple _ b a,.bool_tuple _ b a⟩
  |lst c k' d b=>exact⟨.bool_list _ b a,.bool_list _ b a⟩
 |int =>
  cases h' with
  |Jc=>exact⟨.int_none _ _,.int_none _ _⟩
  |bl=>exact⟨.int_bool _ _ _,.int_bool _ _ _⟩
  |int=>exact⟨.int_int _ _ _ _,.int_int _ _ _ _⟩
  |str=>exact⟨.int_str _ _ _ _,.int_str _ _ _ _⟩
  |tup c k' d b=>exact⟨.int_tuple _ _ b a,.int_tuple _ _ b a⟩
  |lst c k' d b=>exact⟨.int_list _ _ b a,.int_list _ _ b a⟩
 |str =>
  cases h' with
  |Jc=>exact⟨.str_none _ _,.str_none _ _⟩
  |bl=>exact⟨.str_bool _ _ _,.str_bool _ _ _⟩
  |int=>exact⟨.str_int _ _ _ _,.str_int _ _ _ _⟩
  |str=>exact⟨.str_str _ _ _ _,.str_str _ _ _ _⟩
  |tup c k' d b=>exact⟨.str_tuple _ _ b a,.str_tuple _ _ b a⟩
  |lst c k' d b=>exact⟨.str_list _ _ b a,.str_list _ _ b a⟩
 |tup l k y p =>
  cases h' with
  |Jc=>exact⟨.tuple_none p a,.tuple_none p a⟩
  |bl=>exact⟨.tuple_bool _ p a,.tuple_bool _ p a⟩
  |int=>exact⟨.tuple_int _ _ p a,.tuple_int _ _ p a⟩
  |str=>exact⟨.tuple_str _ _ p a,.tuple_str _ _ p a⟩
  |tup c k' d b=>rw[show bS (.tup _) (.tup _)=_ from GX l c];exact⟨.tuples p b a (go rfl k k'),.tuples p b a (go rfl k k')⟩
  |lst c k' d b=>exact⟨.tuple_list p b a,.tuple_list p b a⟩
 |lst l k y p =>
  cases h' with
  |Jc=>exact⟨.list_none p a,.list_none p a⟩
  |bl=>exact⟨.list_bool _ p a,.list_bool _ p a⟩
  |int=>exact⟨.list_int _ _ p a,.list_int _ _ p a⟩
  |str=>exact⟨.list_str _ _ p a,.list_str _ _ p a⟩
  |tup c k' d b=>exact⟨.list_tuple p b a,.list_tuple p b a⟩
  |lst c k' d b =>
   rename_i us _ _ ws _ _;by_cases o:us.length=ws.length
   ·rw[show bS (.lst us) (.lst ws)=_ from fM o,l,<-hH];exact⟨.lists p b (by simp;lia) a (go rfl k k'),.lists p b (by simp;lia) a (go rfl k k')⟩
   ·rw[show bS (.lst us) (.lst ws)=cc from iV o];exact⟨.lists_lengths p b (by simp;lia) a,.lists_lengths p b (by simp;lia) a⟩
theorem GY:∀{n:Nat}{u w:U}{x a:d3}{A:N8},JP s n u x->JP s n w a->A.units+n<LU->Tb A s x a (bS u w):=by
 intro n;induction n with
 |zero=>intro u w x a A h h' b;exact uH h (T1 (λm e=>by cases e) h h' b).1 λe=>by subst e;rw[h.inj h'];exact h'.self
 |succ n c=>intro u w x a A h h' b;exact uH h (T1 (λm e=>by cases e;exact c) h h' b).1 λe=>by subst e;rw[h.inj h'];exact h'.self
theorem GZ(h:JP s n u x)(h':JP s n w a)(b:A.units+n<LU):ZG A s x a (bS u w)/\Ć A s x a (!bS u w):=T1 (λm e=>by cases e;exact GY) h h' b
end
end TM
namespace TM
open PySem L2 PyProof.Rows
def Je(C:Ct)(m:M (Kd×U)):TE:=λσ H Q=>∃a:Cf,a.σ=σ/\a.H=H/\Ok C a/\W m a.st λr st'=>∀c v,c.σ=σ->c.st=st'->Ok C c->Nx a c->aL C a c r.1 r.2 v->Q v c.H
def Km(C:Ct)(m:M Bool):TT:=λσ H Q=>∃a:Cf,a.σ=σ/\a.H=H/\Ok C a/\W m a.st λb st'=>∀c,c.σ=σ->c.st=st'->Ok C c->Nx a c->Q b c.H
def cN(C:Ct)(a c:Cf):List (Kd×U)->List V->Prop
 |[],vs=>vs=[]
 |r::rs,vs=>∃v t,vs=v::t/\fI C a c r.1 r.2 v/\cN C a c rs t/\(r.1=.own->∀(i:Nat) b d,rs[i]?=a5 b->t[i]?=a5 d->b.1=.own->d≠v)
def Ks(C:Ct)(m:M (List (Kd×U))):TA:=λσ H Q=>∃a:Cf,a.σ=σ/\a.H=H/\Ok C a/\W m a.st λrs st'=>∀c vs,c.σ=σ->c.st=st'->Ok C c->Nx a c->cN C a c rs vs->Q vs c.H
section
theorem PE.weak(h:PE X e t)(i:∀σ H Q,t' σ H Q->t σ H Q):PE X e t':=λpins s σ H Q I q=>h pins s σ H Q I (i σ H Q q)
theorem PT.weak(h:PT X e t)(i:∀σ H Q,t' σ H Q->t σ H Q):PT X e t':=λpins s σ H Q I q=>h pins s σ H Q I (i σ H Q q)
theorem bZ{st:az}:W (aC rs) st Q↔bt rs st/\Q () st:=by
 constructor
 ·rintro⟨a,st',e,h⟩;unfold aC at e;split at e
  ·cases e;exact⟨by assumption,h⟩
  ·cases e
 ·rintro⟨b,c⟩;exact⟨(),st,by unfold aC;rw[Ő b],c⟩
theorem dF{st:az}:bt (r::rs) st↔bt [r] st/\bt rs st:=by
 obtain⟨k,u⟩:=r;cases k<;>simp[bt]
theorem fI.t(h:fI C a c k u v)(s:bt [(k,u)] c.st):aL C a c k u v:=by
 cases k with
 |bor j=>exact⟨s.1,h⟩
 |_=>exact h
structure Pf(C:Ct)(c0 c:Cf)(x y:Kd×U)(vx vy:V):Prop where
 hσ:c.σ=c0.σ
 ok:Ok C c
 nx:Nx c0 c
 rx:aL C c0 c x.1 x.2 vx
 ry:aL C c0 c y.1 y.2 vy
 ne:x.1=.own->y.1=.own->vy≠vx
theorem kY(h:fI C j b k u v)(h':fI C b c k' u' d):k=.own->k'=.own->d≠v:=by
 rintro rfl rfl e;obtain⟨r,f,_,_,_,g⟩:=h;obtain⟨l,i,a,_⟩:=h';obtain⟨o,ho,_⟩:=g.some;subst f;rw[i]at e;cases e;rw[ho]at a;cases a
theorem two{k:Kd×U->Kd×U->M β}{Post:β->az->Prop}{f:d3->d3->Sem α}{Q':d3->d3->α->fS->Prop}(N:PE X a (Je C O))(Q:PE X b (Je C z))(I:Inv X pins d.σ d.H s)(T:Ok C d)
  (h:W (O >>= λx=>z >>= λy=>aC [x,y] >>= λ_=>k x y) d.st Post)
  (Y:∀x y c g j v u s2,Pf C d c x y g j->Inv X pins c.σ c.H s2->RelV g v->RelV j u->W (k x y) c.st Post->d4 (gs X.prog X.w) X.A (f v u) (Q' v u) X.xe s2) :
  d4 (gs X.prog X.w) X.A (wk a X.env) (λv s₁=>d4 (gs X.prog X.w) X.A (wk b X.env) (λu s₂=>d4 (gs X.prog X.w) X.A (f v u) (Q' v u) X.xe s₂) X.xe s₁) X.xe s:=by
 rw[ah]at h;refine Jf (N pins s d.σ d.H (λg B=>∃x e,e.H=B/\e.σ=d.σ/\Ok C e/\Nx d e/\aL C d e x.1 x.2 g/\W (z >>= λy=>aC [x,y] >>= λ_=>k x y) e.st Post) I ⟨d,rfl,rfl,T,h.mono λx st1 n e g o e2 p q r=>⟨x,e,rfl,o,p,q,r,by rw[e2];exact n⟩⟩) ?_;rintro v s1 ⟨g,B,I1,rv,x,e,rfl,o,p,q,r,n⟩;rw[ah]at n;refine Jf (Q pins s1 d.σ e.H (λj D=>∃y i,i.H=D/\Pf C d i x y g j/\W (k x y) i.st Post) I1 ⟨e,o,rfl,p,n.mono λy st2 l i j G e4 Jr J L=>?_⟩) ?_
 ·rw[ah,bZ]at l;subst e4;rw[dF]at l;exact⟨y,i,rfl,⟨G,Jr,q.trans J,(r.w.on p J (G.trans o.symm)).t l.1.1,(L.from q),kY r.w L.w⟩,l.2⟩
 ·rintro u s2 ⟨j,D,I2,ru,y,i,rfl,m,l⟩;have hs:i.σ=d.σ:=m.hσ;exact Y x y i g j v u s2 m (by rw[hs];exact I2) rv ru l
structure Nl(C:Ct)(c0 c:Cf)(x:Kd×U)(vx:V):Prop where
 hσ:c.σ=c0.σ
 ok:Ok C c
 nx:Nx c0 c
 rx:aL C c0 c x.1 x.2 vx
theorem one{k:Kd×U->M β}{Post:β->az->Prop}{f:d3->Sem α}{Q':α->fS->Prop}(l:PE X a (Je C m))(I:Inv X pins b.σ b.H s)(n:Ok C b)
  (h:W (m >>= λx=>k x) b.st Post)
  (o:∀x c d v s2,Nl C b c x d->Inv X pins c.σ c.H s2->RelV d v->W (k x) c.st Post->d4 (gs X.prog X.w) X.A (f v) Q' X.xe s2) :
  d4 (gs X.prog X.w) X.A (wk a X.env) (λv p=>d4 (gs X.prog X.w) X.A (f v) Q' X.xe p) X.xe s:=by
 rw[ah]at h;refine Jf (l pins s b.σ b.H (λd i=>∃x e,e.H=i/\Nl C b e x d/\W (k x) e.st Post) I ⟨b,rfl,rfl,n,h.mono λx st1 g e d q r t u y=>⟨x,e,rfl,⟨q,t,u,y⟩,by rw[r];exact g⟩⟩) ?_;rintro v s1 ⟨d,i,z,rv,x,e,rfl,j,g⟩;exact o x e d v s1 j (by rw[j.hσ];exact z) rv g
def cn(C:Ct)(a:Cf)(Q:VK)(r:Kd×U)(st':az):Prop:=∀c v,c.σ=a.σ->c.st=st'->Ok C c->Nx a c->aL C a c r.1 r.2 v->Q v c.H
section
theorem cn.flat(h:cn C a Q (.loc,u) c.st)(b:c.σ=a.σ)(d:Ok C c)(n:Nx a c)(r:Rep C c.S c.H u v):Q v c.H:=h c v b rfl d n r
theorem cn.list(h:cn C a Q (.own,.lst us) c.st)(b:c.σ=a.σ)(d:Ok C c)(n:Nx a c)(r:ak C c.S c.H us vs)(p:fR)(e:c.H p=b6):Q (.ref p) (upd c.H p (.lst vs)):=by
 obtain⟨f,g,i⟩:=d.newList n e r;exact h {c with H:=upd c.H p (.lst vs)} _ b rfl f g i
theorem cn.tup(h:cn C a Q (.loc,.tup us) c.st)(b:c.σ=a.σ)(d:Ok C c)(n:Nx a c)(r:ak C c.S c.H us vs)(p:fR)(e:c.H p=b6):Q (.ref p) (upd c.H p (.tup vs)):=by
 obtain⟨f,g,i⟩:=d.EF n e r;exact h {c with H:=upd c.H p (.tup vs)} _ b rfl f g i
theorem cn.tupK(h:cn C d Q (kE k,.tup us) c.st)(e:c.σ=d.σ)(a:Ok C c)(n:Nx d c)(r:ak C (SK C c k) c.H us vs)(p:fR)(f:c.H p=b6):Q (.ref p) (upd c.H p (.tup vs)):=by
 obtain⟨g,b⟩:=a.lay (o:=.tup vs) f;refine h {c with H:=upd c.H p (.tup vs)} _ e rfl g (n.trans b) (aL.item ?_);cases k<;>exact⟨p,vs,rfl,JH.of ay,by first|exact r.mv (a.Nf b)|exact r.mv (a.mv b)⟩
theorem cX(h:d9 k us=b8)(r:ak C (SK C c k) c.H us vs):ak C c.S c.H us vs:=by
 cases k with
 |any=>exact r.Js (by simpa[d9,isAny] using h)
 |_=>exact r
end
theorem ET(k k':Kd):∀a,SK C c k a->SK C c (kT k k') a:=by
 intro a h;cases k<;>cases k'<;>first|exact h|exact .inr h
theorem BH(k k':Kd):∀a,SK C c k' a->SK C c (kT k k') a:=by
 intro a h;cases k<;>cases k'<;>first|exact h|exact .inr h
theorem G0(k k':Kd):kE (kT k k')=kT k k':=by cases k<;>cases k'<;>rfl
theorem BI:KG X (OJ .Add) (λx y H Q=>∃l b xs zs,x=.ref l/\y=.ref b/\JA X.K H l xs/\JA X.K H b zs/\xs.length+zs.length<=cL/\∀p,H p=b6->Q (.ref p) (upd H p (.lst (xs++zs)))):=by
 intro pins s σ H x y v u Q I j k h;obtain⟨l,b,xs,zs,rfl,rfl,m,o,hz,q⟩:=h;cases j;cases k;obtain⟨its,r,pl,z⟩:=I.list m;obtain⟨c,d,t,G⟩:=I.list o;have hl:=r.length;have J:=d.length;obtain⟨⟨cls,dd,data,w⟩,ho,e,n,f⟩:=pl.isList;obtain⟨⟨L,A,data2,B⟩,g,i,C,a⟩:=t.isList;simp only at e f i a;subst e f i a;refine Wx ⟨_,ho,rfl⟩ ⟨_,g,rfl⟩ noFill_list_add seq_list_add PySem.F.slot_list_add PySem.F.entry_list_add (PySem.F.args_list_add_2 _ _)
   (list_addW l b its.toArray c.toArray n C dd A w B (by rw[hH,hH];lia)) ⟨ho,g,?_⟩
 have D:its.toArray++c.toArray=(its++c).toArray:=by simp
 rw[D];exact⟨.ref _,_,I.IC (t':=s.toks) (r.append d) (by rw[hV];lia),rfl,q _ I.fresh⟩
end
section
variable{X:Cx}{C:Ct}{pins:List (fR×Obj)}{s:fS}{c0 c:Cf}{Q:VK}
theorem yL:KG X (OJ .Add) (λx y H Q=>∃a b e,x=.ref a/\y=.ref b/\JH X.K H a []/\JH X.K H b e/\Q (.ref b) H):=by
 intro pins s σ H x y v u Q I k l h;obtain⟨a,b,e,rfl,rfl,m,o,q⟩:=h;cases k;cases l;obtain⟨its,p,r,_⟩:=I.tuple m;obtain⟨t,D,p2,_⟩:=I.tuple o;cases p;obtain⟨⟨cls,dd,data,w⟩,ho,f,n,g⟩:=id r;obtain⟨⟨G,z,data2,A⟩,i,j,B,d⟩:=id p2;simp only at f g j d;subst f g j d;exact Wx ⟨_,ho,rfl⟩ ⟨_,i,rfl⟩ XH ZF PySem.F.slot_tuple_add PySem.F.entry_tuple_add (PySem.F.args_tuple_add_2 _ _)
   (tuple_addW0 a b _ t.toArray n B dd z w A (by rfl)) ⟨ho,i,.ref b,H,I,rfl,q⟩
noncomputable def Ru.op:Ru->è
 |.add=>.Add|.sub=>.Sub|.mul=>.Mult|.Ou=>.FloorDiv|.mod=>.Mod|.pow=>.Pow
theorem eJ(h:sd f a b=a5 r):∃i j o,a=.int i/\b=.int j/\f i j=a5 o/\r=(.loc,.int o):=by
 unfold sd at h;split at h
 ·rw[fx]at h;obtain⟨o,e,rfl⟩:=h;exact⟨_,_,o,rfl,rfl,e,rfl⟩
 ·cases h
theorem EU(Y:C.K=X.K)(t:Pf C c0 c x y g l)(I:Inv X pins c.σ c.H s)(z:RelV g v)(B:RelV l u)(h:LW op x y=a5 r)(q:cn C c0 Q r c.st):
  d4 (gs X.prog X.w) X.A (OJ op.op v u) (EP X pins c.σ Q) X.xe s:=by
 obtain⟨m,d,n,D,G,_⟩:=t;cases op with
 |add =>
  have h:yE x y=a5 r:=h;unfold yE at h;split at h
  ·have ex:=D.int d;have e:=G.int d;cases h;exact bV pins s c.σ c.H g l v u Q I z B ⟨_,_,ex,e,q.flat m d n rfl⟩
  ·have ex:=D.str d;have e:=G.str d;split at h
   ·cases h;exact rM pins s c.σ c.H g l v u Q I z B ⟨_,_,ex,e,by assumption,q.flat m d n rfl⟩
   ·cases h
  ·obtain⟨a,vs,ex,O,J⟩:=D.list d;obtain⟨b,ws,e,T,L⟩:=G.list d;split at h
   ·rename_i N;cases h;exact BI pins s c.σ c.H g l v u Q I z B ⟨a,b,vs,ws,ex,e,Y▸O,Y▸T,by rw[<-J.len,<-L.len];exact N.1,λp hp=>q.list m d n ((cX N.2.1 J).append (cX N.2.2 L)) p hp⟩
   ·cases h
  ·rename_i k xs k' ys _ _;obtain⟨a,vs,ex,O,J⟩:=D.tuple d;obtain⟨b,ws,e,T,L⟩:=G.tuple d;have Mg:=O;have O1:=T;rw[Y]at Mg O1;split at h
   ·rename_i N;cases h;have m1:ak C (SK C c (kT k k')) c.H xs vs:=J.mv (.up (ET k k'));have m2:ak C (SK C c (kT k k')) c.H ys ws:=L.mv (.up (BH k k'));have q':cn C c0 Q (kE (kT k k'),.tup (xs++ys)) c.st:=by rw[G0];exact q
    by_cases e1:vs=[]
    ·subst e1;refine yL pins s c.σ c.H g l v u Q I z B ⟨a,b,ws,ex,e,Mg,O1,?_⟩;refine q' c (.ref b) m rfl d n (aL.item ⟨b,ws,rfl,T,?_⟩);have:xs=[]:=by have:=m1.len;simpa using this
     rw[this];exact m2
    ·refine Bb pins s c.σ c.H g l v u Q I z B ⟨a,b,vs,ws,ex,e,Mg,O1,e1,by rw[<-J.len,<-L.len];exact N,λe2=>?_,λ_ p hp=>q'.tupK m d n (m1.append m2) p hp⟩;subst e2;refine q' c (.ref a) m rfl d n (aL.item ⟨a,vs,rfl,O,?_⟩);have:ys=[]:=by have:=m2.len;simpa using this
     rw[this,r6];exact m1
   ·cases h
  ·cases h
 |sub =>
  obtain⟨i,j,o,ex,e,f,rfl⟩:=eJ h;have ex:=(ex▸D).int d;have e:=(e▸G).int d;cases f;exact ka pins s c.σ c.H g l v u Q I z B ⟨_,_,ex,e,q.flat m d n rfl⟩
 |mul =>
  obtain⟨i,j,o,ex,e,f,rfl⟩:=eJ h;have ex:=(ex▸D).int d;have e:=(e▸G).int d;unfold Bx at f;split at f
  ·cases f;exact kb pins s c.σ c.H g l v u Q I z B ⟨_,_,ex,e,by assumption,q.flat m d n rfl⟩
  ·cases f
 |Ou =>
  obtain⟨i,j,o,ex,e,f,rfl⟩:=eJ h;have ex:=(ex▸D).int d;have e:=(e▸G).int d;unfold By at f;split at f
  ·cases f;exact A5 pins s c.σ c.H g l v u Q I z B ⟨_,_,ex,e,by assumption,q.flat m d n rfl⟩
  ·cases f
 |mod =>
  obtain⟨i,j,o,ex,e,f,rfl⟩:=eJ h;have ex:=(ex▸D).int d;have e:=(e▸G).int d;unfold Bz at f;split at f
  ·cases f;exact dZ pins s c.σ c.H g l v u Q I z B ⟨_,_,ex,e,by assumption,q.flat m d n rfl⟩
  ·cases f
 |pow =>
  obtain⟨i,j,o,ex,e,f,rfl⟩:=eJ h;have ex:=(ex▸D).int d;have e:=(e▸G).int d;unfold BA at f;split at f
  ·cases f;exact nY pins s c.σ c.H g l v u Q I z B ⟨_,_,ex,e,by assumption,q.flat m d n rfl⟩
  ·cases f
theorem BJ(d:C.K=X.K)(f:PE X a (Je C g))(i:PE X b (Je C j)):PE X (.BinOp a k.op b pos) (Je C (g >>= λx=>j >>= λy=>aC [x,y] >>= λ_=>M.Jp (LW k x y))):=by
 rintro pins s σ H Q I ⟨c0,rfl,rfl,l,h⟩;refine wpAny_BinOp (two f i I l h λx y c p A v u s2 t m n o w=>?_);obtain⟨r,e,q⟩:=bK.mp w;exact Jf (EU d t m n o e q) λ_ _ z=>by rw[t.hσ]at z;exact z
noncomputable def Qp.op:Qp->Ğ
 |.eq=>.Eq|.ne=>.NotEq|.lt=>.Lt|.le=>.LtE|.gt=>.Gt|.ge=>.GtE|.isin=>.In|.Jo=>.NotIn|.is=>.Is|.Ov=>.IsNot
theorem G1{neg:Bool}(I:Inv X pins c.σ c.H s)(i:C.K=X.K)(L:X.A.units+60<LU){S:fR->Prop}(n:Rep C S c.H x m)(o:RelV m v)(r:ak C S c.H g vs)
  (ha:JA C.K c.H a vs\/JH C.K c.H a vs) (t:J1 50 x=b8) (u:dA 50 g=b8) {Q:d3->fS->Prop} (q:Q (.bool (if neg then !(g.any λy=>bS y x) else g.any λy=>bS y x)) s) :
  d4 (gs X.prog X.w) X.A (LZ (if neg then .NotIn else .In) v (.ref a)) Q X.xe s:=by
 have z:=JP.of I i 50 x m v t n o;have go:∀its:List d3,Vals vs its->∃e:d3->Bool,(∀y,y∈its.toArray->Tb X.A.in1 s y v (e y))/\its.toArray.any e=g.any λy=>bS y x:=by
  intro its rv;obtain⟨l,k,_⟩:=JP.wM (JP.of I i 50) u r rv
  classical
  have q:∀j (b:j<its.length),dt (∃w,JP s 50 w its[j]/\bS w x=b8)=bS (g.getD j .Jc) x:=λj b=>by
   rw[Ll,decide_eq_true_iff];exact⟨λ⟨w,d,f⟩=>by rw[<-d.inj (k j b)];exact f,λh=>⟨_,k j b,h⟩⟩
  refine⟨λy=>dt (∃w,JP s 50 w y/\bS w x=b8),λy B=>?_,?_⟩
  ·obtain⟨j,b,e⟩:=Q8 (show y∈its by simpa using B);subst e;show Tb _ _ _ _ (decide _);rw[q j b];exact GY (k j b) z (by show X.A.units+1+50 < _;lia)
  ·rw[Ll];simp only[List.any_toArray,S9];constructor
   ·rintro⟨y,D,h⟩;obtain⟨j,b,rfl⟩:=Q8 D;rw[q j b]at h;exact⟨_,MY (l▸b),by simpa[l▸b] using h⟩
   ·rintro⟨w,G,J⟩;obtain⟨j,b,rfl⟩:=Q8 G;exact⟨_,MY (l▸b),by rw[q j (l▸b)];simpa[b] using J⟩
 rcases ha with ha|ha
 ·obtain⟨its,rv,p,_⟩:=uG I (i▸ha);obtain⟨e,d,f⟩:=go its rv;cases neg with
  |false=>exact SeqAt.in_listAt e p d (by rw[f];exact q)
  |true=>exact SeqAt.notIn_listAt e p d (by rw[f];exact q)
 ·rw[i]at ha;obtain⟨its,rv,p,_⟩:=I.tuple ha;obtain⟨e,d,f⟩:=go its rv;cases neg with
  |false=>exact SeqAt.in_tupleAt e p d (by rw[f];exact q)
  |true=>exact SeqAt.notIn_tupleAt e p d (by rw[f];exact q)
end
section
theorem cO:∀{us:List U}{ss:List Str},strsOf us=a5 ss->us=ss.map .str
 |[],ss,h=>by cases h;rfl
 |.str x::us,ss,h=>by
  simp only[strsOf,fx]at h;obtain⟨t,a,rfl⟩:=h;rw[cO a];rfl
 |.Jc::_,_,h=>by cases h
 |.bl _::_,_,h=>by cases h
 |.int _::_,_,h=>by cases h
 |.tup _::_,_,h=>by cases h
 |.lst _::_,_,h=>by cases h
 |.I_ _ _::_,_,h=>by cases h
theorem fN:∀{us:List U}{ns:List Int},intsOf us=a5 ns->us=ns.map .int
 |[],ns,h=>by cases h;rfl
 |u::us,ns,h=>by
  cases u<;>first|(cases h;done)|skip
  rename_i x;have h':(intsOf us).map (x::·)=a5 ns:=h;rw[fx]at h';obtain⟨ms,e,rfl⟩:=h';rw[fN e];rfl
theorem ak.ints{S:fR->Prop}:∀{ns:List Int}{vs:List V},ak C S H (ns.map .int) vs->vs=ns.map V.int
 |[],vs,h=>h
 |n::ns,vs,h=>by
  obtain⟨v,r,rfl,a,b⟩:=h;rw[ak.ints b];have:v=.int n:=a;rw[this];rfl
theorem kZ:∀{us:List U}{ss:List Bool},kQ us=a5 ss->us=ss.map .bl
 |[],ss,h=>by cases h;rfl
 |.bl x::us,ss,h=>by
  simp only[kQ,fx]at h;obtain⟨t,a,rfl⟩:=h;rw[kZ a];rfl
 |.Jc::_,_,h=>by cases h
 |.str _::_,_,h=>by cases h
 |.int _::_,_,h=>by cases h
 |.tup _::_,_,h=>by cases h
 |.lst _::_,_,h=>by cases h
 |.I_ _ _::_,_,h=>by cases h
theorem ak.VN{S:fR->Prop}:∀{xs:List Bool}{vs:List V},ak C S H (xs.map .bl) vs->vs=xs.map V.bl
 |[],vs,h=>h
 |x::xs,vs,h=>by
  obtain⟨v,r,rfl,a,b⟩:=h;rw[ak.VN b];have:v=.bl x:=a;rw[this];rfl
def EV(X:Cx)(pins:List (fR×Obj))(c:Cf)(b:Bool)(v:d3)(s':fS):Prop:=v=.bool b/\Inv X pins c.σ c.H s'
theorem dW(o:KG X f r)(I:Inv X pins c.σ c.H s)(e:RelV a v)(g:RelV d u)(h:r a d c.H λx H'=>x=.bl b/\H'=c.H):
  d4 (gs X.prog X.w) X.A (f v u) (EV X pins c b) X.xe s :=
 Jf (o pins s c.σ c.H a d v u _ I e g h) λw s' i=>by
  obtain⟨z,H',j,r,k,l⟩:=i;subst k l;exact⟨r,j⟩
theorem aL.dict(g:Ok C c)(h:aL C i c k (.I_ ks us) v):∃a kvs,v=.ref a/\c.H a=a5 (.dK kvs)/\kvs.map (·.1)=ks.map ko/\ak C (SK C c k) c.H us (kvs.map (·.2)):=by
 cases k with
 |own=>obtain⟨r,e,_,_,_,kvs,b,d,f⟩:=h;exact⟨r,kvs,e,b,d,f⟩
 |bor j=>obtain⟨r,e,_,_,_,kvs,b,d,f⟩:=g.rootOf h.1 h.2;exact⟨r,kvs,e,b,d,f⟩
 |io=>exact h.elim
 |IY=>exact h.elim
 |_=>obtain⟨a,e,_,kvs,b,d,f⟩:=h;exact⟨a,kvs,e,b,d,f⟩
theorem da{S:fR->Prop}:∀{ks:List Str}{us:List U}{kvs:List (Key×V)},kvs.map (·.1)=ks.map ko->ak C S H us (kvs.map (·.2)) ->
  (∀u,cv ks us x=a5 u->∃v,dy kvs (ko x)=a5 v/\Rep C S H u v)/\(dy kvs (ko x)).isSome=dt (x∈ks)
 |[],us,kvs,a,b=>by
  have:kvs=[]:=by simpa using a
  subst this;exact⟨λu h=>by cases us<;>simp[cv]at h,by simp[dy]⟩
 |k::ks,us,[],a,b=>by simp at a
 |k::ks,[],p::kvs,a,b=>by simp[ak]at b
 |k::ks,j::us,p::kvs,a,b=>by
  obtain⟨v,r,e,d,f⟩:=b;rw[d6]at e;cases e;rw[d6,d6,Ql]at a;obtain⟨g,i⟩:=da (x:=x) a.2 f;by_cases hk:k=x
  ·subst hk;refine⟨λu h=>?_,?_⟩
   ·simp[cv]at h;subst h;exact⟨p.2,eB a.1,d⟩
   ·rw[eB a.1];simp
  ·have c:¬p.1=ko x:=by rw[a.1];intro z;exact hk (Vd z)
   refine⟨λu h=>?_,?_⟩
   ·simp[cv,hk]at h;obtain⟨v,e,q⟩:=g u h;exact⟨v,by rw[eC c];exact e,q⟩
   ·rw[eC c,i];simp[ro hk]
theorem Rep.mU{S:fR->Prop}(h:Rep C S H u v):dt (v=.Jc)=mU u:=by
 cases u with
 |Jc=>have:v=.Jc:=h;subst this;rfl
 |bl b=>have:v=.bl b:=h;subst this;rfl
 |int b=>have:v=.int b:=h;subst this;rfl
 |str b=>have:v=.str b:=h;subst this;rfl
 |I_ ks us=>obtain⟨a,rfl,_⟩:=h;rfl
 |_=>obtain⟨a,vs,rfl,_⟩:=h;rfl
theorem yM:KG X (LZ .Is) (λx y H Q=>∃i j,x=.bl i/\y=.bl j/\Q (.bl (i==j)) H):=by
 intro pins s σ H x y v u Q I a b h;obtain⟨i,j,rfl,rfl,q⟩:=h;cases a;cases b;cases i<;>cases j<;>exact df (nZ I q rfl)
theorem sg:KG X (LZ .IsNot) (λx y H Q=>∃i j,x=.bl i/\y=.bl j/\Q (.bl (!(i==j))) H):=by
 intro pins s σ H x y v u Q I a b h;obtain⟨i,j,rfl,rfl,q⟩:=h;cases a;cases b;cases i<;>cases j<;>exact df (nZ I q rfl)
theorem oK(hP:C.P=X.prog)(hw:C.w=X.w)(o:C.K=X.K)(G:X.A.units+60<LU)(t:Pf C c0 c x y J N)(I:Inv X pins c.σ c.H s)(f:RelV J v)(g:RelV N u)(h:cm O x.2 y.2=a5 b):
  d4 (gs X.prog X.w) X.A (LZ O.op v u) (EV X pins c b) X.xe s:=by
 obtain⟨hσ,d,n,j,i,_⟩:=t;obtain⟨kx,Q⟩:=x;obtain⟨ky,T⟩:=y
 dsimp only at h j i
 have q:∀neg:Bool,∀p,BB Q T=a5 p->d4 (gs X.prog X.w) X.A (LZ (if neg then .NotIn else .In) v u) (EV X pins c (if neg then !p else p)) X.xe s:=by
  intro neg p h;have B:=j.read d;have L:=i.read d;unfold BB at h;split at h
  ·obtain⟨a,vs,rfl,m,r⟩:=L;cases g;unfold Ow at h;split at h
   ·rename_i l;cases h;exact G1 I o G B f r (.inl m.sq) l.1 l.2 ⟨by cases neg<;>rfl,I⟩
   ·cases h
  ·obtain⟨a,vs,rfl,m,r⟩:=L;cases g;unfold Ow at h;split at h
   ·rename_i l;cases h;exact G1 I o G B f r (.inr m) l.1 l.2 ⟨by cases neg<;>rfl,I⟩
   ·cases h
  ·cases h;have ex:J=_:=B;obtain⟨a,kvs,rfl,m,r,Y⟩:=i.dict d;cases g;subst ex;have hs:=λz:Str=>(da (x:=z) r Y).2;cases neg with
   |false=>exact GP ⋯ I (d0.k (k:=ko _) m) f λs' D=>⟨by rw[hs];rfl,D⟩
   |true=>exact uc ⋯ I (d0.k (k:=ko _) m) f λs' D=>⟨by rw[hs];rfl,D⟩
  ·cases h
 unfold cm at h;split at h
 ·split at h
  ·rename_i l;cases h;exact(GZ (n:=50) (.of I o _ _ _ _ l.1 (j.read d) f) (.of I o _ _ _ _ l.2 (i.read d) g) ⋯).1 _ _ _ _ ⟨rfl,I⟩
  ·cases h
 ·split at h
  ·rename_i l;cases h;exact(GZ (n:=50) (.of I o _ _ _ _ l.1 (j.read d) f) (.of I o _ _ _ _ l.2 (i.read d) g) ⋯).2 _ _ _ _ ⟨rfl,I⟩
  ·cases h
 ·cases h;exact dW GA I f g ⟨_,_,j.int d,i.int d,rfl,rfl⟩
 ·cases h;exact dW GB I f g ⟨_,_,j.int d,i.int d,rfl,rfl⟩
 ·cases h;exact dW GC I f g ⟨_,_,j.int d,i.int d,rfl,rfl⟩
 ·cases h;exact dW GD I f g ⟨_,_,j.int d,i.int d,rfl,rfl⟩
 ·exact q cc b h
 ·rw[fx]at h;obtain⟨p,m,rfl⟩:=h;exact q b8 p m
 ·cases h;have e:=i.Jc d;exact dW D8 I f g ⟨e,by rw[(j.read d).mU],rfl⟩
 ·cases h;have e:=i.Jc d;exact dW A6 I f g ⟨e,by rw[(j.read d).mU],rfl⟩
 ·cases h;exact dW yM I f g ⟨_,_,j.bl d,i.bl d,rfl,rfl⟩
 ·cases h;exact dW sg I f g ⟨_,_,j.bl d,i.bl d,rfl,rfl⟩
 ·cases h
theorem BK(f:C.P=X.prog)(g:C.w=X.w)(i:C.K=X.K)(j:X.A.units+60<LU)(k:PE X a (Je C l))(m:PE X b (Je C n))(o:Rq d.op b=cc):
  PE X (.Compare a [d.op] [b] pos) (Je C (l >>= λx=>n >>= λy=>aC [x,y] >>= λ_=>M.Jp (cm d x.2 y.2) >>= λc=>pure (.loc,.bl c))):=by
 rintro pins s σ H Q I ⟨N,rfl,rfl,p,h⟩;refine wpAny_Compare1 (two k m I p h λx y c O T v u s2 t B D G w=>?_) o;rw[ah]at w;obtain⟨r,e,q⟩:=bK.mp w;rw[aq]at q;refine Jf (oK f g i j t B D G e) λz s' J=>?_;obtain⟨e,L⟩:=J;subst e;exact⟨.bl r,c.H,by rw[<-t.hσ];exact L,rfl,q c (.bl r) t.hσ rfl t.ok t.nx rfl⟩
theorem BL(g:C.P=X.prog)(i:C.w=X.w)(j:C.K=X.K)(k:X.A.units+60<LU)(l:PE X a (Je C m))(n:PE X b (Je C o))(p:Rq d.op b=cc):
  PT X (.Compare a [d.op] [b] pos) (Km C (m >>= λx=>o >>= λy=>aC [x,y] >>= λ_=>M.Jp (cm d x.2 y.2))):=by
 rintro pins s σ H Q I ⟨B,rfl,rfl,D,h⟩;refine Ø (two (f:=λv u=>LZ d.op v u) (Q':=λ_ _ c s=>d4 (gs X.prog X.w) X.A (Ļ c) (TP X pins B.σ Q) X.xe s) l n I D h λx y c T Y v u s2 t G J L w=>?_) p;obtain⟨r,e,q⟩:=bK.mp w;refine Jf (oK g i j k t G J L e) λz s' N=>?_;obtain⟨e,O⟩:=N;subst e;exact Jz ⟨c.H,by rw[<-t.hσ];exact O,q c t.hσ rfl t.ok t.nx⟩
end
section
def Dk(C:Ct)(a:Cf)(Q:Bool->Hp->Prop)(b:Bool)(st':az):Prop:=∀c,c.σ=a.σ->c.st=st'->Ok C c->Nx a c->Q b c.H
theorem si(c:a.σ=b.σ)(d:Ok C a)(n:Nx b a)(h:W m a.st (cn C b Q)):Je C m b.σ a.H Q :=
 ⟨a,c,rfl,d,h.mono λr st e f v g i j k l=>e f v g i j (n.trans k) (l.from n)⟩
theorem yN(c:a.σ=b.σ)(d:Ok C a)(n:Nx b a)(h:W m a.st (Dk C b Q)):Km C m b.σ a.H Q :=
 ⟨a,c,rfl,d,h.mono λr st e f g i j k=>e f g i j (n.trans k)⟩
theorem aX(b:Ok C a)(h:W (d >>= k) a.st Post)
  (hz:∀x c v,Nl C a c x v->W (k x) c.st Post->Z v c.H):Je C d a.σ a.H Z:=by
 rw[ah]at h;exact⟨a,rfl,rfl,b,h.mono λx st1 e f g i j l m n=>hz x f g ⟨i,l,m,n⟩ (by rw[j];exact e)⟩
theorem eL(d:Ok C a)(h:W (e >>= k) a.st Post)
  (hz:∀b c,c.σ=a.σ->Ok C c->Nx a c->W (k b) c.st Post->Z b c.H):Km C e a.σ a.H Z:=by
 rw[ah]at h;exact⟨a,rfl,rfl,d,h.mono λx st1 f g i j l m=>hz x g i l m (by rw[j];exact f)⟩
noncomputable def G2(m:M (Kd×U))(x:Kd×U):M (Kd×U):=match x.2 with
 |.bl b8=>m
 |.bl cc=>pure (.loc,.bl cc)
 |_=>M.fail
noncomputable def G3(x:Kd×U):M (Kd×U):=match x.2 with
 |.bl c=>pure (.loc,.bl !c)
 |_=>M.fail
theorem snd_and(g:PE X a (Je C i))(j:PE X (.BoolOp .And (b::rest) pos) (Je C l)):PE X (.BoolOp .And (a::b::rest) pos) (Je C (i >>= G2 l)):=by
 refine PE.weak (DS g j) ?_;rintro σ H Q ⟨o,rfl,rfl,m,h⟩;refine aX m h λx c v t w=>?_;obtain⟨k,u⟩:=x;obtain⟨f,d,n,r⟩:=t;unfold G2 at w;split at w
 ·rename_i e
  dsimp only at e r
  subst e;exact⟨b8,r.bl d,by rw[Ő rfl];exact si f d n w⟩
 ·rename_i e
  dsimp only at e r
  subst e;rw[aq]at w;exact⟨cc,r.bl d,by rw[ő kr];exact w c (.bl cc) f rfl d n rfl⟩
 ·exact(bo.mp w).elim
theorem BM(d:PE X a (Je C f)):PE X (.UnaryOp .Not a pos) (Je C (f >>= G3)):=by
 refine PE.weak (DT d) ?_;rintro σ H Q ⟨j,rfl,rfl,g,h⟩;refine aX g h λx c v t w=>?_;obtain⟨k,u⟩:=x;obtain⟨i,b,n,r⟩:=t;unfold G3 at w;split at w
 ·rename_i e
  dsimp only at e r
  subst e;rw[aq]at w;exact⟨_,r.bl b,w c (.bl _) i rfl b n rfl⟩
 ·exact(bo.mp w).elim
theorem BN(g:PT X d (Km C i))(j:PE X a (Je C k))(l:PE X b (Je C m)):PE X (.IfExp d a b pos) (Je C (i >>= λp=>if p=b8 then k else m)):=by
 refine PE.weak (xK g j l) ?_;rintro σ H Q ⟨q,rfl,rfl,o,h⟩;refine eL o h λp c e f n w=>?_;cases p with
 |true=>rw[Ő rfl]at w ⊢;exact si e f n w
 |false=>rw[ő kr]at w ⊢;exact si e f n w
theorem BO(d:PT X a (Km C e)):PT X (.UnaryOp .Not a pos) (Km C (e >>= λb=>pure !b)):=by
 refine PT.weak (DQ d) ?_;rintro σ H Q ⟨j,rfl,rfl,f,h⟩;refine eL f h λp c g i n w=>?_;rw[aq]at w;exact w c g rfl i n
theorem BP(g:PT X a (Km C i))(j:PW X (.BoolOp .And (b::rest) pos) (Km C k)):PW X (.BoolOp .And (a::b::rest) pos) (Km C (i >>= λp=>if p=b8 then k else pure cc)):=by
 have l:=DP g j;rintro m pins s σ H Q I ⟨d,rfl,rfl,o,h⟩;refine l m pins s d.σ d.H Q I (eL o h λp c e f n w=>?_);cases p with
 |true=>rw[Ő rfl]at w ⊢;exact yN e f n w
 |false=>rw[ő kr]at w ⊢;rw[aq]at w;exact w c e rfl f n
theorem EW(g:PT X a (Km C i))(j:PW X (.BoolOp .Or (b::rest) pos) (Km C k)):PW X (.BoolOp .Or (a::b::rest) pos) (Km C (i >>= λp=>if p=b8 then pure b8 else k)):=by
 have l:=Gi g j;rintro m pins s σ H Q I ⟨d,rfl,rfl,o,h⟩;refine l m pins s d.σ d.H Q I (eL o h λp c e f n w=>?_);cases p with
 |true=>rw[Ő rfl]at w ⊢;rw[aq]at w;exact w c e rfl f n
 |false=>rw[ő kr]at w ⊢;exact yN e f n w
theorem uI{us:List α}{vs:List β}(h:us.length=vs.length):(!us.isEmpty)=!vs.isEmpty:=by
 cases us<;>cases vs<;>simp_all
theorem jX(j:PE X a (Je C l))(i:C.K=X.K)(m:∀b,isTrue a X.env b=(do let v <-b;Yp a.pos;MP [v] (Ļ v))):PT X a (Km C (l >>= λx=>M.Jp (wI x.2))):=by
 refine PT.weak (xS j m) ?_;rintro σ H Q ⟨y,rfl,rfl,o,h⟩;refine aX o h λx c v t w=>?_;obtain⟨k,u⟩:=x;obtain⟨s,d,n,r⟩:=t;obtain⟨p,e,q⟩:=bK.mp w
 dsimp only at e r
 refine⟨p,?_,q c s rfl d n⟩;unfold wI at e;split at e
 ·cases e;rw[r.bl d];rfl
 ·cases e;obtain⟨a,vs,rfl,f,g⟩:=r.list d;exact .inl ⟨vs,i▸f,uI g.len⟩
 ·cases e;obtain⟨a,vs,rfl,f,g⟩:=r.tuple d;rw[i]at f;exact .inr (.inl ⟨vs,f,uI g.len⟩)
 ·split at e
  ·cases e;rw[r.str d];exact⟨by assumption,rfl⟩
  ·cases e
 ·cases e
theorem yO(l:C.P=X.prog)(m:C.w=X.w)(n:C.K=X.K)(o:X.A.units+60<LU)(T:PE X a (Je C Y))(hb:PE X b (Je C mb))(hd:PE X d (Je C md))(hm:lastMarks [r.op,o2.op] [b,d]=cc):
  PT X (.Compare a [r.op,o2.op] [b,d] pos) (Km C (Y >>= λx=>mb >>= λy=>aC [x,y] >>= λ_=>M.Jp (cm r x.2 y.2) >>= λp=>if p=b8 then(md >>= λz=>aC [y,z] >>= λ_=>M.Jp (cm o2 y.2 z.2)) else pure cc)):=by
 rintro pins s σ H Q I ⟨B,rfl,rfl,ok,h⟩;refine isTrue_chain (Jf (two T hb I ok h λx y c vx vy v u s2 t I2 rx D w=>?_) λv s1 h1=>test_link (Jf h1 λu s2 f=>f)) hm;rw[ah]at w;obtain⟨p,e,q⟩:=bK.mp w;refine Jf (oK l m n o t I2 rx D e) λz s' T7=>?_;obtain⟨e,G⟩:=T7;subst e;refine Jz ?_;cases p with
 |false =>
  rw[ő kr,aq]at q;exact ite_ff ⟨c.H,by rw[<-t.hσ];exact G,q c t.hσ rfl t.ok t.nx⟩
 |true =>
  rw[Ő rfl,ah]at q;refine ite_tt (test_last (Jf (hd pins s' c.σ c.H (λj J=>∃z g,g.H=J/\Pf C B g y z vy j/\W (M.Jp (cm o2 y.2 z.2)) g.st (Dk C B Q)) G ⟨c,rfl,rfl,t.ok,q.mono λz st2 f g j L k Jr N O=>?_⟩) ?_))
  ·rw[ah,bZ]at f;subst k;rw[dF]at f;exact⟨z,g,rfl,⟨L.trans t.hσ,Jr,t.nx.trans N,(t.ry.w.on t.ok N L).t f.1.1,O.from t.nx,kY t.ry.w O.w⟩,f.2⟩
  ·rintro zv s3 ⟨j,J,I3,rz,z,g,rfl,i,f⟩;obtain⟨q',e',w'⟩:=bK.mp f;refine Jf (oK (pins:=pins) l m n o i (by rw[i.hσ,<-t.hσ];exact I3) D rz e') λz' s4 T8=>?_;obtain⟨k,I4⟩:=T8;subst k;exact Jz ⟨g.H,by rw[<-i.hσ];exact I4,w' g i.hσ rfl i.ok i.nx⟩
end
section
theorem cN.from(n:Nx a b):cN C b c rs vs->cN C a c rs vs:=by
 intro h;induction rs generalizing vs with
 |nil=>exact h
 |cons r rs d=>obtain⟨v,t,e,f,g,i⟩:=h;exact⟨v,t,e,f.from n,d g,i⟩
theorem cN.get{i:Nat}(h:cN C b c rs vs)(e:rs[i]?=a5 r)(a:vs[i]?=a5 v):fI C b c r.1 r.2 v:=by
 induction rs generalizing vs i with
 |nil=>simp at e
 |cons j rs d =>
  obtain⟨k,t,rfl,f,g,l⟩:=h;cases i with
  |zero=>simp at e a;subst e a;exact f
  |succ i=>exact d g (by simpa using e) (by simpa using a)
theorem BQ:PA X [] (Ks C (pure [])):=by
 rintro pos pins s σ H Q I ⟨a,rfl,rfl,b,h⟩;rw[aq]at h;exact fC pos pins s a.σ a.H Q I (h a [] rfl rfl b (Nx.refl a) rfl)
theorem yP(g:PE X e (Je C m))(j:PA X es (Ks C ms))(hs:i3 (e::es) X.env=(cc,wk e X.env)::i3 es X.env):PA X (e::es) (Ks C (m >>= λr=>ms >>= λrs=>pure (r::rs))):=by
 rintro pos pins s σ H Q I ⟨a,rfl,rfl,k,h⟩;refine cS g j hs pos pins s a.σ a.H Q I (aX k h λr l v t w=>?_);rw[ah]at w;refine⟨l,t.hσ,rfl,t.ok,w.mono λrs st2 b n vs c o p d f=>?_⟩;rw[aq]at b;refine b n (v::vs) c o p (t.nx.trans d) ⟨v,vs,rfl,t.rx.w.on t.ok d (c.trans t.hσ.symm),f.from t.nx,λhk i y z q u x=>?_⟩;exact kY t.rx.w (f.get q u) hk x
structure Lf(C:Ct)(c0 c:Cf)(rs:List (Kd×U))(vs:List V):Prop where
 hσ:c.σ=c0.σ
 ok:Ok C c
 nx:Nx c0 c
 rep:cN C c0 c rs vs
 NT:bt rs c.st
theorem args{k:List (Kd×U)->M β}{Post:β->az->Prop}(f:PA X es (Ks C ms))(I:Inv X pins a.σ a.H s)(g:Ok C a)(h:W (ms >>= λrs=>aC rs >>= λ_=>k rs) a.st Post)(pos:Pos):
  d4 (gs X.prog X.w) X.A (ē (JL pos (i3 es X.env))) (λus s1=>∃rs c vs,Lf C a c rs vs/\Inv X pins c.σ c.H s1/\Vals vs us/\W (k rs) c.st Post) X.xe s:=by
 rw[ah]at h;refine Jf (f pos pins s a.σ a.H (λvs e=>∃rs c,c.H=e/\Lf C a c rs vs/\W (k rs) c.st Post) I ⟨a,rfl,rfl,g,h.mono λrs st1 b d vs i j l m n=>?_⟩) ?_
 ·rw[ah,bZ]at b;subst j;exact⟨rs,d,rfl,⟨i,l,m,n,b.1⟩,b.2⟩
 ·rintro us s1 ⟨vs,e,o,rv,rs,d,rfl,t,w⟩;exact⟨rs,d,vs,t,by rw[t.hσ];exact o,rv,w⟩
theorem Lf.one(t:Lf C a c [r] vs):∃v,vs=[v]/\aL C a c r.1 r.2 v:=by
 obtain⟨v,t',rfl,b,d,_⟩:=t.rep;cases d;exact⟨v,rfl,b.t t.NT⟩
theorem Lf.two(t:Lf C b c [r,d] vs):∃v a,vs=[v,a]/\aL C b c r.1 r.2 v/\aL C b c d.1 d.2 a:=by
 obtain⟨v,t',rfl,e,⟨a,h,rfl,f,g,_⟩,_⟩:=t.rep;cases g;have hs:=dF.mp t.NT;exact⟨v,a,rfl,e.t hs.1,f.t hs.2⟩
theorem Ok.share(b:Ok C c)(g:C.H₀ r=b6)(h:∃o,c.H r=a5 o)(hl:st'.length=c.st.length)
  (d:∀(i:Nat) k u,st'[i]?=a5 (a5 (k,u))->(∃v,c.σ[i]?=a5 (a5 v)/\fH C (λa=>c.S a\/a=r) c.H k u v)/\(k.root=b8->c.st[i]?=a5 (a5 (k,u)))) (l:Ma C {c with S:=λa=>c.S a\/a=r,st:=st' }) :
  Ok C {c with S:=λa=>c.S a\/a=r,st:=st' }:=by
 refine⟨b.same,λa z=>?_,b.par,b.io,by rw[show({c with S:=λa=>c.S a\/a=r,st:=st' }:Cf).st.length=st'.length from rfl,hl];exact b.len,λi k u e=>(d i k u e).1,λi j k k' u u' m hk f n p q s=>?_,l⟩
 ·rcases z with z|rfl
  ·exact b.KR a z
  ·exact⟨g,h⟩
 ·exact b.inj i j k k' u u' m hk f ((d i k u n).2 hk) ((d j k' u' p).2 f) q s
theorem Ok.EX(s:Ok C d)(b:Ok C c)(n:Nx d c)(f:d.H r=b6)(g:¬c.R r)(t:cV C c.S c.H r u):
  Ok C {c with S:=λa=>c.S a\/a=r}/\Nx d {c with S:=λa=>c.S a\/a=r}:=by
 obtain⟨o,ho,_⟩:=t.some;refine⟨b.share (st':=c.st) (s.jL f).1 ⟨o,ho⟩ rfl (λi k u e=>⟨?_,λ_=>e⟩) (b.dd.hs (.up λa=>.inl) λj a z=>⟨λq=>q.elim (b.root (.inr ⟨j,z⟩)).1 λe=>g (.inr ⟨j,e▸z⟩),λo q=>q⟩),⟨⟨n.keep,n.there,n.roots,λa z=>.inl (n.sub a z),λa z=>?_⟩⟩⟩
 ·obtain⟨v,h,l⟩:=b.sl i k u e;have w:Mv c.S c.H (λa=>c.S a\/a=r) c.H:=.up λa=>.inl;refine⟨v,h,l.mv w (.up λa z=>z.imp id .inl) λhk y m=>⟨?_,λo q=>q⟩⟩;obtain⟨A,p,x,_⟩:=l.rt hk;rw[m]at p;cases p;rintro(z|rfl)
  ·exact x z
  ·exact g (.inl ⟨i,k,u,hk,e,by rw[h,m]⟩)
 ·rcases z with z|rfl
  ·exact n.new a z
  ·exact .inr (.inr f)
theorem Ok.yQ(d:Ok C c)(n:Nx D c)(g:c.st[j]?=a5 (a5 (.own,u)))(h:c.σ[j]?=a5 (a5 (.ref r))):
  Ok C {c with S:=λa=>c.S a\/a=r,st:=c.st.set j (a5 (.loc,u))}/\Nx D {c with S:=λa=>c.S a\/a=r,st:=c.st.set j (a5 (.loc,u))}/\Rep C (λa=>c.S a\/a=r) c.H u (.ref r):=by
 obtain⟨Y,f,l,m,q1,q2,G,x⟩:=d.sl j _ _ g;rw[h]at f;cases f;cases m;have y:Rep C (λa=>c.S a\/a=r) c.H u (.ref r):=x.rep (λa=>.inl) (.inr rfl);obtain⟨o,ho,_⟩:=x.some;have s:j<c.st.length:=(dV.mp g).1;have t:∀(i:Nat) k u',(c.st.set j (a5 (.loc,u)))[i]?=a5 (a5 (k,u'))->i≠j->c.st[i]?=a5 (a5 (k,u')):=λi k u' e I=>by rw[i1 (ro I)]at e;exact e
 have J:c.R1 r:=⟨j,.own,u,rfl,g,h⟩
 have A:∀(i:Nat) (u':U),(c.st.set j (a5 (.loc,u)))[i]?=a5 (a5 (.IY,u'))->c.st[i]?=a5 (a5 (.IY,u')):=λi u' e=>by
  by_cases b:i=j
  ·subst b;rw[gj s]at e;cases e
  ·exact t i .IY u' e b
 have b1:∀a,({c with S:=λa=>c.S a\/a=r,st:=c.st.set j (a5 (.loc,u))}:Cf).R1 a->c.R1 a:=λa L=>by
  obtain⟨i,k,u',hk,e,N⟩:=L;by_cases b:i=j
  ·subst b;rw[gj s]at e;cases e;cases hk
  ·exact⟨i,k,u',hk,t i k u' e b,N⟩
 have O:Ma C {c with S:=λa=>c.S a\/a=r,st:=c.st.set j (a5 (.loc,u))}:=d.dd.of rfl (λi u' e=>⟨A i u' e,rfl⟩) (λa z=>.inl (b1 a z)) (.up λa=>.inl) λi a z=>⟨λq=>q.elim (d.root (.inr ⟨i,z⟩)).1 λe=>d.dd.d1 i a z (e▸J),λo q=>q⟩
 refine⟨d.share (st':=c.st.set j (a5 (.loc,u))) G ⟨o,ho⟩ (by simp) (λi k u' e=>?_) O,⟨⟨n.keep,n.there,λa z=>?_,λa z=>.inl (n.sub a z),λa z=>?_⟩⟩,y⟩
 ·by_cases b:i=j
  ·subst b;rw[gj s]at e;cases e;exact⟨⟨.ref r,h,y⟩,λz=>nomatch z⟩
  ·have w:=t i k u' e b;obtain⟨v,f,p⟩:=d.sl i k u' w;refine⟨⟨v,f,p.mv (.up λa=>.inl) (.up λa z=>z.imp id .inl) λhk l m=>⟨?_,λo q=>q⟩⟩,λ_=>w⟩;obtain⟨Qr,B,Q,_⟩:=p.rt hk;rw[m]at B;cases B;rintro(z|rfl)
   ·exact Q z
   ·exact b (d.inj i j k .own u' u l hk rfl w g (by rw[f,m]) h)
 ·rcases z with z|⟨i,u',l,f,p,T⟩
  ·exact n.roots a (.inl (b1 a z))
  ·exact n.roots a (.inr ⟨i,u',l,A i u' f,p,T⟩)
 ·rcases z with z|rfl
  ·exact n.new a z
  ·rcases n.roots a (.inl ⟨j,.own,u,rfl,g,h⟩) with z|z
   ·exact .inr (.inl z)
   ·exact .inr (.inr z)
theorem ip(B:Ok C l)(b:Ok C c)(n:Nx l c)(d:fI C l c r.1 r.2 v)(h:W (lift r) c.st Post):
  ∃(S':fR->Prop) (st':az) (u:U),(∀a,c.S a->S' a)/\Ok C {c with S:=S',st:=st' }/\Nx l {c with S:=S',st:=st' }/\Rep C S' c.H u v/\Post u st' /\
   (∀a,S' a->c.S a\/v=.ref a/\(r.1=.own\/c.R a))/\∀a,({c with S:=S',st:=st' }:Cf).R a->c.R a:=by
 obtain⟨k,u⟩:=r;cases k with
 |own =>
  rw[show lift (.own,u)=pure u from rfl,aq]at h;obtain⟨r,e,D,O,G,y⟩:=d;obtain⟨m,o⟩:=Ok.EX B b n D G y;refine⟨_,c.st,u,λa=>.inl,m,o,by rw[e];exact y.rep (λa=>.inl) (.inr rfl),h,λa z=>?_,λa z=>z⟩;rcases z with z|rfl
  ·exact .inl z
  ·exact .inr ⟨e,.inl rfl⟩
 |loc =>
  rw[show lift (.loc,u)=pure u from rfl,aq]at h;exact⟨c.S,c.st,u,λa=>id,b,n,d,h,λa z=>.inl z,λa z=>z⟩
 |any =>
  rw[show lift (.any,u)=if Js u=b8 then pure u else M.fail from rfl]at h;split at h
  ·rw[aq]at h;exact⟨c.S,c.st,u,λa=>id,b,n,Rep.Js (by assumption) d,h,λa z=>.inl z,λa z=>z⟩
  ·exact(bo.mp h).elim
 |bor j =>
  obtain⟨x,st',e,I⟩:=h;rw[show lift (.bor j,u) c.st=match c.st[j]? with|some (a5 (.own,u))=>a5 (Ex.ok u,c.st.set j (a5 (.loc,u)))|_=>b6 from rfl]at e;split at e
  ·rename_i w f;cases e;obtain⟨Q,A,r,J,_⟩:=b.sl j _ _ f;have p:c.σ[j]?=a5 (a5 v):=d;rw[p]at A;cases A;subst J;obtain⟨m,o,q⟩:=b.yQ n f p;refine⟨_,_,_,λa=>.inl,m,o,q,I,λa z=>?_,λa z=>?_⟩
   ·rcases z with z|rfl
    ·exact .inl z
    ·exact .inr ⟨rfl,.inr (.inl ⟨j,.own,_,rfl,f,p⟩)⟩
   ·rcases z with⟨i,k,u',hk,e,s⟩|⟨i,u',L,e,s,N⟩
    rotate_left 1
    ·by_cases g:i=j
     ·subst g;have t:i<c.st.length:=(dV.mp f).1;rw[gj t]at e;cases e
     ·rw[i1 (ro g)]at e;exact .inr ⟨i,u',L,e,s,N⟩
    by_cases g:i=j
    ·subst g;have t:i<c.st.length:=(dV.mp f).1;rw[gj t]at e;cases e;cases hk
    ·rw[i1 (ro g)]at e;exact .inl ⟨i,k,u',hk,e,s⟩
  ·cases e
 |_=>exact d.elim
theorem iq:∀{rs:List (Kd×U)}{vs:List V}{c:Cf}{Post:List U->az->Prop},Ok C b->Ok C c->Nx b c->cN C b c rs vs->W (dm rs) c.st Post ->
  ∃(S':fR->Prop) (st':az) (us:List U),(∀a,c.S a->S' a)/\Ok C {c with S:=S',st:=st' }/\Nx b {c with S:=S',st:=st' }/\ak C S' c.H us vs/\Post us st'
 |[],vs,c,Post,m,p,n,s,h=>by
  rw[show dm []=pure [] from rfl,aq]at h;exact⟨c.S,c.st,[],λa=>id,p,n,s,h⟩
 |r::rs,vs,c,Post,m,p,n,s,h=>by
  obtain⟨v,t,rfl,J,L,N⟩:=s;rw[show dm (r::rs)=lift r >>= λu=>dm rs >>= λus=>pure (u::us) from rfl,ah]at h;obtain⟨S1,st1,u,s1,O,Q,d,x,T,Y⟩:=ip m p n J h;rw[ah]at x;have Qs:cN C b {c with S:=S1,st:=st1} rs t:=by
   clear h x;have y:∀(l:List (Kd×U)) (w:List V),cN C b c l w->(r.1=.own->∀(i:Nat) g j,l[i]?=a5 g->w[i]?=a5 j->g.1=.own->j≠v)->cN C b {c with S:=S1,st:=st1} l w:=by
    intro l;induction l with
    |nil=>intro w q _;exact q
    |cons r2 l ih =>
     intro w q A;obtain⟨B,D,rfl,k,q2,q3⟩:=q;refine⟨B,D,rfl,?_,ih D q2 (λhk i g j e1 e2 Jw=>A hk (i+1) g j (by simpa using e1) (by simpa using e2) Jw),q3⟩;obtain⟨k2,u2⟩:=r2;cases k2 with
     |own =>
      obtain⟨a,e,p1,p2,G,p4⟩:=k;refine⟨a,e,p1,λz=>?_,λz=>G (Y a z),p4.mv (.up s1) λo q=>q⟩;rcases T a z with z|⟨z,z'|z'⟩
      ·exact p2 z
      ·exact A z' 0 _ B rfl rfl rfl (e.trans z.symm)
      ·exact G z'
     |loc=>exact Rep.mv (.up s1) k
     |any=>exact Rep.mv (.up λa z=>z.imp id (s1 a)) k
     |_=>exact k
   exact y rs t L N
  obtain⟨S2,st2,us,s2,Jr,n2,f,I⟩:=iq (c:={c with S:=S1,st:=st1}) m O Q Qs x;rw[aq]at I;exact⟨S2,st2,u::us,λa z=>s2 a (s1 a z),Jr,n2,⟨v,t,rfl,d.mv (.up s2),f⟩,I⟩
theorem BR(i:PA X es (Ks C ms)):PE X (.Tuple es x1 pos) (Je C (ms >>= λrs=>aC rs >>= λ_=>dm rs >>= λus=>if us.length<=cL then pure (.loc,.tup us) else M.fail)):=by
 rintro pins s σ H Q I ⟨j,rfl,rfl,f,h⟩;refine ô (Jf (args i I f h pos) λus s1 k=>?_);obtain⟨rs,c,vs,t,g,rv,w⟩:=k;rw[ah]at w;obtain⟨S',st',ws,p,l,m,a,d⟩:=iq f t.ok t.nx t.rep w;split at d
 ·rename_i hz;rw[aq]at d;have hl:vs.length<=cL:=by rw[<-a.len];exact hz
  refine⟨by rw[<-rv.length];exact hl,?_⟩;have n:c.H s1.heap.objs.size=b6:=g.Ja.fresh (hU _);have o:Inv X pins j.σ c.H s1:=by rw[<-t.hσ];exact g
  refine⟨.ref s1.heap.objs.size,upd c.H s1.heap.objs.size (.tup vs),o.laid (t':=s1.toks) (λb u e=>cK _ e) (hU _) ⟨hl,us,rv,Ð _ _⟩,rfl,?_⟩;exact cn.tup (c:={c with S:=S',st:=st' }) d t.hσ l m a _ n
 ·exact(bo.mp d).elim
theorem BS(i:PA X es (Ks C ms)):PE X (.List es pos) (Je C (ms >>= λrs=>aC rs >>= λ_=>dm rs >>= λus=>if us.length<=cL then pure (.own,.lst us) else M.fail)):=by
 rintro pins s σ H Q I ⟨j,rfl,rfl,f,h⟩;refine wpAny_List_spliced (Jf (args i I f h pos) λus s1 k=>?_);obtain⟨rs,c,vs,t,g,rv,w⟩:=k;rw[ah]at w;obtain⟨S',st',ws,p,l,m,a,d⟩:=iq f t.ok t.nx t.rep w;split at d
 ·rename_i hz;rw[aq]at d;have hl:vs.length<=cL:=by rw[<-a.len];exact hz
  refine⟨by rw[<-rv.length];exact hl,?_⟩;have n:c.H s1.heap.objs.size=b6:=g.Ja.fresh (hU _);have o:Inv X pins j.σ c.H s1:=by rw[<-t.hσ];exact g
  refine⟨.ref s1.heap.objs.size,upd c.H s1.heap.objs.size (.lst vs),o.laid (t':=s1.toks) (λb u e=>cK _ e) (hU _) ⟨hl,us,0,rv,eH _ rfl⟩,rfl,?_⟩;exact cn.list (c:={c with S:=S',st:=st' }) d t.hσ l m a _ n
 ·exact(bo.mp d).elim
end
section
theorem oM(f:X.N[i]?=a5 x)(g:K8 X.env.scope x)(l:(x==("__debug__":Str))=cc)(m:(x==("__classdict__":Str))=cc):PE X (.Name x pos) (Je C (dn i)):=by
 refine PE.weak (cz f g l m) ?_;rintro σ H Q ⟨b,rfl,rfl,c,r,st',e,h⟩;unfold dn at e;split at e
 ·cases e
 ·rename_i k u n hs;cases e;obtain⟨v,d,a⟩:=c.sl i k u hs;refine⟨v,d,h b v rfl rfl c (Nx.refl b) ?_⟩;by_cases hk:k.root=b8
  ·rw[Ő hk];exact⟨⟨k,hk,hs⟩,d⟩
  ·rw[ő hk];cases k with
   |loc=>exact a
   |any=>exact a
   |bor j=>exact a.elim
   |IY=>exact(n rfl).elim
   |_=>exact absurd rfl hk
 ·cases e
theorem ir(h:PE X e (tC v))(r:∀S H,Rep C S H u v):PE X e (Je C (pure (.loc,u))):=by
 refine PE.weak h ?_;rintro σ H Q ⟨a,rfl,rfl,b,h⟩;rw[aq]at h;exact h a v rfl rfl b (Nx.refl a) (r _ _)
theorem cn.root(h:cn C b Q (.own,u) c.st)(e:c.σ=b.σ)(d:Ok C c)(n:Nx b c)(p:fR)(a:c.H p=b6)(r:cV C c.S (upd c.H p o) p u):Q (.ref p) (upd c.H p o):=by
 obtain⟨f,g⟩:=d.lay (o:=o) a;obtain⟨k,i,l,m,j⟩:=d.jL a;exact h {c with H:=upd c.H p o} _ e rfl f (n.trans g) ⟨p,rfl,n.none a,i,j,r⟩
theorem yR(d:C.P=X.prog)(e:C.w=X.w)(r:Bool):PE X (.Dict [] [] pos) (Je C (pure (.own,.I_ [] []))):=by
 refine PE.weak pV ?_;rintro σ H Q ⟨a,rfl,rfl,b,h⟩ p c;rw[aq]at h;exact cn.root h rfl b (Nx.refl a) p c ⟨[],ay,rfl,rfl⟩
theorem ak.J7{S:fR->Prop}(h:ak C S H us vs)(e:J7 us i=a5 u):∃v,L2.J7 vs i=a5 v/\Rep C S H u v:=by
 unfold L2.J7 at e ⊢;rw[h.len]at e;cases q:Mx vs.length i with
 |none=>rw[q]at e;cases e
 |some j =>
  rw[q]at e;exact h.get e
theorem EY(L:C.K=X.K)(hu:X.A.units+60<LU)(hs:og b)(t:Pf C N c x y p z)(I:Inv X pins c.σ c.H s)(B:RelV p v)(D:RelV z u)(h:fJ x y.2=a5 r)(q:cn C N Q r c.st):
  d4 (gs X.prog X.w) X.A (VE a b v u) (EP X pins c.σ Q) X.xe s:=by
 obtain⟨G,d,n,J,j,-⟩:=t;obtain⟨ky,uy⟩:=y
 dsimp only at h j
 unfold fJ at h;split at h
 ·rename_i k xs i;rw[fx]at h;obtain⟨w,e,rfl⟩:=h;obtain⟨a',vs,ex,f,l⟩:=J.list d;obtain⟨vw,m,o⟩:=l.J7 e;exact Bc a b pins s c.σ c.H p z v u Q I B D ⟨a',vs,i,vw,ex,j.int d,L▸f,m,q c vw G rfl d n (aL.item o)⟩ (hs _ _)
 ·rename_i k xs i;rw[fx]at h;obtain⟨w,e,rfl⟩:=h;obtain⟨a',vs,ex,f,l⟩:=J.tuple d;obtain⟨vw,m,o⟩:=l.J7 e;rw[L]at f;exact kh a b pins s c.σ c.H p z v u Q I B D ⟨a',vs,i,vw,ex,j.int d,f,m,q c vw G rfl d n (aL.item o)⟩ (hs _ _)
 ·split at h
  ·rw[fx]at h;obtain⟨w,e,rfl⟩:=h;exact oh a b pins s c.σ c.H p z v u Q I B D ⟨_,_,w,J.str d,j.int d,by assumption,e,q c _ G rfl d n rfl⟩ (hs _ _)
  ·cases h
 ·rename_i k ks us x;rw[fx]at h;obtain⟨w,e,rfl⟩:=h;obtain⟨a',kvs,ex,f,l,O⟩:=J.dict d;obtain⟨vw,m,o⟩:=(da (x:=x) l O).1 w e;have T:=j.str d;subst ex T;cases B;have g:d0 c.H a' (.str x) (a5 vw):=by rw[<-m];exact d0.k (k:=ko x) f
  exact ŉ (ops:=[.ref a',u]) (jm I g) PySem.F.slot_dict_getitem.lookup (mG ⋯ I g D λw' s3 Y K9=>⟨vw,c.H,Y,K9,q c vw G rfl d n (aL.item o)⟩) (hs _ _)
 ·cases h
theorem BU(d:C.K=X.K)(f:X.A.units+60<LU)(hs:og b)(g:PE X a (Je C i))(j:PE X b (Je C k)):PE X (.Subscript a b pos) (Je C (i >>= λx=>k >>= λy=>aC [x,y] >>= λ_=>M.Jp (fJ x y.2))):=by
 rintro pins s σ H Q I ⟨p,rfl,rfl,l,h⟩;refine ĉ (two g j I l h λx y c B D v u s2 t m n o w=>?_);obtain⟨r,e,q⟩:=bK.mp w;exact Jf (EY d f hs t m n o e q) λ_ _ z=>by rw[t.hσ]at z;exact z
theorem ak.cut{S:fR->Prop}(h:ak C S H us vs)(lo hi:Option Int):ak C S H (TM.cut us lo hi) (v8 vs lo hi):=by
 unfold TM.cut v8;rw[h.len];exact(h.drop _).take _
end
section
end
section
variable{X:Cx}{C:Ct}{pins:List (fR×Obj)}{s:fS}{c0 c c1:Cf}
variable{a b d e:mx}{es:List mx}{m ma mb md:M (Kd×U)}{ms:M (List (Kd×U))}{ta tb:M Bool}{pos p p2:Pos}
def tO(C:Ct)(m:M (Option Int)):TO:=λσ H Q=>∃c0:Cf,c0.σ=σ/\c0.H=H/\Ok C c0/\W m c0.st λi st'=>∀c,c.σ=σ->c.st=st'->Ok C c->Nx c0 c->Q i c.H
theorem wN:PO X b6 (tO C (pure b6)):=by
 rintro pins s σ H Q I ⟨c0,rfl,rfl,f,h⟩;rw[aq]at h;exact A_ pins s c0.σ c0.H Q I (h c0 rfl rfl f (Nx.refl c0))
theorem wO(f:PE X a (Je C ma)):PO X (a5 a) (tO C (ma >>= ES)):=by
 rintro pins s σ H Q I ⟨c0,rfl,rfl,g,h⟩;refine Ba f pins s c0.σ c0.H Q I (aX g h λx c v t w=>?_);obtain⟨k,u⟩:=x;unfold ES at w;split at w
 ·rename_i i e
  dsimp only at e
  subst e;rw[aq]at w;exact⟨i,t.rx.int t.ok,w c t.hσ rfl t.ok t.nx⟩
 ·exact(bo.mp w).elim
theorem EZ{lo hi:Option Int}(k:C.K=X.K)(g:c.σ=c0.σ)(f:Ok C c)(n:Nx c0 c)(i:aL C c0 c x.1 x.2 j)(h:lV x lo hi=a5 r)(q:cn C c0 Q r c.st):
  GL X.K j lo hi c.H Q\/GR j lo hi c.H Q:=by
 unfold lV at h;split at h
 ·split at h
  ·rename_i l;cases h;obtain⟨a',vs,ex,o,t⟩:=i.list f;exact .inl ⟨a',vs,ex,k▸o,λp u=>q.list g f n ((cX l t).cut lo hi) p u⟩
  ·cases h
 ·split at h
  ·cases h;exact .inr ⟨_,i.str f,by assumption,q.flat g f n rfl⟩
  ·cases h
 ·cases h
theorem BV{lo hi:Option mx}(k:C.K=X.K)(n:PE X a (Je C ma))(hl:PO X lo (tO C ml))(o:PO X hi (tO C u)):
  PE X (.Subscript a (.Slice lo hi b6 p2) pos) (Je C (ma >>= λx=>ml >>= λl=>u >>= λh=>aC [x] >>= λ_=>M.Jp (lV x l h))):=by
 refine PE.weak (xU (NB.or Bd Eo) n hl o) ?_;rintro σ H Q ⟨c0,rfl,rfl,y,h⟩;refine aX y h λx c v t w=>?_;rw[ah]at w;refine⟨c,t.hσ,rfl,t.ok,w.mono λl st2 g z A B D G=>?_⟩;subst B;rw[ah]at g;refine⟨z,A,rfl,D,g.mono λO T f I i J L N=>?_⟩;subst J;rw[ah,bZ]at f;obtain⟨r,e,q⟩:=bK.mp f.2;have j:Nx c I:=G.trans N;exact EZ k i L (t.nx.trans j) ((t.rx.w.on t.ok j (i.trans t.hσ.symm)).t f.1) e q
end
section
variable{X:Cx}{C:Ct}{pins:List (fR×Obj)}{s:fS}{c0 c c1:Cf}
variable{a b d e:mx}{es:List mx}{m ma mb md:M (Kd×U)}{ms:M (List (Kd×U))}{ta tb:M Bool}{pos p p2:Pos}
noncomputable def Bf.val:Bf->d3
 |.len=>.builtin "len"|.sorted=>.builtin "sorted"|.repr=>.builtin "repr"|.max=>.builtin "max"|.min=>.builtin "min"|.all=>.builtin "all"|.any=>.builtin "any"
 |.list=>.type "list"|.tuple=>.type "tuple"|.str=>.type "str"|.int=>.type "int"
 |.dict=>.type "dict"
 |.sum=>.builtin "sum"
noncomputable def Bf.name:Bf->Str
 |.len=>"len"|.sorted=>"sorted"|.repr=>"repr"|.max=>"max"|.min=>"min"|.all=>"all"|.any=>"any"
 |.list=>"list"|.tuple=>"tuple"|.str=>"str"|.int=>"int"
 |.dict=>"dict"
 |.sum=>"sum"
theorem call_of(g:fh X f r)(I:Inv X pins c.σ c.H s)(rv:Vals vs us)(h:r vs c.H Q):d4 (gs X.prog X.w) X.A (Nd f us) (EP X pins c.σ Q) X.xe s:=g pins s c.σ c.H vs us Q I rv h
noncomputable def Qu:U->V
 |.str x=>.str x
 |.int n=>.int n
 |_=>.ref 0
theorem BW{S:fR->Prop}(h:Pe u=b8):Rep C S H u (Qu u):=by
 cases u<;>first|rfl|cases h
theorem ak.VP{S:fR->Prop}:∀{ps:List (Str×U)},(∀p∈ps,Pe p.2=b8)->ak C S H (ps.map (·.2)) (ps.map λp=>Qu p.2)
 |[],_=>rfl
 |p::ps,h=>⟨_,_,rfl,BW (h p (by simp)),ak.VP λq f=>h q (by simp[f])⟩
theorem ak.VQ{S:fR->Prop}(k:C.K=X.K):∀{us:List U}{ps:List (Str×U)}{vs:List V},kR us=a5 ps->ak C S H us vs->(∀p∈ps,Pe p.2=b8)/\∃as:List fR,vs=as.map V.ref/\as.length=ps.length/\∀(j:Nat) a p,as[j]?=a5 a->ps[j]?=a5 p->JH X.K H a [.str p.1,Qu p.2]
 |[],ps,vs,e,h=>by
  cases e;cases h;exact⟨by simp,[],rfl,rfl,by simp⟩
 |u::us,ps,vs,e,h=>by
  obtain⟨v,r,rfl,o,q⟩:=h;unfold kR at e;split at e
  ·rename_i f;cases f
  ·rename_i x y N f;cases f;split at e
   ·rename_i l;rw[fx]at e;obtain⟨O,e,rfl⟩:=e;obtain⟨t,as,rfl,w,z⟩:=ak.VQ k e q;obtain⟨a,ws,rfl,n,A⟩:=o;obtain⟨Q,T,rfl,B,D⟩:=A;obtain⟨G,Y,rfl,I,J⟩:=D;cases B;cases J;have L:G=Qu y:=by
     cases y<;>first|exact I|cases l
    subst L;rw[k]at n;refine⟨λp hp=>?_,a::as,rfl,by simp[w],λj b p g i=>?_⟩
    ·rcases et.mp hp with rfl|hp
     ·exact l
     ·exact t p hp
    ·cases j with
     |zero=>simp at g i;subst g i;exact n
     |succ j=>exact z j b p (by simpa using g) (by simpa using i)
   ·cases e
  ·cases e
theorem ak.uJ{S:fR->Prop}{f:α->U}{g:α->V}:∀{l:List α},(∀x∈l,Rep C S H (f x) (g x))->ak C S H (l.map f) (l.map g)
 |[],_=>rfl
 |x::l,h=>⟨g x,l.map g,rfl,h x (by simp),ak.uJ λy i=>h y (by simp[i])⟩
theorem ak.VR{S:fR->Prop}(l:C.K=X.K):∀{us:List U}{ks:List Str}{vs:List V},mV us=a5 ks->ak C S H us vs->∃as:List fR,vs=as.map V.ref/\as.length=ks.length/\∀(j:Nat) a k,as[j]?=a5 a->ks[j]?=a5 k->∃b,JH X.K H a [.str k,.int b]
 |[],ks,vs,e,h=>by
  cases e;cases h;exact⟨[],rfl,rfl,by simp⟩
 |u::us,ks,vs,e,h=>by
  obtain⟨v,r,rfl,o,q⟩:=h;unfold mV at e;split at e
  ·rename_i f;cases f
  ·rename_i x nn G f;cases f;rw[fx]at e;obtain⟨I,e,rfl⟩:=e;obtain⟨as,rfl,t,w⟩:=ak.VR l e q;obtain⟨a,ws,rfl,n,y⟩:=o;obtain⟨J,L,rfl,z,A⟩:=y;obtain⟨N,O,rfl,B,D⟩:=A;cases z;cases D;cases B;rw[l]at n;refine⟨a::as,rfl,by simp[t],λj c p g i=>?_⟩;cases j with
   |zero=>simp at g i;subst g i;exact⟨_,n⟩
   |succ j=>exact w j c p (by simpa using g) (by simpa using i)
  ·cases e
theorem bI(h:fK f rs=a5 r):∃x,rs=[x]/\f x=a5 r:=by
 unfold fK at h;split at h
 ·exact⟨_,rfl,h⟩
 ·cases h
theorem Dl(L:X.calm=b8)(B:C.K=X.K)(Ry:X.A.guards=a5 [])(Ph:X.A.units+60<LU)(t:Lf C c0 c rs vs)(I:Inv X pins c.σ c.H s)(rv:Vals vs us)(h:KU f rs=a5 r)(q:cn C c0 Q r c.st):
  d4 (gs X.prog X.w) X.A (Nd f.val us) (EP X pins c.σ Q) X.xe s:=by
 have z:=t.hσ;have g:=t.ok;have n:=t.nx;cases f with
 |len =>
  obtain⟨x,rfl,hz⟩:=bI (f:=λx=>(EG x.2).map λ(n:Nat)=>(Kd.loc,U.int (n:Int))) h;clear h;have h:=hz;clear hz;rw[fx]at h;obtain⟨k,e,rfl⟩:=h;obtain⟨v,rfl,y⟩:=t.one;obtain⟨kx,T⟩:=x;unfold EG at e;split at e
  ·rename_i xs G;have G:T=.lst xs:=G;subst G;cases e;obtain⟨a',ws,ex,l,o⟩:=y.list g;rw[o.len]at q;exact call_of gZ I rv ⟨a',ws,by rw[ex],.inl (B▸l),q.flat z g n rfl⟩
  ·rename_i xs G;have G:T=.tup xs:=G;subst G;cases e;obtain⟨a',ws,ex,l,o⟩:=y.tuple g;rw[B]at l;rw[o.len]at q;exact call_of gZ I rv ⟨a',ws,by rw[ex],.inr l,q.flat z g n rfl⟩
  ·rename_i xs G;have G:T=.str xs:=G;subst G;split at e
   ·cases e;exact call_of oj I rv ⟨_,by rw[y.str g],by assumption,q.flat z g n rfl⟩
   ·cases e
  ·cases e
 |sorted =>
  obtain⟨x,rfl,hz⟩:=bI (f:=EH) h;clear h;have h:=hz;clear hz;obtain⟨v,rfl,y⟩:=t.one;unfold EH at h;split at h
  ·obtain⟨a',ws,ex,l,o⟩:=y.list g;unfold wD at h;split at h
   ·rename_i ss e;have J:=cO e;subst J;rw[ak.strs]at o;subst o;split at h
    ·cases h;exact call_of jr I rv ⟨a',ss,by rw[ex],.inl (B▸l),by assumption,λp D=>q.list z g n (ak.strs.mpr rfl) p D⟩
    ·cases h
   ·unfold BC at h;obtain⟨ks,e,h⟩:=nC.mp h;split at h
    ·rename_i hh;cases h;subst ex;obtain⟨u,rfl,Y⟩:=vals1 rv;cases Y;obtain⟨as,rfl,hl,ht⟩:=ak.VR B e o;have N:=cX hh.2.2 o;refine r9 I (B▸l) hl ht hh.2.1 ⋯ λp D=>q.list z g n (ak.uJ λi hi=>?_) p D;have Ku:i<as.length:=by
      have:=tA.mp ((cu _).mem_iff.mp hi);lia
     have Ya:=N.len;rw[c4]at Ya;obtain⟨w,hw,ab⟩:=N.get (mN (show i < _ by lia));have e1:w=V.ref (as.getD i 0):=by
      have:(as.map V.ref)[i]?=a5 (V.ref (as.getD i 0)):=by simp[y4,Ku]
      rw[this]at hw;cases hw;rfl
     rw[<-e1,<-Zz];exact ab
    ·cases h
  ·obtain⟨a',kvs,ex,l,o,_⟩:=y.dict g;split at h
   ·cases h;exact call_of (iT L) I rv ⟨a',kvs,_,by rw[ex],l,o,by assumption,λp D=>q.list z g n (ak.strs.mpr rfl) p D⟩
   ·cases h
  ·rw[nC]at h;obtain⟨ss,e,h⟩:=h;have J:=cO e;subst J;obtain⟨a',ws,ex,l,o⟩:=y.tuple g;rw[B]at l;rw[ak.strs]at o;subst o;split at h
   ·cases h;exact call_of jr I rv ⟨a',ss,by rw[ex],.inr l,by assumption,λp D=>q.list z g n (ak.strs.mpr rfl) p D⟩
   ·cases h
  ·cases h
 |list =>
  obtain⟨x,rfl,hz⟩:=bI (f:=EI) h;clear h;have h:=hz;clear hz;obtain⟨v,rfl,y⟩:=t.one;unfold EI at h;split at h
  ·obtain⟨a',ws,ex,l,o⟩:=y.list g;split at h
   ·cases h;exact call_of g9 I rv ⟨a',ws,by rw[ex],.inl (B▸l),λp D=>q.list z g n (cX (by assumption) o) p D⟩
   ·cases h
  ·obtain⟨a',ws,ex,l,o⟩:=y.tuple g;rw[B]at l;split at h
   ·cases h;exact call_of g9 I rv ⟨a',ws,by rw[ex],.inr l,λp D=>q.list z g n (cX (by assumption) o) p D⟩
   ·cases h
  ·cases h
 |tuple =>
  obtain⟨x,rfl,hz⟩:=bI (f:=EJ) h;clear h;have h:=hz;clear hz;obtain⟨v,rfl,y⟩:=t.one;unfold EJ at h;split at h
  ·obtain⟨a',ws,ex,l,o⟩:=y.list g;cases h;exact call_of gr I rv ⟨a',ws,by rw[ex],.inl ⟨B▸l,λp D=>q.tupK z g n o p D⟩⟩
  ·obtain⟨a',ws,ex,l,o⟩:=y.tuple g;have Mg:=l;rw[B]at Mg;cases h;exact call_of gr I rv ⟨a',ws,by rw[ex],.inr ⟨Mg,q c (.ref a') z rfl g n (aL.item ⟨a',ws,rfl,l,o⟩)⟩⟩
  ·cases h
 |str =>
  obtain⟨x,rfl,hz⟩:=bI (f:=BD) h;clear h;have h:=hz;clear hz;obtain⟨v,rfl,y⟩:=t.one;unfold BD at h;split at h
  ·split at h
   ·cases h;exact call_of n9 I rv ⟨_,by rw[y.int g],by assumption,q.flat z g n rfl⟩
   ·cases h
  ·cases h
 |max =>
  have h:wF cc rs=a5 r:=h;unfold wF at h;split at h
  ·obtain⟨v,v',rfl,y,ty⟩:=t.two;cases h;exact call_of (vZ L) I rv ⟨_,_,by rw[y.int g,ty.int g],q.flat z g n rfl⟩
  ·cases h
 |min =>
  have h:wF b8 rs=a5 r:=h;unfold wF at h;split at h
  ·obtain⟨v,v',rfl,y,ty⟩:=t.two;cases h;exact call_of (v5 L) I rv ⟨_,_,by rw[y.int g,ty.int g],q.flat z g n rfl⟩
  ·cases h
 |all =>
  obtain⟨x,rfl,hz⟩:=bI (f:=EK) h;clear h;have h:=hz;clear hz;obtain⟨v,rfl,y⟩:=t.one;unfold EK at h;split at h
  ·rw[fx]at h;obtain⟨bs,e,rfl⟩:=h;have J:=kZ e;subst J;obtain⟨a',ws,ex,l,o⟩:=y.list g;have:=o.VN;subst this;exact call_of (yc L) I rv ⟨a',bs,by rw[ex],B▸l,q.flat z g n rfl⟩
  ·cases h
 |sum =>
  obtain⟨x,rfl,hz⟩:=bI (f:=EM) h;clear h;have h:=hz;clear hz;obtain⟨v,rfl,y⟩:=t.one;unfold EM at h;split at h
  ·rw[fx]at h;obtain⟨ns,e,rfl⟩:=h;have J:=fN e;subst J;obtain⟨a',ws,ex,l,o⟩:=y.list g;have N:=ak.ints o;subst N;exact call_of (yx L) I rv ⟨a',ns,by rw[ex],B▸l,q.flat z g n rfl⟩
  ·cases h
 |dict =>
  obtain⟨x,rfl,hz⟩:=bI (f:=EL) h;clear h;have h:=hz;clear hz;obtain⟨v,rfl,y⟩:=t.one;obtain⟨u,rfl,Y⟩:=vals1 rv;unfold EL at h;split at h
  ·obtain⟨ps,e,h⟩:=nC.mp h;obtain⟨a',ws,ex,l,o⟩:=y.list g;subst ex;cases Y;obtain⟨hf,as,rfl,hl,ht⟩:=ak.VQ B e o;split at h
   ·cases h;exact Bw (ps:=ps.map λp=>(p.1,Qu p.2)) L I (B▸l) (by rw[c4];exact hl) (λj a p e1 O=>by
     rw[i6,fx]at O;obtain⟨p0,O,rfl⟩:=O;exact ht j a p0 e1 O) (by rw[i5];assumption) λd hd=>q.root z g n d hd ⟨_,ay,by rw[i5,i5,i5];rfl,by rw[i5,i5];exact ak.VP hf⟩
   ·cases h
  ·cases h
 |_=>cases h
theorem BX{id:String}(g:X.calm=b8)(i:C.K=X.K)(j:X.A.guards=a5 [])(k:X.A.units+60<LU)(l:f.val=.builtin id)(n:Gl X x)(o:X.mg x=b6)(u:u7 x=a5 (.builtin id))(v:x≠"__name__")(y:(x==("__debug__":Str))=cc)
  (B:PA X (e::es) (Ks C ms)) (D:i3 (e::es) X.env=(cc,wk e X.env)::i3 es X.env) (G:(JL pos (i3 es X.env)).any (·.1)=cc) :
  PE X (.Call (.Name x p) (e::es) [] pos) (Je C (ms >>= λrs=>aC rs >>= λ_=>M.Jp (KU f rs))):=by
 rintro pins s σ H Q I ⟨c0,rfl,rfl,J,h⟩;refine sL (c9 I n o u ?_ v y);refine OQ (Jf (args B I J h pos) λus s1 ⟨rs,c,vs,t,L,rv,w⟩=>?_) D G;obtain⟨r,e,q⟩:=bK.mp w;have z:=Dl g i j k t L rv e q;rw[l,t.hσ]at z;exact z
theorem BY(g:X.calm=b8)(i:C.K=X.K)(j:X.A.guards=a5 [])(k:X.A.units+60<LU)(l:f.val=.type T)(n:Gl X x)(o:X.mg x=b6)(u:u7 x=a5 (.type T))(v:x≠"__name__")(y:(x==("__debug__":Str))=cc)
  (B:PA X (e::es) (Ks C ms)) (D:i3 (e::es) X.env=(cc,wk e X.env)::i3 es X.env) (G:(JL pos (i3 es X.env)).any (·.1)=cc) :
  PE X (.Call (.Name x p) (e::es) [] pos) (Je C (ms >>= λrs=>aC rs >>= λ_=>M.Jp (KU f rs))):=by
 rintro pins s σ H Q I ⟨c0,rfl,rfl,J,h⟩;refine sL (c9 I n o u ?_ v y);refine M7 (Jf (args B I J h pos) λus s1 ⟨rs,c,vs,t,L,rv,w⟩=>?_) D G;obtain⟨r,e,q⟩:=bK.mp w;have z:=Dl g i j k t L rv e q;rw[l,t.hσ]at z;exact z
noncomputable def Lc.name:Lc->Str
 |.str=>"str"|.list=>"list"|.tuple=>"tuple"|.int=>"int"|.bool=>"bool"
noncomputable def Lc.nm:Lc->String
 |.str=>"str"|.list=>"list"|.tuple=>"tuple"|.int=>"int"|.bool=>"bool"
theorem BZ(T:Lc):u7 T.name=a5 (.type T.nm)/\T.name≠"__name__"/\(T.name==("__debug__":Str))=cc:=by
 cases T<;>exact⟨by decide +kernel,by decide +kernel,by decide +kernel⟩
theorem iu(T:Lc):Y8 (.type T.nm)=pure (.type "type"):=by cases T<;>kernel_rfl
theorem jV(T:Lc):Qe (.type "str") (.type T.nm)=pure (dt (T=.str)):=by cases T<;>(rw[JK];kernel_rfl)
theorem sub_int(T:Lc):Qe (.type "int") (.type T.nm)=pure (dt (T=.int)):=by cases T<;>(rw[JK];kernel_rfl)
theorem ne_str{T:Lc}(h:¬T=.str):(ri "str"==ri T.nm)=cc:=by cases T<;>first|exact absurd rfl h|decide
theorem ne_int{T:Lc}(h:¬T=.int):(ri "int"==ri T.nm)=cc:=by cases T<;>first|exact absurd rfl h|decide
theorem qx(T:Lc):Qe (.type "list") (.type T.nm)=pure (dt (T=.list)):=by cases T<;>(rw[JK];kernel_rfl)
theorem uK(T:Lc):Qe (.type "tuple") (.type T.nm)=pure (dt (T=.tuple)):=by cases T<;>(rw[JK];kernel_rfl)
theorem B0{T:Lc}(h:¬T=.list):(ri "list"==ri T.nm)=cc:=by cases T<;>first|exact absurd rfl h|decide
theorem E1{T:Lc}(h:¬T=.tuple):(ri "tuple"==ri T.nm)=cc:=by cases T<;>first|exact absurd rfl h|decide
theorem E2{b:Bool}(z:C.K=X.K)(t:Nl C c0 c x v)(I:Inv X pins c.σ c.H s)(rv:RelV v val)(h:oJ x.2 T=a5 b)(q:∀j,Q (.bool b) {s with toks:=j}):
  d4 (gs X.prog X.w) X.A (Nd (.builtin "isinstance") [val,.type T.nm]) Q X.xe s:=by
 obtain⟨k,u⟩:=x;obtain⟨L,i,n,r⟩:=t;have D:Q (.bool b) s:=q s.toks
 dsimp only at h r
 have g:∀{B:String},b=b8->s.TypeIs val B->Qe (.type B) (.type T.nm)=pure b8->d4 (gs X.prog X.w) X.A (Nd (.builtin "isinstance") [val,.type T.nm]) Q X.xe s:=λe G hs=>by
  subst e;exact ĺ G (iu T) hs D
 unfold oJ at h;split at h
 ·cases h;have e:v=_:=r.str i;subst e;obtain⟨j,rfl⟩:=rv;by_cases f:T=.str
  ·subst f;exact g (by simp) (Y9 s _ j) (jV .str)
  ·rw[Œ f]at q;exact R9 (isinstance_false_str (ne_str f) (iu T) (by rw[jV,Œ f])) (q _)
 ·cases h;have e:v=_:=r.int i;subst e;obtain⟨j,rfl⟩:=rv;by_cases f:T=.int
  ·subst f;exact g (by simp) (typeIs_int s _ j) (sub_int .int)
  ·rw[Œ f]at q;exact R9 (isinstance_false_int (ne_int f) (iu T) (by rw[sub_int,Œ f])) (q _)
 ·cases h;have e:v=_:=r.bl i;subst e;cases rv;exact g rfl (PySem.typeIs_bool s _) (by rw[JK];kernel_rfl)
 ·cases h;have e:v=_:=r.bl i;subst e;cases rv;exact g rfl (PySem.typeIs_bool s _) (by rw[JK];kernel_rfl)
 ·cases h;obtain⟨a',ws,rfl,l,J⟩:=r.list i;cases rv;rw[z]at l;obtain⟨its,_,pl,_⟩:=I.list l;obtain⟨o,ho,y,_⟩:=pl.isList;by_cases f:T=.list
  ·subst f;exact g (by simp) ⟨o,ho,y⟩ (qx .list)
  ·rw[Œ f]at q;exact R9 (isinstance_false_list (B0 f) (iu T) (by rw[qx,Œ f])) ⟨⟨o,ho,y⟩,q _⟩
 ·cases h;obtain⟨a',ws,rfl,l,J⟩:=r.tuple i;cases rv;rw[z]at l;obtain⟨its,_,⟨o,ho,y,_⟩,_⟩:=I.tuple l;by_cases f:T=.tuple
  ·subst f;exact g (by simp) ⟨o,ho,y⟩ (uK .tuple)
  ·rw[Œ f]at q;exact R9 (isinstance_false_tuple (E1 f) (iu T) (by rw[uK,Œ f])) ⟨⟨o,ho,y⟩,q _⟩
 ·cases h
theorem uL(g:C.K=X.K)(i:Gl X "isinstance")(j:X.mg "isinstance"=b6)(k:Gl X T.name)(l:X.mg T.name=b6)(n:PE X a (Je C ma))(hs:i3 [a,.Name T.name p2] X.env=(cc,wk a X.env)::i3 [.Name T.name p2] X.env):
  PE X (.Call (.Name "isinstance" p) [a,.Name T.name p2] [] pos) (Je C (ma >>= λx=>M.Jp (oJ x.2 T) >>= λb=>pure (.loc,.bl b))):=by
 rintro pins s σ H Q I ⟨c0,rfl,rfl,o,h⟩;obtain⟨q,r,u⟩:=BZ T;refine sL (c9 I i j (show u7 "isinstance"=a5 (.builtin "isinstance") by decide +kernel) ?_ (by decide +kernel) (by decide +kernel));refine OQ (Jf (cS n (cS (AV (v:=.ty T.nm) k l q rfl r u) fC) hs pos pins s c0.σ c0.H (λvs H'=>∃x c v b,Nl C c0 c x v/\c.H=H'/\vs=[v,.ty T.nm]/\oJ x.2 T=a5 b/\cn C c0 Q (.loc,.bl b) c.st) I ?_) λus s1 ⟨vs,N,f,y,x,c,v,b,t,e,A,B,w⟩=>?_) hs (by rfl)
 ·refine aX o h λx c v t w=>?_;rw[ah]at w;obtain⟨b,e,w⟩:=bK.mp w;rw[aq]at w;exact⟨x,c,v,b,t,rfl,rfl,e,w⟩
 ·subst e A;obtain⟨O,Y,rfl,D,G⟩:=vals2 y;cases G;have J:Inv X pins c.σ c.H s1:=by rw[t.hσ];exact f
  have z:=E2 (Q:=EP X pins c0.σ Q) g t J D B λL=>⟨.bl b,c.H,f.tok L,rfl,w c (.bl b) t.hσ rfl t.ok t.nx rfl⟩
  exact z
def PJ(X:Cx)(out:Str)(es:List mx)(t:TE):Prop :=
 ∀(pins:List (fR×Obj)) (s:fS) (σ:L2.St) (H:Hp) (Q:VK),Inv X pins σ H s->t σ H Q->d4 (gs X.prog X.w) X.A (joinParts out (evalEach es X.env)) (EP X pins σ Q) X.xe s
theorem E3(hz:out.length<=cL):PJ X out [] (Je C (pure (.loc,.str out))):=by
 rintro pins s σ H Q I ⟨c0,rfl,rfl,f,h⟩;rw[aq]at h;exact joinParts_nil ⟨.str out,c0.H,I.tok _,⟨_,rfl⟩,h c0 (.str out) rfl rfl f (Nx.refl c0) rfl⟩ hz
theorem E4(f:PJ X (out++y) es (Je C m))(hz:(out++y).length<=cL):PJ X out (.Constant (.str y) o p::es) (Je C m):=by
 intro pins s σ H Q I h;refine ĸ (ŋ (Jf (nW (X:=X) pins s σ H (λv H'=>v=.str y/\H'=H) I ⟨rfl,rfl⟩) λv s1 g=>?_));obtain⟨x,i,j,k,l,n⟩:=g;subst l n;obtain⟨t,rfl⟩:=k;exact⟨hz,f pins s1 σ i Q j h⟩
theorem E5{g:Str->M (Kd×U)}(D:PE X a (Je C ma))(G:∀y,y.length<=cL->PJ X y es (Je C (g y))):PJ X out (.FormattedValue a (-1) b6 p::es) (Je C (ma >>= λx=>M.Jp (qw x.2 out) >>= λy=>g y)):=by
 rintro pins s σ H Q I ⟨c0,rfl,rfl,J,h⟩;refine ĸ (ŋ (FormattedValue_plain (Jf (D pins s c0.σ c0.H (λv H'=>∃x c y,Nl C c0 c x v/\c.H=H'/\qw x.2 out=a5 y/\W (g y) c.st (cn C c0 Q)) I ?_) λv s1 ⟨o,H1,z,B,x,c,y,t,e,f,w⟩=>?_)))
 ·refine⟨c0,rfl,rfl,J,?_⟩;rw[ah]at h;refine W.mono h λx st' w c v i hs L n r=>?_;subst hs;rw[ah]at w;obtain⟨y,e,w⟩:=bK.mp w;exact⟨x,c,y,⟨i,L,n,r⟩,rfl,e,w⟩
 ·subst e;obtain⟨k,u⟩:=x;obtain⟨i,j,n,r⟩:=t
  dsimp only at f r
  have go:∀s2:fS,Inv X pins c0.σ c.H s2->y.length<=cL->d4 (gs X.prog X.w) X.A (joinParts y (evalEach es X.env)) (EP X pins c0.σ Q) X.xe s2:=λs2 N hz =>
   G y hz pins s2 c0.σ c.H Q N ⟨c,i,rfl,j,W.mono w λr' st' q O T Y h2 h3 h4 h5=>q O T Y h2 h3 (n.trans h4) (h5.from n)⟩
  unfold qw at f;split at f
  ·split at f
   ·rename_i hz;cases f;have ev:o=_:=r.str j;subst ev;obtain⟨l,rfl⟩:=B;exact formatField_str (λt' l=>⟨hz.2,go _ (z.tok l) hz.2⟩) hz.1
   ·cases f
  ·split at f
   ·rename_i hz;cases f;have ev:o=_:=r.int j;subst ev;obtain⟨l,rfl⟩:=B;exact formatField_int_small hz.1 ⟨hz.2,go _ (z.tok _) hz.2⟩
   ·cases f
  ·cases f
theorem B1(h:PJ X nH (f::g::es) (Je C m)):PE X (.JoinedStr (f::g::es) pos) (Je C m):=λpins s σ H Q I q=>JoinedStr_many (h pins s σ H Q I q)
abbrev Nn(P:ve)(w:Jq)(K:PySem.W.Frag)(H:Hp)(f:fR->Prop):Ct:=⟨P,w,K,H,f,λ_=>False,λ_ _=>False⟩
structure Back(C:Ct)(H H':Hp)(S':fR->Prop)(k:Kd)(u:U)(v:V):Prop where
 same:pU H H'
 new:∀a,S' a->H a=b6/\∃o,H' a=a5 o
 own:k=.own->∃r,v=.ref r/\H r=b6/\¬S' r/\cV C S' H' r u
 loc:k=.loc->Rep C S' H' u v
 any:k=.any->Rep C (PS C S') H' u v
def spT(P:ve)(w:Jq)(K:PySem.W.Frag)(F:List U->Option (Ex (Kd×U)))(g:Nat):Sp:=λvs H Q E=>vs.length=g/\∃us r f,F us=a5 r/\(∀a,f a->KS H a)/\ak (Nn P w K H f) f H us vs/\match r with
 |.ok (k,u)=>(k=.own\/k=.loc\/k=.any)/\∀v H' S',Back (Nn P w K H f) H H' S' k u v->Q v H'
 |.exc c=>∀C H',PySem.W.nsIn K qP c=a5 (a5 (.ref C))->pU H H'->E (.ref C) b6 H'
theorem Lf.read(t:Lf C c0 c rs vs):ak C (KS c.H) c.H (rs.map (·.2)) vs:=by
 have f:∀(l:List (Kd×U)) (w:List V),cN C c0 c l w->bt l c.st->ak C (KS c.H) c.H (l.map (·.2)) w:=by
  intro l;induction l with
  |nil=>intro w h _;exact h
  |cons r l g =>
   intro w h hs;obtain⟨v,t',rfl,i,j,_⟩:=h;rw[dF]at hs;exact⟨v,t',rfl,(i.t hs.1).read t.ok,g t' j hs.2⟩
 exact f rs vs t.rep t.NT
theorem Back.here(hk:k=.own\/k=.loc)(i:c.σ=c0.σ)(f:Ok C c)(n:Nx c0 c)(q:j.Eqv C)(h:Back j c.H H' S' k u v)(w:cn C c0 Q (k,u) c.st):Q v H':=by
 obtain⟨l,t⟩:=f.grow (S':=λa=>c.S a\/S' a) h.same (λa z=>z.imp id λz=>h.new a z) λa=>.inl;have x:=n.trans t;refine w {c with H:=H',S:=λa=>c.S a\/S' a} v i rfl l x ?_;rcases hk with rfl|rfl
 ·obtain⟨r,e,g,y,A⟩:=h.own rfl;obtain⟨G,B,I,J,D⟩:=f.jL g;refine⟨r,e,n.none g,λz=>z.elim B y,D,(A.cg q).mv (.up λa=>.inr) λo q=>q⟩
 ·exact((h.loc rfl).cg q).mv (.up λa=>.inr)
theorem yS(o:C.P=X.prog)(x:C.w=X.w)(y:C.K=X.K)(L:Γ f=F)(hk:∀us k u,F us=a5 (.ok (k,u))->(k=.own\/k=.loc\/k=.any)/\us.length=B)
  (G:iN X.prog X.w X.K X.mg X.base (Ot X.prog X.w) k fa N ps (spT X.prog X.w X.K F B)) (O:ft k X.A) (T:Gl X f) (Y:X.mg f=a5 (.ref fa)) (Oq:PySem.W.keepIn X.K (.ref fa)=b8) (j:Binds X.K N ps [])
  (L_:(f==("__debug__":Str))=cc) (ha:PA X (e::es) (Ks C ms)) (he:i3 (e::es) X.env=(cc,wk e X.env)::i3 es X.env) (JE:(JL pos (i3 es X.env)).any (·.1)=cc) :
  PE X (.Call (.Name f p) (e::es) [] pos) (Je C (ms >>= λrs=>aC rs >>= λ_=>kS Γ f (rs.map (·.2)))):=by
 rintro pins s σ H Q I ⟨c0,rfl,rfl,ok,h⟩;refine sL (eR I T Y ?_ L_);refine PySem.W.callWith_K (h₀:=X.base) I.ok.mod.OS Oq (Jf (args ha I ok h pos) λus s1 ⟨rs,c,vs,t,D,rv,w⟩=>⟨D.Ms,?_⟩) he JE;obtain⟨r,st',g,q⟩:=w;unfold kS at g;rw[L]at g;cases i:F (rs.map (·.2)) with
 |none=>rw[i]at g;cases g
 |some r' =>
  rw[i]at g;split at g
  ·cases g
  ·rename_i z;cases z
  rename_i Yb e3;cases e3;cases g;obtain⟨l,u⟩:=r;obtain⟨k0,k2⟩:=hk _ _ _ i;have k1:l=.own\/l=.loc:=by
   rcases k0 with z|z|z
   ·exact .inl z
   ·exact .inr z
   ·subst z;exact(Yb u rfl).elim
  have n:C.Eqv (Nn X.prog X.w X.K c.H (KS c.H)):=⟨o,x,y⟩
  have LM:(Nn X.prog X.w X.K c.H (KS c.H)).Eqv C:=⟨o.symm,x.symm,y.symm⟩
  have J:=t.read;have KH:spT X.prog X.w X.K F B vs c.H (λv H'=>Q v H') E0:=⟨by rw[<-J.len];exact k2,rs.map (·.2),.ok (l,u),KS c.H,i,λ_ z=>z,J.cg n,k0,λv H' S' j=>j.here k1 t.hσ t.ok t.nx LM q⟩
  have z:=xT (Q:=Q) G O j .nil GV D rv (by rw[r6];exact KH);rw[t.hσ]at z;exact z
end
section
noncomputable def Mf.id:Mf->String
 |.split=>"str.split"|.join=>"str.join"|.partition=>"str.partition"|.endswith=>"str.endswith"
noncomputable def Mf.name:Mf->Str
 |.split=>"split"|.join=>"join"|.partition=>"partition"|.endswith=>"endswith"
theorem yT(h:lW f u rs=a5 r):∃x,u=.str x:=by
 unfold lW at h;split at h
 ·exact⟨_,rfl⟩
 ·cases h
theorem E6(k:C.K=X.K)(t:Lf C a c (x::rs) (b::vs))(I:Inv X pins c.σ c.H s)(l:RelV b v)(rv:Vals vs us)(h:lW f x.2 rs=a5 r)(q:cn C a Q r c.st):
  d4 (gs X.prog X.w) X.A (Nd (.builtin f.id) (v::us)) (EP X pins c.σ Q) X.xe s:=by
 have m:=t.hσ;have d:=t.ok;have n:=t.nx;obtain⟨o,p⟩:=x;have hs:=dF.mp t.NT;obtain⟨G,J,u,g,i,-⟩:=t.rep;cases u;have y:aL C a c o p b:=g.t hs.1;have one:∀{r:Kd×U},cN C a c [r] vs->bt [r] c.st->∃v,vs=[v]/\aL C a c r.1 r.2 v:=λ{r} h s=>by
  obtain⟨v,t',rfl,g,i,_⟩:=h;cases i;exact⟨v,rfl,g.t s⟩
 dsimp only at h
 unfold lW at h;split at h
 ·rw[nC]at h;obtain⟨ss,e,h⟩:=h;have z:=cO e;subst z;obtain⟨w,rfl,B⟩:=one i hs.2;obtain⟨a',ws,ex,D,j⟩:=B.list d;rw[ak.strs]at j;subst j;split at h
  ·cases h;exact Bo pins s c.σ c.H b [w] v us Q I l rv ⟨_,a',ss,y.str d,by rw[ex],k▸D,by assumption,q.flat m d n rfl⟩
  ·cases h
 ·cases h
theorem B3(N:C.K=X.K)(slot:Slot "str" name f.id)(O:Y8 (.builtin f.id)=pure (.type "method_descriptor"))(ho:PE X o (Je C m))(T:PA X (e::es) (Ks C ms))
  (Y:Pz o name X.env (wk o X.env)=wk o X.env)
  (Ka:((JL d (i3 (e::es) X.env)).all (λx=>!x.1)&&(Qt d (MO [] X.env)).all (λx=>x.1.isSome)
   && dt ((e::es).length+([]:List Oj).length+(if ([]:List Oj).isEmpty then 0 else 1)<30))=b8)
  (Jm:(j.endLine==d.line)=b8) (hs:i3 (e::es) X.env=(cc,wk e X.env)::i3 es X.env) (J2:(JL d (i3 es X.env)).any (·.1)=cc) :
  PE X (.Call (.Attribute o name j) (e::es) [] d) (Je C (m >>= λx=>ms >>= λrs=>aC (x::rs) >>= λ_=>M.Jp (lW f x.2 rs))):=by
 rintro pins s σ H Q I ⟨a,rfl,rfl,ok,h⟩;refine Á Y Ka Jm rfl (Jf (ho pins s a.σ a.H (λk u=>∃x b,b.H=u/\Nl C a b x k/\W (ms >>= λrs=>aC (x::rs) >>= λ_=>M.Jp (lW f x.2 rs)) b.st (cn C a Q)) I (aX ok h λx c v t w=>⟨x,c,rfl,t,w⟩)) ?_);rintro v s1 ⟨k,u,y,A,x,b,rfl,t,w⟩;have Oz:∃z,x.2=.str z:=by
  rw[ah]at w;obtain⟨rs,st2,_,w⟩:=w;rw[ah]at w;obtain⟨_,JD,_,w⟩:=w;obtain⟨r,e,_⟩:=bK.mp w;exact yT e
 obtain⟨z,hz⟩:=Oz;have B:=t.rx;rw[hz]at B;have ev:=B.str t.ok;have ty:Q6 X.K "str" k b.H:=by rw[ev];rfl
 obtain⟨h1,h2⟩:=om y A ty;refine⟨"str",f.id,PySem.F.plainAttrs_str,slot,O,h1,h2,?_⟩;rw[ah]at w;have D:=T d pins s1 a.σ b.H (λvs G=>∃rs g,g.H=G/\Lf C a g (x::rs) (k::vs)/\W (M.Jp (lW f x.2 rs)) g.st (cn C a Q)) y ⟨b,t.hσ,rfl,t.ok,w.mono λrs st2 n g vs J e4 Jr L l=>by
  rw[ah,bZ]at n;subst e4;exact⟨rs,g,rfl,⟨J,Jr,t.nx.trans L,⟨k,vs,rfl,t.rx.w.on t.ok L (J.trans t.hσ.symm),l.from t.nx,λhk i r' v' e5 e6 Jw=>kY t.rx.w (l.get e5 e6) hk Jw⟩,n.1⟩,n.2⟩⟩
 rw[hs]at D ⊢;refine D6 (by show(cc||(JL d (i3 es X.env)).any (·.1))=cc;rw[J2]<;>rfl) (Mm ?_);refine Jf D ?_;rintro us s2 ⟨vs,G,I2,l,rs,g,rfl,p,w2⟩;obtain⟨r,e,q⟩:=bK.mp w2;have z:=E6 N p (by rw[p.hσ];exact I2) A l e q;rw[p.hσ]at z;exact z
end
section
variable{X:Cx}{C:Ct}{pins:List (fR×Obj)}{s:fS}{c0 c c1:Cf}
variable{e:mx}{es:List mx}{ms:M (List (Kd×U))}{pos p p2 pos2:Pos}
noncomputable def B2.out:B2->d3
 |.MF=>.type "tuple"|.K4=>.type "list"|.sset=>.builtin "sorted"|.lP=>.builtin "len"
noncomputable def B2.Rz:B2->d3
 |.MF=>.type "reversed"|.K4=>.type "reversed"|.sset=>.type "set"|.lP=>.type "set"
noncomputable def B2.oN:B2->Str
 |.MF=>"tuple"|.K4=>"list"|.sset=>"sorted"|.lP=>"len"
noncomputable def B2.iw:B2->Str
 |.MF=>"reversed"|.K4=>"reversed"|.sset=>"set"|.lP=>"set"
theorem ak.rev{S:fR->Prop}:∀{us:List U}{vs:List V},ak C S H us vs->ak C S H us.reverse vs.reverse
 |[],vs,h=>by cases h;exact rfl
 |u::us,vs,h=>by
  obtain⟨v,r,rfl,a,b⟩:=h;rw[Sv,Sv];exact(ak.rev b).append ⟨v,[],rfl,a,rfl⟩
theorem mW(i:C.K=X.K)(j:Ok C c)(l:aL C c0 c k u v)(h:ig u=a5 ss):∃a b,v=.ref a/\(JA X.K c.H a (b.map V.str)\/JH X.K c.H a (b.map V.str))/\b.length+1<DD/\ss=aM b:=by
 unfold ig at h;split at h
 ·rw[nC]at h;obtain⟨b,e,h⟩:=h;have g:=cO e;subst g;obtain⟨a',ws,ex,f,d⟩:=l.list j;rw[ak.strs]at d;subst d;split at h
  ·cases h;exact⟨a',b,ex,.inl (i▸f),by assumption,rfl⟩
  ·cases h
 ·rw[nC]at h;obtain⟨b,e,h⟩:=h;have g:=cO e;subst g;obtain⟨a',ws,ex,f,d⟩:=l.tuple j;rw[ak.strs]at d;subst d;rw[i]at f;split at h
  ·cases h;exact⟨a',b,ex,.inr f,by assumption,rfl⟩
  ·cases h
 ·cases h
theorem E7(d:X.calm=b8)(k:C.K=X.K)(t:Lf C c0 c rs vs)(I:Inv X pins c.σ c.H s)(rv:Vals vs us)(h:se f rs=a5 r)(q:cn C c0 Q r c.st):
  d4 (gs X.prog X.w) X.A (Nd f.Rz us) (λv s1=>d4 (gs X.prog X.w) X.A (Nd f.out [v]) (EP X pins c.σ Q) X.xe s1) X.xe s:=by
 have m:=t.hσ;have a:=t.ok;have n:=t.nx;cases f with
 |K4 =>
  obtain⟨x,rfl,hz⟩:=bI (f:=EN) h;clear h;have h:=hz;clear hz;obtain⟨v,rfl,g⟩:=t.one;unfold EN at h;split at h
  ·obtain⟨a',ws,ex,b,i⟩:=g.list a;rw[k]at b;subst ex;obtain⟨u,rfl,j⟩:=vals1 rv;cases j;split at h
   ·cases h;exact yw d I b λl hl=>q.list m a n (cX (by assumption) i).rev l hl
   ·cases h
  ·cases h
 |sset =>
  obtain⟨x,rfl,hz⟩:=bI (f:=λx=>(ig x.2).bind λss=>if ss.length<64 then a5 (Kd.own,U.lst ((aR ss).map .str)) else b6) h;clear h;have h:=hz;clear hz;obtain⟨ss,e,h⟩:=nC.mp h;obtain⟨v,rfl,g⟩:=t.one;obtain⟨a',z,rfl,b,i,rfl⟩:=mW k a g e;obtain⟨u,rfl,j⟩:=vals1 rv;cases j;split at h
  ·cases h;exact oD d I b i λS h' B o y=>gz d y o (by assumption) λl hl=>q.list m a n (ak.strs.mpr rfl) l hl
  ·cases h
 |_=>cases h
theorem uM:∀f:B2,u7 f.oN=a5 f.out/\u7 f.iw=a5 f.Rz/\f.oN≠"__name__"/\f.iw≠"__name__"/\(f.oN==("__debug__":Str))=cc/\(f.iw==("__debug__":Str))=cc:=by
 intro f;cases f<;>exact⟨by decide +kernel,by decide +kernel,by decide +kernel,by decide +kernel,by decide +kernel,by decide +kernel⟩
theorem E8(f:B2):∃T,f.Rz=.type T:=by cases f<;>exact⟨_,rfl⟩
theorem E9(f:B2):(∃T,f.out=.type T)\/∃T,f.out=.builtin T:=by cases f<;>first|exact .inl ⟨_,rfl⟩|exact .inr ⟨_,rfl⟩
theorem uN{M:Model}{E:d3->fS->Prop}(h:d4 M A t (λv a=>d4 M A (Nd (.type T) [v]) Q E a) E s):d4 M A (callWith pos (.type T) [] [(cc,t)] []) Q E s :=
 PySem.callWith_type rfl (Mm (Nt (qb h (λ_ _ b=>PB b) λ_ _ e=>e)))
theorem oO{M:Model}{E:d3->fS->Prop}(h:d4 M A t (λv a=>d4 M A (Nd (.builtin T) [v]) Q E a) E s):d4 M A (callWith pos (.builtin T) [] [(cc,t)] []) Q E s :=
 D6 rfl (Mm (Nt (qb h (λ_ _ b=>PB b) λ_ _ e=>e)))
theorem yU(b:X.calm=b8)(d:C.K=X.K)(g:Gl X f.iw)(i:X.mg f.iw=b6)
  (j:PA X (e::es) (Ks C ms)) (k:i3 (e::es) X.env=(cc,wk e X.env)::i3 es X.env) (l:(JL pos2 (i3 es X.env)).any (·.1)=cc)
  (I:Inv X pins c0.σ c0.H s) (m:Ok C c0) (h:W (ms >>= λrs=>aC rs >>= λ_=>M.Jp (se f rs)) c0.st (cn C c0 Q)) :
  d4 (gs X.prog X.w) X.A (wk (.Call (.Name f.iw p2) (e::es) [] pos2) X.env) (λv s1=>d4 (gs X.prog X.w) X.A (Nd f.out [v]) (EP X pins c0.σ Q) X.xe s1) X.xe s:=by
 obtain⟨b1,n,b3,b4,B,o⟩:=uM f;refine sL (c9 I g i n ?_ b4 o);have a:d4 (gs X.prog X.w) X.A (ē (JL pos2 (i3 (e::es) X.env))) (λus s1=>d4 (gs X.prog X.w) X.A (Nd f.Rz us) (λv s1=>d4 (gs X.prog X.w) X.A (Nd f.out [v]) (EP X pins c0.σ Q) X.xe s1) X.xe s1) X.xe s :=
  Jf (args j I m h pos2) λus s1 u=>by
   obtain⟨rs,c,vs,t,x,rv,w⟩:=u;obtain⟨r,e,q⟩:=bK.mp w;have z:=E7 b d t x rv e q;rw[t.hσ]at z;exact z
 obtain⟨T,y⟩:=E8 f;rw[y]at a ⊢;exact M7 a k l
theorem B4(d:X.calm=b8)(g:C.K=X.K)(i:Gl X f.oN)(j:X.mg f.oN=b6)(k:Gl X f.iw)(l:X.mg f.iw=b6)
  (m:PA X (e::es) (Ks C ms)) (n:i3 (e::es) X.env=(cc,wk e X.env)::i3 es X.env) (o:(JL pos2 (i3 es X.env)).any (·.1)=cc) :
  PE X (.Call (.Name f.oN p) [.Call (.Name f.iw p2) (e::es) [] pos2] [] pos) (Je C (ms >>= λrs=>aC rs >>= λ_=>M.Jp (se f rs))):=by
 rintro pins s σ H Q I ⟨c0,rfl,rfl,q,h⟩;obtain⟨b1,v,b3,b4,r,w⟩:=uM f;refine sL (c9 I i j b1 ?_ b3 r);have a:=yU (p2:=p2) (pos2:=pos2) d g k l m n o I q h;have t:JL pos (i3 [.Call (.Name f.iw p2) (e::es) [] pos2] X.env)=[(cc,wk (.Call (.Name f.iw p2) (e::es) [] pos2) X.env)]:=rfl;have u:Qt pos (MO [] X.env)=[]:=rfl;rw[t,u];rcases E9 f with⟨T,b⟩|⟨T,b⟩
 ·rw[b]at a ⊢;exact uN a
 ·rw[b]at a ⊢;exact oO a
end
section
variable{X:Cx}{C:Ct}{pins:List (fR×Obj)}{s:fS}{c0 c c1:Cf}
variable{a b d e o tg:mx}{es:List mx}{m ma mb md:M (Kd×U)}{ms:M (List (Kd×U))}{ta tb:M Bool}{pos p p2 apos G':Pos}
def k7(rs:List (Kd×U))(c f:Cf):Prop:=∀j u,(Kd.bor j,u)∈rs->f.σ[j]?=c.σ[j]?
def Walk(C:Ct)(c:Cf)(rs:List (Kd×U))(xs:List (Kd×U))(J:It):Prop:=∀f,Ok C f->Ns c f->k7 rs c f->bt rs f.st ->
 (∀(i:Nat) r,xs[i]?=a5 r->(r.1=.loc\/r.1=.any)/\J.go i f.H/\∀x H',J.Q1 i f.H x H'->∃g:Cf,g.H=H'/\g.σ=f.σ/\g.st=f.st/\Ok C g/\Nx f g/\aL C f g r.1 r.2 x) /\
 ∀i:Nat,xs.length<=i->J.stop i f.H
def MH(C:Ct)(f:Ik)(ms:M (List (Kd×U))):TI:=λσ H R=>∃c0:Cf,c0.σ=σ/\c0.H=H/\Ok C c0/\W (ms >>= λrs=>aC rs >>= λ_=>M.Jp (K7 f rs) >>= λxs=>pure (rs,xs)) c0.st λq st' =>
 ∀c J,c.σ=σ->c.st=st'->Ok C c->Nx c0 c->bt q.1 c.st->Walk C c q.1 q.2 J->R J c.H
theorem aL.walk(g:Ok C c)(n:Ns c f)(i:k7 [r] c f)(hs:bt [r] f.st)(h:aL C c0 c r.1 r.2 v):aL C c0 f r.1 r.2 v :=
 (h.w.VL g n λj e=>i j r.2 (by rw[<-e];simp)).t hs
theorem yV(k:Kd):kE k=.loc\/kE k=.any:=by cases k<;>simp[kE]
theorem wQ(z:C.K=X.K)(A:Ok C c)(h:aL C c0 c k (.lst us) (.ref a')):Walk C c [(k,.lst us)] (us.map λu=>(kE k,u)) (R_ X.K a'):=by
 intro l q n B hs;have h':=aL.walk (r:=(k,.lst us)) A n B hs h;obtain⟨G,vs,e,f,t⟩:=h'.list q;cases e;rw[z]at f;refine⟨λi r w=>?_,λi hi=>⟨vs,f,by rw[<-t.len];simpa using hi⟩⟩;rw[i6,fx]at w;obtain⟨u,D,rfl⟩:=w;obtain⟨v,y,g⟩:=t.get D;refine⟨yV k,⟨vs,v,f,y⟩,λx H' j=>?_⟩;obtain⟨e,j⟩:=j;subst e;have:=j vs f;rw[y]at this;cases this;exact⟨l,rfl,rfl,rfl,q,Nx.refl l,aL.item g⟩
theorem sj(z:C.K=X.K)(A:Ok C c)(h:aL C c0 c k (.tup us) (.ref a')):Walk C c [(k,.tup us)] (us.map λu=>(kE k,u)) (Sa X.K a'):=by
 intro l q n B hs;have h':=aL.walk (r:=(k,.tup us)) A n B hs h;obtain⟨G,vs,e,f,t⟩:=h'.tuple q;cases e;rw[z]at f;refine⟨λi r w=>?_,λi hi=>⟨vs,f,by rw[<-t.len];simpa using hi⟩⟩;rw[i6,fx]at w;obtain⟨u,D,rfl⟩:=w;obtain⟨v,y,g⟩:=t.get D;refine⟨yV k,⟨vs,v,f,y⟩,λx H' j=>?_⟩;obtain⟨e,j⟩:=j;subst e;have:=j vs f;rw[y]at this;cases this;exact⟨l,rfl,rfl,rfl,q,Nx.refl l,aL.item g⟩
theorem sm{lo:Int}:Walk C c rs ((i0 n).map λi:Nat=>(Kd.loc,U.int (lo+(i:Int)))) (Q4 lo n):=by
 intro g k nx q hs;refine⟨λi r h=>?_,λi hi=>by show n<=i;simpa using hi⟩;rw[i6,fx]at h;obtain⟨j,f,rfl⟩:=h;have hi:i<n:=by simpa using(dV.mp f).1
 rw[List.getElem?_range hi]at f;cases f;refine⟨.inl rfl,hi,λy H' l=>?_⟩;obtain⟨e,rfl⟩:=l;subst e;exact⟨g,rfl,rfl,rfl,k,Nx.refl g,rfl⟩
theorem E_(i:C.K=X.K)(t:PE X a (Je C ma)):PI X tg a (MH C .seq (ma >>= λr=>pure [] >>= λrs=>pure (r::rs))):=by
 rintro pins s σ H R I ⟨c0,rfl,rfl,w,h⟩;rw[ah,ah]at h;obtain⟨r,st1,x,h⟩:=h;rw[ah,aq,aq,ah,bZ,ah]at h;obtain⟨y,h⟩:=h;obtain⟨xs,j,h⟩:=bK.mp h;rw[aq]at h;obtain⟨k,u⟩:=r;cases u with
 |lst us =>
  cases j;refine A0 t pins s c0.σ c0.H R I ⟨c0,rfl,rfl,w,_,st1,x,λc v l hs g n f=>?_⟩;obtain⟨a',vs,rfl,q,A⟩:=f.list g;subst hs;exact⟨a',rfl,⟨vs,i▸q⟩,h c _ l rfl g n y (wQ i g f)⟩
 |tup us =>
  cases j;refine D3 t pins s c0.σ c0.H R I ⟨c0,rfl,rfl,w,_,st1,x,λc v l hs g n f=>?_⟩;obtain⟨a',vs,rfl,q,A⟩:=f.tuple g;subst hs;have z:=q;rw[i]at z;exact⟨a',rfl,⟨vs,z⟩,h c _ l rfl g n y (sj i g f)⟩
 |_=>cases j
theorem yW{k:List (Kd×U)->M β}{Post:β->az->Prop}(g:Ok C c0)(h:W (ms >>= λrs=>aC rs >>= λ_=>k rs) c0.st Post)
  (hz:∀rs c vs,Lf C c0 c rs vs->W (k rs) c.st Post->Z vs c.H):Ks C ms c0.σ c0.H Z:=by
 rw[ah]at h;refine⟨c0,rfl,rfl,g,h.mono λrs st1 f c1 vs i j l n q=>?_⟩;rw[ah,bZ]at f;subst j;exact hz rs c1 vs ⟨i,l,n,q,f.1⟩ f.2
theorem B5(i:Gl X "range")(j:X.mg "range"=b6)(hs:i3 [a] X.env=[(cc,wk a X.env)])(k:PA X [a] (Ks C ms)):PI X tg (.Call (.Name "range" p) [a] [] pos) (MH C .Kv ms):=by
 rintro pins s σ H R I ⟨c0,rfl,rfl,l,h⟩;refine vX i j k hs pins s c0.σ c0.H R I (yW l h λrs c vs t w=>?_);rw[ah]at w;obtain⟨xs,g,w⟩:=bK.mp w;rw[aq]at w;obtain⟨x,rfl,hz⟩:=bI (f:=yF) g;clear g;have g:=hz;clear hz;obtain⟨v,rfl,n⟩:=t.one;unfold yF at g;split at g
 ·split at g
  ·rename_i q;cases g;exact⟨_,by rw[n.int t.ok],⋯,⋯,w c _ t.hσ rfl t.ok t.nx t.NT sm⟩
  ·cases g
 ·cases g
theorem qy{k:Kd}{us:List U}{h:U}{a':fR}{w:Hp->List V->Prop}(G:∀f,Ok C f->Ns c f->k7 [(k,h)] c f->bt [(k,h)] f.st->∃vs,w f.H vs/\ak C (SK C f k) f.H us vs):Walk C c [(k,h)] (us.zipIdx.map λp=>(kE k,.tup [.int p.2,p.1])) (O6 w):=by
 intro f g n I hs;obtain⟨vs,j,y⟩:=G f g n I hs;refine⟨λi r z=>?_,λi hi=>⟨vs,j,by rw[<-y.len];simpa using hi⟩⟩;rw[i6,fx]at z;obtain⟨p,A,rfl⟩:=z;rw[T6,fx]at A;obtain⟨u,J,rfl⟩:=A;obtain⟨v,B,l⟩:=y.get J;refine⟨yV k,⟨vs,v,j,B⟩,λx H' q=>?_⟩;obtain⟨p,L,rfl,q⟩:=q;have N:=q vs v j B;subst N;obtain⟨O,t⟩:=g.lay (o:=.tup [.int i,v]) L;refine⟨{f with H:=upd f.H p (.tup [.int i,v])},rfl,rfl,rfl,O,t,aL.item ?_⟩;have D:ak C (SK C f k) f.H [.int ((0+i:Nat):Int),u] [.int (i:Int),v]:=by
  rw[OE];exact⟨_,_,rfl,rfl,_,_,rfl,l,rfl⟩
 cases k<;>exact⟨p,_,rfl,JH.of ay,by first|exact D.mv (g.Nf t)|exact D.mv (g.mv t)⟩
theorem Fb{es:List mx}{z:Nat}{ps:Pos}(k:C.K=X.K)(A:Gl X "enumerate")(B:X.mg "enumerate"=b6)(hs:i3 [a] X.env=[(cc,wk a X.env)])(D:PA X [a] (Ks C ms)):PI X (.Tuple es z ps) (.Call (.Name "enumerate" p) [a] [] pos) (MH C .Ng ms):=by
 rintro pins s σ H R I ⟨c0,rfl,rfl,G,h⟩;refine Bs A B D hs pins s c0.σ c0.H R I (yW G h λrs c vs t w=>?_);rw[ah]at w;obtain⟨xs,i,w⟩:=bK.mp w;rw[aq]at w;obtain⟨x,rfl,hz⟩:=bI (f:=EO) i;clear i;have i:=hz;clear hz;obtain⟨v,rfl,l⟩:=t.one;unfold EO at i;split at i
 ·cases i;obtain⟨a',ws,q,g,j⟩:=l.list t.ok;subst q;refine⟨a',rfl,.inl ⟨⟨ws,k▸g⟩,w c _ t.hσ rfl t.ok t.nx t.NT ?_⟩⟩;refine qy (a':=a') λJ r n u y=>?_;obtain⟨L,vs,e,g,j⟩:=(aL.walk t.ok n u y l).list r;cases e;exact⟨vs,k▸g,j⟩
 ·cases i;obtain⟨a',ws,q,g,j⟩:=l.tuple t.ok;subst q;rw[k]at g;refine⟨a',rfl,.inr ⟨⟨ws,g⟩,w c _ t.hσ rfl t.ok t.nx t.NT ?_⟩⟩;refine qy (a':=a') λJ r n u y=>?_;obtain⟨L,vs,e,g,j⟩:=(aL.walk t.ok n u y l).tuple r;cases e;rw[k]at g;exact⟨vs,g,j⟩
 ·cases i
theorem Ok.put(t:Ok C c)(n:Nx c0 c)(hi:i<c.σ.length)(hk:k=.own\/k=.loc\/k=.any)(Ko:Ok C c0)(h:aL C c0 c k u v):
  Ok C {c with σ:=c.σ.set i (a5 v),st:=c.st.set i (a5 (k,u))}/\Nx c0 {c with σ:=c.σ.set i (a5 v),st:=c.st.set i (a5 (k,u))}:=by
 have N:i<c.st.length:=by rw[t.len];exact hi
 have O:∀(j:Nat) k' u',(c.st.set i (a5 (k,u)))[j]?=a5 (a5 (k',u'))->j≠i->c.st[j]?=a5 (a5 (k',u')):=λj k' u' e Q=>by rw[i1 (ro Q)]at e;exact e
 have Lg:∀(j:Nat) A,(c.σ.set i (a5 v))[j]?=a5 (a5 A)->j≠i->c.σ[j]?=a5 (a5 A):=λj A e Q=>by rw[i1 (ro Q)]at e;exact e
 have sl:fH C c.S c.H k u v:=by
  rcases hk with rfl|rfl|rfl
  ·obtain⟨r,e,B,I,x,J⟩:=h;obtain⟨z0,z1,L,z3,z4⟩:=Ko.jL B;exact⟨r,e,I,L,z0,J⟩
  ·exact h
  ·exact h
 have T:∀(j:Nat) k' u' r,k'.root=b8->(c.st.set i (a5 (k,u)))[j]?=a5 (a5 (k',u'))->(c.σ.set i (a5 v))[j]?=a5 (a5 (.ref r))->j=i/\k=.own/\v=.ref r\/j≠i/\c.st[j]?=a5 (a5 (k',u'))/\c.σ[j]?=a5 (a5 (.ref r)):=λj k' u' r D g l=>by
  by_cases f:j=i
  ·subst f;rw[gj N]at g;rw[gj hi]at l;cases g;cases l;rcases hk with rfl|rfl|rfl
   ·exact .inl ⟨rfl,rfl,rfl⟩
   ·cases D
   ·cases D
  ·exact .inr ⟨f,O j k' u' g f,Lg j _ l f⟩
 have dD:∀(j:Nat) (u':U),(c.st.set i (a5 (k,u)))[j]?=a5 (a5 (.IY,u'))->c.st[j]?=a5 (a5 (.IY,u'))/\(c.σ.set i (a5 v))[j]?=c.σ[j]?:=λj u' e=>by
  by_cases f:j=i
  ·subst f;rw[gj N]at e;cases e;rcases hk with hk|hk|hk<;>cases hk
  ·exact⟨O j .IY u' e f,i1 (ro f)⟩
 have b1:∀a,({c with σ:=c.σ.set i (a5 v),st:=c.st.set i (a5 (k,u))}:Cf).R1 a->c.R1 a\/k=.own/\v=.ref a:=λa JG=>by
  obtain⟨j,k',u',D,g,l⟩:=JG;rcases T j k' u' a D g l with⟨a1,w,a3⟩|⟨a1,w,a3⟩
  ·exact .inr ⟨w,a3⟩
  ·exact .inl ⟨j,k',u',D,w,a3⟩
 have Nm:Ma C {c with σ:=c.σ.set i (a5 v),st:=c.st.set i (a5 (k,u))}:=t.dd.of rfl dD (λa z=>(b1 a z).imp id λ⟨Y,q2⟩ j z'=>by
  subst Y;obtain⟨G,e,_,_,x,_⟩:=h;rw[q2]at e;cases e;exact x (.inr ⟨j,z'⟩)) (.up λ_ z=>z) λj a z=>⟨(t.root (.inr ⟨j,z⟩)).1,λo q=>q⟩
 refine⟨⟨t.same,t.KR,t.par,t.io,by simp[t.len],λj k' u' e=>?_,λj1 j2 k1 k2 u1 u2 r Ug Qs g l e3 e4=>?_,Nm⟩,⟨⟨n.keep,n.there,λa z=>?_,n.sub,n.new⟩⟩⟩
 ·by_cases f:j=i
  ·subst f;rw[gj N]at e;cases e;exact⟨v,by rw[gj hi],sl⟩
  ·obtain⟨A,g,l⟩:=t.sl j k' u' (O j k' u' e f);exact⟨A,by rw[i1 (ro f)];exact g,l⟩
 ·have z1:=T j1 k1 u1 r Ug g e3;have L:=T j2 k2 u2 r Qs l e4;rcases z1 with⟨a1,w,a3⟩|⟨a1,w,a3⟩
  ·rcases L with⟨b1,y,b3⟩|⟨b1,y,b3⟩
   ·exact a1.trans b1.symm
   ·subst w;obtain⟨G,e,B,I,x,J⟩:=h;rw[a3]at e;cases e;exact(x (.inl ⟨j2,k2,u2,Qs,y,b3⟩)).elim
  ·rcases L with⟨b1,y,b3⟩|⟨b1,y,b3⟩
   ·subst y;obtain⟨G,e,B,I,x,J⟩:=h;rw[b3]at e;cases e;exact(x (.inl ⟨j1,k1,u1,Ug,w,a3⟩)).elim
   ·exact t.inj j1 j2 k1 k2 u1 u2 r Ug Qs w y a3 b3
 ·rcases z with z|⟨j,u',G,g,l,e3⟩
  ·rcases b1 a z with z|⟨w,a3⟩
   ·exact n.roots a (.inl z)
   ·subst w;obtain⟨G,e,B,I,x,J⟩:=h;rw[a3]at e;cases e;exact .inr B
  ·obtain⟨Y,q2⟩:=dD j u' g;exact n.roots a (.inr ⟨j,u',G,Y,q2▸l,e3⟩)
theorem oP(y:Ok C c0)(l:Ok C c)(n:Nx c0 c)(hi:i<c.σ.length)(q:aL C c0 c r.1 r.2 v)(h:W (d_ i r) c.st Post):
  ∃t,t.σ=c.σ.set i (a5 v)/\t.H=c.H/\Ok C t/\Nx c0 t/\Post () t.st:=by
 obtain⟨k,u⟩:=r;cases k with
 |own =>
  obtain⟨x,st',e,f⟩:=h;cases e;obtain⟨a1,g⟩:=l.put n hi (.inl rfl) y q;exact⟨{c with σ:=c.σ.set i (a5 v),st:=c.st.set i (a5 (.own,u))},rfl,rfl,a1,g,f⟩
 |loc =>
  obtain⟨x,st',e,f⟩:=h;cases e;obtain⟨a1,g⟩:=l.put n hi (.inr (.inl rfl)) y q;exact⟨{c with σ:=c.σ.set i (a5 v),st:=c.st.set i (a5 (.loc,u))},rfl,rfl,a1,g,f⟩
 |any =>
  obtain⟨x,st',e,f⟩:=h;cases e;obtain⟨a1,g⟩:=l.put n hi (.inr (.inr rfl)) y q;exact⟨{c with σ:=c.σ.set i (a5 v),st:=c.st.set i (a5 (.any,u))},rfl,rfl,a1,g,f⟩
 |bor j =>
  obtain⟨x,st',e,f⟩:=h;rw[show d_ i (.bor j,u) c.st=match c.st[j]? with|some (a5 (.own,u))=>a5 (Ex.ok (),(c.st.set j (a5 (.loc,u))).set i (a5 (.loc,u)))|_=>b6 from rfl]at e;split at e
  ·rename_i w A;cases e;obtain⟨L,B,r,G,_⟩:=l.sl j _ _ A;have D:c.σ[j]?=a5 (a5 v):=q.2;rw[D]at B;cases B;subst G;obtain⟨I,J,z⟩:=l.yQ n A D;obtain⟨a1,g⟩:=Ok.put (c:={c with S:=λa=>c.S a\/a=r,st:=c.st.set j (a5 (.loc,w))}) I J (k:=.loc) (u:=w) (v:=.ref r) hi (.inr (.inl rfl)) y z;exact⟨{S:=λa=>c.S a\/a=r,H:=c.H,σ:=c.σ.set i (a5 (.ref r)),st:=(c.st.set j (a5 (.loc,w))).set i (a5 (.loc,w)),kid:=c.kid},rfl,rfl,a1,g,f⟩
  ·cases e
 |_=>exact q.elim
end
section
theorem Ok.IM(B:Ok C g)(b:Ok C c)(n:Nx g c)(q:g.H r=b6)(f:¬c.S r)(s:¬c.R r)(D:∃o,c.H r=a5 o/\¬Tp o):
  Ok C {c with H:=upd c.H r o' }/\Nx g {c with H:=upd c.H r o' }:=by
 obtain⟨o,ho,G⟩:=D;obtain⟨I,_,J,qI,_⟩:=B.jL q;have L:¬PS C c.S r:=λz=>z.elim J f;have d:∀a o2,a≠r->c.H a=a5 o2->(upd c.H r o') a=a5 o2:=λa o2 N e=>by rw[au N];exact e
 have l:∀S:fR->Prop,¬S r->Mv S c.H S (upd c.H r o'):=λS f=>⟨λa z=>z,λa m e O=>d a m (λz=>by subst z;rw[ho]at e;cases e;exact G O) e,λa m z e=>d a m (λy=>by subst y;exact f z) e⟩
 have Q:∀{a:fR} {o2:HO},g.H a=a5 o2->a≠r:=λe z=>by subst z;rw[q]at e;cases e
 have p:∀a,(∃o2,c.H a=a5 o2)->∃o2,(upd c.H r o') a=a5 o2:=λa T=>by
  obtain⟨o2,e⟩:=T;by_cases t:a=r
  ·subst t;exact⟨o',ay⟩
  ·exact⟨o2,d a o2 t e⟩
 refine⟨⟨λa o2 e z=>d a o2 (λy=>by subst y;rw[I]at e;cases e) (b.same a o2 e z),λa z=>⟨(b.KR a z).1,p a (b.KR a z).2⟩,b.par,λa z=>⟨(b.io a z).1,p a (b.io a z).2⟩,b.len,λi k u e=>?_,b.inj,b.dd.hs (l _ f) λj a z=>⟨(b.root (.inr ⟨j,z⟩)).1,λo2 e=>d a o2 (λy=>by subst y;exact s (.inr ⟨j,z⟩)) e⟩⟩,?_⟩
 ·obtain⟨v,w,h⟩:=b.sl i k u e;refine⟨v,w,h.mv (l _ f) (l _ L) λhk Y x=>?_⟩;obtain⟨Qr,A,q1,_⟩:=h.rt hk;rw[x]at A;cases A;exact⟨q1,λo2 h=>d Y o2 (λy=>by subst y;exact s (.inl ⟨i,k,u,hk,e,by rw[w,x]⟩)) h⟩
 ·exact⟨⟨λa o2 e z=>d a o2 (Q e) (n.keep a o2 e z),λa o2 e=>p a (n.there a o2 e),n.roots,n.sub,n.new⟩⟩
theorem yX(t:c.H r=a5 (.Kq o (.dK kvs)))(u:¬c.R r)(w:Ok C c)(hk:kvs.map (·.1)=ks.map ko)(y:ak C c.S c.H us (kvs.map (·.2))):Walk C c [(.own,.I_ ks us)] (sf (ks,us)) (TL r o kvs):=by
 intro a j n L hs;have k:=n.keep r _ t u;have l:=y.mv (w.mv n);have N:kvs.length=ks.length:=by rw[<-c4 (f:=(·.1)),hk,c4]
 have O:us.length=kvs.length:=by rw[l.len,c4]
 have Q:(sf (ks,us)).length=kvs.length:=by
  unfold sf;rw[c4,VT];show min ks.length us.length=_;lia
 refine⟨λi q b=>?_,λi hi=>⟨k,⋯⟩⟩;unfold sf at b;rw[i6,fx]at b;obtain⟨p,z,rfl⟩:=b;obtain⟨m,A⟩:=List.getElem?_zip_eq_some.mp z;obtain⟨v,d,e⟩:=l.get A;have hi:i<kvs.length:=by
  have:i<ks.length:=(dV.mp m).1;lia
 have B:kvs[i]?=a5 (ko p.1,v):=by
  rw[i6,mN hi]at d;have g:(kvs.map (·.1))[i]?=(ks.map ko)[i]?:=by rw[hk]
  rw[i6,i6,mN hi,m]at g;rw[mN hi];simp only[Tc,QO]at g d;rw[<-g,<-d]
 refine⟨.inl rfl,⟨k,hi⟩,λx H' h=>?_⟩;obtain⟨q,D,rfl,h⟩:=h;have G:=h _ _ B;subst G;obtain⟨I,s⟩:=j.lay (o:=.tup [kV (ko p.1),v]) D;refine⟨{a with H:=upd a.H q (.tup [kV (ko p.1),v])},rfl,rfl,rfl,I,s,?_⟩;have J:ak C a.S a.H [.str p.1,p.2] [kV (ko p.1),v]:=⟨_,_,rfl,rfl,_,_,rfl,e,rfl⟩
 exact⟨q,_,rfl,JH.of ay,J.mv (j.mv s)⟩
theorem Fc(q:Pz a "items" X.env (wk a X.env)=wk a X.env)(t:(b.endLine==u.line)=b8)(w:PE X a (Je C x)):
  PI X (.Tuple es kx ps) (.Call (.Attribute a "items" b) [] [] u) (MH C .O' (x >>= λr=>pure [] >>= λrs=>pure (r::rs))):=by
 rintro pins s σ H R I ⟨f,rfl,rfl,j,h⟩;rw[ah,ah]at h;obtain⟨r,st1,A,h⟩:=h;rw[ah,aq,aq,ah,bZ,ah]at h;obtain⟨B,h⟩:=h;obtain⟨xs,D,h⟩:=bK.mp h;rw[aq]at h;have hz:ER r=a5 xs:=D;unfold ER at hz;split at hz
 rotate_left
 ·cases hz
 rename_i ks us;cases hz;refine wB w q t pins s f.σ f.H R I ⟨f,rfl,rfl,j,_,st1,A,λc v G hs k n d=>?_⟩;obtain⟨a',J,L,l,m⟩:∃a',v=.ref a'/\f.H a'=b6/\¬c.S a'/\¬c.R a':=by
  obtain⟨r,g,N,O,Q,_⟩:=d;exact⟨r,g,N,O,Q⟩
 obtain⟨a2,kvs,g,i,T,Y⟩:=d.dict k;subst g;cases J;subst hs;refine⟨a',kvs,rfl,i,λo=>?_⟩;obtain⟨p,n2⟩:=Ok.IM (o':=.Kq o (.dK kvs)) j k n L l m ⟨_,i,λz=>z⟩;refine h {c with H:=upd c.H a' (.Kq o (.dK kvs))} _ G rfl p n2 B (yX (r:=a') (o:=o) (kvs:=kvs) ay m p T ?_);refine ak.mv ⟨λa z=>z,λa ob e tp=>?_,λa ob z e=>?_⟩ Y
 ·have:a≠a':=λy=>by subst y;rw[i]at e;cases e;exact tp
  show upd c.H a' _ a=_;rw[au this];exact e
 ·have:a≠a':=λy=>by subst y;exact l z
  show upd c.H a' _ a=_;rw[au this];exact e
end
section
def tG(C:Ct)(t:Bool)(is:List Nat):TG:=λv σ H Q=>∃b c r,c.σ=σ/\c.H=H/\Ok C b/\Ok C c/\Nx b c/\aL C b c r.1 r.2 v/\W (dB t is r) c.st λ_ st' =>
 ∀a,a.st=st'->Ok C a->Nx b a->(∀j,j∉is->a.σ[j]?=c.σ[j]?)->a.σ.length=c.σ.length->Q a.σ a.H
structure so(X:Cx)(e:mx)(i:Nat):Prop where
 is:∃x pos,e=.Name x pos/\X.N[i]?=a5 x/\Loc X.env.scope x/\(X.fn x=b8\/X.env.scope.names.lookup x=a5 .local)
theorem Fd(f:X.N.Nodup)(h:so X e i):PG X e (tG C cc [i]):=by
 obtain⟨x,pos,rfl,d,g,k⟩:=h.is;rintro pins s σ H v u Q I rv ⟨B,c,r,rfl,rfl,l,m,n,a,w⟩;have hi:i<c.σ.length:=by rw[I.len];exact(dV.mp d).1
 obtain⟨o,b,p,t,y,q⟩:=oP (r:=r) l m n hi a w;refine t9 f d g k pins s c.σ c.H v u Q I rv ?_;have z:=q o rfl t y (λj A=>by rw[b,i1 (by intro z;exact A (by simp[z]))]) (by rw[b];simp);rw[b,p]at z;exact z
noncomputable def Uh:List Nat->OX
 |[]=>Gr
 |i::is=>De (t8 i) (Uh is)
inductive eY(X:Cx):List mx->List Nat->Prop where
 |nil:eY X [] []
 |cons {e:mx} {es:List mx} {i:Nat} {is:List Nat} (h:so X e i) (t:eY X es is):eY X (e::es) (i::is)
theorem wR(a:X.N.Nodup)(h:eY X es is):PD X es (Uh is):=by
 induction h with
 |nil=>exact AY
 |cons h t b =>
  obtain⟨x,pos,rfl,c,d,e⟩:=h.is;exact xM (t9 a c d e) b rfl
theorem sr(h:eY X es is):(P5 es X.env).length=is.length/\(P5 es X.env).findIdx? (·.1)=b6:=by
 induction h with
 |nil=>exact⟨rfl,rfl⟩
 |cons h t a =>
  obtain⟨x,pos,rfl,b,c,d⟩:=h.is;refine⟨?_,?_⟩
  ·show(_::_).length=_;simp[a.1]
  ·show X8 _ (_::_)=b6;rw[List.findIdx?_cons,ő (by simp),a.2];rfl
theorem uO(hk:kE k=k)(g:Ok C f):∀{is:List Nat}{us:List U}{vs:List V}{c:Cf}{Post:Unit->az->Prop}{Q:L2.St->Hp->Prop},Ok C c->Nx f c->(∀i∈is,i<c.σ.length)->ak C (SK C c k) c.H us vs->W (sets is (us.map λu=>(k,u))) c.st Post ->
  (∀b,Post () b.st->Ok C b->Nx f b->(∀j,j∉is->b.σ[j]?=c.σ[j]?)->b.σ.length=c.σ.length->Q b.σ b.H)->Uh is vs c.σ c.H Q
 |[],[],vs,c,Post,Q,ok,n,hi,a,w,q=>by
  rw[show sets [] (Xg (λu=>(k,u)) [])=pure () from rfl,aq]at w;exact⟨a,q c w ok n (λ_ _=>rfl) rfl⟩
 |[],u::us,vs,c,Post,Q,ok,n,hi,a,w,q=>(bo.mp w).elim
 |i::is,[],vs,c,Post,Q,ok,n,hi,a,w,q=>(bo.mp w).elim
 |i::is,u::us,vs,c,Post,Q,ok,n,hi,a,w,q=>by
  rw[show sets (i::is) (Xg (λu=>(k,u)) (u::us))=d_ i (k,u) >>= λ_=>sets is (us.map λu=>(k,u)) from rfl,ah]at w;obtain⟨v,r,rfl,h,l⟩:=a;have m:k=.own\/k=.loc\/k=.any:=by cases k<;>simp[kE]at hk<;>simp
  have A:k≠.own:=by cases k<;>simp[kE]at hk<;>simp
  have rt:aL C f c k u v:=by rw[<-hk];exact aL.item h
  obtain⟨a1,o⟩:=ok.put n (hi i (by simp)) m g rt;have es:d_ i (k,u)=λst=>a5 (.ok (),st.set i (a5 (k,u))):=by cases k<;>simp[kE]at hk<;>rfl
  obtain⟨_,st',e,s⟩:=w;rw[es]at e;cases e;refine⟨v,r,rfl,uO (c:={c with σ:=c.σ.set i (a5 v),st:=c.st.set i (a5 (k,u))}) hk g a1 o (λj d=>by simpa using hi j (by simp[d])) (by cases k<;>exact l) s λb p t x y hl=>?_⟩;refine q b p t x (λj d=>?_) (by rw[hl];simp);rw[y j (λz=>d (by simp[z])),i1 (λz=>d (by simp[z]))]
theorem G4(j:X.calm=b8)(m:C.K=X.K)(o:X.N.Nodup)(h:eY X es is)(hl:∀i∈is,i<X.N.length):PG X (.Tuple es O pos) (tG C b8 is):=by
 rintro pins s σ H v u Q I rv ⟨T,c,r,rfl,rfl,q,e,n,b,w⟩;obtain⟨t,y⟩:=sr h;refine DW j (wR o h) t y pins s c.σ c.H v u Q I rv ?_;obtain⟨k,z⟩:=r;cases z with
 |tup us =>
  rw[show dB b8 is (k,.tup us)=sets is (us.map λu=>(kE k,u)) from by cases is<;>rfl]at w;obtain⟨a',vs,rfl,f,g⟩:=b.tuple e;rw[m]at f;have a:us.length=is.length:=by
   have d:∀(is:List Nat) (l:List (Kd×U)) (st:az) (P:Unit->az->Prop),W (sets is l) st P->l.length=is.length:=by
    intro is;induction is with
    |nil=>intro l st P w;cases l with
     |nil=>rfl
     |cons _ _=>exact(bo.mp w).elim
    |cons i is A=>intro l st P w;cases l with
     |nil=>exact(bo.mp w).elim
     |cons x l =>
      rw[show sets (i::is) (x::l)=d_ i x >>= λ_=>sets is l from rfl,ah]at w;obtain⟨_,_,_,w⟩:=w;rw[ke,ke,A l _ _ w]
   simpa using d _ _ _ _ w
  refine⟨a',vs,rfl,f,by rw[<-g.len,a],?_⟩;refine uO (k:=kE k) (by cases k<;>rfl) q e n (λi hi=>by rw[I.len];exact hl i hi) (by cases k<;>exact g) w λB p D G J L=>p B rfl D G J L
 |_=>cases is<;>exact(bo.mp w).elim
end
section
variable{X:Cx}{C:Ct}{pins:List (fR×Obj)}{s:fS}{c0 c c1:Cf}
variable{a b d e o tg iter elt:mx}{es ifs:List mx}{m ma mb md me:M (Kd×U)}{ms:M (List (Kd×U))}{ta tb tc:M Bool}{pos p p2 apos G':Pos}
theorem wU{m:M α}{st:az}{Q:α->az->Prop}:W (inScope k m) st Q↔W m (i9 k b6++st) λa st'=>Q a (st'.drop k):=by
 constructor
 ·rintro⟨a,st',e,h⟩;unfold inScope at e;cases q:m (i9 k b6++st) with
  |none=>rw[q]at e;cases e
  |some r=>obtain⟨g,f⟩:=r;rw[q]at e;cases e;exact⟨a,f,q,h⟩
 ·rintro⟨a,st',e,h⟩;exact⟨a,st'.drop k,by unfold inScope;rw[e],h⟩
noncomputable def Cf.ext(k:Nat)(c:Cf):Cf:={c with σ:=i9 k b6++c.σ,st:=i9 k b6++c.st,kid:=λj=>c.kid (j - k)}
noncomputable def Cf.cut(k:Nat)(c:Cf):Cf:={c with σ:=c.σ.drop k,st:=c.st.drop k,kid:=λj=>c.kid (k+j)}
theorem fY(h:(i9 k b6++l)[j]?=a5 (a5 x)):∃i,j=k+i/\l[i]?=a5 (a5 x):=by
 by_cases f:j<k
 ·rw[ux (by simpa using f)]at h;rw[KX]at h;rw[Ő f]at h;cases h
 ·refine⟨j - k,⋯,?_⟩;rw[pa (by simp;lia)]at h;simpa using h
theorem eZ:(i9 k b6++l)[k+i]?=l[i]?:=by
 rw[pa (by simp)];simp
theorem yY:(c.ext k).R1 r↔c.R1 r:=by
 constructor
 ·rintro⟨j,g,u,h,l,f⟩;obtain⟨i,rfl,e⟩:=fY l;rw[Cf.ext,eZ]at f;exact⟨i,g,u,h,e,f⟩
 ·rintro⟨i,g,u,h,l,f⟩;exact⟨k+i,g,u,h,by rw[Cf.ext,eZ];exact l,by rw[Cf.ext,eZ];exact f⟩
theorem oQ{a:fR}(h:(c.ext k).RD j a):∃i,j=k+i/\c.RD i a:=by
 obtain⟨u,r,l,f,g⟩:=h;obtain⟨i,rfl,e⟩:=fY l;rw[Cf.ext,eZ]at f;refine⟨i,rfl,u,r,e,f,?_⟩;have:(c.ext k).kid (k+i)=c.kid i:=by show c.kid (k+i - k)=_;rw[YP]
 rw[this]at g;exact g
theorem G5(h:(c.ext k).R r):c.R r:=by
 rcases h with h|⟨j,h⟩
 ·exact .inl (yY.mp h)
 ·obtain⟨i,_,h⟩:=oQ h;exact .inr ⟨i,h⟩
theorem Ok.ext(k:Nat)(f:Ok C c):Ok C (c.ext k)/\Nx c (c.ext k):=by
 refine⟨⟨f.same,f.KR,f.par,f.io,by simp[Cf.ext,f.len],λj A u e=>?_,λi j k1 k2 u u' r B D l g y z=>?_,⟨λj u r l g=>?_,λi j a n q=>?_,λj a n q=>?_⟩⟩,⟨⟨λ_ _ h _=>h,λ_ o h=>⟨o,h⟩,λa h=>.inl (G5 h),λ_ h=>h,λ_ h=>.inl h⟩⟩⟩
 ·obtain⟨i,rfl,G⟩:=fY e;obtain⟨v,l,g⟩:=f.sl i A u G;exact⟨v,by rw[Cf.ext,eZ];exact l,g⟩
 ·obtain⟨t,rfl,H⟩:=fY l;obtain⟨w,rfl,I⟩:=fY g;rw[Cf.ext,eZ]at y z;rw[f.inj t w k1 k2 u u' r B D H I y z]
 ·obtain⟨i,rfl,e⟩:=fY l;rw[Cf.ext,eZ]at g;have:(c.ext k).kid (k+i)=c.kid i:=by show c.kid (k+i - k)=_;rw[YP]
  rw[this];exact f.dd.kd i u r e g
 ·obtain⟨t,rfl,x⟩:=oQ n;obtain⟨w,rfl,J⟩:=oQ q;rw[f.dd.dj t w a x J]
 ·obtain⟨i,rfl,x⟩:=oQ n;exact f.dd.d1 i a x (yY.mp q)
theorem yZ{a:fR}(h:(c.cut k).R1 a):c.R1 a:=by
 obtain⟨j,i,u,l,f,g⟩:=h;rw[Cf.cut,LO]at f g;exact⟨k+j,i,u,l,f,g⟩
theorem oR{a:fR}(h:(c.cut k).RD j a):c.RD (k+j) a:=by
 obtain⟨u,r,f,g,i⟩:=h;rw[Cf.cut,LO]at f g;exact⟨u,r,f,g,i⟩
theorem Ok.cut(k:Nat)(f:Ok C c):Ok C (c.cut k)/\Nx c (c.cut k):=by
 refine⟨⟨f.same,f.KR,f.par,f.io,by simp[Cf.cut,f.len],λj x u e=>?_,λi j k1 k2 u u' r y A g l t w=>?_,⟨λj u r g l=>?_,λi j a n q=>?_,λj a n q=>f.dd.d1 _ a (oR n) (yZ q)⟩⟩,⟨⟨λ_ _ h _=>h,λ_ o h=>⟨o,h⟩,λa h=>.inl (h.elim (λz=>.inl (yZ z)) λ⟨j,z⟩=>.inr ⟨k+j,oR z⟩),λ_ h=>h,λ_ h=>.inl h⟩⟩⟩
 ·rw[Cf.cut,LO]at e;obtain⟨v,g,l⟩:=f.sl _ x u e;exact⟨v,by rw[Cf.cut,LO];exact g,l⟩
 ·rw[Cf.cut,LO]at g l t w;have:=f.inj _ _ k1 k2 u u' r y A g l t w;lia
 ·rw[Cf.cut,LO]at g l;exact f.dd.kd _ u r g l
 ·have:=f.dd.dj _ _ a (oR n) (oR q);lia
theorem B6(h:∀j,j∉i0 k->g[j]?=(i9 k b6++σ)[j]?)(hl:g.length=(i9 k (b6:Option V)++σ).length):∃f:L2.St,f.length=k/\g=f++σ:=by
 refine⟨g.take k,by rw[x4,hl];simp,?_⟩;apply Õ;intro j;by_cases i:j<k
 ·rw[ux (by rw[x4,hl];simp;lia),List.getElem?_take,Ő i]
 ·rw[h j (by simpa using i),pa (by simp;lia),pa (by rw[x4,hl];simp;lia)];congr 1
  rw[x4,hl];simp
theorem wV(e1:c1.σ=c0.σ)(Jg:Ok C c1)(n1:Nx c0 c1)(hw:Walk C c1 rs xs J)(h3:W (bY k t tc me rs xs []) c1.st λus st'=>W (pure (Kd.own,U.lst us)) st' (cn C c0 Q)):
  ug k J (tG C t (i0 k)) (Km C tc) (Je C me) Q c0.σ c1.H:=by
 refine⟨λi m ys H=>∃c acc,c.H=H/\c.σ=c0.σ/\Ok C c/\Nx c1 c/\m=xs.length - i/\i<=xs.length/\ak C c.S c.H acc ys/\acc.length<=cL/\W (bY k t tc me rs (xs.drop i) acc) c.st λus st'=>W (pure (Kd.own,U.lst us)) st' (cn C c0 Q),⟨xs.length,c1,[],rfl,e1,Jg,Nx.refl c1,by simp,ki _,rfl,ki _,by simpa using h3⟩,?_⟩;rintro i m ys H ⟨c,acc,rfl,D,q,y,rfl,hi,g,h,w⟩;refine⟨by rw[<-g.len];exact h,?_⟩;have f:k7 rs c1 c:=λj u _=>by rw[D,e1]
 by_cases G:i<xs.length
 ·right
  rw[Sn G]at w;rw[show bY k t tc me rs (xs[i]::xs.drop (i+1)) acc=aC rs >>= λ_=>inScope k (dB t (i0 k) xs[i] >>= λ_=>tc >>= λb=>if b=b8 then(me >>= λr=>lift r >>= λu=>pure (a5 u)) else pure b6) >>= λr=>match r with|some u=>if acc.length<cL then bY k t tc me rs (xs.drop (i+1)) (acc++[u]) else M.fail|none=>bY k t tc me rs (xs.drop (i+1)) acc from rfl,ah,bZ]at w;obtain⟨MI,w⟩:=w;obtain⟨I,_⟩:=hw c q y f MI;obtain⟨Ui,Pk,Uj⟩:=I i xs[i] (by simp[G]);refine⟨Pk,λK2 H'=>∃c acc,c.H=H'/\c.σ=c0.σ/\Ok C c/\Nx c1 c/\ak C c.S c.H acc K2/\acc.length<=cL/\W (bY k t tc me rs (xs.drop (i+1)) acc) c.st λus st'=>W (pure (Kd.own,U.lst us)) st' (cn C c0 Q),λK2 H' ⟨c',JX,z1,z2,z3,z4,z5,z6,z7⟩=>⟨xs.length - (i+1),⋯,c',JX,z1,z2,z3,z4,rfl,G,z5,z6,z7⟩,λx H' hy=>?_⟩;obtain⟨l,rfl,e4,e5,Jr,n2,rt⟩:=Uj x H' hy;rw[ah,wU,ah]at w;obtain⟨RA,nx⟩:=Jr.ext k;have Yf:aL C (l.ext k) (l.ext k) xs[i].1 xs[i].2 x:=by
   rcases Ui with z|z
   ·rw[z]at rt ⊢;exact rt
   ·rw[z]at rt ⊢;exact rt
  have eσ:(l.ext k).σ=i9 k b6++c0.σ:=by rw[Cf.ext];show i9 k b6++l.σ=_;rw[e4,D]
  refine⟨l.ext k,l.ext k,xs[i],eσ,rfl,RA,RA,Nx.refl _,Yf,?_⟩;have TH:(l.ext k).st=i9 k b6++c.st:=by rw[Cf.ext];show i9 k b6++l.st=_;rw[e5]
  rw[TH];refine w.mono λ_ JD w3 c3 e6 LL n3 Qw RB=>?_;subst e6;rw[eσ]at Qw RB;obtain⟨L,N,O⟩:=B6 Qw RB;refine⟨L,N,O,?_⟩;have VS:Nx c c3:=(n2.trans nx).trans n3;rw[ah]at w3;refine⟨c3,rfl,rfl,LL,w3.mono λb O2 n B e7 e8 T n4=>?_⟩;subst e8;cases b with
  |false =>
   rw[ő kr]at n ⊢;rw[aq]at n;obtain⟨Y,nk⟩:=T.cut k;have nn:Nx c (B.cut k):=(VS.trans n4).trans nk;refine⟨B.cut k,acc,rfl,?_,Y,y.trans nn,g.mv (q.mv nn),h,n⟩;show B.σ.drop k=_;rw[e7,O,V5 N]
  |true =>
   rw[Ő rfl]at n ⊢;rw[ah]at n;refine⟨B,e7,rfl,T,n.mono λr Mj w5 c5 v e9 Yg Yh n5 Yi=>?_⟩;subst Yg;rw[ah]at w5;obtain⟨S',st',u,sS,Yj,n6,Ul,A,_,_⟩:=ip T Yh n5 Yi.w w5;rw[aq]at A
   dsimp only at A
   split at A
   ·rename_i hz;obtain⟨Y,nk⟩:=Yj.cut k;have nn:Nx c (Cf.cut k {c5 with S:=S',st:=st' }):=((VS.trans n4).trans n6).trans nk;refine⟨Cf.cut k {c5 with S:=S',st:=st' },acc++[u],rfl,?_,Y,y.trans nn,(g.mv (q.mv nn)).snoc Ul,by rw[hV];exact hz,A⟩;show c5.σ.drop k=_;rw[e9,O,V5 N]
   ·exact(bo.mp A).elim
 ·left
  have Ku:i=xs.length:=by lia
  subst Ku;rw[à,show bY k t tc me rs [] acc=aC rs >>= λ_=>pure acc from rfl,ah,bZ,aq,aq]at w;obtain⟨_,I⟩:=hw c q y f w.1;exact⟨I _ (hU _),λp hp=>cn.list w.2 D q (n1.trans y) g p hp⟩
theorem mX(l:Ok C c0)
  (h:W (ms >>= λrs=>aC rs >>= λ_=>M.Jp (K7 n rs) >>= λxs=>bY k t tc me rs xs [] >>= λus=>pure (Kd.own,U.lst us)) c0.st (cn C c0 Q)) :
  ya k (MH C n ms) (tG C t (i0 k)) (Km C tc) (Je C me) c0.σ c0.H Q:=by
 rw[ah]at h;refine⟨c0,rfl,rfl,l,?_⟩;rw[ah];refine h.mono λrs st1 f=>?_;rw[ah,bZ]at f ⊢;refine⟨f.1,?_⟩;have g:=f.2;rw[ah]at g ⊢;refine g.mono λxs st2 i=>?_;rw[aq];intro c1 J q r u v w j;rw[ah]at i;subst r
 dsimp only at w j
 exact wV q u v j i
theorem y0(S:d8 X N own scope)(f:X.calm=b8)(hi:PI X tg iter (MH C g ms))
  (i:∀D s H ex,PG (Kb X N scope D s H ex) tg (tG C t (i0 own.length))) (j:∀D s H ex,M5 (Kb X N scope D s H ex) ifs (Km C tc)) (k:∀D s H ex,PE (Kb X N scope D s H ex) elt (Je C me))
  (hs:∀x,MQ iter X.env x=pure x) :
  PE X (.ListComp elt [⟨tg,iter,ifs,0⟩] scope pos) (Je C (ms >>= λrs=>aC rs >>= λ_=>M.Jp (K7 g rs) >>= λxs=>bY own.length t tc me rs xs [] >>= λus=>pure (.own,.lst us))):=by
 refine PE.weak (Bm S f hi i j k hs) ?_;rintro σ H Q ⟨c0,rfl,rfl,l,h⟩;exact mX l h
end
section
variable{a b d e o tg iter elt:mx}{es ifs:List mx}{m ma mb md me:M (Kd×U)}{ms:M (List (Kd×U))}{ta tb tc:M Bool}{pos p p2 apos G':Pos}{st:M3}{rest body:List M3}{f g mm:M Fl}{ns Ki:Nat->Bool}
def Fe(C:Ct)(c:Cf):Kd->U->V->Prop
 |.own,u,v=>∃r,v=.ref r/\C.H₀ r=b6/\¬c.S r/\¬c.R r/\cV C c.S c.H r u
 |.loc,u,v=>Rep C c.S c.H u v
 |.any,u,v=>Rep C (PS C c.S) c.H u v
 |_,_,_=>False
def IQ(C:Ct)(Q:VK)(c:Cf):Kd->U->Prop
 |.io,u=>C.xw u c.H
 |k,u=>∀v,Fe C c k u v->Q v c.H
def Fin(C:Ct)(D:Ends)(f:Fl)(c:Cf):Prop:=match f with
 |.nx=>D.nx c.σ c.H
 |.bk=>D.bk c.σ c.H
 |.ct=>D.ct c.σ c.H
 |.rt k u=>IQ C D.rt c k u
def Kept(ns:Nat->Bool)(c h:Cf):Prop:=(∀j,ns j=b8->h.σ[j]?=c.σ[j]?)/\h.σ.length=c.σ.length
theorem Kept.refl:Kept ns c c:=⟨λ_ _=>rfl,rfl⟩
theorem Kept.trans(h:Kept ns c i)(h':Kept ns i k):Kept ns c k:=⟨λj z=>(h'.1 j z).trans (h.1 j z),h'.2.trans h.2⟩
theorem Kept.le(i:∀j,Ki j=b8->ns j=b8)(h:Kept ns c k):Kept Ki c k:=⟨λj z=>h.1 j (i j z),h.2⟩
theorem Kept.of(h:i.σ=c.σ):Kept ns c i:=⟨λj z=>by rw[h],by rw[h]⟩
def fk(C:Ct)(h:Cf)(ns:Nat->Bool)(D:Ends)(f:Fl)(st':az):Prop:=∀c,c.st=st'->Ok C c->Ns h c->Kept ns h c->Fin C D f c
def JY(C:Ct)(ns:Nat->Bool)(m:M Fl):TS:=λD σ H=>∃c:Cf,c.σ=σ/\c.H=H/\Ok C c/\W m c.st (fk C c ns D)
theorem su(j:Ok C c)(n:Ns i c)(k:Kept ns i c)(h:W mm c.st (fk C i ns D)):JY C ns mm D c.σ c.H :=
 ⟨c,rfl,rfl,j,h.mono λf st l q e r s k2=>l q e r (n.trans s) (k.trans k2)⟩
theorem PS.weak(h:L2.PS X st t)(i:∀D σ H,t' D σ H->t D σ H):L2.PS X st t':=λpins s σ H D I q=>h pins s σ H D I (i D σ H q)
theorem Kf.weak(h:Kf X rest t)(i:∀D σ H,t' D σ H->t D σ H):Kf X rest t':=λpins s σ H D I q=>h pins s σ H D I (i D σ H q)
theorem oS(i:∀j,Ki j=b8->ns j=b8)(h:JY C Ki mm D σ H):JY C ns mm D σ H :=
 let ⟨c,k,l,n,w⟩:=h;⟨c,k,l,n,w.mono λf st q r e s t k2=>q r e s t (k2.le i)⟩
theorem G6:Kf X [] (JY C ns (pure .nx)):=by
 refine Kf.weak t7 ?_;rintro D σ H ⟨c,rfl,rfl,i,h⟩;rw[aq]at h;exact h c rfl i (Ns.refl c) Kept.refl
noncomputable def B7(m:M Fl)(f:Fl):M Fl:=match f with
 |.nx=>m
 |f=>pure f
theorem Ff(l:L2.PS X st (JY C ns f))(n:Kf X rest (JY C ns g)):Kf X (st::rest) (JY C ns (f >>= B7 g)):=by
 refine Kf.weak (pP l n) ?_;rintro D σ H ⟨q,rfl,rfl,r,h⟩;rw[ah]at h;refine⟨q,rfl,rfl,r,h.mono λs st1 w j e c i k1=>?_⟩;subst e;cases s with
 |nx=>exact su c i k1 w
 |bk=>rw[show B7 g .bk=pure .bk from rfl,aq]at w;exact w j rfl c i k1
 |ct=>rw[show B7 g .ct=pure .ct from rfl,aq]at w;exact w j rfl c i k1
 |rt k u=>rw[show B7 g (.rt k u)=pure (.rt k u) from rfl,aq]at w;exact w j rfl c i k1
theorem G7(i:PE X a (Je C ma))(hs:QU a b6 pos.line X.env=pure cc):L2.PS X (.Expr a pos) (JY C ns (ma >>= λ_=>pure .nx)):=by
 refine PS.weak (jR i hs) ?_;rintro D σ H ⟨k,rfl,rfl,j,h⟩;refine aX j h λx c v t w=>?_;rw[aq]at w;have:=w c rfl t.ok t.nx (Kept.of t.hσ);rw[<-t.hσ];exact this
theorem Fg:L2.PS X (.Return b6 pos) (JY C ns (pure (.rt .loc .Jc))):=by
 refine PS.weak AX ?_;rintro D σ H ⟨c,rfl,rfl,i,h⟩;rw[aq]at h;exact h c rfl i (Ns.refl c) Kept.refl .Jc rfl
theorem G8(ha:PE X a (Je C ma)):L2.PS X (.Return (a5 a) pos) (JY C ns (ma >>= retS)):=by
 refine PS.weak (DU ha) ?_;rintro D σ H ⟨c0,rfl,rfl,T,h⟩;refine aX T h λx c v t w=>?_;obtain⟨k,u⟩:=x;obtain⟨I,s,n,r⟩:=t;cases k with
 |own =>
  rw[show retS (.own,u)=pure (.rt .own u) from rfl,aq]at w;obtain⟨G,e,h1,h2,h3,h4⟩:=r;exact w c rfl s n (Kept.of I) v ⟨G,e,(T.jL h1).1,h2,h3,h4⟩
 |loc =>
  rw[show retS (.loc,u)=pure (.rt .loc u) from rfl,aq]at w;exact w c rfl s n (Kept.of I) v r
 |any =>
  rw[show retS (.any,u)=if Js u=b8 then pure (.rt .loc u) else pure (.rt .any u) from rfl]at w;split at w
  ·rw[aq]at w;exact w c rfl s n (Kept.of I) v (Rep.Js (by assumption) r)
  ·rw[aq]at w;exact w c rfl s n (Kept.of I) v r
 |bor j =>
  obtain⟨fl,st',e,w⟩:=w;rw[show retS (.bor j,u) c.st=match c.st[j]? with|some (a5 (.own,u))=>a5 (Ex.ok (Fl.rt .own u),c.st.set j b6)|_=>b6 from rfl]at e;split at e
  ·rename_i u' L;cases e;have MG:j<c.st.length:=(dV.mp L).1;have B:∀(i:Nat) k u',(c.st.set j b6)[i]?=a5 (a5 (k,u'))->i≠j/\c.st[i]?=a5 (a5 (k,u')):=λi k u' e=>by
    by_cases N:i=j
    ·subst N;rw[gj MG]at e;cases e
    ·rw[i1 (ro N)]at e;exact⟨N,e⟩
   obtain⟨v',y,G,er,q1,q2,q3,q4⟩:=s.sl j _ _ L;have O:c.σ[j]?=a5 (a5 v):=r.2;rw[O]at y;cases y;subst er;have Y:∀a,({c with st:=c.st.set j b6}:Cf).R1 a->c.R1 a:=λa ⟨i,k,l,hk,y,A⟩=>⟨i,k,l,hk,(B i k l y).2,A⟩
   have hR:∀a,({c with st:=c.st.set j b6}:Cf).R a->c.R a:=λa z=>z.elim (λz=>.inl (Y a z)) λ⟨i,l,Q,y,A,J⟩=>.inr ⟨i,l,Q,(B i .IY l y).2,A,J⟩;have Nm:Ma C {c with st:=c.st.set j b6}:=s.dd.of rfl (λi l e=>⟨(B i .IY l e).2,rfl⟩) (λa z=>.inl (Y a z)) (.up λ_ z=>z) λi a z=>⟨(s.root (.inr ⟨i,z⟩)).1,λo q=>q⟩
   have Yk:Ok C {c with st:=c.st.set j b6}:=⟨s.same,s.KR,s.par,s.io,by simp[s.len],λi k l e=>s.sl i k l (B i k l e).2,λi i' k k' u1 l r hk Jw y A J e4=>s.inj i i' k k' u1 l r hk Jw (B i k u1 y).2 (B i' k' l A).2 J e4,Nm⟩
   have nn:Ns c0 {c with st:=c.st.set j b6}:=⟨n.keep,n.there,λa z=>n.roots a (hR a z),n.sub,n.new⟩
   refine w {c with st:=c.st.set j b6} rfl Yk nn (Kept.of I) (.ref G) ⟨G,rfl,q3,q1,λz=>?_,q4⟩
   ·rcases z with⟨i,k,l,hk,y,A⟩|⟨i,l,Q,y,A,J⟩
    ·obtain⟨ne,J0⟩:=B i k l y;exact ne (s.inj i j k .own l _ G hk rfl J0 L A O)
    ·exact s.dd.d1 i G ⟨l,Q,(B i .IY l y).2,A,J⟩ ⟨j,.own,_,rfl,L,O⟩
  ·cases e
 |_=>exact r.elim
end
section
theorem k8(f:∀j,ns j=b8->j≠i)(g:Ok C a)(t:Nl C a c r v)(hi:i<c.σ.length)(w:W (d_ i r >>= λ_=>(pure .nx:M Fl)) c.st (fk C a ns D)):D.nx (a.σ.set i (a5 v)) c.H:=by
 rw[ah]at w;obtain⟨b,d,h,k,l,q⟩:=oP (r:=r) g t.ok t.nx hi t.rx w;rw[aq]at q;have z:=q b rfl k l ⟨λj m=>by rw[d,t.hσ,i1 (ro (f j m))],by rw[d,t.hσ];simp⟩;have e:D.nx b.σ b.H:=z;rw[d,h,t.hσ]at e;exact e
theorem Dm(e:∀j,ns j=b8->j≠i)(f:X.N.Nodup)(hi:X.N[i]?=a5 x)(g:Loc X.env.scope x)(k:X.fn x=b8\/X.env.scope.names.lookup x=a5 .local)(l:PE X a (Je C m))
  (hs:QU a (a5 (.Name x pos')) pos.line X.env=pure cc):L2.PS X (.Assign [.Name x pos'] a pos) (JY C ns (m >>= λr=>d_ i r >>= λ_=>pure .nx)):=by
 rintro pins s σ H D I ⟨b,rfl,rfl,d,h⟩;have n:i<b.σ.length:=by rw[I.len];exact(dV.mp hi).1
 exact rH f hi g l hs k pins s b.σ b.H D I (aX d h λr c v t w=>k8 e d t (by rw[t.hσ];exact n) w)
theorem Fh(l:∀j,ns j=b8->j≠i)(S:d8 X N own scope)(m:X.calm=b8)(o:X.N.Nodup)(f:X.N[i]?=a5 y)(p:X.env.scope.names.lookup y=a5 .local)
  (hi:PI X d a (MH C q ms)) (u:∀D s H ex,PG (Kb X N scope D s H ex) d (tG C t (i0 own.length))) (z:∀D s H ex,M5 (Kb X N scope D s H ex) b (Km C A)) (B:∀D s H ex,PE (Kb X N scope D s H ex) elt (Je C G))
  (J:QU (.ListComp elt [⟨d,a,b,0⟩] scope pos) (a5 (.Name y L)) O.line X.env=pure b8) (hs:∀x,MQ a X.env x=pure x) :
  L2.PS X (.Assign [.Name y L] (.ListComp elt [⟨d,a,b,0⟩] scope pos) O)
   (JY C ns ((ms >>= λrs=>aC rs >>= λ_=>M.Jp (K7 q rs) >>= λxs=>bY own.length t A G rs xs [] >>= λus=>pure (.own,.lst us)) >>= λr=>d_ i r >>= λ_=>pure .nx)):=by
 rintro pins s σ H D I ⟨e,rfl,rfl,g,h⟩;have Q:i<e.σ.length:=by rw[I.len];exact(dV.mp f).1
 refine Bn S m o f p hi u z B J hs pins s e.σ e.H D I ?_;rw[ah]at h;refine mX g (h.mono λr st1 w c v k T Y n rt=>?_);subst T;exact k8 l g ⟨k,Y,n,rt⟩ (by rw[k];exact Q) w
theorem Fi(g:∀j,ns j=b8->j∉is)(i:PE X a (Je C k))(l:PG X b (tG C b8 is))(hs:Rk [b] a pos.line X.env=pure cc)(m:VA [b] a X.env=pure b6)(n:(P5 [b] X.env).map (·.2)=[SE b X.env]):
  L2.PS X (.Assign [b] a pos) (JY C ns (k >>= λr=>dB b8 is r >>= λ_=>pure .nx)):=by
 refine PS.weak (rG i l hs m n) ?_;rintro D σ H ⟨o,rfl,rfl,d,h⟩;refine aX d h λr c v t w=>?_;rw[ah]at w;refine⟨o,c,r,t.hσ,rfl,d,t.ok,t.nx,t.rx,w.mono λ_ st1 f p e q s u hl=>?_⟩;subst e;rw[aq]at f;exact f p rfl q s ⟨λj x=>by rw[u j (g j x),t.hσ],by rw[hl,t.hσ]⟩
theorem G9(i:PT X a (Km C j))(k:Kf X l (JY C ns f))(m:Kf X o (JY C ns g)):L2.PS X (.If a l o pos) (JY C ns (j >>= λp=>if p=b8 then f else g)):=by
 refine PS.weak (Gq i k m) ?_;rintro D σ H ⟨q,rfl,rfl,r,h⟩;refine eL r h λp c b d n w=>?_;have e:q.σ=c.σ:=b.symm;rw[e];cases p with
 |true=>rw[Ő rfl]at w ⊢;exact su d n (Kept.of b) w
 |false=>rw[ő kr]at w ⊢;exact su d n (Kept.of b) w
theorem G_(L:XI (gs X.prog X.w) X.A X.env X.xe)(N:PT X a (Km C g))(O:Kf X body (JY C ns f)):L2.PS X (.While a body [] pos) (JY C ns (fw g f n)):=by
 refine PS.weak (xO L N O) ?_;rintro D σ H ⟨d,rfl,rfl,Q,h⟩;refine⟨λm t H'=>∃c,c.H=H'/\c.σ=t/\Ok C c/\Ns d c/\Kept ns d c/\W (fw g f m) c.st (fk C d ns D),⟨n,d,rfl,rfl,Q,Ns.refl d,Kept.refl,h⟩,?_⟩;rintro m t H' ⟨c,rfl,rfl,T,v,x,w⟩;cases m with
 |zero=>exact(bo.mp w).elim
 |succ m =>
  rw[show fw g f (m+1)=g >>= λb=>if b=b8 then(f >>= λf'=>match f' with|.nx=>fw g f m|.ct=>fw g f m|.bk=>pure .nx|.rt k u=>pure (.rt k u)) else pure .nx from rfl]at w;refine eL T w λp l y B G i=>?_;have k2:Kept ns c l:=Kept.of y;rw[<-y];cases p with
  |false =>
   rw[ő kr]at i ⊢;rw[aq]at i;exact i l rfl B (v.trans G) (x.trans k2)
  |true =>
   rw[Ő rfl]at i ⊢;refine⟨λI J=>∃c,c.H=J/\c.σ=I/\Ok C c/\Ns d c/\Kept ns d c/\W (fw g f m) c.st (fk C d ns D),λI J z=>⟨m,OH m,z⟩,?_⟩;rw[ah]at i;refine⟨l,rfl,rfl,B,i.mono λY JD j o e q n3 k3=>?_⟩;subst e;have r:=(v.trans G).trans n3;have s:=(x.trans k2).trans k3;cases Y with
   |nx=>exact⟨o,rfl,rfl,q,r,s,j⟩
   |ct=>exact⟨o,rfl,rfl,q,r,s,j⟩
   |_=>rw[aq]at j;exact j o rfl q r s
theorem Ha(hp:XI (gs X.prog X.w) X.A X.env X.xe)(hc:X.calm=b8)(hi:PI X tg a (MH C ik ms))(hg:PG X tg (tG C t is))(hb:Kf X body (JY C (LK s) f))(hs:∀x,MQ a X.env x=pure x)
  (J8:∀j,ns j=b8->j∉is/\LK s j=b8) :
  L2.PS X (.For tg a body [] pos) (JY C ns (ms >>= λrs=>aC rs >>= λ_=>M.Jp (K7 ik rs) >>= λxs=>if uF rs is s=b8 then forM t is f rs xs else M.fail)):=by
 refine PS.weak (D4 hp hc hi hg hb hs) ?_;rintro D σ H ⟨d,rfl,rfl,ok,h⟩;rw[ah]at h;refine⟨d,rfl,rfl,ok,?_⟩;rw[ah];refine h.mono λrs st1 v=>?_;rw[ah,bZ]at v ⊢;refine⟨v.1,?_⟩;have h2:=v.2;rw[ah]at h2 ⊢;refine h2.mono λxs st2 y=>?_;rw[aq];intro b J e1 e2 Jg n1 Jh B;subst e2
 dsimp only at Jh B
 split at y
 ·rename_i OC;have Up:∀j u,(Kd.bor j,u)∈rs->j∉is/\LK s j=b8:=λj u o=>by
   have:=i8.mp OC _ o;simpa using this
  refine⟨λi m l H'=>∃c,c.H=H'/\c.σ=l/\Ok C c/\Ns b c/\Kept ns d c/\k7 rs b c/\m=xs.length - i/\i<=xs.length/\W (forM t is f rs (xs.drop i)) c.st (fk C d ns D),
   ⟨xs.length,b,rfl,e1,Jg,Ns.refl b,Kept.of e1,λ_ _ _=>rfl,by simp,ki _,by simpa using y⟩,?_⟩
  rintro i m l H' ⟨c,rfl,rfl,G,p,kc,I,rfl,Ku,w⟩;by_cases L:i<xs.length
  ·right
   rw[Sn L,show forM t is f rs (xs[i]::xs.drop (i+1))=aC rs >>= λ_=>dB t is xs[i] >>= λ_=>f >>= λf'=>match f' with|.nx=>forM t is f rs (xs.drop (i+1))|.ct=>forM t is f rs (xs.drop (i+1))|.bk=>pure .nx|.rt k u=>pure (.rt k u) from rfl,ah,bZ]at w;obtain⟨MI,w⟩:=w;obtain⟨N,_⟩:=B c G p I MI;obtain⟨Ui,Pk,Uj⟩:=N i xs[i] (by simp[L]);refine⟨Pk,λl H'=>∃c,c.H=H'/\c.σ=l/\Ok C c/\Ns b c/\Kept ns d c/\k7 rs b c/\W (forM t is f rs (xs.drop (i+1))) c.st (fk C d ns D),λl H' ⟨c',z1,z2,z3,z4,z5,z6,z7⟩=>⟨xs.length - (i+1),⋯,c',z1,z2,z3,z4,z5,z6,rfl,L,z7⟩,λx H' hy=>?_⟩;obtain⟨n,rfl,q,e5,Jr,n2,rt⟩:=Uj x H' hy;rw[ah]at w;have Yl:aL C n n xs[i].1 xs[i].2 x:=by
    rcases Ui with z|z
    ·rw[z]at rt ⊢;exact rt
    ·rw[z]at rt ⊢;exact rt
   refine⟨n,n,xs[i],q,rfl,Jr,Jr,Nx.refl n,Yl,?_⟩;rw[e5];refine w.mono λ_ JD w3 c3 e6 LL n3 VV RB=>?_;subst e6;rw[ah]at w3;refine⟨c3,rfl,rfl,LL,w3.mono λfl O2 r g e O n4 Q=>?_⟩;subst e;have T:Ns b g:=((p.trans n2.toNs).trans n3.toNs).trans n4;have Y:Kept ns d g:=by
    refine kc.trans ⟨λj hj=>?_,by rw[Q.2,RB,q]⟩;obtain⟨j1,j2⟩:=J8 j hj;rw[Q.1 j j2,VV j j1,q]
   have VW:k7 rs b g:=λj u o=>by
    obtain⟨j1,j2⟩:=Up j u o;rw[Q.1 j j2,VV j j1,q];exact I j u o
   cases fl with
   |nx=>exact⟨g,rfl,rfl,O,T,Y,VW,r⟩
   |ct=>exact⟨g,rfl,rfl,O,T,Y,VW,r⟩
   |_=>rw[aq]at r;exact r g rfl O (n1.toNs.trans T) Y
  ·left
   have Ym:i=xs.length:=by lia
   subst Ym;rw[à,show forM t is f rs []=aC rs >>= λ_=>pure .nx from rfl,ah,bZ,aq]at w;obtain⟨_,N⟩:=B c G p I w.1;exact⟨N _ (hU _),w.2 c rfl G (n1.toNs.trans p) kc⟩
 ·exact(bo.mp y).elim
end
section
theorem Ok.mod(b:Ok C c)(n:Ns c0 c)(hk:k.root=b8)(hi:c.st[i]?=a5 (a5 (k,u)))(B:c.σ[i]?=a5 (a5 (.ref r)))(JQ:∀a,a≠r->H' a=c.H a)(Y:∃o,H' r=a5 o)
  (new:Mv c.S c.H c.S H'->cV C c.S H' r u'):Ok C {c with H:=H',st:=c.st.set i (a5 (k,u'))}/\Ns c0 {c with H:=H',st:=c.st.set i (a5 (k,u'))}:=by
 have Lq:c.R1 r:=⟨i,k,u,hk,hi,B⟩
 have hR:c.R r:=.inl Lq;obtain⟨G,q2,q3,o,ho,OD⟩:=b.root hR;have I:i<c.st.length:=(dV.mp hi).1;have m:∀{a:fR} {o':HO},a≠r->c.H a=a5 o'->H' a=a5 o':=λJ e=>by rw[JQ _ J];exact e
 have D:Mv c.S c.H c.S H':=⟨λ_ z=>z,λa o' e t=>m (λz=>by subst z;rw[ho]at e;cases e;exact OD t) e,λa o' z e=>m (λd=>G (d▸z)) e⟩
 have Nf:Mv (PS C c.S) c.H (PS C c.S) H':=⟨λ_ z=>z,D.Qo,λa o' z e=>m (λd=>by subst d;exact z.elim q2 G) e⟩
 have L:∀(j:Nat) k' w,(c.st.set i (a5 (k,u')))[j]?=a5 (a5 (k',w))->j≠i->c.st[j]?=a5 (a5 (k',w)):=λj k' w e J=>by rw[i1 (ro J)]at e;exact e
 have f:∀(j:Nat) k' w,k'.root=b8->(c.st.set i (a5 (k,u')))[j]?=a5 (a5 (k',w))->∃N,c.st[j]?=a5 (a5 (k',N)):=λj k' w _ e=>by
  by_cases p:j=i
  ·subst p;rw[gj I]at e;cases e;exact⟨u,hi⟩
  ·exact⟨w,L j k' w e p⟩
 have b1:∀a,({c with H:=H',st:=c.st.set i (a5 (k,u'))}:Cf).R1 a->c.R1 a:=λa JG=>by
  obtain⟨j,k',w,g,h,l⟩:=JG;obtain⟨N,a1⟩:=f j k' w g h;exact⟨j,k',N,g,a1,l⟩
 have dD:∀(j:Nat) (w:U),(c.st.set i (a5 (k,u')))[j]?=a5 (a5 (.IY,w))->c.st[j]?=a5 (a5 (.IY,w)):=λj w e=>by
  by_cases p:j=i
  ·subst p;rw[gj I]at e;cases e;cases hk
  ·exact L j .IY w e p
 have Nm:Ma C {c with H:=H',st:=c.st.set i (a5 (k,u'))}:=b.dd.of rfl (λj w e=>⟨dD j w e,rfl⟩) (λa z=>.inl (b1 a z)) D λj a z=>⟨(b.root (.inr ⟨j,z⟩)).1,λo' e=>m (λd=>b.dd.d1 j a z (d▸Lq)) e⟩
 refine⟨⟨λa o' e z=>?_,λa z=>?_,b.par,λa z=>?_,by simp[b.len],λj k' w e=>?_,λj1 j2 k1 k2 w1 w2 q g s h l O e4=>?_,Nm⟩,n.trans ⟨λa o' e z=>m (λd=>z (d▸hR)) e,λa o' e=>?_,λa z=>?_,λ_ z=>z,λ_ z=>.inl z⟩⟩
 ·have g:=b.same a o' e z;refine m (λd=>?_) g;subst d;rcases q3 with q3|q3
  ·rw[e]at q3;cases q3
  ·exact z q3
 ·obtain⟨g,o',s⟩:=b.KR a z;exact⟨g,o',m (λd=>G (d▸z)) s⟩
 ·obtain⟨g,o',s⟩:=b.io a z;refine⟨g,?_⟩;by_cases y:a=r
  ·subst y;exact Y
  ·exact⟨o',m y s⟩
 ·by_cases p:j=i
  ·subst p;rw[gj I]at e;cases e;obtain⟨v,h,l⟩:=b.sl j _ _ hi;rw[B]at h;cases h;refine⟨.ref r,B,?_⟩;have nr:=new D;cases k with
   |own=>obtain⟨q,x,A,Q,T,_⟩:=l;cases x;exact⟨r,rfl,A,Q,T,nr⟩
   |io=>obtain⟨q,x,A,Q,T,_⟩:=l;cases x;exact⟨r,rfl,A,Q,T,nr⟩
   |_=>cases hk
  ·have e0:=L j k' w e p;obtain⟨v,h,l⟩:=b.sl j k' w e0;refine⟨v,h,l.mv D Nf λJw q x=>?_⟩;obtain⟨Qr,KC,A,_⟩:=l.rt Jw;rw[x]at KC;cases KC;refine⟨A,λo' e=>m (λz=>?_) e⟩;subst z;exact p (b.inj j i k' k w u q Jw hk e0 hi (by rw[h,x]) B)
 ·obtain⟨RC,a1⟩:=f j1 k1 w1 g h;obtain⟨VX,a2⟩:=f j2 k2 w2 s l;exact b.inj j1 j2 k1 k2 RC VX q g s a1 a2 O e4
 ·by_cases y:a=r
  ·subst y;exact Y
  ·exact⟨o',m y e⟩
 ·rcases z with z|⟨j,w,q,h,l,O⟩
  ·exact .inl (.inl (b1 a z))
  ·exact .inl (.inr ⟨j,w,q,dD j w h,l,O⟩)
theorem fZ{f:U->Option U}{st:az}(h:W (modS i f) st Q):∃k u u',k.root=b8/\st[i]?=a5 (a5 (k,u))/\f u=a5 u'/\Q () (st.set i (a5 (k,u'))):=by
 obtain⟨_,st',e,q⟩:=h;unfold modS at e;split at e
 ·rename_i k u hs;split at e
  ·rename_i hk;cases a:f u with
   |none=>rw[a]at e;cases e
   |some u'=>rw[a]at e;cases e;exact⟨k,u,u',hk,hs,a,q⟩
  ·cases e
 ·cases e
theorem dc{st:az}(h:W (dn i) st Q):∃k u,k≠.IY/\st[i]?=a5 (a5 (k,u))/\Q (if k.root=b8 then .bor i else k,u) st:=by
 obtain⟨r,st',e,q⟩:=h;unfold dn at e;split at e
 ·cases e
 ·rename_i k u a hs;cases e;exact⟨k,u,λz=>a z,hs,q⟩
 ·cases e
theorem Hb(Y:C.K=X.K)(hN:X.N[i]?=a5 x)(hv:K8 X.env.scope x)(hd:(x==("__debug__":Str))=cc)(JM:(x==("__classdict__":Str))=cc)(ha:PE X a (Je C ma))
  (Ka:((JL g (i3 [a] X.env)).all (λx=>!x.1)&&(Qt g (MO [] X.env)).all (λx=>x.1.isSome)
   && dt ([a].length+([]:List Oj).length+(if ([]:List Oj).isEmpty then 0 else 1)<30))=b8)
  (Jm:(b.endLine==g.line)=b8) (o:i3 [a] X.env=[(cc,wk a X.env)]) :
  L2.PS X (.Expr (.Call (.Attribute (.Name x px) "append" b) [a] [] g) pos) (JY C ns (dn i >>= λx=>Nj x.2 >>= λ_=>ma >>= λr=>lift r >>= λu=>modS i (yK u) >>= λ_=>pure .nx)):=by
 refine PS.weak (jR (ub PySem.F.plainAttrs_list PySem.F.slot_list_append PySem.F.type_list_append mC (cz hN hv hd JM) (cS ha fC o) rfl Ka Jm o rfl)) ?_;rintro D σ H ⟨p,rfl,rfl,f,h⟩;rw[ah]at h;obtain⟨k0,s,Mh,y,h⟩:=dc h;obtain⟨A,l,m⟩:=f.sl i k0 s y;refine⟨A,l,?_⟩;cases s with
 |lst B =>
  rw[ah,show Nj (U.lst B)=pure () from rfl,aq]at h;have Qx:aL C p p (if k0.root=b8 then .bor i else k0) (.lst B) A:=by
   by_cases hk:k0.root=b8
   ·rw[Ő hk];exact⟨⟨k0,hk,y⟩,l⟩
   ·rw[ő hk];cases k0 with
    |loc=>exact m
    |any=>exact m
    |bor j=>exact m.elim
    |IY=>exact(Mh rfl).elim
    |_=>exact absurd rfl hk
  obtain⟨a0,Pj,n,OZ,_⟩:=Qx.list f;refine⟨by rw[n];exact .inl ⟨rfl,Pj,Y▸OZ⟩,?_⟩;refine aX f h λr c v t w=>?_;rw[ah]at w;obtain⟨S',st',u,sS,G,n1,d,I,_,_⟩:=ip f t.ok t.nx t.rx.w w;rw[ah]at I;obtain⟨k,u1,u2,hk,hs,e,q⟩:=fZ I;have J:c.σ[i]?=a5 (a5 (.ref a0)):=by rw[t.hσ,l,n]
  cases u1 with
  |lst L =>
   simp only[yK]at e;split at e
   ·rename_i hz;cases e;obtain⟨v',e1,e2⟩:=G.sl i k (.lst L) hs;have O:c.σ[i]?=a5 (a5 v'):=e1;rw[J]at O;cases O;obtain⟨r',er,_,_,_,ws,hw,Q⟩:=e2.rt hk;cases er;have RE:c.H a0=a5 (.lst ws):=hw;refine⟨a0,ws,v,n,rfl,RE,by rw[<-Q.len];exact hz,?_⟩;rw[aq]at q;obtain⟨Jr,n2⟩:=Ok.mod (c:={c with S:=S',st:=st' }) (H':=upd c.H a0 (.lst (ws++[v]))) (u':=.lst (L++[u])) G n1.toNs hk hs J (λa ne=>au ne) ⟨_,ay⟩ λT=>⟨ws++[v],ay,(Q.mv T).snoc (d.mv T)⟩
    have z:=q _ rfl Jr n2 (Kept.of t.hσ);rw[<-t.hσ];exact z
   ·cases e
  |_=>cases e
 |_=>rw[ah]at h;exact(bo.mp h).elim
theorem Hc(y:C.K=X.K)(hN:X.N[i]?=a5 x)(hv:K8 X.env.scope x)(hd:(x==("__debug__":Str))=cc)(JM:(x==("__classdict__":Str))=cc)(ha:PE X a (Je C ma))
  (Ka:((JL g (i3 [a] X.env)).all (λx=>!x.1)&&(Qt g (MO [] X.env)).all (λx=>x.1.isSome)
   && dt ([a].length+([]:List Oj).length+(if ([]:List Oj).isEmpty then 0 else 1)<30))=b8)
  (Jm:(f.endLine==g.line)=b8) (A:i3 [a] X.env=[(cc,wk a X.env)]) :
  L2.PS X (.Expr (.Call (.Attribute (.Name x px) "extend" f) [a] [] g) pos) (JY C ns (dn i >>= λx=>Nj x.2 >>= λ_=>ma >>= λr=>modS i (kX r) >>= λ_=>pure .nx)):=by
 refine PS.weak (jR (ub PySem.F.plainAttrs_list PySem.F.slot_list_extend PySem.F.type_list_extend rY (cz hN hv hd JM) (cS ha fC A) rfl Ka Jm A rfl)) ?_;rintro D σ H ⟨B,rfl,rfl,l,h⟩;rw[ah]at h;obtain⟨k0,G,Mh,I,h⟩:=dc h;obtain⟨J,m,n⟩:=l.sl i k0 G I;refine⟨J,m,?_⟩;cases G with
 |lst L =>
  rw[ah,show Nj (U.lst L)=pure () from rfl,aq]at h;have Qx:aL C B B (if k0.root=b8 then .bor i else k0) (.lst L) J:=by
   by_cases hk:k0.root=b8
   ·rw[Ő hk];exact⟨⟨k0,hk,I⟩,m⟩
   ·rw[ő hk];cases k0 with
    |loc=>exact n
    |any=>exact n
    |bor j=>exact n.elim
    |IY=>exact(Mh rfl).elim
    |_=>exact absurd rfl hk
  obtain⟨a0,Pj,o,OZ,_⟩:=Qx.list l;refine⟨by rw[o];exact .inl ⟨rfl,Pj,y▸OZ⟩,?_⟩;refine aX l h λr c v t w=>?_;rw[ah]at w;obtain⟨k,p,u2,hk,hs,d,q⟩:=fZ w;have O:c.σ[i]?=a5 (a5 (.ref a0)):=by rw[t.hσ,m,o]
  obtain⟨rk,ru⟩:=r;have key:∃e zs b vs,p=.lst e/\v=.ref b/\(JA C.K c.H b vs\/JH C.K c.H b vs)/\ak C c.S c.H zs vs/\e.length+zs.length<=cL/\u2=.lst (e++zs):=by
   cases ru with
   |lst zs =>
    cases p with
    |lst e =>
     simp only[kX]at d;split at d
     ·rename_i hz;cases d;obtain⟨b,vs,ev,s,u⟩:=t.rx.list t.ok;exact⟨_,_,b,vs,rfl,ev,.inl s,cX hz.2 u,hz.1,rfl⟩
     ·cases d
    |_=>simp[kX]at d
   |tup zs =>
    cases p with
    |lst e =>
     simp only[kX]at d;split at d
     ·rename_i hz;cases d;obtain⟨b,vs,ev,s,u⟩:=t.rx.tuple t.ok;exact⟨_,_,b,vs,rfl,ev,.inr s,cX hz.2 u,hz.1,rfl⟩
     ·cases d
    |_=>simp[kX]at d
   |_=>simp[kX]at d
  obtain⟨e,zs,b,vs,rfl,rfl,hB,hz,hl,rfl⟩:=key;obtain⟨v',Q,e2⟩:=t.ok.sl i k (.lst e) hs;rw[O]at Q;cases Q;obtain⟨r',er,_,_,_,ws,hw,T⟩:=e2.rt hk;cases er;refine⟨a0,b,ws,vs,o,rfl,hw,y▸hB,by rw[<-T.len,<-hz.len];exact hl,?_⟩;rw[aq]at q;obtain⟨Jr,n2⟩:=Ok.mod (c:=c) (H':=upd c.H a0 (.lst (ws++vs))) (u':=.lst (e++zs)) t.ok t.nx.toNs hk hs O (λa ne=>au ne) ⟨_,ay⟩ λY=>⟨ws++vs,ay,(T.mv Y).append (hz.mv Y)⟩
  have z:=q _ rfl Jr n2 (Kept.of t.hσ);rw[<-t.hσ];exact z
 |_=>rw[ah]at h;exact(bo.mp h).elim
theorem nX.or(h:nX X t)(h':nX X t'):nX X (λo i v H Q=>t o i v H Q\/t' o i v H Q):=λpins s σ H o i v a b u Q I c d e q =>
 q.elim (h pins s σ H o i v a b u Q I c d e) (h' pins s σ H o i v a b u Q I c d e)
theorem set_dict(b:X.A.units+1<LU):nX X (λo i v H Q=>∃a H',o=.ref a/\wa H a i v H'/\Q H'):=by
 rintro pins s σ H o i v f h u Q I c d rv ⟨a,H',rfl,g,q⟩;cases c;exact wb b I g d rv λs' e=>⟨H',e,q⟩
theorem y6{S:fR->Prop}{kvs:List (Key×V)}(a:kvs.map (·.1)=ks.map ko)(c:ak C S H us (kvs.map (·.2)))(d:Rep C S H u v):
  (putK kvs (ko y) v).map (·.1)=(dput ks us y u).1.map ko/\ak C S H (dput ks us y u).2 ((putK kvs (ko y) v).map (·.2)):=by
 have e:(kvs.any λkv=>dt (kv.1=(ko y:Key)))=dt (y∈ks):=by
  rw[g_];exact(da (x:=y) a c).2
 unfold putK dput;rw[e];by_cases b:y∈ks
 ·rw[Ő (by simpa using b),Ő b];constructor
  ·rw[i5];rw[<-a];apply td;intro p _;show(if p.1=ko y then(p.1,v) else p).1=p.1;split<;>rfl
  ·clear e b;induction kvs generalizing ks us with
   |nil =>
    have:ks=[]:=by simpa using a.symm
    subst this;simp[ak]
   |cons p kvs g =>
    cases ks with
    |nil=>simp at a
    |cons k ks =>
     cases us with
     |nil=>simp[ak]at c
     |cons j us =>
      rw[d6,d6,Ql]at a;obtain⟨l,m,f,h,i⟩:=c;rw[d6]at f;cases f;rw[d6,OU,d6,d6];refine⟨_,_,rfl,?_,g a.2 i⟩;by_cases hk:k=y
      ·rw[Ő (by exact hk),Ő (by rw[a.1,hk])];exact d
      ·rw[ő (by exact hk),ő (by rw[a.1];intro z;exact hk (Vd z))];exact h
 ·rw[ő (by simpa using b),ő b];exact⟨by rw[js,a,js];rfl,by rw[js];exact c.snoc d⟩
theorem Hd(hP:C.P=X.prog)(hw:C.w=X.w)(hK:C.K=X.K)(hu:X.A.units+60<LU)(hN:X.N[i]?=a5 x)(hv:K8 X.env.scope x)(hd:(x==("__debug__":Str))=cc)(JM:(x==("__classdict__":Str))=cc)
  (ha:PE X a (Je C ma)) (hb:PE X b (Je C mb)) (hs:Rk [.Subscript (.Name x B) b p] a pos.line X.env=pure cc) (Us:VA [.Subscript (.Name x B) b p] a X.env=pure b6)
  (O:∀v,SE (.Subscript (.Name x B) b p) X.env v=(do
   let G <-MP [v] (wk (.Name x B) X.env)
   let Q <-MP [v,G] (wk b X.env)
   Yp p
   MP [v,G,Q] (Ua G Q v)
   Ws [v,G,Q] [])) :
  L2.PS X (.Assign [.Subscript (.Name x B) b p] a pos) (JY C ns (ma >>= λr=>dn i >>= λ_=>mb >>= λx=>dm [r,x] >>= λus=>modS i (uE us) >>= λ_=>pure .nx)):=by
 refine PS.weak (rG ha (xN (cz hN hv hd JM) hb (nX.or set_list (set_dict (X:=X) ⋯)) O) hs Us rfl) ?_;rintro D σ H ⟨c0,rfl,rfl,ok,h⟩;refine aX ok h λr c v t w=>?_;rw[ah]at w;obtain⟨k0,u0,Mh,Kr,w⟩:=dc w;obtain⟨v0,e0,LX⟩:=t.ok.sl i k0 u0 Kr;refine⟨v0,by rw[<-t.hσ];exact e0,?_⟩;rw[ah]at w;refine⟨c,t.hσ,rfl,t.ok,w.mono λy st2 w2 f m I e4 Jr n2 r2=>?_⟩;subst e4;rw[ah]at w2;have Ut:=t.nx.trans n2;have T:cN C c0 f [r,y] [v,m]:=⟨v,[m],rfl,t.rx.w.on t.ok n2 (I.trans t.hσ.symm),⟨m,[],rfl,(r2.w).from t.nx,rfl,λ_ i r' Y e _=>by simp at e⟩,λhk i r' Y e5 e6 Jw=>by
  cases i with
  |zero=>simp at e5 e6;subst e5 e6;exact kY t.rx.w r2.w hk Jw
  |succ i=>simp at e5⟩
 obtain⟨S',st',us,sS,Jg,n1,g,w1⟩:=iq ok Jr Ut T w2;rw[ah]at w1;obtain⟨k,J,u2,hk,K3,d,q⟩:=fZ w1;rw[aq]at q;have hσ:f.σ[i]?=a5 (a5 v0):=by rw[I,<-t.hσ];exact e0
 obtain⟨Y,e1,e2⟩:=Jg.sl i k J K3;have J0:f.σ[i]?=a5 (a5 Y):=e1;rw[hσ]at J0;cases J0;obtain⟨a0,er,z1,z2,z3,l⟩:=e2.rt hk;subst er;have Yn:({f with S:=S',st:=st' }:Cf).σ[i]?=a5 (a5 (.ref a0)):=hσ;obtain⟨RC,ws,ew,VY,VX,ZX,ZY,VZ,Yo⟩:∃u ws,us=[u,ws]/\Rep C S' f.H u v/\∃(_:Unit) (_:Unit),True/\Rep C S' f.H ws m/\True:=by
  cases us with
  |nil=>simp[ak]at g
  |cons u us =>
   obtain⟨_,_,e,q1,q2⟩:=g;cases e;cases us with
   |nil=>simp[ak]at q2
   |cons u' us =>
    obtain⟨_,_,e,q3,q4⟩:=q2;cases e;cases us with
    |nil=>exact⟨u,u',rfl,q1,(),(),trivial,q3,trivial⟩
    |cons _ _=>obtain⟨_,_,e,_⟩:=q4;cases e
 subst ew;rw[show uE [RC,ws] J=dC ws RC J from rfl]at d;have n:∀{H':Hp} ,(∀a,a≠a0->H' a=f.H a)->(∃o,H' a0=a5 o)->(Mv S' f.H S' H'->cV C S' H' a0 u2)->D.nx c0.σ H':=λ{H'} JQ hr new=>by
  obtain⟨LL,n3⟩:=Ok.mod (c:={f with S:=S',st:=st' }) (H':=H') (u':=u2) Jg n1.toNs hk K3 Yn JQ hr new;have z:=q _ rfl LL n3 (Kept.of I);rw[<-I];exact z
 cases J with
 |lst xs =>
  cases ws with
  |int j =>
   simp only[dC,fx]at d;obtain⟨j',hj,rfl⟩:=d;obtain⟨vs,h1,s⟩:=l;have ey:m=.int j:=VZ;refine .inl ⟨a0,vs,j,j',rfl,ey,h1,by rw[<-s.len];exact hj,?_⟩;exact n (λa ne=>au ne) ⟨_,ay⟩ λL=>⟨vs.set j' v,ay,(s.mv L).set j' (VY.mv L)⟩
  |_=>simp[dC]at d
 |I_ ks vs =>
  cases ws with
  |str y' =>
   simp only[dC]at d;split at d
   ·rename_i hz;cases d;obtain⟨kvs,h1,s,h3⟩:=l;have ey:m=.str y':=VZ;subst ey;have hl:kvs.length=ks.length:=by have:=Ŕ LA s;simpa using this
    refine .inr ⟨a0,_,rfl,wa.k (k:=ko y') h1 (by rw[hl];exact hz),?_⟩;refine n (λa ne=>au ne) ⟨_,ay⟩ λL=>?_;obtain⟨g1,g2⟩:=y6 (y:=y') s h3 VY;exact⟨_,ay,g1,g2.mv L⟩
   ·cases d
  |_=>simp[dC]at d
 |_=>simp[dC]at d
theorem Ok.slot(d:Ok C c)(e:k≠.IY)(hs:c.st[i]?=a5 (a5 (k,u))):∃v,c.σ[i]?=a5 (a5 v)/\aL C c c (if k.root=b8 then .bor i else k) u v:=by
 obtain⟨f,b,a⟩:=d.sl i k u hs;refine⟨f,b,?_⟩;by_cases hk:k.root=b8
 ·rw[Ő hk];exact⟨⟨k,hk,hs⟩,b⟩
 ·rw[ő hk];cases k with
  |loc=>exact a
  |any=>exact a
  |bor j=>exact a.elim
  |IY=>exact(e rfl).elim
  |_=>exact absurd rfl hk
end
end TM
namespace TM
open PySem L2 PyProof.Rows PySem.W
section
theorem He(c:X.calm=b8)(d:Gl X x)(f:X.mg x=a5 (.ref b))(g:(x==("__debug__":Str))=cc)(i:excIn X.K b O_ "ValueError.__new__"=b8)(j:PE X a (Je C k))(l:i3 [a] X.env=[(cc,wk a X.env)])
  (m:∀H',C.xw (.str x) H'->∀pins σ s e s',Inv X pins σ H' s->bX X.prog X.w X.stack H' s e b b6 .none H' s'->X.xe (.ref e) s'):L2.PS X (.Raise (a5 (.Call (.Name x p) [a] [] q)) b6 pos) (JY C ns (k >>= λ_=>pure (.rt .io (.str x)))):=by
 refine PS.weak (yC c d f g i j l) ?_;rintro D σ H ⟨r,rfl,rfl,n,h⟩;refine aX n h λx o v t w=>?_;rw[aq]at w;exact λpins s e s' I F=>m _ (w o rfl t.ok t.nx (Kept.of t.hσ)) pins _ s e s' I F
theorem Ok.kill(b:Ok C c)(p:c.st[j]?=a5 b6):Ok C {c with σ:=c.σ.set j b6}/\Nx c {c with σ:=c.σ.set j b6}:=by
 have f:∀(i:Nat) (r:Kd×U),c.st[i]?=a5 (a5 r)->(c.σ.set j b6)[i]?=c.σ[i]?:=λi r e=>i1 λz=>by subst z;rw[p]at e;cases e
 have m:∀a,({c with σ:=c.σ.set j b6}:Cf).R1 a->c.R1 a:=λa ⟨i,k,u,hk,d,g⟩=>⟨i,k,u,hk,d,(f i _ d)▸g⟩
 have s:Ma C {c with σ:=c.σ.set j b6}:=b.dd.of rfl (λi u e=>⟨e,f i _ e⟩) (λa z=>.inl (m a z)) (.up λ_ z=>z) λi a z=>⟨(b.root (.inr ⟨i,z⟩)).1,λo q=>q⟩
 refine⟨⟨b.same,b.KR,b.par,b.io,by simp[b.len],λi k u e=>?_,λi n k k' u u' r hk t d g l w=>?_,s⟩,⟨λ_ _ h _=>h,λ_ o h=>⟨o,h⟩,λa z=>.inl ?_,λ_ h=>h,λ_ h=>.inl h⟩⟩
 ·obtain⟨v,q,z⟩:=b.sl i k u e;exact⟨v,(f i _ e).trans q,z⟩
 ·exact b.inj i n k k' u u' r hk t d g ((f i _ d)▸l) ((f n _ g)▸w)
 ·exact z.imp (m a) λ⟨i,u,r,d,g,l⟩=>⟨i,u,r,d,(f i _ d)▸g,l⟩
theorem y7(h:∀m,ns m=b8->m≠i/\m≠j)(u:Ok C b)(x:Ok C c)(n:Nx b c)(d:c.σ=b.σ)(hi:i<c.σ.length)(hs:pU c.H H')(l:H' p=b6)(v:V)
  (w:W (lX i j k b6) c.st (fk C b ns D)):D.nx (((b.σ.set j (a5 v)).set i (a5 (.ref p))).set j b6) (upd H' p (.tup [.str k,.bl b8])):=by
 obtain⟨r,st',e,q⟩:=w;unfold lX at e
 dsimp only at e
 split at e
 ·rename_i y;split at e
  case isFalse=>cases e
  rename_i A;have s:c.st[j]?=a5 b6/\i≠j:=⟨y,A⟩
  have B:c.H p=b6:=by
   cases z:c.H p with
   |none=>rfl
   |some o=>rw[hs p o z]at l;cases l
  obtain⟨G,I⟩:=x.kill s.1;obtain⟨J,L⟩:=G.grow (H':=upd H' p (.tup [.str k,.bl b8])) (S':=c.S) (λa o z=>by
   rw[au (bz z B)];exact hs a o z) (λa z=>.inl z) λa z=>z
  obtain⟨f,g,N,O,Q,T⟩:=oP (r:=(.loc,.tup [.str k,.bl b8])) (v:=.ref p) (i:=i) u J ((n.trans I).trans L) (by simpa using hi)
   (show Rep C c.S _ _ _ from⟨p,[.str k,.bl b8],rfl,.inl (.inl ay),_,_,rfl,rfl,_,_,rfl,rfl,rfl⟩) (Post:=λ_ Y=>fk C b ns D .nx Y) (by
    have z:W (d_ i (.loc,.tup [.str k,.bl b8]) >>= λ_=>(pure .nx:M Fl)) c.st (fk C b ns D):=⟨r,st',e,q⟩
    rw[ah]at z;exact z.mono λ_ st z=>aq.mp z)
  have es:(((b.σ.set j (a5 v)).set i (a5 (.ref p))).set j b6)=(b.σ.set j b6).set i (a5 (.ref p)):=by
   rw[List.set_comm _ _ s.2,List.set_set]
  have z:D.nx f.σ f.H:=T f rfl O Q ⟨λm t=>by
   rw[g];show((c.σ.set j b6).set i _)[m]?=_;rw[i1 (ro (h m t).1),i1 (ro (h m t).2),d],by rw[g];simp[d]⟩
  rw[g,N]at z;rw[es];rw[<-d];exact z
 ·cases e
theorem Hf
  (J8:∀m,ns m=b8->m≠i/\m≠j) (hN:X.N.Nodup) (hi:X.N[i]?=a5 y) (hy:Loc X.env.scope y) (V0:X.fn y=b8) (hj:X.N[j]?=a5 n) (hn:X.env.scope.names.lookup n=a5 .local)
  (hP:C.P=X.prog) (hw:C.w=X.w) (hK:C.K=X.K) (hF:Γ f=F) (hk:∀us k u,F us=a5 (.ok (k,u))->(k=.own\/k=.loc\/k=.any)/\us.length=np) (Jw:∀us c,F us=a5 (.exc c)->us.length=np)
  (G:iN X.prog X.w X.K X.mg X.base (Ot X.prog X.w) kd fa fd ps (spT X.prog X.w X.K F np)) (hr:ft kd X.A) (hg:Gl X f) (hm:X.mg f=a5 (.ref fa)) (Oq:PySem.W.keepIn X.K (.ref fa)=b8) (hb:Binds X.K fd ps []) (L_:(f==("__debug__":Str))=cc)
  (ha:PA X.M1 (e::es) (Ks C ms)) (he:i3 (e::es) X.env=(cc,wk e X.env)::i3 es X.env) (JE:(JL p3 (i3 es X.env)).any (·.1)=cc)
  (Jh:X.stack=X.env::X.outer/\X.env.frame=a5 X.env.locals) (Yq:Gl X x) (Yr:X.mg x=a5 (.ref g)) (Ys:nsIn X.K qP x=a5 (a5 (.ref g))) (Yt:(x==("__debug__":Str))=cc) (ac:exmOne X.K (.ref g) (.ref g)=a5 b8)
  (Yu:Gl X D) (Yv:X.mg D=a5 (.ref Cd)) (Yw:(D==("__debug__":Str))=cc) (Yx:(kitCls X.K (.ref g) (.ref Cd)==a5 b8&&g != Cd)=b8) (Yy:Gl X "isinstance") (Yz:X.mg "isinstance"=b6)
  (Jj:(n==("__debug__":Str))=cc) (YA:(n==("__classdict__":Str))=cc) :
  L2.PS X (.Try [.Assign [.Name y p1] (.Call (.Name f p2) (e::es) [] p3) p4] [.ExceptHandler (a5 (.Name x p5)) (a5 n) [.Assign [.Name y p6] (.Tuple [.Constant (.str k) q p7,.Call (.Name "isinstance" p8) [.Name n p9,.Name D Qz] [] Pl] kx RF) V1] YB] [] [] pos)
   (JY C ns (ms >>= λrs=>aC rs >>= λ_=>gB Γ f (rs.map (·.2)) x >>= lX i j k)):=by
 rintro pins s σ H D' I ⟨l,rfl,rfl,ok,h⟩;have J4:i<l.σ.length:=by rw[I.len];exact(dV.mp hi).1
 let EE:d3->fS->Prop:=λv s'=>∃(c:Cf) (s1:fS) (a T:fR) (H':Hp),v=.ref a/\c.σ=l.σ/\Ok C c/\Nx l c/\Inv X pins l.σ c.H s1/\bX X.prog X.w X.stack c.H s1 a g (a5 T) .none H' s'/\pU c.H H'/\W (lX i j k b6) c.st (fk C l ns D');refine wpAny_Try_except (qb (Q:=λf s1=>f=ň/\SP X pins D' .next s1) (E:=EE) ?_ (λf s1 z=>?_) λv s1 z=>?_)
 ·refine ģ (Ē (sL (eR I hg hm ?_ L_)) rfl);refine PySem.W.callWith_K (h₀:=X.base) I.ok.mod.OS Oq (qb (args (X:=X.M1) ha (I.j8 _) ok h p3) (λus s1 z=>?_) λ_ _ z=>z.elim) he JE;obtain⟨rs,c,vs,t,d,rv,w⟩:=z;have d:=d.gG;refine⟨d.Ms,?_⟩;have ab:C.Eqv (Nn X.prog X.w X.K c.H (KS c.H)):=⟨hP,hw,hK⟩
  have LM:(Nn X.prog X.w X.K c.H (KS c.H)).Eqv C:=⟨hP.symm,hw.symm,hK.symm⟩
  have rd:=t.read;have O:∀(k1:Kd) (u:U),F (rs.map (·.2))=a5 (.ok (k1,u))->k1=.own\/k1=.loc->W (lX i j k (a5 (k1,u))) c.st (fk C l ns D') ->
    d4 (gs X.prog X.w) X.A (Nd (.ref fa) us) (λv s2=>d4 (gs X.prog X.w) X.A (ĥ X.env y v) (λ_ s3=>d4 (gs X.prog X.w) X.A (PySem.execs [] X.env) (λf s4=>f=ň/\SP X pins D' .next s4) EE s3) EE s2) EE s1:=λk1 u J Qg q=>by
   obtain⟨k0,k2⟩:=hk _ _ _ J;have KH:spT X.prog X.w X.K F np vs c.H (λv H'=>D'.nx (l.σ.set i (a5 v)) H') E0:=⟨by rw[<-rd.len];exact k2,rs.map (·.2),.ok (k1,u),KS c.H,J,λ_ z=>z,rd.cg ab,k0,λv H' S' hb=>hb.here (Q:=λv H'=>D'.nx (l.σ.set i (a5 v)) H') Qg t.hσ t.ok t.nx LM λc2 v2 e3 e4 Jr n2 r2=>k8 (λm z=>(J8 m z).1) ok ⟨e3,Jr,n2,r2⟩ (by rw[e3];exact J4) (e4▸q)⟩
   refine qb (uD (EE:=EE) G hr hb d rv KH λ_ _ ⟨_,_,_,_,_,_,z⟩=>z.elim) (λv s2 ⟨v',H2,I2,r2,q2⟩=>?_) λ_ _ z=>z;rw[t.hσ]at I2;exact gW I2 hN hi hy r2 (λs3 I3=>R5 ⟨rfl,_,H2,I3,q2⟩) (.inl V0)
  rw[ah]at w;obtain⟨r,st',B,q⟩:=w;unfold gB at B;rw[hF]at B;split at B
  ·rename_i u J;cases B;exact O _ u J (.inl rfl) q
  ·rename_i u J;cases B;exact O _ u J (.inr rfl) q
  ·rename_i c' J;split at B
   case isFalse=>cases B
   rename_i YC;subst YC;cases B;have KH:spT X.prog X.w X.K F np vs c.H (λ_ _=>False) (λv _ H'=>v=.ref g/\pU c.H H'):=⟨by rw[<-rd.len];exact Jw _ _ J,rs.map (·.2),.exc _,KS c.H,J,λ_ z=>z,rd.cg ab,λC1 H1 L Y=>by rw[Ys]at L;cases L;exact⟨rfl,Y⟩⟩
   refine qb (uD (EE:=EE) G hr hb d rv KH λv s' ⟨a,C1,T,H',e3,F',e4,e5⟩=>?_) (λv s2 ⟨_,_,_,_,z⟩=>z.elim) λ_ _ z=>z;cases e4;exact⟨c,s1,a,T,H',e3,t.hσ,t.ok,t.nx,by rw[<-t.hσ];exact d,F',e5,q⟩
  ·cases B
 ·obtain⟨rfl,z⟩:=z;exact R5 z
 ·obtain⟨c,s0,a,T,H',rfl,hσ,Ju,n0,d,F1,hs,w⟩:=z;have L9:s0.heap.FunFrames X.base (X.env::X.outer):=by rw[<-Jh.1];exact d.stack
  have LR:∀b∈JO (X.env::X.outer),c.H b=b6:=by rw[<-Jh.1];exact d.jQ
  have hA:X.A.frames=a5 (X.env::X.outer):=by rw[<-Jh.1];exact d.ok.frames
  rw[Jh.1]at F1;refine F1.note hA Jh.2 L9 LR λT2 s2 F2=>F2.land L9 LR λT3 s3 F3=>?_;have ag:∀{T:Option fR} {fl:d3} {s':fS},bX X.prog X.w (X.env::X.outer) c.H s0 a g T fl H' s'->Inv X pins l.σ H' s':=λ{T fl s'} F=>d.Dc (ch:=[]) F.os (by rw[Jh.1];exact F.un) F.Ja F.bare λb z=>nomatch z
  have Qf:a≠X.env.locals/\a∉X.fs:=by
   obtain⟨m,⟨o,_,_,ho,_⟩,_⟩:=d.loc;refine⟨λz=>?_,λz=>?_⟩
   ·rw[<-z,F1.new]at ho;cases ho
   ·obtain⟨_,o,q,_⟩:=L9.mem (OY.mpr (by
     obtain⟨env,L,Y⟩:=OY.mp z;exact⟨env,l' _ L,Y⟩))
    rw[F1.new]at q;cases q
  have Ml:∀{T:Option fR} {fl:d3} {s':fS} (E:d3->fS->Prop),bX X.prog X.w (X.env::X.outer) c.H s0 a g T fl H' s'->∃oe,s'.heap.get? a=a5 oe/\oe.cls=.ref g/\Inv (X.Ml a oe E) pins l.σ H' s':=λ{T fl s'} E F=>by
   obtain⟨a0,oe,vs,L,Y,h3,_⟩:=F.exc;exact⟨oe,L,Y,(ag F).Ml L F.he Qf.1 Qf.2 λv z=>by rw[h3]at z;cases z⟩
  refine wpAny_handleBy_cons (codeAny_handlers_test ?_) λz=>nomatch z
  obtain⟨ZZ,g1,g2,I3⟩:=Ml (Ue (gs X.prog X.w) (X.A.mark (a5 (.ref a))) X.env λx s'=>cameBackBy (gs X.prog X.w) X.A X.env X.xe x s') F3;refine eR I3 Yq Yr ?_ Yt;have LT:Looks (gs X.prog X.w) s3.heap (Y8 (.ref a)) (.ref g):=by
   refine(ņ g1).andThen ?_;rw[g2];exact .now
  refine(exm_one I3.Ms LT ac).here (codeAny_handlers_suite_as ?_);refine F3.land L9 LR λT4 s4 F4=>?_;obtain⟨QA,g3,g4,I4⟩:=Ml (λ_ _=>False) F4;refine gW (X:=X.Ml a QA λ_ _=>False) I4 hN hj (.inl hn) (v:=.ref a) rfl (λs5 I5=>?_) (.inr hn);have pi:PE (X.Ml a QA λ_ _=>False) (.Call (.Name "isinstance" p8) [.Name n p9,.Name D Qz] [] Pl) (λσ H Q=>σ[j]?=a5 (a5 (.ref a))/\Q (.bl b8) H):=by
   rintro pins s σ H Q I ⟨L,Y⟩;refine sL (c9 I Yy Yz (show u7 "isinstance"=a5 (.builtin "isinstance") by decide +kernel) ?_ (by decide +kernel) (by decide +kernel));refine OQ (Jf (cS (X:=X.Ml a QA λ_ _=>False) (cz hj (.inl hn) Jj YA) (cS (te:=λσ H Q=>Q (.ref Cd) H) (λpins s σ H Q I h=>eR I Yu Yv ⟨.ref Cd,H,I,rfl,h⟩ Yw) fC) rfl Pl pins s σ H (λvs H'=>vs=[.ref a,.ref Cd]/\Q (.bl b8) H') I ⟨_,L,rfl,Y⟩) λus s1 ⟨vs,H1,d,r1,B,q1⟩=>?_) rfl rfl;subst B;obtain⟨u1,u2,rfl,Ub,Uc⟩:=vals2 r1;cases Ub;cases Uc;exact ED d.Ms (d.pin (a,QA) nc).1 g4 Yx ⟨.bl b8,H1,d,rfl,q1⟩
  have pt:=rH (X:=X.Ml a QA λ_ _=>False) (pos:=V1) (pos':=p6) hN hi hy (D_ (x1:=kx) (pos:=RF) (cS (nW (x:=k) (j:=q) (pos:=p7)) (cS pi fC rfl) rfl)) rfl (.inl V0);refine qb ((pP pt t7) pins s5 _ H' {nx:=λσ H=>∃p,H' p=b6/\σ=(l.σ.set j (a5 (.ref a))).set i (a5 (.ref p))/\H=upd H' p (.tup [.str k,.bl b8]),rt:=λ_ _=>False} I5 ?_) (λfl s6 z=>?_) λ_ _ z=>z.elim
  ·refine⟨gj (by rw[I.len];exact(dV.mp hj).1),(by decide:2<=cL),λp hp=>⟨p,hp,rfl,rfl⟩⟩
  ·cases fl with
   |next =>
    obtain⟨_,_,I6,p,hp,rfl,rfl⟩:=z;exact Inv.gone (I6.II I.ok) hN hj hn λs7 I7=>⟨_,_,I7,y7 J8 ok Ju n0 hσ (by rw[hσ];exact J4) hs hp _ w⟩
   |ret v=>obtain⟨_,_,_,_,_,z⟩:=z;exact z.elim
   |_=>obtain⟨_,_,_,z⟩:=z;exact z.elim
end
end TM
namespace TM
open PySem L2 PyProof.Rows
section
theorem Ok.Hg(d:Ok C c)(n:Ns O c)(hi:c.st[i]?=a5 (a5 (.IY,u)))(B:c.σ[i]?=a5 (a5 (.ref r)))(JQ:∀a,¬c.RD i a->H' a=c.H a)(Q:∀a o,c.H a=a5 o->∃o',H' a=a5 o')
  (new:Mv c.S c.H c.S H'->cy C c.S H' r as' u') (T:∀a∈as',a∈c.kid i\/(¬c.R a/\O.H a=b6)) :
  Ok C {c with H:=H',st:=c.st.set i (a5 (.IY,u')),kid:=λj=>if j=i then as' else c.kid j}/\Ns O {c with H:=H',st:=c.st.set i (a5 (.IY,u')),kid:=λj=>if j=i then as' else c.kid j}:=by
 have Y:i<c.st.length:=(dV.mp hi).1;have rt:∀{a},c.RD i a->¬c.S a/\¬C.LF a/\(C.H₀ a=b6\/C.IO a)/\∃o,c.H a=a5 o/\¬Tp o:=λz=>d.root (.inr ⟨i,z⟩);have h0:∀{a},c.RD i a->C.H₀ a=b6:=λ⟨u1,r1,g,b,e3⟩=>(cy.fr (d.dd.kd i u1 r1 g b) _ (et.mpr e3)).2.2;have q:∀{a:fR} {o:HO},¬c.RD i a->c.H a=a5 o->H' a=a5 o:=λz e=>by rw[JQ _ z];exact e
 have N:Mv c.S c.H c.S H':=⟨λ_ z=>z,λa o e t=>q (λz=>by
  obtain⟨_,_,_,o',l,nt⟩:=rt z;rw[e]at l;cases l;exact nt t) e,λa o z e=>q (λm=>(rt m).1 z) e⟩
 have Nf:Mv (PS C c.S) c.H (PS C c.S) H':=⟨λ_ z=>z,N.Qo,λa o z e=>q (λm=>z.elim (rt m).2.1 (rt m).1) e⟩
 have D:∀(j:Nat) k w,(c.st.set i (a5 (.IY,u')))[j]?=a5 (a5 (k,w))->j≠i->c.st[j]?=a5 (a5 (k,w)):=λj k w e ne=>by rw[i1 (ro ne)]at e;exact e
 have OF:∀(j:Nat) k w,k.root=b8->(c.st.set i (a5 (.IY,u')))[j]?=a5 (a5 (k,w))->c.st[j]?=a5 (a5 (k,w)):=λj k w hk e=>by
  by_cases f:j=i
  ·subst f;rw[gj Y]at e;cases e;cases hk
  ·exact D j k w e f
 have b1:∀a,({c with H:=H',st:=c.st.set i (a5 (.IY,u')),kid:=λj=>if j=i then as' else c.kid j}:Cf).R1 a->c.R1 a:=λa ⟨j,k,w,hk,g,b⟩=>⟨j,k,w,hk,OF j k w hk g,b⟩
 have G:∀j a,({c with H:=H',st:=c.st.set i (a5 (.IY,u')),kid:=λj=>if j=i then as' else c.kid j}:Cf).RD j a->c.RD j a\/(j=i/\¬c.R a/\O.H a=b6):=λj a JG=>by
  obtain⟨w,h,g,b,e3⟩:=JG;by_cases f:j=i
  ·subst f;have I:c.σ[j]?=a5 (a5 (.ref h)):=b;rw[B]at I;cases I;rcases e3 with rfl|e3
   ·exact .inl ⟨u,_,hi,B,.inl rfl⟩
   ·have LV:a∈as':=by simpa using e3
    rcases T a LV with z|z
    ·exact .inl ⟨u,_,hi,B,.inr z⟩
    ·exact .inr ⟨rfl,z⟩
  ·have LV:a=h\/a∈c.kid j:=by simpa[f] using e3
   exact .inl ⟨w,h,D j _ w g f,b,LV⟩
 refine⟨⟨λa o e z=>q (λm=>by rw[h0 m]at e;cases e) (d.same a o e z),λa z=>?_,d.par,λa z=>?_,by simp[d.len],λj k w e=>?_,λx s k1 k2 w1 w2 h h1 h2 g b e3 e4=>d.inj x s k1 k2 w1 w2 h h1 h2 (OF x k1 w1 h1 g) (OF s k2 w2 h2 b) e3 e4,⟨λj w h g b=>?_,λx s a J L=>?_,λj a J L=>?_⟩⟩,⟨λa o e z=>?_,λa o e=>?_,λa z=>?_,n.sub,n.new⟩⟩
 ·obtain⟨q1,o,q2⟩:=d.KR a z;exact⟨q1,Q a o q2⟩
 ·obtain⟨q1,o,q2⟩:=d.io a z;exact⟨q1,Q a o q2⟩
 ·by_cases f:j=i
  ·subst f;rw[gj Y]at e;cases e;exact⟨.ref r,B,r,rfl⟩
  ·obtain⟨v,g,b⟩:=d.sl j k w (D j k w e f);refine⟨v,g,b.mv N Nf λhk h er=>?_⟩;obtain⟨Qr,KC,J,_⟩:=b.rt hk;rw[er]at KC;cases KC;exact⟨J,λo l=>q (λz=>d.dd.d1 i h z ⟨j,k,w,hk,D j k w e f,by rw[g,er]⟩) l⟩
 ·by_cases f:j=i
  ·subst f;rw[gj Y]at g;cases g;have I:c.σ[j]?=a5 (a5 (.ref h)):=b;rw[B]at I;cases I;have z:=new N;simpa using z
  ·have J0:=D j _ w g f;have Jw:(if j=i then as' else c.kid j)=c.kid j:=ő f;show cy C c.S H' h (if j=i then as' else c.kid j) w;rw[Jw];exact cy.mv N (λa ha=>⟨(d.root (.inr ⟨j,w,h,J0,b,et.mp ha⟩)).1,λo l=>q (λz=>f (d.dd.dj j i a ⟨w,h,J0,b,et.mp ha⟩ z)) l⟩) (d.dd.kd j w h J0 b)
 ·rcases G x a J with p|⟨rfl,p,_⟩
  ·rcases G s a L with A|⟨rfl,A,_⟩
   ·exact d.dd.dj x s a p A
   ·exact(A (.inr ⟨x,p⟩)).elim
  ·rcases G s a L with A|⟨rfl,A,_⟩
   ·exact(p (.inr ⟨s,A⟩)).elim
   ·rfl
 ·rcases G j a J with p|⟨rfl,p,_⟩
  ·exact d.dd.d1 j a p (b1 a L)
  ·exact p (.inl (b1 a L))
 ·exact q (λm=>by
   rcases n.roots a (.inr ⟨i,m⟩) with y|y
   ·exact z y
   ·rw[e]at y;cases y) (n.keep a o e z)
 ·obtain⟨o',l⟩:=n.there a o e;exact Q a o' l
 ·rcases z with z|⟨j,z⟩
  ·exact n.roots a (.inl (b1 a z))
  ·rcases G j a z with y|⟨_,_,y⟩
   ·exact n.roots a (.inr ⟨j,y⟩)
   ·exact .inr y
theorem Ok.newD(l:Ok C c)(A:c.H p=b6)(hi:i<c.σ.length):
  Ok C {c with H:=upd c.H p (.dK []),σ:=c.σ.set i (a5 (.ref p)),st:=c.st.set i (a5 (.IY,.I_ [] [])),kid:=λj=>if j=i then [] else c.kid j}/\Ns c {c with H:=upd c.H p (.dK []),σ:=c.σ.set i (a5 (.ref p)),st:=c.st.set i (a5 (.IY,.I_ [] [])),kid:=λj=>if j=i then [] else c.kid j}:=by
 obtain⟨n,Q⟩:=l.lay (o:=.dK []) A;obtain⟨q1,q2,q3,q4,B⟩:=l.jL A;have D:i<c.st.length:=by rw[l.len];exact hi
 have u:∀(j:Nat) k w,(c.st.set i (a5 (.IY,.I_ [] [])))[j]?=a5 (a5 (k,w))->j≠i->c.st[j]?=a5 (a5 (k,w)):=λj k w e G=>by rw[i1 (ro G)]at e;exact e
 have q:∀(j:Nat),j≠i->(c.σ.set i (a5 (.ref p)))[j]?=c.σ[j]?:=λj G=>i1 (ro G);have I:∀(j:Nat) k w,k.root=b8->(c.st.set i (a5 (.IY,.I_ [] [])))[j]?=a5 (a5 (k,w))->j≠i/\c.st[j]?=a5 (a5 (k,w)):=λj k w hk e=>by
  by_cases b:j=i
  ·subst b;rw[gj D]at e;cases e;cases hk
  ·exact⟨b,u j k w e b⟩
 have b1:∀a,({c with H:=upd c.H p (.dK []),σ:=c.σ.set i (a5 (.ref p)),st:=c.st.set i (a5 (.IY,.I_ [] [])),kid:=λj=>if j=i then [] else c.kid j}:Cf).R1 a->c.R1 a:=λa J=>by
  obtain⟨j,k,w,hk,d,f⟩:=J;obtain⟨b,L⟩:=I j k w hk d;exact⟨j,k,w,hk,L,by rw[<-q j b];exact f⟩
 have r:∀j a,({c with H:=upd c.H p (.dK []),σ:=c.σ.set i (a5 (.ref p)),st:=c.st.set i (a5 (.IY,.I_ [] [])),kid:=λj=>if j=i then [] else c.kid j}:Cf).RD j a->(j≠i/\c.RD j a)\/(j=i/\a=p):=λj a J=>by
  obtain⟨w,g,d,f,e3⟩:=J;by_cases b:j=i
  ·subst b;have s:(c.σ.set j (a5 (.ref p)))[j]?=a5 (a5 (.ref g)):=f;rw[gj hi]at s;cases s;rcases e3 with rfl|e3
   ·exact .inr ⟨rfl,rfl⟩
   ·simp at e3
  ·have LV:a=g\/a∈c.kid j:=by simpa[b] using e3
   exact .inl ⟨b,w,g,u j _ w d b,by rw[<-q j b];exact f,LV⟩
 refine⟨⟨n.same,n.KR,n.par,n.io,by simp[l.len],λj k w e=>?_,λm h k1 k2 T Y g h1 h2 d f e3 e4=>?_,⟨λj w g d f=>?_,λm h a N t=>?_,λj a N t=>?_⟩⟩,⟨Q.keep,Q.there,λa z=>?_,λ_ z=>z,λ_ z=>.inl z⟩⟩
 ·by_cases b:j=i
  ·subst b;rw[gj D]at e;cases e;exact⟨.ref p,gj hi,p,rfl⟩
  ·obtain⟨v,d,f⟩:=n.sl j k w (u j k w e b);exact⟨v,(q j b).trans d,f⟩
 ·obtain⟨NU,a1⟩:=I m k1 T h1 d;obtain⟨Np,a2⟩:=I h k2 Y h2 f;exact l.inj m h k1 k2 T Y g h1 h2 a1 a2 ((q m NU).symm.trans e3) ((q h Np).symm.trans e4)
 ·by_cases b:j=i
  ·subst b;rw[gj D]at d;cases d;have s:(c.σ.set j (a5 (.ref p)))[j]?=a5 (a5 (.ref g)):=f;rw[gj hi]at s;cases s;show cy C c.S (upd c.H p (.dK [])) p (if j=j then [] else c.kid j) (.I_ [] []);rw[Ő rfl];exact⟨[],ay,rfl,rfl,by simp,λa ha=>by rw[i7.mp ha];exact⟨q2,q3,q1⟩,rfl⟩
  ·have L:=u j _ w d b;have z:=n.dd.kd j w g L ((q j b).symm.trans f);show cy C c.S (upd c.H p (.dK [])) g (if j=i then [] else c.kid j) w;rw[ő b];exact z
 ·rcases r m a N with⟨_,x⟩|⟨rfl,rfl⟩
  ·rcases r h a t with⟨_,O⟩|⟨rfl,rfl⟩
   ·exact l.dd.dj m h a x O
   ·exact(B (.inr ⟨m,x⟩)).elim
  ·rcases r h a t with⟨_,O⟩|⟨rfl,_⟩
   ·exact(B (.inr ⟨h,O⟩)).elim
   ·rfl
 ·rcases r j a N with⟨_,x⟩|⟨rfl,rfl⟩
  ·exact l.dd.d1 j a x (b1 a t)
  ·exact B (.inl (b1 a t))
 ·rcases z with z|⟨j,z⟩
  ·exact .inl (.inl (b1 a z))
  ·rcases r j a z with⟨_,y⟩|⟨_,rfl⟩
   ·exact .inl (.inr ⟨j,y⟩)
   ·exact .inr A
end
section
theorem du.rep{S S':fR->Prop}(hs:∀a,S a->S' a):∀{us:List U}{as:List fR},(∀a∈as,S' a)->du C S H us as->ak C S' H us (as.map V.ref)
 |[],as,_,h=>by cases h;exact rfl
 |u::us,as,c,h=>by
  obtain⟨a,as',i,vs,rfl,rfl,d,e,f⟩:=h;exact⟨.ref a,as'.map V.ref,rfl,⟨a,vs,rfl,.inl ⟨c a (by simp),.inl d⟩,e.mv (.up hs)⟩,du.rep hs (λb g=>c b (by simp[g])) f⟩
theorem Ok.IS(b:Ok C c)(n:Nx c0 c)(hi:c.st[i]?=a5 (a5 (.IY,u)))(s:c.σ[i]?=a5 (a5 (.ref r))):
  Ok C {c with S:=λa=>c.S a\/a∈c.kid i,st:=c.st.set i (a5 (.own,u))}/\Nx c0 {c with S:=λa=>c.S a\/a∈c.kid i,st:=c.st.set i (a5 (.own,u))}:=by
 have Q:i<c.st.length:=(dV.mp hi).1;have B:=b.dd.kd i u r hi s;have fr:=cy.fr B;have mem:∀a,(a=r\/a∈c.kid i)->c.RD i a:=λa z=>⟨u,r,hi,s,z⟩
 have up:Mv c.S c.H (λa=>c.S a\/a∈c.kid i) c.H:=.up λa=>.inl;have YD:Mv (PS C c.S) c.H (PS C λa=>c.S a\/a∈c.kid i) c.H:=.up λa z=>z.imp id .inl;have RG:r∉c.kid i/\cV C (λa=>c.S a\/a∈c.kid i) c.H r u:=by
  cases u<;>first|exact B.elim|skip
  obtain⟨kvs,D,G,h3,h4,h5,h6⟩:=B;refine⟨(my.mp h4).1,kvs,D,G,?_⟩;rw[h3];exact h6.rep (λa=>.inl) λa I=>.inr I
 have p:∀(j:Nat) k w,(c.st.set i (a5 (.own,u)))[j]?=a5 (a5 (k,w))->j≠i->c.st[j]?=a5 (a5 (k,w)):=λj k w e ne=>by rw[i1 (ro ne)]at e;exact e
 have b1:∀a,({c with S:=λa=>c.S a\/a∈c.kid i,st:=c.st.set i (a5 (.own,u))}:Cf).R1 a->c.R1 a\/a=r:=λa T=>by
  obtain⟨j,k,w,hk,f,g⟩:=T;by_cases d:j=i
  ·subst d;have KI:c.σ[j]?=a5 (a5 (.ref a)):=g;rw[s]at KI;cases KI;exact .inr rfl
  ·exact .inl ⟨j,k,w,hk,p j k w f d,g⟩
 have J:∀j a,({c with S:=λa=>c.S a\/a∈c.kid i,st:=c.st.set i (a5 (.own,u))}:Cf).RD j a->j≠i/\c.RD j a:=λj a T=>by
  obtain⟨w,h,f,g,t⟩:=T;by_cases d:j=i
  ·subst d;rw[gj Q]at f;cases f
  ·exact⟨d,w,h,p j _ w f d,g,t⟩
 refine⟨⟨b.same,λa z=>?_,b.par,b.io,by simp[b.len],λj k w e=>?_,λm l k1 k2 L N h D G f g t Y=>?_,⟨λj w h f g=>?_,λm l a x z2=>b.dd.dj m l a (J m a x).2 (J l a z2).2,λj a x z2=>?_⟩⟩,⟨⟨n.keep,n.there,λa z=>?_,λa z=>.inl (n.sub a z),λa z=>?_⟩⟩⟩
 ·rcases z with z|z
  ·exact b.KR a z
  ·obtain⟨o,ho,_⟩:=cy.there B a (l' _ z);exact⟨(fr a (l' _ z)).2.2,o,ho⟩
 ·by_cases d:j=i
  ·subst d;rw[gj Q]at e;cases e;obtain⟨q1,q2,q3⟩:=fr r (nc ..);exact⟨.ref r,s,r,rfl,λz=>z.elim q1 RG.1,q2,q3,RG.2⟩
  ·obtain⟨v,f,g⟩:=b.sl j k w (p j k w e d);refine⟨v,f,g.mv up YD λhk h er=>?_⟩;obtain⟨Qr,KC,x,_⟩:=g.rt hk;rw[er]at KC;cases KC;exact⟨λz=>z.elim x λz=>b.dd.d1 i h (mem h (.inr z)) ⟨j,k,w,hk,p j k w e d,by rw[f,er]⟩,λo q=>q⟩
 ·by_cases O:m=i
  ·by_cases A:l=i
   ·rw[O,A]
   ·subst O;have LV:c.σ[m]?=a5 (a5 (.ref h)):=t;rw[s]at LV;cases LV;exact(b.dd.d1 m r (mem r (.inl rfl)) ⟨l,k2,N,G,p l k2 N g A,Y⟩).elim
  ·by_cases A:l=i
   ·subst A;have V2:c.σ[l]?=a5 (a5 (.ref h)):=Y;rw[s]at V2;cases V2;exact(b.dd.d1 l r (mem r (.inl rfl)) ⟨m,k1,L,D,p m k1 L f O,t⟩).elim
   ·exact b.inj m l k1 k2 L N h D G (p m k1 L f O) (p l k2 N g A) t Y
 ·by_cases d:j=i
  ·subst d;rw[gj Q]at f;cases f
  ·have J0:=p j _ w f d;exact cy.mv up (λa I=>⟨λz=>z.elim (b.root (.inr ⟨j,w,h,J0,g,et.mp I⟩)).1 λz=>d (b.dd.dj j i a ⟨w,h,J0,g,et.mp I⟩ (mem a (.inr z))),λo q=>q⟩) (b.dd.kd j w h J0 g)
 ·obtain⟨d,y⟩:=J j a x;rcases b1 a z2 with z|z
  ·exact b.dd.d1 j a y z
  ·subst z;exact d (b.dd.dj j i a y (mem a (.inl rfl)))
 ·rcases z with z|⟨j,z⟩
  ·rcases b1 a z with z|rfl
   ·exact n.roots a (.inl z)
   ·exact n.roots a (.inr ⟨i,mem a (.inl rfl)⟩)
  ·exact n.roots a (.inr ⟨j,(J j a z).2⟩)
 ·rcases z with z|z
  ·exact n.new a z
  ·rcases n.roots a (.inr ⟨i,mem a (.inr z)⟩) with y|y
   ·exact .inr (.inl y)
   ·exact .inr (.inr y)
theorem B8(f:X.N[i]?=a5 x)(g:K8 X.env.scope x)(j:(x==("__debug__":Str))=cc)(k:(x==("__classdict__":Str))=cc):PE X (.Name x pos) (Je C (yJ i)):=by
 have m:=oM (C:=C) (pos:=pos) f g j k;rintro pins s σ H Q I ⟨b,rfl,rfl,c,r,st',e,h⟩;unfold yJ at e;split at e
 ·rename_i u hs;cases e;obtain⟨v,d,l,rfl⟩:=c.sl i _ _ hs;obtain⟨n,o⟩:=c.IS (Nx.refl b) hs d;have p:i<b.st.length:=(dV.mp hs).1;exact cz f g j k pins s b.σ b.H Q I ⟨.ref l,d,h {b with S:=λa=>b.S a\/a∈b.kid i,st:=b.st.set i (a5 (.own,u))} (.ref l) rfl rfl n o ⟨⟨.own,rfl,gj p⟩,d⟩⟩
 ·exact m pins s b.σ b.H Q I ⟨b,rfl,rfl,c,r,st',e,h⟩
end
section
theorem f9{st:az}(h:W (ij i) st Q):∃ks us,st[i]?=a5 (a5 (.IY,.I_ ks us))/\Q (ks,us) st:=by
 obtain⟨r,st',e,q⟩:=h;unfold ij at e;split at e
 ·rename_i ks us hs;cases e;exact⟨ks,us,hs,q⟩
 ·cases e
theorem f_{st:az}(h:W (jM x) st Q):∃y,x.2=.str y/\Q y st:=by
 unfold jM at h;split at h
 ·rename_i y e;rw[aq]at h;exact⟨y,e,h⟩
 ·exact(bo.mp h).elim
theorem Ok.I_(d:Ok C c)(hi:c.st[i]?=a5 (a5 (.IY,.I_ ks us))):∃(r:fR) (kvs:List (Key×V)),c.σ[i]?=a5 (a5 (.ref r))/\c.H r=a5 (.dK kvs)/\kvs.map (·.1)=ks.map ko/\kvs.map (·.2)=(c.kid i).map V.ref /\
  (r::c.kid i).Nodup/\du C c.S c.H us (c.kid i)/\(∀y:Str,(dy kvs (ko y)).isSome=dt (y∈ks))/\∀(y:Str) (u:U),cv ks us y=a5 u->∃v,dy kvs (ko y)=a5 v/\Rep C (λa=>c.S a\/a∈c.kid i) c.H u v:=by
 obtain⟨v,e,r,rfl⟩:=d.sl i _ _ hi;obtain⟨kvs,j,b,f,k,m,g⟩:=d.dd.kd i _ r hi e;have h:ak C (λa=>c.S a\/a∈c.kid i) c.H us (kvs.map (·.2)):=by rw[f];exact g.rep (λa=>.inl) λa l=>.inr l
 exact⟨r,kvs,e,j,b,f,k,g,λy=>(da (x:=y) b h).2,λy=>(da (x:=y) b h).1⟩
theorem qz{k:Str->List Str×List U->M β}{Post:β->az->Prop}{Z:V->V->Hp->Prop}(m:Ok C a)(h:W (o >>= λx=>jM x >>= λy=>ij i >>= λd=>k y d) a.st Post)
  (hz:∀(c:Cf) (y:Str) (ks:List Str) (us:List U) (r:fR) (kvs:List (Key×V)),c.σ=a.σ->Ok C c->Nx a c->c.H r=a5 (.dK kvs)->(dy kvs (ko y)).isSome=dt (y∈ks)->W (k y (ks,us)) c.st Post->Z (.str y) (.ref r) c.H) :
  Je C o a.σ a.H λv p=>∃f,a.σ[i]?=a5 (a5 f)/\Z v f p:=by
 refine⟨a,rfl,rfl,m,?_⟩;rw[ah]at h;refine W.mono h λx st' w c v g hs b n r=>?_;subst hs;obtain⟨u,z⟩:=x;rw[ah]at w;obtain⟨y,e,j⟩:=f_ w;clear w
 dsimp only at e r
 subst e;have ev:v=.str y:=r.str b;subst ev;rw[ah]at j;obtain⟨ks,us,hs,w⟩:=f9 j;obtain⟨l,kvs,q,s,_,_,_,_,t,_⟩:=b.I_ hs;exact⟨.ref l,by rw[<-g];exact q,hz c y ks us l kvs g b n s (t y) w⟩
noncomputable def Fj(neg:Bool):Ğ:=if neg=b8 then .NotIn else .In
theorem Fm(b:∀j,ns j=b8->j≠i)(c:X.N.Nodup)(hi:X.N[i]?=a5 x)(d:Loc X.env.scope x)(f:X.fn x=b8\/X.env.scope.names.lookup x=a5 .local)
  (hs:QU (.Dict [] [] p) (a5 (.Name x pos')) pos.line X.env=pure cc):L2.PS X (.Assign [.Name x pos'] (.Dict [] [] p) pos) (JY C ns (Dj i >>= λ_=>pure .nx)):=by
 rintro pins s σ H D I ⟨a,rfl,rfl,g,h⟩;have k:i<a.σ.length:=by rw[I.len];exact(dV.mp hi).1
 refine rH c hi d pV hs f pins s a.σ a.H D I λq l=>?_;obtain⟨m,n⟩:=g.newD l k;rw[ah]at h;obtain⟨_,st',e,w⟩:=h;cases e;rw[aq]at w;exact w _ rfl m n ⟨λj o=>i1 (ro (b j o)),by simp⟩
end
section
theorem B9(G:X.A.units+60<LU)(p:X.N[i]?=a5 x)(q:K8 X.env.scope x)(t:(x==("__debug__":Str))=cc)(u:(x==("__classdict__":Str))=cc)(v:PE X a (Je C D))(z:Rq (Fj neg) (.Name x p2)=cc):
  PT X (.Compare a [Fj neg] [.Name x p2] pos) (Km C (D >>= λx=>jM x >>= λy=>ij i >>= λd=>pure (TY neg y d.1))):=by
 rintro pins s σ H Q I ⟨f,rfl,rfl,B,h⟩;cases neg with
 |false =>
  refine xJ (Ej ⋯ v (cz p q t u)) z pins s f.σ f.H Q I (qz (Z:=λy x e=>∃a o,x=V.ref a/\d0 e a y o/\∃b,V.bl o.isSome=.bl b/\Q b e) B h λc y ks us r kvs g j n l m w=>?_);rw[aq]at w;refine⟨r,_,rfl,d0.k (k:=ko y) l,?_⟩;rw[m];exact⟨_,rfl,w c g rfl j n⟩
 |true =>
  refine xJ (wc ⋯ v (cz p q t u)) z pins s f.σ f.H Q I (qz (Z:=λy x e=>∃a o,x=V.ref a/\d0 e a y o/\∃b,V.bl (!o.isSome)=.bl b/\Q b e) B h λc y ks us r kvs g j n l m w=>?_);rw[aq]at w;refine⟨r,_,rfl,d0.k (k:=ko y) l,?_⟩;rw[m];exact⟨_,rfl,w c g rfl j n⟩
theorem du.snoc{S:fR->Prop}{a:fR}(b:H a=a5 (.lst vs))(c:ak C S H d vs):∀{us:List U}{as:List fR},du C S H us as->du C S H (us++[.lst d]) (as++[a])
 |[],as,h=>by cases h;exact⟨a,[],d,vs,rfl,rfl,b,c,rfl⟩
 |u::us,as,h=>by
  obtain⟨a',as',f,g,rfl,e,i,j,k⟩:=h;exact⟨a',as'++[a],f,g,rfl,e,i,j,du.snoc b c k⟩
theorem sv{st:az}(h:W (kU i y r) st Q):∃us ks vs,r=(.own,.lst us)/\st[i]?=a5 (a5 (.IY,.I_ ks vs))/\y∉ks/\ks.length<cL/\Q () (st.set i (a5 (.IY,.I_ (ks++[y]) (vs++[.lst us])))):=by
 obtain⟨k,u⟩:=r;cases k<;>cases u<;>first|exact(bo.mp h).elim|skip
 rename_i us;obtain⟨_,st',e,q⟩:=h;unfold kU at e
 dsimp only at e
 split at e
 ·rename_i ks vs hs;split at e
  ·rename_i hz;cases e;exact⟨us,ks,vs,rfl,hs,hz.1,hz.2,q⟩
  ·cases e
 ·cases e
theorem Fo{i:Nat}{x:Str}{j:Pos}(hu:X.A.units+60<LU)(hN:X.N[i]?=a5 x)(hv:K8 X.env.scope x)(hd:(x==("__debug__":Str))=cc)(JM:(x==("__classdict__":Str))=cc)
  (ha:PE X a (Je C ma)) (B:PE X b (Je C mb)) (hs:Rk [.Subscript (.Name x j) b p] a pos.line X.env=pure cc) (Us:VA [.Subscript (.Name x j) b p] a X.env=pure b6)
  (G:∀v,SE (.Subscript (.Name x j) b p) X.env v=(do
   let n <-MP [v] (wk (.Name x j) X.env)
   let I <-MP [v,n] (wk b X.env)
   Yp p
   MP [v,n,I] (Ua n I v)
   Ws [v,n,I] [])) :
  L2.PS X (.Assign [.Subscript (.Name x j) b p] a pos) (JY C ns (ma >>= λr=>ij i >>= λ_=>mb >>= λx=>jM x >>= λy=>kU i y r >>= λ_=>pure .nx)):=by
 refine PS.weak (rG ha (xN (cz hN hv hd JM) B (set_dict (X:=X) ⋯) G) hs Us rfl) ?_;rintro D σ H ⟨c0,rfl,rfl,O,h⟩;refine aX O h λr c v t w=>?_;rw[ah]at w;obtain⟨RH,us0,Kr,w⟩:=f9 w;obtain⟨Q,OG,T,g0,_⟩:=t.ok.I_ Kr;refine⟨.ref Q,by rw[<-t.hσ];exact T,?_⟩;rw[ah]at w;refine⟨c,t.hσ,rfl,t.ok,w.mono λy st2 Y J vy s e4 u n2 r2=>?_⟩;subst e4;rw[ah]at Y;obtain⟨ky,uy⟩:=y;obtain⟨y,ey,w3⟩:=f_ Y
 dsimp only at ey r2
 subst ey;have ev:vy=.str y:=r2.str u;subst ev;rw[ah]at w3;obtain⟨us,ks,vs,L,g,Ri,l,q⟩:=sv w3;subst L;rw[aq]at q;obtain⟨m,kvs,d,g1,g2,g3,g4,g5,g6,_⟩:=u.I_ g;have L:m=Q:=by rw[s,<-t.hσ,T]at d;cases d;rfl
 subst L;obtain⟨f,rfl,k1,k2,k3,JC,k4,k5⟩:=t.rx.w.on t.ok n2.toNs (s.trans t.hσ.symm);have Ut:=t.nx.trans n2;have hl:kvs.length=ks.length:=by have:=Ŕ LA g2;simpa using this
 have MJ:dy kvs (ko y)=b6:=by
  have:=g6 y;rw[Œ Ri]at this;cases hq:dy kvs (ko y) with
  |none=>rfl
  |some _=>rw[hq]at this;cases this
 refine⟨m,_,rfl,wa.k (k:=ko y) g1 (by rw[hl];exact l),?_⟩;rw[xY _ MJ];have RG:f∉J.kid i:=λz=>k3 (.inr ⟨i,_,_,g,d,.inr z⟩);have V3:f≠m:=λz=>k3 (.inr ⟨i,_,_,g,d,.inl z⟩);have rd:=u.dd.kd i _ _ g d;have fr:=cy.fr rd;obtain⟨LL,n3⟩:=Ok.Hg (H':=upd J.H m (.dK (kvs++[(ko y,.ref f)]))) (u':=.I_ (ks++[y]) (vs++[.lst us])) (as':=J.kid i++[f]) u Ut.toNs g d
  (λa ne=>au λz=>ne ⟨_,_,g,d,.inl z⟩) (λa o e=>by
   by_cases hz:a=m
   ·subst hz;exact⟨_,ay⟩
   ·rw[au hz];exact⟨o,e⟩)
  (λmv=>by
   refine⟨_,ay,by rw[js,g2,js];rfl,by rw[js,g3,js];rfl,?_,λa ha=>?_,?_⟩
   ·rw[<-á,rr];exact⟨g4,by simp,λa ha b B=>by
     have:b=f:=by simpa using B
     subst this;rintro rfl;rcases et.mp ha with z|z
     ·exact V3 z
     ·exact RG z⟩
   ·rw[<-á]at ha;rcases kj.mp ha with ha|ha
    ·exact fr a ha
    ·have:a=f:=by simpa using ha
     subst this;obtain⟨z1,_,z3,_⟩:=O.jL k1;exact⟨k2,z3,z1⟩
   ·exact du.snoc (by rw[au V3];exact k4) (k5.mv mv) (du.mv mv (λa ha o e=>by
     rw[au (λz=>(my.mp g4).1 (by rw[<-z];exact ha))];exact e) g5))
  (λa ha=>by
   rcases kj.mp ha with ha|ha
   ·exact .inl ha
   ·have:a=f:=by simpa using ha
    subst this;exact .inr ⟨k3,k1⟩)
 have z:=q _ rfl LL n3 (Kept.of s);rw[<-s];exact z
theorem du.at{S:fR->Prop}:∀{ks:List Str}{us:List U}{as:List fR}{kvs:List (Key×V)}{u:U},kvs.map (·.1)=ks.map ko->kvs.map (·.2)=as.map V.ref->as.Nodup->du C S H us as->cv ks us y=a5 u ->
  ∃a ws f,dy kvs (ko y)=a5 (.ref a)/\a∈as/\u=.lst f/\H a=a5 (.lst ws)/\ak C S H f ws/\∀(H':Hp) (c:List U) (d:List V),Mv S H S H'->H' a=a5 (.lst d)->ak C S H' c d->(∀b∈as,b≠a->H' b=H b)->du C S H' (jN ks us y (.lst c)) as
 |[],us,as,kvs,u,_,_,_,_,h=>by cases us<;>cases h
 |k::ks,[],as,kvs,u,_,_,_,_,h=>by cases h
 |k::ks,O::us,as,kvs,u,g,q,i,hk,h=>by
  obtain⟨a,as',f,ws,rfl,rfl,t,v,w⟩:=hk;cases kvs with
  |nil=>simp at g
  |cons p kvs =>
   rw[d6,d6,Ql]at g q;rw[my]at i;by_cases j:k=y
   ·subst j;simp only[cv,if_true]at h;cases h;refine⟨a,ws,f,by rw[eB g.1,q.1],by simp,rfl,t,v,λH' c d l r s m=>?_⟩;simp only[jN,if_true];exact⟨a,as',c,d,rfl,rfl,r,s,du.mv l (λb n o e=>by rw[m b (by simp[n]) (λz=>i.1 (z▸n))];exact e) w⟩
   ·simp only[cv,ő j]at h;obtain⟨a1,A,B,D,x,G,I,J,L⟩:=du.at g.2 q.2 i.2 w h;refine⟨a1,A,B,?_,by simp[x],G,I,J,λH' c d l r s m=>?_⟩
    ·rw[eC (by rw[g.1];intro z;exact j (Vd z))];exact D
    ·simp only[jN,ő j];have N:a≠a1:=λz=>i.1 (z▸x);exact⟨a,as',f,ws,rfl,rfl,by rw[m a (by simp) N];exact t,v.mv l,L H' c d l r s λb n=>m b (by simp[n])⟩
theorem sy{st:az}(h:W (kW i y u) st Q):∃ks vs xs,st[i]?=a5 (a5 (.IY,.I_ ks vs))/\cv ks vs y=a5 (.lst xs)/\xs.length<cL/\Q () (st.set i (a5 (.IY,.I_ ks (jN ks vs y (.lst (xs++[u])))))):=by
 obtain⟨_,st',e,q⟩:=h;unfold kW at e;split at e
 ·rename_i ks vs hs;split at e
  ·rename_i xs a;split at e
   ·rename_i hz;cases e;exact⟨ks,vs,xs,hs,a,hz,q⟩
   ·cases e
  ·cases e
 ·cases e
def wW(C:Ct)(m:M (Kd×U)):TE:=λσ H Q=>∃b:Cf,b.σ=σ/\b.H=H/\Ok C b/\W m b.st λr st'=>∀c v,c.σ=σ->c.st=st'->Ok C c->Nx b c->(∀a o,b.H a=a5 o->c.H a=a5 o)->aL C b c r.1 r.2 v->Q v c.H
theorem mY(d:Ok C b)(h:W (e >>= k) b.st Post)
  (hz:∀x c v,Nl C b c x v->(∀a o,b.H a=a5 o->c.H a=a5 o)->W (k x) c.st Post->Z v c.H):wW C e b.σ b.H Z:=by
 rw[ah]at h;exact⟨b,rfl,rfl,d,h.mono λx st1 f g i j l m n p q=>hz x g i ⟨j,m,n,q⟩ p (by rw[l];exact f)⟩
theorem y8(f:X.N[i]?=a5 x)(g:K8 X.env.scope x)(l:(x==("__debug__":Str))=cc)(m:(x==("__classdict__":Str))=cc):PE X (.Name x pos) (wW C (dn i)):=by
 refine PE.weak (cz f g l m) ?_;rintro σ H Q ⟨b,rfl,rfl,c,r,st',e,h⟩;unfold dn at e;split at e
 ·cases e
 ·rename_i k u n hs;cases e;obtain⟨v,d,a⟩:=c.sl i k u hs;refine⟨v,d,h b v rfl rfl c (Nx.refl b) (λ_ _ z=>z) ?_⟩;by_cases hk:k.root=b8
  ·rw[Ő hk];exact⟨⟨k,hk,hs⟩,d⟩
  ·rw[ő hk];cases k with
   |loc=>exact a
   |any=>exact a
   |bor j=>exact a.elim
   |IY=>exact(n rfl).elim
   |_=>exact absurd rfl hk
 ·cases e
theorem ix(h:PE X e (tC v))(r:∀S H,Rep C S H u v):PE X e (wW C (pure (.loc,u))):=by
 refine PE.weak h ?_;rintro σ H Q ⟨a,rfl,rfl,b,h⟩;rw[aq]at h;exact h a v rfl rfl b (Nx.refl a) (λ_ _ z=>z) (r _ _)
theorem Fp(hK:C.K=X.K)(hu:X.A.units+60<LU)(hN:X.N[i]?=a5 x)(hv:K8 X.env.scope x)(hd:(x==("__debug__":Str))=cc)(JM:(x==("__classdict__":Str))=cc)(B:PE X a (wW C ma))(hb:PE X b (Je C mb))(Pn:Ei b)
  (Ka:((JL G (i3 [a] X.env)).all (λx=>!x.1)&&(Qt G (MO [] X.env)).all (λx=>x.1.isSome)
   && dt ([a].length+([]:List Oj).length+(if ([]:List Oj).isEmpty then 0 else 1)<30))=b8)
  (Jm:(g.endLine==G.line)=b8) (Jh:i3 [a] X.env=[(cc,wk a X.env)]) :
  L2.PS X (.Expr (.Call (.Attribute (.Subscript (.Name x px) b p) "append" g) [a] [] G) pos) (JY C ns (ij i >>= λ_=>mb >>= λx=>jM x >>= λy=>ij i >>= λd=>if y∈d.1 then(ma >>= λr=>lift r >>= λu=>kW i y u >>= λ_=>pure .nx) else M.fail)):=by
 refine PS.weak (jR (ub PySem.F.plainAttrs_list PySem.F.slot_list_append PySem.F.type_list_append mC (Bl ⋯ (cz hN hv hd JM) hb Pn) (cS B fC Jh) rfl Ka Jm Jh rfl)) ?_;rintro D σ H ⟨c0,rfl,rfl,ok,h⟩;rw[ah]at h;obtain⟨RH,us0,Kr,h⟩:=f9 h;obtain⟨r0,OG,I,g0,_⟩:=ok.I_ Kr;refine⟨.ref r0,I,?_⟩;refine aX ok h λry c vy t w=>?_;rw[ah]at w;obtain⟨ky,uy⟩:=ry;obtain⟨y,ey,w1⟩:=f_ w
 dsimp only at ey
 subst ey;have ev:vy=.str y:=t.rx.str t.ok;subst ev;rw[ah]at w1;obtain⟨ks,us,hs,j⟩:=f9 w1
 dsimp only at j
 by_cases J:y∈ks
 case neg=>rw[ő J]at j;exact(bo.mp j).elim
 rw[Ő J]at j;obtain⟨L,kvs,f1,g1,g2,g3,g4,g5,g6,_⟩:=t.ok.I_ hs;have O:L=r0:=by rw[t.hσ,I]at f1;cases f1;rfl
 subst O;have NV:=g6 y;rw[œ J]at NV;obtain⟨v0,m⟩:=Sm.mp NV;have K1:v0∈(c.kid i).map V.ref:=by
  rw[<-g3];unfold dy at m;obtain⟨q,hq,rfl⟩:=fx.mp m;exact QZ (List.mem_of_find?_eq_some hq)
 obtain⟨a1,YG,rfl⟩:=lg.mp K1;obtain⟨YH,Uw⟩:=g5.mem YG;refine⟨L,.ref a1,rfl,by rw[<-m];exact d0.k (k:=ko y) g1,Or.inl ⟨rfl,YH,.inl (.inl Uw)⟩,?_⟩;rw[<-t.hσ];refine mY t.ok j λr f v t' wM w3=>?_;rw[ah]at w3;obtain⟨S',st',u,sS,Q,n1,l,w4,_,_⟩:=ip t.ok t'.ok t'.nx t'.rx.w w3;rw[ah]at w4;obtain⟨Mi,JC,xs,n,hx,hz,q⟩:=sy w4;rw[aq]at q;obtain⟨s,T,k1,k2,k3,k4,k5,k6,_,_⟩:=Q.I_ n;have V4:f.σ[i]?=a5 (a5 (.ref s)):=k1;have O:s=L:=by rw[t'.hσ,t.hσ,I]at V4;cases V4;rfl
 subst O;have YI:f.H s=a5 (.dK T):=k2;have Ux:T=kvs:=by have:=wM _ _ g1;rw[YI]at this;cases this;rfl
 subst Ux;have nd:=(my.mp k5).2;obtain⟨a2,ws,ys,l1,l2,l3,l4,l5,l6⟩:=du.at k3 k4 nd k6 hx;cases l3;rw[m]at l1;cases l1;have YJ:f.H a1=a5 (.lst ws):=l4;refine⟨a1,ws,v,rfl,rfl,YJ,by rw[<-l5.len];exact hz,?_⟩;have JQ:a1≠s:=λz=>(my.mp k5).1 (z▸l2);obtain⟨Jr,n2⟩:=Ok.Hg (c:={f with S:=S',st:=st' }) (H':=upd f.H a1 (.lst (ws++[v]))) (u':=.I_ Mi (jN Mi JC y (.lst (xs++[u])))) (as':=f.kid i) Q (t.nx.trans n1).toNs n k1
  (λa Y=>au λz=>Y ⟨_,_,n,k1,.inr (z▸l2)⟩) (λa o e=>by
   by_cases hz:a=a1
   ·subst hz;exact⟨_,ay⟩
   ·rw[au hz];exact⟨o,e⟩)
  (λmv=>⟨T,by rw[au (ro JQ)];exact k2,k3,k4,k5,cy.fr (Q.dd.kd i _ _ n k1),l6 _ _ _ mv ay ((l5.mv mv).snoc (l.mv mv)) λb _ Y=>au Y⟩)
  (λa B=>.inl B)
 have z:=q _ rfl Jr n2 (Kept.of (t'.hσ.trans t.hσ));rw[<-t'.hσ];exact z
end
section
theorem y9{st:az}(h:W (TZ u) st Q):∃ks us,u=.I_ ks us/\Q () st:=by
 cases u<;>first|exact(bo.mp h).elim|skip
 exact⟨_,_,rfl,aq.mp h⟩
theorem mZ{st:az}(h:W (wK x) st Q):∃j,x.2=.int j/\Q j st:=by
 unfold wK at h;split at h
 ·rename_i y e;rw[aq]at h;exact⟨y,e,h⟩
 ·exact(bo.mp h).elim
theorem m6{st:az}(h:W (qu i) st Q):∃k us,k.root=b8/\st[i]?=a5 (a5 (k,.lst us))/\Q us st:=by
 obtain⟨r,st',e,q⟩:=h;unfold qu at e;split at e
 ·rename_i k us hs;split at e
  ·rename_i hk;cases e;exact⟨k,_,hk,hs,q⟩
  ·cases e
 ·cases e
theorem qA:∀{ks:List Str}{us:List U},y∈ks->ks.length=us.length->cv ks us y=b6->False
 |[],us,h,_,_=>by cases h
 |k::ks,[],_,h,_=>by simp at h
 |k::ks,u::us,h,hl,e=>by
  by_cases hk:k=y
  ·simp[cv,hk]at e
  ·simp only[cv,ő hk]at e;rcases et.mp h with h|h
   ·exact hk h.symm
   ·exact qA h (by simpa using hl) e
theorem y_{i:Nat}{x:Str}{D:Pos}(hu:X.A.units+60<LU)(hN:X.N[i]?=a5 x)(hv:K8 X.env.scope x)(hd:(x==("__debug__":Str))=cc)(JM:(x==("__classdict__":Str))=cc)
  (ha:PE X a (Je C ma)) (hb:PE X b (Je C mb)) (hm:M2 X (.Name x D) "get" e a b G') :
  PE X (.Call (.Attribute (.Name x D) "get" e) [a,b] [] G') (Je C (dn i >>= λx=>TZ x.2 >>= λ_=>ma >>= λy=>jM y >>= λy=>mb >>= λz=>lift z >>= λu=>dn i >>= λx=>M.Jp (BG x y u))):=by
 rintro pins s σ H Q I ⟨o,rfl,rfl,p,h⟩;refine x8 ⋯ (cz hN hv hd JM) ha hb hm pins s o.σ o.H Q I ?_;rw[ah]at h;obtain⟨k0,u0,Uy,Kr,h⟩:=dc h;obtain⟨v0,G,t0⟩:=p.slot Uy Kr;rw[ah]at h;obtain⟨RH,us0,J,h'⟩:=y9 h
 dsimp only at J
 subst J;obtain⟨a0,OG,rfl,g0,_⟩:=t0.dict p;refine⟨.ref a0,G,a0,rfl,.inl ⟨OG,.inl g0⟩,?_⟩;refine aX p h' λry c vy t w=>?_;rw[ah]at w;obtain⟨ky,uy⟩:=ry;obtain⟨y,L,w1⟩:=f_ w
 dsimp only at L
 subst L;have ev:vy=.str y:=t.rx.str t.ok;subst ev;rw[<-t.hσ];refine aX t.ok w1 λz f vz g O=>?_;rw[ah]at O;obtain⟨S',st',u,sS,B,n1,j,T,_,_⟩:=ip t.ok g.ok g.nx g.rx.w O;rw[ah]at T;obtain⟨k,u1,YK,K3,w5⟩:=dc T;obtain⟨r,d,q⟩:=bK.mp w5;obtain⟨v1,e1,t1⟩:=B.slot YK K3;have Y:f.σ[i]?=a5 (a5 v1):=e1;rw[g.hσ,t.hσ,G]at Y;cases Y;cases u1<;>first|(simp only[BG]at d;cases d;done)|skip
 rename_i ks us;obtain⟨a1,kvs,ea,g1,g2,g3⟩:=t1.dict B;cases ea;have RK:f.H a0=a5 (.dK kvs):=g1;refine⟨_,d0.k (k:=ko y) RK,?_⟩;simp only[BG]at d;obtain⟨l1,l2⟩:=da (x:=y) g2 g3;have l:∀v:V,aL C o {f with S:=S',st:=st' } r.1 r.2 v->Q v f.H:=λv z=>q {f with S:=S',st:=st' } v (g.hσ.trans t.hσ) rfl B (t.nx.trans n1) z;cases n:cv ks us y with
 |some w =>
  rw[n]at d;cases d;obtain⟨v,ev,rv⟩:=l1 w n;rw[ev];refine l v ?_;exact aL.item (k:=if k.root=b8 then .bor i else k) rv
 |none =>
  rw[n]at d;cases d;have MJ:dy kvs (ko y)=b6:=by
   cases hq:dy kvs (ko y) with
   |none=>rfl
   |some v =>
    exfalso
    rw[hq]at l2;have hy:y∈ks:=by simpa using l2.symm
    have m:ks.length=us.length:=by have h1:=Ŕ LA g2;have h2:=g3.len;simp at h1 h2;lia
    exact qA hy m n
  rw[MJ];exact l vz j
theorem za:Gv X (λo i H Q=>∃p xs j v,o=.ref p/\i=.int j/\H p=a5 (.lst xs)/\0<=j/\xs[j.toNat]?=a5 v/\Q v H):=by
 rintro pins s σ H o i h k Q I b c ⟨p,xs,j,v,rfl,rfl,d,e,a,q⟩;cases b;obtain⟨t,rfl⟩:=c;obtain⟨its,r,pl,hz⟩:=I.list (.inl (.inl d));obtain⟨w,f,g⟩:=r.get a;have hl:=r.length;have l:=fB;have m:=(dV.mp a).1;exact wpAny_getItem_list pl.isList e ⋯ (by simpa using f) ⟨v,H,I,g,q⟩
theorem B_:Q0 X (if sub=b8 then .Sub else .Add) (R8 (wL sub)):=by
 cases sub with
 |true=>exact DZ
 |false=>exact DY
theorem Hh(hN:X.N[i]?=a5 x)(hv:K8 X.env.scope x)(hd:(x==("__debug__":Str))=cc)(JM:(x==("__classdict__":Str))=cc)
  (ha:PE X a (wW C ma)) (hb:PE X b (Je C mb))
  (m:∀e f new,Ń b e f new=(do MP [new,e,f] (Ua e f new);Ws [new,e,f] [];pure .next)) :
  L2.PS X (.AugAssign (.Subscript (.Name x px) b p) (if sub=b8 then .Sub else .Add) a pos) (JY C ns (qu i >>= λ_=>mb >>= λy=>wK y >>= λj=>qu i >>= λus=>M.Jp (qv us j) >>= λo=>ma >>= λz=>wK z >>= λw=>modS i (dC (.int j) (.int (wL sub o w))) >>= λ_=>pure .nx)):=by
 refine PS.weak (AZ (cz hN hv hd JM) hb za ha B_ set_list m) ?_;rintro D σ H ⟨c0,rfl,rfl,u,h⟩;rw[ah]at h;obtain⟨k0,us0,Kw,Kr,h⟩:=m6 h;obtain⟨v0,n,LX⟩:=u.sl i _ _ Kr;obtain⟨a0,rfl,_,_,_,_⟩:=LX.rt Kw;refine⟨.ref a0,n,?_⟩;refine aX u h λry c vy t w=>?_;rw[ah]at w;obtain⟨ky,uy⟩:=ry;obtain⟨j,v,A⟩:=mZ w
 dsimp only at v
 subst v;have ev:vy=.int j:=t.rx.int t.ok;subst ev;rw[ah]at A;obtain⟨k1,Uz,Qg,K3,B⟩:=m6 A;rw[ah]at B;obtain⟨o,ho,w3⟩:=bK.mp B;obtain⟨v1,G,YL⟩:=t.ok.sl i _ _ K3;obtain⟨a1,rfl,_,_,_,QB⟩:=YL.rt Qg;rw[t.hσ,n]at G;cases G;obtain⟨vs,I,g2⟩:=QB;unfold qv at ho;split at ho
 case isFalse=>cases ho
 rename_i P8;split at ho
 case h_2=>cases ho
 rename_i o' UA;cases ho;obtain⟨vo,YM,YN⟩:=g2.get UA;have YO:vo=.int o:=YN;subst YO;refine⟨a0,vs,j,_,rfl,rfl,I,P8,YM,?_⟩;rw[<-t.hσ];refine mY t.ok w3 λz r vz d all2 J=>?_;rw[ah]at J;obtain⟨kz,uz⟩:=z;obtain⟨w,L,O⟩:=mZ J
 dsimp only at L
 subst L;have ev:vz=.int w:=d.rx.int d.ok;subst ev;refine⟨o,w,rfl,rfl,?_⟩;rw[ah]at O;obtain⟨k,u1,u2,hk,Q,g,q⟩:=fZ O;rw[aq]at q;obtain⟨v2,s,Nz⟩:=d.ok.sl i _ _ Q;obtain⟨a2,rfl,_,_,_,QC⟩:=Nz.rt hk;have YQ:=s;rw[d.hσ,t.hσ,n]at s;cases s;have T:r.H a0=a5 (.lst vs):=all2 _ _ I;cases u1 with
 |lst xs =>
  simp only[dC,fx]at g;obtain⟨l,L4,rfl⟩:=g;obtain⟨Z0,Y,l2⟩:=QC;rw[T]at Y;cases Y;refine⟨a0,vs,j,l,rfl,rfl,T,by rw[<-l2.len];exact L4,?_⟩;obtain⟨LL,n3⟩:=Ok.mod (c:=r) (H':=upd r.H a0 (.lst (vs.set l (.int (wL sub o w))))) (u':=.lst (xs.set l (.int (wL sub o w)))) d.ok (t.nx.trans d.nx).toNs hk Q YQ (λa ne=>au ne) ⟨_,ay⟩ λmv=>⟨_,ay,(l2.mv mv).set l rfl⟩
  have z:=q _ rfl LL n3 (Kept.of (d.hσ.trans t.hσ));rw[<-d.hσ];exact z
 |I_ ks vs=>simp[dC]at g
 |_=>simp[dC]at g
end
section
theorem Ca{ks:List Str}(c:kvs.map (·.1)=ks.map ko)(d:kvs.map (·.2)=ns.map V.int):kvs=(ks.zip ns).map λp=>((ko p.1:Key),V.int p.2):=by
 induction kvs generalizing ks ns with
 |nil =>
  cases ks with
  |nil=>rfl
  |cons _ _=>cases c
 |cons kv kvs e =>
  cases ks with
  |nil=>cases c
  |cons k ks =>
   cases ns with
   |nil=>cases d
   |cons n ns =>
    obtain⟨a,b⟩:=kv;simp only[d6,Ql]at c d;obtain⟨rfl,c⟩:=c;obtain⟨rfl,d⟩:=d;rw[e c d];rfl
theorem ak.of_map{S:fR->Prop}{f:α->U}{g:α->V}:∀{l:List α},(∀x∈l,Rep C S H (f x) (g x))->ak C S H (l.map f) (l.map g)
 |[],_=>rfl
 |x::l,h=>⟨g x,l.map g,rfl,h x (by simp),ak.of_map λy a=>h y (by simp[a])⟩
theorem Cb(Y:X.calm=b8)(hK:C.K=X.K)(hg:Gl X "sorted")(hm:X.mg "sorted"=b6)(hN:X.N[i]?=a5 x)(hv:K8 X.env.scope x)(hd:(x==("__debug__":Str))=cc)(JM:(x==("__classdict__":Str))=cc)(Jm:(b.endLine==l.line)=b8):
  PE X (.Call (.Name "sorted" p) [.Call (.Attribute (.Name x n) "items" b) [] [] l] [] pos) (Je C (dn i >>= λx=>M.Jp (yG x.2))):=by
 rintro pins s σ H Q I ⟨c,rfl,rfl,m,h⟩;refine sL (c9 I hg hm (show u7 "sorted"=a5 (.builtin "sorted") by decide +kernel) ?_ (by decide +kernel) (by decide +kernel));rw[ah]at h;obtain⟨k0,u0,Uy,Kr,h⟩:=dc h;obtain⟨v0,e0,t0⟩:=m.slot Uy Kr;obtain⟨r,f,k⟩:=bK.mp h
 dsimp only at f
 unfold yG at f;split at f
 rotate_left
 ·cases f
 rename_i ks us;rw[nC]at f;obtain⟨ns,en,f⟩:=f;split at f
 rotate_left
 ·cases f
 rename_i UB;cases f;obtain⟨K',Jj,u⟩:=UB;obtain⟨d,kvs,rfl,B,Kw,D⟩:=t0.dict m;rw[fN en]at D;have Ux:=Ca Kw (ak.ints D);subst Ux;have ek:((ks.zip ns).map (·.1))=ks:=Ý ⋯;have g:d4 (gs X.prog X.w) X.A (wk (.Call (.Attribute (.Name x n) "items" b) [] [] l) X.env) (λv s1=>d4 (gs X.prog X.w) X.A (Nd (.builtin "sorted") [v]) (EP X pins c.σ Q) X.xe s1) X.xe s:=by
  refine TF rfl Jm (Jf (cz hN hv hd JM pins s c.σ c.H (λv G=>v=.ref d/\G=c.H) I ⟨_,e0,rfl,rfl⟩) λv s1 UC=>?_);obtain⟨x1,G,J,r1,z1,z2⟩:=UC;subst z1 z2;cases(show v=hY d from r1);obtain⟨h1,h2⟩:=om (T:="dict") J (x:=.ref d) rfl (.inr (.inr (.inl ⟨rfl,.inl ⟨_,B⟩⟩)));refine⟨"dict","dict.items",PySem.F.plainAttrs_dict,PySem.F.slot_dict_items,PySem.F.type_dict_items,h1,h2,D6 rfl (PySem.evalArgs_none (oG Y J B (by rw[ek];exact Jj) (by rw[VT];lia) λas L hl nd O hL=>?_))⟩;have q:c.H L=b6:=O L (by simp);have YR:(as.zip ((ks.zip ns).map MU)).map (·.1)=as:=Ý (by rw[c4];lia);have YS:∀p∈as.zip ((ks.zip ns).map MU),p.1∈as:=λp t=>(QQ t).1;have same:pU c.H (upd (jK c.H (as.zip ((ks.zip ns).map MU))) L (.lst ((eI ((ks.zip ns).map (·.1))).map λi=>V.ref (as.getD i 0)))):=λa o e=>by
   have n1:a≠L:=λy=>by rw[y,q]at e;cases e
   rw[au n1,kP λp t y=>?_]
   ·exact e
   ·have:=O p.1 (by simp[YS p t]);rw[y,e]at this;cases this
  obtain⟨Jn,n'⟩:=m.grow (S':=c.S) same (λa z=>.inl z) λa z=>z;obtain⟨q1,q2,q3,q4,q5⟩:=m.jL q;refine k {c with H:=upd (jK c.H (as.zip ((ks.zip ns).map MU))) L (.lst ((eI ((ks.zip ns).map (·.1))).map λi=>V.ref (as.getD i 0))),S:=c.S} _ rfl rfl Jn n' ⟨L,rfl,q,q2,q5,_,ay,?_⟩;show ak C c.S _ ((BE (ks.zip ns)).map wG) _;unfold BE;rw[i5];refine ak.of_map λj hj=>?_;have L4:j<(ks.zip ns).length:=by
   have:=tA.mp ((cu _).mem_iff.mp hj);rw[c4]at this;exact this
  have Tz:j<as.length:=by lia
  have e1:(ks.zip ns).getD j (nH,0)=(ks.zip ns)[j]:=(Zz _).symm;have e2:as.getD j 0=as[j]:=by simp[y4,Tz]
  show Rep C c.S _ (wG ((ks.zip ns).getD j (nH,0))) (V.ref (as.getD j 0));rw[e1,e2];refine⟨as[j],MU (ks.zip ns)[j],rfl,JH.of ?_,⟨_,_,rfl,rfl,_,_,rfl,rfl,rfl⟩⟩;have JQ:as[j]≠L:=λy=>hL (by rw[<-y];simp);refine(au JQ).trans (uB (by rw[YR];exact nd) (vs:=MU (ks.zip ns)[j]) ?_);refine TU.mpr ⟨j,by rw[VT,c4];lia,?_⟩;rw[List.getElem_zip,ß]
 have eb:JL pos (i3 [.Call (.Attribute (.Name x n) "items" b) [] [] l] X.env)=[(cc,wk (.Call (.Attribute (.Name x n) "items" b) [] [] l) X.env)]:=rfl;have YT:Qt pos (MO [] X.env)=[]:=rfl;rw[eb,YT];exact oO g
end
section
theorem uP(f:X.calm=b8)(g:C.K=X.K)(i:Gl X "set")(j:X.mg "set"=b6)(m:PE X a (Je C n))(hs:i3 [a] X.env=[(cc,wk a X.env)])(I:Inv X pins b.σ b.H s)(r:Ok C b)
  (h:W (n >>= λx=>M.Jp (ig x.2) >>= k) b.st Post)
  (u:∀(S:fR) (o:Obj) (s1:fS) (D:List Str) (c:Cf),c.σ=b.σ->Ok C c->Nx b c->s1.heap.get? S=a5 o->aP X.prog X.w s1.heap S (aD X.w) D->Inv X ((S,o)::pins) c.σ c.H s1->W (k D) c.st Post->(∀q∈pins,q.1≠S)->Q (.ref S) s1) :
  d4 (gs X.prog X.w) X.A (wk (.Call (.Name "set" p) [a] [] pos) X.env) Q X.xe s:=by
 refine sL (c9 I i j (show u7 "set"=a5 (.type "set") by decide +kernel) ?_ (by decide +kernel) (by decide +kernel));have y:JL pos (i3 [a] X.env)=[(cc,wk a X.env)]:=by rw[hs];rfl
 have B:Qt pos (MO [] X.env)=[]:=rfl;rw[y,B];refine uN (one m I r h λx c Y v s2 t d rv w=>?_);rw[ah]at w;obtain⟨D,e,w⟩:=bK.mp w;obtain⟨l,ys,rfl,G,J,rfl⟩:=mW g t.ok t.rx e;cases rv;exact rV f d G J λS o s1 hsz L N O=>u S o s1 _ c t.hσ t.ok t.nx L N O w λq T z=>by
  have:=ez (d.pin q (mA _ T)).1;rw[z]at this;exact absurd (i2 this hsz) (uv _)
theorem Ce(m:X.calm=b8)(D:C.K=X.K)(G:Gl X (if ln=b8 then "len" else "sorted"))(J:X.mg (if ln=b8 then "len" else "sorted")=b6)(L:Gl X "set")(N:X.mg "set"=b6)(ha:PE X a (Je C ma))(hb:PE X b (Je C mb))(YU:i3 [a] X.env=[(cc,wk a X.env)])(Na:i3 [b] X.env=[(cc,wk b X.env)]):
  PE X (.Call (.Name (if ln=b8 then "len" else "sorted") p) [.BinOp (.Call (.Name "set" n) [a] [] t) .Sub (.Call (.Name "set" p2) [b] [] pos2) d] [] pos)
   (Je C (ma >>= λx=>M.Jp (ig x.2) >>= λd1=>mb >>= λy=>M.Jp (ig y.2) >>= λd2=>M.Jp (wH ln d1 d2))):=by
 rintro pins s σ H Q I ⟨u,rfl,rfl,ok,h⟩;have f:d4 (gs X.prog X.w) X.A (wk (.BinOp (.Call (.Name "set" n) [a] [] t) .Sub (.Call (.Name "set" p2) [b] [] pos2) d) X.env) (λv s1=>d4 (gs X.prog X.w) X.A (Nd (.builtin (if ln=b8 then "len" else "sorted")) [v]) (EP X pins u.σ Q) X.xe s1) X.xe s:=by
  refine wpAny_BinOp (uP m D L N ha YU I ok h λS1 O s1 D1 c1 YV Jg YW MS MC I1 w1 O3=>?_);refine uP m D L N hb Na I1 Jg w1 λS2 o2 s2 D2 i YX T YY NK O4 z w2 O0=>?_;obtain⟨r,k,j⟩:=bK.mp w2;have UD:=(z.pin (S1,O) (mA _ (by simp))).1;have UE:aP X.prog X.w s2.heap S1 (aD X.w) D1:=MC.at λo e=>by rw[MS]at e;cases e;exact UD
  have JQ:S1≠S2:=O0 (S1,O) (by simp);have nx:Nx u i:=YW.trans YY;have B:i.σ=u.σ:=YX.trans YV;have I3:Inv X pins i.σ i.H s2:=z.dS λq hq=>z.pin q (mA _ (by simp[hq]));unfold wH at k;split at k
  rotate_left
  ·cases k
  rename_i g;refine L2.jV JQ UE O4 g.1 g.2 λh' hk Y=>?_;have I4:Inv X pins i.σ i.H {s2 with heap:=h' }:=I3.kept (t':=s2.toks) hk;rw[<-B];cases ln with
  |true =>
   cases k;exact rT I4 Y (cn.flat (c:=i) j B T nx rfl)
  |false =>
   cases k;exact gz m I4 Y (Ò (w6 _ _) g.1) λl hl=>cn.list (c:=i) j B T nx (ak.strs.mpr rfl) l hl
 have eb:JL pos (i3 [.BinOp (.Call (.Name "set" n) [a] [] t) .Sub (.Call (.Name "set" p2) [b] [] pos2) d] X.env)=[(cc,wk (.BinOp (.Call (.Name "set" n) [a] [] t) .Sub (.Call (.Name "set" p2) [b] [] pos2) d) X.env)]:=rfl;have ek:Qt pos (MO [] X.env)=[]:=rfl;cases ln with
 |true =>
  refine sL (c9 I G J (show u7 "len"=a5 (.builtin "len") by decide +kernel) ?_ (by decide +kernel) (by decide +kernel));rw[eb,ek];exact oO f
 |false =>
  refine sL (c9 I G J (show u7 "sorted"=a5 (.builtin "sorted") by decide +kernel) ?_ (by decide +kernel) (by decide +kernel));rw[eb,ek];exact oO f
end
section
variable{X:Cx}{C:Ct}{a:mx}{ma:M (Kd×U)}{apos G':Pos}{i:Nat}{x:Str}{px:Pos}
theorem Ok.Dn(b:Ok C c)(hk:k.root=b8)(hs:c.st[i]?=a5 (a5 (k,.lst us))):∃a vs,c.σ[i]?=a5 (a5 (.ref a))/\c.H a=a5 (.lst vs)/\ak C c.S c.H us vs:=by
 obtain⟨v,d,e⟩:=b.sl i k _ hs;obtain⟨r,rfl,_,_,_,vs,f,g⟩:=e.rt hk;exact⟨r,vs,d,f,g⟩
theorem ak.eraseIdx{S:fR->Prop}:∀{us:List U}{vs:List V} (n:Nat),ak C S H us vs->ak C S H (us.eraseIdx n) (vs.eraseIdx n)
 |[],_,n,h=>by cases h;simp[ak]
 |u::us,vs,0,h=>by
  obtain⟨v,r,rfl,c,b⟩:=h;exact b
 |u::us,vs,n+1,h=>by
  obtain⟨v,r,rfl,c,b⟩:=h;exact⟨v,_,rfl,c,b.eraseIdx n⟩
theorem Ok.out(f:Ok C c)(n:Nx g c)(l:c.σ=g.σ)(hk:k.root=b8)(hs:c.st[i]?=a5 (a5 (k,.lst us)))(h:c.σ[i]?=a5 (a5 (.ref r)))(m:ak C c.S c.H d b)(p:Rep C c.S c.H u v)(w:cn C g Q (.loc,u) (c.st.set i (a5 (k,.lst d)))):Q v (upd c.H r (.lst b)):=by
 have q:Mv c.S c.H c.S (upd c.H r (.lst b)):=by
  obtain⟨O,j,s⟩:=f.sl i k _ hs;rw[h]at j;cases j;obtain⟨T,y,A,_,_,B⟩:=s.rt hk;cases y;obtain⟨o,ho,D⟩:=B.some;exact⟨λ_ z=>z,λa o' e t=>by rw[au (λz=>by subst z;rw[ho]at e;cases e;exact D t)];exact e,λa o' z e=>by rw[au (λG=>by subst G;exact A z)];exact e⟩
 obtain⟨I,J⟩:=f.mod (H':=upd c.H r (.lst b)) (u':=.lst d) n.toNs hk hs h (λa L=>au L) ⟨_,ay⟩ λN=>⟨b,ay,m.mv N⟩
 exact w {c with H:=upd c.H r (.lst b),st:=c.st.set i (a5 (k,.lst d))} v l rfl I ⟨J⟩ (p.mv q)
theorem Cg(g:X.N[i]?=a5 x)(j:K8 X.env.scope x)(l:(x==("__debug__":Str))=cc)(m:(x==("__classdict__":Str))=cc)(n:(apos.endLine==G'.line)=b8)(o:C.K=X.K):
  PE X (.Call (.Attribute (.Name x px) "pop" apos) [] [] G') (Je C (yI i)):=by
 refine PE.weak (Eb PySem.F.plainAttrs_list PySem.F.slot_list_pop PySem.F.type_list_pop Ec (cz g j l m) rfl n) ?_;rintro σ H Q ⟨q,rfl,rfl,c,h⟩;obtain⟨r,st',e,w⟩:=h;unfold yI at e;split at e
 ·rename_i k us hs;split at e
  ·rename_i hk;split at e
   ·rename_i u s;cases e;obtain⟨p,vs,d,f,b⟩:=c.Dn hk hs;obtain⟨v,t,y⟩:=b.get s;have hl:=b.len;refine⟨_,d,.inl ⟨rfl,vs,o▸JA.of f⟩,p,vs,v,rfl,rfl,f,by rw[<-hl];exact t,?_⟩;refine c.out (Nx.refl q) rfl hk hs d ?_ y w;rw[Zt,Zt,hl];exact b.take _
   ·cases e
  ·cases e
 ·cases e
theorem Hi(b:0<=j)(h:j.toNat<n):Xw j n=a5 j.toNat:=by
 simp only[Xw];rw[ő (show ¬j<0 by lia),Ő (by rw[cb,ŏ,ŏ];lia)]
theorem wX{st:az}(h:W (wJ i u) st Q):∃(j:Int) (k:Kd) (us:List U) (y:U),u=.int j/\k.root=b8/\0<=j/\j<1000000/\st[i]?=a5 (a5 (k,.lst us))/\us[j.toNat]?=a5 y/\Q (.loc,y) (st.set i (a5 (k,.lst (us.eraseIdx j.toNat)))):=by
 obtain⟨r,st',e,w⟩:=h;cases u with
 |int j =>
  unfold wJ at e
  dsimp only at e
  split at e
  ·rename_i k us hs;split at e
   ·rename_i hk;split at e
    ·rename_i y b;cases e;exact⟨j,k,us,y,rfl,hk.1,hk.2.1,hk.2.2,hs,b,w⟩
    ·cases e
   ·cases e
  ·cases e
 |_=>cases e
theorem zb(o:C.K=X.K)(q:X.N[i]?=a5 x)(s:K8 X.env.scope x)(u:(x==("__debug__":Str))=cc)(A:(x==("__classdict__":Str))=cc)(B:PE X a (Je C ma))
  (D:((JL G' (i3 [a] X.env)).all (λx=>!x.1)&&(Qt G' (MO [] X.env)).all (λx=>x.1.isSome)
   && dt ([a].length+([]:List Oj).length+(if ([]:List Oj).isEmpty then 0 else 1)<30))=b8)
  (G:(apos.endLine==G'.line)=b8) (e:i3 [a] X.env=[(cc,wk a X.env)]) :
  PE X (.Call (.Attribute (.Name x px) "pop" apos) [a] [] G') (Je C (dn i >>= λx=>Nj x.2 >>= λ_=>ma >>= λy=>wJ i y.2)):=by
 refine PE.weak (ub PySem.F.plainAttrs_list PySem.F.slot_list_pop PySem.F.type_list_pop xW (cz q s u A) (cS B fC e) rfl D G e rfl) ?_;rintro σ H Q ⟨c0,rfl,rfl,b,h⟩;rw[ah]at h;obtain⟨k0,I,J,L,h⟩:=dc h;obtain⟨O,f,T⟩:=b.slot J L;refine⟨O,f,?_⟩;cases I with
 |lst Y =>
  rw[ah,show Nj (U.lst Y)=pure () from rfl,aq]at h;obtain⟨a0,Pj,d,OZ,_⟩:=T.list b;refine⟨by rw[d];exact .inl ⟨rfl,Pj,o▸OZ⟩,?_⟩;refine aX b h λr c v t w=>?_;obtain⟨j,k,us,y,ej,hk,j0,j1,hs,hu,w⟩:=wX w;obtain⟨p,vs,g,h2,l⟩:=t.ok.Dn hk hs;have hp:p=a0:=by
   have:=g;rw[t.hσ,f,d]at this;cases this;rfl
  subst hp;obtain⟨z,m,g2⟩:=l.get hu;have MG:j.toNat<vs.length:=(dV.mp m).1;have n:=t.rx;rw[ej]at n;have ev:=n.int t.ok;exact⟨p,vs,j,j.toNat,z,d,by rw[ev],h2,TB (by decide) j0,Int.lt_trans j1 (by decide),Hi j0 MG,m,t.ok.out t.nx t.hσ hk hs g (l.eraseIdx _) g2 w⟩
 |_=>rw[ah]at h;exact(bo.mp h).elim
end
abbrev MK(P:ve)(w:Jq)(K:PySem.W.Frag)(H:Hp)(a IO:fR->Prop):Ct:=⟨P,w,K,H,a,IO,λ_ _=>False⟩
structure Dp(C:Ct)(H H':Hp)(S':fR->Prop)(is:List Nat)(vs:List V)(ws:List U)(k:Kd)(u:U)(v:V):Prop where
 same:∀a o,H a=a5 o->¬C.IO a->H' a=a5 o
 new:∀a,S' a->H a=b6/\∃o,H' a=a5 o
 own:k=.own->∃r,v=.ref r/\H r=b6/\¬S' r/\cV C S' H' r u
 loc:k=.loc->Rep C S' H' u v
 len:ws.length=is.length
 K5:∀(n i:Nat) (r:fR) (w:U),is[n]?=a5 i->vs[i]?=a5 (.ref r)->ws[n]?=a5 w->cV C S' H' r w
structure Fq(C:Ct)(H:Hp)(is:List Nat)(us:List U)(vs:List V):Prop where
 len:us.length=vs.length
 par:∀a,C.LF a->KS H a/\¬C.IO a
 V9:∀a,C.IO a->KS H a
 io:∀(i:Nat) (u:U),i∈is->us[i]?=a5 u->∃r,vs[i]?=a5 (.ref r)/\C.IO r/\cV C (λ_=>False) H r u
 any:∀(i:Nat) (u:U),i∉is->us[i]?=a5 u->∃v,vs[i]?=a5 v/\Rep C C.LF H u v
 inj:∀(i j:Nat) (r:fR),i∈is->j∈is->vs[i]?=a5 (.ref r)->vs[j]?=a5 (.ref r)->i=j
 K5:∀a,C.IO a->∃i∈is,vs[i]?=a5 (.ref a)
def RL(P:ve)(w:Jq)(K:PySem.W.Frag)(F:List U->Option (Ex (Kd×U)))(b:Nat)(is:List Nat):Sp:=λvs H Q _=>vs.length=b/\∃us k u ws a IO,F us=a5 (.ok (k,.tup (u::ws)))/\(k=.own\/k=.loc)/\Fq (MK P w K H a IO) H is us vs /\
 ∀v H' S',Dp (MK P w K H a IO) H H' S' is vs ws k u v->Q v H'
theorem map_inj:∀{l:List α},(l.map f).Nodup->∀x∈l,∀y∈l,f x=f y->x=y
 |[],_,_,h,_,_,_=>by cases h
 |a::l,h,x,g,y,c,e=>by
  rw[d6,my]at h;rcases et.mp g with d|h1
  ·rcases et.mp c with b|h2
   ·rw[d,b]
   ·exact absurd (lg.mpr ⟨y,h2,by rw[<-e,d]⟩) h.1
  ·rcases et.mp c with b|h2
   ·exact absurd (lg.mpr ⟨x,h1,by rw[e,b]⟩) h.1
   ·exact map_inj h.2 x h1 y h2 e
section
theorem wY(h:gN rs p=a5 j):∃us,rs[p]?=a5 (.bor j,.lst us)/\bR us=b8:=by
 unfold gN at h;split at h
 ·split at h
  ·cases h;exact⟨_,by assumption,by assumption⟩
  ·cases h
 ·cases h
theorem Lf.V_(t:Lf C d c rs vs){i:Nat}(h:rs[i]?=a5 r):∃v,vs[i]?=a5 v/\aL C d c r.1 r.2 v:=by
 have f:∀(l:List (Kd×U)) (w:List V),cN C d c l w->bt l c.st->∀(i:Nat) (r:Kd×U),l[i]?=a5 r->∃v,w[i]?=a5 v/\aL C d c r.1 r.2 v:=by
  intro l;induction l with
  |nil=>intro w _ _ i r e;simp at e
  |cons x l g =>
   intro w h hs i r e;obtain⟨v,t',rfl,j,k,_⟩:=h;rw[dF]at hs;cases i with
   |zero=>simp at e;subst e;exact⟨v,rfl,j.t hs.1⟩
   |succ i=>obtain⟨m,a,b⟩:=g t' k hs.2 i r (by simpa using e);exact⟨m,by simpa using a,b⟩
 exact f rs vs t.rep t.NT i r h
theorem Lf.len(t:Lf C a c rs vs):rs.length=vs.length:=by
 have:=t.read.len;rw[c4]at this;exact this
theorem uQ(q:C'.Eqv C){vs:List V}(hs:∀a,S' a->S1 a){IO:fR->Prop}(Q:∀a,S' a->¬IO a)(A:∀a o,IO a->H' a=a5 o->¬Tp o):
  ∀(ps:List Nat) (ws:List U) (c:Cf) (st':az),Ok C c->Ns c1 c->c.S=S1->gA rs ps ws c.st=a5 st'->(ps.map (gN rs)).Nodup->(∀p∈ps,∀a,vs[p]?=a5 (.ref a)->IO a) ->
  (∀p∈ps,∀j,gN rs p=a5 j->∃k u r,k.root=b8/\c.st[j]?=a5 (a5 (k,u))/\c.σ[j]?=a5 (a5 (.ref r))/\vs[p]?=a5 (.ref r)) ->
  (∀(n p:Nat) (r:fR) (w:U),ps[n]?=a5 p->vs[p]?=a5 (.ref r)->ws[n]?=a5 w->cV C' S' H' r w)->(∀a,(∀p∈ps,vs[p]?≠a5 (.ref a))->c.H a=H' a)->(∀a,¬IO a->c.H a=H' a) ->
  ∃g:Cf,Ok C g/\Ns c1 g/\g.σ=c.σ/\g.S=S1/\g.st=st'/\g.H=H'/\g.kid=c.kid/\∀(j:Nat) (k:Kd) (u:U),g.st[j]?=a5 (a5 (k,u))->∃B,c.st[j]?=a5 (a5 (k,B))
 |[],ws,c,st',D,n,y,e,_,_,_,_,G,_=>by
  cases ws with
  |nil=>cases e;exact⟨c,D,n,rfl,y,rfl,funext λa=>G a λp hp=>(by cases hp),rfl,λj k u e=>⟨u,e⟩⟩
  |cons _ _=>cases e
 |p::ps,ws,c,st',D,n,y,e,I,T,Y,rt,G,J=>by
  cases ws with
  |nil=>cases e
  |cons w ws =>
   simp only[gA]at e;split at e
   ·rename_i j hj;split at e
    ·rename_i us k0 Z1 Jh;obtain⟨k,u,r,hk,s,e2,L⟩:=Y p (by simp) j hj;rw[Jh]at s;cases s;have s:=Jh;have hr:=rt 0 p r _ rfl L rfl;obtain⟨xs,g1,g2⟩:=hr;have N:IO r:=T p (by simp) r L;rw[d6,my]at I;obtain⟨Jn,n'⟩:=D.mod (H':=upd c.H r (.lst xs)) (u':=.lst us) n hk s e2 (λa v=>au v) ⟨_,ay⟩ (λ_=>⟨xs,ay,by
      refine(g2.cg q).mv ⟨λa z=>by rw[y];exact hs a z,λa o h tp=>?_,λa o z h=>?_⟩
      ·by_cases l:a=r
       ·subst l;exact absurd tp (A a o N h)
       ·rw[au l];by_cases x:IO a
        ·exact absurd tp (A a o x h)
        ·rw[J a x];exact h
      ·have x:=Q a z;have l:a≠r:=λe=>x (e▸N);rw[au l,J a x];exact h⟩)
     have J4:j<c.st.length:=(dV.mp s).1;have A1:∀f∈ps,∀t,gN rs f=a5 t->∃k u r,Kd.root k=b8/\(c.st.set j (a5 (k0,.lst us)))[t]?=a5 (a5 (k,u))/\c.σ[t]?=a5 (a5 (.ref r))/\vs[f]?=a5 (.ref r):=λf hp t L4=>by
      obtain⟨k',u',O,a1,a2,a3,a4⟩:=Y f (by simp[hp]) t L4;have v:j≠t:=λz=>I.1 (lg.mpr ⟨f,hp,by rw[L4,hj,z]⟩);exact⟨k',u',O,a1,by rw[i1 v];exact a2,a3,a4⟩
     have A2:∀a,(∀f∈ps,vs[f]?≠a5 (.ref a))->upd c.H r (.lst xs) a=H' a:=λa l=>by
      by_cases h:a=r
      ·subst h;rw[ay,g1]
      ·rw[au h];refine G a λf hp z=>?_;rcases et.mp hp with rfl|hp
       ·rw[L]at z;cases z;exact h rfl
       ·exact l f hp z
     have A3:∀a,¬IO a->upd c.H r (.lst xs) a=H' a:=λa l=>by
      have v:a≠r:=λz=>l (by rw[z];exact N);rw[au v];exact J a l
     obtain⟨g,f1,f2,f3,f4,f5,f6,f7,f8⟩:=uQ q hs Q A ps ws {c with H:=upd c.H r (.lst xs),st:=c.st.set j (a5 (k0,.lst us))} st' Jn n' y e I.2 (λf hp=>T f (by simp[hp])) A1 (λm f O w' a b d=>rt (m+1) f O w' (by simpa using a) b (by simpa using d)) A2 A3;refine⟨g,f1,f2,f3,f4,f5,f6,f7,λi k' u' z=>?_⟩;obtain⟨B,z⟩:=f8 i k' u' z;by_cases hi:i=j
     ·subst hi;have z:(c.st.set i (a5 (k0,.lst us)))[i]?=_:=z;rw[gj J4]at z;cases z;exact⟨_,s⟩
     ·have z:(c.st.set j (a5 (k0,.lst us)))[i]?=_:=z;rw[i1 (ro hi)]at z;exact⟨B,z⟩
    ·cases e
   ·cases e
end
section
theorem Ci(st:az)(r:Kd×U):(dR st r).1=r.1:=by
 unfold dR;split<;>rfl
theorem cN.V'{st:az}:∀{rs:List (Kd×U)}{vs:List V},cN C d c rs vs->cN C d c (rs.map (dR st)) vs
 |[],_,h=>h
 |r::rs,vs,h=>by
  obtain⟨v,t,rfl,e,f,g⟩:=h;refine⟨v,t,rfl,?_,cN.V' f,λhk i n j a l b=>?_⟩
  ·obtain⟨k,u⟩:=r;cases k<;>exact e
  ·rw[i6,fx]at a;obtain⟨m,a,rfl⟩:=a;rw[Ci]at hk b;exact g hk i m j a l b
theorem Cj(h:PA X es (Ks C ms)):PA X es (Ks C (ms >>= BF)):=by
 rintro pos pins s σ H Q I ⟨a,rfl,rfl,b,w⟩;refine h pos pins s a.σ a.H Q I ⟨a,rfl,rfl,b,?_⟩;rw[ah]at w;refine w.mono λrs st d c vs f g i n r=>?_;obtain⟨j,st',e,q⟩:=d;cases e;exact q c vs f g i n r.V'
theorem zc(h:TX r=a5 (k,u,ws)):r=(k,.tup (u::ws))/\(k=.own\/k=.loc):=by
 unfold TX at h;split at h
 ·cases h;exact⟨rfl,.inl rfl⟩
 ·cases h;exact⟨rfl,.inr rfl⟩
 ·cases h
theorem zd(hP:C.P=X.prog)(hw:C.w=X.w)(hK:C.K=X.K)(hF:Γ f=F)(hk:∀us r,F us=a5 (.ok r)->us.length=np)
  (G:iN X.prog X.w X.K X.mg X.base Oa k fa fd ps (RL X.prog X.w X.K F np is)) (hr:ft k X.A) (hg:Gl X f) (hm:X.mg f=a5 (.ref fa)) (Oq:PySem.W.keepIn X.K (.ref fa)=b8) (B:Binds X.K fd ps [])
  (L_:(f==("__debug__":Str))=cc) (ha:PA X (e::es) (Ks C ms)) (he:i3 (e::es) X.env=(cc,wk e X.env)::i3 es X.env) (JE:(JL pos (i3 es X.env)).any (·.1)=cc) :
  PE X (.Call (.Name f p) (e::es) [] pos) (Je C (ms >>= λrs=>aC rs >>= λ_=>qt Γ f rs is)):=by
 rintro pins s σ H Q I ⟨c0,rfl,rfl,ok,h⟩;refine sL (eR I hg hm ?_ L_);refine PySem.W.callWith_K (h₀:=X.base) I.ok.mod.OS Oq (Jf (args ha I ok h pos) λus s1 ⟨rs,c,vs,t,I1,rv,w⟩=>⟨I1.Ms,?_⟩) he JE;obtain⟨r,st',D,q⟩:=w;unfold qt at D;rw[hF]at D;split at D
 ·rename_i r0 e2;split at D
  ·rename_i kd u ws eu;split at D
   ·rename_i Kc;split at D
    ·rename_i st2 UJ;cases D;obtain⟨rfl,k1⟩:=zc eu;have k2:=hk _ _ e2;unfold qr at Kc;simp only[cb,i8,ŏ,Lj,tA]at Kc;obtain⟨⟨h1,h2⟩,h3⟩:=Kc;have T:∀p∈is,∃j xs k r,gN rs p=a5 j/\rs[p]?=a5 (.bor j,.lst xs)/\bR xs=b8/\Kd.root k=b8/\c.st[j]?=a5 (a5 (k,.lst xs))/\c.σ[j]?=a5 (a5 (.ref r))/\vs[p]?=a5 (.ref r)/\¬c.S r/\¬C.LF r/\cV C c.S c.H r (.lst xs):=λp L=>by
      obtain⟨j,O⟩:=Sm.mp (h1 p L);obtain⟨xs,a1,a2⟩:=wY O;obtain⟨v,b1,l⟩:=t.V_ a1;obtain⟨r,rfl,Y,d2,_,N⟩:=t.ok.rootOf l.1 l.2;obtain⟨k,m,x⟩:=l.1;exact⟨j,xs,k,r,O,a1,a2,m,x,l.2,b1,Y,d2,N⟩
     let IO:fR->Prop:=λa=>∃p∈is,vs[p]?=a5 (.ref a);have QE:∀a,IO a->c.R a/\¬c.S a/\¬C.LF a/\KS c.H a:=λa JG=>by
      obtain⟨p,L,e⟩:=JG;obtain⟨j,xs,k,r,_,_,_,m,x,y,J,g5,g6,g7⟩:=T p L;rw[e]at J;cases J;obtain⟨o,ho,_⟩:=g7.some;exact⟨.inl ⟨j,k,_,m,x,y⟩,g5,g6,o,ho⟩
     let Pr:fR->Prop:=λa=>KS c.H a/\¬IO a;have ab:C.Eqv (MK X.prog X.w X.K c.H Pr IO):=⟨hP,hw,hK⟩
     have LM:(MK X.prog X.w X.K c.H Pr IO).Eqv C:=⟨hP.symm,hw.symm,hK.symm⟩
     have sP:∀a,c.S a->Pr a:=λa z=>⟨t.ok.yD a z,λz'=>(QE a z').2.1 z⟩
     have gi:∀{i:Nat} {u:U},(rs.map (·.2))[i]?=a5 u->∃k,rs[i]?=a5 (k,u):=λ{i u} e=>by
      rw[i6,fx]at e;obtain⟨⟨k,u'⟩,e,rfl⟩:=e;exact⟨k,e⟩
     have ac:Fq (MK X.prog X.w X.K c.H Pr IO) c.H is (rs.map (·.2)) vs:=by
      refine⟨by rw[c4];exact t.len,λa z=>z,λa z=>(QE a z).2.2.2,λi u hi e=>?_,λi u hi e=>?_,λi j r hi O e3 e4=>?_,λa z=>z⟩
      ·obtain⟨j,xs,k,r,_,g0,gm,m,x,y,J,g5,g6,zs,g7,g8⟩:=T i hi;obtain⟨k',e⟩:=gi e;rw[g0]at e;cases e;exact⟨r,J,⟨i,hi,J⟩,zs,g7,(ak.Js gm g8).cg ab⟩
      ·obtain⟨k',e⟩:=gi e;obtain⟨v,b1,l⟩:=t.V_ e;refine⟨v,b1,?_⟩;have J4:i<rs.length:=(dV.mp e).1;have Wa:=(h3 i J4).resolve_left hi;rw[Xh,e]at Wa;refine Rep.cg ab (u:=u) ?_;cases k' with
       |own =>
        obtain⟨r,rfl,_,Y,d2,N⟩:=l;obtain⟨o,ho,_⟩:=N.some;exact N.rep sP ⟨⟨o,ho⟩,λz=>d2 (QE r z).1⟩
       |loc=>exact Rep.mv (.up sP) l
       |any=>exact Rep.mv (.up λa z=>z.elim (λz=>⟨t.ok.GW a (.inl z),λz'=>(QE a z').2.2.1 z⟩) (sP a)) l
       |bor j =>
        obtain⟨r,rfl,Y,d2,_,N⟩:=t.ok.rootOf l.1 l.2;obtain⟨o,ho,_⟩:=N.some;refine N.rep sP ⟨⟨o,ho⟩,λ⟨p',Wb,e'⟩=>?_⟩;obtain⟨j',xs,k2,r2,g,_,_,m,x,y,J,_⟩:=T p' Wb;rw[e']at J;cases J;obtain⟨k3,z1,z2⟩:=l.1;have:=t.ok.inj j j' k3 k2 _ _ r z1 m z2 x l.2 y;subst this;have:a5 j∉is.map (gN rs):=by simpa[yH] using Wa
        exact this (lg.mpr ⟨p',Wb,g⟩)
       |_=>exact l.elim
      ·obtain⟨j1,_,k1,r1,a0,_,_,a1,a2,a3,a4,_⟩:=T i hi;obtain⟨j2,_,k2,r2,b0,_,_,b1,l,b3,b4,_⟩:=T j O;rw[e3]at a4;cases a4;rw[e4]at b4;cases b4;have:=t.ok.inj j1 j2 k1 k2 _ _ r a1 b1 a2 l a3 b3;subst this;exact map_inj h2 i hi j O (by rw[a0,b0])
     have KH:RL X.prog X.w X.K F np is vs c.H (λv H'=>Q v H') E0:=⟨by rw[<-t.len,<-k2,c4],rs.map (·.2),kd,u,ws,Pr,IO,e2,k1,ac,λv H' S' B=>by
      classical
      let H1:Hp:=λa=>if IO a then c.H a else H' a
      have RM:∀a,¬IO a->H1 a=H' a:=λa z=>ő z;have QD:∀a,S' a->¬IO a:=λa z z'=>by
       obtain⟨o,ho⟩:=(QE a z').2.2.2;rw[(B.new a z).1]at ho;cases ho
      have QF:pU c.H H1:=λa o e=>by
       by_cases z:IO a
       ·show(if IO a then _ else _)=_;rw[Ő z];exact e
       ·rw[RM a z];exact B.same a o e z
      obtain⟨Jg,n1⟩:=t.ok.grow (H':=H1) (S':=λa=>c.S a\/S' a) QF (λa z=>z.imp id λz=>⟨(B.new a z).1,by rw[RM a (QD a z)];exact(B.new a z).2⟩) λa=>.inl;have QG:∀(n i:Nat) (r:fR),is[n]?=a5 i->vs[i]?=a5 (.ref r)->∃w,ws[n]?=a5 w/\cV (MK X.prog X.w X.K c.H Pr IO) S' H' r w:=λn i r a b=>by
       have hn:n<ws.length:=by rw[B.len];exact(dV.mp a).1
       exact⟨_,mN hn,B.K5 n i r _ a b (mN hn)⟩
      obtain⟨cf,f1,f2,f3,f4,f5,f6,f7,f8⟩:=uQ (C:=C) LM (rs:=rs) (vs:=vs) (H':=H') (S':=S') (S1:=λa=>c.S a\/S' a) (λa=>.inr) (IO:=IO) QD (λa o ⟨i,hi,z⟩ e=>by
        obtain⟨n,hn⟩:=List.getElem?_of_mem hi;obtain⟨w,_,g⟩:=QG n i a hn z;obtain⟨o',m,x⟩:=g.some;rw[e]at m;cases m;exact x) is ws {c with H:=H1,S:=λa=>c.S a\/S' a} st' Jg n1.toNs rfl UJ h2 (λp L a z=>⟨p,L,z⟩) (λp L j O=>by
        obtain⟨j',xs,k,r,g0,_,_,m,x,y,J,_⟩:=T p L;rw[O]at g0;cases g0;exact⟨k,_,r,m,x,y,J⟩) (λn i r w a b d=>B.K5 n i r w a b d) (λa ha=>RM a λ⟨p,L,z⟩=>ha p L z) RM
      subst f6;have Y0:∀a,cf.R a->c.R a:=λa z=>by
       rcases z with⟨j,k,u,m,x,y⟩|⟨j,u,r,m,x,y⟩
       ·obtain⟨u0,g⟩:=f8 j k u x;rw[f3]at y;exact .inl ⟨j,k,u0,m,g,y⟩
       ·obtain⟨u0,g⟩:=f8 j .IY u m;rw[f3]at x;rw[f7]at y;exact .inr ⟨j,u0,r,g,x,y⟩
      refine q cf v (f3.trans t.hσ) f5 f1 ⟨t.nx.toNs.trans f2⟩ ?_;rcases k1 with rfl|rfl
      ·obtain⟨r,rfl,Y,d2,N⟩:=B.own rfl;obtain⟨_,z1,_,_,z4⟩:=t.ok.jL Y;exact⟨r,rfl,t.nx.none Y,by rw[f4];exact λz=>z.elim z1 d2,λz=>z4 (Y0 r z),(N.cg LM).mv (.up λa z=>by rw[f4];exact .inr z) λo q=>q⟩
      ·exact((B.loc rfl).cg LM).mv (.up λa z=>by rw[f4];exact .inr z)⟩
     have z:=xT (Q:=Q) G hr B .nil GN I1 rv (by rw[r6];exact KH);rw[t.hσ]at z;exact z
    ·cases D
   ·cases D
  ·cases D
 ·cases D
end
structure Ck where
 fns:List Str
 gl:List (Str×U)
 K5:List (Str×List Nat)
 xc:List Str
 xd:List (Str×Str)
noncomputable def k9:U->U->Bool
 |.int i,.int j=>dt (i=j)
 |.str x,.str y=>dt (x=y)
 |.bl a,.bl b=>a==b
 |.Jc,.Jc=>b8
 |_,_=>cc
theorem bU(h:k9 u v=b8):u=v:=by
 cases u<;>cases v<;>simp[k9]at h<;>subst_vars<;>rfl
noncomputable def noStar:mx->Bool
 |.Starred _ _=>cc
 |_=>b8
noncomputable def dX:mx->Bool
 |.Slice _ _ _ _=>cc
 |_=>b8
noncomputable def sA:mx->Bool
 |.Set _ _ _=>cc
 |_=>b8
noncomputable def oU:mx->Bool
 |.Call (.Name _ _) [] [] _=>cc
 |_=>b8
noncomputable def dE:mx->Bool
 |.ListComp _ _ _ _=>cc
 |.SetComp _ _ _ _=>cc
 |.DictComp _ _ _ _ _=>cc
 |_=>b8
noncomputable def Fs:mx->Bool
 |.Tuple _ _ _=>cc
 |_=>b8
noncomputable def Kx(a:Nb)(x:Str):Bool:=dt (a.names.lookup x=a5 .globalImplicit)
noncomputable def gO(a:Nb)(x:Str):Bool:=dt (a.names.lookup x=a5 .local)||decide (a.names.lookup x=a5 .cell)||decide (a.names.lookup x=a5 .free)
noncomputable def lY(a:Nb)(x:Str):Bool:=dt (a.names.lookup x=a5 .local)||decide (a.names.lookup x=a5 .cell)
noncomputable def Hj(a:Nb)(x:Str):Bool:=dt (a.names.lookup x=a5 .local)
noncomputable def bp(x:Str):Bool:=!(x==("__debug__":Str))&&!(x==("__classdict__":Str))
noncomputable def uR(N:List Str)(a:Nb)(fa:Bool)(i:Nat):mx->Bool
 |.Name x _=>dt (N[i]?=a5 x)&&lY a x&&(fa||Hj a x)
 |_=>cc
noncomputable def oV(N:List Str)(a:Nb)(fa:Bool):List Nat->List mx->Bool
 |[],[]=>b8
 |i::is,e::es=>uR N a fa i e&&oV N a fa is es
 |_,_=>cc
noncomputable def gC:mx->List Str
 |.Name x _=>[x]
 |.Tuple es _ _=>es.filterMap fun|.Name x _=>a5 x|_=>b6
 |_=>[]
noncomputable def hide(a N:List Str):List Str:=match a.filter λx=>dt (x∈N) with
 |[]=>N
 |[x]=>N.set (N.idxOf x) "."
 |x::y::_=>(N.set (N.idxOf x) ".").set (N.idxOf y) ".."
noncomputable def Po(t:Bool)(N:List Str)(a:Nb)(fa:Bool)(is:List Nat):mx->Bool
 |.Name x p=>!t&&(match is with|[i]=>uR N a fa i (.Name x p)|_=>cc)
 |.Tuple es _ _=>t&&oV N a fa is es&&is.all λi=>dt (i<N.length)
 |_=>cc
noncomputable def isTup:mx->Bool
 |.Tuple _ _ _=>b8
 |_=>cc
noncomputable def iW(e:mx):Option (Str×List mx):=match e with
 |.Call f as kw _=>match f with
  |.Name x _=>if kw.isEmpty=b8 then a5 (x,as) else b6
  |_=>b6
 |_=>b6
theorem fO(h:iW e=a5 (x,as)):∃p q,e=.Call (.Name x p) as [] q:=by
 unfold iW at h;split at h
 ·split at h
  ·split at h
   ·rename_i hk;rw[y1]at hk;cases h;subst hk;exact⟨_,_,rfl⟩
   ·cases h
  ·cases h
 ·cases h
noncomputable def ze(e:mx):Option mx:=match e with
 |.Call f as kw q=>match f with
  |.Attribute a m p=>if kw.isEmpty=b8/\as.isEmpty=b8/\m="items"/\(p.endLine==q.line)=b8/\((iW a).any λz=>!z.2.isEmpty)=b8 then a5 a else b6
  |_=>b6
 |_=>b6
theorem sC(h:ze e=a5 a):∃x p b as q p2 f,a=.Call (.Name x p) (b::as) [] q/\e=.Call (.Attribute a "items" p2) [] [] f/\(p2.endLine==f.line)=b8:=by
 unfold ze at h;split at h
 ·split at h
  ·split at h
   ·rename_i hk;obtain⟨g,i,j,k,c⟩:=hk;rw[y1]at g i;cases h;subst g i j;cases d:iW a with
    |none=>rw[d]at c;cases c
    |some z =>
     rw[d]at c;obtain⟨x,as⟩:=z;obtain⟨p,q,rfl⟩:=fO d;cases as with
     |nil=>cases c
     |cons b as=>exact⟨_,_,_,_,_,_,_,rfl,rfl,k⟩
   ·cases h
  ·cases h
 ·cases h
noncomputable def fP(b:Nb)(c:mx)(d:Ik)(e:mx):Option (List mx):=match d with
 |.seq=>a5 [e]
 |.Kv=>(iW e).bind λp=>if p.1="range"/\Kx b p.1=b8/\p.2.length=1 then a5 p.2 else b6
 |.Ng=>(iW e).bind λp=>if p.1="enumerate"/\Kx b p.1=b8/\p.2.length=1/\isTup c=b8 then a5 p.2 else b6
 |.O'=>(ze e).bind λa=>if isTup c=b8 then a5 [a] else b6
 |_=>b6
noncomputable def simple:Bf->Bool:=λ_=>b8
noncomputable def Ft(scope a:Nb):Nb:={scope with names:=scope.names.map λ(n,k)=>if (k==Nr&&a.kind==.function&&a.names.lookup n==a5 .cell)=b8 then(n,.cell) else(n,k)}
noncomputable def aZ(e:mx)(k:Str->Bool):Bool:=match e with|.Name x _=>k x|_=>cc
theorem ao(h:aZ e k=b8):∃x p,e=.Name x p/\k x=b8:=by
 unfold aZ at h;split at h
 ·exact⟨_,_,rfl,h⟩
 ·cases h
noncomputable def cY{α:Type}(l:List α)(k:α->Bool):Bool:=match l with|[a]=>k a|_=>cc
theorem aS(h:cY l k=b8):∃a,l=[a]/\k a=b8:=by
 unfold cY at h;split at h
 ·exact⟨_,rfl,h⟩
 ·cases h
noncomputable def cZ(e:mx)(k:mx->List mx->Pos->Bool):Bool:=match e with|.Call f as kw p=>kw.isEmpty&&k f as p|_=>cc
theorem aT(h:cZ e k=b8):∃f as p,e=.Call f as [] p/\k f as p=b8:=by
 unfold cZ at h;split at h
 ·rename_i f as kw p;rw[cb,y1]at h;obtain⟨rfl,h⟩:=h;exact⟨_,_,_,rfl,h⟩
 ·cases h
noncomputable def sD(e:mx)(k:mx->Str->Pos->Bool):Bool:=match e with|.Attribute o m p=>k o m p|_=>cc
theorem qB(h:sD e k=b8):∃o m p,e=.Attribute o m p/\k o m p=b8:=by
 unfold sD at h;split at h
 ·exact⟨_,_,_,rfl,h⟩
 ·cases h
noncomputable def uS(e:mx)(k:mx->è->mx->Bool):Bool:=match e with|.BinOp a c b _=>k a c b|_=>cc
theorem k_(h:uS e k=b8):∃a c b p,e=.BinOp a c b p/\k a c b=b8:=by
 unfold uS at h;split at h
 ·exact⟨_,_,_,_,rfl,h⟩
 ·cases h
noncomputable def uT(e:mx)(k:mx->Ğ->mx->Bool):Bool:=match e with|.Compare a ops bs _=>cY ops λc=>cY bs λb=>k a c b|_=>cc
theorem gP(h:uT e k=b8):∃a c b p,e=.Compare a [c] [b] p/\k a c b=b8:=by
 unfold uT at h;split at h
 ·obtain⟨c,rfl,d⟩:=aS h;obtain⟨b,rfl,f⟩:=aS d;exact⟨_,_,_,_,rfl,f⟩
 ·cases h
noncomputable def e_(e:mx)(k:mx->Str->Pos->List mx->Pos->Bool):Bool:=cZ e λf as b=>sD f λo m a=>k o m a as b
theorem bN(h:e_ e k=b8):∃o m a as b,e=.Call (.Attribute o m a) as [] b/\k o m a as b=b8:=by
 obtain⟨f,as,p,rfl,h⟩:=aT h;obtain⟨o,m,q,rfl,h⟩:=qB h;exact⟨_,_,_,_,_,rfl,h⟩
noncomputable def ju(e:mx)(k:mx->mx->Bool):Bool:=match e with|.Subscript a b _=>k a b|_=>cc
theorem de(h:ju e k=b8):∃a b p,e=.Subscript a b p/\k a b=b8:=by
 unfold ju at h;split at h
 ·exact⟨_,_,_,rfl,h⟩
 ·cases h
noncomputable def UK:E->Bool
 |.var _=>b8
 |.cst _=>b8
 |_=>cc
noncomputable def jv{α:Type}(l:List α)(k:α->α->Bool):Bool:=match l with|[a,b]=>k a b|_=>cc
theorem cH(h:jv l k=b8):∃a b,l=[a,b]/\k a b=b8:=by
 unfold jv at h;split at h
 ·exact⟨_,_,rfl,h⟩
 ·cases h
noncomputable def zf(e:mx)(k:Const->Bool):Bool:=match e with|.Constant c _ _=>k c|_=>cc
theorem la(h:zf e k=b8):∃c q p,e=.Constant c q p/\k c=b8:=by
 unfold zf at h;split at h
 ·exact⟨_,_,_,rfl,h⟩
 ·cases h
noncomputable def IT:Const->Option U
 |.int j=>a5 (.int j)
 |.str y=>a5 (.str y)
 |.bool y=>a5 (.bl y)
 |.none=>a5 .Jc
 |_=>b6
noncomputable def IU(u:U)(c:Const):Bool:=match IT c with|some v=>k9 u v|none=>cc
noncomputable def Cm(e:mx)(a:BoolOp)(k:List mx->Bool):Bool:=match e with|.BoolOp o es _=>dt (o=a)&&k es|_=>cc
theorem iX(h:Cm e a k=b8):∃es p,e=.BoolOp a es p/\k es=b8:=by
 unfold Cm at h;split at h
 ·rw[cb,ŏ]at h;obtain⟨rfl,h⟩:=h;exact⟨_,_,rfl,h⟩
 ·cases h
noncomputable def Fu(e:mx)(b:UnaryOp)(k:mx->Bool):Bool:=match e with|.UnaryOp o a _=>dt (o=b)&&k a|_=>cc
theorem m7(h:Fu e b k=b8):∃a p,e=.UnaryOp b a p/\k a=b8:=by
 unfold Fu at h;split at h
 ·rw[cb,ŏ]at h;obtain⟨rfl,h⟩:=h;exact⟨_,_,rfl,h⟩
 ·cases h
noncomputable def Fv(e:mx)(k:mx->mx->mx->Bool):Bool:=match e with|.IfExp c a b _=>k c a b|_=>cc
theorem wZ(h:Fv e k=b8):∃c a b p,e=.IfExp c a b p/\k c a b=b8:=by
 unfold Fv at h;split at h
 ·exact⟨_,_,_,_,rfl,h⟩
 ·cases h
noncomputable def uU(e:mx)(k:List mx->Bool):Bool:=match e with|.Tuple l _ _=>k l|_=>cc
theorem lb(h:uU e k=b8):∃l q p,e=.Tuple l q p/\k l=b8:=by
 unfold uU at h;split at h
 ·exact⟨_,_,_,rfl,h⟩
 ·cases h
noncomputable def zg(e:mx)(k:List mx->Bool):Bool:=match e with|.List l _=>k l|_=>cc
theorem sE(h:zg e k=b8):∃l p,e=.List l p/\k l=b8:=by
 unfold zg at h;split at h
 ·exact⟨_,_,rfl,h⟩
 ·cases h
noncomputable def Cn(e:mx):Bool:=match e with|.Dict a b _=>a.isEmpty&&b.isEmpty|_=>cc
theorem m8(h:Cn e=b8):∃p,e=.Dict [] [] p:=by
 unfold Cn at h;split at h
 ·rw[cb,y1,y1]at h;obtain⟨rfl,rfl⟩:=h;exact⟨_,rfl⟩
 ·cases h
noncomputable def zh(e:mx)(k:Option mx->Option mx->Bool):Bool:=match e with|.Slice a b c _=>c.isNone&&k a b|_=>cc
theorem sF(h:zh e k=b8):∃a b p,e=.Slice a b b6 p/\k a b=b8:=by
 unfold zh at h;split at h
 ·rw[cb,RU]at h;obtain⟨rfl,h⟩:=h;exact⟨_,_,_,rfl,h⟩
 ·cases h
noncomputable def Fw(e:mx)(k:List mx->Bool):Bool:=match e with|.JoinedStr l _=>(match l with|_::_::_=>b8|_=>cc)&&k l|_=>cc
theorem w9(h:Fw e k=b8):∃a b l p,e=.JoinedStr (a::b::l) p/\k (a::b::l)=b8:=by
 unfold Fw at h;split at h
 ·rw[cb]at h;obtain⟨c,h⟩:=h;split at c
  ·exact⟨_,_,_,_,rfl,h⟩
  ·cases c
 ·cases h
noncomputable def Fx(e:mx)(k:mx->mx->mx->List mx->Nb->Bool):Bool:=match e with|.ListComp elt a b _=>cY a λg=>dt (g.is_async=0)&&k elt g.target g.iter g.ifs b|_=>cc
theorem iY(h:Fx e k=b8):∃elt d a b f p,e=.ListComp elt [⟨d,a,b,0⟩] f p/\k elt d a b f=b8:=by
 unfold Fx at h;split at h
 ·obtain⟨⟨d,a,b,z⟩,rfl,c⟩:=aS h;rw[cb,ŏ]at c;obtain⟨rfl,c⟩:=c;exact⟨_,_,_,_,_,_,rfl,c⟩
 ·cases h
noncomputable def zi(e:mx)(k:mx->Ğ->Ğ->mx->mx->Bool):Bool:=match e with|.Compare a ops d _=>jv ops λp q=>jv d λb c=>k a p q b c|_=>cc
theorem sG(h:zi e k=b8):∃a p q b c r,e=.Compare a [p,q] [b,c] r/\k a p q b c=b8:=by
 unfold zi at h;split at h
 ·obtain⟨p,q,rfl,d⟩:=cH h;obtain⟨b,c,rfl,f⟩:=cH d;exact⟨_,_,_,_,_,_,rfl,f⟩
 ·cases h
mutual
noncomputable def bq(k:Ck):E->List Str->Nb->mx->Bool
 |.var i,N,g,h=>aZ h λx=>dt (N[i]?=a5 x)&&gO g x&&bp x
 |.cst u,N,g,h=>zf h λc=>IU u c
 |.Pa x u,N,g,h=>aZ h λy=>dt (x=y)&&Kx g x&&bp x&&k.gl.any λp=>dt (p.1=x)&&k9 p.2 u
 |.bin C a b,N,g,h=>uS h λa' B s=>dt (C.op=B)&&bq k a N g a'&&bq k b N g s
 |.cmp C a b,N,g,h=>uT h λa' B s=>dt (C.op=B)&&!Rq B s&&bq k a N g a'&&bq k b N g s
 |.LG H o2 a b c,N,g,h=>zi h λa' p q s G=>dt (H.op=p)&&dt (o2.op=q)&&!lastMarks [p,q] [s,G]&&bq k a N g a'&&bq k b N g s&&bq k c N g G
 |.and es,N,g,h=>Cm h .And λv=>aW k es N g v
 |.or es,N,g,h=>Cm h .Or λv=>aW k es N g v
 |.not a,N,g,h=>Fu h .Not λa'=>bq k a N g a'
 |.ite c a b,N,g,h=>Fv h λG a' s=>bq k c N g G&&bq k a N g a'&&bq k b N g s
 |.neg _,_,_,_=>cc
 |.bad,_,_,_=>b8
 |.pop i,N,g,h=>e_ h λo m j as z=>aZ o λx=>as.isEmpty&&dt (m="pop")&&dt (N[i]?=a5 x)&&gO g x&&bp x&&(j.endLine==z.line)
 |.LJ i a,N,g,h=>e_ h λo m j as z=>aZ o λx=>cY as λa'=>dt (m="pop")&&dt (N[i]?=a5 x)&&gO g x&&bp x&&(j.endLine==z.line)&&noStar a'&&bq k a N g a'
 |.Jb f es is,N,g,h=>cZ h λf' v _=>aZ f' λx=>dt (x=f)&&dt ((f,is)∈k.K5)&&Kx g x&&bp x&&!v.isEmpty&&aW k es N g v
 |.inD neg a i,N,g,h=>uT h λa' B s=>aZ s λx=>dt (Fj neg=B)&&!Rq B s&&dt (N[i]?=a5 x)&&gO g x&&bp x&&bq k a N g a'
 |.Pb i,N,g,h=>aZ h λx=>dt (N[i]?=a5 x)&&gO g x&&bp x
 |.LH i a b,N,g,h=>e_ h λo m j as z=>aZ o λx=>jv as λa' s=>dt (m="get")&&dt (N[i]?=a5 x)&&gO g x&&bp x&&(j.endLine==z.line)&&noStar a'&&noStar s&&bq k a N g a'&&bq k b N g s
 |.Pc i,N,g,h=>cZ h λf' as _=>aZ f' λf=>cY as λc=>e_ c λo m j bs z=>aZ o λx=>bs.isEmpty&&dt (f="sorted")&&Kx g f&&dt (m="items")&&dt (N[i]?=a5 x)&&gO g x&&bp x&&(j.endLine==z.line)
 |.Pd ln a b,N,g,h=>cZ h λf' as _=>aZ f' λf=>cY as λd=>uS d λl C r=>cZ l λI J _=>aZ I λL=>cY J λa'=>cZ r λO Q _=>aZ O λY=>cY Q λs =>
  dt (f=(if ln=b8 then("len":Str) else "sorted"))&&dt (L="set")&&dt (Y="set")&&dt (C=.Sub)&&Kx g f&&Kx g "set"&&noStar a'&&noStar s&&bq k a N g a'&&bq k b N g s
 |.fst es,N,g,h=>Fw h λl=>w_ k es N g l
 |.MV a T,N,g,h=>cZ h λf' as _=>aZ f' λx=>jv as λa' s=>aZ s λy=>dt (x="isinstance")&&dt (y=T.name)&&Kx g x&&Kx g y&&noStar a'&&bq k a N g a'
 |.tup es,N,g,h=>uU h λv=>aW k es N g v
 |.lst es,N,g,h=>zg h λv=>aW k es N g v
 |.KN _,N,g,h=>Cn h
 |.idx a b,N,g,h=>ju h λa' s=>dX s&&bq k a N g a'&&bq k b N g s
 |.Mb a lo hi,N,g,h=>ju h λa' s=>zh s λWc Ku=>bq k a N g a'&&sH k lo N g Wc&&sH k hi N g Ku
 |.bi f es,N,g,h=>cZ h λf' v _=>aZ f' λx=>dt (x=f.name)&&simple f&&Kx g x&&!v.isEmpty&&aW k es N g v
 |.Nh f es,N,g,h=>cZ h λf' as _=>aZ f' λx=>cY as λc=>cZ c λg' v _=>aZ g' λy=>dt (x=f.oN)&&dt (y=f.iw)&&Kx g x&&Kx g y&&!v.isEmpty&&aW k es N g v
 |.NR m a es,N,g,h=>e_ h λo name j v z=>dt (name=m.name)&&oU o&&(j.endLine==z.line)&&!v.isEmpty&&dt (v.length<20)&&bq k a N g o&&aW k es N g v
 |.call f es,N,g,h=>cZ h λf' v _=>aZ f' λx=>dt (x=f)&&dt (f∈k.fns)&&Kx g x&&bp x&&!v.isEmpty&&aW k es N g v
 |.comp n t ik src cond e,N,g,h=>Fx h λelt w A D scope =>
   dt ((gC w).length=n)&&Ep (gC w++hide (gC w) N) (gC w) scope g.names&&Po t (gC w++hide (gC w) N) (Ft scope g) cc (i0 n) w&&sA A &&
   (match fP g w ik A with
    |some as=>aW k src N g as
    |none=>cc) &&
   dt (D.length<=1)&&aW k cond (gC w++hide (gC w) N) (Ft scope g) D&&bq k e (gC w++hide (gC w) N) (Ft scope g) elt
noncomputable def w_(k:Ck):List E->List Str->Nb->List mx->Bool
 |[],_,_,a=>a.isEmpty
 |e::es,N,b,a=>match a with
  |.FormattedValue v (-1) b6 _::a=>bq k e N b v&&w_ k es N b a
  |.Constant (.str y) _ _::a=>(match e with|.cst u=>k9 u (.str y)|_=>cc)&&w_ k es N b a
  |_=>cc
noncomputable def aW(k:Ck):List E->List Str->Nb->List mx->Bool
 |[],_,_,a=>a.isEmpty
 |e::es,N,b,a=>match a with
  |e'::a=>noStar e'&&bq k e N b e'&&aW k es N b a
  |[]=>cc
noncomputable def sH(k:Ck):List E->List Str->Nb->Option mx->Bool
 |[],_,_,o=>o.isNone
 |[e],N,a,o=>match o with
  |some b=>bq k e N a b
  |none=>cc
 |_::_::_,_,_,_=>cc
end
noncomputable def bL:List Str:=["len","sorted","repr","max","min","all","any","list","tuple","str","int","range","enumerate","zip","reversed","set","dict","sum","isinstance","bool"]
structure Pp(ck:Ck)(K:PySem.W.Frag)(mg:Str->Option d3):Prop where
 xc:∀x∈ck.xc,∃C,mg x=a5 (.ref C)/\PySem.W.nsIn K qP x=a5 (a5 (.ref C))/\PySem.W.excIn K C O_ "ValueError.__new__"=b8
 xd:∀p∈ck.xd,∃C D,mg p.1=a5 (.ref C)/\PySem.W.nsIn K qP p.1=a5 (a5 (.ref C))/\mg p.2=a5 (.ref D)/\PySem.W.exmOne K (.ref C) (.ref C)=a5 b8/\(PySem.W.kitCls K (.ref C) (.ref D)==a5 b8&&C != D)=b8
structure Co(P:ve)(w:Jq)(K:PySem.W.Frag)(mg:Str->Option d3)(base:Jy)(d:Nat)(F:List U->Option (Ex (Kd×U)))(f:Str):Prop where
 ex:∃(np:Nat) (fa:fR) (fd:SF) (ps:List Str),iN P w K mg base (Ot P w) d fa fd ps (spT P w K F np)/\mg f=a5 (.ref fa)/\PySem.W.keepIn K (.ref fa)=b8/\Binds K fd ps []/\(∀us k u,F us=a5 (.ok (k,u))->(k=.own\/k=.loc\/k=.any)/\us.length=np)/\∀us c,F us=a5 (.exc c)->us.length=np
structure Cp(P:ve)(w:Jq)(K:PySem.W.Frag)(mg:Str->Option d3)(base:Jy)(d:Nat)(F:List U->Option (Ex (Kd×U)))(f:Str)(is:List Nat):Prop where
 ex:∃(np:Nat) (fa:fR) (fd:SF) (ps:List Str),iN P w K mg base Oa d fa fd ps (RL P w K F np is)/\mg f=a5 (.ref fa)/\PySem.W.keepIn K (.ref fa)=b8/\Binds K fd ps []/\∀us r,F us=a5 (.ok r)->us.length=np
structure Gd(ck:Ck)(Γ:Tab)(C:Ct)(d:Nat)(X:Cx):Prop where
 P:C.P=X.prog
 w:C.w=X.w
 K:C.K=X.K
 u:X.A.units+60<LU
 calm:X.calm=b8
 room:ft d X.A
 blt:∀x∈bL,X.mg x=b6
 fns:∀f∈ck.fns,Co X.prog X.w X.K X.mg X.base d (Γ f) f
 LY:∀p∈ck.gl,∃val v,X.mg p.1=a5 val/\RelV v val/\∀S H,Rep C S H p.2 v
 K5:∀p∈ck.K5,Cp X.prog X.w X.K X.mg X.base d (Γ p.1) p.1 p.2
theorem Gd.cx(g:Gd ck Γ C d X)(N:List Str)(a:Nb)(D:fR)(s:fS)(H:Hp)(ex:List fR):Gd ck Γ C d (Kb X N a D s H ex) :=
 ⟨g.P,g.w,g.K,g.u,g.calm,g.room,g.blt,g.fns,g.LY,g.K5⟩
theorem cI(h:gO a x=b8):K8 a x:=by
 unfold gO at h;simp only[Lj,ŏ]at h;rcases h with(h|h)|h
 ·exact .inl h
 ·exact .inr (.inl h)
 ·exact .inr (.inr h)
theorem aH(h:bp x=b8):(x==("__debug__":Str))=cc/\(x==("__classdict__":Str))=cc:=by
 unfold bp at h;simpa using h
theorem bf(h:noStar e=b8):i3 (e::es) env=(cc,wk e env)::i3 es env:=by
 cases e<;>first|rfl|cases h
theorem qC(h:dX e=b8):og e:=by
 intro o i;cases e<;>first|rfl|cases h
theorem sI(h:sA e=b8):∀x,MQ e env x=pure x:=by
 intro x;cases e<;>first|rfl|cases h
theorem jY(h:oU o=b8):Pz o name env a=a:=by
 cases o with
 |Call f as ks p =>
  cases f with
  |Name x q=>cases as with
   |nil=>cases ks with
    |nil=>cases h
    |cons _ _=>rfl
   |cons _ _=>rfl
  |_=>rfl
 |_=>rfl
theorem br(h:∀e∈es,noStar e=b8):(JL pos (i3 es env)).any (·.1)=cc/\(JL pos (i3 es env)).all (λx=>!x.1)=b8:=by
 induction es with
 |nil=>exact⟨rfl,rfl⟩
 |cons e es a =>
  rw[bf (h e (by simp))];have:=a λb c=>h b (by simp[c]);constructor
  ·show(cc||(JL pos (i3 es env)).any (·.1))=cc;rw[this.1];rfl
  ·show(!cc&&(JL pos (i3 es env)).all (λx=>!x.1))=b8;rw[this.2];rfl
theorem cP(h:aW k es N c a=b8):∀e∈a,noStar e=b8:=by
 induction es generalizing a with
 |nil =>
  cases a with
  |nil=>intro e he;cases he
  |cons _ _=>simp[aW]at h
 |cons x es b =>
  cases a with
  |nil=>intro e he;cases he
  |cons d a =>
   simp only[aW,cb]at h;intro e he;rcases et.mp he with rfl|he
   ·exact h.1.1
   ·exact b h.2 e he
theorem m9(a:fa=b8->∀x,X.fn x=b8)(h:uR X.N X.env.scope fa i e=b8):so X e i:=by
 cases e with
 |Name x p =>
  simp only[uR,cb,ŏ,lY,Lj,Hj]at h;refine⟨x,p,rfl,h.1.1,?_,?_⟩
  ·rcases h.1.2 with z|z
   ·exact .inl z
   ·exact .inr z
  ·rcases h.2 with z|z
   ·exact .inl (a z x)
   ·exact .inr z
 |_=>cases h
theorem lh(a:fa=b8->∀x,X.fn x=b8):∀{is:List Nat}{es:List mx},oV X.N X.env.scope fa is es=b8->eY X es is
 |[],[],_=>.nil
 |[],_::_,h=>by cases h
 |_::_,[],h=>by cases h
 |i::is,e::es,h=>by
  simp only[oV,cb]at h;exact .cons (m9 a h.1) (lh a h.2)
theorem uV(d:X.calm=b8)(e:C.K=X.K)(a:X.N.Nodup)(b:fa=b8->∀x,X.fn x=b8)(h:Po t X.N X.env.scope fa is c=b8):PG X c (tG C t is):=by
 cases c with
 |Name x p =>
  simp only[Po,cb,t4]at h;obtain⟨rfl,h⟩:=h;cases is with
  |nil=>cases h
  |cons i is=>cases is with
   |nil=>exact Fd a (m9 b h)
   |cons _ _=>cases h
 |Tuple es k p =>
  simp only[Po,cb,i8,ŏ]at h;obtain⟨⟨rfl,f⟩,g⟩:=h;exact G4 d e a (lh b f) g
 |_=>cases h
theorem m_(a N:List Str):d7 ((a++hide a N).drop a.length) N:=by
 rw[V5 rfl];unfold hide;split
 ·exact .refl N
 ·exact(d7.refl N).set _ (.inl rfl)
 ·exact((d7.refl N).set _ (.inl rfl)).set _ (.inr rfl)
noncomputable def Bf.Z2:Bf->Bool
 |.sum=>b8
 |.len=>b8|.sorted=>b8|.repr=>b8|.max=>b8|.min=>b8|.all=>b8|.any=>b8|_=>cc
noncomputable def Bf.id:Bf->String
 |.len=>"len"|.sorted=>"sorted"|.repr=>"repr"|.max=>"max"|.min=>"min"|.all=>"all"|.any=>"any"
 |.list=>"list"|.tuple=>"tuple"|.str=>"str"|.int=>"int"
 |.dict=>"dict"
 |.sum=>"sum"
theorem Cq:∀f:Bf,simple f=b8->u7 f.name=a5 f.val/\f.name∈bL/\f.name≠"__name__"/\(f.name==("__debug__":Str))=cc:=by
 intro f h;cases f<;>first|exact⟨by decide +kernel,by decide +kernel,by decide +kernel,by decide +kernel⟩|(cases h;done)
theorem Fy:∀f:Bf,simple f=b8->(f.val=.builtin f.id\/f.val=.type f.id):=by
 intro f h;cases f<;>first|exact .inl rfl|exact .inr rfl|(cases h;done)
theorem Fz:∀f:B2,f.oN∈bL/\f.iw∈bL:=by
 intro f;cases f<;>exact⟨by decide +kernel,by decide +kernel⟩
theorem Cr:∀f:Mf,Slot "str" f.name f.id/\Y8 (.builtin f.id)=pure (.type "method_descriptor"):=by
 intro f;cases f with
 |split=>exact⟨PySem.F.slot_str_split,PySem.F.type_str_split⟩
 |join=>exact⟨PySem.F.slot_str_join,PySem.F.type_str_join⟩
 |partition=>exact⟨PySem.F.slot_str_partition,PySem.F.type_str_partition⟩
 |endswith=>exact⟨PySem.F.slot_str_endswith,PySem.F.type_str_endswith⟩
section
theorem cE(h:Kx X.env.scope x=b8):Gl X x:=by
 unfold Kx at h;show X.env.kindOf x=a5 .globalImplicit;exact ŕ h
theorem Cs:("enumerate":Str)∈bL:=by decide +kernel
theorem lj:("isinstance":Str)∈bL:=by decide +kernel
theorem zj(T:Lc):T.name∈bL:=by cases T<;>decide +kernel
theorem Cu:("range":Str)∈bL:=by decide +kernel
theorem Dq(g:Gd ck Γ C d X)(h:fP X.env.scope k t c=a5 as)(o:PA X as (Ks C (bG Γ src)))(r:∀a,as=[a]->∃e,src=[e]/\PE X a (Je C (ev Γ e)))(s:∀e∈as,noStar e=b8):PI X k c (MH C t (bG Γ src)):=by
 unfold fP at h;split at h
 ·cases h;obtain⟨e,rfl,l⟩:=r _ rfl;exact E_ g.K l
 ·rw[nC]at h;obtain⟨⟨x,bs⟩,f,h⟩:=h;split at h
  ·rename_i m;cases h;obtain⟨i,j,hl⟩:=m
   dsimp only at i j hl
   subst i;obtain⟨p,q,rfl⟩:=fO f;obtain⟨b,rfl⟩:=Y4.mp hl;exact B5 (cE j) (g.blt _ Cu) (bf (s _ (by simp))) o
  ·cases h
 ·rw[nC]at h;obtain⟨⟨x,bs⟩,f,h⟩:=h;split at h
  ·rename_i m;cases h;obtain⟨i,j,hl,n⟩:=m
   dsimp only at i j hl
   subst i;obtain⟨p,q,rfl⟩:=fO f;obtain⟨b,rfl⟩:=Y4.mp hl;cases k with
   |Tuple es u ps=>exact Fb g.K (cE j) (g.blt _ Cs) (bf (s _ (by simp))) o
   |_=>cases n
  ·cases h
 ·rw[nC]at h;obtain⟨a,f,h⟩:=h;split at h
  ·rename_i n;cases h;obtain⟨e,rfl,l⟩:=r _ rfl;obtain⟨x,p,b,bs,q,p2,v,rfl,rfl,hl⟩:=sC f;cases k with
   |Tuple es u ps=>exact Fc rfl hl l
   |_=>cases n
  ·cases h
 ·cases h
theorem Dr{a:M α}{b:α->M β}{c:α->M γ}{g:γ->M δ}{st:az}{Q:δ->az->Prop}(w:W (a >>= λx=>b x >>= λ_=>c x >>= g) st Q):W ((a >>= λx=>b x >>= λ_=>c x) >>= g) st Q:=by
 simp only[ah]at w ⊢;exact w
theorem bH:PT X e (Km C M.fail):=λpins s σ H Q I ⟨_,_,_,_,w⟩=>(bo.mp w).elim
theorem ll:PE X e (Je C M.fail):=λpins s σ H Q I ⟨_,_,_,_,w⟩=>(bo.mp w).elim
theorem PT.eqv(h:PT X e (Km C m))(i:∀st Q,W a st Q->W m st Q):PT X e (Km C a):=PT.weak h λσ H Q ⟨b,c,d,f,w⟩=>⟨b,c,d,f,i _ _ w⟩
theorem Hk(g:Gd ck Γ C d X)(b:PA X a (Ks C (bG Γ es)))
  (h:(dt (x=f.name)&&simple f&&Kx X.env.scope x&&!a.isEmpty&&aW ck es X.N X.env.scope a)=b8):PE X (.Call (.Name x p) a [] pos) (Je C (ev Γ (.bi f es))):=by
 simp only[cb,ŏ,t4]at h;obtain⟨⟨⟨⟨rfl,c⟩,i⟩,m⟩,n⟩:=h;obtain⟨b1,j,b3,b4⟩:=Cq f c;have k:=cP n;cases a with
 |nil=>cases m
 |cons o l =>
  have st:=bf (env:=X.env) (es:=l) (k o (by simp));have sn:=(br (pos:=pos) (env:=X.env) (es:=l) λe q=>k e (by simp[q])).1;rcases Fy f c with hv|hv
  ·exact BX g.calm g.K g.room.gd g.u hv (cE i) (g.blt _ j) (by rw[b1,hv]) b3 b4 b st sn
  ·exact BY g.calm g.K g.room.gd g.u hv (cE i) (g.blt _ j) (by rw[b1,hv]) b3 b4 b st sn
theorem Hl(g:Gd ck Γ C d X)(i:PA X a (Ks C (bG Γ es)))
  (h:(dt (x=f.oN)&&dt (y=f.iw)&&Kx X.env.scope x&&Kx X.env.scope y&&!a.isEmpty&&aW ck es X.N X.env.scope a)=b8):PE X (.Call (.Name x p) [.Call (.Name y p2) a [] pos2] [] pos) (Je C (ev Γ (.Nh f es))):=by
 simp only[cb,ŏ,t4]at h;obtain⟨⟨⟨⟨⟨rfl,rfl⟩,j⟩,k⟩,l⟩,m⟩:=h;obtain⟨b1,n⟩:=Fz f;have b:=cP m;cases a with
 |nil=>cases l
 |cons o c =>
  have st:=bf (env:=X.env) (es:=c) (b o (by simp));have sn:=(br (pos:=pos2) (env:=X.env) (es:=c) λe q=>b e (by simp[q])).1;exact B4 g.calm g.K (cE j) (g.blt _ b1) (cE k) (g.blt _ n) i st sn
theorem Hm(g:Gd ck Γ C d X)(l:PE X o (Je C (ev Γ a)))(n:PA X b (Ks C (bG Γ es)))
  (h:(dt (name=m.name)&&oU o&&(c.endLine==i.line)&&!b.isEmpty&&dt (b.length<20)&&bq ck a X.N X.env.scope o&&aW ck es X.N X.env.scope b)=b8):PE X (.Call (.Attribute o name c) b [] i) (Je C (ev Γ (.NR m a es))):=by
 simp only[cb,ŏ,t4]at h;obtain⟨⟨⟨⟨⟨⟨rfl,p⟩,q⟩,r⟩,s⟩,w⟩,t⟩:=h;have j:=cP t;obtain⟨s1,s2⟩:=Cr m;cases b with
 |nil=>cases r
 |cons k f =>
  have st:=bf (env:=X.env) (es:=f) (j k (by simp));have sn:=(br (pos:=i) (env:=X.env) (es:=f) λe u=>j e (by simp[u])).1;have v:=(br (pos:=i) (env:=X.env) (es:=k::f) j).2;refine B3 g.K s1 s2 l n (jY p) ?_ q st sn;rw[v];have:(k::f).length+([]:List Oj).length+(if ([]:List Oj).isEmpty=b8 then 0 else 1)<30:=by simp at s ⊢;lia
  simp only[œ this];rfl
theorem zk(g:Gd ck Γ C d X)(i:PA X a (Ks C (bG Γ es)))
  (h:(dt (x=f)&&dt (f∈ck.fns)&&Kx X.env.scope x&&bp x&&!a.isEmpty&&aW ck es X.N X.env.scope a)=b8):PE X (.Call (.Name x p) a [] pos) (Je C (ev Γ (.call f es))):=by
 simp only[cb,ŏ,t4]at h;obtain⟨⟨⟨⟨⟨rfl,j⟩,k⟩,l⟩,m⟩,n⟩:=h;have b:=cP n;obtain⟨y,fa,z,ps,o,q,r,s,t,_⟩:=(g.fns _ j).ex;cases a with
 |nil=>cases m
 |cons u c =>
  have st:=bf (env:=X.env) (es:=c) (b u (by simp));have sn:=(br (pos:=pos) (env:=X.env) (es:=c) λe v=>b e (by simp[v])).1;exact yS g.P g.w g.K rfl t o g.room (cE k) q r s (aH l).1 i st sn
theorem FA(g:Gd ck Γ C d X)(i:PA X a (Ks C (bG Γ es)))
  (h:(dt (x=f)&&dt ((f,is)∈ck.K5)&&Kx X.env.scope x&&bp x&&!a.isEmpty&&aW ck es X.N X.env.scope a)=b8):PE X (.Call (.Name x p) a [] pos) (Je C (ev Γ (.Jb f es is))):=by
 simp only[cb,ŏ,t4]at h;obtain⟨⟨⟨⟨⟨rfl,j⟩,k⟩,l⟩,m⟩,n⟩:=h;have b:=cP n;obtain⟨y,fa,z,ps,o,q,r,s,t⟩:=(g.K5 _ j).ex;cases a with
 |nil=>cases m
 |cons u c =>
  have st:=bf (env:=X.env) (es:=c) (b u (by simp));have sn:=(br (pos:=pos) (env:=X.env) (es:=c) λe v=>b e (by simp[v])).1;exact zd g.P g.w g.K rfl t o g.room (cE k) q r s (aH l).1 (Cj i) st sn
theorem dJ(h:(b&&aW k es N a c)=b8):aW k es N a c=b8:=(KJ.mp h).2
mutual
theorem bB:∀(e:E) (X:Cx) (q:mx),Gd ck Γ C d X->bq ck e X.N X.env.scope q=b8->PE X q (Je C (ev Γ e))
 |.var i,X,q,g,h=>by
  obtain⟨x,G,rfl,k⟩:=ao h;clear h;have h:=k;simp only[cb,ŏ]at h;obtain⟨O,Y⟩:=aH h.2;exact oM h.1.1 (cI h.1.2) O Y
 |.cst u,X,q,g,h=>by
  obtain⟨c,q0,G,rfl,k⟩:=la h;cases c with
  |int j=>have:=bU k;subst this;exact ir xH λ_ _=>rfl
  |str y=>have:=bU k;subst this;exact ir nW λ_ _=>rfl
  |bool y=>have:=bU k;subst this;exact ir Dd λ_ _=>rfl
  |none=>have:=bU k;subst this;exact ir xI λ_ _=>rfl
  |_=>cases k
 |.Pa x u,X,q,g,h=>by
  obtain⟨y,G,rfl,k⟩:=ao h;clear h;have h:=k;simp only[cb,ŏ,S9]at h;obtain⟨⟨⟨rfl,J⟩,h2⟩,p,hp,e1,e2⟩:=h;have:=bU e2;subst this e1;obtain⟨val,v,q1,q2,q3⟩:=g.LY p hp;exact ir (AU (cE J) q1 q2 (aH h2).1) q3
 |.bin op a b,X,q,g,h=>by
  obtain⟨a',ML,b',G,rfl,k⟩:=k_ h;clear h;have h:=k;simp only[cb,ŏ]at h;obtain⟨⟨rfl,J⟩,h2⟩:=h;exact BJ g.K (bB a X _ g J) (bB b X _ g h2)
 |.cmp op a b,X,q,g,h=>by
  obtain⟨a',ML,b',G,rfl,A⟩:=gP h;have h:=A;simp only[cb,ŏ,t4]at h;obtain⟨⟨⟨rfl,h0⟩,J⟩,h2⟩:=h;exact BK g.P g.w g.K g.u (bB a X _ g J) (bB b X _ g h2) h0
 |.LG o1 o2 a b c,X,q,g,h=>ll
 |.and es,X,q,g,h=>by
  obtain⟨IZ,G,rfl,k⟩:=iX h;clear h;have h:=k;exact zl es X _ g h
 |.or es,X,q,g,h=>ll
 |.not a,X,q,g,h=>by
  obtain⟨a',G,rfl,k⟩:=m7 h;clear h;have h:=k;exact BM (bB a X _ g h)
 |.neg a,X,q,g,h=>absurd (show cc=b8 from h) kr
 |.bad,X,q,g,h=>ll
 |.pop i,X,q,g,h=>by
  obtain⟨o,m,ab,as,G',rfl,A⟩:=bN h;obtain⟨x,px,rfl,B⟩:=ao A;simp only[cb,ŏ,y1]at B;obtain⟨⟨⟨⟨⟨rfl,rfl⟩,J⟩,h2⟩,O⟩,Y⟩:=B;obtain⟨q1,q2⟩:=aH O;exact Cg J (cI h2) q1 q2 Y g.K
 |.LJ i a,X,q,g,h=>by
  obtain⟨o,m,ab,as,G',rfl,A⟩:=bN h;obtain⟨x,px,rfl,B⟩:=ao A;obtain⟨a',rfl,z3⟩:=aS B;simp only[cb,ŏ]at z3;obtain⟨⟨⟨⟨⟨⟨rfl,J⟩,h2⟩,O⟩,Y⟩,L⟩,h6⟩:=z3;obtain⟨q1,q2⟩:=aH O;have sa:=br (pos:=G') (env:=X.env) (es:=[a']) λe he=>by rw[i7.mp he];exact L
  exact zb g.K J (cI h2) q1 q2 (bB a X _ g h6) (by rw[sa.2];rfl) Y (bf L)
 |.Jb f es is,X,q,g,h=>by
  obtain⟨f',as,G,rfl,A⟩:=aT h;obtain⟨x,p1,rfl,B⟩:=ao A;exact FA g (iZ es X _ g (dJ B)) B
 |.inD neg a i,X,q,g,h=>ll
 |.Pb i,X,q,g,h=>by
  obtain⟨x,G,rfl,k⟩:=ao h;clear h;have h:=k;simp only[cb,ŏ]at h;obtain⟨O,Y⟩:=aH h.2;exact B8 h.1.1 (cI h.1.2) O Y
 |.LH i a b,X,q,g,h=>by
  obtain⟨o,m,ab,as,G',rfl,A⟩:=bN h;obtain⟨x,px,rfl,B⟩:=ao A;obtain⟨a',b',rfl,z3⟩:=cH B;clear h A;have B:=z3;simp only[cb,ŏ]at B;obtain⟨⟨⟨⟨⟨⟨⟨⟨rfl,J⟩,h2⟩,O⟩,Y⟩,L⟩,h6⟩,h7⟩,h8⟩:=B;obtain⟨q1,q2⟩:=aH O;have sa:=br (pos:=G') (env:=X.env) (es:=[a',b']) λe he=>by
   rcases et.mp he with rfl|he
   ·exact L
   ·simp at he;subst he;exact h6
  exact y_ g.u J (cI h2) q1 q2 (bB a X _ g h7) (bB b X _ g h8) ⟨rfl,by rw[sa.2];rfl,Y,by rw[bf L,bf h6];rfl⟩
 |.Pc i,X,q,g,h=>by
  obtain⟨f',as,_,rfl,A⟩:=aT h;obtain⟨f,_,rfl,B⟩:=ao A;obtain⟨c,rfl,z3⟩:=aS B;obtain⟨o,m,ab,bs,G',rfl,z4⟩:=bN z3;obtain⟨x,px,rfl,z5⟩:=ao z4;simp only[cb,ŏ,y1]at z5;obtain⟨⟨⟨⟨⟨⟨⟨rfl,rfl⟩,J⟩,rfl⟩,O⟩,Y⟩,L⟩,h6⟩:=z5;obtain⟨q1,q2⟩:=aH L;exact Cb g.calm g.K (cE J) (g.blt _ (by decide +kernel)) O (cI Y) q1 q2 h6
 |.Pd ln a b,X,q,g,h=>by
  obtain⟨_,_,_,rfl,k⟩:=aT h;obtain⟨_,_,rfl,A⟩:=ao k;obtain⟨_,rfl,B⟩:=aS A;obtain⟨_,_,_,_,rfl,z3⟩:=k_ B;obtain⟨_,_,_,rfl,z4⟩:=aT z3;obtain⟨_,_,rfl,z5⟩:=ao z4;obtain⟨_,rfl,z6⟩:=aS z5;obtain⟨_,_,_,rfl,z7⟩:=aT z6;obtain⟨_,_,rfl,z8⟩:=ao z7;obtain⟨_,rfl,z9⟩:=aS z8;simp only[cb,ŏ]at z9;obtain⟨⟨⟨⟨⟨⟨⟨⟨⟨rfl,rfl⟩,rfl⟩,rfl⟩,J⟩,h2⟩,O⟩,Y⟩,L⟩,h6⟩:=z9;exact Ce (ln:=ln) g.calm g.K (cE J) (g.blt _ (by cases ln<;>decide +kernel)) (cE h2) (g.blt _ (by decide +kernel)) (bB a X _ g L) (bB b X _ g h6) (bf O) (bf Y)
 |.fst es,X,q,g,h=>by
  obtain⟨e1,e2,l,G,rfl,k⟩:=w9 h;clear h;have h:=k;exact B1 (FC es X _ g h nH (by decide))
 |.MV a T,X,q,g,h=>by
  obtain⟨f',as,G,rfl,A⟩:=aT h;obtain⟨x,p1,rfl,B⟩:=ao A;clear h A;obtain⟨a',b',rfl,z4⟩:=cH B;obtain⟨y,p2,rfl,z3⟩:=ao z4;have h:=z3;simp only[cb,ŏ]at h;obtain⟨⟨⟨⟨⟨rfl,rfl⟩,J⟩,h2⟩,O⟩,Y⟩:=h;exact uL g.K (cE J) (g.blt _ lj) (cE h2) (g.blt _ (zj T)) (bB a X _ g Y) (bf O)
 |.ite c a b,X,q,g,h=>by
  obtain⟨c',a',b',G,rfl,k⟩:=wZ h;clear h;have h:=k;simp only[cb]at h;exact BN (lZ c X _ g h.1.1) (bB a X _ g h.1.2) (bB b X _ g h.2)
 |.tup es,X,q,g,h=>by
  obtain⟨l,q0,G,rfl,k⟩:=lb h;clear h;have h:=k;exact BR (iZ es X _ g h)
 |.lst es,X,q,g,h=>by
  obtain⟨l,G,rfl,k⟩:=sE h;clear h;have h:=k;exact BS (iZ es X _ g h)
 |.KN r,X,q,g,h=>by
  obtain⟨G,rfl⟩:=m8 h;exact yR g.P g.w r
 |.idx a b,X,q,g,h=>by
  obtain⟨a',b',G,rfl,k⟩:=de h;clear h;have h:=k;simp only[cb]at h;exact BU g.K g.u (qC h.1.1) (bB a X _ g h.1.2) (bB b X _ g h.2)
 |.Mb a lo hi,X,q,g,h=>by
  obtain⟨a',b',G,rfl,A⟩:=de h;obtain⟨Wc,Ku,p1,rfl,k⟩:=sF A;clear h A;simp only[cb]at k;exact BV g.K (bB a X _ g k.1.1) (Hn lo X _ g k.1.2) (Hn hi X _ g k.2)
 |.bi f es,X,q,g,h=>by
  obtain⟨f',as,G,rfl,A⟩:=aT h;obtain⟨x,p1,rfl,B⟩:=ao A;have h:=B;exact Hk g (iZ es X _ g (dJ h)) h
 |.Nh f es,X,q,g,h=>by
  obtain⟨f',as,G,rfl,A⟩:=aT h;obtain⟨x,p1,rfl,B⟩:=ao A;obtain⟨c,rfl,z3⟩:=aS B;obtain⟨g',as',p2,rfl,z4⟩:=aT z3;obtain⟨y,p3,rfl,z5⟩:=ao z4;have h:=z5;exact Hl g (iZ es X _ g (dJ h)) h
 |.NR m a es,X,q,g,h=>by
  obtain⟨o,name,ab,as,G',rfl,A⟩:=bN h;have h:=A;have h':=h;simp only[cb]at h';exact Hm g (bB a X _ g h'.1.2) (iZ es X _ g (dJ h)) h
 |.call f es,X,q,g,h=>by
  obtain⟨f',as,G,rfl,A⟩:=aT h;obtain⟨x,p1,rfl,B⟩:=ao A;have h:=B;exact zk g (iZ es X _ g (dJ h)) h
 |.comp n t ik src cond e,X,q,g,h=>by
  obtain⟨elt,tg,ac,ag,scope,G,rfl,k⟩:=iY h;clear h;have h:=k;simp only[cb,ŏ]at h;obtain⟨⟨⟨⟨⟨⟨⟨J,h2⟩,O⟩,Y⟩,L⟩,h6⟩,h7⟩,h8⟩:=h;subst J;have S:=yd (X:=X) rfl (m_ _ _) h2;split at L
  ·rename_i as al;have Jh:=cP L;have hI:PI X tg ac (MH C ik (bG Γ src)):=Dq g al (iZ src X _ g L) (λa e=>by
    subst e;cases src with
    |nil=>simp[aW]at L
    |cons e1 JN =>
     cases JN with
     |nil =>
      simp only[aW,cb]at L;exact⟨e1,rfl,bB e1 X _ g L.1.2⟩
     |cons _ _=>simp[aW]at L) Jh
   exact y0 S g.calm hI (λD s H ex=>uV (fa:=cc) g.calm g.K S.nd (λz=>nomatch z) O)
    (λD s H ex=>by
     cases ag with
     |nil =>
      cases cond with
      |nil=>exact λpins s σ H Q I ⟨c0,e1,e2,ok,w⟩=>ue pins s σ H Q I (by subst e1 e2;rw[show bb Γ []=pure b8 from rfl,aq]at w;exact w c0 rfl rfl ok (Nx.refl c0))
      |cons _ _=>simp[aW]at h7
     |cons c1 cs =>
      cases cs with
      |nil =>
       cases cond with
       |nil=>simp[aW]at h7
       |cons e1 JN =>
        cases JN with
        |nil =>
         simp only[aW,cb]at h7;exact uf (lZ e1 (Kb X _ scope D s H ex) c1 (g.cx _ _ _ _ _ _) h7.1.2)
        |cons _ _=>simp[aW]at h7
      |cons _ _=>simp at h6)
    (λD s H ex=>bB e (Kb X _ scope D s H ex) elt (g.cx _ _ _ _ _ _) h8) (sI Y)
  ·cases L
theorem FC:∀(es:List E) (X:Cx) (b:List mx),Gd ck Γ C d X->w_ ck es X.N X.env.scope b=b8->∀out:Str,out.length<=cL->PJ X out b (Je C (Nk Γ es out >>= λy=>pure (.loc,.str y)))
 |[],X,b,g,h,out,hz=>by
  cases b with
  |nil=>exact E3 hz
  |cons _ _=>simp[w_]at h
 |e::es,X,b,g,h,out,hz=>by
  simp only[w_]at h;split at h
  ·simp only[cb]at h;have z:=E5 (p:=by assumption) (out:=out) (bB e X _ g h.1) λy a=>FC es X _ g h.2 y a;rintro pins s σ H Q I ⟨c,f,i,j,w⟩;refine z pins s σ H Q I ⟨c,f,i,j,?_⟩;simp only[Nk,ah]at w ⊢;exact w
  ·simp only[cb]at h;cases e with
   |cst u =>
    have l:=bU h.1;subst l;rintro pins s σ H Q I ⟨c,f,i,j,w⟩;simp only[Nk,ah]at w;rw[show ev Γ (.cst (.str _))=pure (.loc,.str _) from rfl,aq]at w;obtain⟨m,a,w⟩:=bK.mp w;simp only[qw]at a;split at a
    ·rename_i k;cases a;exact E4 (FC es X _ g h.2 _ k.2) k.2 pins s σ H Q I ⟨c,f,i,j,by rw[ah];exact w⟩
    ·cases a
   |_=>simp at h
  ·cases h
theorem iZ:∀(es:List E) (X:Cx) (a:List mx),Gd ck Γ C d X->aW ck es X.N X.env.scope a=b8->PA X a (Ks C (bG Γ es))
 |[],X,a,g,h=>by
  cases a with
  |nil=>exact BQ
  |cons _ _=>simp[aW]at h
 |e::es,X,a,g,h=>by
  cases a with
  |nil=>simp[aW]at h
  |cons b a =>
   simp only[aW,cb]at h;exact yP (bB e X b g h.1.2) (iZ es X a g h.2) (bf h.1.1)
theorem Hn:∀(es:List E) (X:Cx) (o:Option mx),Gd ck Γ C d X->sH ck es X.N X.env.scope o=b8->PO X o (tO C (Ox Γ es))
 |[],X,o,g,h=>by
  cases o with
  |none=>exact wN
  |some _=>simp[sH]at h
 |[e],X,o,g,h=>by
  cases o with
  |none=>simp[sH]at h
  |some a=>simp only[sH]at h;exact wO (bB e X a g h)
 |_::_::_,X,o,g,h=>by simp[sH]at h
theorem zl:∀(es:List E) (X:Cx) (a:List mx),Gd ck Γ C d X->aW ck es X.N X.env.scope a=b8->∀{pos},PE X (.BoolOp .And a pos) (Je C (il Γ es))
 |[],X,a,g,h,pos=>ll
 |[e],X,a,g,h,pos=>by
  cases a with
  |nil=>simp[aW]at h
  |cons b a =>
   cases a with
   |nil=>simp only[aW,cb]at h;exact DR (bB e X b g h.1.2)
   |cons _ _=>simp[aW]at h
 |e::c::es,X,a,g,h,pos=>by
  cases a with
  |nil=>simp[aW]at h
  |cons b a =>
   have h':noStar b=b8/\bq ck e X.N X.env.scope b=b8/\aW ck (c::es) X.N X.env.scope a=b8:=by
    rw[aW]at h;simp only[cb]at h;exact⟨h.1.1,h.1.2,h.2⟩
   cases a with
   |nil=>have:=h'.2.2;simp[aW]at this
   |cons f i=>exact snd_and (bB e X b g h'.2.1) (zl (c::es) X _ g h'.2.2)
theorem lZ:∀(e:E) (X:Cx) (j:mx),Gd ck Γ C d X->bq ck e X.N X.env.scope j=b8->PT X j (Km C (Jt Γ e))
 |.and es,X,j,g,h=>by
  obtain⟨G,o,rfl,k⟩:=iX h;clear h;have h:=k;exact(uW es X _ g h).pt
 |.or es,X,j,g,h=>by
  obtain⟨G,o,rfl,k⟩:=iX h;clear h;have h:=k;exact(zm es X _ g h).pt
 |.not a,X,j,g,h=>by
  obtain⟨a',o,rfl,k⟩:=m7 h;clear h;have h:=k;exact BO (lZ a X _ g h)
 |.cmp H a b,X,j,g,h=>by
  obtain⟨a',I,B,o,rfl,l⟩:=gP h;have h:=l;simp only[cb,ŏ,t4]at h;obtain⟨⟨⟨rfl,z⟩,p⟩,q⟩:=h;exact BL g.P g.w g.K g.u (bB a X _ g p) (bB b X _ g q) z
 |.LG o1 o2 a b c,X,j,g,h=>by
  obtain⟨a',Z3,Z4,B,c',o,rfl,k⟩:=sG h;clear h;have h:=k;simp only[cb,ŏ,t4]at h;obtain⟨⟨⟨⟨⟨rfl,rfl⟩,z⟩,p⟩,q⟩,s⟩:=h;exact yO g.P g.w g.K g.u (bB a X _ g p) (bB b X _ g q) (bB c X _ g s) z
 |.var i,X,j,g,h=>by
  obtain⟨x,o,rfl,k⟩:=ao h;simp only[cb,ŏ]at k;obtain⟨s,A⟩:=aH k.2;exact jX (oM k.1.1 (cI k.1.2) s A) g.K λ_=>rfl
 |.idx a b,X,j,g,h=>bH
 |.bi f es,X,j,g,h=>by
  obtain⟨f',as,o,rfl,l⟩:=aT h;obtain⟨x,D,rfl,v⟩:=ao l;have h:=v;refine PT.eqv (jX (Hk g (iZ es X _ g (dJ h)) h) g.K λ_=>rfl) λst Q w=>Dr w
 |.Nh f es,X,j,g,h=>bH
 |.NR m a es,X,j,g,h=>bH
 |.call f es,X,j,g,h=>by
  obtain⟨f',as,o,rfl,l⟩:=aT h;obtain⟨x,D,rfl,v⟩:=ao l;have h:=v;refine PT.eqv (jX (zk g (iZ es X _ g (dJ h)) h) g.K λ_=>rfl) λst Q w=>Dr w
 |.cst u,X,j,g,h=>bH
 |.fst es,X,j,g,h=>bH
 |.Pa x u,X,j,g,h=>bH
 |.neg a,X,j,g,h=>bH
 |.MV a T,X,j,g,h=>by
  obtain⟨f',as,o,rfl,l⟩:=aT h;obtain⟨x,D,rfl,v⟩:=ao l;clear h l;obtain⟨a',B,rfl,J⟩:=cH v;obtain⟨y,p2,rfl,L⟩:=ao J;have h:=L;simp only[cb,ŏ]at h;obtain⟨⟨⟨⟨⟨rfl,rfl⟩,p⟩,q⟩,s⟩,A⟩:=h;refine PT.eqv (jX (uL g.K (cE p) (g.blt _ lj) (cE q) (g.blt _ (zj T)) (bB a X _ g A) (bf s)) g.K λ_=>rfl) λst Q w=>?_;have w:W (ev Γ a >>= λx=>M.Jp (oJ x.2 T)) st Q:=w;simp only[ah]at w ⊢;refine W.mono w λx s1 O=>?_;obtain⟨b,e,Y⟩:=bK.mp O;exact bK.mpr ⟨b,e,aq.mpr (bK.mpr ⟨b,rfl,Y⟩)⟩
 |.bad,X,j,g,h=>bH
 |.pop i,X,j,g,h=>bH
 |.LJ i a,X,j,g,h=>bH
 |.Jb f es is,X,j,g,h=>bH
 |.inD neg a i,X,j,g,h=>by
  obtain⟨a',I,B,o,rfl,l⟩:=gP h;obtain⟨x,D,rfl,v⟩:=ao l;have h:=v;simp only[cb,ŏ,t4]at h;obtain⟨⟨⟨⟨⟨rfl,z⟩,p⟩,q⟩,s⟩,A⟩:=h;obtain⟨q1,q2⟩:=aH s;exact B9 g.u p (cI q) q1 q2 (bB a X _ g A) z
 |.Pb i,X,j,g,h=>bH
 |.Pd ln a b,X,j,g,h=>bH
 |.Pc i,X,j,g,h=>bH
 |.LH i a b,X,j,g,h=>bH
 |.bin H a b,X,j,g,h=>bH
 |.ite c a b,X,j,g,h=>bH
 |.tup es,X,j,g,h=>bH
 |.lst es,X,j,g,h=>bH
 |.KN r,X,j,g,h=>bH
 |.Mb a lo hi,X,j,g,h=>bH
 |.comp n t ik src cond e,X,j,g,h=>bH
theorem uW:∀(es:List E) (X:Cx) (a:List mx),Gd ck Γ C d X->aW ck es X.N X.env.scope a=b8->∀{pos},PW X (.BoolOp .And a pos) (Km C (bb Γ es))
 |[],X,a,g,h,pos=>by
  cases a with
  |nil =>
   rintro j pins s σ H Q I ⟨c,rfl,rfl,i,w⟩;rw[show bb Γ []=pure b8 from rfl,aq]at w;exact Ō ⟨c.H,I,w c rfl rfl i (Nx.refl c)⟩
  |cons _ _=>simp[aW]at h
 |[e],X,a,g,h,pos=>by
  cases a with
  |nil=>simp[aW]at h
  |cons b a =>
   cases a with
   |nil=>simp only[aW,cb]at h;exact AW (lZ e X b g h.1.2)
   |cons _ _=>simp[aW]at h
 |e::f::es,X,a,g,h,pos=>by
  cases a with
  |nil=>simp[aW]at h
  |cons b a =>
   have h':noStar b=b8/\bq ck e X.N X.env.scope b=b8/\aW ck (f::es) X.N X.env.scope a=b8:=by
    rw[aW]at h;simp only[cb]at h;exact⟨h.1.1,h.1.2,h.2⟩
   cases a with
   |nil=>have:=h'.2.2;simp[aW]at this
   |cons k l=>exact BP (lZ e X b g h'.2.1) (uW (f::es) X _ g h'.2.2)
theorem zm:∀(es:List E) (X:Cx) (a:List mx),Gd ck Γ C d X->aW ck es X.N X.env.scope a=b8->∀{pos},PW X (.BoolOp .Or a pos) (Km C (fL Γ es))
 |[],X,a,g,h,pos=>by
  cases a with
  |nil =>
   rintro j pins s σ H Q I ⟨c,rfl,rfl,i,w⟩;rw[show fL Γ []=pure cc from rfl,aq]at w;exact isTrue_or_nil ⟨c.H,I,w c rfl rfl i (Nx.refl c)⟩
  |cons _ _=>simp[aW]at h
 |[e],X,a,g,h,pos=>by
  cases a with
  |nil=>simp[aW]at h
  |cons b a =>
   cases a with
   |nil=>simp only[aW,cb]at h;exact DO (lZ e X b g h.1.2)
   |cons _ _=>simp[aW]at h
 |e::f::es,X,a,g,h,pos=>by
  cases a with
  |nil=>simp[aW]at h
  |cons b a =>
   have h':noStar b=b8/\bq ck e X.N X.env.scope b=b8/\aW ck (f::es) X.N X.env.scope a=b8:=by
    rw[aW]at h;simp only[cb]at h;exact⟨h.1.1,h.1.2,h.2⟩
   cases a with
   |nil=>have:=h'.2.2;simp[aW]at this
   |cons k l=>exact EW (lZ e X b g h'.2.1) (zm (f::es) X _ g h'.2.2)
end
theorem Ho(g:Gd ck Γ C d X)(b:UK e=b8)(h:bq ck e X.N X.env.scope f=b8):PE X f (wW C (ev Γ e)):=by
 cases e with
 |var i =>
  obtain⟨x,k,rfl,a⟩:=ao h;simp only[cb,ŏ]at a;obtain⟨l,m⟩:=aH a.2;exact y8 a.1.1 (cI a.1.2) l m
 |cst u =>
  obtain⟨c,n,k,rfl,a⟩:=la h;cases c with
  |int j=>have:=bU a;subst this;exact ix xH λ_ _=>rfl
  |str y=>have:=bU a;subst this;exact ix nW λ_ _=>rfl
  |bool y=>have:=bU a;subst this;exact ix Dd λ_ _=>rfl
  |none=>have:=bU a;subst this;exact ix xI λ_ _=>rfl
  |_=>cases a
 |_=>cases b
end
noncomputable def QH(b:Nb)(x:Str)(a:Nat):mx->Bool
 |.ListComp elt gens s pos=>dt (b.names.lookup x=a5 .local)&&(a==pos.line)&&!(s.names.any λ(n,k)=>n==x&&(k==.local||k==.cell))
 |_=>cc
noncomputable def ng(s:M3)(k:mx->Bool):Bool:=match s with|.Expr e _=>k e|_=>cc
theorem fb(h:ng s k=b8):∃e p,s=.Expr e p/\k e=b8:=by
 unfold ng at h;split at h
 ·exact⟨_,_,rfl,h⟩
 ·cases h
noncomputable def jw(s:M3)(k:mx->mx->Bool):Bool:=match s with|.Assign ts v _=>cY ts λt=>k t v|_=>cc
theorem dg(h:jw s k=b8):∃t v p,s=.Assign [t] v p/\k t v=b8:=by
 unfold jw at h;split at h
 ·obtain⟨t,rfl,a⟩:=aS h;exact⟨_,_,_,rfl,h⟩
 ·cases h
noncomputable def zo(s:M3)(k:mx->Bool):Bool:=match s with|.Raise (a5 e) b6 _=>k e|_=>cc
theorem sJ(h:zo s k=b8):∃e p,s=.Raise (a5 e) b6 p/\k e=b8:=by
 unfold zo at h;split at h
 ·exact⟨_,_,rfl,h⟩
 ·cases h
noncomputable def zp(s:M3)(k:M3->ExceptHandler->Bool):Bool:=match s with|.Try b hs [] [] _=>cY b λb=>cY hs λh=>k b h|_=>cc
theorem sM(h:zp s k=b8):∃b a p,s=.Try [b] [a] [] [] p/\k b a=b8:=by
 unfold zp at h;split at h
 ·obtain⟨b,rfl,c⟩:=aS h;obtain⟨a,rfl,d⟩:=aS c;exact⟨_,_,_,rfl,d⟩
 ·cases h
noncomputable def zq(s:ExceptHandler)(k:mx->Str->M3->Bool):Bool:=match s with|.ExceptHandler (a5 t) (a5 n) b _=>cY b λb=>k t n b|_=>cc
theorem sN(h:zq s k=b8):∃t n b p,s=.ExceptHandler (a5 t) (a5 n) [b] p/\k t n b=b8:=by
 unfold zq at h;split at h
 ·obtain⟨b,rfl,a⟩:=aS h;exact⟨_,_,_,_,rfl,a⟩
 ·cases h
noncomputable def isNm(e:mx)(n:Str):Bool:=aZ e λx=>dt (x=n)
theorem gb(h:isNm e n=b8):∃p,e=.Name n p:=by
 obtain⟨x,p,e,z⟩:=ao h;exact⟨p,ŕ z▸e⟩
noncomputable def FD(s:M3)(k:Str->mx->Bool):Bool:=jw s λt v=>aZ t λy=>k y v
theorem nh(h:FD s k=b8):∃y p v a,s=.Assign [.Name y p] v a/\k y v=b8:=by
 obtain⟨t,v,a,rfl,z⟩:=dg h;obtain⟨y,p,rfl,z⟩:=ao z;exact⟨y,p,v,a,rfl,z⟩
noncomputable def Cv(v:mx)(f:Str)(k:List mx->Bool):Bool:=cZ v λg as _=>isNm g f&&k as
theorem i_(h:Cv v f k=b8):∃as p q,v=.Call (.Name f p) as [] q/\k as=b8:=by
 obtain⟨g,as,q,rfl,z⟩:=aT h;rw[cb]at z;obtain⟨p,rfl⟩:=gb z.1;exact⟨as,p,q,rfl,z.2⟩
noncomputable def FE(v:mx)(k n D:Str):Bool:=match v with|.Tuple l _ _=>jv l λa b=>(match a with|.Constant (.str c) _ _=>dt (c=k)|_=>cc)&&Cv b "isinstance" λas=>jv as λx y=>isNm x n&&isNm y D|_=>cc
theorem xb(h:FE v k n D=b8):∃q j e f g i l m,v=.Tuple [.Constant (.str k) q j,.Call (.Name "isinstance" e) [.Name n f,.Name D g] [] i] l m:=by
 unfold FE at h;split at h
 ·obtain⟨a,b,rfl,c⟩:=cH h;rw[cb]at c;obtain⟨c,o⟩:=c;obtain⟨as,e,i,rfl,p⟩:=i_ o;obtain⟨x,y,rfl,d⟩:=cH p;rw[cb]at d;obtain⟨f,rfl⟩:=gb d.1;obtain⟨g,rfl⟩:=gb d.2;split at c
  ·rw[ŕ c];exact⟨_,_,_,_,_,_,_,_,rfl⟩
  ·cases c
 ·cases h
noncomputable def FF(e:mx)(k:Str->Pos->Bool):Bool:=match e with|.Name x p=>k x p|_=>cc
theorem xf(h:FF e k=b8):∃x p,e=.Name x p/\k x p=b8:=by
 unfold FF at h;split at h
 ·exact⟨_,_,rfl,h⟩
 ·cases h
noncomputable def zr(s:M3)(k:mx->è->mx->Bool):Bool:=match s with|.AugAssign t a b _=>k t a b|_=>cc
theorem sO(h:zr s k=b8):∃t a b p,s=.AugAssign t a b p/\k t a b=b8:=by
 unfold zr at h;split at h
 ·exact⟨_,_,_,_,rfl,h⟩
 ·cases h
noncomputable def uX(s:M3)(k:Option mx->Bool):Bool:=match s with|.Return v _=>k v|_=>cc
theorem lp(h:uX s k=b8):∃v p,s=.Return v p/\k v=b8:=by
 unfold uX at h;split at h
 ·exact⟨_,_,rfl,h⟩
 ·cases h
noncomputable def Hq(v:Option mx)(k:mx->Bool):Bool:=match v with|some e=>k e|none=>cc
theorem xg(h:Hq v k=b8):∃e,v=a5 e/\k e=b8:=by
 cases v with
 |none=>cases h
 |some e=>exact⟨e,rfl,h⟩
noncomputable def zt(s:M3)(k:mx->List M3->List M3->Bool):Bool:=match s with|.If c a b _=>k c a b|_=>cc
theorem sQ(h:zt s k=b8):∃c a b p,s=.If c a b p/\k c a b=b8:=by
 unfold zt at h;split at h
 ·exact⟨_,_,_,_,rfl,h⟩
 ·cases h
noncomputable def zu(s:M3)(k:mx->mx->List M3->Bool):Bool:=match s with|.For t i b o _=>o.isEmpty&&k t i b|_=>cc
theorem sR(h:zu s k=b8):∃t i b p,s=.For t i b [] p/\k t i b=b8:=by
 unfold zu at h;split at h
 ·rw[cb,y1]at h;obtain⟨rfl,h⟩:=h;exact⟨_,_,_,_,rfl,h⟩
 ·cases h
noncomputable def FG(s:M3)(k:mx->List M3->Bool):Bool:=match s with|.While c b o _=>o.isEmpty&&k c b|_=>cc
theorem xh(h:FG s k=b8):∃c b p,s=.While c b [] p/\k c b=b8:=by
 unfold FG at h;split at h
 ·rw[cb,y1]at h;obtain⟨rfl,h⟩:=h;exact⟨_,_,_,rfl,h⟩
 ·cases h
noncomputable def Wd(k:Ck)(f c D:Str)(a:Nb):Bool:=dt (f∈k.fns)&&Kx a f&&bp f&&dt ((c,D)∈k.xd)&&Kx a c&&bp c&&Kx a D&&bp D&&Kx a "isinstance"
mutual
noncomputable def Cw(k:Ck):S->List Str->Nb->M3->Bool
 |.set i e,N,d,s=>jw s λt v=>FF t λx p=>dt (N[i]?=a5 x)&&lY d x&&dt (d.kind=.function)&&bq k e N d v&&(dE v||QH d x p.line v||(match v with|.ListComp _ _ _ _=>b8|_=>cc))&&(match e with|.comp _ _ _ _ _ _=>b8|_=>dE v)
 |.Mc is e,N,d,s=>jw s λt v=>uU t λ_=>Po b8 N d b8 is t&&dE v&&Fs v&&bq k e N d v
 |.put i a b,N,d,s=>jw s λt l=>ju t λo a'=>aZ o λx=>dt (N[i]?=a5 x)&&gO d x&&bp x&&dE l&&dX a'&&bq k a N d a'&&bq k b N d l
 |.app i e,N,d,s=>ng s λc=>e_ c λo m g as q=>aZ o λx=>cY as λa=>dt (m="append")&&dt (N[i]?=a5 x)&&gO d x&&bp x&&(g.endLine==q.line)&&noStar a&&bq k e N d a
 |.ext i e,N,d,s=>ng s λc=>e_ c λo m g as q=>aZ o λx=>cY as λa=>dt (m="extend")&&dt (N[i]?=a5 x)&&gO d x&&bp x&&(g.endLine==q.line)&&noStar a&&bq k e N d a
 |.bad,_,_,_=>b8
 |.newD i,N,d,s=>jw s λt v=>aZ t λx=>Cn v&&dt (N[i]?=a5 x)&&lY d x
 |.putD i a b,N,d,s=>jw s λt l=>ju t λo a'=>aZ o λx=>dt (N[i]?=a5 x)&&gO d x&&bp x&&dE l&&dX a'&&bq k a N d a'&&bq k b N d l
 |.Le i a e,N,d,s=>ng s λc=>e_ c λo m g as q=>ju o λo' a'=>aZ o' λx=>cY as λb=>dt (m="append")&&dt (N[i]?=a5 x)&&gO d x&&bp x&&dX a'&&(g.endLine==q.line)&&noStar b&&bq k a N d a'&&bq k e N d b&&UK e
 |.aug sub i a e,N,d,s=>zr s λt B b=>ju t λo a'=>aZ o λx=>dt (B=if sub=b8 then .Sub else .Add)&&dt (N[i]?=a5 x)&&gO d x&&bp x&&dX a'&&bq k a N d a'&&bq k e N d b&&UK e
 |.Rv _,_,_,_=>cc
 |.exp e,N,d,s=>ng s λu=>dE u&&bq k e N d u
 |.ret e,N,d,s=>uX s λv=>Hq v λu=>bq k e N d u
 |.Md,N,d,s=>uX s λv=>v.isNone
 |.ite c a b,N,d,s=>zt s λw a' l=>bq k c N d w&&dM k a N d a'&&dM k b N d l
 |.Jv t is C src body,N,d,s=>zu s λA h z=>Po t N d b8 is A&&sA h&&(match fP d A C h with
    |some as=>aW k src N d as
    |none=>cc)&&dM k body N d z
 |.MW c body,N,d,s=>FG s λw z=>bq k c N d w&&dM k body N d z
 |.brk,_,_,_=>cc
 |.cnt,_,_,_=>cc
 |.Mn _,_,_,_=>cc
 |.Ni c e,N,d,s=>zo s λr=>Cv r c λas=>cY as λa=>dt (c∈k.xc)&&Kx d c&&bp c&&noStar a&&bq k e N d a
 |.tr i f es c D j G,N,d,s=>zp s λb H=>zq H λt n I=>FD b λy v=>FD I λJ L=>(isNm t c&&dt (J=y)&&FE L G n D&&Cv v f λas=>!as.isEmpty&&aW k es N d as)&&Wd k f c D d&&(dt (N[i]?=a5 y)&&lY d y&&dt (N[j]?=a5 n)&&dt (d.names.lookup n=a5 .local)&&bp n)
 |.Rw,_,_,_=>cc
noncomputable def dM(k:Ck):List S->List Str->Nb->List M3->Bool
 |[],_,_,a=>a.isEmpty
 |s::ss,N,b,a=>match a with
  |s'::a=>Cw k s N b s'&&dM k ss N b a
  |[]=>cc
end
section
variable{ck:Ck}{Γ:Tab}{C:Ct}{d:Nat}{X:Cx}
theorem oW(h:lY a x=b8):Loc a x:=by
 unfold lY at h;simp only[Lj,ŏ]at h;exact h
theorem iy(h:dE v=b8):QU v t a env=pure cc:=by
 cases v<;>first|rfl|cases h
theorem oX(h:dE v=b8):Rk [t] v a env=pure cc:=by
 rw[Rk];exact iy h
theorem Cy(h:dX i=b8):∀a b new,Ń i a b new=(do MP [new,a,b] (Ua a b new);Ws [new,a,b] [];pure .next):=by
 intro a b new;cases i<;>first|rfl|cases h
theorem uY(h:dX i=b8):∀v,SE (.Subscript o i p) env v=(do
   let a <-MP [v] (wk o env)
   let b <-MP [v,a] (wk i env)
   Yp p
   MP [v,a,b] (Ua a b v)
   Ws [v,a,b] []):=by
 intro v;cases i<;>first|rfl|cases h
structure Gs(ck:Ck)(Γ:Tab)(C:Ct)(d:Nat)(X:Cx):Prop where
 gd:Gd ck Γ C d X
 nd:X.N.Nodup
 fn:∀x,X.fn x=b8
 po:XI (gs X.prog X.w) X.A X.env X.xe
 kd:X.env.scope.kind=.function
 xs:Pp ck X.K X.mg
 xl:∀c H',C.xw (.str c) H'->∀C' T H pins σ s e s',PySem.W.nsIn X.K qP c=a5 (a5 (.ref C'))->Inv X pins σ H s->bX X.prog X.w X.stack H s e C' T .none H' s'->X.xe (.ref e) s'
 sk:X.stack=X.env::X.outer/\X.env.frame=a5 X.env.locals
theorem uZ(g:Gd ck Γ C d X)(h:(match fP X.env.scope i j b with|some as=>aW ck src X.N X.env.scope as|none=>cc)=b8):PI X i b (MH C j (bG Γ src)):=by
 split at h
 ·rename_i as c;exact Dq g c (iZ src X _ g h) (λa e=>by
   subst e;cases src with
   |nil=>simp[aW]at h
   |cons f k =>
    cases k with
    |nil =>
     simp only[aW,cb]at h;exact⟨f,rfl,bB f X _ g h.1.2⟩
    |cons _ _=>simp[aW]at h) (cP h)
 ·cases h
theorem lq{pos p a:Pos}(hk:X.env.scope.kind=.function):QU (.ListComp elt gens s pos) (a5 (.Name x p)) a.line X.env=pure (QH X.env.scope x p.line (.ListComp elt gens s pos)):=by
 have b:X.env.blockKind=.function:=by
  unfold Env.blockKind;rw[hk];rfl
 show(pure (X.env.blockKind==.function&&X.env.kindOf x==a5 .local&&p.line==pos.line&&!(s.names.any λ(n,k)=>n==x&&(k==.local||k==.cell))):Sem Bool)=_;rw[b];unfold QH;congr 1
 have:(X.env.kindOf x==a5 NameKind.local)=dt (X.env.scope.names.lookup x=a5 .local):=by
  unfold Env.kindOf;rw[Ll];simp
 rw[this];rfl
theorem FH{src cond:List E}(G:Gs ck Γ C d X)(hi:X.N[i]?=a5 x)(y:lY X.env.scope x=b8)
  (h:bq ck (.comp n t l src cond e) X.N X.env.scope (.ListComp elt [⟨m,a,b,0⟩] scope pos)=b8) (ns:Nat->Bool) (o:∀j,ns j=b8->j≠i) :
  L2.PS X (.Assign [.Name x p] (.ListComp elt [⟨m,a,b,0⟩] scope pos) L5) (JY C ns (ev Γ (.comp n t l src cond e) >>= λr=>d_ i r >>= λ_=>pure .nx)):=by
 have g:=G.gd;have q:=bB (.comp n t l src cond e) X _ g h;cases f:QH X.env.scope x p.line (.ListComp elt [⟨m,a,b,0⟩] scope pos) with
 |false=>exact Dm o G.nd hi (oW y) (.inl (G.fn x)) q (by rw[lq G.kd,f])
 |true =>
  have hl:X.env.scope.names.lookup x=a5 .local:=by
   simp only[QH,cb,ŏ]at f;exact f.1.1
  obtain⟨Y1,Z5,We,Y2,UL,p',A,u⟩:=iY h;cases A;clear h q;simp only[cb,ŏ]at u;obtain⟨⟨⟨⟨⟨⟨⟨B,J⟩,L⟩,O⟩,T⟩,Y⟩,c⟩,h8⟩:=u;subst B;have S:=yd (X:=X) rfl (m_ _ _) J;exact Fh o S g.calm G.nd hi hl (uZ g T) (λD s H ex=>uV (fa:=cc) g.calm g.K S.nd (λz=>nomatch z) L)
   (λD s H ex=>by
    cases b with
    |nil =>
     cases cond with
     |nil=>exact λpins s σ H Q I ⟨v,k,e2,ok,w⟩=>ue pins s σ H Q I (by subst k e2;rw[show bb Γ []=pure b8 from rfl,aq]at w;exact w v rfl rfl ok (Nx.refl v))
     |cons _ _=>simp[aW]at c
    |cons c1 cs =>
     cases cs with
     |nil =>
      cases cond with
      |nil=>simp[aW]at c
      |cons k JN =>
       cases JN with
       |nil =>
        simp only[aW,cb]at c;exact uf (lZ k (Kb X _ scope D s H ex) c1 (g.cx _ _ _ _ _ _) c.1.2)
       |cons _ _=>simp[aW]at c
     |cons _ _=>simp at Y)
   (λD s H ex=>bB e (Kb X _ scope D s H ex) elt (g.cx _ _ _ _ _ _) h8) (by rw[lq G.kd,f]) (sI O)
theorem Cz(G:Gs ck Γ C d X)(h:Cw ck (.Ni c e) X.N X.env.scope s'=b8):L2.PS X s' (JY C (Mo (.Ni c e)) (exec Γ (.Ni c e))):=by
 obtain⟨r,t,rfl,f⟩:=sJ h;obtain⟨as,u,p2,rfl,g⟩:=i_ f;obtain⟨a,rfl,b⟩:=aS g;simp only[cb,ŏ]at b;obtain⟨⟨⟨⟨i,j⟩,k⟩,l⟩,m⟩:=b;obtain⟨n,o,p,q⟩:=G.xs.xc _ i;exact He G.gd.calm (cE j) o (aH k).1 q (bB e X a G.gd m) (bf (es:=[]) l) λH' w pins σ s e s' I F=>G.xl _ H' w n b6 H' pins σ s e s' p I F
theorem FI(G:Gs ck Γ C d X)(h:Cw ck (.tr i f es c D j a) X.N X.env.scope s'=b8):L2.PS X s' (JY C (Mo (.tr i f es c D j a)) (exec Γ (.tr i f es c D j a))):=by
 obtain⟨b,hd,p,rfl,g⟩:=sM h;obtain⟨t0,n,k,YB,rfl,l⟩:=sN g;obtain⟨y,p1,v,p4,rfl,o⟩:=nh l;obtain⟨y',p6,v2,V1,rfl,r⟩:=nh o;clear h g l o;simp only[cb,ŏ,Wd]at r;obtain⟨⟨⟨⟨⟨s,rfl⟩,t⟩,x⟩,⟨⟨⟨⟨⟨⟨⟨⟨a1,J⟩,a3⟩,b1⟩,k⟩,b3⟩,b4⟩,L⟩,O⟩⟩,⟨⟨⟨⟨Q,T⟩,Y⟩,d5⟩,z⟩⟩:=r;obtain⟨p5,rfl⟩:=gb s;obtain⟨q,p7,p8,p9,Qz,Pl,kx,RF,rfl⟩:=xb t;obtain⟨as,p2,p3,rfl,A⟩:=i_ x;rw[cb,t4]at A;obtain⟨a4,B⟩:=A;clear s t x;have H:=cP B;obtain⟨np,fa,fd,ps,q1,q2,q3,q4,q5,q6⟩:=(G.gd.fns _ a1).ex;obtain⟨Cc,Cd,r1,r2,r3,r4,r5⟩:=G.xs.xd _ b1;have gn:Gd ck Γ C d X.M1:=⟨G.gd.P,G.gd.w,G.gd.K,G.gd.u,G.gd.calm,G.gd.room,G.gd.blt,G.gd.fns,G.gd.LY,G.gd.K5⟩
 cases as with
 |nil=>cases a4
 |cons e0 I =>
  have st:=bf (env:=X.env) (es:=I) (H e0 (by simp));have sn:=(br (pos:=p3) (env:=X.env) (es:=I) λe he=>H e (by simp[he])).1;exact Hf (λm hm=>by simpa[Mo] using hm) G.nd Q (oW T) (G.fn _) Y d5 G.gd.P G.gd.w G.gd.K rfl q5 q6 q1 G.gd.room (cE J) q2 q3 q4 (aH a3).1 (iZ es X.M1 _ gn B) st sn G.sk (cE k) r1 r2 (aH b3).1 r4 (cE b4) r3 (aH L).1 r5 (cE O) (G.gd.blt _ lj) (aH z).1 (aH z).2
mutual
theorem IV:∀(s:S) (X:Cx) (s':M3),Gs ck Γ C d X->Cw ck s X.N X.env.scope s'=b8->L2.PS X s' (JY C (Mo s) (exec Γ s))
 |.set i e,X,s',G,h=>by
  obtain⟨t,v,p1,rfl,g⟩:=dg h;obtain⟨x,p,rfl,k⟩:=xf g;clear h g;have h:=k;simp only[cb,ŏ]at h;obtain⟨⟨⟨⟨⟨q,r⟩,y⟩,l⟩,A⟩,B⟩:=h;have J8:∀j,Mo (.set i e) j=b8->j≠i:=λj L=>by simpa[Mo] using L
  by_cases hc:dE v=b8
  ·exact Dm J8 G.nd q (oW r) (.inl (G.fn x)) (bB e X v G.gd l) (iy hc)
  ·cases e with
   |comp n t ik src cond e =>
    obtain⟨elt,tg,ab,ac,scope,p3,rfl,_⟩:=iY l;exact FH G q r l _ J8
   |_=>exact absurd B hc
 |.Mc is e,X,s',G,h=>by
  obtain⟨t,v,p1,rfl,g⟩:=dg h;obtain⟨es,kk,p,rfl,k⟩:=lb g;clear h g;have h:=k;simp only[cb]at h;obtain⟨⟨⟨q,r⟩,y⟩,l⟩:=h;refine Fi (λj L=>by simpa[Mo] using L) (bB e X v G.gd l) (uV (fa:=b8) G.gd.calm G.gd.K G.nd (λ_=>G.fn) q) (oX r) ?_ rfl;cases v<;>first|rfl|cases y
 |.put i a b,X,s',G,h=>by
  obtain⟨t,v,p,rfl,g⟩:=dg h;obtain⟨o,a',p1,rfl,k⟩:=de g;obtain⟨x,px,rfl,O⟩:=ao k;simp only[cb,ŏ]at O;obtain⟨⟨⟨⟨⟨⟨q,r⟩,y⟩,l⟩,A⟩,B⟩,h7⟩:=O;obtain⟨Q,T⟩:=aH y;exact Hd G.gd.P G.gd.w G.gd.K G.gd.u q (cI r) Q T (bB b X _ G.gd h7) (bB a X _ G.gd B) (oX l) rfl (uY A)
 |.app i e,X,s',G,h=>by
  obtain⟨c,p0,rfl,g⟩:=fb h;obtain⟨o,m,Y,as,G',rfl,k⟩:=bN g;obtain⟨x,px,rfl,O⟩:=ao k;obtain⟨a,rfl,z4⟩:=aS O;simp only[cb,ŏ]at z4;obtain⟨⟨⟨⟨⟨⟨rfl,q⟩,r⟩,y⟩,l⟩,A⟩,B⟩:=z4;obtain⟨Q,T⟩:=aH y;have st:=bf (env:=X.env) (es:=[]) A;have sa:=(br (pos:=G') (env:=X.env) (es:=[a]) λe he=>by simp at he;subst he;exact A).2;refine Hb G.gd.K q (cI r) Q T (bB e X _ G.gd B) ?_ l st;rw[sa];rfl
 |.ext i e,X,s',G,h=>by
  obtain⟨c,p0,rfl,g⟩:=fb h;obtain⟨o,m,Y,as,G',rfl,k⟩:=bN g;obtain⟨x,px,rfl,O⟩:=ao k;obtain⟨a,rfl,z4⟩:=aS O;simp only[cb,ŏ]at z4;obtain⟨⟨⟨⟨⟨⟨rfl,q⟩,r⟩,y⟩,l⟩,A⟩,B⟩:=z4;obtain⟨Q,T⟩:=aH y;have st:=bf (env:=X.env) (es:=[]) A;have sa:=(br (pos:=G') (env:=X.env) (es:=[a]) λe he=>by simp at he;subst he;exact A).2;refine Hc G.gd.K q (cI r) Q T (bB e X _ G.gd B) ?_ l st;rw[sa];rfl
 |.bad,X,s',G,h=>λpins sh σ H D I ⟨_,_,_,_,w⟩=>(bo.mp w).elim
 |.newD i,X,s',G,h=>by
  obtain⟨t,v,p1,rfl,g⟩:=dg h;obtain⟨x,p,rfl,k⟩:=ao g;clear h g;have h:=k;simp only[cb,ŏ]at h;obtain⟨p2,rfl⟩:=m8 h.1.1;exact Fm (λj L=>by simpa[Mo] using L) G.nd h.1.2 (oW h.2) (.inl (G.fn _)) (iy rfl)
 |.putD i a b,X,s',G,h=>by
  obtain⟨t,v,p,rfl,g⟩:=dg h;obtain⟨o,a',p1,rfl,k⟩:=de g;obtain⟨x,px,rfl,O⟩:=ao k;simp only[cb,ŏ]at O;obtain⟨⟨⟨⟨⟨⟨q,r⟩,y⟩,l⟩,A⟩,B⟩,h7⟩:=O;obtain⟨Q,T⟩:=aH y;exact Fo G.gd.u q (cI r) Q T (bB b X _ G.gd h7) (bB a X _ G.gd B) (oX l) rfl (uY A)
 |.Le i a e,X,s',G,h=>by
  obtain⟨c,p0,rfl,g⟩:=fb h;obtain⟨o,m,Y,as,G',rfl,k⟩:=bN g;obtain⟨o',a',p1,rfl,O⟩:=de k;obtain⟨x,px,rfl,z4⟩:=ao O;obtain⟨b,rfl,z5⟩:=aS z4;simp only[cb,ŏ]at z5;obtain⟨⟨⟨⟨⟨⟨⟨⟨⟨rfl,q⟩,r⟩,y⟩,l⟩,A⟩,B⟩,h7⟩,h8⟩,h9⟩:=z5;have ha:=Ho (C:=C) (Γ:=Γ) (d:=d) (ck:=ck) G.gd h9 h8;obtain⟨Q,T⟩:=aH y;have st:=bf (env:=X.env) (es:=[]) B;have sa:=(br (pos:=G') (env:=X.env) (es:=[b]) λe he=>by simp at he;subst he;exact B).2;refine Fp G.gd.K G.gd.u q (cI r) Q T ha (bB a X _ G.gd h7) (qC l) ?_ A st;rw[sa];rfl
 |.aug sub i a e,X,s',G,h=>by
  obtain⟨t,op,b,p,rfl,J⟩:=sO h;clear h;have h:=J;obtain⟨o,a',p1,rfl,g⟩:=de h;obtain⟨x,px,rfl,k⟩:=ao g;simp only[cb,ŏ]at k;obtain⟨⟨⟨⟨⟨⟨⟨rfl,q⟩,r⟩,y⟩,l⟩,A⟩,B⟩,h7⟩:=k;have ha:=Ho (C:=C) (Γ:=Γ) (d:=d) (ck:=ck) G.gd h7 B;obtain⟨Q,T⟩:=aH y;exact Hh q (cI r) Q T ha (bB a X _ G.gd A) (Cy l)
 |.Rv i,X,s',G,h=>absurd (show cc=b8 from h) kr
 |.exp e,X,s',G,h=>by
  obtain⟨e',p,rfl,J⟩:=fb h;clear h;have h:=J;simp only[cb]at h;exact G7 (bB e X _ G.gd h.2) (iy h.1)
 |.ret e,X,s',G,h=>by
  obtain⟨v,p,rfl,J⟩:=lp h;obtain⟨e',rfl,g⟩:=xg J;clear h J;have h:=g;exact G8 (bB e X _ G.gd h)
 |.Md,X,s',G,h=>by
  obtain⟨v,p,rfl,J⟩:=lp h;cases v with
  |none=>exact Fg
  |some _=>cases J
 |.ite c a b,X,s',G,h=>by
  obtain⟨c',a',b',p,rfl,J⟩:=sQ h;clear h;have h:=J;simp only[cb]at h;have ha:=lr a X _ G h.1.2;have hb:=lr b X _ G h.2;exact G9 (lZ c X _ G.gd h.1.1) (Kf.weak ha λD σ H z=>oS (λj L=>by simp only[Mo,cb]at L;exact L.1) z) (Kf.weak hb λD σ H z=>oS (λj L=>by simp only[Mo,cb]at L;exact L.2) z)
 |.Jv t is ik src body,X,s',G,h=>by
  obtain⟨tg,ab,Lh,p,rfl,J⟩:=sR h;clear h;have h:=J;rw[cb,cb,cb]at h;exact Ha G.po G.gd.calm (uZ G.gd h.1.2) (uV (fa:=b8) G.gd.calm G.gd.K G.nd (λ_=>G.fn) h.1.1.1) (lr body X _ G h.2) (sI h.1.1.2) λj L=>by simpa[Mo] using L
 |.MW c body,X,s',G,h=>by
  obtain⟨c',Lh,p,rfl,J⟩:=xh h;clear h;have h:=J;simp only[cb]at h;exact G_ G.po (lZ c X _ G.gd h.1) (lr body X _ G h.2)
 |.brk,X,s',G,h=>absurd (show cc=b8 from h) kr
 |.cnt,X,s',G,h=>absurd (show cc=b8 from h) kr
 |.Mn is,X,s',G,h=>absurd (show cc=b8 from h) kr
 |.Ni c e,X,s',G,h=>Cz G h
 |.tr i f es c D j kk,X,s',G,h=>FI G h
 |.Rw,X,s',G,h=>absurd (show cc=b8 from h) kr
theorem lr:∀(ss:List S) (X:Cx) (a:List M3),Gs ck Γ C d X->dM ck ss X.N X.env.scope a=b8->Kf X a (JY C (LK ss) (execs Γ ss))
 |[],X,a,G,h=>by
  cases a with
  |nil=>exact G6
  |cons _ _=>simp[dM]at h
 |s::ss,X,a,G,h=>by
  cases a with
  |nil=>simp[dM]at h
  |cons s' a =>
   simp only[dM,cb]at h;have c:=IV s X s' G h.1;have e:=lr ss X a G h.2;exact Ff (PS.weak c λD σ H z=>oS (λj b=>by simp only[LK,cb]at b;exact b.1) z) (Kf.weak e λD σ H z=>oS (λj b=>by simp only[LK,cb]at b;exact b.2) z)
end
end
section
variable{ck:Ck}{Γ:Tab}{d:Nat}{P:ve}{w:Jq}{K:PySem.W.Frag}{mg:Str->Option d3}{base:Jy}
theorem ja{n i:Nat}(h:(start us n)[i]?=a5 (a5 (k,u))):us[i]?=a5 u/\k=if Js u=b8 then .loc else .any:=by
 unfold start at h;by_cases hi:i<us.length
 ·rw[ux (by simpa using hi),i6]at h;rw[mN hi]at h ⊢;simp only[Tc,QO,WO]at h;obtain⟨a,b⟩:=h;subst b;exact⟨rfl,a.symm⟩
 ·rw[pa (by simp;lia),KX]at h;split at h<;>cases h
theorem dh{i:Nat}(h:vs[i]?=a5 v):(L2.start N vs)[i]?=a5 (a5 v):=by
 unfold L2.start;have hi:i<vs.length:=(dV.mp h).1;rw[ux (by simpa using hi),i6,h];rfl
theorem zw(p:∀a,c a->KS H a)(h:ak ⟨P,w,K,H,c,λ_=>False,q⟩ c H us vs)(s:N.length=n):Ok ⟨P,w,K,H,c,λ_=>False,q⟩ ⟨λ_=>False,H,L2.start N vs,start us n,λ_=>[]⟩:=by
 have f:∀(j:Nat) (u:U),(start us n)[j]?≠a5 (a5 (.IY,u)):=λj u e=>by
  have:=(ja e).2;split at this<;>cases this
 refine⟨λa o e _=>e,λa z=>z.elim,λa z=>⟨p a z,λz=>z⟩,λa z=>z.elim,?_,λi k u e=>?_,λi j k k' u u' r hk x g m y A=>?_,⟨λj u r e _=>(f j u e).elim,λi j a ⟨u,_,e,_⟩=>(f i u e).elim,λj a ⟨u,_,e,_⟩=>(f j u e).elim⟩⟩
 ·have:=h.len;simp[start,L2.start,s];lia
 ·obtain⟨g,m⟩:=ja e;obtain⟨v,ev,b⟩:=h.get g;refine⟨v,dh ev,?_⟩;subst m;by_cases l:Js u=b8
  ·rw[Ő l];exact Rep.Js l b
  ·rw[ő l];exact Rep.mv (.up λa z=>.inl z) b
 ·obtain⟨_,t⟩:=ja g;subst t;split at hk<;>cases hk
theorem oY(h:cw Γ fn us=a5 (.ok (k,u))):us.length=fn.np/\((k=.own\/k=.loc\/k=.any)/\(∃st',execs Γ fn.body (start us fn.ns)=a5 (.ok (.rt k u),st'))\/(k=.loc/\u=.Jc/\∃st',execs Γ fn.body (start us fn.ns)=a5 (.ok .nx,st'))):=by
 unfold cw at h;split at h
 ·rename_i hl;refine⟨hl,?_⟩;split at h
  ·rename_i e;cases h;exact .inl ⟨.inl rfl,_,e⟩
  ·rename_i e;cases h;exact .inl ⟨.inr (.inl rfl),_,e⟩
  ·rename_i e;cases h;exact .inl ⟨.inr (.inr rfl),_,e⟩
  ·rename_i e;cases h;exact .inr ⟨rfl,rfl,_,e⟩
  ·cases h
  ·cases h
 ·cases h
theorem qD(h:cw Γ fn us=a5 (.exc c)):us.length=fn.np/\∃st',execs Γ fn.body (start us fn.ns)=a5 (.ok (.rt .io (.str c)),st'):=by
 unfold cw at h;split at h
 ·rename_i hl;refine⟨hl,?_⟩;split at h
  ·cases h
  ·cases h
  ·cases h
  ·cases h
  ·rename_i e;cases h;exact⟨_,e⟩
  ·cases h
 ·cases h
theorem Ds{st:M3}(F:NC K fn.name i st f fd)(S:dU N ps (aQ st))(hN:N.length=fn.ns)(Lp:ps.length=fn.np)
  (OK:dM ck fn.body N (aQ st) (cT st)=b8) (t:∀x∈bL,mg x=b6) (y:∀g∈ck.fns,Co P w K mg base d (Γ g) g)
  (LY:∀p∈ck.gl,∃val v,mg p.1=a5 val/\RelV v val/\∀(C:Ct) S H,Rep C S H p.2 v) (K5:∀p∈ck.K5,Cp P w K mg base d (Γ p.1) p.1 p.2) (xs:Pp ck K mg):iN P w K mg base (Ot P w) (d+1) f fd ps (spT P w K (cw Γ fn) fn.np):=by
 obtain⟨oc,od,kV,ab,pm,an,J,ct,N7,rfl,lk,JM⟩:=F.ex;refine Df lk JM S (λvs H Q E h=>h.1.trans Lp.symm) λA outer s H vs Q E L h=>?_;obtain⟨hl,us,r,q,O,Y3,B,b⟩:=h;have Ph:=L.un;let l:Ct:=⟨P,w,K,H,q,λ_=>False,λu H'=>∃c,u=.str c/\∀j,PySem.W.nsIn K qP c=a5 (a5 (.ref j))->E (.ref j) b6 H'⟩
 have D:(Nn P w K H q).Eqv l:=⟨rfl,rfl,rfl⟩
 have m:l.Eqv (Nn P w K H q):=⟨rfl,rfl,rfl⟩
 have G:Gs ck Γ l d (pQ (Ot P w) P w K mg base N i (aQ st) f J A outer s H E) :=
  ⟨⟨rfl,rfl,rfl,by show(A.deeper (Uv i (aQ st) s.heap.objs.size f J)).units+60<LU;lia,rfl,L,t,y,λp hp=>let ⟨val,v,D,m,q3⟩:=LY p hp;⟨val,v,D,m,q3 _⟩,K5⟩,S.nd,λ_=>rfl,PassesOwn.leaving,S.kind,xs,
   λc H' ⟨c',e1,hE⟩ j T H2 pins σ s2 e s' hm I F=>by
    cases e1;exact F.leave I.ok.frames rfl I.stack I.jQ λT' Lv F'=>⟨e,j,T',H',rfl,F'.down I rfl rfl rfl,hE j hm⟩,rfl,rfl⟩
 refine⟨_,lr fn.body _ _ G OK,⟨λ_=>False,H,L2.start N vs,start us fn.ns,λ_=>[]⟩,rfl,rfl,zw Y3 (B.cg D) hN,?_⟩;cases r with
 |exc c =>
  obtain⟨_,st',e⟩:=qD O;exact⟨_,st',e,λcf Y ok n kp=>⟨c,rfl,λj hC=>b j cf.H hC λa o z=>ok.same a o z λz=>z⟩⟩
 |ok x =>
 obtain⟨k,u⟩:=x;obtain⟨hk,b⟩:=b;obtain⟨_,UM⟩:=oY O;have mk:∀(c:Cf),Ok l c->∀v,Fe l c k u v->Back (Nn P w K H q) H c.H c.S k u v:=λc ok v r=>by
  refine⟨λa o e=>ok.same a o e λz=>z,λa z=>ok.KR a z,λe=>?_,λe=>?_,λe=>?_⟩
  ·subst e;obtain⟨r0,e,h1,h2,h3,h4⟩:=r;exact⟨r0,e,h1,h2,h4.cg m⟩
  ·subst e;exact Rep.cg m r
  ·subst e;exact Rep.cg m r
 rcases UM with⟨_,st',e⟩|⟨rfl,rfl,st',e⟩
 ·rcases hk with rfl|rfl|rfl<;>exact⟨_,st',e,λc Y ok n kp v r=>b v c.H c.S (mk c ok v r)⟩
 ·exact⟨_,st',e,λc Y ok n kp=>b .Jc c.H c.S (mk c ok .Jc rfl)⟩
theorem gQ(h:(cW is us n)[i]?=a5 (a5 (k,u))):us[i]?=a5 u/\k=if i∈is then .io else if Js u=b8 then .loc else .any:=by
 unfold cW at h;by_cases hi:i<us.length
 ·rw[ux (by simpa using hi),i6,T6]at h;rw[mN hi]at h ⊢;simp only[Tc,QO,WO,OE]at h;obtain⟨a,b⟩:=h;subst b;exact⟨rfl,a.symm⟩
 ·rw[pa (by simp;lia),KX]at h;split at h<;>cases h
theorem xi(a:Fq C C.H₀ is us vs)(s:N.length=n):Ok C ⟨λ_=>False,C.H₀,L2.start N vs,cW is us n,λ_=>[]⟩:=by
 have g:∀(j:Nat) (u:U),(cW is us n)[j]?≠a5 (a5 (.IY,u)):=λj u e=>by
  have:=(gQ e).2;split at this
  ·cases this
  ·split at this<;>cases this
 have rt:∀(j:Nat) (k:Kd) (u:U),k.root=b8->(cW is us n)[j]?=a5 (a5 (k,u))->j∈is/\us[j]?=a5 u:=λj k u hk e=>by
  obtain⟨f,b⟩:=gQ e;refine⟨?_,f⟩;by_cases z:j∈is
  ·exact z
  ·rw[ő z]at b;subst b;split at hk<;>cases hk
 refine⟨λa o e _=>e,λa z=>z.elim,λx z=>a.par x z,λx z=>⟨a.V9 x z,a.V9 x z⟩,?_,λi k u e=>?_,λi j k k' u u' r hk t f b l m=>?_,⟨λj u r e _=>(g j u e).elim,λi j a ⟨u,_,e,_⟩=>(g i u e).elim,λj a ⟨u,_,e,_⟩=>(g j u e).elim⟩⟩
 ·have:=a.len;simp[cW,L2.start,s];lia
 ·obtain⟨f,b⟩:=gQ e;by_cases z:i∈is
  ·rw[Ő z]at b;subst b;obtain⟨r,b1,c,b3⟩:=a.io i u z f;exact⟨_,dh b1,r,rfl,λz=>z,λz=>(a.par r z).2 c,c,b3⟩
  ·rw[ő z]at b;obtain⟨v,b1,c⟩:=a.any i u z f;refine⟨v,dh b1,?_⟩;subst b;by_cases h:Js u=b8
   ·rw[Ő h];exact Rep.Js h c
   ·rw[ő h];exact Rep.mv (.up λa z=>.inl z) c
 ·obtain⟨p,y⟩:=rt i k u hk f;obtain⟨q,A⟩:=rt j k' u' t b;obtain⟨B,b1,_⟩:=a.io i u p y;obtain⟨D,c,_⟩:=a.io j u' q A;rw[dh b1]at l;rw[dh c]at m;cases l;cases m;exact a.inj i j _ p q b1 c
theorem u9:∀{is:List Nat}{st:az}{ws:List U},Oy is st=a5 ws->ws.length=is.length/\∀(n i:Nat),is[n]?=a5 i->∃w,ws[n]?=a5 w/\st[i]?=a5 (a5 (.io,w))
 |[],_,_,h=>by cases h;exact⟨rfl,λn i e=>by simp at e⟩
 |i::is,st,ws,h=>by
  unfold Oy at h;split at h
  ·rename_i u c;rw[fx]at h;obtain⟨k,h,rfl⟩:=h;obtain⟨a,b⟩:=u9 h;refine⟨by simp[a],λn j e=>?_⟩;cases n with
   |zero=>simp at e;subst e;exact⟨u,rfl,c⟩
   |succ n=>obtain⟨w,f,g⟩:=b n j (by simpa using e);exact⟨w,by simpa using f,g⟩
  ·cases h
theorem u_(h:gk Γ fn is body us=a5 (.ok r)):us.length=fn.np/\∃f st k u ws,execs Γ body (cW is us fn.ns)=a5 (.ok f,st)/\Rx f=a5 (k,u)/\Oy is st=a5 ws/\r=(k,.tup (u::ws)):=by
 unfold gk at h;split at h
 ·rename_i hl;refine⟨hl,?_⟩;split at h
  ·rename_i f st e;obtain⟨⟨k,u⟩,a,h⟩:=nC.mp h;rw[fx]at h;obtain⟨ws,b,c⟩:=h;cases c;exact⟨f,st,k,u,ws,e,a,b,rfl⟩
  ·cases h
 ·cases h
theorem FJ{st:M3}(F:NC K fn.name b st f fd)(S:dU N ps (aQ st))(hN:N.length=fn.ns)(Lp:ps.length=fn.np)(J8:∀i∈is,LK body i=b8)
  (OK:dM ck body N (aQ st) (cT st)=b8) (y:∀x∈bL,mg x=b6) (B:∀g∈ck.fns,Co P w K mg base d (Γ g) g)
  (LY:∀p∈ck.gl,∃val v,mg p.1=a5 val/\RelV v val/\∀(C:Ct) S H,Rep C S H p.2 v) (K5:∀p∈ck.K5,Cp P w K mg base d (Γ p.1) p.1 p.2) (xs:Pp ck K mg):iN P w K mg base Oa (d+1) f fd ps (RL P w K (gk Γ fn is body) fn.np is):=by
 refine F.ok S (λvs H Q E h=>h.1.trans Lp.symm) (λJ A outer s H vs Q E L h=>?_);obtain⟨hl,us,k,u,ws,m,IO,JI,hk,D,j⟩:=h;have Ph:=L.un;have G:Gs ck Γ (MK P w K H m IO) d (pQ Oa P w K mg base N b (aQ st) f J A outer s H E).M1 :=
  ⟨⟨rfl,rfl,rfl,by show(A.deeper (Uv b (aQ st) s.heap.objs.size f J)).units+60<LU;lia,rfl,L,y,B,λp hp=>let ⟨val,v,q1,q2,q3⟩:=LY p hp;⟨val,v,q1,q2,q3 _⟩,K5⟩,S.nd,λ_=>rfl,PassesOwn.never,S.kind,xs,λ_ _ z=>z.elim,rfl,rfl⟩
 refine⟨_,lr body _ _ G OK,⟨λ_=>False,H,L2.start N vs,cW is us fn.ns,λ_=>[]⟩,rfl,rfl,xi (C:=MK P w K H m IO) D hN,?_⟩;obtain⟨_,O,st',k',u',MX,e,o,e2,e3⟩:=u_ JI;cases e3;obtain⟨l1,l2⟩:=u9 e2;have T:∀(c:Cf),c.st=st'->Ok (MK P w K H m IO) c->Kept (LK body) ⟨λ_=>False,H,L2.start N vs,cW is us fn.ns,λ_=>[]⟩ c->∀v,Fe (MK P w K H m IO) c k u v->Dp (MK P w K H m IO) H c.H c.S is vs ws k u v:=λc q l t v r=>by
  refine⟨l.same,λa z=>l.KR a z,λe=>?_,λe=>?_,l1,λn i r w Y g2 g3=>?_⟩
  ·subst e;obtain⟨r0,e,h1,h2,h3,h4⟩:=r;exact⟨r0,e,h1,h2,h4⟩
  ·subst e;exact r
  ·obtain⟨w',z1,z2⟩:=l2 n i Y;rw[g3]at z1;cases z1;rw[<-q]at z2;obtain⟨v',I,r',y2,_,_,_,y3⟩:=l.sl i _ _ z2;have hi:i∈is:=l0 Y;rw[t.1 i (J8 i hi)]at I;rw[show(L2.start N vs)[i]?=a5 (a5 (.ref r)) from dh g2]at I;cases I;cases y2;exact y3
 refine⟨O,st',e,λc q l n t=>?_⟩;cases O with
 |nx=>cases o;exact j .Jc c.H c.S (T c q l t .Jc rfl)
 |rt k0 u0=>cases k0<;>first|(cases o;done)|(cases o;exact λv r=>j v c.H c.S (T c q l t v r))
 |_=>cases o
noncomputable def Fn.bd(fn:Fn):List S:=match fn.io with|some (_,b)=>b|none=>fn.body
noncomputable def RN(fn:Fn):Bool:=match fn.io with|some (is,b)=>is.all λi=>LK b i|none=>b8
noncomputable def RO(ck:Ck)(Pg:List Fn):Bool:=ck.fns.all (λg=>Pg.any λfn=>dt (fn.name=g)&&fn.io.isNone)&&ck.K5.all λp=>Pg.any λfn=>dt (fn.name=p.1)&&dt (fn.io.map (·.1)=a5 p.2)
structure Ld(ck:Ck)(K:PySem.W.Frag)(mg:Str->Option d3)(fn:Fn):Prop where
 ex:∃(qual:Str) (st:M3) (f:fR) (fd:SF) (N ps:List Str),NC K fn.name qual st f fd/\mg fn.name=a5 (.ref f)/\Binds K fd ps []/\dU N ps (aQ st)/\N.length=fn.ns/\ps.length=fn.np/\dM ck fn.bd N (aQ st) (cT st)=b8/\RN fn=b8
theorem CA{Pg:List Fn}(a:(Pg.map (·.name)).Nodup)(h:fn∈Pg):Pg.find? (λg=>dt (g.name=fn.name))=a5 fn:=by
 induction Pg with
 |nil=>cases h
 |cons g Pg b =>
  rw[d6,my]at a;rcases et.mp h with rfl|h
  ·simp
  ·rw[NY];have:dt (g.name=fn.name)=cc:=by
    apply Œ;intro z;exact a.1 (z▸QZ h)
   rw[this];exact b a.2 h
theorem sT(a:(Pg.map (·.name)).Nodup)(h:fn∈Pg):Jl Pg (d+1) fn.name=iU (Jl Pg d) fn:=by
 funext us
 show(match Pg.find? λg=>dt (g.name=fn.name) with|some fn=>iU (Jl Pg d) fn us|none=>b6)=_;rw[CA a h]
theorem ni(h:fn.io=b6):iU Γ fn=cw Γ fn:=by funext us;unfold iU;rw[h]
theorem xj(h:fn.io=a5 (is,b)):iU Γ fn=gk Γ fn is b:=by funext us;unfold iU;rw[h]
theorem vb(O:(Pg.map (·.name)).Nodup)(q:RO ck Pg=b8)(t:∀x∈bL,mg x=b6)(T:∀p∈ck.gl,∃val v,mg p.1=a5 val/\RelV v val/\∀(C:Ct) S H,Rep C S H p.2 v)
  (ld:∀fn∈Pg,Ld ck K mg fn) (xs:Pp ck K mg):∀d,(∀g∈ck.fns,Co P w K mg base d (Jl Pg d g) g)/\∀p∈ck.K5,Cp P w K mg base d (Jl Pg d p.1) p.1 p.2:=by
 simp only[RO,cb,i8,S9,ŏ]at q;intro d;induction d with
 |zero =>
  refine⟨λg I=>?_,λp J=>?_⟩
  ·obtain⟨fn,j,rfl,_⟩:=q.1 g I;obtain⟨a,st,f,l,N,ps,F,m,n,S,B,o,_⟩:=(ld fn j).ex;exact⟨fn.np,f,l,ps,⟨λvs H Q E h=>h.1.trans o.symm,λA outer s H args us vs Q E _ _ _ _ h=>by obtain⟨_,us,r,_,e,_⟩:=h;cases e⟩,m,F.kp,n,λus k u e=>(by cases e),λus c e=>by cases e⟩
  ·obtain⟨fn,j,e,_⟩:=q.2 p J;obtain⟨a,st,f,l,N,ps,F,m,n,S,B,o,_⟩:=(ld fn j).ex;exact⟨fn.np,f,l,ps,⟨λvs H Q E h=>h.1.trans o.symm,λA outer s H args us vs Q E _ _ _ _ h=>by obtain⟨_,us,k,u,_,_,_,e,_⟩:=h;cases e⟩,e▸m,F.kp,n,λus k e=>by cases e⟩
 |succ d G =>
  refine⟨λg I=>?_,λp J=>?_⟩
  ·obtain⟨fn,j,rfl,i⟩:=q.1 g I;rw[RU]at i;obtain⟨a,st,f,l,N,ps,F,m,n,S,B,o,D,_⟩:=(ld fn j).ex;rw[sT O j,ni i];rw[show fn.bd=fn.body by unfold Fn.bd;rw[i]]at D;refine⟨fn.np,f,l,ps,Ds F S B o D t G.1 T G.2 xs,m,F.kp,n,λus k u e=>?_,λus c e=>(qD e).1⟩;obtain⟨h1,h2⟩:=oY e;refine⟨?_,h1⟩;rcases h2 with⟨z,_⟩|⟨z,_⟩
   ·exact z
   ·exact .inr (.inl z)
  ·obtain⟨fn,j,e,i⟩:=q.2 p J;rw[fx]at i;obtain⟨⟨is,b⟩,i,Y⟩:=i;obtain⟨x,y⟩:=p
   dsimp only at e Y
   subst e Y;obtain⟨a,st,f,l,N,ps,F,m,n,S,B,o,D,L⟩:=(ld fn j).ex;rw[sT O j,xj i];rw[show fn.bd=b by unfold Fn.bd;rw[i]]at D;unfold RN at L;rw[i]at L;exact⟨fn.np,f,l,ps,FJ F S B o (i8.mp L) D t G.1 T G.2 xs,m,F.kp,n,λus r e=>(u_ e).1⟩
end
noncomputable def sU(ns:List Int):U:=.lst (ns.map .int)
theorem nj{S:fR->Prop}:∀(ns:List Int),ak C S H (ns.map .int) (ns.map V.int)
 |[]=>rfl
 |n::ns=>⟨_,_,rfl,rfl,nj ns⟩
theorem sV(h:JA C.K H a (ns.map V.int)):Rep C (KS H) H (sU ns) (.ref a):=by
 refine⟨a,_,rfl,?_,nj ns⟩;rcases h with(h|⟨o,h⟩)|h
 ·exact .inl ⟨⟨_,h⟩,.inl h⟩
 ·exact .inl ⟨⟨_,h⟩,.inr ⟨o,h⟩⟩
 ·exact .inr h
theorem qE:∀{l:List α},(∀a∈l,f a=g a)->l.filterMap f=l.filterMap g
 |[],_=>rfl
 |a::l,h=>by rw[I0,I0,h a (by simp),qE λb c=>h b (by simp[c])]
theorem vc:∀(l:List Str) (us:List d3),l.Nodup->us.length=l.length->l.filterMap (λn=>((l.zip us).lookup n).map (n,·))=l.zip us
 |[],_,_,_=>rfl
 |a::l,[],_,h=>nomatch h
 |a::l,u::us,b,h=>by
  rw[my]at b;have c:=vc l us b.2 (by simpa using h);simp only[OU,I0,tj,beq_self_eq_true,Tc];congr 1
  conv=>rhs;rw[<-c]
  refine qE λn d=>?_;have:(n==a)=cc:=by
   rw[beq_eq_false_iff_ne];rintro rfl;exact b.1 d
  rw[this]
theorem zx(l:List Str)(us:List d3)(h:us.length=l.length):l.filter (λn=>((l.zip us).lookup n).isNone)=[]:=by
 rw[Y6];intro n hn;induction l generalizing us with
 |nil=>cases hn
 |cons a l b =>
  cases us with
  |nil=>cases h
  |cons u us =>
   simp only[OU,tj];cases e:n==a with
   |true=>simp
   |false =>
    rcases et.mp hn with rfl|hn
    ·simp at e
    ·exact b us (by simpa using h) hn
theorem zy{kV a b c ct:d3}(d:(as.map (·.arg)).Nodup)(hl:us.length=(as.map (·.arg)).length):
  å (PySem.W.fnOf x q ⟨[],as,b6,[],[],b6,[]⟩ body scope .none kV a b g c ct) ⟨us,[]⟩=pure ((as.map (·.arg)).zip us):=by
 have e:=vc _ us d hl;have f:=zx _ us hl;have hs:Xr mh=pure b6:=rfl;simp only[å,PySem.W.fnOf,Lx,mf,r6,hs,pure_bind,Vn,Tt,Į,List.drop_nil,List.zip_nil_right,Xn,e];rw[ő (by simp[hl])];rw[c4,D7 (by simp),f];rfl
structure Me where
 fn:Fn
 i:Nat
 N:List Str
 a:fR
 c:fR
 m:d3
 cr:Obj
noncomputable def Me.fd(top:Nat->M3)(m:Me):SF:=PySem.W.fnOf m.fn.name m.fn.name (fW (top m.i)) (cT (top m.i)) (aQ (top m.i)) .none .none .none m.m b6 (.ref m.c) .none
noncomputable def Me.fo(top:Nat->M3)(m:Me):Obj:=⟨.type "function",b6,.func (m.fd top),#[]⟩
abbrev Gx:=Obj×List (fR×Obj)
noncomputable def adr(ms:List Me)(xa:List fR):List fR:=3::(ms.flatMap (λm=>[m.c,m.a])++xa)
noncomputable def Li(top:Nat->M3)(g:Gx)(ms:List Me):PySem.W.Frag:=(3,g.1)::(ms.flatMap (λm=>[(m.c,m.cr),(m.a,m.fo top)])++g.2)
theorem vd(top:Nat->M3)(g:Gx)(ms:List Me)(xa:List fR)(h:g.2.map (·.1)=xa):adr ms xa=(Li top g ms).map (·.1):=by
 unfold adr Li;rw[d6,js,List.map_flatMap,h];rfl
noncomputable def FK(v:Option (Option d3))(a:fR):Bool:=match v with|some (a5 (.ref b))=>dt (b=a)|_=>cc
theorem CB(h:FK v a=b8):v=a5 (a5 (.ref a)):=by
 unfold FK at h;split at h
 ·rw[ŕ h]
 ·cases h
noncomputable def nn(o:Option (Option d3)):Bool:=match o with|some b6=>b8|_=>cc
theorem Hr(h:nn o=b8):o=a5 b6:=by
 unfold nn at h;split at h
 ·rfl
 ·cases h
noncomputable def Hs(p:Arguments)(ps:List Str):Bool:=p.posonlyargs.isEmpty&&p.vararg.isNone&&p.kwonlyargs.isEmpty&&p.kw_defaults.isEmpty&&p.kwarg.isNone&&p.defaults.isEmpty&&dt (p.args.map (·.arg)=ps)
noncomputable def Wf(N:List Str)(b:Nat)(a:Nb):Bool:=dt (a.kind=.function)&&dt (a.isCoroutine=cc)&&dt (a.isGenerator=cc)&&decide N.Nodup&&(N.take b).all (lY a)&&a.names.all (λy=>dt (y.2≠.free))
noncomputable def Wg(ck:Ck)(top:Nat->M3)(K:PySem.W.Frag)(m:Me):Bool:=PySem.W.codeIn K (.ref m.c) m.fn.name&&PySem.W.keepIn K (.ref m.a)&&FK (PySem.W.nsIn K qP m.fn.name) m.a&&Hs (fW (top m.i)) (m.N.take m.fn.np) &&
 Wf m.N m.fn.np (aQ (top m.i))&&dt (m.N.length=m.fn.ns)&&dt (m.fn.np<=m.fn.ns)&&(dM ck m.fn.bd m.N (aQ (top m.i)) (cT (top m.i))&&RN m.fn)
noncomputable def Wh(K:PySem.W.Frag)(p:Str×U):Bool:=match p.2,PySem.W.nsIn K qP p.1 with
 |.int i,a5 (a5 (.int j _))=>dt (i=j)
 |.str i,a5 (a5 (.str j _))=>dt (i=j)
 |_,_=>cc
noncomputable def NW(ck:Ck)(top:Nat->M3)(K:PySem.W.Frag)(ms:List Me):Bool:=ms.all (Wg ck top K)&&bL.all (λy=>nn (PySem.W.nsIn K qP y))&&ck.gl.all (Wh K)&&dt (K.map (·.1)).Nodup
theorem Ht{K:PySem.W.Frag}(b:(K.map (·.1)).Nodup)(h:(a,o)∈K):K.lookup a=a5 o:=by
 induction K with
 |nil=>cases h
 |cons p K c =>
  rw[d6,my]at b;rw[tj];rcases et.mp h with rfl|h
  ·simp
  ·have:(a==p.1)=cc:=by
    rw[beq_eq_false_iff_ne];rintro rfl;exact b.1 (lg.mpr ⟨_,h,rfl⟩)
   rw[this];exact c b.2 h
section
theorem Dt(c:NW ck top (Li top g ms) ms=b8)(h:m∈ms):NC (Li top g ms) m.fn.name m.fn.name (top m.i) m.a (m.fd top)/\PySem.W.nsIn (Li top g ms) qP m.fn.name=a5 (a5 (.ref m.a)) /\
  (∀us:List d3,us.length=(m.N.take m.fn.np).length->å (m.fd top) ⟨us,[]⟩=pure ((m.N.take m.fn.np).zip us))/\dU m.N (m.N.take m.fn.np) (aQ (top m.i))/\m.N.length=m.fn.ns/\(m.N.take m.fn.np).length=m.fn.np/\(dM ck m.fn.bd m.N (aQ (top m.i)) (cT (top m.i))=b8/\RN m.fn=b8):=by
 simp only[NW,cb,ŏ]at c;have z:=i8.mp c.1.1.1 m h;simp only[Wg,cb,ŏ]at z;obtain⟨⟨⟨⟨⟨⟨⟨j,k⟩,l⟩,b⟩,d⟩,n⟩,u⟩,o⟩:=z;simp only[Wf,cb,ŏ]at d;obtain⟨⟨⟨⟨⟨s1,s2⟩,s3⟩,s4⟩,p⟩,q⟩:=d;have r:(Li top g ms).lookup m.a=a5 (m.fo top):=Ht c.2 (et.mpr (.inr (QK _ (List.mem_flatMap.mpr ⟨m,h,by simp⟩))));have hl:(m.N.take m.fn.np).length=m.fn.np:=by rw[x4];lia
 refine⟨Ef r j k,CB l,λus f=>?_,⟨s1,s2,s3,s4,by rw[hl],λx s=>?_,λy t=>?_⟩,n,hl,o⟩
 ·unfold Me.fd;revert b;cases fW (top m.i) with
  |mk v as w A B kw C =>
   intro b;simp only[Hs,cb,y1,RU,ŏ]at b;obtain⟨⟨⟨⟨⟨⟨rfl,rfl⟩,rfl⟩,rfl⟩,rfl⟩,rfl⟩,e⟩:=b;rw[<-e]at f ⊢;exact zy (by rw[e];exact(Ó _ _).nodup s4) f
 ·have:=i8.mp p x s;simpa[lY] using this
 ·have:=i8.mp q y t;simpa using this
theorem Hu(i:NW ck top (Li top g ms) ms=b8)(X:(Li top g ms).In h)(G:h.Ns qP mg)(hi:m∈ms):Ld ck (Li top g ms) mg m.fn :=
 let ⟨a,b,c,d,e,f,k⟩:=Dt i hi
 ⟨_,_,_,_,_,_,a,PySem.W.mg_of X G b,.all c,d,e,f,k⟩
theorem FL(c:NW ck top (Li top g ms) ms=b8)(X:(Li top g ms).In h)(G:h.Ns qP mg):∀p∈ck.gl,∃val v,mg p.1=a5 val/\RelV v val/\∀(C:Ct) S H,Rep C S H p.2 v:=by
 intro p d;simp only[NW,cb,ŏ]at c;have z:=i8.mp c.1.2 p d;unfold Wh at z;split at z
 ·rename_i i j k a b;obtain rfl:=ŕ z;exact⟨_,.int i,PySem.W.mg_of X G b,⟨_,rfl⟩,λ_ _ _=>by rw[a];rfl⟩
 ·rename_i i j k a b;obtain rfl:=ŕ z;exact⟨_,.str i,PySem.W.mg_of X G b,⟨_,rfl⟩,λ_ _ _=>by rw[a];rfl⟩
 ·cases z
end
noncomputable def gX(ck:Ck)(K:PySem.W.Frag):Bool:=ck.xc.all (λx=>match PySem.W.nsIn K qP x with|some (a5 (.ref C))=>PySem.W.excIn K C O_ "ValueError.__new__"|_=>cc)&&ck.xd.all λp=>match PySem.W.nsIn K qP p.1,PySem.W.nsIn K qP p.2 with
 |some (a5 (.ref C)),a5 (a5 (.ref D))=>(PySem.W.exmOne K (.ref C) (.ref C)==a5 b8)&&(PySem.W.kitCls K (.ref C) (.ref D)==a5 b8&&C != D)
 |_,_=>cc
theorem FN{K:PySem.W.Frag}(z:gX ck K=b8)(X:K.In h)(G:h.Ns qP mg):Pp ck K mg:=by
 rw[gX,cb,i8,i8]at z;refine⟨λx b=>?_,λp c=>?_⟩
 ·have:=z.1 x b;split at this
  ·rename_i e;exact⟨_,PySem.W.mg_of X G e,e,this⟩
  ·cases this
 ·have:=z.2 p c;split at this
  ·rename_i a d;rw[cb,beq_iff_eq]at this;exact⟨_,_,PySem.W.mg_of X G a,a,PySem.W.mg_of X G d,this.1,this.2⟩
  ·cases this
theorem walk{l:PySem.W.OpenLaw}{K:VH->PySem.W.Frag}
  (A:l.most=a5 63) (B:d.params.defaults=[]) (D:ft (dp+1) Uk) (I:∀(w:Jq) (h:Jy),J w h->(K w.params).In h)
  (j:(Pg.map (·.name)).Nodup) (r:RO ck Pg=b8) (L:fn.io=b6) (O:fn∈Pg) (MM:fn.name=d.name)
  (F:∀(w:Jq) (mg:Str->Option d3) (fa:fR) (h:Jy),(K w.params).In h->h.Ns qP mg->mg d.name=a5 (.ref fa) ->
   (∀y∈bL,mg y=b6)/\(∀p∈ck.gl,∃val v,mg p.1=a5 val/\RelV v val/\∀(C:Ct) S H,Rep C S H p.2 v)/\(∀g∈Pg,Ld ck (K w.params) mg g)/\Pp ck (K w.params) mg /\
   ∃(c:Str) (st:M3) (i:SF) (N:List Str),NC (K w.params) fn.name c st fa i/\dU N [x] (aQ st)/\N.length=fn.ns/\1=fn.np/\dM ck fn.body N (aQ st) (cT st)=b8/\∀(s:fS) (u:d3),Ê s i ⟨[u],[]⟩ [(x,u)])
  (T:∀ns:List Int,ns.length<=63->Jl Pg (dp+1) fn.name [sU ns]=a5 (.ok (.loc,.bl b8))) :
  PySem.W.WalkO q m XP J l.row.toRowW d [] (λf vs=>PySem.call f vs) :=
 L2.Bh (n:=63) (k:=dp+1) (x:=x) (CX:=λw=>Ot l.prog w) (sp:=λw=>spT l.prog w (K w.params) (cw (Jl Pg dp) fn) fn.np) A (by decide) B D I
  (λw mg fa h Q G Y=>by
   obtain⟨e,o,ld,xs,c,st,i,N,F1,S,hN,Lp,hc,hb⟩:=F w mg fa h Q G Y;exact⟨i,hb,λbase _ _=>Ds F1 S hN Lp hc e (vb j r e o ld xs dp).1 o (vb j r e o ld xs dp).2 xs⟩)
  (λw H a ns hl _ hS=>by
   have t:=T ns hl;rw[sT j O,ni L]at t;have Y5:fn.np=1:=(oY t).1.symm;exact⟨Y5.symm,[sU ns],.ok (.loc,.bl b8),KS H,t,λ_ z=>z,⟨_,_,rfl,sV hS,rfl⟩,.inr (.inl rfl),λv H' S' b=>b.loc rfl⟩)
  λ_ _ _ _ _ ⟨_,_,_,_,_,_,z⟩=>z
theorem walk2{l:PySem.W.OpenLaw}{g:VH->Gx}
  (z:l.most=a5 63) (A:d.params.defaults=[]) (B:ft (dp+1) Uk) (o:ms.map (·.fn)=Pg) (C:(Pg.map (·.name)).Nodup) (D:RO ck Pg=b8) (p:m.fn.io=b6) (r:m∈ms) (t:m.fn.name=d.name) (H:m.N.take m.fn.np=[x])
  (ok:∀P,NW ck top (Li top (g P) ms) ms=b8) (I:∀P,gX ck (Li top (g P) ms)=b8) (J:∀P,(g P).2.map (·.1)=xa) (T:∀ns:List Int,ns.length<=63->Jl Pg (dp+1) m.fn.name [sU ns]=a5 (.ok (.loc,.bl b8))) :
  PySem.W.WalkO q j O (PySem.W.kHook (λP=>Li top (g P) ms) (adr ms xa) λP=>vd top (g P) ms xa (J P)).says l.row.toRowW d [] (λf vs=>PySem.call f vs) :=
 walk z A B (λw h Y=>PySem.W.kIn_of Y) C D p (o▸lg.mpr ⟨m,r,rfl⟩) t (λw mg fa h X G v=>by
  have hk:=ok w.params;obtain⟨a,b,c,e,f,k,n⟩:=Dt hk r;rw[<-t,PySem.W.mg_of X G b]at v;cases v;rw[H]at c e k;refine⟨λy i=>PySem.W.mg_none_of X G (Hr ?_),FL hk X G,λy i=>?_,FN (I w.params) X G,_,_,_,_,a,e,f,k,by have:=n.1;rw[show m.fn.bd=m.fn.body by unfold Fn.bd;rw[p]]at this;exact this,λs u=>.of_eq (c [u] rfl)⟩
  ·simp only[NW,cb]at hk;exact i8.mp hk.1.1.2 y i
  ·rw[<-o]at i;obtain⟨Q,L,rfl⟩:=lg.mp i;exact Hu hk X G L) T
noncomputable def co(n:Str)(k l c:Nat)(r s:fR)(x y z:d3)(a b t:Nat):Obj:=⟨.type "code",b6,.fields #[.str n k,.str n (k+1),.str "/claim/cut.py" (k+2),.int l 0,.int c 0,.int 0 0,.int 0 0,.int 3 0,.ref r,.bool b8,.int t 0,.ref s,.none,x,y,z,.int a 0,.int l 0,.str "/claim/cut.py" b],#[]⟩
noncomputable def ge(P:VH)(x:Str)(k:Nat)(v:d3):DictEntry:=⟨Ke P x,.str x k,v⟩
end TM
namespace TM
open PySem L2
section
def Run(m:M α)(st:az)(a:α)(st':az):Prop:=m st=a5 (.ok a,st')
theorem aa(c:Run m st a st1)(d:Run (f a) st1 b st2):Run (m >>= f) st b st2:=by
 show M.bind m f st=_;unfold M.bind;rw[show m st=_ from c];exact d
theorem aU:Run (pure a:M α) st a st:=rfl
theorem b_(h:o=a5 a):Run (M.Jp o) st a st:=by subst h;rfl
theorem aY(h:bt rs st):Run (aC rs) st () st:=by show aC rs st=_;unfold aC;rw[Ő h]
noncomputable def kv(i:Nat)(k:Kd):Kd:=if k.root=b8 then .bor i else k
theorem dN(h:st[i]?=a5 (a5 (k,u)))(hk:k≠.IY:=by intro z;cases z):Run (dn i) st (kv i k,u) st:=by
 show dn i st=_;unfold dn;rw[h];cases k<;>first|rfl|exact absurd rfl hk
theorem ae(h:st[i]?=a5 (a5 (.loc,u))):Run (ev Γ (.var i)) st (.loc,u) st:=dN h
theorem a_(h:st[i]?=a5 (a5 (.any,u))):Run (ev Γ (.var i)) st (.any,u) st:=dN h
theorem aB(h:st[i]?=a5 (a5 (.own,u))):Run (ev Γ (.var i)) st (.bor i,u) st:=dN h
theorem aj:Run (ev Γ (.cst u)) st (.loc,u) st:=rfl
theorem Du:Run (ev Γ (.Pa x u)) st (.loc,u) st:=rfl
theorem bC(c:Run (ev Γ a) st x st1)(d:Run (ev Γ b) st1 y st2)(e:bt [x,y] st2)(f:LW g x y=a5 r):Run (ev Γ (.bin g a b)) st r st2 :=
 aa c (aa d (aa (aY e) (b_ f)))
theorem jx(d:Run (ev Γ a) st x st1)(e:Run (ev Γ b) st1 y st2)(f:bt [x,y] st2)(g:cm h x.2 y.2=a5 c):Run (ev Γ (.cmp h a b)) st (.loc,.bl c) st2 :=
 aa d (aa e (aa (aY f) (aa (b_ g) aU)))
theorem aN(c:Run (ev Γ a) st x st1)(d:Run (ev Γ b) st1 y st2)(e:bt [x,y] st2)(f:fJ x y.2=a5 r):Run (ev Γ (.idx a b)) st r st2 :=
 aa c (aa d (aa (aY e) (b_ f)))
theorem nq:Run (Ox Γ []) st b6 st:=rfl
theorem jy(h:Run (ev Γ e) st (k,.int i) st1):Run (Ox Γ [e]) st (a5 i) st1:=aa h rfl
theorem lu(c:Run (ev Γ a) st x st1)(d:Run (Ox Γ lo) st1 l st2)(e:Run (Ox Γ hi) st2 h b)(f:bt [x] b)(g:lV x l h=a5 r):Run (ev Γ (.Mb a lo hi)) st r b :=
 aa c (aa d (aa e (aa (aY f) (b_ g))))
theorem ai:Run (bG Γ []) st [] st:=rfl
theorem af(a:Run (ev Γ e) st r st1)(b:Run (bG Γ es) st1 rs st2):Run (bG Γ (e::es)) st (r::rs) st2:=aa a (aa b aU)
theorem bW(a:Run (bG Γ es) st rs st1)(b:bt rs st1)(c:KU f rs=a5 r):Run (ev Γ (.bi f es)) st r st1:=aa a (aa (aY b) (b_ c))
theorem zA(a:Run (bG Γ es) st rs st1)(b:bt rs st1)(c:se f rs=a5 r):Run (ev Γ (.Nh f es)) st r st1:=aa a (aa (aY b) (b_ c))
theorem zB(b:Run (ev Γ a) st x st1)(c:Run (bG Γ es) st1 rs st2)(d:bt (x::rs) st2)(e:lW m x.2 rs=a5 r):Run (ev Γ (.NR m a es)) st r st2:=aa b (aa c (aa (aY d) (b_ e)))
theorem vf(h:Γ f us=a5 (.ok r))(a:isAny r.1=cc):Run (kS Γ f us) st r st:=by
 obtain⟨k,u⟩:=r;show kS Γ f us st=_;unfold kS;rw[h];cases k<;>first|rfl|cases a
theorem bE(a:Run (bG Γ es) st rs st1)(b:bt rs st1)(c:Γ f (rs.map (·.2))=a5 (.ok r))(d:isAny r.1=cc:=by exact rfl):Run (ev Γ (.call f es)) st r st1:=aa a (aa (aY b) (vf c d))
theorem fQ(a:Run (bG Γ es) st rs st1)(b:bt rs st1)(c:Run (dm rs) st1 us st2)(d:us.length<=cL):Run (ev Γ (.tup es)) st (.loc,.tup us) st2:=by
 refine aa a (aa (aY b) (aa c ?_));rw[Ő d];exact aU
theorem bT(a:Run (bG Γ es) st rs st1)(b:bt rs st1)(c:Run (dm rs) st1 us st2)(d:us.length<=cL):Run (ev Γ (.lst es)) st (.own,.lst us) st2:=by
 refine aa a (aa (aY b) (aa c ?_));rw[Ő d];exact aU
theorem lx:Run (ev Γ (.KN r)) st (.own,.I_ [] []) st:=rfl
theorem zC:Run (lift (.own,u)) st u st:=rfl
theorem aI:Run (lift (.loc,u)) st u st:=rfl
theorem qF(h:Js u=b8):Run (lift (.any,u)) st u st:=by
 show(if Js u=b8 then(pure u:M U) else M.fail) st=_;rw[Ő h];rfl
theorem aF:Run (dm []) st [] st:=rfl
theorem aA(a:Run (lift r) st u st1)(b:Run (dm rs) st1 us st2):Run (dm (r::rs)) st (u::us) st2:=aa a (aa b aU)
theorem FO(d:Run (Jt Γ c) st b8 st1)(e:Run (ev Γ a) st1 r st2):Run (ev Γ (.ite c a b)) st r st2:=aa d e
theorem FP(d:Run (Jt Γ c) st cc st1)(e:Run (ev Γ b) st1 r st2):Run (ev Γ (.ite c a b)) st r st2:=aa d e
theorem FQ(h:Run (ev Γ e) st r st1):Run (il Γ [e]) st r st1:=h
theorem FR(h:Run (ev Γ e) st (k,.bl p) st1)(a:if p=b8 then Run (il Γ (b::es)) st1 r st2 else st2=st1/\r=(.loc,.bl cc)):Run (il Γ (e::b::es)) st r st2:=by
 refine aa h ?_;cases p with
 |true=>exact a
 |false=>obtain⟨rfl,rfl⟩:=a;exact aU
theorem Hv(h:Run (il Γ es) st r st1):Run (ev Γ (.and es)) st r st1:=h
theorem aV(d:Run (ev Γ a) st x st1)(e:Run (ev Γ b) st1 y st2)(f:bt [x,y] st2)(g:cm h x.2 y.2=a5 c):Run (Jt Γ (.cmp h a b)) st c st2:=aa d (aa e (aa (aY f) (b_ g)))
theorem vg(h:Run (Jt Γ a) st c st1):Run (Jt Γ (.not a)) st (!c) st1:=aa h aU
theorem jz(h:Run (bb Γ es) st c st1):Run (Jt Γ (.and es)) st c st1:=h
theorem zD(h:Run (fL Γ es) st c st1):Run (Jt Γ (.or es)) st c st1:=h
theorem iz:Run (bb Γ []) st b8 st:=rfl
theorem fc(h:Run (Jt Γ e) st c st1):Run (bb Γ [e]) st c st1:=h
theorem ly(h:Run (Jt Γ e) st b8 st1)(a:Run (bb Γ (b::es)) st1 c st2):Run (bb Γ (e::b::es)) st c st2:=aa h a
theorem sW(h:Run (Jt Γ e) st cc st1):Run (bb Γ (e::a::es)) st cc st1:=aa h aU
theorem qG(h:Run (Jt Γ e) st c st1):Run (fL Γ [e]) st c st1:=h
theorem Hw(h:Run (Jt Γ e) st b8 st1):Run (fL Γ (e::a::es)) st b8 st1:=aa h aU
theorem qH(h:Run (Jt Γ e) st cc st1)(a:Run (fL Γ (b::es)) st1 c st2):Run (fL Γ (e::b::es)) st c st2:=aa h a
theorem bh:Run (d_ i (.own,u)) st () (st.set i (a5 (.own,u))):=rfl
theorem aE:Run (d_ i (.loc,u)) st () (st.set i (a5 (.loc,u))):=rfl
theorem iA:Run (d_ i (.any,u)) st () (st.set i (a5 (.any,u))):=rfl
theorem Hx(a:Run (ev Γ e) st r st1)(b:Run (d_ i r) st1 () st2):Run (exec Γ (.set i e)) st .nx st2:=aa a (aa b aU)
theorem Hy(b:∃k' c,st[i]?=a5 (a5 (k',.lst c))/\k'≠.IY)(d:Run (ev Γ e) st r st1)(f:Run (lift r) st1 u st2)(g:st2[i]?=a5 (a5 (k,.lst us)))(hk:k.root=b8)(hl:us.length<cL):
  Run (exec Γ (.app i e)) st .nx (st2.set i (a5 (k,.lst (us++[u])))):=by
 obtain⟨k',c,b,h⟩:=b;refine aa (dN b h) (aa (a:=()) (st1:=st) rfl (aa d (aa f (aa (a:=()) ?_ aU))));show modS i (yK u) st2=_;unfold modS;rw[g];simp only[hk,if_true];have e:yK u (.lst us)=a5 (.lst (us++[u])):=by show(if us.length<cL then _ else _)=_;rw[Ő hl]
 rw[e]
theorem Hz(a:Run (ev Γ e) st r st1)(b:Run (retS r) st1 f st2):Run (exec Γ (.ret e)) st f st2:=aa a b
theorem gD:Run (retS (.own,u)) st (.rt .own u) st:=rfl
theorem fT:Run (retS (.loc,u)) st (.rt .loc u) st:=rfl
theorem iB(h:st[j]?=a5 (a5 (.own,u))):Run (retS (.bor j,a)) st (.rt .own u) (st.set j b6):=by
 show(match st[j]? with|some (a5 (.own,u))=>a5 (Ex.ok (Fl.rt .own u),st.set j b6)|_=>b6)=_;rw[h]
theorem oZ(d:Run (Jt Γ c) st b8 st1)(e:Run (execs Γ a) st1 f st2):Run (exec Γ (.ite c a b)) st f st2:=aa d e
theorem sX(d:Run (Jt Γ c) st cc st1)(e:Run (execs Γ b) st1 f st2):Run (exec Γ (.ite c a b)) st f st2:=aa d e
theorem aw:Run (execs Γ []) st .nx st:=rfl
theorem fy(a:Run (exec Γ s) st .nx st1)(b:Run (execs Γ ss) st1 f st2):Run (execs Γ (s::ss)) st f st2:=aa a b
theorem xk(a:Run (exec Γ s) st (.rt k u) st1):Run (execs Γ (s::ss)) st (.rt k u) st1:=aa a aU
theorem av(a:Run (ev Γ e) st r st1)(b:Run (d_ i r) st1 () st2)(c:Run (execs Γ ss) st2 f d):Run (execs Γ (.set i e::ss)) st f d:=fy (Hx a b) c
theorem fm(a:st[i]?=a5 (a5 (k',.lst l)))(b:Run (ev Γ e) st r st1)(c:Run (lift r) st1 u st2)(d:st2[i]?=a5 (a5 (k,.lst us)))(hk:k.root=b8)(hl:us.length<cL)
  (g:Run (execs Γ ss) (st2.set i (a5 (k,.lst (us++[u])))) f h) (j:k'≠.IY:=by intro z;cases z):Run (execs Γ (.app i e::ss)) st f h:=fy (Hy ⟨_,_,a,j⟩ b c d hk hl) g
theorem bO(a:Run (ev Γ e) st r st1)(b:Run (retS r) st1 (.rt k u) st2):Run (execs Γ (.ret e::ss)) st (.rt k u) st2:=xk (Hz a b)
theorem c6(d:Run (Jt Γ c) st b8 st1)(e:Run (execs Γ a) st1 .nx st2)(g:Run (execs Γ ss) st2 f h):Run (execs Γ (.ite c a b::ss)) st f h:=fy (oZ d e) g
theorem bu(d:Run (Jt Γ c) st cc st1)(e:Run (execs Γ b) st1 .nx st2)(g:Run (execs Γ ss) st2 f h):Run (execs Γ (.ite c a b::ss)) st f h:=fy (sX d e) g
theorem lz(d:Run (Jt Γ c) st b8 st1)(e:Run (execs Γ a) st1 (.rt k u) st2):Run (execs Γ (.ite c a b::ss)) st (.rt k u) st2:=xk (oZ d e)
theorem Dv(a:Run (bG Γ src) st rs st1)(b:bt rs st1)(c:K7 d rs=a5 xs)(e:uF rs is body=b8)(g:Run (forM t is (execs Γ body) rs xs) st1 f st2):
  Run (exec Γ (.Jv t is d src body)) st f st2:=by
 refine aa a (aa (aY b) (aa (b_ c) ?_));rw[Ő e];exact g
theorem c7(a:Run (bG Γ src) st rs st1)(b:bt rs st1)(c:K7 d rs=a5 xs)(e:uF rs is body=b8)(g:Run (forM t is (execs Γ body) rs xs) st1 .nx st2)(h:Run (execs Γ ss) st2 f i):
  Run (execs Γ (.Jv t is d src body::ss)) st f i:=fy (Dv a b c e g) h
theorem qJ(h:bt rs st):Run (forM t is body rs []) st .nx st:=aa (aY h) aU
theorem zE(h:bt rs st)(a:Run (dB t is x) st () st1)(b:Run body st1 .nx st2)(c:Run (forM t is body rs xs) st2 f d):Run (forM t is body rs (x::xs)) st f d:=aa (aY h) (aa a (aa b c))
theorem IW(h:bt rs st)(a:Run (dB t is x) st () st1)(b:Run body st1 (.rt k u) st2):Run (forM t is body rs (x::xs)) st (.rt k u) st2:=aa (aY h) (aa a (aa b aU))
theorem eh(h:Run (d_ i r) st () st1):Run (dB cc [i] r) st () st1:=h
theorem bw(a:us.length=fn.np)(hk:k=.own\/k=.loc)(hs:start us fn.ns=st0)(h:Run (execs Γ fn.body) st0 (.rt k u) st):cw Γ fn us=a5 (.ok (k,u)):=by
 subst hs;unfold cw;rw[Ő a,show execs Γ fn.body (start us fn.ns)=_ from h];rcases hk with rfl|rfl<;>rfl
theorem vh{cond:M Bool}(h:bt src st):Run (bY k t cond elt src [] acc) st acc st:=aa (aY h) aU
theorem o_{cond:M Bool}(h:bt src st)(c:Run (dB t (i0 k) x) (i9 k b6++st) () s1)(d:Run cond s1 b8 s2)(e:Run elt s2 r s3)(g:Run (lift r) s3 u s4)
  (hl:acc.length<cL) (i:Run (bY k t cond elt src xs (acc++[u])) (s4.drop k) us st2):Run (bY k t cond elt src (x::xs) acc) st us st2:=by
 refine aa (aY h) (aa (a:=a5 u) (st1:=s4.drop k) ?_ ?_)
 ·show inScope k _ st=_;unfold inScope;have j:Run (dB t (i0 k) x >>= λ_=>cond >>= λb=>if b=b8 then(elt >>= λr=>lift r >>= λu=>pure (a5 u)) else pure b6) (i9 k b6++st) (a5 u) s4 :=
   aa c (aa d (show Run (elt >>= λr=>lift r >>= λu=>pure (a5 u)) s2 (a5 u) s4 from aa e (aa (f:=λu=>pure (a5 u)) g rfl)))
  rw[show _=_ from j]
 ·show Run (if acc.length<cL then bY k t cond elt src xs (acc++[u]) else M.fail) _ _ _;rw[Ő hl];exact i
theorem zF{cond:M Bool}(h:bt src st)(c:Run (dB t (i0 k) x) (i9 k b6++st) () s1)(d:Run cond s1 cc s2)
  (e:Run (bY k t cond elt src xs acc) (s2.drop k) us st2):Run (bY k t cond elt src (x::xs) acc) st us st2:=by
 refine aa (aY h) (aa (a:=b6) (st1:=s2.drop k) ?_ e);show inScope k _ st=_;unfold inScope;have f:Run (dB t (i0 k) x >>= λ_=>cond >>= λb=>if b=b8 then(elt >>= λr=>lift r >>= λu=>pure (a5 u)) else pure b6) (i9 k b6++st) b6 s2 :=
  aa c (aa d (show Run (pure b6:M (Option U)) s2 b6 s2 from rfl))
 rw[show _=_ from f]
theorem dO{src cond:List E}(a:Run (bG Γ src) st rs st1)(b:bt rs st1)(c:K7 d rs=a5 xs)(f:Run (bY k t (bb Γ cond) (ev Γ e) rs xs []) st1 us st2):Run (ev Γ (.comp k t d src cond e)) st (.own,.lst us) st2 :=
 aa a (aa (aY b) (aa (b_ c) (aa f aU)))
end
section
theorem sY(c:Run (bG Γ es) st rs st1)(d:bt (rs.map (dR st1)) st1)(e:Γ f ((rs.map (dR st1)).map (·.2))=a5 (.ok (k,.tup (u::ws))))(hk:k=.own\/k=.loc)(a:qr (rs.map (dR st1)) is=b8)(b:gA (rs.map (dR st1)) is ws st1=a5 st2):
  Run (ev Γ (.Jb f es is)) st (k,u) st2:=by
 have g:Run (bG Γ es >>= BF) st (rs.map (dR st1)) st1:=aa c (show Run (BF rs) st1 (rs.map (dR st1)) st1 from rfl);refine aa g (aa (aY d) ?_);show qt Γ f _ is st1=_;unfold qt;rw[e];rcases hk with rfl|rfl
 ·show(if _ then _ else _)=_;rw[Ő a,b]
 ·show(if _ then _ else _)=_;rw[Ő a,b]
theorem Dw(h:st[i]?=a5 (a5 (k,.lst us)))(hk:k.root=b8)(a:us[us.length - 1]?=a5 u):Run (ev Γ (.pop i)) st (.loc,u) (st.set i (a5 (k,.lst us.dropLast))):=by
 show yI i st=_;unfold yI;rw[h];show(if _ then _ else _)=_;rw[Ő hk,a]
theorem FT(b:st[i]?=a5 (a5 (k0,.lst us0)))(c:k0≠.IY)(d:Run (ev Γ e) st (l,.int j) st1)(h:st1[i]?=a5 (a5 (k,.lst us)))(hk:k.root=b8)(j0:0<=j)(f:j<1000000)(g:us[j.toNat]?=a5 u):Run (ev Γ (.LJ i e)) st (.loc,u) (st1.set i (a5 (k,.lst (us.eraseIdx j.toNat)))):=by
 refine aa (dN b c) (aa (a:=()) (st1:=st) rfl (aa d ?_));show wJ i (.int j) st1=_;unfold wJ
 dsimp only
 rw[h];show(if _ then _ else _)=_;rw[Ő ⟨hk,j0,f⟩,g]
theorem cp(a:us.length=fn.np)(hs:cW is us fn.ns=st0)(h:Run (execs Γ body) st0 f st)(b:Rx f=a5 (k,u))(c:Oy is st=a5 ws):gk Γ fn is body us=a5 (.ok (k,.tup (u::ws))):=by
 subst hs;unfold gk;rw[Ő a,show execs Γ body (cW is us fn.ns)=_ from h];show(Rx f).bind _=_;rw[b];show(Oy is st).map _=_;rw[c];rfl
end
def JT(Pg:List Fn)(f:Str)(fn:Fn):Prop:=(Pg.find? λg=>dt (g.name=f))=a5 fn
section
theorem aJ(h:JT Pg f fn)(us:List U)(a:fn.io=b6:=by rfl):Jl Pg (d+1) f us=cw (Jl Pg d) fn us:=by
 show(match Pg.find? λg=>dt (g.name=f) with|some fn=>iU (Jl Pg d) fn us|none=>b6)=_;rw[show _=a5 fn from h];show iU _ _ _=_;unfold iU;rw[a]
theorem cQ(h:JT Pg f fn)(us:List U)(a:fn.io=a5 (is,b)):Jl Pg (d+1) f us=gk (Jl Pg d) fn is b us:=by
 show(match Pg.find? λg=>dt (g.name=f) with|some fn=>iU (Jl Pg d) fn us|none=>b6)=_;rw[show _=a5 fn from h];show iU _ _ _=_;unfold iU;rw[a]
end
theorem dZ(h:0<j):LW .mod (k,.int i) (k',.int j)=a5 (.loc,.int (i % j)):=by show(Bz i j).map _=_;rw[Bz,Ő h];rfl
theorem lA(h:0<j/\j<1073741824):LW .Ou (k,.int i) (k',.int j)=a5 (.loc,.int (i / j)):=by show(By i j).map _=_;rw[By,Ő h];rfl
theorem kb(h:(-(2 ^ 64)<i/\i<2 ^ 64)\/(-(2 ^ 64)<j/\j<2 ^ 64)):LW .mul (k,.int i) (k',.int j)=a5 (.loc,.int (i * j)):=by show(Bx i j).map _=_;rw[Bx,Ő h];rfl
theorem nY(h:0<=j/\j<=1000000/\i.natAbs<2 ^ 64):LW .pow (k,.int i) (k',.int j)=a5 (.loc,.int (i ^ j.toNat)):=by show(BA i j).map _=_;rw[BA,Ő h];rfl
theorem bV:LW .add (k,.int i) (k',.int j)=a5 (.loc,.int (i+j)):=rfl
theorem ka:LW .sub (k,.int i) (k',.int j)=a5 (.loc,.int (i - j)):=rfl
theorem cJ(h:J7 xs i=a5 u):fJ (k,.lst xs) (.int i)=a5 (kE k,u):=by show(J7 xs i).map _=_;rw[h];rfl
theorem kh(h:J7 xs i=a5 u):fJ (k,.tup xs) (.int i)=a5 (kE k,u):=by show(J7 xs i).map _=_;rw[h];rfl
local macro_rules
 |`(tactic| sizeOf_list_dec)=>`(tactic| first|exact aw|apply av|apply fm|apply bO|exact aj|exact ae rfl|exact a_ rfl|exact aB rfl|apply bC|apply jx|apply aN|apply bW|apply bE|apply zB|apply aV|exact ai|apply af|apply fQ|apply bT|exact aF|apply aA|exact aI|exact zC|(first|exact trivial|exact⟨⟨_,rfl,rfl⟩,trivial⟩|exact⟨⟨_,rfl,rfl⟩,⟨_,rfl,rfl⟩,trivial⟩)|exact bV|exact ka|exact dZ (by first|lia|decide)|exact lA (by first|lia|decide)|exact kb (by first|lia|decide)|exact nY (by decide)|exact aE|exact bh|exact iA|exact fT|exact gD|exact iB rfl|exact ki _|exact rfl|exact Nq)
theorem qK(h:dt (i<j)=c):cm .lt (.int i) (.int j)=a5 c:=by subst h;rfl
theorem fU(h:dt (j<i)=c):cm .gt (.int i) (.int j)=a5 c:=by subst h;rfl
theorem cq(h:(i==j)=c):cm .eq (.int i) (.int j)=a5 c:=by subst h;rfl
theorem cj:KU .len [(k,.lst xs)]=a5 (.loc,.int (xs.length:Nat)):=rfl
theorem pb:KU .len [(k,.tup xs)]=a5 (.loc,.int (xs.length:Nat)):=rfl
theorem zG(x:Kd×U):K7 .Kv [x]=yF x:=rfl
theorem jb(h:n<2 ^ 62):K7 .Kv [(k,.int (n:Nat))]=a5 ((i0 n).map λi:Nat=>(Kd.loc,U.int (0+(i:Int)))):=by
 rw[zG,yF,Ő ⋯,N_]
end TM
local macro_rules
 |`(tactic| sizeOf_list_dec)=>`(tactic| first|exact TM.aw|apply TM.av|apply TM.fm|apply TM.bO|exact TM.aj|exact TM.ae rfl|exact TM.a_ rfl|exact TM.aB rfl|apply TM.bC|apply TM.jx|apply TM.aN|apply TM.bW|apply TM.bE|apply TM.zB|apply TM.aV|exact TM.ai|apply TM.af|apply TM.fQ|apply TM.bT|exact TM.aF|apply TM.aA|exact TM.aI|exact TM.zC|(first|exact trivial|exact⟨⟨_,rfl,rfl⟩,trivial⟩|exact⟨⟨_,rfl,rfl⟩,⟨_,rfl,rfl⟩,trivial⟩)|exact TM.bV|exact TM.ka|exact TM.dZ (by first|lia|decide)|exact TM.lA (by first|lia|decide)|exact TM.kb (by first|lia|decide)|exact TM.nY (by decide)|exact TM.aE|exact TM.bh|exact TM.iA|exact TM.fT|exact TM.gD|exact TM.iB rfl|exact ki _|exact rfl|exact TM.Nq)
namespace JB
open PySem L2
theorem len_list(x:Str):x.length=x.cps.toList.length:=by simp[Ň]
theorem xm(a:0<=k)(b:k<=99):(x9 k).length<=2:=by
 obtain⟨m,rfl⟩:=wh a;have c:m<100:=by lia
 clear a b;revert m;decide +kernel
theorem fq:∀(ps:List Str) (acc:Array Nat),(ps.foldl (λacc p=>acc++nH.cps++p.cps) acc).toList=acc.toList++(ps.map λp=>p.cps.toList).flatten
 |[],acc=>by simp
 |p::ps,acc=>by
  rw[Tu,fq ps];have:nH.cps=#[]:=rfl;simp[this]
theorem join_list(ts:List Str):(Uo nH ts).cps.toList=(ts.map λp=>p.cps.toList).flatten:=by
 cases ts with
 |nil=>rfl
 |cons t ts =>
  show(ts.foldl (λacc p=>acc++nH.cps++p.cps) t.cps).toList=_;rw[fq];simp
noncomputable def one(c:Nat):Str:=⟨#[c]⟩
theorem join_ones(a:List Nat):(Uo nH (a.map one)).cps.toList=a:=by
 rw[join_list,i5];induction a with
 |nil=>rfl
 |cons c a b=>rw[d6,Vo,b];rfl
theorem qL(a:List Nat)(h:a.length<=100):ć nH (a.map one)=b8:=by
 unfold ć;have e:=PySem.StrLaws.joinTotal nH (a.map one);have b:nH.length=0:=rfl;have es:((a.map one).map (·.length)).sum=a.length:=by
  rw[i5];clear h e;induction a with
  |nil=>rfl
  |cons c a d=>rw[d6,NZ,d];show 1+a.length=a.length+1;lia
 rw[e,b,es];have f:a.length+(a.map one).length * 0<=100:=by lia
 revert f;generalize a.length+(a.map one).length * 0=m;revert m;decide
theorem FU(x:Str)(j:Nat):(PySem.StrLaws.sliceText x b6 (a5 (j:Int))).cps.toList=x.cps.toList.take j:=by
 by_cases h:j<=x.cps.toList.length
 ·rw[PySem.StrLaws.sliceText_to (x:=x) ⟨⋯,⋯⟩];simp
 ·have e:PySem.StrLaws.sliceText x b6 (a5 (j:Int))=PySem.StrLaws.sliceText x b6 (a5 (x.length:Int)):=by
   unfold PySem.StrLaws.sliceText;have hl:=len_list x;have:PySem.Builtin.Str.strSliceIndices b6 (a5 (j:Int)) 1 x.length=PySem.Builtin.Str.strSliceIndices b6 (a5 (x.length:Int)) 1 x.length:=by
    have a:¬((j:Int)<0):=by lia
    have b:¬((x.length:Int)<0):=by lia
    have c:min (j:Int) (x.length:Int)=x.length:=by lia
    simp[PySem.Builtin.Str.strSliceIndices,a,b,c]
   rw[this]
  have hl:=len_list x;rw[e,PySem.StrLaws.sliceText_to (x:=x) ⟨⋯,⋯⟩,Xo,D7 (l:=x.cps.toList) (i:=j) ⋯];show(x.cps.toList.take ((x.length:Int) - 0).toNat).toArray.toList=_;rw[D7 ⋯]
noncomputable def small:Str:="abcdefghijklmnopqrstuvwxyz"
theorem lB [DecidableEq α]:∀{l m:List α},l.Nodup->(∀x∈l,x∈m)->l.length<=m.length
 |[],_,_,_=>ki _
 |x::l,m,c,h=>by
  obtain⟨d,e⟩:=my.mp c;have a:=h x nc;have f:=lB (l:=l) (m:=m.erase x) e λy b=>(T5 (by rintro rfl;exact d b)).mpr (h y (l' _ b));rw[X1 a]at f;have:0<m.length:=YZ a;rw[ke];lia
end JB
namespace TM
open PySem L2 JB
theorem oh(a:x.length<=cL)(h:J7 x.cps.toList i=a5 c):fJ (k,.str x) (.int i)=a5 (.loc,.str (JB.one c)):=by
 simp only[fJ];rw[Ő a,h];rfl
theorem qM:small.length<=cL:=by decide
theorem dG:∀(ss:List Str),strsOf (ss.map U.str)=a5 ss
 |[]=>rfl
 |s::ss=>by show(strsOf (ss.map U.str)).map (s::·)=_;rw[dG ss];rfl
section
theorem pd(h:x.length+y.length<=cL):LW .add (k,.str x) (k',.str y)=a5 (.loc,.str (x++y)):=by
 simp only[LW,yE];rw[Ő h]
theorem eM:∀(ss:List Str) (n:Nat),dA n (ss.map U.str)=b8
 |[],n=>by simp[dA]
 |s::ss,n=>by simp only[d6,dA,eM ss n,UW];cases n<;>rfl
theorem qN(x:Str):∀(ss:List Str),((ss.map U.str).any λy=>bS y (.str x))=dt (x∈ss)
 |[]=>by simp
 |s::ss=>by
  rw[d6,UR,qN x ss];have:bS (.str s) (.str x)=dt (x=s):=by
   simp only[bS];by_cases h:x=s
   ·subst h;simp
   ·have h':s≠x:=λz=>h z.symm;simp[h,h']
  rw[this,Ll];simp
theorem CC(x:Str)(ss:List Str):Ow (.str x) (ss.map U.str)=a5 (dt (x∈ss)):=by
 unfold Ow;rw[Ő ⟨by rfl,eM ss 50⟩,qN]
theorem iC{ss:List Str}:cm .Jo (.str x) (.lst (ss.map U.str))=a5 (dt (x∉ss)):=by
 show(Ow (.str x) (ss.map U.str)).map (!·)=_;rw[CC];simp
end
section
end
theorem iD(h:Run (ev Γ j) st rv st1)(l:st1[i]?=a5 (a5 (k',u')))(m:Run (ev Γ n) st1 rk st2)(o:Run (dm [rv,rk]) st2 [c,d] b)(p:b[i]?=a5 (a5 (k,e)))(hk:k.root=b8)(q:dC d c e=a5 g)
  (r:Run (execs Γ ss) (b.set i (a5 (k,g))) f s) (t:k'≠.IY:=by intro z;cases z):Run (execs Γ (.put i n j::ss)) st f s:=by
 refine fy (aa h (aa (dN l t) (aa m (aa o (aa (a:=()) (st1:=b.set i (a5 (k,g))) ?_ aU))))) r;show modS i (uE [c,d]) b=_;unfold modS;rw[p];simp only[hk,if_true];show(match dC d c e with|some u'=>_|none=>b6)=_;rw[q]
abbrev Row:=Str×List Str
noncomputable def A'(r:Row):U:=.tup [.str r.1,.tup (r.2.map .str)]
noncomputable def keyOf(r:Row):Row:=(r.1,aR r.2)
theorem sorted_strs(h:ss.length<64):KU .sorted [(k,.tup (ss.map .str))]=a5 (.own,.lst ((aR ss).map .str)):=by
 show(strsOf (ss.map U.str)).bind _=_;rw[dG];show(if ss.length<64 then _ else _)=_;rw[Ő h]
structure nu(names:List Str)(r:Row):Prop where
 word:r.1∈names
 M4:r.2.length<=8
 once:r.2.Nodup
 told:∀x∈r.2,x∈names
section
theorem nv(h:Run (execs Γ (a++ss)) st f st2):(∃s1,Run (execs Γ a) st .nx s1/\Run (execs Γ ss) s1 f st2)\/(Run (execs Γ a) st f st2/\f≠.nx):=by
 induction a generalizing st with
 |nil=>exact .inl ⟨st,aw,h⟩
 |cons s a i =>
  have h':M.bind (exec Γ s) (λf=>match f with|.nx=>execs Γ (a++ss)|f=>pure f) st=a5 (.ok f,st2):=h;unfold M.bind at h';cases e:exec Γ s st with
  |none=>rw[e]at h';cases h'
  |some p =>
   obtain⟨x,s1⟩:=p;rw[e]at h';cases x with
   |exc c=>cases h'
   |ok g =>
    cases g with
    |nx =>
     rcases i h' with⟨s2,b,d⟩|⟨b,d⟩
     ·exact .inl ⟨s2,fy e b,d⟩
     ·exact .inr ⟨fy e b,d⟩
    |rt k u=>cases h';exact .inr ⟨xk e,λz=>nomatch z⟩
    |bk=>cases h';exact .inr ⟨aa (show Run (exec Γ s) st Fl.bk _ from e) aU,λz=>nomatch z⟩
    |ct=>cases h';exact .inr ⟨aa (show Run (exec Γ s) st Fl.ct _ from e) aU,λz=>nomatch z⟩
theorem HA(a:Run (exec Γ s) st f st1)(b:f≠.nx):Run (execs Γ (s::ss)) st f st1:=by
 cases f with
 |nx=>exact absurd rfl b
 |rt k u=>exact xk a
 |_=>exact aa a aU
theorem pe(g:Run (Jt Γ c) st p st1)(h:p=b8->Run (execs Γ (a++ss)) st1 f st2)(i:p=cc->Run (execs Γ (b++ss)) st1 f st2):Run (execs Γ (.ite c a b::ss)) st f st2:=by
 cases p with
 |true =>
  rcases nv (h rfl) with⟨s1,d,e⟩|⟨d,e⟩
  ·exact fy (oZ g d) e
  ·exact HA (oZ g d) e
 |false =>
  rcases nv (i rfl) with⟨s1,d,e⟩|⟨d,e⟩
  ·exact fy (sX g d) e
  ·exact HA (sX g d) e
theorem FV(h:Run (ev Γ e) st (k,.bl p) st)(a:p=b8->Run (il Γ (b::es)) st (.loc,.bl q) st):Run (il Γ (e::b::es)) st (.loc,.bl (p&&q)) st:=by
 refine FR h ?_;cases p with
 |true=>rw[Ő rfl];exact a rfl
 |false=>rw[ő kr];exact⟨rfl,rfl⟩
theorem Dx(h:Run (Jt Γ e) st p st)(a:p=cc->Run (fL Γ (b::es)) st q st):Run (fL Γ (e::b::es)) st (p||q) st:=by
 cases p with
 |true=>exact Hw h
 |false=>exact qH h (a rfl)
theorem sZ(h:Run (Jt Γ e) st p st)(a:p=b8->Run (bb Γ (b::es)) st q st):Run (bb Γ (e::b::es)) st (p&&q) st:=by
 cases p with
 |true=>exact ly h (a rfl)
 |false=>exact sW h
theorem jc{cond:M Bool}(h:bt src st)(k:Kd)(hk:k=.loc\/k=.any)(a g:α->U)(c:Kd)(d:∀y,Run cond (a5 (k,a y)::st) b8 (a5 (k,a y)::st)):∀(b:List α) (acc:List U),acc.length+b.length<=cL ->
  (∀y∈b,Run elt (a5 (k,a y)::st) (c,g y) (a5 (k,a y)::st)/\Run (lift (c,g y)) (a5 (k,a y)::st) (g y) (a5 (k,a y)::st))->Run (bY 1 cc cond elt src (b.map λy=>(k,a y)) acc) st (acc++b.map g) st
 |[],acc,_,_=>by rw[Lx,Lx,r6];exact vh h
 |y::b,acc,hl,e=>by
  obtain⟨f,i⟩:=e y (by simp);rw[ke]at hl;refine o_ (s1:=a5 (k,a y)::st) (s2:=a5 (k,a y)::st) (s3:=a5 (k,a y)::st) (s4:=a5 (k,a y)::st) h ?_ (d y) f i ⋯ ?_
  ·rcases hk with rfl|rfl
   ·exact eh aE
   ·exact eh iA
  ·have:=jc h k hk a g c d b (acc++[g y]) (by simp;lia) λz hz=>e z (by simp[hz]);rw[d6];simpa using this
theorem s9{cond:M Bool}(h:bt src st)(k:Kd)(hk:k=.loc\/k=.any)(a g:α->U)(p:α->Bool)(d:Kd):∀(b:List α) (acc:List U),acc.length+b.length<=cL ->
  (∀y∈b,Run cond (a5 (k,a y)::st) (p y) (a5 (k,a y)::st)/\(p y=b8->Run elt (a5 (k,a y)::st) (d,g y) (a5 (k,a y)::st)/\Run (lift (d,g y)) (a5 (k,a y)::st) (g y) (a5 (k,a y)::st)))->Run (bY 1 cc cond elt src (b.map λy=>(k,a y)) acc) st (acc++(b.filter p).map g) st
 |[],acc,_,_=>by rw[Lx,Tx,Lx,r6];exact vh h
 |y::b,acc,hl,f=>by
  obtain⟨e,j⟩:=f y (by simp);rw[ke]at hl;have i:Run (dB cc (i0 1) (k,a y)) (i9 1 b6++st) () (a5 (k,a y)::st):=by
   rcases hk with rfl|rfl
   ·exact eh aE
   ·exact eh iA
  cases c:p y with
  |true =>
   rw[c]at e;obtain⟨l,m⟩:=j c;refine o_ (s1:=a5 (k,a y)::st) (s2:=a5 (k,a y)::st) (s3:=a5 (k,a y)::st) (s4:=a5 (k,a y)::st) h i e l m ⋯ ?_;have:=s9 h k hk a g p d b (acc++[g y]) (by simp;lia) λz hz=>f z (by simp[hz]);rw[J3,Ő c,d6];simpa using this
  |false =>
   rw[c]at e;refine zF (s1:=a5 (k,a y)::st) (s2:=a5 (k,a y)::st) h i e ?_;have:=s9 h k hk a g p d b acc ⋯ λz hz=>f z (by simp[hz]);rw[J3,ő (by simp[c])];exact this
theorem cM(it:α->Kd×U)(I:List α->List α->az->Prop)(hs:∀d r st,I d r st->bt rs st)
  (â:∀d y r st,I d (y::r) st->∃st1 st2,Run (dB t is (it y)) st () st1/\Run body st1 .nx st2/\I (d++[y]) r st2):∀(r d:List α) (st:az),I d r st->∃st',Run (forM t is body rs (r.map it)) st .nx st'/\I (d++r) [] st'
 |[],d,st,h=>⟨st,qJ (hs _ _ _ h),by rw[r6];exact h⟩
 |y::r,d,st,h=>by
  obtain⟨s1,s2,a,b,c⟩:=â d y r st h;obtain⟨s3,e,f⟩:=cM it I hs â r (d++[y]) s2 c;exact⟨s3,zE (hs _ _ _ h) a b e,by simpa using f⟩
theorem zH(a:Run (bG Γ es) st rs st1)(c:bt rs st1)(d:Γ f (rs.map (·.2))=a5 (.ok r))(e:wI r.2=a5 b)(g:isAny r.1=cc:=by exact rfl):Run (Jt Γ (.call f es)) st b st1:=aa a (aa (aY c) (aa (vf d g) (b_ e)))
theorem zI(h:Run (ev Γ (.bi f es)) st (k,.bl b) st1):Run (Jt Γ (.bi f es)) st b st1:=by
 have h':(bG Γ es >>= λrs=>aC rs >>= λ_=>M.Jp (KU f rs)) st=a5 (.ok (k,.bl b),st1):=h;obtain⟨rs,s1,c,d,s2,e,r,s3,g,i⟩:∃rs s1,bG Γ es st=a5 (.ok rs,s1)/\∃(a:Unit) (s2:az),aC rs s1=a5 (.ok a,s2)/\∃r s3,M.Jp (KU f rs) s2=a5 (.ok r,s3)/\(r,s3)=((k,U.bl b),st1):=by
  have w:W (bG Γ es >>= λrs=>aC rs >>= λ_=>M.Jp (KU f rs)) st λr s=>(r,s)=((k,U.bl b),st1):=⟨_,_,h',rfl⟩
  rw[ah]at w;obtain⟨rs,s1,c,w⟩:=w;rw[ah]at w;obtain⟨a,s2,d,w⟩:=w;obtain⟨r,s3,e,w⟩:=w;exact⟨rs,s1,c,a,s2,d,r,s3,e,w⟩
 cases i;exact aa c (aa (a:=d) e (aa g (b_ rfl)))
theorem vi(b:st[i]?=a5 (a5 (k',.lst m)))(c:Run (ev Γ e) st r st1)(d:st1[i]?=a5 (a5 (k,.lst us)))(hk:k.root=b8)(g:kX r (.lst us)=a5 (.lst zs))
  (h:Run (execs Γ ss) (st1.set i (a5 (k,.lst zs))) f j) (l:k'≠.IY:=by intro z;cases z):Run (execs Γ (.ext i e::ss)) st f j:=by
 refine fy (aa (dN b l) (aa (a:=()) (st1:=st) rfl (aa c (aa (a:=()) (st1:=st1.set i (a5 (k,.lst zs))) ?_ aU)))) h;show modS i (kX r) st1=_;unfold modS;rw[d];simp only[hk,if_true];rw[g]
end
theorem vj(h:xs.length+a.length<=cL)(hs:d9 k a=b8):kX (k,.tup a) (.lst xs)=a5 (.lst (xs++a)):=by
 show(if xs.length+a.length<=cL/\d9 k a=b8 then _ else _)=_;rw[Ő ⟨h,hs⟩]
theorem vk(h:xs.length+a.length<=cL)(hs:d9 k a=b8):kX (k,.lst a) (.lst xs)=a5 (.lst (xs++a)):=by
 show(if xs.length+a.length<=cL/\d9 k a=b8 then _ else _)=_;rw[Ő ⟨h,hs⟩]
theorem ny:∀ss:List Str,bR (ss.map U.str)=b8
 |[]=>by simp[bR]
 |s::ss=>by simp[bR,Js,ny ss]
theorem pf(r:Row):Js (A' r)=b8:=by simp[A',Js,bR,ny]
theorem aO:∀rs:List Row,bR (rs.map A')=b8
 |[]=>by simp[bR]
 |r::rs=>by simp[bR,pf,aO rs]
theorem lC:∀(a b:List Str),cC (a.map U.str) (b.map U.str)=dt (a=b)
 |[],[]=>by simp[cC]
 |[],_::_=>by simp[cC]
 |_::_,[]=>by simp[cC]
 |x::a,y::b=>by
  rw[d6,d6,cC,lC a b];simp only[bS];by_cases h:x=y
  ·subst h;simp
  ·simp[h]
theorem gR(ss:List Str)(n:Nat):J1 (n+1) (.lst (ss.map U.str))=b8:=by simp[J1,eM]
theorem qO{a b:List Str}:cm .eq (.lst (a.map U.str)) (.lst (b.map U.str))=a5 (dt (a=b)):=by
 simp only[cm];rw[Ő ⟨gR a 49,gR b 49⟩];simp only[bS,lC]
theorem CD:cm .eq (.str a) (.str b)=a5 (dt (a=b)):=by
 simp only[cm];rw[Ő ⟨rfl,rfl⟩];simp only[bS];by_cases h:a=b
 ·subst h;simp
 ·simp[h]
theorem vm(f:α->β)(xs:List α)(lo hi:Option Int):cut (xs.map f) lo hi=(cut xs lo hi).map f:=by simp[cut,ċ,Č]
theorem CF(xs:List α)(lo hi:Option Int):(cut xs lo hi).length<=xs.length:=by simp[cut];lia
theorem vn(h:d9 k (ss.map U.str)=b8):lV (k,.lst (ss.map .str)) lo hi=a5 (.own,.lst ((cut ss lo hi).map .str)):=by
 simp only[lV];rw[Ő h,vm]
theorem zJ(h:d9 k (a.map U.int)=b8):lV (k,.lst (a.map .int)) lo hi=a5 (.own,.lst ((cut a lo hi).map .int)):=by
 simp only[lV];rw[Ő h,vm]
theorem zK(h:acc.length<4000)(a:(aM acc).length<64):se .sset [(k,.lst (acc.map .str))]=a5 (.own,.lst ((aR (aM acc)).map .str)):=by
 have e:ig (.lst (acc.map U.str))=a5 (aM acc):=by
  show(strsOf (acc.map U.str)).bind _=_;rw[dG];show(if acc.length+1<DD then _ else _)=_;rw[Ő (by show acc.length+1<4096;lia)]
 show(ig (.lst (acc.map U.str))).bind _=_;rw[e];show(if (aM acc).length<64 then _ else _)=_;rw[Ő a]
theorem FW(l:List Str)(x:Str):x∈aR (aM l)↔x∈l:=by rw[(bJ _).mem_iff,gI]
theorem zL{l names:List Str}(h:∀x∈l,x∈names):(aM l).length<=names.length:=lB (ox l) λx a=>h x ((gI l x).mp a)
section
end
section
theorem HB:Run (Nk Γ [] out) st out st:=rfl
theorem s_(a:Run (ev Γ e) st x st1)(b:qw x.2 out=a5 y)(c:Run (Nk Γ es y) st1 z st2):Run (Nk Γ (e::es) out) st z st2:=aa a (aa (b_ b) c)
theorem HC(h:Run (Nk Γ es nH) st z st1):Run (ev Γ (.fst es)) st (.loc,.str z) st1:=aa h aU
theorem Dy(c:Run (ev Γ a) st x st1)(d:oJ x.2 T=a5 b):Run (ev Γ (.MV a T)) st (.loc,.bl b) st1:=aa c (aa (b_ d) aU)
theorem HD(c:Run (ev Γ a) st x st1)(d:oJ x.2 T=a5 b):Run (Jt Γ (.MV a T)) st b st1:=aa c (b_ d)
end
theorem CG(x y:Str):(x++y).cps.toList=x.cps.toList++y.cps.toList:=by
 show(x.cps++y.cps).toList=_;simp
theorem str_len(x y:Str):(x++y).length=x.length+y.length:=by rw[len_list,len_list,len_list,CG,hV]
theorem ph(a:y.length<=1000)(b:out.length<=1000):qw (.str y) out=a5 (out++y):=by
 have hsz:(4000:Nat)<=cL:=by decide
 simp only[qw];rw[Ő ⟨⋯,by rw[str_len];lia⟩]
noncomputable def cA(rows:List Row):List Str:=(rows.map λr=>r.1::r.2).flatten
noncomputable def ei(rows:List Row):List Str:=aR (aM (cA rows))
theorem qQ(d:List Row)(y:Row):cA (d++[y])=cA d++[y.1]++y.2:=by simp[cA]
theorem tf:x∈cA rows↔∃r∈rows,x=r.1\/x∈r.2:=by
 simp only[cA,Û,lg];constructor
 ·rintro⟨l,⟨r,a,rfl⟩,b⟩;exact⟨r,a,et.mp b⟩
 ·rintro⟨r,a,b⟩;exact⟨_,⟨r,a,rfl⟩,et.mpr b⟩
theorem iE(h:∀r∈rows,nu names r):∀x∈cA rows,x∈names:=by
 intro x hx;obtain⟨r,a,hx⟩:=tf.mp hx;rcases hx with rfl|hx
 ·exact(h r a).word
 ·exact(h r a).told x hx
theorem lD(h:∀r∈rows,r.2.length<=8):(cA rows).length<=9 * rows.length:=by
 induction rows with
 |nil=>simp[cA]
 |cons r rows a =>
  have c:=h r (by simp);have b:=a λs hs=>h s (by simp[hs]);simp only[cA,d6,Vo,hV,ke]at b ⊢;lia
theorem tm:x∈ei rows↔x∈cA rows:=FW _ _
theorem tq(h:∀r∈rows,nu names r):(ei rows).length<=names.length:=by
 show(aR (aM (cA rows))).length<=_;rw[bQ];exact zL (iE h)
noncomputable def tu:Fn:=⟨"words_of",1,3,[.set 1 (.lst []),.Jv cc [2] .seq [.var 0] [.app 1 (.idx (.var 2) (.cst (.int 0))),.ext 1 (.idx (.var 2) (.cst (.int 1)))],.ret (.Nh .sset [.var 1])]⟩
theorem iF(hl:rows.length<=100)(c:∀r∈rows,nu names r)(n:names.length<64):cw Γ tu [.tup (rows.map A')]=a5 (.ok (.own,.lst ((ei rows).map .str))):=by
 have hsz:(4000:Nat)<=cL:=by decide
 have f:TM.start [.tup (rows.map A')] 3=[a5 (.loc,.tup (rows.map A')),b6,b6]:=by simp[TM.start,Js,aO]
 have b:∀r∈rows,r.2.length<=8:=λr h=>(c r h).M4;obtain⟨st',g,_,o2,e⟩:=cM (t:=cc) (is:=[2]) (body:=execs Γ [.app 1 (.idx (.var 2) (.cst (.int 0))),.ext 1 (.idx (.var 2) (.cst (.int 1)))]) (rs:=[(.loc,.tup (rows.map A'))]) (λr:Row=>(Kd.loc,A' r))
  (λd r st=>d++r=rows/\∃o2,st=[a5 (.loc,.tup (rows.map A')),a5 (.own,.lst ((cA d).map .str)),o2]) (λ_ _ _ _=>trivial) (λd y r st i=>by
   obtain⟨a,o2,e⟩:=i;subst e;have j:y∈rows:=by rw[<-a];simp
   have o:=lD (rows:=d) λs hs=>b s (by rw[<-a];simp[hs]);have l:d.length<=100:=by have:=Ŕ LA a;simp at this;lia
   have p:=b y j;refine⟨[a5 (.loc,.tup (rows.map A')),a5 (.own,.lst ((cA d).map .str)),a5 (.loc,A' y)],[a5 (.loc,.tup (rows.map A')),a5 (.own,.lst ((cA d).map .str++[.str y.1]++y.2.map .str)),a5 (.loc,A' y)],eh aE,?_,by rw[<-a];simp,a5 (.loc,A' y),?_⟩
   ·exact fm (k:=.own) (k':=.own) (r:=(.loc,.str y.1)) rfl (aN (x:=(.loc,A' y)) (ae rfl) aj trivial rfl) aI rfl rfl (by rw[c4];lia)
     (vi (k:=.own) rfl (aN (x:=(.loc,A' y)) (ae rfl) aj trivial rfl) rfl rfl (vj (by simp;lia) rfl) aw)
   ·rw[qQ];simp) rows [] [a5 (.loc,.tup (rows.map A')),a5 (.own,.lst []),b6] ⟨rfl,b6,rfl⟩
 subst e;have m:(rows.map A').map (λu=>(kE .loc,u))=rows.map λr=>(Kd.loc,A' r):=by rw[i5];rfl
 have q:=lD b;have l:=zL (iE c);exact bw rfl (.inl rfl) f (av (r:=(.own,.lst [])) (bT ai trivial aF (ki _)) bh (c7 (rs:=[(.loc,.tup (rows.map A'))]) (af (ae rfl) ai) trivial rfl rfl (by rw[m];exact g) (bO (zA (af (aB rfl) ai) ⟨⟨.own,rfl,rfl⟩,trivial⟩ (zK ⋯ ⋯)) gD)))
theorem vp(h:ks.length<1000):dC (.str x) u (.I_ ks us)=a5 (.I_ (dput ks us x u).1 (dput ks us x u).2):=by
 have hsz:(1000:Nat)<=cL:=by decide
 show(if ks.length<cL then _ else _)=_;rw[Ő ⋯]
end TM
namespace Od
section
variable{W:Type}[DecidableEq W]{rows:List (W×List W)}
def jd(rows:List (W×List W))(C:W->Prop):Prop:=∀r∈rows,(∀x∈r.2,C x)->C r.1
def MN(rows:List (W×List W))(K:List W):Prop:=∀C:W->Prop,jd rows C->∀x∈K,C x
theorem same(a:K.Nodup)(b:L.Nodup)(sK:MN rows K)(c:MN rows L)(d:jd rows (·∈K))(e:jd rows (·∈L)):K.Perm L :=
 (List.perm_ext_iff_of_nodup a b).mpr λx=>⟨λh=>sK _ e x h,λh=>c _ d x h⟩
noncomputable def told(rows:List (W×List W))(p:Nat):List W:=match rows[p]? with
 |some r=>r.2
 |none=>[]
theorem jZ(h:rows[p]?=a5 r):told rows p=r.2:=by unfold told;rw[h]
noncomputable def tv(K l:List W):Nat:=(l.filter λx=>dt (x∉K)).length
noncomputable def cnt(rows:List (W×List W))(K:List W)(p:Nat):Nat:=tv K (told rows p)
theorem xn{K l:List W}:tv K l=0↔∀x∈l,x∈K:=by
 unfold tv;rw[S0,Y6];constructor
 ·intro h x a;have:=h x a;simpa using this
 ·intro h x a;simpa using h x a
theorem qR(d:w∉K):∀{l:List W},l.Nodup->tv (K++[w]) l+(if w∈l then 1 else 0)=tv K l
 |[],_=>rfl
 |x::l,h=>by
  obtain⟨f,g⟩:=my.mp h;have c:=qR d g;unfold tv at c ⊢;by_cases e:x=w
  ·subst e;have a1:dt (x∉K++[x])≠b8:=by simp
   have a:dt (x∉K)=b8:=œ d;rw[Pw (p:=λy=>dt (y∉K++[x])) a1,Pt (p:=λy=>dt (y∉K)) a,ke,Ő (nc ..)];rw[ő f]at c;lia
  ·have i:w≠x:=λz=>e z.symm;have j:(if w∈x::l then 1 else 0)=if w∈l then 1 else 0:=by simp[i]
   rw[j];by_cases b:x∈K
   ·have a1:dt (x∉K++[w])≠b8:=by simp[b]
    have a:dt (x∉K)≠b8:=by simp[b]
    rw[Pw (p:=λy=>dt (y∉K++[w])) a1,Pw (p:=λy=>dt (y∉K)) a];exact c
   ·have a1:dt (x∉K++[w])=b8:=by simp[b,e]
    have a:dt (x∉K)=b8:=by simp[b]
    rw[Pt (p:=λy=>dt (y∉K++[w])) a1,Pt (p:=λy=>dt (y∉K)) a,ke,ke];lia
def Once(rows:List (W×List W)):Prop:=∀r∈rows,r.2.Nodup
theorem Once.told(h:Once rows)(p:Nat):(told rows p).Nodup:=by
 unfold Od.told;split
 ·rename_i r e;exact h r (l0 e)
 ·exact .nil
theorem qS:cnt rows K p=0↔∀x∈told rows p,x∈K:=xn
theorem pj(h:Once rows)(a:w∉K)(p:Nat):cnt rows (K++[w]) p+(if w∈told rows p then 1 else 0)=cnt rows K p:=qR a (h.told p)
noncomputable def JJ(rows:List (W×List W))(n:Nat)(w:W):List Nat:=(i0 n).filter λp=>dt (w∈told rows p)
theorem xp(n:Nat)(w:W):(JJ rows n w).Nodup:=X9 ZO List.nodup_range
theorem iG:p∈JJ rows n w↔p<n/\w∈told rows p:=by simp[JJ]
noncomputable def aK(ps:List (W×Nat))(w:W):List Nat:=(ps.filter λp=>dt (p.1=w)).map (·.2)
theorem qT:∀{l:List W},l.Nodup->aK (l.map λx=>(x,n)) w=if w∈l then [n] else []
 |[],_=>rfl
 |x::l,h=>by
  obtain⟨b,c⟩:=my.mp h;have a:=qT (n:=n) (w:=w) c;unfold aK at a ⊢;rw[d6,J3];by_cases e:x=w
  ·subst e;rw[ő b]at a;rw[Ő (by simp),d6,a,Ő (by simp)]
  ·rw[ő (by simpa using e),a];have d:w≠x:=λz=>e z.symm;simp[d]
theorem qU(a b:List (W×Nat))(w:W):aK (a++b) w=aK a w++aK b w:=by simp[aK]
theorem xq(h:Once rows)(a:rows[n]?=a5 r)(b:∀w,aK ps w=JJ rows n w)(w:W):aK (ps++r.2.map λx=>(x,n)) w=JJ rows (n+1) w:=by
 rw[qU,b w,qT (h r (l0 a))];unfold JJ;rw[ò,R3];congr 1
 rw[J3,Tx,jZ a];by_cases e:w∈r.2<;>simp[e]
structure RI(rows:List (W×List W))(K0 K:List W)(R:List Nat):Prop where
 QI:∀t∈R,t<rows.length/\cnt rows K t=0
 all:∀t,t<rows.length->cnt rows K t=0->cnt rows K0 t=0\/t∈R
theorem RI.start(K:List W):RI rows K K []:=⟨by simp,λt _ h=>.inl h⟩
theorem RI.step(h:Once rows)(x:RI rows K0 K R)(d:w∉K):RI rows K0 (K++[w]) (R++(JJ rows rows.length w).filter λt=>dt (cnt rows K t=1)):=by
 refine⟨λt ht=>?_,λt ht i=>?_⟩
 ·have a:=pj h d t;rcases kj.mp ht with ht|ht
  ·obtain⟨b,e⟩:=x.QI t ht;exact⟨b,⋯⟩
  ·obtain⟨b,e⟩:=NX.mp ht;obtain⟨f,g⟩:=iG.mp b;rw[Ő g]at a;have:cnt rows K t=1:=by simpa using e
   exact⟨f,⋯⟩
 ·have a:=pj h d t;by_cases c:w∈told rows t
  ·rw[Ő c]at a;exact .inr (kj.mpr (.inr (NX.mpr ⟨iG.mpr ⟨ht,c⟩,by simp;lia⟩)))
  ·rw[ő c]at a;rcases x.all t ht ⋯ with z|z
   ·exact .inl z
   ·exact .inr (kj.mpr (.inl z))
structure NS(rows:List (W×List W))(K:List W)(d:List Nat)(ps:List (W×Nat)):Prop where
 ok:∀s∈ps,s.2∈d/\s.1∉K/\∃r,rows[s.2]?=a5 r/\r.1=s.1
 once:(ps.map (·.1)).Nodup
 all:∀p∈d,∀r,rows[p]?=a5 r->r.1∈K\/r.1∈ps.map (·.1)
theorem NS.start(K:List W):NS rows K [] []:=⟨by simp,by simp,by simp⟩
theorem NS.skip(x:NS rows K d ps)(f:rows[p]?=a5 r)(h:r.1∈K\/r.1∈ps.map (·.1)):NS rows K (d++[p]) ps :=
 ⟨λs hs=>let ⟨a,b,c⟩:=x.ok s hs;⟨by simp[a],b,c⟩,x.once,λq hq g e=>by
  rcases kj.mp hq with hq|hq
  ·exact x.all q hq g e
  ·have:q=p:=by simpa using hq
   subst this;rw[f]at e;cases e;exact h⟩
theorem NS.take(x:NS rows K d ps)(g:rows[p]?=a5 r)(h:r.1∉K)(i:r.1∉ps.map (·.1)):NS rows K (d++[p]) (ps++[(r.1,p)]):=by
 refine⟨λs hs=>?_,?_,λq hq j f=>?_⟩
 ·rcases kj.mp hs with hs|hs
  ·obtain⟨a,b,c⟩:=x.ok s hs;exact⟨by simp[a],b,c⟩
  ·have:s=(r.1,p):=by simpa using hs
   subst this;exact⟨by simp,h,r,g,rfl⟩
 ·rw[js,rr];refine⟨x.once,by simp,λa k b l e=>?_⟩;have:b=r.1:=by simpa using l
  subst this;exact i (e▸k)
 ·rcases kj.mp hq with hq|hq
  ·rcases x.all q hq j f with z|z
   ·exact .inl z
   ·exact .inr (by simp only[js,kj];exact .inl z)
  ·have:q=p:=by simpa using hq
   subst this;rw[g]at f;cases f;exact .inr (by simp)
theorem NS.perm(x:NS rows K d ps)(h:a.Perm ps):NS rows K d a :=
 ⟨λs hs=>x.ok s (h.mem_iff.mp hs),(h.map _).nodup_iff.mpr x.once,λp b r c=>(x.all p b r c).imp id λz=>(h.map _).mem_iff.mpr z⟩
structure LI(rows:List (W×List W))(Ji:List (W×Nat))(R:List Nat):Prop where
 nd:(Ji.map (·.1)).Nodup
 sn:MN rows (Ji.map (·.1))
 wd:∀x∈Ji.map (·.1),x∈rows.map (·.1)
 QI:∀t∈R,t<rows.length/\cnt rows (Ji.map (·.1)) t=0
 all:∀t r,rows[t]?=a5 r->cnt rows (Ji.map (·.1)) t=0->t∈R\/r.1∈Ji.map (·.1)
theorem LI.step(x:LI rows d R)(n:NS rows (d.map (·.1)) R st)(y:RI rows (d.map (·.1)) (d.map (·.1)++st.map (·.1)) j):LI rows (d++st) j:=by
 have em:(d++st).map (·.1)=d.map (·.1)++st.map (·.1):=js;have hs:∀z∈st.map (·.1),z∉d.map (·.1)/\∃r∈rows,r.1=z/\∀x∈r.2,x∈d.map (·.1):=λz hz=>by
  obtain⟨s,hs,rfl⟩:=lg.mp hz;obtain⟨k,l,r,h,m⟩:=n.ok s hs;have hz:=(x.QI _ k).2;rw[qS,jZ h]at hz;exact⟨l,r,l0 h,m,hz⟩
 refine⟨?_,λC f y hy=>?_,λy hy=>?_,λt o=>by rw[em];exact y.QI t o,λt r g i=>?_⟩
 ·rw[em,rr];exact⟨x.nd,n.once,λa p b q e=>(hs b q).1 (e▸p)⟩
 ·rw[em]at hy;rcases kj.mp hy with hy|hy
  ·exact x.sn C f y hy
  ·obtain⟨_,r,a,b,c⟩:=hs y hy;exact b▸f r a λz hz=>x.sn C f z (c z hz)
 ·rw[em]at hy;rcases kj.mp hy with hy|hy
  ·exact x.wd y hy
  ·obtain⟨_,r,a,b,c⟩:=hs y hy;exact lg.mpr ⟨r,a,b⟩
 ·rw[em]at i ⊢;rcases y.all t (dV.mp g).1 i with z|z
  ·rcases x.all t r g z with z|z
   ·rcases n.all t z r g with z|z
    ·exact .inr (kj.mpr (.inl z))
    ·exact .inr (kj.mpr (.inr z))
   ·exact .inr (kj.mpr (.inl z))
  ·exact .inl z
theorem LI.closed(x:LI rows b []):jd rows (·∈b.map (·.1)):=λr c h=>by
 obtain⟨t,a⟩:=Zs.mp c;rcases x.all t r a (by rw[qS,jZ a];exact h) with z|z
 ·cases z
 ·exact z
theorem vq{K L:List W}(h:K.Nodup)(s:∀x∈K,x∈L):K.length<=L.length:=by
 induction K generalizing L with
 |nil=>simp
 |cons a K d =>
  obtain⟨f,g⟩:=my.mp h;have b:a∈L:=s a (by simp);have:=d (L:=L.erase a) g λx c=>by
   have i:x≠a:=λe=>f (e▸c);exact(T5 i).mpr (s x (by simp[c]))
  rw[X1 b]at this;have:0<L.length:=YZ b;rw[ke];lia
end
end Od
namespace TM
open PySem L2 JB
section
theorem HE(h:st[j]?=a5 (a5 (.own,u))):Run (lift (.bor j,a)) st u (st.set j (a5 (.loc,u))):=by
 show(match st[j]? with|some (a5 (.own,u))=>a5 (Ex.ok u,st.set j (a5 (.loc,u)))|_=>b6)=_;rw[h]
theorem nz(h:Run c st cc st1):Run (fw c body (n+1)) st .nx st1:=aa h aU
theorem qV(h:Run c st b8 st1)(a:Run body st1 .nx st2)(b:Run (fw c body n) st2 f d):Run (fw c body (n+1)) st f d:=aa h (aa a b)
theorem qW(h:Run (fw (Jt Γ c) (execs Γ body) fuel) st .nx st1)(a:Run (execs Γ ss) st1 f st2):Run (execs Γ (.MW c body::ss)) st f st2:=fy h a
theorem jA(hk:k=.loc\/k=.any):Run (dB b8 [i,j] (k,.tup [a,b])) st () ((st.set i (a5 (k,a))).set j (a5 (k,b))):=by
 rcases hk with rfl|rfl<;>rfl
theorem FX(h:Run (execs Γ ss) (st.set i (a5 (.IY,.I_ [] []))) f st1):Run (execs Γ (.newD i::ss)) st f st1:=fy (aa (a:=()) (st1:=st.set i (a5 (.IY,.I_ [] []))) rfl aU) h
theorem pk(h:st[i]?=a5 (a5 (.IY,.I_ ks us))):Run (ij i) st (ks,us) st:=by
 show ij i st=_;unfold ij;rw[h]
theorem tw:Run (jM (k,.str y)) st y st:=rfl
theorem CH(a:st[i]?=a5 (a5 (.IY,.I_ ks us)))(b:y∉ks)(c:ks.length<cL):Run (kU i y (.own,.lst xs)) st () (st.set i (a5 (.IY,.I_ (ks++[y]) (us++[.lst xs])))):=by
 show kU i y (.own,.lst xs) st=_;unfold kU
 dsimp only
 rw[a]
 dsimp only
 rw[Ő ⟨b,c⟩]
theorem CI(a:st[i]?=a5 (a5 (.IY,.I_ ks us)))(b:cv ks us y=a5 (.lst xs))(c:xs.length<cL):Run (kW i y u) st () (st.set i (a5 (.IY,.I_ ks (jN ks us y (.lst (xs++[u])))))):=by
 show kW i y u st=_;unfold kW;rw[a]
 dsimp only
 rw[b]
 dsimp only
 rw[Ő c]
theorem HF(b:Run (ev Γ a) st (k,.str y) st1)(c:st1[i]?=a5 (a5 (.IY,.I_ ks us))):Run (Jt Γ (.inD neg a i)) st (TY neg y ks) st1 :=
 aa b (aa tw (aa (pk c) aU))
theorem FY(b:Run (ev Γ c) st (.own,.lst xs) st1)(a:st1[i]?=a5 (a5 (.IY,.I_ ks us)))(d:Run (ev Γ e) st1 (k,.str y) st1)(g:y∉ks)(h:ks.length<cL)
  (j:Run (execs Γ ss) (st1.set i (a5 (.IY,.I_ (ks++[y]) (us++[.lst xs])))) f l):Run (execs Γ (.putD i e c::ss)) st f l:=by
 refine fy ?_ j;exact aa b (aa (pk a) (aa d (aa tw (aa (CH a g h) aU))))
theorem FZ(a:st[i]?=a5 (a5 (.IY,.I_ ks us)))(b:Run (ev Γ c) st (k,.str y) st)(d:y∈ks)(e:Run (ev Γ g) st r st)(h:Run (lift r) st u st)(j:cv ks us y=a5 (.lst xs))(l:xs.length<cL)
  (m:Run (execs Γ ss) (st.set i (a5 (.IY,.I_ ks (jN ks us y (.lst (xs++[u])))))) f n):Run (execs Γ (.Le i c g::ss)) st f n:=by
 refine fy ?_ m;refine aa (pk a) (aa b (aa tw (aa (pk a) ?_)));rw[Ő d];exact aa e (aa h (aa (CI a j l) aU))
theorem HG(h:st[i]?=a5 (a5 (.IY,u))):Run (ev Γ (.Pb i)) st (.bor i,u) (st.set i (a5 (.own,u))):=by
 show yJ i st=_;unfold yJ;rw[h]
theorem F0(c:st[i]?=a5 (a5 (.own,.I_ ks us)))(d:Run (ev Γ a) st (k,.str y) st)(e:Run (ev Γ b) st z st)(f:Run (lift z) st u st)(g:(match cv ks us y with|some v=>(Kd.loc,v)|none=>(.loc,u))=r):
  Run (ev Γ (.LH i a b)) st r st:=by
 refine aa (dN c) (aa (a:=()) (st1:=st) rfl (aa d (aa (a:=y) (st1:=st) rfl (aa e (aa f (aa (dN c) (b_ ?_)))))));subst g;rfl
theorem HH(b:st[i]?=a5 (a5 (.own,.lst us)))(d:Run (ev Γ e) st (k1,.int (j:Nat)) st)(c:us[j]?=a5 (.int o))(g:Run (ev Γ h) st (k2,.int w) st)
  (k:Run (execs Γ ss) (st.set i (a5 (.own,.lst (us.set j (.int (o - w)))))) f l):Run (execs Γ (.aug b8 i e h::ss)) st f l:=by
 have hl:qu i st=a5 (.ok us,st):=by unfold qu;rw[b];rfl
 have m:j<us.length:=(dV.mp c).1;have hi:qv us (j:Nat)=a5 o:=by
  unfold qv;rw[Ő ⋯,N_,c]
 have n:Mx us.length (j:Nat)=a5 j:=by
  unfold Mx;rw[Ő ⋯]
  first|(rw[Ő ⋯];simp)|simp[m]
 refine fy (aa (a:=us) (st1:=st) hl (aa d (aa (a:=(j:Int)) (st1:=st) rfl (aa (a:=us) (st1:=st) hl (aa (b_ hi) (aa g (aa (a:=w) (st1:=st) rfl (aa (a:=()) (st1:=st.set i (a5 (.own,.lst (us.set j (.int (o - w)))))) ?_ aU)))))))) k;show modS i (dC (.int (j:Nat)) (.int (wL b8 o w))) st=_;unfold modS;rw[b];simp only[Kd.root,if_true,dC];rw[n];rfl
theorem HI(a:st[i]?=a5 (a5 (.own,u)))(b:yG u=a5 r):Run (ev Γ (.Pc i)) st r st:=aa (dN a) (b_ b)
theorem F5(a:Run (ev Γ e) st r st1)(b:Run (dB b8 is r) st1 () st2)(c:Run (execs Γ ss) st2 f d):Run (execs Γ (.Mc is e::ss)) st f d:=fy (aa a (aa b aU)) c
end
theorem lE(f:Str->U)(y:Str):∀ks:List Str,cv ks (ks.map f) y=if y∈ks then a5 (f y) else b6
 |[]=>rfl
 |k::ks=>by
  rw[d6];show(if k=y then a5 (f k) else cv ks (ks.map f) y)=_;by_cases e:k=y
  ·subst e;rw[Ő rfl,Ő (by simp)]
  ·rw[ő e,lE f y ks];have:(y∈k::ks)↔y∈ks:=by simp[ro e]
   by_cases h:y∈ks
   ·rw[Ő h,Ő (this.mpr h)]
   ·rw[ő h,ő λz=>h (this.mp z)]
theorem qX(f:Str->U)(y:Str)(u:U):∀ks:List Str,ks.Nodup->jN ks (ks.map f) y u=ks.map λk=>if k=y then u else f k
 |[],_=>rfl
 |k::ks,h=>by
  obtain⟨a,b⟩:=my.mp h;rw[d6,d6];show(if k=y then u::ks.map f else f k::jN ks (ks.map f) y u)=_;by_cases e:k=y
  ·subst e;rw[Ő rfl,Ő rfl];congr 1
   refine td λz hz=>?_;have c:z≠k:=λq=>a (by rw[<-q];exact hz);rw[ő c]
  ·rw[ő e,ő e,qX f y u ks b]
noncomputable def stN(s:Str×Nat):U:=.tup [.str s.1,.int (s.2:Nat)]
theorem nA(f:α->Int):∀(ns:List α),intsOf (ns.map λa=>U.int (f a))=a5 (ns.map f)
 |[]=>rfl
 |n::ns=>by show(intsOf (ns.map λa=>U.int (f a))).map _=_;rw[nA f ns];rfl
theorem CJ(h:ps.length<64)(c:(ps.map (·.1)).Nodup):∃a:List (Str×Nat),a.Perm ps/\yG (.I_ (ps.map (·.1)) (ps.map λp=>.int (p.2:Nat)))=a5 (.own,.lst (a.map stN)):=by
 have hi:=nA (λp:Str×Nat=>((p.2:Nat):Int)) ps;have hz:(ps.map (·.1)).zip (ps.map λp:Str×Nat=>((p.2:Nat):Int))=ps.map λp=>(p.1,((p.2:Nat):Int)):=by
  rw[List.zip_map']
 let P:=eI ((ps.map λp=>(p.1,((p.2:Nat):Int))).map (·.1));have b:P.Perm (i0 ps.length):=by
  have:=cu ((ps.map λp=>(p.1,((p.2:Nat):Int))).map (·.1));simpa[P] using this
 refine⟨P.map λi=>ps.getD i (nH,0),?_,?_⟩
 ·refine(b.map _).trans ?_;have:(i0 ps.length).map (λi=>ps.getD i (nH,0))=ps:=by
   apply LD
   ·simp
   ·intro i g d;simp[y4,d]
  rw[this]
 ·show(intsOf (ps.map λp=>U.int (p.2:Nat))).bind _=_;rw[hi];show(if (ps.map (·.1)).length<64/\(ps.map (·.1)).Nodup/\(ps.map (·.1)).length=(ps.map λp:Str×Nat=>((p.2:Nat):Int)).length then _ else _)=_;rw[Ő ⟨by simpa using h,c,by simp⟩,hz];congr 3
  show(BE _).map wG=_;show(P.map λi=>(ps.map λp=>(p.1,((p.2:Nat):Int))).getD i (nH,0)).map wG=_;rw[i5,i5];refine td λi e=>?_;have f:i<ps.length:=tA.mp (b.mem_iff.mp e);simp[y4,f,wG,stN]
theorem HJ(h:dt (i<=j)=c):cm .le (.int i) (.int j)=a5 c:=by subst h;rfl
theorem zM:cm .isin (.str x) (.I_ ks vs)=a5 (dt (x∈ks)):=rfl
theorem gc:cm .Jo (.str x) (.I_ ks vs)=a5 (!dt (x∈ks)):=rfl
theorem CK(bs:List Bool):KU .all [(k,.lst (bs.map .bl))]=a5 (.loc,.bl (bs.all id)):=by
 show(kQ (bs.map U.bl)).map _=_;have:∀bs:List Bool,kQ (bs.map U.bl)=a5 bs:=λbs=>by
  induction bs with
  |nil=>rfl
  |cons b bs a=>show(kQ (bs.map U.bl)).map _=_;rw[a];rfl
 rw[this];rfl
mutual
theorem nB:∀(n:Nat) (u:U),J1 n u=b8->bS u u=b8
 |_,.Jc,_=>rfl
 |_,.bl b,_=>by simp[bS]
 |_,.int i,_=>by simp[bS]
 |_,.str x,_=>by simp[bS]
 |0,.tup xs,h=>by simp[J1]at h
 |0,.lst xs,h=>by simp[J1]at h
 |n+1,.tup xs,h=>by rw[bS];exact gS n xs (by simpa[J1] using h)
 |n+1,.lst xs,h=>by rw[bS];exact gS n xs (by simpa[J1] using h)
 |_,.I_ _ _,h=>by simp[J1]at h
theorem gS:∀(n:Nat) (us:List U),dA n us=b8->cC us us=b8
 |_,[],_=>rfl
 |n,u::us,h=>by
  have h':J1 n u=b8/\dA n us=b8:=by simpa[dA] using h
  rw[cC,nB n u h'.1,gS n us h'.2];rfl
end
theorem nE(h:J1 50 u=b8):cm .ne u u=a5 cc:=by
 simp only[cm];rw[Ő ⟨h,h⟩,nB 50 u h];rfl
section
theorem nF{told known:List Str}(hk:k=.loc\/k=.any)(hl:told.length<=1000)(hs:Run (ev Γ src) st (.loc,.tup (told.map .str)) st)(hj:st[j]?=a5 (a5 (k,w))\/st[j]?=a5 (a5 (.own,w)))(a:∀x:Str,cm .isin (.str x) w=a5 (dt (x∈known))):
  Run (ev Γ (.bi .all [.comp 1 cc .seq [src] [] (.cmp .isin (.var 0) (.var (j+1)))])) st (.loc,.bl (told.all λx=>dt (x∈known))) st:=by
 have hsz:(1000:Nat)<=cL:=by decide
 have b:=jc (cond:=bb Γ []) (elt:=ev Γ (.cmp .isin (.var 0) (.var (j+1)))) (src:=[(.loc,.tup (told.map .str))]) (st:=st) trivial .loc (.inl rfl) U.str (λx=>.bl (dt (x∈known))) .loc (λ_=>iz) told [] (by simp;lia)
  (λy _=>⟨by
   rcases hj with hj|hj
   ·rcases hk with rfl|rfl
    ·exact jx (ae rfl) (ae (by simpa using hj)) trivial (a y)
    ·exact jx (ae rfl) (a_ (by simpa using hj)) trivial (a y)
   ·exact jx (ae rfl) (aB (by simpa using hj)) ⟨⟨.own,rfl,by simpa using hj⟩,trivial⟩ (a y),aI⟩)
 rw[mf]at b;have e:(told.map U.str).map (λu=>(kE .loc,u))=told.map λr=>(Kd.loc,U.str r):=by rw[i5];rfl
 have c:(told.map λx=>U.bl (dt (x∈known)))=(told.map λx=>dt (x∈known)).map U.bl:=by rw[i5];rfl
 rw[c]at b;have d:(told.all λx=>dt (x∈known))=((told.map λx=>dt (x∈known)).all id):=by rw[ğ];rfl
 rw[d];exact bW (af (dO (rs:=[(.loc,.tup (told.map .str))]) (af hs ai) trivial (by show a5 _=_;rw[e]) b) ai) trivial (CK _)
end
theorem vt(h:ks.length<1000)(a:x∉ks):dC (.str x) u (.I_ ks us)=a5 (.I_ (ks++[x]) (us++[u])):=by
 rw[vp h];unfold dput;rw[ő a]
theorem lF(h:J1 50 (.lst us)=b8):cm .ne (.lst us) (.lst [])=a5 (!us.isEmpty):=by
 simp only[cm];rw[Ő ⟨h,by simp[J1,dA]⟩];cases us with
 |_=>simp[bS,cC]
theorem nG(f:α->Int):∀(l:List α) (n:Nat),dA n (l.map λa=>U.int (f a))=b8
 |[],n=>by simp[dA]
 |a::l,n=>by rw[d6,dA,nG f l n];simp[J1]
theorem qY:∀(ss:List (Str×Nat)) (n:Nat),dA (n+1) (ss.map stN)=b8
 |[],n=>by simp[dA]
 |s::ss,n=>by rw[d6,dA,qY ss n];simp[stN,J1,dA]
theorem CL:cm .eq (.tup (ss.map U.str)) (.tup [])=a5 (dt (ss=[])):=by
 simp only[cm];rw[Ő ⟨by simp[J1,eM],by simp[J1,dA]⟩];cases ss with
 |_=>simp[bS,cC]
theorem je{cond:M Bool}(h:bt src st)(a b g:α->U)(p:α->Bool):∀(c:List α) (acc:List U),acc.length+c.length<=cL ->
  (∀y∈c,Run cond (a5 (.loc,a y)::a5 (.loc,b y)::st) (p y) (a5 (.loc,a y)::a5 (.loc,b y)::st)/\Run elt (a5 (.loc,a y)::a5 (.loc,b y)::st) (.loc,g y) (a5 (.loc,a y)::a5 (.loc,b y)::st)) ->
  Run (bY 2 b8 cond elt src (c.map λy=>(Kd.loc,U.tup [a y,b y])) acc) st (acc++(c.filter p).map g) st
 |[],acc,_,_=>by rw[Lx,Tx,Lx,r6];exact vh h
 |y::c,acc,hl,f=>by
  obtain⟨d,j⟩:=f y (by simp);rw[ke]at hl;have i:Run (dB b8 (i0 2) (.loc,.tup [a y,b y])) (i9 2 b6++st) () (a5 (.loc,a y)::a5 (.loc,b y)::st):=jA (.inl rfl);cases e:p y with
  |true =>
   rw[e]at d;refine o_ (s1:=a5 (.loc,a y)::a5 (.loc,b y)::st) (s2:=a5 (.loc,a y)::a5 (.loc,b y)::st) (s3:=a5 (.loc,a y)::a5 (.loc,b y)::st) (s4:=a5 (.loc,a y)::a5 (.loc,b y)::st) h i d j aI ⋯ ?_;have:=je h a b g p c (acc++[g y]) (by simp;lia) λz hz=>f z (by simp[hz]);rw[J3,Ő e,d6];simpa using this
  |false =>
   rw[e]at d;refine zF (s1:=a5 (.loc,a y)::a5 (.loc,b y)::st) (s2:=a5 (.loc,a y)::a5 (.loc,b y)::st) h i d ?_;have:=je h a b g p c acc ⋯ λz hz=>f z (by simp[hz]);rw[J3,ő (by simp[e])];exact this
theorem set_range(n:Nat)(f:Nat->α)(t:Nat)(v:α):((i0 n).map f).set t v=(i0 n).map λp=>if p=t then v else f p:=by
 apply LD
 ·simp
 ·intro i a b;simp only[List.getElem_set,ß,List.getElem_range];by_cases e:t=i
  ·subst e;simp
  ·rw[ő e,ő (ro e)]
theorem pq{rows:List Row}{t:Nat}(h:rows[t]?=a5 r):J7 (rows.map A') (t:Int)=a5 (A' r):=jS (by simp[h])
section
theorem HK(c:Run (ev Γ a) st x st1)(d:ig x.2=a5 e)(f:Run (ev Γ b) st1 y st2)(g:ig y.2=a5 h)(i:wH ln e h=a5 r):Run (ev Γ (.Pd ln a b)) st r st2 :=
 aa c (aa (b_ d) (aa f (aa (b_ g) (b_ i))))
end
theorem nI(h:ss.length<4000):ig (.lst (ss.map .str))=a5 (aM ss):=by
 show(strsOf (ss.map U.str)).bind _=_;rw[dG];show(if ss.length+1<DD then _ else _)=_;rw[Ő (by show ss.length+1<4096;lia)]
end TM
namespace TM
open PySem L2
section
theorem dv(h:st[i]?=a5 (a5 (.io,u))):Run (ev Γ (.var i)) st (.bor i,u) st:=dN h
end
noncomputable def F6:List S :=
   [.ite (.cmp .eq (.bi .len [.var 0]) (.cst (.int 0)))
      [.ret (.lst [.var 1,.cst (.int 0),.cst (.int 1)])]
      [],
    .set 2 (.pop 0),
    .ret (.lst [(.bin .Ou (.var 2) (.cst (.int 2))),(.cst (.int 0)),(.bin .mod (.var 2) (.cst (.int 2)))])]
noncomputable def zN:Fn:=⟨"_law_source",2,3,.Mn [0]::F6⟩
theorem Wi:(3:Nat)<=cL:=by decide
theorem zO:gk Γ zN [0] F6 [.lst [],.int k]=a5 (.ok (.own,.tup [.lst [.int k,.int 0,.int 1],.lst []])):=by
 refine cp (st0:=[a5 (.io,.lst []),a5 (.loc,.int k),b6]) (f:=.rt .own (.lst [.int k,.int 0,.int 1])) (st:=[a5 (.io,.lst []),a5 (.loc,.int k),b6]) rfl rfl ?_ rfl rfl;apply lz
 all_goals repeat' (first|exact dv rfl|exact cq (by simp)|exact cj|exact Wi|sizeOf_list_dec)
theorem zP:gk Γ zN [0] F6 [.lst ((ns++[c]).map .int),.int k]=a5 (.ok (.own,.tup [.lst [.int (c / 2),.int 0,.int (c % 2)],.lst (ns.map .int)])):=by
 have hl:cm .eq (.int (((ns++[c]).map U.int).length:Nat)) (.int 0)=a5 cc:=cq (by simp;lia);have a:((ns++[c]).map U.int).dropLast=ns.map .int:=by simp
 have b:Run (ev Γ (.pop 0)) [a5 (.io,.lst ((ns++[c]).map .int)),a5 (.loc,.int k),b6] (.loc,.int c) [a5 (.io,.lst (ns.map .int)),a5 (.loc,.int k),b6]:=by
  have:=Dw (Γ:=Γ) (st:=[a5 (.io,.lst ((ns++[c]).map .int)),a5 (.loc,.int k),b6]) (i:=0) (u:=.int c) (us:=(ns++[c]).map .int) (k:=.io) rfl rfl (by simp);rw[a]at this;exact this
 refine cp (st0:=[a5 (.io,.lst ((ns++[c]).map .int)),a5 (.loc,.int k),b6]) (f:=.rt .own (.lst [.int (c / 2),.int 0,.int (c % 2)])) (st:=[a5 (.io,.lst (ns.map .int)),a5 (.loc,.int k),a5 (.loc,.int c)]) rfl rfl ?_ rfl rfl;refine bu (st1:=[a5 (.io,.lst ((ns++[c]).map .int)),a5 (.loc,.int k),b6]) ?_ aw (av (st2:=[a5 (.io,.lst (ns.map .int)),a5 (.loc,.int k),a5 (.loc,.int c)]) b aE ?_)
 all_goals repeat' (first|exact dv rfl|exact hl|exact cj|exact Wi|sizeOf_list_dec)
noncomputable def fz(a t w:Int):U:=.lst [.int a,.int t,.int w]
noncomputable def nJ(a t w m:Int):Int:=if w=0 then a % m else((a % 10 ^ 15+1) * 48271+(t+1) * (t+1) * 16807+(t+1) * 7919) % 2147483647 * 69621 % 2147483629 % m
noncomputable def zQ(a w m:Int):Int:=if w=0 then a / m else a
noncomputable def Dz:List S :=
   [.put 0 (.cst (.int 1)) (.bin .add (.idx (.var 0) (.cst (.int 1))) (.cst (.int 1))),
    .ite (.cmp .eq (.idx (.var 0) (.cst (.int 2))) (.cst (.int 0)))
      [.set 2 (.bin .mod (.idx (.var 0) (.cst (.int 0))) (.var 1)),
      .put 0 (.cst (.int 0)) (.bin .Ou (.idx (.var 0) (.cst (.int 0))) (.var 1)),
      .ret (.var 2)]
      [],
    .set 3 (.idx (.var 0) (.cst (.int 1))),
    .set 4 (.bin .add (.bin .add (.bin .mul (.bin .add (.bin .mod (.idx (.var 0) (.cst (.int 0))) (.bin .pow (.cst (.int 10)) (.cst (.int 15)))) (.cst (.int 1))) (.cst (.int 48271))) (.bin .mul (.bin .mul (.var 3) (.var 3)) (.cst (.int 16807)))) (.bin .mul (.var 3) (.cst (.int 7919)))),
    .ret (.bin .mod (.bin .mod (.bin .mul (.bin .mod (.var 4) (.cst (.int 2147483647))) (.cst (.int 69621))) (.cst (.int 2147483629))) (.var 1))]
noncomputable def vv:Fn:=⟨"_law_draw",2,5,.Mn [0]::Dz⟩
theorem zR(i:0<=t)(j:t<2 ^ 62)(m0:0<m)(m1:m<1073741824):gk Γ vv [0] Dz [fz a t w,.int m]=a5 (.ok (.loc,.tup [.int (nJ a t w m),fz (zQ a w m) (t+1) w])):=by
 unfold nJ zQ fz;have c:∀a t w:Int,J7 [U.int a,.int t,.int w] 0=a5 (.int a):=λa t w=>rfl;have d:∀a t w:Int,J7 [U.int a,.int t,.int w] 1=a5 (.int t):=λa t w=>rfl;have e:∀a t w:Int,J7 [U.int a,.int t,.int w] 2=a5 (.int w):=λa t w=>rfl;have g:∀a t w x:Int,dC (.int 1) (.int x) (.lst [.int a,.int t,.int w])=a5 (.lst [.int a,.int x,.int w]):=λa t w x=>rfl;have h:∀a t w x:Int,dC (.int 0) (.int x) (.lst [.int a,.int t,.int w])=a5 (.lst [.int x,.int t,.int w]):=λa t w x=>rfl;by_cases b:w=0
 ·subst b;rw[Ő rfl,Ő rfl];refine cp (st0:=[a5 (.io,.lst [.int a,.int t,.int 0]),a5 (.loc,.int m),b6,b6,b6]) (f:=.rt .loc (.int (a % m))) (st:=[a5 (.io,.lst [.int (a / m),.int (t+1),.int 0]),a5 (.loc,.int m),a5 (.loc,.int (a % m)),b6,b6]) rfl rfl ?_ rfl rfl;refine iD (rv:=(.loc,.int (t+1))) (rk:=(.loc,.int 1)) (k:=.io) (k':=.io) (bC (aN (dv rfl) aj ∅ (cJ (d _ _ _))) aj ∅ bV) rfl aj (aA aI (aA aI aF)) rfl rfl (g _ _ _ _) ?_;apply lz
  ·repeat' (first|exact dv rfl|exact cJ (e _ _ _)|exact cq (show((0:Int)==0)=b8 from rfl)|sizeOf_list_dec)
  ·refine av (st2:=[a5 (.io,.lst [.int a,.int (t+1),.int 0]),a5 (.loc,.int m),a5 (.loc,.int (a % m)),b6,b6]) (bC (aN (dv rfl) aj ∅ (cJ (c _ _ _))) (ae rfl) ∅ (dZ m0)) aE ?_;refine iD (rv:=(.loc,.int (a / m))) (rk:=(.loc,.int 0)) (k:=.io) (k':=.io) (bC (aN (dv rfl) aj ∅ (cJ (c _ _ _))) (ae rfl) ∅ (lA ⟨m0,m1⟩)) rfl aj (aA aI (aA aI aF)) rfl rfl (h _ _ _ _) ?_
   repeat' sizeOf_list_dec
 ·rw[ő b,ő b];refine cp (st0:=[a5 (.io,.lst [.int a,.int t,.int w]),a5 (.loc,.int m),b6,b6,b6]) (f:=.rt .loc (.int (((a % 10 ^ 15+1) * 48271+(t+1) * (t+1) * 16807+(t+1) * 7919) % 2147483647 * 69621 % 2147483629 % m))) (st:=[a5 (.io,.lst [.int a,.int (t+1),.int w]),a5 (.loc,.int m),b6,a5 (.loc,.int (t+1)),a5 (.loc,.int ((a % 10 ^ 15+1) * 48271+(t+1) * (t+1) * 16807+(t+1) * 7919))]) rfl rfl ?_ rfl rfl;refine iD (rv:=(.loc,.int (t+1))) (rk:=(.loc,.int 1)) (k:=.io) (k':=.io) (bC (aN (dv rfl) aj ∅ (cJ (d _ _ _))) aj ∅ bV) rfl aj (aA aI (aA aI aF)) rfl rfl (g _ _ _ _) ?_;apply bu
  ·repeat' (first|exact dv rfl|exact cJ (e _ _ _)|exact cq (show(w==0)=cc by simp[b])|sizeOf_list_dec)
  ·exact aw
  ·repeat' (first|exact dv rfl|exact cJ (c _ _ _)|exact cJ (d _ _ _)|exact dZ m0|sizeOf_list_dec)
def Src(T:Int)(u:U):Prop:=∃a t w,u=fz a t w/\0<=t/\t<=T
theorem Src.up(h:Src T u)(l:T<=b):Src b u:=let ⟨a,t,w,e,c,d⟩:=h;⟨a,t,w,e,c,TB d l⟩
def bx(Γ:Tab):Prop:=∀(T m:Int) (u:U),Src T u->T<2 ^ 62->0<m->m<1073741824->∃n u',Γ "_law_draw" [u,.int m]=a5 (.ok (.loc,.tup [.int n,u']))/\0<=n/\n<m/\Src (T+1) u'
theorem qZ(m0:0<m):0<=nJ a t w m/\nJ a t w m<m:=by
 unfold nJ;split
 ·exact⟨Q9 _ ⋯,Sb _ m0⟩
 ·exact⟨Q9 _ ⋯,Sb _ m0⟩
theorem tD(h:JT Pg "_law_draw" vv):bx (Jl Pg (d+1)):=by
 rintro T m u ⟨a,t,w,rfl,b,c⟩ e m0 m1;refine⟨nJ a t w m,fz (zQ a w m) (t+1) w,?_,(qZ m0).1,(qZ m0).2,⟨_,_,_,rfl,⋯,⋯⟩⟩;rw[cQ h _ rfl];exact zR b ⋯ m0 m1
section
theorem zS(o:bx Γ)(p:st[i]?=a5 (a5 (k0,b)))(f:k0.root=b8)(q:Run (ev Γ e) st (.loc,.int m) st1)(d:st1[i]?=a5 (a5 (k,u)))(hk:k.root=b8)(g:Src T u)(r:T<2 ^ 62)(m0:0<m)(m1:m<1073741824):
  ∃n u',Run (ev Γ (.Jb "_law_draw" [.var i,e] [0])) st (.loc,.int n) (st1.set i (a5 (k,u')))/\0<=n/\n<m/\Src (T+1) u':=by
 obtain⟨n,u',s,v,x,hs⟩:=o T m u g r m0 m1;refine⟨n,u',?_,v,x,hs⟩;obtain⟨a,t,w,rfl,_,_⟩:=hs;obtain⟨a0,h,l,rfl,_,_⟩:=g;have y:Run (ev Γ (.var i)) st (.bor i,b) st:=by
  have:=dN p (by rintro rfl;cases f);unfold kv at this;rw[Ő f]at this;exact this
 have c:[((Kd.bor i,b):Kd×U),(.loc,.int m)].map (dR st1)=[(.bor i,fz a0 h l),(.loc,.int m)]:=by
  show [dR st1 (.bor i,b),(.loc,.int m)]=_;unfold dR
  dsimp only
  rw[d];simp[hk]
 refine sY (rs:=[(.bor i,b),(.loc,.int m)]) (ws:=[fz a t w]) (st1:=st1) (af y (af q ai)) ?_ ?_ (.inr rfl) ?_ ?_
 ·rw[c];exact⟨⟨k,hk,d⟩,trivial⟩
 ·rw[c];exact s
 ·rw[c];show((b8&&dt ([a5 i].Nodup))&&(b8&&(b8&&b8)))=b8;simp
 ·rw[c];show(match gN [(Kd.bor i,fz a0 h l),(.loc,.int m)] 0 with|some j=>(match fz a t w,st1[j]? with|.lst us,a5 (a5 (k,_))=>gA _ [] [] (st1.set j (a5 (k,.lst us)))|_,_=>b6)|none=>b6)=_;show(match fz a t w,st1[i]? with|.lst us,a5 (a5 (k,_))=>gA _ [] [] (st1.set i (a5 (k,.lst us)))|_,_=>b6)=_;rw[d];rfl
theorem c8(b:bx Γ)(a:st[i]?=a5 (a5 (k,u)))(hk:k.root=b8)(c:Run (ev Γ e) st (.loc,.int m) st)(d:Src T u)(f:T<2 ^ 62)(m0:0<m)(m1:m<1073741824):
  ∃n u',Run (ev Γ (.Jb "_law_draw" [.var i,e] [0])) st (.loc,.int n) (st.set i (a5 (k,u')))/\0<=n/\n<m/\Src (T+1) u':=zS b a hk c a hk d f m0 m1
end
section
theorem fe(h:st[i]?=a5 (a5 (.loc,.bl b))):Run (Jt Γ (.var i)) st b st:=aa (dN h) (b_ rfl)
end
noncomputable def zT:List S :=
   [.set 6 (.idx (.var 1) (.Jb "_law_draw" [.var 0,.bi .len [.var 1]] [0])),
   .ite (.and [.var 3,.cmp .gt (.var 2) (.cst (.int 0))])
    [.set 6 (.idx (.var 1) (.Jb "_law_draw" [.var 0,.var 2] [0]))]
    [],
   .ite (.cmp .Jo (.var 6) (.var 4))
    [.app 4 (.var 6)]
    []]
noncomputable def HL:List U:=[.int 0,.int 1,.int 1,.int 2,.int 2,.int 3,.int 8,.int 2]
noncomputable def HM:List S :=
   [.set 4 (.lst []),
    .Jv cc [5] .Kv [.idx (.lst [.cst (.int 0),.cst (.int 1),.cst (.int 1),.cst (.int 2),.cst (.int 2),.cst (.int 3),.cst (.int 8),.cst (.int 2)]) (.Jb "_law_draw" [.var 0,.cst (.int 8)] [0])] zT,
    .ret (.tup [(.idx (.var 1) (.var 2)),(.bi .tuple [(.var 4)])])]
noncomputable def F7:Fn:=⟨"_law_row",4,7,.Mn [0]::HM⟩
noncomputable def dP(u:U)(ws:List Str)(at_:Int)(b:Bool)(told:List Str)(o5 o6:Option (Kd×U)):az:=[a5 (.io,u),a5 (.any,.lst (ws.map .str)),a5 (.loc,.int at_),a5 (.loc,.bl b),a5 (.own,.lst (told.map .str)),o5,o6]
theorem j3{ws:List Str}{n:Int}(b:0<=n)(c:n<ws.length):∃x,x∈ws/\ws[n.toNat]?=a5 x/\J7 (ws.map U.str) n=a5 (.str x):=by
 obtain⟨k,rfl⟩:=wh b;have a:k<ws.length:=by lia
 exact⟨ws[k],MY a,by simp[a],jS (by simp[a])⟩
theorem zU(j:bx Γ)(s:Src T u)(G:T+1<2 ^ 62)(H:ws.length<1000000)(a0:0<=at_)(a1:at_<ws.length)(I:told.length<=8):
  ∃u' x a,Run (execs Γ zT) (dP u ws at_ b told o5 o6) .nx (dP u' ws at_ b a o5 (a5 (.any,.str x)))/\Src (T+2) u'/\(a=told\/(x∈ws/\x∉told/\a=told++[x])):=by
 have t:(8:Nat)<cL:=by decide
 obtain⟨n,f,v,w,l,s1⟩:=c8 (st:=dP u ws at_ b told o5 o6) j (i:=0) (k:=.io) (e:=.bi .len [.var 1]) (m:=((ws.map U.str).length:Nat)) rfl rfl (bW (af (a_ rfl) ai) trivial cj) s ⋯ (by simp;lia) (by simp;lia);rw[c4]at l;obtain⟨x,A,_,ex⟩:=j3 w l;have o:Run (ev Γ (.idx (.var 1) (.Jb "_law_draw" [.var 0,.bi .len [.var 1]] [0]))) (dP u ws at_ b told o5 o6) (.any,.str x) (dP f ws at_ b told o5 o6):=aN (a_ rfl) v trivial (cJ (k:=.any) ex);have d:∀(c:U) (y:Str),y∈ws->Src (T+2) c->∃u' x a,Run (execs Γ [.ite (.cmp .Jo (.var 6) (.var 4)) [.app 4 (.var 6)] []]) (dP c ws at_ b told o5 (a5 (.any,.str y))) .nx (dP u' ws at_ b a o5 (a5 (.any,.str x)))/\Src (T+2) u'/\(a=told\/(x∈ws/\x∉told/\a=told++[x])):=by
  intro c y g hs;by_cases h:y∈told
  ·refine⟨c,y,told,?_,hs,.inl rfl⟩;refine bu (aV (a_ rfl) (aB rfl) ∅ (iC.trans (by simp[h]))) aw aw
  ·refine⟨c,y,told++[y],?_,hs,.inr ⟨g,h,rfl⟩⟩;refine c6 (aV (a_ rfl) (aB rfl) ∅ (iC.trans (by simp[h]))) (fm (k:=.own) (k':=.own) rfl (a_ rfl) (qF rfl) rfl rfl (by simp;lia) aw) ?_;rw[show told.map U.str++[U.str y]=(told++[y]).map U.str by simp];exact aw
 by_cases p:b=b8/\0<at_
 ·obtain⟨rfl,r⟩:=p;obtain⟨J,c,B,C,L,s2⟩:=c8 (st:=dP f ws at_ b8 told o5 (a5 (.any,.str x))) j (i:=0) (k:=.io) (e:=.var 2) (m:=at_) rfl rfl (ae rfl) s1 ⋯ r ⋯;obtain⟨y,g,_,D⟩:=j3 (ws:=ws) C ⋯;obtain⟨u',z,a,q,hs,ho⟩:=d c y g (s2.up ⋯);refine⟨u',z,a,av o iA (c6 (jz (ly (fe rfl) (fc (aV (ae rfl) aj trivial (fU (by simp[r])))))) (av (aN (a_ rfl) B trivial (cJ (k:=.any) D)) iA aw) q),hs,ho⟩
 ·obtain⟨u',z,a,q,hs,ho⟩:=d f x A (s1.up ⋯);refine⟨u',z,a,av o iA (bu (st1:=dP f ws at_ b told o5 (a5 (.any,.str x))) (jz ?_) aw q),hs,ho⟩;cases b with
  |false=>exact sW (fe rfl)
  |true=>exact ly (fe rfl) (fc (aV (ae rfl) aj trivial (fU (by simp at p ⊢;lia))))
def lG(Γ:Tab):Prop:=∀(T at_:Int) (u:U) (ws:List Str) (b:Bool),Src T u->T+17<2 ^ 62->ws.length<1000000->0<=at_->at_<ws.length->∃(x:Str) (told:List Str) (u':U),Γ "_law_row" [u,.lst (ws.map .str),.int at_,.bl b]=a5 (.ok (.loc,.tup [.tup [.str x,.tup (told.map .str)],u']))/\ws[at_.toNat]?=a5 x/\told.Nodup/\(∀y∈told,y∈ws)/\told.length<=8/\Src (T+17) u'
theorem CM(a:0<=n)(b:n<8):∃m:Nat,m<=8/\J7 HL n=a5 (.int (m:Nat)):=by
 obtain⟨k,rfl⟩:=wh a;have:k=0\/k=1\/k=2\/k=3\/k=4\/k=5\/k=6\/k=7:=by lia
 rcases this with rfl|rfl|rfl|rfl|rfl|rfl|rfl|rfl
 ·exact⟨0,⋯,rfl⟩
 ·exact⟨1,⋯,rfl⟩
 ·exact⟨1,⋯,rfl⟩
 ·exact⟨2,⋯,rfl⟩
 ·exact⟨2,⋯,rfl⟩
 ·exact⟨3,⋯,rfl⟩
 ·exact⟨8,⋯,rfl⟩
 ·exact⟨2,⋯,rfl⟩
theorem CN(o:bx Γ){ws:List Str}{T at_:Int}(p:Src T u)(hT:T+17<2 ^ 62)(A:ws.length<1000000)(a0:0<=at_)(a1:at_<ws.length):
  ∃(x:Str) (told:List Str) (u':U),gk Γ F7 [0] HM [u,.lst (ws.map .str),.int at_,.bl b]=a5 (.ok (.loc,.tup [.tup [.str x,.tup (told.map .str)],u']))/\ws[at_.toNat]?=a5 x/\told.Nodup/\(∀y∈told,y∈ws)/\told.length<=8/\Src (T+17) u':=by
 have B:(8:Nat)<cL:=by decide
 obtain⟨x,_,C,ex⟩:=j3 a0 a1;obtain⟨n,s,D,G,H,s1⟩:=c8 (st:=dP u ws at_ b [] b6 b6) o (i:=0) (k:=.io) (e:=.cst (.int 8)) (m:=8) rfl rfl aj p ⋯ ⋯ ⋯;obtain⟨m,hm,em⟩:=CM G H;obtain⟨st',I,g,told,o5,o6,rfl,s2,j,l,v,_⟩:=cM (rs:=[(.loc,.int (m:Nat))]) (t:=cc) (is:=[5]) (body:=execs Γ zT) (λi:Nat=>(Kd.loc,U.int (0+(i:Int)))) (λd r st=>∃(g:U) (told:List Str) (o5 o6:Option (Kd×U)),st=dP g ws at_ b told o5 o6/\Src (T+1+2 * (d.length:Nat)) g/\told.Nodup/\(∀y∈told,y∈ws)/\told.length<=d.length/\d.length+r.length=m)
  (λd r st _=>trivial) (λd y r st h=>by
   obtain⟨g,told,o5,o6,rfl,s2,j,l,v,J⟩:=h;simp only[ke]at J;obtain⟨L,z,N,q,s3,ho⟩:=zU o (u:=g) (ws:=ws) (told:=told) (b:=b) (at_:=at_) (o5:=a5 (.loc,.int (0+(y:Int)))) (o6:=o6) s2 ⋯ A a0 a1 ⋯;refine⟨dP g ws at_ b told (a5 (.loc,.int (0+(y:Int)))) o6,_,aE,q,L,N,_,_,rfl,s3.up (by simp;lia),?_⟩;rw[hV,sx];rcases ho with rfl|⟨O,Q,rfl⟩
   ·exact⟨j,l,⋯,⋯⟩
   ·refine⟨rr.mpr ⟨j,by simp,λa Y c w=>by rw[i7]at w;subst w;exact λe=>Q (e▸Y)⟩,λy hy=>?_,by simp;lia,⋯⟩;rcases kj.mp hy with hy|hy
    ·exact l y hy
    ·rw[i7]at hy;subst hy;exact O) (i0 m) [] (dP s ws at_ b [] b6 b6) ⟨s,[],b6,b6,rfl,by simpa using s1,by simp,by simp,by simp,by simp⟩
 rw[mf,vr]at s2 v;refine⟨x,told,g,?_,C,j,l,⋯,s2.up ⋯⟩;refine cp (st0:=[a5 (.io,u),a5 (.any,.lst (ws.map .str)),a5 (.loc,.int at_),a5 (.loc,.bl b),b6,b6,b6]) (f:=.rt .loc (.tup [.str x,.tup (told.map .str)])) (st:=dP g ws at_ b told o5 o6) rfl ?_ ?_ rfl rfl
 ·obtain⟨_,_,_,rfl,_⟩:=p;rfl
 refine av (st2:=dP u ws at_ b [] b6 b6) (bT ai trivial aF (ki _)) bh ?_;refine c7 (rs:=[(.loc,.int (m:Nat))]) (af (aN (x:=(.own,.lst HL)) (bT (by repeat (first|exact ai|exact af aj (by assumption)|apply af aj)) (by exact trivial) (by repeat (first|exact aF|apply aA aI)) (by decide)) D trivial (cJ em)) ai) trivial (jb ⋯) rfl I ?_;exact bO (fQ (af (aN (a_ rfl) (ae rfl) trivial (cJ (k:=.any) ex)) (af (bW (af (aB rfl) ai) ∅ rfl) ai)) trivial (aA (qF rfl) (aA aI aF)) (by show 2<=cL;lia)) fT
theorem HN(a:bx (Jl Pg d))(h:JT Pg "_law_row" F7):lG (Jl Pg (d+1)):=by
 intro T at_ u ws b c f g a0 a1;obtain⟨x,told,u',e,r⟩:=CN a (b:=b) c f g a0 a1;exact⟨x,told,u',by rw[cQ h _ rfl];exact e,r⟩
noncomputable def DA:List S :=
   [.ite (.and [.cmp .eq (.idx (.var 2) (.cst (.int 0))) (.idx (.var 1) (.cst (.int 0))),.cmp .eq (.bi .sorted [.idx (.var 2) (.cst (.int 1))]) (.bi .sorted [.idx (.var 1) (.cst (.int 1))])])
    [.Md]
    []]
noncomputable def HP:List S:=[.Jv cc [2] .seq [.var 0] DA,.app 0 (.var 1)]
noncomputable def CO:Fn:=⟨"_law_lay",2,3,.Mn [0]::HP⟩
noncomputable def gE(rs:List Row)(r:Row)(o:Option (Kd×U)):az:=[a5 (.io,.lst (rs.map A')),a5 (.loc,A' r),o]
noncomputable def layR(rs:List Row)(r:Row):List Row:=if keyOf r∈rs.map keyOf then rs else rs++[r]
theorem zV(c:x.2.length<64)(d:r.2.length<64):Run (Jt Γ (.and [.cmp .eq (.idx (.var 2) (.cst (.int 0))) (.idx (.var 1) (.cst (.int 0))),.cmp .eq (.bi .sorted [.idx (.var 2) (.cst (.int 1))]) (.bi .sorted [.idx (.var 1) (.cst (.int 1))])])) (gE rs r (a5 (.loc,A' x))) (dt (keyOf x=keyOf r)) (gE rs r (a5 (.loc,A' x))):=by
 have a:∀y:Row,fJ (.loc,A' y) (.int 0)=a5 (.loc,.str y.1):=λy=>rfl;have b:∀y:Row,fJ (.loc,A' y) (.int 1)=a5 (.loc,.tup (y.2.map .str)):=λy=>rfl;have f:Run (Jt Γ (.cmp .eq (.idx (.var 2) (.cst (.int 0))) (.idx (.var 1) (.cst (.int 0))))) (gE rs r (a5 (.loc,A' x))) (dt (x.1=r.1)) (gE rs r (a5 (.loc,A' x))):=aV (aN (ae rfl) aj trivial (a x)) (aN (ae rfl) aj trivial (a r)) trivial CD;have g:Run (Jt Γ (.cmp .eq (.bi .sorted [.idx (.var 2) (.cst (.int 1))]) (.bi .sorted [.idx (.var 1) (.cst (.int 1))]))) (gE rs r (a5 (.loc,A' x))) (dt (aR x.2=aR r.2)) (gE rs r (a5 (.loc,A' x))):=aV (bW (af (aN (ae rfl) aj trivial (b x)) ai) trivial (sorted_strs c)) (bW (af (aN (ae rfl) aj trivial (b r)) ai) trivial (sorted_strs d)) trivial qO;have e:dt (keyOf x=keyOf r)=(dt (x.1=r.1)&&dt (aR x.2=aR r.2)):=by
  rw[<-Bool.decide_and];exact decide_eq_decide.mpr (by unfold keyOf;exact WO ..▸Iff.rfl)
 rw[e];exact jz (sZ f λ_=>fc g)
theorem F8:Run (execs Γ (.Md::ss)) st (.rt .loc .Jc) st:=xk (aU)
theorem q9(b:r.2.length<64):∀(xs:List Row) (o:Option (Kd×U)),(∀x∈xs,x.2.length<64) ->
  ∃o',Run (forM cc [2] (execs Γ DA) [(.bor 0,.lst (rs.map A'))] (xs.map λx=>(Kd.loc,A' x))) (gE rs r o) (if keyOf r∈xs.map keyOf then .rt .loc .Jc else .nx) (gE rs r o')
 |[],o,_=>⟨o,by rw[ő (by simp)];exact qJ ⟨⟨_,rfl,rfl⟩,trivial⟩⟩
 |x::xs,o,h=>by
  have a:=zV (Γ:=Γ) (rs:=rs) (h x (by simp)) b;by_cases hk:keyOf x=keyOf r
  ·refine⟨a5 (.loc,A' x),?_⟩;rw[Ő (by simp[hk])];rw[œ hk]at a;exact IW ⟨⟨_,rfl,rfl⟩,trivial⟩ aE (lz a F8)
  ·rw[Œ hk]at a;obtain⟨o',q⟩:=q9 (Γ:=Γ) (rs:=rs) b xs (a5 (.loc,A' x)) λy c=>h y (by simp[c]);refine⟨o',?_⟩;have d:(keyOf r∈(x::xs).map keyOf)↔(keyOf r∈xs.map keyOf):=by
    rw[d6,et];exact⟨λz=>z.resolve_left λe=>hk e.symm,.inr⟩
   rw[show(if keyOf r∈(x::xs).map keyOf then Fl.rt .loc .Jc else Fl.nx)=(if keyOf r∈xs.map keyOf then Fl.rt .loc .Jc else Fl.nx) by simp only[d]];exact zE ⟨⟨_,rfl,rfl⟩,trivial⟩ aE (bu a aw aw) q
theorem CP(a:r.2.length<64)(h:∀x∈rs,x.2.length<64)(hl:rs.length<1000):gk Γ CO [0] HP [.lst (rs.map A'),A' r]=a5 (.ok (.loc,.tup [.Jc,.lst ((layR rs r).map A')])):=by
 have b:(1000:Nat)<cL:=by decide
 obtain⟨o',q⟩:=q9 (Γ:=Γ) a rs b6 h;have hs:cW [0] [.lst (rs.map A'),A' r] CO.ns=gE rs r b6:=by
  show [a5 (Kd.io,U.lst (rs.map A')),a5 (if Js (A' r)=b8 then Kd.loc else Kd.any,A' r),b6]=_;rw[Ő (pf r)];rfl
 have hi:K7 .seq [(Kd.bor 0,U.lst (rs.map A'))]=a5 (rs.map λx=>(Kd.loc,A' x)):=by
  show a5 ((rs.map A').map λu=>(kE (.bor 0),u))=_;rw[i5];rfl
 unfold layR;by_cases hk:keyOf r∈rs.map keyOf
 ·rw[Ő hk]at q ⊢;exact cp (f:=.rt .loc .Jc) rfl hs (xk (Dv (af (dv rfl) ai) ⟨⟨_,rfl,rfl⟩,trivial⟩ hi rfl q)) rfl rfl
 ·rw[ő hk]at q ⊢;refine cp (f:=.nx) (st:=gE (rs++[r]) r o') rfl hs (c7 (af (dv rfl) ai) ⟨⟨_,rfl,rfl⟩,trivial⟩ hi rfl q (fm (k:=.io) (k':=.io) rfl (ae rfl) aI rfl rfl (by simp;lia) ?_)) rfl rfl;rw[show rs.map A'++[A' r]=(rs++[r]).map A' by simp];exact aw
def lH(Γ:Tab):Prop:=∀(rs:List Row) (r:Row),r.2.length<64->(∀x∈rs,x.2.length<64)->rs.length<1000->Γ "_law_lay" [.lst (rs.map A'),A' r]=a5 (.ok (.loc,.tup [.Jc,.lst ((layR rs r).map A')]))
theorem HQ(h:JT Pg "_law_lay" CO):lH (Jl Pg (d+1)):=λrs r a b hl=>by
 rw[cQ h _ rfl];exact CP a b hl
noncomputable def QJ:Kd×U->Bool
 |(.bor _,_)=>cc
 |_=>b8
section
theorem q_(h:QJ r=b8):dR st r=r:=by
 obtain⟨k,u⟩:=r;cases k<;>first|rfl|cases h
theorem nK(h:QJ r=b8):yH a r=b8:=by
 obtain⟨k,u⟩:=r;cases k<;>first|rfl|cases h
theorem ra(h:rs.all QJ=b8):bt rs st:=by
 induction rs with
 |nil=>trivial
 |cons r rs a =>
  obtain⟨k,u⟩:=r;rw[č,cb]at h;have:=a h.2;cases k<;>first|exact this|cases h.1
theorem gT(l:st[i]?=a5 (a5 (k0,a)))(g:k0.root=b8)(m:Run (bG Γ es) st rs st1)(c:st1[i]?=a5 (a5 (k,.lst us)))(hk:k.root=b8)(n:bR us=b8)(d:rs.all QJ=b8)
  (o:Γ f (.lst us::rs.map (·.2))=a5 (.ok (e,.tup [v,.lst h]))) (p:e=.own\/e=.loc):Run (ev Γ (.Jb f (.var i::es) [0])) st (e,v) (st1.set i (a5 (k,.lst h))):=by
 have s:Run (ev Γ (.var i)) st (.bor i,a) st:=by
  have:=dN l (by rintro rfl;cases g);unfold kv at this;rw[Ő g]at this;exact this
 have t:dR st1 (.bor i,a)=(.bor i,.lst us):=by
  unfold dR
  dsimp only
  rw[c];simp[hk]
 have u:rs.map (dR st1)=rs:=by
  conv=>rhs;rw[<-VI rs]
  exact td λr w=>q_ (i8.mp d r w)
 have b:((Kd.bor i,a)::rs).map (dR st1)=(.bor i,.lst us)::rs:=by rw[d6,t,u]
 have j:gN ((Kd.bor i,U.lst us)::rs) 0=a5 i:=by
  show(if bR us=b8 then a5 i else b6)=_;rw[Ő n]
 refine sY (rs:=(.bor i,a)::rs) (ws:=[.lst h]) (st1:=st1) (af s m) ?_ ?_ p ?_ ?_
 ·rw[b];exact⟨⟨k,hk,c⟩,ra d⟩
 ·rw[b];exact o
 ·rw[b];unfold qr;rw[cb,cb];refine⟨⟨by simp[j],by simp⟩,i8.mpr λq x=>?_⟩;cases q with
  |zero=>simp
  |succ q =>
   have hl:q<rs.length:=by have:=tA.mp x;simpa using this
   rw[Lj];refine .inr (nK ?_);rw[show((Kd.bor i,U.lst us)::rs).getD (q+1) (.loc,.Jc)=rs[q] by simp[y4,hl]];exact i8.mp d _ (MY hl)
 ·rw[b];unfold gA;rw[j]
  dsimp only
  rw[c];rfl
end
section
theorem zW(p:lG Γ){ws:List Str}(c:st[i]?=a5 (a5 (k0,D)))(d:k0.root=b8)(f:st[j]?=a5 (a5 (kw,.lst (ws.map .str))))(q:kw=.loc\/kw=.any)(g:Run (ev Γ e) st (.loc,.int at_) st1)(h:Run (ev Γ t) st1 (.loc,.bl b) st2)
  (l:st2[i]?=a5 (a5 (k,u))) (hk:k.root=b8) (m:Src T u) (s:T+17<2 ^ 62) (v:ws.length<1000000) (a0:0<=at_) (a1:at_<ws.length) :
  ∃(r:Row) (u':U),Run (ev Γ (.Jb "_law_row" [.var i,.var j,e,t] [0])) st (.loc,A' r) (st2.set i (a5 (k,u')))/\ws[at_.toNat]?=a5 r.1/\r.2.Nodup/\(∀y∈r.2,y∈ws)/\r.2.length<=8/\Src (T+17) u':=by
 obtain⟨x,told,u',n,z,A,B,C,o⟩:=p T at_ u ws b m s v a0 a1;refine⟨(x,told),u',?_,z,A,B,C,o⟩;obtain⟨a,t',w,rfl,_,_⟩:=m;obtain⟨G,H,I,rfl,_,_⟩:=o;rcases q with rfl|rfl
 ·exact gT (rs:=[(.loc,.lst (ws.map .str)),(.loc,.int at_),(.loc,.bl b)]) c d (af (ae f) (af g (af h ai))) l hk rfl rfl n (.inr rfl)
 ·exact gT (rs:=[(.any,.lst (ws.map .str)),(.loc,.int at_),(.loc,.bl b)]) c d (af (a_ f) (af g (af h ai))) l hk rfl rfl n (.inr rfl)
theorem zX(a:lH Γ)(b:st[i]?=a5 (a5 (k0,j)))(c:k0.root=b8)(d:Run (ev Γ e) st (.loc,A' r) st1)(f:st1[i]?=a5 (a5 (k,.lst (rs.map A'))))(hk:k.root=b8)(g:r.2.length<64)(h:∀x∈rs,x.2.length<64)(hl:rs.length<1000):
  Run (ev Γ (.Jb "_law_lay" [.var i,e] [0])) st (.loc,.Jc) (st1.set i (a5 (k,.lst ((layR rs r).map A')))) :=
 gT (rs:=[(.loc,A' r)]) b c (af d ai) f hk (aO rs) rfl (a rs r g h hl) (.inr rfl)
theorem nL(a:Run (ev Γ e) st r st1)(b:Run (execs Γ ss) st1 f st2):Run (execs Γ (.exp e::ss)) st f st2:=fy (aa a aU) b
def iH(Γ:Tab):Prop:=(∀k:Int,Γ "_law_source" [.lst [],.int k]=a5 (.ok (.own,.tup [fz k 0 1,.lst []])))/\∀(ns:List Int) (c k:Int),Γ "_law_source" [.lst ((ns++[c]).map .int),.int k]=a5 (.ok (.own,.tup [fz (c / 2) 0 (c % 2),.lst (ns.map .int)]))
theorem zY(h:JT Pg "_law_source" zN):iH (Jl Pg (d+1)):=⟨λk=>by rw[cQ h _ rfl];exact zO,λns c k=>by rw[cQ h _ rfl];exact zP⟩
theorem gf:∀ns:List Int,bR (ns.map U.int)=b8
 |[]=>rfl
 |n::ns=>by show(b8&&bR (ns.map U.int))=b8;rw[gf ns];rfl
theorem zZ(a:iH Γ)(b:st[i]?=a5 (a5 (k0,h)))(d:k0.root=b8)(f:Run (ev Γ e) st (.loc,.int m) st1)(g:st1[i]?=a5 (a5 (k,.lst ((ns++[c]).map .int))))(hk:k.root=b8):
  Run (ev Γ (.Jb "_law_source" [.var i,e] [0])) st (.own,fz (c / 2) 0 (c % 2)) (st1.set i (a5 (k,.lst (ns.map .int)))) :=
 gT (rs:=[(.loc,.int m)]) b d (af f ai) g hk (gf _) rfl (a.2 ns c m) (.inl rfl)
theorem F9(a:iH Γ)(b:st[i]?=a5 (a5 (k0,g)))(c:k0.root=b8)(d:Run (ev Γ e) st (.loc,.int m) st1)(f:st1[i]?=a5 (a5 (k,.lst [])))(hk:k.root=b8):
  Run (ev Γ (.Jb "_law_source" [.var i,e] [0])) st (.own,fz m 0 1) (st1.set i (a5 (k,.lst []))) :=
 gT (rs:=[(.loc,.int m)]) b c (af d ai) f hk rfl rfl (a.1 m) (.inl rfl)
end
noncomputable def tE:List S :=
   [.set 6 (.Jb "_law_draw" [.var 1,.bi .len [.var 2]] [0]),
   .ite (.cmp .eq (.var 4) (.cst (.int 3)))
    [.set 6 (.bin .mod (.var 5) (.bi .len [.var 2]))]
    [],
   .exp (.Jb "_law_lay" [(.var 3),(.Jb "_law_row" [(.var 1),(.var 2),(.var 6),(.cmp .gt (.var 4) (.cst (.int 1)))] [0])] [0])]
noncomputable def tF:List S :=
   [.set 7 (.Jb "_law_source" [.var 0,.cst (.int 0)] [0]),
   .exp (.Jb "_law_lay" [(.var 3),(.Jb "_law_row" [(.var 7),(.var 2),(.Jb "_law_draw" [(.var 7),(.bi .len [(.var 2)])] [0]),(.cmp .eq (.var 4) (.cst (.int 2)))] [0])] [0])]
noncomputable def dq(ns:List Int)(u:U)(ws:List Str)(rs:List Row)(way:Int)(o5 o6 o7:Option (Kd×U)):az:=[a5 (.io,.lst (ns.map .int)),a5 (.io,u),a5 (.any,.lst (ws.map .str)),a5 (.own,.lst (rs.map A')),a5 (.loc,.int way),o5,o6,o7]
def ba(ws:List Str)(r:Row):Prop:=r.1∈ws/\r.2.Nodup/\(∀y∈r.2,y∈ws)/\r.2.length<=8
def di(ws:List Str)(rs:List Row):Prop:=(∀r∈rs,ba ws r)/\(rs.map keyOf).Nodup
theorem di.lay(h:di ws rs)(d:ba ws r):di ws (layR rs r):=by
 unfold layR;split
 ·exact h
 ·rename_i hk;refine⟨λx hx=>?_,?_⟩
  ·rcases kj.mp hx with hx|hx
   ·exact h.1 x hx
   ·rw[i7]at hx;subst hx;exact d
  ·rw[js];exact rr.mpr ⟨h.2,by simp,λa f c b=>by rw[R0,i7]at b;subst b;exact λe=>hk (e▸f)⟩
theorem rb:(layR rs r).length<=rs.length+1:=by
 unfold layR;split
 ·lia
 ·simp
theorem xr(s:bx Γ)(v:lG Γ)(w:lH Γ){k:Nat}(y:Src T u)(N:T+18<2 ^ 62)(O:0<ws.length)(z:ws.length<1000000)(h:di ws rs)(hl:rs.length<1000):
  ∃u' a c,Run (execs Γ tE) (dq ns u ws rs way (a5 (.loc,.int (0+(k:Int)))) o6 o7) .nx (dq ns u' ws a way (a5 (.loc,.int (0+(k:Int)))) c o7)/\Src (T+18) u'/\di ws a/\a.length<=rs.length+1:=by
 obtain⟨n,f,l,A,o,s1⟩:=c8 (st:=dq ns u ws rs way (a5 (.loc,.int (0+(k:Int)))) o6 o7) s (i:=1) (k:=.io) (e:=.bi .len [.var 2]) (m:=((ws.map U.str).length:Nat)) rfl rfl (bW (af (a_ rfl) ai) trivial cj) y ⋯ (by simp;lia) (by simp;lia);rw[c4]at o;have d:∀at_:Int,0<=at_->at_<ws.length->∃u' a c,Run (execs Γ [.exp (.Jb "_law_lay" [.var 3,.Jb "_law_row" [.var 1,.var 2,.var 6,.cmp .gt (.var 4) (.cst (.int 1))] [0]] [0])]) (dq ns f ws rs way (a5 (.loc,.int (0+(k:Int)))) (a5 (.loc,.int at_)) o7) .nx (dq ns u' ws a way (a5 (.loc,.int (0+(k:Int)))) c o7)/\Src (T+18) u'/\di ws a/\a.length<=rs.length+1:=by
  intro at_ a0 a1;obtain⟨r,B,q,C,D,G,H,I⟩:=zW (st:=dq ns f ws rs way (a5 (.loc,.int (0+(k:Int)))) (a5 (.loc,.int at_)) o7) (st1:=dq ns f ws rs way (a5 (.loc,.int (0+(k:Int)))) (a5 (.loc,.int at_)) o7) (st2:=dq ns f ws rs way (a5 (.loc,.int (0+(k:Int)))) (a5 (.loc,.int at_)) o7) v (i:=1) (j:=2) (e:=.var 6) (t:=.cmp .gt (.var 4) (.cst (.int 1))) (k0:=.io) (k:=.io) (kw:=.any) (b:=dt (1<way)) rfl rfl rfl (.inr rfl) (ae rfl) (jx (ae rfl) aj trivial (fU rfl)) rfl rfl s1 ⋯ z a0 a1;have J:ba ws r:=⟨l0 C,D,G,H⟩
  exact⟨B,layR rs r,_,nL (zX w (k0:=.own) (k:=.own) (rs:=rs) rfl rfl q rfl rfl ⋯ (λx L=>by have:=(h.1 x L).2.2.2;lia) hl) aw,I.up ⋯,h.lay J,rb⟩
 by_cases p:way=3
 ·subst p;obtain⟨u',a,c,q,g⟩:=d ((0+(k:Int)) % (ws.length:Nat)) (Q9 _ ⋯) (Sb _ ⋯);refine⟨u',a,c,av l aE (c6 (aV (ae rfl) aj trivial (cq rfl)) (av (bC (ae rfl) (bW (af (a_ rfl) ai) trivial cj) trivial (dZ (by simp;lia))) aE aw) ?_),g⟩;rw[c4];exact q
 ·obtain⟨u',a,c,q,g⟩:=d n A o;exact⟨u',a,c,av l aE (bu (aV (ae rfl) aj trivial (cq (by simp[p]))) aw q),g⟩
theorem xt(l:iH Γ)(o:bx Γ)(p:lG Γ)(s:lH Γ)(L:0<ws.length)(w:ws.length<1000000)(d:di ws rs)(hl:rs.length<1000):
  ∃a y,Run (execs Γ tF) (dq (ns++[c]) u ws rs way o5 o6 o7) .nx (dq ns u ws a way o5 o6 y)/\di ws a/\a.length<=rs.length+1:=by
 have f:=zZ (st:=dq (ns++[c]) u ws rs way o5 o6 o7) (st1:=dq (ns++[c]) u ws rs way o5 o6 o7) l (i:=0) (k0:=.io) (k:=.io) (e:=.cst (.int 0)) (m:=0) rfl rfl aj rfl rfl;have s0:Src 0 (fz (c / 2) 0 (c % 2)):=⟨_,_,_,rfl,⋯,⋯⟩
 generalize fz (c / 2) 0 (c % 2)=v at f s0;obtain⟨n,g,z,A,h,s1⟩:=c8 (st:=dq ns u ws rs way o5 o6 (a5 (.own,v))) o (i:=7) (k:=.own) (e:=.bi .len [.var 2]) (m:=((ws.map U.str).length:Nat)) rfl rfl (bW (af (a_ rfl) ai) trivial cj) s0 ⋯ (by simp;lia) (by simp;lia);rw[c4]at h;obtain⟨r,B,q,C,D,G,H,N⟩:=zW (st:=dq ns u ws rs way o5 o6 (a5 (.own,v))) (st1:=dq ns u ws rs way o5 o6 (a5 (.own,g))) (st2:=dq ns u ws rs way o5 o6 (a5 (.own,g))) p (i:=7) (j:=2) (t:=.cmp .eq (.var 4) (.cst (.int 2))) (k0:=.own) (k:=.own) (kw:=.any) (b:=(way==2)) rfl rfl rfl (.inr rfl) z (jx (ae rfl) aj trivial (cq rfl)) rfl rfl s1 ⋯ w A h;have I:ba ws r:=⟨l0 C,D,G,H⟩
 exact⟨layR rs r,a5 (.own,B),av (st2:=dq ns u ws rs way o5 o6 (a5 (.own,v))) f bh (nL (zX s (k0:=.own) (k:=.own) (rs:=rs) rfl rfl q rfl rfl ⋯ (λx J=>by have:=(d.1 x J).2.2.2;lia) hl) aw),d.lay I,rb⟩
noncomputable def tH:E:=.and [.cmp .gt (.bi .len [.var 0]) (.cst (.int 0)),.cmp .lt (.bi .len [.var 3]) (.cst (.int 60))]
theorem nM:Run (Jt Γ tH) (dq ns u ws rs way o5 o6 o7) (dt (0<ns.length)&&dt (rs.length<60)) (dq ns u ws rs way o5 o6 o7):=by
 refine jz (sZ (aV (bW (af (dv rfl) ai) ∅ cj) aj trivial (fU ?_)) λ_=>fc (aV (bW (af (aB rfl) ai) ∅ cj) aj trivial (qK ?_)))
 ·rw[c4];exact decide_eq_decide.mpr ⋯
 ·rw[c4];exact decide_eq_decide.mpr ⋯
theorem tI(m:iH Γ)(n:bx Γ)(o:lG Γ)(p:lH Γ)(q:0<ws.length)(r:ws.length<1000000):
  ∀(k f:Nat) (ns:List Int) (rs:List Row) (o7:Option (Kd×U)),ns.length=k->k<f->di ws rs->rs.length<=60->∃d b i,Run (fw (Jt Γ tH) (execs Γ tF) f) (dq ns u ws rs way o5 o6 o7) .nx (dq d u ws b way o5 o6 i)/\di ws b/\b.length<=60/\d.length<=ns.length:=by
 intro k;induction k with
 |zero =>
  intro f ns rs o7 hk s h hl;obtain⟨f,rfl⟩:∃g,f=g+1:=⟨f - 1,⋯⟩
  have a:=nM (Γ:=Γ) (ns:=ns) (u:=u) (ws:=ws) (rs:=rs) (way:=way) (o5:=o5) (o6:=o6) (o7:=o7);rw[Œ (show ¬0<ns.length by lia)]at a;exact⟨ns,rs,o7,nz a,h,hl,hU _⟩
 |succ k t =>
  intro f ns rs o7 hk s h hl;obtain⟨f,rfl⟩:∃g,f=g+1:=⟨f - 1,⋯⟩
  have a:=nM (Γ:=Γ) (ns:=ns) (u:=u) (ws:=ws) (rs:=rs) (way:=way) (o5:=o5) (o6:=o6) (o7:=o7);rw[œ (show 0<ns.length by lia)]at a;by_cases j:rs.length<60
  ·rw[œ j]at a;obtain⟨ms,c,rfl⟩:∃ms c,ns=ms++[c]:=by
    have l:ns≠[]:=λe=>by rw[e]at hk;cases hk
    exact⟨ns.dropLast,ns.getLast l,(QR l).symm⟩
   have v:ms.length=k:=by simpa using hk
   obtain⟨w,x,y,b1,C⟩:=xt (u:=u) (ws:=ws) (way:=way) (o5:=o5) (o6:=o6) (o7:=o7) (ns:=ms) (c:=c) m n o p q r h ⋯;obtain⟨d,b,i,z,A,B,D⟩:=t f ms w x v ⋯ b1 ⋯;exact⟨d,b,i,qV a y z,A,B,by simp;lia⟩
  ·rw[Œ j]at a;exact⟨ns,rs,o7,nz a,h,hl,hU _⟩
noncomputable def DB:List S :=
   [.set 3 (.lst []),
    .set 4 (.Jb "_law_draw" [.var 1,.cst (.int 4)] [0]),
    .Jv cc [5] .Kv [.Jb "_law_draw" [.var 1,.cst (.int 25)] [0]] tE,
    .MW tH tF,
    .ret (.bi .tuple [(.var 3)])]
noncomputable def pv:Fn:=⟨"_law_book",3,8,.Mn [0,1]::DB⟩
theorem tJ(z:iH Γ)(g:bx Γ)(l:lG Γ)(n:lH Γ){ns:List Int}(o:Src T u)(Q:T+500<2 ^ 62)(Y:ns.length<1000)(p:0<ws.length)(s:ws.length<1000000):
  ∃(rs:List Row) (c:List Int) (u':U),gk Γ pv [0,1] DB [.lst (ns.map .int),u,.lst (ws.map .str)]=a5 (.ok (.loc,.tup [.tup (rs.map A'),.lst (c.map .int),u']))/\di ws rs/\rs.length<=60/\c.length<=ns.length/\Src (T+500) u':=by
 have A:(60:Nat)<cL:=by decide
 obtain⟨way,B,C,_,_,s1⟩:=c8 (st:=[a5 (.io,.lst (ns.map .int)),a5 (.io,u),a5 (.any,.lst (ws.map .str)),a5 (.own,.lst []),b6,b6,b6,b6]) g (i:=1) (k:=.io) (e:=.cst (.int 4)) (m:=4) rfl rfl aj o ⋯ ⋯ ⋯;obtain⟨m,v,D,m0,m1,s2⟩:=c8 (st:=dq ns B ws [] way b6 b6 b6) g (i:=1) (k:=.io) (e:=.cst (.int 25)) (m:=25) rfl rfl aj s1 ⋯ ⋯ ⋯;obtain⟨m,rfl⟩:=wh m0;obtain⟨st',G,a,b,o5,o6,rfl,s3,b3,w,_⟩:=cM (rs:=[(.loc,.int (m:Nat))]) (t:=cc) (is:=[5]) (body:=execs Γ tE) (λi:Nat=>(Kd.loc,U.int (0+(i:Int)))) (λd r st=>∃(a:U) (b:List Row) (o5 o6:Option (Kd×U)),st=dq ns a ws b way o5 o6 b6/\Src (T+2+18 * (d.length:Nat)) a/\di ws b/\b.length<=d.length/\d.length+r.length=m)
  (λd r st _=>trivial) (λd y r st h=>by
   obtain⟨a,b,o5,o6,rfl,s3,b3,w,H⟩:=h;simp only[ke]at H;obtain⟨I,J,Mp,q,s4,b4,x⟩:=xr (ns:=ns) (way:=way) (k:=y) (o6:=o6) (o7:=b6) g l n s3 ⋯ p s b3 ⋯;refine⟨dq ns a ws b way (a5 (.loc,.int (0+(y:Int)))) o6 b6,_,aE,q,I,J,_,_,rfl,s4.up (by simp;lia),b4,?_,?_⟩
   ·simp;lia
   ·simp;lia) (i0 m) [] (dq ns v ws [] way b6 b6 b6) ⟨v,[],b6,b6,rfl,s2.up (by simp;lia),⟨by simp,by simp⟩,by simp,by simp⟩
 rw[mf,vr]at s3 w;obtain⟨c,j,L,N,b4,x,O⟩:=tI z g l n (u:=a) (way:=way) (o5:=o5) (o6:=o6) p s ns.length fuel ns b b6 rfl (by unfold fuel;lia) b3 ⋯;refine⟨j,c,a,?_,b4,x,O,s3.up ⋯⟩;refine cp (st0:=[a5 (.io,.lst (ns.map .int)),a5 (.io,u),a5 (.any,.lst (ws.map .str)),b6,b6,b6,b6,b6]) (f:=.rt .loc (.tup (j.map A'))) (st:=dq c a ws j way o5 o6 L) rfl ?_ ?_ rfl rfl
 ·obtain⟨_,_,_,rfl,_⟩:=o;rfl
 refine av (bT ai trivial aF (ki _)) bh (av C aE ?_);refine c7 (rs:=[(.loc,.int (m:Nat))]) (af D ai) trivial (jb ⋯) rfl G (qW N ?_);exact bO (bW (af (aB rfl) ai) ∅ rfl) fT
end TM
namespace TM
open PySem L2 JB
theorem z_{cond:M Bool}(it:α->Kd×U)(I:List α->List α->List U->az->Prop)(hs:∀d r a st,I d r a st->bt src st)
  (â:∀d y q a st,I d (y::q) a st->∃s1 s2 s3 s4 r u,Run (dB t (i0 k) (it y)) (i9 k b6++st) () s1/\Run cond s1 b8 s2/\Run elt s2 r s3/\Run (lift r) s3 u s4/\I (d++[y]) q (a++[u]) (s4.drop k)) :
  ∀(b d:List α) (acc:List U) (st:az),I d b acc st->acc.length+b.length<=cL->∃us st',Run (bY k t cond elt src (b.map it) acc) st us st'/\I (d++b) [] us st'
 |[],d,acc,st,h,_=>⟨acc,st,vh (hs _ _ _ _ h),by rw[r6];exact h⟩
 |y::b,d,acc,st,h,hl=>by
  rw[ke]at hl;obtain⟨s1,s2,s3,s4,r,u,c,e,f,g,i⟩:=â d y b acc st h;obtain⟨us,st',j,l⟩:=z_ it I hs â b (d++[y]) (acc++[u]) _ i (by simp;lia);exact⟨us,st',o_ (hs _ _ _ _ h) c e f g ⋯ j,by simpa using l⟩
theorem rf(a:0<=n)(b:n<26):∃c,J7 small.cps.toList n=a5 c:=by
 obtain⟨k,rfl⟩:=wh a;have hl:small.cps.toList.length=26:=by decide
 exact⟨small.cps.toList[k]'⋯,jS (by simp)⟩
theorem Aa(g:bx Γ)(j:Src T u)(z:T+8<2 ^ 62):
  ∃x u',Run (ev Γ (.NR .join (.cst (.str "")) [.comp 1 cc .Kv [.cst (.int 8)] [] (.idx (.var 2) (.Jb "_law_draw" [.var 1,.cst (.int 26)] [0]))])) (a5 (.io,u)::a5 (.loc,.str small)::rest) (.loc,.str x) (a5 (.io,u')::a5 (.loc,.str small)::rest)/\x.length=8/\Src (T+8) u':=by
 have l:(100:Nat)<=cL:=by decide
 obtain⟨us,st',f,u',b,rfl,rfl,hl,hs,_⟩:=z_ (k:=1) (t:=cc) (cond:=bb Γ []) (elt:=ev Γ (.idx (.var 2) (.Jb "_law_draw" [.var 1,.cst (.int 26)] [0]))) (src:=[(.loc,.int (8:Nat))]) (λi:Nat=>(Kd.loc,U.int (0+(i:Int))))
  (λd r a st=>∃(u':U) (b:List Nat),st=a5 (.io,u')::a5 (.loc,.str small)::rest/\a=(b.map JB.one).map U.str/\b.length=d.length/\Src (T+(d.length:Nat)) u'/\d.length+r.length=8) (λ_ _ _ _ _=>trivial)
  (λd y q a st h=>by
   obtain⟨u',b,rfl,rfl,hl,hs,o⟩:=h;rw[ke]at o;obtain⟨n,p,r,s,v,s2⟩:=c8 (st:=a5 (.loc,.int (0+(y:Int)))::a5 (.io,u')::a5 (.loc,.str small)::rest) g (i:=1) (k:=.io) (e:=.cst (.int 26)) (m:=26) rfl rfl aj hs ⋯ ⋯ ⋯;obtain⟨c,f⟩:=rf s v;refine⟨_,_,_,_,_,_,eh aE,iz,aN (ae rfl) r trivial (oh qM f),aI,p,b++[c],rfl,by simp,by simp[hl],s2.up (by simp;lia),by simp;lia⟩)
  (i0 8) [] [] (a5 (.io,u)::a5 (.loc,.str small)::rest) ⟨u,[],rfl,rfl,rfl,by simpa using j,by simp⟩ (by simp;lia)
 rw[mf,vr]at hl hs;have w:lW .join (.str "") [(.own,.lst ((b.map JB.one).map U.str))]=a5 (.loc,.str (Uo nH (b.map JB.one))):=by
  show(strsOf ((b.map JB.one).map U.str)).bind _=_;rw[dG];show(if ć nH (b.map JB.one)=b8 then _ else _)=_;rw[Ő (JB.qL b ⋯)];rfl
 refine⟨Uo nH (b.map JB.one),u',zB aj (af (dO (af aj ai) trivial (jb (n:=8) ⋯) f) ai) trivial w,?_,hs⟩;show(Uo nH (b.map JB.one)).cps.size=8;rw[<-hW,JB.join_ones,hl]
noncomputable def Ab:List S:=[.app 7 (.ite (.cmp .eq (.var 10) (.cst (.int 1))) (.var 9) (.bin .add (.bin .add (.var 9) (.cst (.str "/"))) (.bi .str [.var 10])))]
noncomputable def Ac:List S :=
   .ite (.cmp .eq (.var 4) (.cst (.int 3)))
    [.set 10 (.bin .add (.cst (.int 1)) (.Jb "_law_draw" [.var 0,.cst (.int 99)] [0]))]
    []::Ab
noncomputable def Ad:List S :=
   .ite (.cmp .gt (.var 4) (.cst (.int 1)))
    [.set 9 (.bin .add (.idx (.var 1) (.bin .mod (.bin .add (.var 6) (.bin .mul (.cst (.int 7)) (.var 8))) (.cst (.int 26)))) (.Mb (.var 3) [.cst (.int 1)] [.var 5])),
    .set 10 (.cst (.int 1))]
    []::Ac
noncomputable def tK:List S :=
   .set 9 (.Mb (.var 3) [] [.bin .add (.cst (.int 1)) (.bin .mod (.var 8) (.cst (.int 8)))]) ::
   .set 10 (.bin .add (.cst (.int 1)) (.bin .Ou (.var 8) (.cst (.int 8)))) ::
   .ite (.cmp .eq (.var 4) (.cst (.int 1)))
    [.set 9 (.Mb (.var 3) [] [.var 5]),
    .set 10 (.bin .add (.cst (.int 1)) (.var 8))]
    []::Ad
noncomputable def Ae:List S :=
   [.set 1 (.cst (.str "abcdefghijklmnopqrstuvwxyz")),
    .set 2 (.bin .add (.cst (.int 1)) (.Jb "_law_draw" [.var 0,.idx (.lst [.cst (.int 8),.cst (.int 16),.cst (.int 24)]) (.Jb "_law_draw" [.var 0,.cst (.int 3)] [0])] [0])),
    .set 3 (.NR .join (.cst (.str "")) [.comp 1 cc .Kv [.cst (.int 8)] [] (.idx (.var 2) (.Jb "_law_draw" [.var 1,.cst (.int 26)] [0]))]),
    .set 4 (.Jb "_law_draw" [.var 0,.cst (.int 4)] [0]),
    .set 5 (.bin .add (.cst (.int 1)) (.Jb "_law_draw" [.var 0,.cst (.int 8)] [0])),
    .set 6 (.Jb "_law_draw" [.var 0,.cst (.int 26)] [0]),
    .set 7 (.lst []),
    .Jv cc [8] .Kv [.var 2] tK,
    .ret (.var 7)]
noncomputable def lI:Fn:=⟨"_law_words",1,11,.Mn [0]::Ae⟩
noncomputable def jf(u:U)(many:Int)(base:Str)(way size first:Int)(acc:List Str)(o8 o9 o10:Option (Kd×U)):az:=[a5 (.io,u),a5 (.loc,.str small),a5 (.loc,.int many),a5 (.loc,.str base),a5 (.loc,.int way),a5 (.loc,.int size),a5 (.loc,.int first),a5 (.own,.lst (acc.map .str)),o8,o9,o10]
theorem j4(h:x.length<=cL):lV (k,.str x) lo hi=a5 (.loc,.str (PySem.StrLaws.sliceText x lo hi)):=by
 show(if x.length<=cL then _ else _)=_;rw[Ő h]
theorem nN(e:acc.length<1000)(f:w.length<=9)(s0:1<=s)(s1:s<=99):
  ∃x:Str,x.length<=20/\Run (execs Γ Ab) (jf u many base way size first acc o8 (a5 (.loc,.str w)) (a5 (.loc,.int s))) .nx (jf u many base way size first (acc++[x]) o8 (a5 (.loc,.str w)) (a5 (.loc,.int s))):=by
 have b:(1000:Nat)<=cL:=by decide
 by_cases h:s=1
 ·subst h;refine⟨w,⋯,fm (k:=.own) (k':=.own) rfl (FO (aV (ae rfl) aj trivial (cq rfl)) (ae rfl)) aI rfl rfl (by simp;lia) ?_⟩;rw[show acc.map U.str++[U.str w]=(acc++[w]).map U.str by simp];exact aw
 ·have g:=xm (k:=s) ⋯ s1;have c:KU .str [(.loc,.int s)]=a5 (.loc,.str (x9 s)):=by
   simp only[KU,fK,BD];rw[Ő (by
    have:s.natAbs<2 ^ 7:=by lia
    have d:s.natAbs≠0:=by lia
    have:=(Nat.log2_lt d).mpr this;lia)]
   rfl
  have a:(w++("/":Str)).length=w.length+1:=by rw[len_list,len_list,app_list,hV];rfl
  refine⟨w++("/":Str)++x9 s,by rw[len_list,app_list,hV,<-len_list,<-len_list,a];lia,fm (k:=.own) (k':=.own) rfl (FP (aV (ae rfl) aj trivial (cq (by simp[h]))) (bC (bC (ae rfl) aj trivial (pd (by show w.length+1<=cL;lia))) (bW (af (ae rfl) ai) trivial c) trivial (pd (by rw[a];lia)))) aI rfl rfl (by simp;lia) ?_⟩;rw[show acc.map U.str++[U.str (w++("/":Str)++x9 s)]=(acc++[w++("/":Str)++x9 s]).map U.str by simp];exact aw
theorem nO(g:bx Γ)(b:Src T u)(o:T+1<2 ^ 62)(c:acc.length<1000)(d:w.length<=9)(s0:1<=s)(s1:s<=99):
  ∃u' x o9 o10,Run (execs Γ Ac) (jf u many base way size first acc o8 (a5 (.loc,.str w)) (a5 (.loc,.int s))) .nx (jf u' many base way size first (acc++[x]) o8 o9 o10)/\Src (T+1) u'/\x.length<=20:=by
 by_cases h:way=3
 ·subst h;obtain⟨n,f,j,p,r,l⟩:=c8 (st:=jf u many base 3 size first acc o8 (a5 (.loc,.str w)) (a5 (.loc,.int s))) g (i:=0) (k:=.io) (e:=.cst (.int 99)) (m:=99) rfl rfl aj b ⋯ ⋯ ⋯;obtain⟨x,a,q⟩:=nN (Γ:=Γ) (u:=f) (many:=many) (base:=base) (way:=3) (size:=size) (first:=first) (acc:=acc) (o8:=o8) (w:=w) (s:=1+n) c d ⋯ ⋯;exact⟨f,x,_,_,c6 (aV (ae rfl) aj trivial (cq rfl)) (av (bC aj j trivial bV) aE aw) q,l,a⟩
 ·obtain⟨x,a,q⟩:=nN (Γ:=Γ) (u:=u) (many:=many) (base:=base) (way:=way) (size:=size) (first:=first) (acc:=acc) (o8:=o8) (w:=w) (s:=s) c d s0 s1;exact⟨u,x,_,_,bu (aV (ae rfl) aj trivial (cq (by simp[h]))) aw q,b.up ⋯,a⟩
theorem nP(a:bx Γ){k:Nat}(b:Src T u)(d:T+1<2 ^ 62)(e:acc.length<1000)(f:w.length<=9)(s0:1<=s)(s1:s<=99)(o:base.length=8)(g:1<=size)(p:size<=8)(r:0<=first)(t:first<26)(hk:k<1000):
  ∃u' x o9 o10,Run (execs Γ Ad) (jf u many base way size first acc (a5 (.loc,.int (0+(k:Int)))) (a5 (.loc,.str w)) (a5 (.loc,.int s))) .nx (jf u' many base way size first (acc++[x]) (a5 (.loc,.int (0+(k:Int)))) o9 o10)/\Src (T+1) u'/\x.length<=20:=by
 have i:(1000:Nat)<=cL:=by decide
 by_cases h:1<way
 ·have j:0<=(first+7 * (0+(k:Int))) % 26:=Q9 _ ⋯;have l:(first+7 * (0+(k:Int))) % 26<26:=Sb _ ⋯;obtain⟨c,m⟩:=rf j l;have v:=len_list base;have y:(PySem.StrLaws.sliceText base (a5 1) (a5 size)).length<=8:=by
   rw[PySem.StrLaws.sliceText_plain ⟨⋯,g,⋯⟩,len_list];simp;lia
  have z:(JB.one c).length=1:=rfl;have n:(JB.one c++PySem.StrLaws.sliceText base (a5 1) (a5 size)).length<=9:=by rw[len_list,app_list,hV,<-len_list,<-len_list];lia
  obtain⟨u',x,o9,o10,q,hs⟩:=nO (Γ:=Γ) a (u:=u) (many:=many) (base:=base) (way:=way) (size:=size) (first:=first) (acc:=acc) (o8:=a5 (.loc,.int (0+(k:Int)))) (w:=JB.one c++PySem.StrLaws.sliceText base (a5 1) (a5 size)) (s:=1) b d e n ⋯ ⋯;refine⟨u',x,o9,o10,c6 (aV (ae rfl) aj trivial (fU (by simp[h]))) (av (bC (aN (ae rfl) (bC (bC (ae rfl) (bC aj (ae rfl) trivial (kb ⋯)) trivial bV) aj trivial (dZ ⋯)) trivial (oh qM m)) (lu (ae rfl) (jy aj) (jy (ae rfl)) trivial (j4 ⋯)) trivial (pd ⋯)) aE (av aj aE aw)) q,hs⟩
 ·obtain⟨u',x,o9,o10,q,hs⟩:=nO (Γ:=Γ) a (u:=u) (many:=many) (base:=base) (way:=way) (size:=size) (first:=first) (acc:=acc) (o8:=a5 (.loc,.int (0+(k:Int)))) (w:=w) (s:=s) b d e f s0 s1;exact⟨u',x,o9,o10,bu (aV (ae rfl) aj trivial (fU (by simp[h]))) aw q,hs⟩
theorem Af(a:0<=j)(b:x.length=8):(PySem.StrLaws.sliceText x b6 (a5 j)).length<=9:=by
 obtain⟨j,rfl⟩:=wh a;have h:=len_list (PySem.StrLaws.sliceText x b6 (a5 (j:Int)));have hl:=len_list x;rw[FU]at h;rw[h,x4];lia
theorem xu(b:bx Γ){k:Nat}(c:Src T u)(d:T+1<2 ^ 62)(e:acc.length<1000)(a:base.length=8)(f:1<=size)(g:size<=8)(i:0<=first)(j:first<26)(hk:k<98):
  ∃u' x l m,Run (execs Γ tK) (jf u many base way size first acc (a5 (.loc,.int (0+(k:Int)))) o9 o10) .nx (jf u' many base way size first (acc++[x]) (a5 (.loc,.int (0+(k:Int)))) l m)/\Src (T+1) u'/\x.length<=20:=by
 have n:(1000:Nat)<=cL:=by decide
 have o:0<=(0+(k:Int)) % 8:=Q9 _ ⋯;by_cases h:way=1
 ·obtain⟨u',x,o9,o10,q,hs⟩:=nP (Γ:=Γ) b (u:=u) (many:=many) (base:=base) (way:=way) (size:=size) (first:=first) (acc:=acc) (k:=k) (w:=PySem.StrLaws.sliceText base b6 (a5 size)) (s:=1+(0+(k:Int))) c d e (Af ⋯ a) ⋯ ⋯ a f g i j ⋯;exact⟨u',x,o9,o10,av (lu (ae rfl) nq (jy (bC aj (bC (ae rfl) aj trivial (dZ ⋯)) trivial bV)) trivial (j4 ⋯)) aE (av (bC aj (bC (ae rfl) aj trivial (lA ⋯)) trivial bV) aE (c6 (aV (ae rfl) aj trivial (cq (by simp[h]))) (av (lu (ae rfl) nq (jy (ae rfl)) trivial (j4 ⋯)) aE (av (bC aj (ae rfl) trivial bV) aE aw)) q)),hs⟩
 ·obtain⟨u',x,o9,o10,q,hs⟩:=nP (Γ:=Γ) b (u:=u) (many:=many) (base:=base) (way:=way) (size:=size) (first:=first) (acc:=acc) (k:=k) (w:=PySem.StrLaws.sliceText base b6 (a5 (1+(0+(k:Int)) % 8))) (s:=1+(0+(k:Int)) / 8) c d e (Af ⋯ a) ⋯ ⋯ a f g i j ⋯;exact⟨u',x,o9,o10,av (lu (ae rfl) nq (jy (bC aj (bC (ae rfl) aj trivial (dZ ⋯)) trivial bV)) trivial (j4 ⋯)) aE (av (bC aj (bC (ae rfl) aj trivial (lA ⋯)) trivial bV) aE (bu (aV (ae rfl) aj trivial (cq (by simp[h]))) aw q)),hs⟩
theorem IX(a:0<=n)(b:n<3):∃m:Int,8<=m/\m<=24/\J7 [U.int 8,.int 16,.int 24] n=a5 (.int m):=by
 obtain⟨k,rfl⟩:=wh a;have:k=0\/k=1\/k=2:=by lia
 rcases this with rfl|rfl|rfl
 ·exact⟨8,⋯,⋯,rfl⟩
 ·exact⟨16,⋯,⋯,rfl⟩
 ·exact⟨24,⋯,⋯,rfl⟩
theorem xv(a:bx Γ)(l:Src T u)(hT:T+100<2 ^ 62):
  ∃(ws:List Str) (u':U),gk Γ lI [0] Ae [u]=a5 (.ok (.own,.tup [.lst (ws.map .str),u']))/\1<=ws.length/\ws.length<=24/\Src (T+100) u'/\∀x∈ws,x.length<=20:=by
 have A:(1000:Nat)<=cL:=by decide
 let S1:U->az:=λv=>[a5 (.io,v),a5 (.loc,.str small),b6,b6,b6,b6,b6,b6,b6,b6,b6]
 obtain⟨i,B,C,D,G,s1⟩:=c8 (st:=S1 u) a (i:=0) (k:=.io) (e:=.cst (.int 3)) (m:=3) rfl rfl aj l ⋯ ⋯ ⋯;obtain⟨m,m0,m1,em⟩:=IX D G;obtain⟨n,u2,H,n0,n1,s2⟩:=zS (st:=S1 u) (st1:=S1 B) a (i:=0) (k:=.io) (k0:=.io) (e:=.idx (.lst [.cst (.int 8),.cst (.int 16),.cst (.int 24)]) (.Jb "_law_draw" [.var 0,.cst (.int 3)] [0])) (m:=m) rfl rfl (aN (x:=(.own,.lst [U.int 8,.int 16,.int 24])) (bT (af aj (af aj (af aj ai))) trivial (aA aI (aA aI (aA aI aF))) (by show 3<=cL;lia)) C trivial (cJ em)) rfl rfl s1 ⋯ ⋯ ⋯;obtain⟨base,b,I,J,s3⟩:=Aa (rest:=[a5 (.loc,.int (1+n)),b6,b6,b6,b6,b6,b6,b6,b6]) a s2 ⋯;obtain⟨way,g,L,_,_,s4⟩:=c8 (st:=[a5 (.io,b),a5 (.loc,.str small),a5 (.loc,.int (1+n)),a5 (.loc,.str base),b6,b6,b6,b6,b6,b6,b6]) a (i:=0) (k:=.io) (e:=.cst (.int 4)) (m:=4) rfl rfl aj s3 ⋯ ⋯ ⋯;obtain⟨size,N,O,z0,z1,Q⟩:=c8 (st:=[a5 (.io,g),a5 (.loc,.str small),a5 (.loc,.int (1+n)),a5 (.loc,.str base),a5 (.loc,.int way),b6,b6,b6,b6,b6,b6]) a (i:=0) (k:=.io) (e:=.cst (.int 8)) (m:=8) rfl rfl aj s4 ⋯ ⋯ ⋯;obtain⟨first,o,Y,f0,f1,s6⟩:=c8 (st:=[a5 (.io,N),a5 (.loc,.str small),a5 (.loc,.int (1+n)),a5 (.loc,.str base),a5 (.loc,.int way),a5 (.loc,.int (1+size)),b6,b6,b6,b6,b6]) a (i:=0) (k:=.io) (e:=.cst (.int 26)) (m:=26) rfl rfl aj Q ⋯ ⋯ ⋯;obtain⟨many,QN⟩:=wh (show 0<=1+n by lia);obtain⟨st',hf,p,ws,o8,o9,o10,rfl,s,l7,b7,_⟩:=cM (rs:=[(.loc,.int (1+n))]) (t:=cc) (is:=[8]) (body:=execs Γ tK) (λi:Nat=>(Kd.loc,U.int (0+(i:Int)))) (λd r st=>∃(b:U) (ws:List Str) (o8 o9 o10:Option (Kd×U)),st=jf b (1+n) base way (1+size) first ws o8 o9 o10/\Src (T+13+(d.length:Nat)) b/\ws.length=d.length/\(∀x∈ws,x.length<=20)/\∃j,d=İ 0 j/\r=İ j (many - j)/\j<=many)
  (λd r st _=>trivial) (λd y r st h=>by
   obtain⟨b,ws,o8,o9,o10,rfl,s3,w,b3,j,rfl,c,hj⟩:=h;have Z_:j<many:=by
    rcases Nat.lt_or_ge j many with z|z
    ·exact z
    ·rw[show many - j=0 by lia]at c;cases c
   rw[show many - j=(many - (j+1))+1 by lia,List.range'_succ]at c;cases c;rw[List.length_range']at s3 w;obtain⟨g,x,Ky,QM,q,s4,hx⟩:=xu (Γ:=Γ) a (u:=b) (many:=1+n) (base:=base) (way:=way) (size:=1+size) (first:=first) (acc:=ws) (k:=y) (o9:=o9) (o10:=o10) s3 ⋯ ⋯ J ⋯ ⋯ f0 f1 ⋯;refine⟨jf b (1+n) base way (1+size) first ws (a5 (.loc,.int (0+(y:Int)))) o9 o10,_,aE,q,g,ws++[x],_,_,_,rfl,s4.up (by simp;lia),by simp[w],λz hz=>(kj.mp hz).elim (b3 z) λhz=>by rw[i7.mp hz];exact hx,y+1,by have:=@List.range'_1_concat 0 y;simpa using this.symm,rfl,⋯⟩) (i0 many) [] (jf o (1+n) base way (1+size) first [] b6 b6 b6) ⟨o,[],b6,b6,b6,rfl,s6.up (by simp;lia),by simp,λ_ h=>(nomatch h),0,rfl,by rw[List.range_eq_range'];simp,⋯⟩
 rw[mf,vr]at s l7;refine⟨ws,p,?_,⋯,⋯,s.up ⋯,b7⟩;refine cp (st0:=[a5 (.io,u),b6,b6,b6,b6,b6,b6,b6,b6,b6,b6]) (f:=.rt .own (.lst (ws.map .str))) (st:=(jf p (1+n) base way (1+size) first ws o8 o9 o10).set 7 b6) rfl ?_ ?_ rfl rfl
 ·obtain⟨_,_,_,rfl,_⟩:=l;rfl
 refine av (st2:=S1 u) aj aE (av (bC aj H trivial bV) aE (av I aE (av L aE (av (bC aj O trivial bV) aE (av Y aE (av (bT ai trivial aF (ki _)) bh ?_))))));refine c7 (rs:=[(.loc,.int (1+n))]) (xs:=(i0 many).map λi:Nat=>(Kd.loc,U.int (0+(i:Int)))) (af (ae rfl) ai) trivial (by rw[QN];exact jb ⋯) rfl hf (bO (aB rfl) (iB rfl))
def pw(Γ:Tab):Prop:=∀(T:Int) (u:U),Src T u->T+100<2 ^ 62->∃(ws:List Str) (u':U),Γ "_law_words" [u]=a5 (.ok (.own,.tup [.lst (ws.map .str),u']))/\1<=ws.length/\ws.length<=24/\Src (T+100) u'/\∀x∈ws,x.length<=20
theorem CQ(a:bx (Jl Pg d))(h:JT Pg "_law_words" lI):pw (Jl Pg (d+1)):=by
 intro T u b c;obtain⟨ws,u',e,r⟩:=xv a b c;exact⟨ws,u',by rw[cQ h _ rfl];exact e,r⟩
noncomputable def dQ(ks:List Str)(x:Str):List Str:=if x∈ks then ks else ks++[x]
theorem Ag:dput ks (ks.map f) x u=(dQ ks x,(dQ ks x).map λk=>if k=x then u else f k):=by
 unfold dput dQ;by_cases h:x∈ks
 ·rw[Ő h,Ő h];congr 1
  clear h;induction ks with
  |nil=>rfl
  |cons k ks a=>rw[d6,OU,d6,d6,a]
 ·rw[ő h,ő h];congr 1
  rw[js,R0,Ő rfl];congr 1
  refine td λk hk=>?_;rw[ő (λe:k=x=>h (e▸hk))]
theorem tL(h:ks.Nodup):(dQ ks x).Nodup:=by
 unfold dQ;split
 ·exact h
 ·rename_i d;exact rr.mpr ⟨h,by simp,λa f c b=>by rw[i7]at b;subst b;exact λe=>d (e▸f)⟩
theorem eN:y∈dQ ks x↔y∈ks\/y=x:=by
 unfold dQ;split
 ·rename_i h;exact⟨.inl,λz=>z.elim id λe=>e▸h⟩
 ·simp
theorem pz(h:ks.length<1000):dC (.str x) u (.I_ ks (ks.map f))=a5 (.I_ (dQ ks x) ((dQ ks x).map λk=>if k=x then u else f k)):=by
 rw[vp h,Ag]
theorem dr(h:x∈ks):cv ks (ks.map f) x=a5 (f x):=by
 induction ks with
 |nil=>cases h
 |cons k ks a =>
  rw[d6];unfold cv;by_cases e:k=x
  ·rw[Ő e,e]
  ·rw[ő e];exact a ((et.mp h).resolve_left λz=>e z.symm)
noncomputable def DC:List S:=[.put 1 (.var 4) (.cst (.bl b8))]
noncomputable def Ah:List S:=[.put 1 (.var 2) (.cst (.bl b8)),.Jv cc [4] .seq [.var 3] DC]
noncomputable def F_:Fn:=⟨"_law_all",1,5,[.set 1 (.KN cc),.Jv b8 [2,3] .seq [.var 0] Ah,.ret (.bi .sorted [.var 1])]⟩
noncomputable def CS(ks:List Str):U:=.I_ ks (ks.map λ_=>.bl b8)
theorem vA(h:ks.length<1000):dC (.str x) (.bl b8) (CS ks)=a5 (CS (dQ ks x)):=by
 unfold CS;rw[pz h];congr 3
 funext k
 split<;>rfl
def jO(ws ks:List Str):Prop:=ks.Nodup/\∀x∈ks,x∈ws
theorem jO.ins(h:jO ws ks)(a:x∈ws):jO ws (dQ ks x):=⟨tL h.1,λy b=>(eN.mp b).elim (h.2 y) λe=>e▸a⟩
theorem jO.len(h:jO ws ks):ks.length<=ws.length:=lB h.1 h.2
noncomputable def pA(rs:List Row)(ks:List Str)(o2 a o4:Option (Kd×U)):az:=[a5 (.loc,.tup (rs.map A')),a5 (.own,CS ks),o2,a,o4]
theorem CT(m:ws.length<1000)(hk:jO ws ks)(c:ba ws r):
  ∃a b,Run (execs Γ Ah) (pA rs ks (a5 (.loc,.str r.1)) (a5 (.loc,.tup (r.2.map .str))) o4) .nx (pA rs a (a5 (.loc,.str r.1)) (a5 (.loc,.tup (r.2.map .str))) b)/\jO ws a:=by
 have n:=hk.len;obtain⟨st',i,a,b,rfl,j,_⟩:=cM (rs:=[(.loc,.tup (r.2.map .str))]) (t:=cc) (is:=[4]) (body:=execs Γ DC) (λx:Str=>(Kd.loc,U.str x)) (λd q st=>∃a b,st=pA rs a (a5 (.loc,.str r.1)) (a5 (.loc,.tup (r.2.map .str))) b/\jO ws a/\∀x∈q,x∈ws)
  (λ_ _ _ _=>trivial) (λd y q st h=>by
   obtain⟨e,b,rfl,f,g⟩:=h;have o:=f.len;exact⟨pA rs e (a5 (.loc,.str r.1)) (a5 (.loc,.tup (r.2.map .str))) (a5 (.loc,.str y)),_,aE,iD (k:=.own) (k':=.own) aj rfl (ae rfl) (aA aI (aA aI aF)) rfl rfl (vA ⋯) aw,dQ e y,_,rfl,f.ins (g y (by simp)),λx l=>g x (by simp[l])⟩) r.2 [] (pA rs (dQ ks r.1) (a5 (.loc,.str r.1)) (a5 (.loc,.tup (r.2.map .str))) o4) ⟨_,_,rfl,hk.ins c.1,c.2.2.1⟩
 refine⟨a,b,?_,j⟩;exact iD (k:=.own) (k':=.own) aj rfl (ae rfl) (aA aI (aA aI aF)) rfl rfl (vA ⋯) (c7 (rs:=[(.loc,.tup (r.2.map .str))]) (af (ae rfl) ai) trivial (by show a5 ((r.2.map U.str).map λu=>(kE .loc,u))=_;rw[i5];rfl) rfl i aw)
theorem pB{rs:List Row}:K7 .seq [(k,.tup (rs.map A'))]=a5 (rs.map λr=>(kE k,A' r)):=by
 show a5 ((rs.map A').map λu=>(kE k,u))=_;rw[i5];rfl
def Ai(Γ:Tab):Prop:=∀(ws:List Str) (rs:List Row),ws.length<=24->(∀r∈rs,ba ws r)->∃ts,Γ "_law_all" [.tup (rs.map A')]=a5 (.ok (.own,.lst (ts.map .str)))/\jO ws ts
theorem CU{rs:List Row}(m:ws.length<=24)(a:∀r∈rs,ba ws r):∃ts,cw Γ F_ [.tup (rs.map A')]=a5 (.ok (.own,.lst (ts.map .str)))/\jO ws ts:=by
 obtain⟨st',e,ks,o2,b,o4,rfl,hk,_⟩:=cM (rs:=[(.loc,.tup (rs.map A'))]) (t:=b8) (is:=[2,3]) (body:=execs Γ Ah) (λr:Row=>(Kd.loc,A' r)) (λd q st=>∃ks o2 b o4,st=pA rs ks o2 b o4/\jO ws ks/\∀r∈q,ba ws r)
  (λ_ _ _ _=>trivial) (λd y q st h=>by
   obtain⟨f,o2,b,o4,rfl,g,c⟩:=h;obtain⟨i,n,j,k⟩:=CT (Γ:=Γ) (rs:=rs) (o4:=o4) ⋯ g (c y (by simp));exact⟨pA rs f (a5 (.loc,.str y.1)) (a5 (.loc,.tup (y.2.map .str))) o4,_,jA (.inl rfl),j,i,_,_,_,rfl,k,λr a=>c r (by simp[a])⟩) rs [] (pA rs [] b6 b6 b6) ⟨[],b6,b6,b6,rfl,⟨by simp,by simp⟩,a⟩
 have hl:=hk.len;refine⟨aR ks,?_,⟨(bJ _).nodup_iff.mpr hk.1,λx l=>hk.2 x ((bJ _).mem_iff.mp l)⟩⟩;refine bw (st0:=[a5 (.loc,.tup (rs.map A')),b6,b6,b6,b6]) rfl (.inl rfl) ?_ (av (st2:=pA rs [] b6 b6 b6) lx bh (c7 (rs:=[(.loc,.tup (rs.map A'))]) (af (ae rfl) ai) trivial pB rfl e (bO (bW (af (aB rfl) ai) ∅ ?_) gD)))
 ·show [a5 (if Js (.tup (rs.map A'))=b8 then Kd.loc else Kd.any,U.tup (rs.map A')),b6,b6,b6,b6]=_;rw[Ő (by show bR (rs.map A')=b8;exact aO rs)]
 ·show(if ks.length<64 then a5 (Kd.own,U.lst ((aR ks).map .str)) else b6)=_;rw[Ő ⋯]
theorem HR(h:JT Pg "_law_all" F_):Ai (Jl Pg (d+1)):=λws rs a b=>by
 obtain⟨ts,e,k⟩:=CU (Γ:=Jl Pg d) a b;exact⟨ts,by rw[aJ h];exact e,k⟩
noncomputable def Aj:List S :=
   [.set 7 (.LJ 4 (.Jb "_law_draw" [.var 0,.bi .len [.var 4]] [0])),
   .ite (.and [.cmp .Jo (.var 7) (.var 3),.cmp .eq (.Jb "_law_draw" [.var 0,.var 2] [0]) (.cst (.int 0))])
    [.app 5 (.tup [.var 7,.tup []])]
    []]
noncomputable def HS:List S :=
   [.ite (.cmp .ne (.Jb "_law_draw" [.var 0,.cst (.int 8)] [0]) (.cst (.int 1)))
      [.ret (.var 1)]
      [],
    .set 2 (.bin .add (.cst (.int 1)) (.Jb "_law_draw" [.var 0,.cst (.int 2)] [0])),
    .set 3 (.comp 1 cc .seq [.var 1] [.cmp .eq (.idx (.var 0) (.cst (.int 1))) (.tup [])] (.idx (.var 0) (.cst (.int 0)))),
    .set 4 (.call "_law_all" [.var 1]),
    .set 5 (.lst []),
    .Jv cc [6] .Kv [.bi .len [.var 4]] Aj,
    .ret (.bin .add (.var 1) (.bi .tuple [(.var 5)]))]
noncomputable def CV:Fn:=⟨"_law_widened",2,8,.Mn [0]::HS⟩
theorem tM(h:(!(i==j))=c):cm .ne (.int i) (.int j)=a5 c:=by subst h;rfl
noncomputable def jP(u:U)(rs:List Row)(share:Int)(hs ts:List Str)(more:List Row)(o6 o7:Option (Kd×U)):az:=[a5 (.io,u),a5 (.loc,.tup (rs.map A')),a5 (.loc,.int share),a5 (.own,.lst (hs.map .str)),a5 (.own,.lst (ts.map .str)),a5 (.own,.lst (more.map A')),o6,o7]
theorem Ak(o:bx Γ)(A:Src T u)(N:T+2<2 ^ 62)(B:0<share)(O:share<=2)(Q:0<ts.length)(Y:ts.length<=24)(p:∀x∈ts,x∈ws)(h:∀r∈more,ba ws r)(Xt:more.length<1000):
  ∃u' a j C,Run (execs Γ Aj) (jP u rs share hs ts more o6 o7) .nx (jP u' rs share hs a j o6 C)/\Src (T+2) u'/\a.length+1=ts.length/\(∀x∈a,x∈ws)/\(∀r∈j,ba ws r)/\j.length<=more.length+1:=by
 have D:(1000:Nat)<=cL:=by decide
 obtain⟨n,b,G,H,I,s1⟩:=c8 (st:=jP u rs share hs ts more o6 o7) o (i:=0) (k:=.io) (e:=.bi .len [.var 4]) (m:=((ts.map U.str).length:Nat)) rfl rfl (bW (af (aB rfl) ai) ∅ cj) A ⋯ (by simp;lia) (by simp;lia);rw[c4]at I;have l:n.toNat<ts.length:=by lia
 have q:(ts.map U.str)[n.toNat]?=a5 (.str ts[n.toNat]):=by simp[l]
 have s:ts[n.toNat]∈ws:=p _ (MY l);generalize ts[n.toNat]=x at q s;have J:(ts.map U.str).eraseIdx n.toNat=(ts.eraseIdx n.toNat).map U.str:=by
  rw[Qh,Qh,js,ċ,Č]
 have hl:(ts.eraseIdx n.toNat).length+1=ts.length:=by rw[List.length_eraseIdx_of_lt l];lia
 have f:∀y∈ts.eraseIdx n.toNat,y∈ws:=λy L=>p y (List.mem_of_mem_eraseIdx L);have g:Run (ev Γ (.LJ 4 (.Jb "_law_draw" [.var 0,.bi .len [.var 4]] [0]))) (jP u rs share hs ts more o6 o7) (.loc,.str x) (jP b rs share hs (ts.eraseIdx n.toNat) more o6 o7):=by
  have:=FT (i:=4) (k0:=.own) (k:=.own) (us0:=ts.map U.str) (us:=ts.map U.str) rfl (by intro z;cases z) G rfl rfl H ⋯ q;rw[J]at this;exact this
 generalize ts.eraseIdx n.toNat=a at g hl f;have d:Run (Jt Γ (.cmp .Jo (.var 7) (.var 3))) (jP b rs share hs a more o6 (a5 (.loc,.str x))) (dt (x∉hs)) (jP b rs share hs a more o6 (a5 (.loc,.str x))):=aV (ae rfl) (aB rfl) ∅ iC;by_cases t:x∈hs
 ·rw[Œ (by simp[t])]at d;exact⟨b,a,more,_,av g aE (bu (jz (sW d)) aw aw),s1.up ⋯,hl,f,h,⋯⟩
 ·rw[œ t]at d;obtain⟨m,v,w,m0,m1,s2⟩:=c8 (st:=jP b rs share hs a more o6 (a5 (.loc,.str x))) o (i:=0) (k:=.io) (e:=.var 2) (m:=share) rfl rfl (ae rfl) s1 ⋯ B ⋯;by_cases hz:m=0
  ·refine⟨v,a,more++[(x,[])],a5 (.loc,.str x),av g aE (c6 (jz (ly d (fc (aV w aj trivial (cq (c:=b8) (by simp[hz])))))) (fm (k:=.own) (k':=.own) rfl (fQ (af (ae rfl) (af (fQ ai trivial aF (ki _)) ai)) trivial (aA aI (aA aI aF)) (by show 2<=cL;lia)) aI rfl rfl (by simp;lia) aw) ?_),s2.up ⋯,hl,f,?_,by simp⟩
   ·rw[show more.map A'++[U.tup [.str x,.tup []]]=(more++[(x,[])]).map A' by simp[A']];exact aw
   ·intro r hr;rcases kj.mp hr with hr|hr
    ·exact h r hr
    ·rw[i7]at hr;subst hr;exact⟨s,by simp,by simp,by simp⟩
  ·exact⟨v,a,more,_,av g aE (bu (jz (ly d (fc (aV w aj trivial (cq (c:=cc) (by simp[hz])))))) aw aw),s2.up ⋯,hl,f,h,⋯⟩
theorem Al{rs:List Row}(hl:rs.length<=1000)(h:st[i]?=a5 (a5 (.loc,.tup (rs.map A')))):Run (ev Γ (.comp 1 cc .seq [.var i] [.cmp .eq (.idx (.var 0) (.cst (.int 1))) (.tup [])] (.idx (.var 0) (.cst (.int 0))))) st (.own,.lst (((rs.filter λr=>dt (r.2=[])).map (·.1)).map .str)) st:=by
 have b:(1000:Nat)<=cL:=by decide
 have c:∀y:Row,fJ (.loc,A' y) (.int 0)=a5 (.loc,.str y.1):=λy=>rfl;have d:∀y:Row,fJ (.loc,A' y) (.int 1)=a5 (.loc,.tup (y.2.map .str)):=λy=>rfl;have a:=s9 (cond:=bb Γ [.cmp .eq (.idx (.var 0) (.cst (.int 1))) (.tup [])]) (elt:=ev Γ (.idx (.var 0) (.cst (.int 0)))) (src:=[(.loc,.tup (rs.map A'))]) (st:=st) trivial .loc (.inl rfl) A' (λr:Row=>.str r.1) (λr=>dt (r.2=[])) .loc rs [] (by simp;lia)
  (λr _=>⟨fc (aV (aN (ae rfl) aj trivial (d r)) (fQ ai trivial aF (ki _)) trivial CL),λ_=>⟨aN (ae rfl) aj trivial (c r),aI⟩⟩)
 rw[mf]at a;rw[i5];exact dO (rs:=[(.loc,.tup (rs.map A'))]) (af (ae h) ai) trivial pB a
def Am(Γ:Tab):Prop:=∀(T:Int) (u:U) (ws:List Str) (rs:List Row),Src T u->T+60<2 ^ 62->ws.length<=24->(∀r∈rs,ba ws r)->rs.length<=60->∃(a:List Row) (u':U),Γ "_law_widened" [u,.tup (rs.map A')]=a5 (.ok (.loc,.tup [.tup (a.map A'),u']))/\(∀r∈a,ba ws r)/\a.length<=84/\Src (T+60) u'
theorem CW(g:bx Γ)(J:Ai Γ){rs:List Row}(z:Src T u)(hT:T+60<2 ^ 62)(L:ws.length<=24)(j:∀r∈rs,ba ws r)(hl:rs.length<=60):
  ∃(l:List Row) (u':U),gk Γ CV [0] HS [u,.tup (rs.map A')]=a5 (.ok (.loc,.tup [.tup (l.map A'),u']))/\(∀r∈l,ba ws r)/\l.length<=84/\Src (T+60) u':=by
 have N:(1000:Nat)<=cL:=by decide
 let c:U->az:=λv=>[a5 (.io,v),a5 (.loc,.tup (rs.map A')),b6,b6,b6,b6,b6,b6]
 have A:cW [0] [u,.tup (rs.map A')] CV.ns=c u:=by
  obtain⟨_,_,_,rfl,_⟩:=z;show [a5 (Kd.io,_),a5 (if Js (.tup (rs.map A'))=b8 then Kd.loc else Kd.any,U.tup (rs.map A')),b6,b6,b6,b6,b6,b6]=_;rw[Ő (by show bR (rs.map A')=b8;exact aO rs)]
 obtain⟨n,o,B,n0,n1,s1⟩:=c8 (st:=c u) g (i:=0) (k:=.io) (e:=.cst (.int 8)) (m:=8) rfl rfl aj z ⋯ ⋯ ⋯;by_cases C:n=1
 ·obtain⟨p,s,O,p0,p1,s2⟩:=c8 (st:=c o) g (i:=0) (k:=.io) (e:=.cst (.int 2)) (m:=2) rfl rfl aj s1 ⋯ ⋯ ⋯;obtain⟨ts,Q,D⟩:=J ws rs L j;have Ze:=D.len;generalize Y:((rs.filter λr=>dt (r.2=[])).map (·.1))=hs;have G:=Al (Γ:=Γ) (st:=[a5 (.io,s),a5 (.loc,.tup (rs.map A')),a5 (.loc,.int (1+p)),b6,b6,b6,b6,b6]) (rs:=rs) (i:=1) ⋯ rfl;rw[Y]at G;obtain⟨st',hf,a,b,more,o6,o7,rfl,s3,H,m3,I,w,_⟩:=cM (rs:=[(.loc,.int (ts.length:Nat))]) (t:=cc) (is:=[6]) (body:=execs Γ Aj) (λi:Nat=>(Kd.loc,U.int (0+(i:Int)))) (λd r st=>∃(a:U) (b:List Str) (more:List Row) (o6 o7:Option (Kd×U)),st=jP a rs (1+p) hs b more o6 o7/\Src (T+2+2 * (d.length:Nat)) a/\b.length=r.length/\more.length<=d.length/\(∀x∈b,x∈ws)/\(∀r∈more,ba ws r)/\d.length+r.length=ts.length)
   (λd r st _=>trivial) (λd y r st h=>by
    obtain⟨a,b,more,o6,o7,rfl,s3,H,m3,I,w,t3⟩:=h;simp only[ke]at H t3;obtain⟨u4,Zg,QP,Kp,q,s4,l4,i4,g4,m4⟩:=Ak (Γ:=Γ) g (u:=a) (share:=1+p) (rs:=rs) (more:=more) (ws:=ws) (hs:=hs) (ts:=b) (o6:=a5 (.loc,.int (0+(y:Int)))) (o7:=o7) s3 ⋯ ⋯ ⋯ ⋯ ⋯ I w ⋯;refine⟨jP a rs (1+p) hs b more (a5 (.loc,.int (0+(y:Int)))) o7,_,aE,q,u4,Zg,QP,_,_,rfl,s4.up (by simp;lia),⋯,by simp;lia,i4,g4,by simp;lia⟩) (i0 ts.length) [] (jP s rs (1+p) hs ts [] b6 b6) ⟨s,ts,[],b6,b6,rfl,s2.up (by simp;lia),by simp,by simp,D.2,by simp,by simp⟩
  rw[mf,vr]at m3 s3;refine⟨rs++more,a,?_,?_,by simp;lia,s3.up ⋯⟩
  ·refine cp (f:=.rt .loc (.tup ((rs++more).map A'))) (st:=jP a rs (1+p) hs b more o6 o7) rfl A ?_ rfl rfl;refine bu (aV B aj trivial (tM (by simp[C]))) aw (av (bC aj O trivial bV) aE (av G bh (av (bE (af (ae rfl) ai) trivial Q) bh (av (bT ai trivial aF (ki _)) bh ?_))));refine c7 (rs:=[(.loc,.int (ts.length:Nat))]) (af (bW (af (aB rfl) ai) ∅ (by rw[cj,c4])) ai) trivial (jb ⋯) rfl hf (bO (bC (ae rfl) (bW (af (aB rfl) ai) ∅ rfl) trivial ?_) fT);show(if (rs.map A').length+(more.map A').length<=cL then a5 (kT .loc .loc,U.tup (rs.map A'++more.map A')) else b6)=_;rw[Ő (by simp;lia),js];rfl
  ·intro r hm;rcases kj.mp hm with hm|hm
   ·exact j r hm
   ·exact w r hm
 ·exact⟨rs,o,cp (f:=.rt .loc (.tup (rs.map A'))) (st:=c o) rfl A (lz (aV B aj trivial (tM (by simp[C]))) (bO (ae rfl) fT)) rfl rfl,j,⋯,s1.up ⋯⟩
theorem HU(a:bx (Jl Pg d))(b:Ai (Jl Pg d))(h:JT Pg "_law_widened" CV):Am (Jl Pg (d+1)):=by
 intro T u ws rs c f g i hl;obtain⟨j,u',e,r⟩:=CW a b c f g i hl;exact⟨j,u',by rw[cQ h _ rfl];exact e,r⟩
section
variable{α:Type}[DecidableEq α]{c:α->Int}
theorem gh:∀{ks:List α},x∈ks->(ks.map c).sum=c x+((ks.erase x).map c).sum
 |k::ks,h=>by
  by_cases e:k=x
  ·subst e;simp
  ·rw[List.erase_cons_tail (by simp[e]),d6,d6,NZ,NZ,gh ((et.mp h).resolve_left λz=>e z.symm)];lia
theorem pC:∀{ks:List α},(∀k∈ks,0<=c k)->0<=(ks.map c).sum
 |[],_=>by simp
 |k::ks,h=>by
  have b:=h k (by simp);have d:=pC (ks:=ks) λy a=>h y (by simp[a]);rw[d6,NZ];lia
theorem vB:∀{ts ks:List α},ts.Nodup->(∀x∈ts,x∈ks)->(∀k∈ks,0<=c k)->(ts.map c).sum<=(ks.map c).sum
 |[],ks,_,_,h=>by simpa using pC h
 |x::ts,ks,a,hs,h=>by
  rw[my]at a;have d:=vB (ts:=ts) (ks:=ks.erase x) a.2 (λy b=>(T5 (λe=>a.1 (by subst e;exact b))).mpr (hs y (by simp[b]))) λk hk=>h k (List.mem_of_mem_erase hk);rw[gh (hs x (by simp)),d6,NZ];lia
noncomputable def upd(c:α->Int)(x:α)(p:Int):α->Int:=λk=>if k=x then p else c k
theorem vC{ks:List α}(h:x∉ks):(ks.map (upd c x p)).sum=(ks.map c).sum:=by
 congr 1
 refine td λk hk=>?_;unfold upd;rw[ő (λe:k=x=>h (e▸hk))]
theorem CY{ks:List α}(a:ks.Nodup)(h:x∈ks):(ks.map (upd c x p)).sum+c x=(ks.map c).sum+p:=by
 rw[gh (c:=upd c x p) h,gh (c:=c) h,vC a.not_mem_erase];unfold upd;rw[Ő rfl];lia
end
abbrev J5:=List Str×(Str->Int)
noncomputable def JF(s:J5)(r:Row):Int:=1+(r.2.map s.2).sum
noncomputable def may(s:J5)(r:Row):Bool:=r.2.all λx=>dt (x∈s.1)
noncomputable def KY(s:J5)(r:Row):Bool:=!dt (r.1∈s.1)||decide (JF s r<s.2 r.1)
noncomputable def KZ(s:J5)(r:Row):J5:=if (may s r&&KY s r)=b8 then(dQ s.1 r.1,upd s.2 r.1 (JF s r)) else s
noncomputable def Kt:List Row->J5×Bool->J5×Bool
 |[],s=>s
 |r::rs,(s,b)=>Kt rs (KZ s r,b||(may s r&&KY s r))
noncomputable def lim(rs:List Row):Nat->J5->J5
 |0,s=>s
 |n+1,s=>if (Kt rs (s,cc)).2=b8 then lim rs n (Kt rs (s,cc)).1 else(Kt rs (s,cc)).1
def fV(ws:List Str)(s:J5):Prop:=jO ws s.1/\(∀k∈s.1,1<=s.2 k)/\(s.1.map s.2).sum<2 ^ s.1.length
noncomputable def mu(s:J5):Int:=(24 - (s.1.length:Nat)) * 2 ^ 24+(s.1.map s.2).sum
theorem rg(a:ws.length<=24)(h:fV ws s):0<=mu s:=by
 have b:=h.1.len;have d:=pC (c:=s.2) (ks:=s.1) λk hk=>by have:=h.2.1 k hk;lia
 unfold mu;lia
theorem pE(B:ws.length<=24)(h:fV ws s)(i:ba ws r):fV ws (KZ s r)/\mu (KZ s r)<=mu s/\((may s r&&KY s r)=b8->mu (KZ s r)<mu s):=by
 unfold KZ;split
 ·rename_i d;rw[cb]at d;obtain⟨t,j⟩:=d;obtain⟨hk,l,hs⟩:=h;have m:∀x∈r.2,x∈s.1:=λx a=>by have:=i8.mp t x a;simpa using this
  have n:∀k∈s.1,0<=s.2 k:=λk hk=>by have:=l k hk;lia
  have C:JF s r<=1+(s.1.map s.2).sum:=by
   have:=vB (c:=s.2) i.2.1 m n;unfold JF;lia
  have u:1<=JF s r:=by
   have:=pC (c:=s.2) (ks:=r.2) λk hk=>n k (m k hk);unfold JF;lia
  have b:=hk.ins i.1;have f:∀k∈dQ s.1 r.1,1<=upd s.2 r.1 (JF s r) k:=λk hk=>by
   unfold upd;split
   ·exact u
   ·rename_i v;exact l k ((eN.mp hk).resolve_right v)
  have o:=b.len;by_cases a:r.1∈s.1
  ·have e:dQ s.1 r.1=s.1:=by unfold dQ;rw[Ő a]
   have D:JF s r<s.2 r.1:=by
    unfold KY at j;simpa[a] using j
   have g:=CY (c:=s.2) (p:=JF s r) hk.1 a;rw[e]at b f ⊢;have G:(s.1.map (upd s.2 r.1 (JF s r))).sum<(s.1.map s.2).sum:=by lia
   refine⟨⟨b,f,by show(s.1.map (upd s.2 r.1 (JF s r))).sum<2 ^ s.1.length;lia⟩,?_,λ_=>?_⟩<;>(unfold mu;dsimp only;lia)
  ·have e:dQ s.1 r.1=s.1++[r.1]:=by unfold dQ;rw[ő a]
   have g:((s.1++[r.1]).map (upd s.2 r.1 (JF s r))).sum=(s.1.map s.2).sum+JF s r:=by
    rw[js,VO,vC a,R0,Z'];unfold upd;rw[Ő rfl]
   rw[e]at b f o ⊢;rw[hV,sx]at o;have w:(2:Int) ^ (s.1.length+1)=2 * 2 ^ s.1.length:=by rw[Int.pow_succ];lia
   have y:(2:Int) ^ s.1.length<=2 ^ 23:=by
    have A:(2:Nat) ^ s.1.length<=2 ^ 23:=Nat.pow_le_pow_right ⋯ ⋯;have q:=Int.ofNat_le.mpr A;rw[ý,ý]at q;exact q
   refine⟨⟨b,f,?_⟩,?_,λ_=>?_⟩
   ·show((s.1++[r.1]).map (upd s.2 r.1 (JF s r))).sum<2 ^ (s.1++[r.1]).length;rw[g,hV,sx,w];lia
   ·unfold mu
    dsimp only
    rw[g,hV,sx];lia
   ·unfold mu
    dsimp only
    rw[g,hV,sx];lia
 ·rename_i d;exact⟨h,UG _,λz=>absurd z d⟩
theorem iI(a:ws.length<=24):∀(rs:List Row) (s:J5) (b:Bool),(∀r∈rs,ba ws r)->fV ws s->fV ws (Kt rs (s,b)).1/\mu (Kt rs (s,b)).1<=mu s/\((Kt rs (s,b)).2=b8->b=b8\/mu (Kt rs (s,b)).1<mu s)
 |[],s,b,_,h=>⟨h,UG _,.inl⟩
 |r::rs,s,b,c,h=>by
  obtain⟨a1,d,a3⟩:=pE a h (c r (by simp));obtain⟨b1,e,b3⟩:=iI a rs (KZ s r) (b||(may s r&&KY s r)) (λy f=>c y (by simp[f])) a1;refine⟨b1,TB e d,λz=>?_⟩;rcases b3 z with z|z
  ·rw[Lj]at z;rcases z with z|z
   ·exact .inl z
   ·exact .inr (Int.lt_of_le_of_lt e (a3 z))
  ·exact .inr (Int.lt_of_lt_of_le z d)
theorem j5(a:ws.length<=24)(b:∀r∈rs,ba ws r):∀(n:Nat) (s:J5),fV ws s->fV ws (lim rs n s)
 |0,s,h=>h
 |n+1,s,h=>by
  unfold lim;have:=(iI a rs s cc b h).1;split
  ·exact j5 a b n _ this
  ·exact this
noncomputable def tN : List S :=
        [.ite (.bi .all [.comp 1 cc .seq [.var 4] [] (.cmp .isin (.var 0) (.var 2))])
          [.set 5 (.bin .add (.cst (.int 1)) (.bi .sum [.comp 1 cc .seq [.var 4] [] (.idx (.var 2) (.var 0))])),
          .ite (.or [.cmp .Jo (.var 3) (.var 1),.cmp .lt (.var 5) (.idx (.var 1) (.var 3))])
            [.put 1 (.var 3) (.var 5),
            .set 2 (.cst (.bl true))]
            []]
          []]
noncomputable def tP:List S :=
   [.set 2 (.cst (.bl cc)),
   .Jv b8 [3,4] .seq [(.var 0)] tN]
noncomputable def tQ:Fn:=⟨"_law_costs",1,6,[.set 1 (.KN cc),.set 2 (.cst (.bl b8)),.MW (.var 2) tP,.ret (.var 1)]⟩
noncomputable def cD(s:J5):U:=.I_ s.1 (s.1.map λk=>.int (s.2 k))
noncomputable def gU(rs:List Row)(s:J5)(b:Bool)(a o4 o5:Option (Kd×U)):az:=[a5 (.loc,.tup (rs.map A')),a5 (.own,cD s),a5 (.loc,.bl b),a,o4,o5]
theorem vD{ss:List Str}:K7 .seq [(k,.tup (ss.map .str))]=a5 (ss.map λx=>(kE k,U.str x)):=by
 show a5 ((ss.map U.str).map λu=>(kE k,u))=_;rw[i5];rfl
theorem vE(f:α->Int):∀(ns:List α),intsOf (ns.map λa=>U.int (f a))=a5 (ns.map f)
 |[]=>rfl
 |n::ns=>by show(intsOf (ns.map λa=>U.int (f a))).map _=_;rw[vE f ns];rfl
theorem sum_ints(f:α->Int)(l:List α):KU .sum [(k,.lst (l.map λa=>U.int (f a)))]=a5 (.loc,.int (l.map f).sum):=by
 show(intsOf (l.map λa=>U.int (f a))).map _=_;rw[vE];rfl
theorem An{told:List Str}(hl:told.length<=1000)(c:∀x∈told,x∈s.1)(d:st[4]?=a5 (a5 (.loc,.tup (told.map .str))))(a:st[1]?=a5 (a5 (.own,cD s))):
  Run (ev Γ (.bi .sum [.comp 1 cc .seq [.var 4] [] (.idx (.var 2) (.var 0))])) st (.loc,.int (told.map s.2).sum) st:=by
 have e:(1000:Nat)<=cL:=by decide
 have b:=jc (cond:=bb Γ []) (elt:=ev Γ (.idx (.var 2) (.var 0))) (src:=[(.loc,.tup (told.map .str))]) (st:=st) trivial .loc (.inl rfl) U.str (λx=>.int (s.2 x)) .loc (λ_=>iz) told [] (by simp;lia)
  (λy f=>⟨aN (aB (u:=cD s) (by simpa using a)) (ae rfl) ⟨⟨.own,rfl,by simpa using a⟩,trivial⟩ (by show(cv s.1 (s.1.map λk=>U.int (s.2 k)) y).map _=_;rw[dr (c y f)];rfl),aI⟩)
 rw[mf]at b;exact bW (af (dO (rs:=[(.loc,.tup (told.map .str))]) (af (ae d) ai) trivial vD b) ai) trivial (sum_ints _ _)
theorem Ao(p:ws.length<=24)(hs:fV ws s)(h:ba ws r):
  ∃i,Run (execs Γ tN) (gU rs s b (a5 (.loc,.str r.1)) (a5 (.loc,.tup (r.2.map .str))) o5) .nx (gU rs (KZ s r) (b||(may s r&&KY s r)) (a5 (.loc,.str r.1)) (a5 (.loc,.tup (r.2.map .str))) i):=by
 have q:=h.2.2.2;have hl:=hs.1.len;have a:=zI (nF (Γ:=Γ) (st:=gU rs s b (a5 (.loc,.str r.1)) (a5 (.loc,.tup (r.2.map .str))) o5) (src:=.var 4) (j:=1) (told:=r.2) (known:=s.1) (k:=.loc) (w:=cD s) (.inl rfl) ⋯ (ae rfl) (.inr rfl) λx=>zM);unfold KZ;cases d:may s r with
 |false =>
  rw[show(r.2.all λx=>dt (x∈s.1))=cc from d]at a;rw[ő (by simp),T9,ON];exact⟨o5,bu a aw aw⟩
 |true =>
  rw[show(r.2.all λx=>dt (x∈s.1))=b8 from d]at a;have l:∀x∈r.2,x∈s.1:=λx m=>by have:=i8.mp d x m;simpa using this
  have n:=An (Γ:=Γ) (st:=gU rs s b (a5 (.loc,.str r.1)) (a5 (.loc,.tup (r.2.map .str))) o5) (s:=s) (told:=r.2) ⋯ l rfl rfl;have f:Run (ev Γ (.bin .add (.cst (.int 1)) (.bi .sum [.comp 1 cc .seq [.var 4] [] (.idx (.var 2) (.var 0))]))) (gU rs s b (a5 (.loc,.str r.1)) (a5 (.loc,.tup (r.2.map .str))) o5) (.loc,.int (JF s r)) (gU rs s b (a5 (.loc,.str r.1)) (a5 (.loc,.tup (r.2.map .str))) o5):=bC aj n trivial bV;have c:Run (Jt Γ (.or [.cmp .Jo (.var 3) (.var 1),.cmp .lt (.var 5) (.idx (.var 1) (.var 3))])) (gU rs s b (a5 (.loc,.str r.1)) (a5 (.loc,.tup (r.2.map .str))) (a5 (.loc,.int (JF s r)))) (KY s r) (gU rs s b (a5 (.loc,.str r.1)) (a5 (.loc,.tup (r.2.map .str))) (a5 (.loc,.int (JF s r)))) :=
   zD (Dx (aV (ae rfl) (aB rfl) ∅ gc) λo=>qG (aV (y:=(.loc,.int (s.2 r.1))) (ae rfl) (aN (aB rfl) (ae rfl) ∅ (by show(cv s.1 (s.1.map λk=>U.int (s.2 k)) r.1).map _=_;rw[dr (by simpa using o)];rfl)) trivial (qK rfl)))
  cases g:KY s r with
  |false =>
   rw[g]at c;rw[ő (by simp),PL,ON];exact⟨_,c6 a (av f aE (bu c aw aw)) aw⟩
  |true =>
   rw[g]at c;rw[Ő (by simp),UW,ġ];have e:dC (.str r.1) (.int (JF s r)) (cD s)=a5 (cD (dQ s.1 r.1,upd s.2 r.1 (JF s r))):=by
    unfold cD;rw[pz ⋯];congr 3
    funext k
    show _=U.int (upd s.2 r.1 (JF s r) k);unfold upd;split<;>rfl
   exact⟨a5 (.loc,.int (JF s r)),c6 a (av f aE (c6 c (iD (k:=.own) (k':=.own) (ae rfl) rfl (ae rfl) (aA aI (aA aI aF)) rfl rfl e (av aj aE aw)) aw)) aw⟩
theorem rh(g:ws.length<=24):∀(e:List Row) (s:J5) (b:Bool) (f o4 o5:Option (Kd×U)),(∀r∈e,ba ws r)->fV ws s ->
  ∃j k h,Run (forM b8 [3,4] (execs Γ tN) [(.loc,.tup (rs.map A'))] (e.map λr=>(Kd.loc,A' r))) (gU rs s b f o4 o5) .nx (gU rs (Kt e (s,b)).1 (Kt e (s,b)).2 j k h)
 |[],s,b,f,o4,o5,_,_=>⟨f,o4,o5,qJ trivial⟩
 |r::e,s,b,f,o4,o5,i,hs=>by
  obtain⟨h,q⟩:=Ao (Γ:=Γ) (rs:=rs) (b:=b) (o5:=o5) g hs (i r (by simp));obtain⟨a,c,d,l⟩:=rh g e (KZ s r) (b||(may s r&&KY s r)) (a5 (.loc,.str r.1)) (a5 (.loc,.tup (r.2.map .str))) h (λy m=>i y (by simp[m])) (pE g hs (i r (by simp))).1;exact⟨a,c,d,zE trivial (jA (.inl rfl)) q l⟩
theorem rj(b:ws.length<=24)(i:∀r∈rs,ba ws r):∀(f:Nat) (s:J5) (e o4 o5:Option (Kd×U)),fV ws s->mu s+1<f ->
  ∃k l m,Run (fw (Jt Γ (.var 2)) (execs Γ tP) f) (gU rs s b8 e o4 o5) .nx (gU rs (lim rs f s) cc k l m)
 |0,s,_,_,_,hs,n=>by have:=rg b hs;lia
 |f+1,s,e,o4,o5,hs,n=>by
  obtain⟨a,c,d,q⟩:=rh (Γ:=Γ) (rs:=rs) b rs s cc e o4 o5 i hs;obtain⟨o,v,p⟩:=iI b rs s cc i hs;have h:Run (execs Γ tP) (gU rs s b8 e o4 o5) .nx (gU rs (Kt rs (s,cc)).1 (Kt rs (s,cc)).2 a c d):=av aj aE (c7 (rs:=[(.loc,.tup (rs.map A'))]) (af (ae rfl) ai) trivial pB rfl q aw);unfold lim;have m0:=rg b hs;cases j:(Kt rs (s,cc)).2 with
  |true =>
   rw[j]at h;rw[Ő rfl];have w:=(p j).resolve_left (by simp);obtain⟨a',t,d',u⟩:=rj b i f (Kt rs (s,cc)).1 a c d o ⋯;exact⟨a',t,d',qV (fe rfl) h u⟩
  |false =>
   rw[j]at h;rw[ő (by simp)];obtain⟨f,rfl⟩:∃g,f=g+1:=⟨f - 1,⋯⟩
   exact⟨a,c,d,qV (fe rfl) h (nz (fe rfl))⟩
noncomputable def s0:J5:=([],λ_=>0)
theorem jg(ws:List Str):fV ws s0:=⟨⟨RZ,λx h=>(by cases h)⟩,λk h=>(by cases h),by decide⟩
def Ap(Γ:Tab):Prop:=∀(ws:List Str) (rs:List Row),ws.length<=24->(∀r∈rs,ba ws r)->Γ "_law_costs" [.tup (rs.map A')]=a5 (.ok (.own,cD (lim rs fuel s0)))
theorem xx(b:ws.length<=24)(e:∀r∈rs,ba ws r):cw Γ tQ [.tup (rs.map A')]=a5 (.ok (.own,cD (lim rs fuel s0))):=by
 obtain⟨a,c,d,q⟩:=rj (Γ:=Γ) b e fuel s0 b6 b6 b6 (jg ws) (by unfold fuel;decide);refine bw (st0:=[a5 (.loc,.tup (rs.map A')),b6,b6,b6,b6,b6]) rfl (.inl rfl) ?_ (av (lx) bh (av (st2:=gU rs s0 b8 b6 b6 b6) aj aE (qW q (bO (aB rfl) (iB rfl)))));show [a5 (if Js (.tup (rs.map A'))=b8 then Kd.loc else Kd.any,U.tup (rs.map A')),b6,b6,b6,b6,b6]=_;rw[Ő (by show bR (rs.map A')=b8;exact aO rs)]
theorem Ga(h:JT Pg "_law_costs" tQ):Ap (Jl Pg (d+1)):=λws rs a b=>by
 rw[aJ h];exact xx a b
noncomputable def vF:Fn:=⟨"row_price",2,2,[.ret (.bin .add (.cst (.int 1)) (.bi .sum [.comp 1 cc .seq [.idx (.var 0) (.cst (.int 1))] [] (.idx (.idx (.var 2) (.var 0)) (.cst (.int 0)))]))]⟩
noncomputable def Aq : List S :=
        [.ite (.bi .all [.comp 1 cc .seq [.idx (.var 4) (.cst (.int 1))] [] (.cmp .isin (.var 0) (.var 2))])
          [.set 5 (.call "row_price" [.var 4,.var 1]),
          .ite (.or [.cmp .Jo (.idx (.var 4) (.cst (.int 0))) (.var 1),.cmp .lt (.var 5) (.idx (.idx (.var 1) (.idx (.var 4) (.cst (.int 0)))) (.cst (.int 0)))])
            [.put 1 (.idx (.var 4) (.cst (.int 0))) (.tup [.var 5,.var 3]),
            .set 2 (.cst (.bl true))]
            []]
          []]
noncomputable def Ar:List S :=
   [.set 2 (.cst (.bl cc)),
   .Jv b8 [3,4] .Ng [(.var 0)] Aq]
noncomputable def CZ:Fn:=⟨"prices_and_places",1,6,[.set 1 (.KN cc),.set 2 (.cst (.bl b8)),.MW (.var 2) Ar,.ret (.var 1)]⟩
noncomputable def pD(s:J5)(pl:Str->Int):U:=.I_ s.1 (s.1.map λk=>.tup [.int (s.2 k),.int (pl k)])
def jh(Γ:Tab):Prop:=∀(s:J5) (pl:Str->Int) (r:Row),(∀x∈r.2,x∈s.1)->r.2.length<=8->Γ "row_price" [A' r,pD s pl]=a5 (.ok (.loc,.int (JF s r)))
theorem As(b:∀x∈r.2,x∈s.1)(e:r.2.length<=8):cw Γ vF [A' r,pD s pl]=a5 (.ok (.loc,.int (JF s r))):=by
 have c:(1000:Nat)<=cL:=by decide
 have a:=jc (cond:=bb Γ []) (elt:=ev Γ (.idx (.idx (.var 2) (.var 0)) (.cst (.int 0)))) (src:=[(.loc,.tup (r.2.map .str))]) (st:=[a5 (.loc,A' r),a5 (.any,pD s pl)]) trivial .loc (.inl rfl) U.str (λx=>.int (s.2 x)) .any (λ_=>iz) r.2 [] (by simp;lia)
  (λy d=>⟨aN (x:=(.any,.tup [.int (s.2 y),.int (pl y)])) (aN (a_ rfl) (ae rfl) trivial (by show(cv s.1 (s.1.map λk=>U.tup [.int (s.2 k),.int (pl k)]) y).map _=_;rw[dr (b y d)];rfl)) aj trivial rfl,qF rfl⟩)
 rw[mf]at a;refine bw (st0:=[a5 (.loc,A' r),a5 (.any,pD s pl)]) rfl (.inr rfl) ?_ (bO (bC aj (bW (af (dO (rs:=[(.loc,.tup (r.2.map .str))]) (af (aN (ae rfl) aj trivial rfl) ai) trivial vD a) ai) trivial (sum_ints _ _)) trivial bV) fT);show [a5 (if Js (A' r)=b8 then Kd.loc else Kd.any,A' r),a5 (if Js (pD s pl)=b8 then Kd.loc else Kd.any,pD s pl)]=_;rw[Ő (pf r),ő (by show ¬(cc=b8);decide)]
theorem tR(h:JT Pg "row_price" vF):jh (Jl Pg (d+1)):=λs pl r a b=>by
 rw[aJ h];exact As a b
def K6(rs:List Row)(s:J5)(pl:Str->Int):Prop:=∀k∈s.1,∃(i:Nat) (r:Row),pl k=(i:Int)/\rs[i]?=a5 r/\r.1=k/\(∀x∈r.2,x∈s.1)/\JF s r<=s.2 k
theorem Au{c a:α->Int}:∀{ts:List α},(∀x∈ts,a x<=c x)->(ts.map a).sum<=(ts.map c).sum
 |[],_=>UG _
 |x::ts,h=>by
  have d:=h x (by simp);have e:=Au (ts:=ts) λy b=>h y (by simp[b]);rw[d6,d6,NZ,NZ];lia
theorem K6.step{i:Nat}(h:K6 rs s pl)(hi:rs[i]?=a5 r)(g:may s r=b8)(b:KY s r=b8):K6 rs (dQ s.1 r.1,upd s.2 r.1 (JF s r)) (upd pl r.1 (i:Int)):=by
 have c:∀x∈r.2,x∈s.1:=λx a=>by have:=i8.mp g x a;simpa using this
 have l:∀x∈s.1,upd s.2 r.1 (JF s r) x<=s.2 x:=λx a=>by
  unfold upd;split
  ·rename_i e;subst e;unfold KY at b;have:JF s r<s.2 r.1:=by simpa[a] using b
   lia
  ·exact UG _
 have d:∀q:Row,(∀x∈q.2,x∈s.1)->JF (dQ s.1 r.1,upd s.2 r.1 (JF s r)) q<=JF s q:=λq m=>by
  have:=Au (ts:=q.2) λx a=>l x (m x a);unfold JF at this ⊢
  dsimp only
  lia
 intro k hk;by_cases e:k=r.1
 ·subst e;refine⟨i,r,by unfold upd;rw[Ő rfl],hi,rfl,λx a=>eN.mpr (.inl (c x a)),TB (d r c) ?_⟩;show JF s r<=upd s.2 r.1 (JF s r) r.1;unfold upd;rw[Ő rfl];exact UG _
 ·obtain⟨j,q,a1,n,a3,f,o⟩:=h k ((eN.mp hk).resolve_right e);refine⟨j,q,by unfold upd;rw[ő e];exact a1,n,a3,λx a=>eN.mpr (.inl (f x a)),TB (d q f) ?_⟩;show JF s q<=upd s.2 r.1 (JF s r) k;unfold upd;rw[ő e];exact o
theorem K6.start(rs:List Row)(pl:Str->Int):K6 rs s0 pl:=λk hk=>by cases hk
noncomputable def iJ(rs:List Row)(s:J5)(pl:Str->Int)(b:Bool)(a o4 o5:Option (Kd×U)):az:=[a5 (.loc,.tup (rs.map A')),a5 (.own,pD s pl),a5 (.loc,.bl b),a,o4,o5]
theorem C0(m:jh Γ){n:Nat}(G:ws.length<=24)(hs:fV ws s)(o:ba ws r)(q:rs[n]?=a5 r)(f:K6 rs s pl):
  ∃i t,Run (execs Γ Aq) (iJ rs s pl b (a5 (.loc,.int (n:Int))) (a5 (.loc,A' r)) o5) .nx (iJ rs (KZ s r) i (b||(may s r&&KY s r)) (a5 (.loc,.int (n:Int))) (a5 (.loc,A' r)) t)/\K6 rs (KZ s r) i:=by
 generalize u:(n:Int)=p;have v:(1000:Nat)<=cL:=by decide
 have z:=o.2.2.2;have hl:=hs.1.len;have g:fJ (.loc,A' r) (.int 0)=a5 (.loc,.str r.1):=rfl;have A:fJ (.loc,A' r) (.int 1)=a5 (.loc,.tup (r.2.map .str)):=rfl;have a:=zI (nF (Γ:=Γ) (st:=iJ rs s pl b (a5 (.loc,.int p)) (a5 (.loc,A' r)) o5) (src:=.idx (.var 4) (.cst (.int 1))) (j:=1) (told:=r.2) (known:=s.1) (k:=.loc) (w:=pD s pl) (.inl rfl) ⋯ (aN (ae rfl) aj trivial A) (.inr rfl) λx=>zM);unfold KZ;cases c:may s r with
 |false =>
  rw[show(r.2.all λx=>dt (x∈s.1))=cc from c]at a;rw[ő (by simp),T9,ON];exact⟨pl,o5,bu a aw aw,f⟩
 |true =>
  rw[show(r.2.all λx=>dt (x∈s.1))=b8 from c]at a;have B:∀x∈r.2,x∈s.1:=λx C=>by have:=i8.mp c x C;simpa using this
  have l:Run (ev Γ (.call "row_price" [.var 4,.var 1])) (iJ rs s pl b (a5 (.loc,.int p)) (a5 (.loc,A' r)) o5) (.loc,.int (JF s r)) (iJ rs s pl b (a5 (.loc,.int p)) (a5 (.loc,A' r)) o5):=bE (af (ae rfl) (af (aB rfl) ai)) ∅ (m s pl r B z);have d:Run (Jt Γ (.or [.cmp .Jo (.idx (.var 4) (.cst (.int 0))) (.var 1),.cmp .lt (.var 5) (.idx (.idx (.var 1) (.idx (.var 4) (.cst (.int 0)))) (.cst (.int 0)))])) (iJ rs s pl b (a5 (.loc,.int p)) (a5 (.loc,A' r)) (a5 (.loc,.int (JF s r)))) (KY s r) (iJ rs s pl b (a5 (.loc,.int p)) (a5 (.loc,A' r)) (a5 (.loc,.int (JF s r)))) :=
   zD (Dx (aV (aN (ae rfl) aj trivial g) (aB rfl) ∅ gc) λD=>qG (aV (y:=(.loc,.int (s.2 r.1))) (ae rfl) (aN (x:=(.loc,.tup [.int (s.2 r.1),.int (pl r.1)])) (aN (aB rfl) (aN (ae rfl) aj trivial g) ∅ (by show(cv s.1 (s.1.map λk=>U.tup [.int (s.2 k),.int (pl k)]) r.1).map _=_;rw[dr (by simpa using D)];rfl)) aj trivial rfl) trivial (qK rfl)))
  cases h:KY s r with
  |false =>
   rw[h]at d;rw[ő (by simp),PL,ON];exact⟨pl,_,c6 a (av l aE (bu d aw aw)) aw,f⟩
  |true =>
   rw[h]at d;rw[Ő (by simp),UW,ġ];have e:dC (.str r.1) (.tup [.int (JF s r),.int p]) (pD s pl)=a5 (pD (dQ s.1 r.1,upd s.2 r.1 (JF s r)) (upd pl r.1 p)):=by
    unfold pD;rw[pz ⋯];congr 3
    funext k
    show _=U.tup [.int (upd s.2 r.1 (JF s r) k),.int (upd pl r.1 p k)];unfold upd;split<;>rfl
   exact⟨upd pl r.1 p,a5 (.loc,.int (JF s r)),c6 a (av l aE (c6 d (iD (k:=.own) (k':=.own) (fQ (af (ae rfl) (af (ae rfl) ai)) trivial (aA aI (aA aI aF)) (by show 2<=cL;lia)) rfl (aN (ae rfl) aj trivial g) (aA aI (aA aI aF)) rfl rfl e (av aj aE aw)) aw)) aw,u▸f.step q c h⟩
theorem C2{rs:List Row}:K7 .Ng [(.loc,.tup (rs.map A'))]=a5 (rs.zipIdx.map λp:Row×Nat=>(Kd.loc,U.tup [.int (p.2:Nat),A' p.1])):=by
 show a5 ((rs.map A').zipIdx.map λp=>(kE .loc,U.tup [.int p.2,p.1]))=_;rw[ñ,i5];rfl
theorem vG(m:jh Γ)(g:ws.length<=24):∀(e:List Row) (n:Nat) (s:J5) (pl:Str->Int) (b:Bool) (f o4 o5:Option (Kd×U)),(∀r∈e,ba ws r)->(∀(i:Nat) (r:Row),e[i]?=a5 r->rs[n+i]?=a5 r)->fV ws s->K6 rs s pl ->
  ∃o u v h,Run (forM b8 [3,4] (execs Γ Aq) [(.loc,.tup (rs.map A'))] ((e.zipIdx n).map λp:Row×Nat=>(Kd.loc,U.tup [.int (p.2:Nat),A' p.1]))) (iJ rs s pl b f o4 o5) .nx (iJ rs (Kt e (s,b)).1 o (Kt e (s,b)).2 u v h)/\K6 rs (Kt e (s,b)).1 o
 |[],n,s,pl,b,f,o4,o5,_,_,_,j=>⟨pl,f,o4,o5,qJ trivial,j⟩
 |r::e,n,s,pl,b,f,o4,o5,k,t,hs,j=>by
  obtain⟨w,h,q,x⟩:=C0 m (rs:=rs) (pl:=pl) (b:=b) (n:=n) (o5:=o5) g hs (k r (by simp)) (by simpa using t 0 r rfl) j;obtain⟨z,a,c,d,A,B⟩:=vG m g e (n+1) (KZ s r) w (b||(may s r&&KY s r)) (a5 (.loc,.int (n:Int))) (a5 (.loc,A' r)) h (λy l=>k y (by simp[l])) (λi y l=>by rw[Nat.add_assoc,Nat.add_comm 1 i];exact t (i+1) y (by simpa using l)) (pE g hs (k r (by simp))).1 x;exact⟨z,a,c,d,zE trivial (jA (.inl rfl)) q A,B⟩
theorem vH(n:jh Γ)(b:ws.length<=24)(k:∀r∈rs,ba ws r):∀(f:Nat) (s:J5) (pl:Str->Int) (e o4 o5:Option (Kd×U)),fV ws s->K6 rs s pl->mu s+1<f ->
  ∃o t u v,Run (fw (Jt Γ (.var 2)) (execs Γ Ar) f) (iJ rs s pl b8 e o4 o5) .nx (iJ rs (lim rs f s) o cc t u v)/\K6 rs (lim rs f s) o
 |0,s,_,_,_,_,hs,_,w=>by have:=rg b hs;lia
 |f+1,s,pl,e,o4,o5,hs,x,w=>by
  obtain⟨l,a,c,d,q,p⟩:=vG n (rs:=rs) b rs 0 s pl cc e o4 o5 k (λi r h=>by rw[OE];exact h) hs x;obtain⟨y,G,z⟩:=iI b rs s cc k hs;have j:Run (execs Γ Ar) (iJ rs s pl b8 e o4 o5) .nx (iJ rs (Kt rs (s,cc)).1 l (Kt rs (s,cc)).2 a c d):=av aj aE (c7 (rs:=[(.loc,.tup (rs.map A'))]) (af (ae rfl) ai) trivial C2 rfl q aw);unfold lim;have m0:=rg b hs;cases m:(Kt rs (s,cc)).2 with
  |true =>
   rw[m]at j;rw[Ő rfl];have H:=(z m).resolve_left (by simp);obtain⟨A,a',B,d',C,D⟩:=vH n b k f (Kt rs (s,cc)).1 l a c d y p ⋯;exact⟨A,a',B,d',qV (fe rfl) j C,D⟩
  |false =>
   rw[m]at j;rw[ő (by simp)];obtain⟨f,rfl⟩:∃g,f=g+1:=⟨f - 1,⋯⟩
   exact⟨l,a,c,d,qV (fe rfl) j (nz (fe rfl)),p⟩
def rm(Γ:Tab):Prop:=∀(ws:List Str) (rs:List Row),ws.length<=24->(∀r∈rs,ba ws r)->∃pl,Γ "prices_and_places" [.tup (rs.map A')]=a5 (.ok (.own,pD (lim rs fuel s0) pl))/\K6 rs (lim rs fuel s0) pl
theorem C3(b:jh Γ)(e:ws.length<=24)(f:∀r∈rs,ba ws r):∃pl,cw Γ CZ [.tup (rs.map A')]=a5 (.ok (.own,pD (lim rs fuel s0) pl))/\K6 rs (lim rs fuel s0) pl:=by
 obtain⟨pl,a,c,d,q,g⟩:=vH b e f fuel s0 (λ_=>0) b6 b6 b6 (jg ws) (K6.start rs _) (by unfold fuel;decide);refine⟨pl,bw (st0:=[a5 (.loc,.tup (rs.map A')),b6,b6,b6,b6,b6]) rfl (.inl rfl) ?_ (av (lx) bh (av (st2:=iJ rs s0 (λ_=>0) b8 b6 b6 b6) aj aE (qW q (bO (aB rfl) (iB rfl))))),g⟩;show [a5 (if Js (.tup (rs.map A'))=b8 then Kd.loc else Kd.any,U.tup (rs.map A')),b6,b6,b6,b6,b6]=_;rw[Ő (by show bR (rs.map A')=b8;exact aO rs)]
theorem Av(a:jh (Jl Pg d))(h:JT Pg "prices_and_places" CZ):rm (Jl Pg (d+1)):=λws rs b c=>by
 obtain⟨pl,e,f⟩:=C3 a b c;exact⟨pl,by rw[aJ h];exact e,f⟩
noncomputable def j6:Fn:=⟨"prices",1,1,[.ret (.bi .sorted [.comp 2 b8 .O' [.call "prices_and_places" [.var 0]] [] (.tup [.var 0,.idx (.var 1) (.cst (.int 0))])])]⟩
noncomputable def Lk(c:Str->Int)(x:Str):U:=.tup [.str x,.int (c x)]
theorem vI(c:Str->Int):∀ks:List Str,mV (ks.map (Lk c))=a5 ks
 |[]=>rfl
 |k::ks=>by
  show(mV (ks.map (Lk c))).map _=_;rw[vI c ks];rfl
theorem vJ(c:Str->Int)(hl:ks.length<64)(a:ks.Nodup):∃b:List Str,b.Perm ks/\KU .sorted [(.own,.lst (ks.map (Lk c)))]=a5 (.own,.lst (b.map (Lk c))):=by
 cases ks with
 |nil =>
  have e:aR []=[]:=Ċ.mp (bJ []);refine⟨[],Mu _,?_⟩;show(if ([]:List Str).length<64 then a5 (Kd.own,U.lst ((aR []).map U.str)) else b6)=_;rw[e];rfl
 |cons k0 f =>
  generalize g:k0::f=ks at hl a;have e:(i0 ks.length).map (λi=>ks.getD i nH)=ks:=by
   apply LD
   ·simp
   ·intro i l h;simp[y4,h]
  have d:=(cu ks).map λi=>ks.getD i nH;rw[e]at d;refine⟨_,d,?_⟩;have j:strsOf (ks.map (Lk c))=b6:=by subst g;rfl
  show wD .own (ks.map (Lk c))=_;unfold wD;rw[j];show BC .own (ks.map (Lk c))=_;unfold BC;rw[vI];show(if _ then _ else _)=_;rw[Ő ⟨hl,a,rfl⟩,i5];congr 3
  apply td;intro i hi;have k:i<ks.length:=tA.mp ((cu _).mem_iff.mp hi);simp[y4,k]
theorem vK:K7 .O' [(.own,pD s pl)]=a5 (s.1.map λk=>(Kd.loc,U.tup [.str k,.tup [.int (s.2 k),.int (pl k)]])):=by
 show a5 (sf (s.1,s.1.map λk=>U.tup [.int (s.2 k),.int (pl k)]))=_;unfold sf;congr 1
 dsimp only
 generalize s.1=l;induction l with
 |nil=>rfl
 |cons k l a=>rw[d6,OU,d6,a,d6]
def pF(Γ:Tab):Prop:=∀(ws:List Str) (rs:List Row),ws.length<=24->(∀r∈rs,ba ws r)->∃ks:List Str,ks.Perm (lim rs fuel s0).1/\Γ "prices" [.tup (rs.map A')]=a5 (.ok (.own,.lst (ks.map (Lk (lim rs fuel s0).2))))
theorem rn(f:rm Γ)(b:ws.length<=24)(c:∀r∈rs,ba ws r):∃ks:List Str,ks.Perm (lim rs fuel s0).1/\cw Γ j6 [.tup (rs.map A')]=a5 (.ok (.own,.lst (ks.map (Lk (lim rs fuel s0).2)))):=by
 have g:(1000:Nat)<=cL:=by decide
 obtain⟨pl,e,_⟩:=f ws rs b c;have a:=j5 b c fuel s0 (jg ws);generalize lim rs fuel s0=s at e a;have hl:=a.1.len;have d:=je (st:=[a5 (.loc,.tup (rs.map A'))]) (cond:=bb Γ []) (elt:=ev Γ (.tup [.var 0,.idx (.var 1) (.cst (.int 0))])) (src:=[(.own,pD s pl)]) trivial (λk:Str=>U.str k) (λk=>.tup [.int (s.2 k),.int (pl k)]) (Lk s.2) (λ_=>b8) s.1 [] (by simp;lia)
  (λy _=>⟨iz,fQ (af (ae rfl) (af (aN (ae rfl) aj trivial rfl) ai)) trivial (aA aI (aA aI aF)) (by show 2<=cL;lia)⟩)
 rw[mf,show s.1.filter (λ_=>b8)=s.1 from MR.mpr λ_ _=>rfl]at d;obtain⟨ks,h,es⟩:=vJ s.2 (ks:=s.1) ⋯ a.1.1;refine⟨ks,h,bw (st0:=[a5 (.loc,.tup (rs.map A'))]) rfl (.inl rfl) ?_ (bO (bW (af (dO (rs:=[(.own,pD s pl)]) (af (bE (af (ae rfl) ai) trivial e) ai) trivial vK d) ai) trivial es) gD)⟩;show [a5 (if Js (.tup (rs.map A'))=b8 then Kd.loc else Kd.any,U.tup (rs.map A'))]=_;rw[Ő (by show bR (rs.map A')=b8;exact aO rs)]
theorem vL(a:rm (Jl Pg d))(h:JT Pg "prices" j6):pF (Jl Pg (d+1)):=λws rs b c=>by
 obtain⟨ks,f,e⟩:=rn a b c;exact⟨ks,f,by rw[aJ h];exact e⟩
theorem HV(h:Run (ev Γ a) st (k,.bl c) st1):Run (ev Γ (.not a)) st (.loc,.bl !c) st1:=aa h rfl
section
theorem C4(p:i≠j)(g:st[i]?=a5 (a5 (k0,a)))(c:k0.root=b8)(z:st[j]?=a5 (a5 (k0',d)))(A:k0'.root=b8)(B:Run (bG Γ es) st rs st1)
  (b:st1[i]?=a5 (a5 (k,.lst us))) (hk:k.root=b8) (C:bR us=b8) (h:st1[j]?=a5 (a5 (k',.lst vs))) (s:k'.root=b8) (D:bR vs=b8) (l:rs.all QJ=b8)
  (G:Γ f (.lst us::.lst vs::rs.map (·.2))=a5 (.ok (m,.tup [v,.lst t,.lst w]))) (H:m=.own\/m=.loc):Run (ev Γ (.Jb f (.var i::.var j::es) [0,1])) st (m,v) ((st1.set i (a5 (k,.lst t))).set j (a5 (k',.lst w))):=by
 have x:∀(i:Nat) (k0:Kd) (a:U),st[i]?=a5 (a5 (k0,a))->k0.root=b8->Run (ev Γ (.var i)) st (.bor i,a) st:=λi k0 a g c=>by
  have:=dN g (by rintro rfl;cases c);unfold kv at this;rw[Ő c]at this;exact this
 have y:∀(i:Nat) (k:Kd) (a u:U),st1[i]?=a5 (a5 (k,u))->k.root=b8->dR st1 (.bor i,a)=(.bor i,u):=λi k a u b hk=>by
  unfold dR
  dsimp only
  rw[b];simp[hk]
 have I:rs.map (dR st1)=rs:=by
  conv=>rhs;rw[<-VI rs]
  exact td λr J=>q_ (i8.mp l r J)
 have e:((Kd.bor i,a)::(Kd.bor j,d)::rs).map (dR st1)=(.bor i,.lst us)::(.bor j,.lst vs)::rs:=by rw[d6,d6,y i k a _ b hk,y j k' d _ h s,I]
 have n:gN ((Kd.bor i,U.lst us)::(Kd.bor j,U.lst vs)::rs) 0=a5 i:=by
  show(if bR us=b8 then a5 i else b6)=_;rw[Ő C]
 have o:gN ((Kd.bor i,U.lst us)::(Kd.bor j,U.lst vs)::rs) 1=a5 j:=by
  show(if bR vs=b8 then a5 j else b6)=_;rw[Ő D]
 refine sY (rs:=(.bor i,a)::(.bor j,d)::rs) (ws:=[.lst t,.lst w]) (st1:=st1) (af (x i k0 a g c) (af (x j k0' d z A) B)) ?_ ?_ H ?_ ?_
 ·rw[e];exact⟨⟨k,hk,b⟩,⟨k',s,h⟩,ra l⟩
 ·rw[e];exact G
 ·rw[e];unfold qr;rw[cb,cb];refine⟨⟨by simp[n,o],by simp[n,o,p]⟩,i8.mpr λq L=>?_⟩
  match q with
  |0=>simp
  |1=>simp
  |q+2 =>
   have hl:q<rs.length:=by have:=tA.mp L;simpa using this
   rw[Lj];refine .inr (nK ?_);rw[show((Kd.bor i,U.lst us)::(Kd.bor j,U.lst vs)::rs).getD (q+2) (.loc,.Jc)=rs[q] by simp[y4,hl]];exact i8.mp l _ (MY hl)
 ·rw[e];unfold gA;rw[n]
  dsimp only
  rw[b]
  dsimp only
  unfold gA;rw[o]
  dsimp only
  rw[i1 p,h];rfl
end
def lJ(Γ:Tab):Prop:=∀(ns:List Int) (u:U) (ws:List Str) (T:Int),Src T u->T+500<2 ^ 62->ns.length<1000->0<ws.length->ws.length<1000000 ->
  ∃(rs:List Row) (a:List Int) (u':U),Γ "_law_book" [.lst (ns.map .int),u,.lst (ws.map .str)]=a5 (.ok (.loc,.tup [.tup (rs.map A'),.lst (a.map .int),u']))/\di ws rs/\rs.length<=60/\a.length<=ns.length/\Src (T+500) u'
theorem Aw(a:iH (Jl Pg d))(b:bx (Jl Pg d))(c:lG (Jl Pg d))(f:lH (Jl Pg d))(h:JT Pg "_law_book" pv):lJ (Jl Pg (d+1)):=by
 intro ns u ws T g i j k l;obtain⟨rs,m,u',e,r⟩:=tJ a b c f g i j k l;exact⟨rs,m,u',by rw[cQ h _ rfl];exact e,r⟩
theorem rp(a:iH Γ){ns:List Int}:∃(b:List Int) (u:U),Run (ev Γ (.Jb "_law_source" [.var 1,.cst (.int k)] [0])) (o0::a5 (.own,.lst (ns.map .int))::rest) (.own,u) (o0::a5 (.own,.lst (b.map .int))::rest)/\b.length<=ns.length/\Src 0 u:=by
 by_cases h:ns=[]
 ·subst h;exact⟨[],fz k 0 1,F9 (k0:=.own) (k:=.own) a rfl rfl aj rfl rfl,hU _,⟨_,_,_,rfl,⋯,⋯⟩⟩
 ·have e:=QR h;generalize ns.dropLast=l at e;generalize ns.getLast h=c at e;subst e;exact⟨l,fz (c / 2) 0 (c % 2),zZ (k0:=.own) (k:=.own) a rfl rfl aj rfl rfl,by simp,⟨_,_,_,rfl,⋯,⋯⟩⟩
theorem Src.lst(h:Src T u):∃us,u=.lst us/\bR us=b8:=by
 obtain⟨a,t,w,rfl,_,_⟩:=h;exact⟨_,rfl,rfl⟩
def Pq(rs:List Row)(s:J5):Prop:=∀r∈rs,(may s r&&KY s r)=cc
theorem vM:∀(rs:List Row) (s:J5) (b:Bool),(Kt rs (s,b)).2=cc->b=cc/\Pq rs s/\(Kt rs (s,b)).1=s
 |[],s,b,h=>⟨h,λr d=>(by cases d),rfl⟩
 |r::rs,s,b,h=>by
  obtain⟨f,a,g⟩:=vM rs (KZ s r) (b||(may s r&&KY s r)) h;obtain⟨i,c⟩:=ZA.mp f;have e:KZ s r=s:=by unfold KZ;rw[ő (by simp[c])]
  rw[e]at a;refine⟨i,λq hq=>?_,?_⟩
  ·rcases et.mp hq with rfl|hq
   ·exact c
   ·exact a q hq
  ·show(Kt rs (KZ s r,b||(may s r&&KY s r))).1=s;rw[g,e]
theorem vN(a:ws.length<=24)(b:∀r∈rs,ba ws r):∀(n:Nat) (s:J5),fV ws s->mu s+1<n->Pq rs (lim rs n s)
 |0,s,h,d=>by have:=rg a h;lia
 |n+1,s,h,d=>by
  obtain⟨e,j,f⟩:=iI a rs s cc b h;unfold lim;cases c:(Kt rs (s,cc)).2 with
  |true =>
   rw[Ő rfl];have:=(f c).resolve_left (by simp);exact vN a b n _ e ⋯
  |false =>
   rw[ő (by simp)];obtain⟨_,g,i⟩:=vM rs s cc c;rw[i];exact g
theorem K6.best(h:K6 rs s pl)(hs:Pq rs s)(hk:k∈s.1):∃(i:Nat) (r:Row),pl k=(i:Int)/\rs[i]?=a5 r/\r.1=k/\(∀x∈r.2,x∈s.1)/\s.2 k=JF s r:=by
 obtain⟨i,r,a1,b,a3,c,d⟩:=h k hk;refine⟨i,r,a1,b,a3,c,Int.le_antisymm ?_ d⟩;have a:=hs r (l0 b);have e:may s r=b8:=i8.mpr λx f=>by simpa using c x f
 rw[e,Ď]at a;unfold KY at a;rw[a3]at a;simp[hk]at a;exact a
noncomputable def pG:Fn:=⟨"best_rows",1,1,[.ret (.bi .sorted [.comp 2 b8 .O' [.call "prices_and_places" [.var 0]] [] (.tup [.var 0,.idx (.var 1) (.cst (.int 1))])])]⟩
def Ax(Γ:Tab):Prop:=∀(ws:List Str) (rs:List Row),ws.length<=24->(∀r∈rs,ba ws r)->∃(pl:Str->Int) (ks:List Str),ks.Perm (lim rs fuel s0).1/\Γ "best_rows" [.tup (rs.map A')]=a5 (.ok (.own,.lst (ks.map (Lk pl))))/\K6 rs (lim rs fuel s0) pl
theorem tS(g:rm Γ)(b:ws.length<=24)(c:∀r∈rs,ba ws r):∃(pl:Str->Int) (ks:List Str),ks.Perm (lim rs fuel s0).1/\cw Γ pG [.tup (rs.map A')]=a5 (.ok (.own,.lst (ks.map (Lk pl))))/\K6 rs (lim rs fuel s0) pl:=by
 have h:(1000:Nat)<=cL:=by decide
 obtain⟨pl,e,d⟩:=g ws rs b c;have a:=j5 b c fuel s0 (jg ws);generalize lim rs fuel s0=s at e a d ⊢;have hl:=a.1.len;have f:=je (st:=[a5 (.loc,.tup (rs.map A'))]) (cond:=bb Γ []) (elt:=ev Γ (.tup [.var 0,.idx (.var 1) (.cst (.int 1))])) (src:=[(.own,pD s pl)]) trivial (λk:Str=>U.str k) (λk=>.tup [.int (s.2 k),.int (pl k)]) (Lk pl) (λ_=>b8) s.1 [] (by simp;lia)
  (λy _=>⟨iz,fQ (af (ae rfl) (af (aN (ae rfl) aj trivial rfl) ai)) trivial (aA aI (aA aI aF)) (by show 2<=cL;lia)⟩)
 rw[mf,show s.1.filter (λ_=>b8)=s.1 from MR.mpr λ_ _=>rfl]at f;obtain⟨ks,i,es⟩:=vJ pl (ks:=s.1) ⋯ a.1.1;refine⟨pl,ks,i,bw (st0:=[a5 (.loc,.tup (rs.map A'))]) rfl (.inl rfl) ?_ (bO (bW (af (dO (rs:=[(.own,pD s pl)]) (af (bE (af (ae rfl) ai) trivial e) ai) trivial vK f) ai) trivial es) gD),d⟩;show [a5 (if Js (.tup (rs.map A'))=b8 then Kd.loc else Kd.any,U.tup (rs.map A'))]=_;rw[Ő (by show bR (rs.map A')=b8;exact aO rs)]
theorem Gb(a:rm (Jl Pg d))(h:JT Pg "best_rows" pG):Ax (Jl Pg (d+1)):=λws rs b c=>by
 obtain⟨pl,ks,f,e,i⟩:=tS a b c;exact⟨pl,ks,f,by rw[aJ h];exact e,i⟩
noncomputable def tT:Fn:=⟨"_law_whole",1,1,[.ret (.and [.MV (.var 0) .int,.not (.MV (.var 0) .bool)])]⟩
def iK(Γ:Tab):Prop:=∀n:Int,Γ "_law_whole" [.int n]=a5 (.ok (.loc,.bl b8))
theorem C5(h:JT Pg "_law_whole" tT):iK (Jl Pg (d+1)):=λn=>by
 rw[aJ h];exact bw (st0:=[a5 (.loc,.int n)]) rfl (.inr rfl) rfl (bO (Hv (FV (p:=b8) (q:=b8) (Dy (ae rfl) rfl) λ_=>FQ (HV (c:=cc) (Dy (ae rfl) rfl)))) fT)
theorem Ge(e:Run (ev Γ a) st x st1)(f:Run (ev Γ b) st1 y st2)(g:bt [x,y] st2)(h:cm i x.2 y.2=a5 b8)(j:Run (ev Γ c) st2 z d)(k:bt [y,z] d)(l:cm o2 y.2 z.2=a5 q):Run (Jt Γ (.LG i o2 a b c)) st q d :=
 aa e (aa f (aa (aY g) (aa (b_ h) (aa j (aa (aY k) (b_ l))))))
end TM
namespace KL
open PySem L2 TM
noncomputable def dk:Fn:=⟨"gathered",1,4,[.newD 1,.Jv b8 [2,3] .seq [.var 0] [.ite (.inD b8 (.var 2) 1) [.putD 1 (.var 2) (.lst [])] [],.Le 1 (.var 2) (.var 3)],.ret (.Pb 1)]⟩
noncomputable def bc:Fn:=⟨"places_that_tell",1,4,[.set 1 (.lst []),.Jv b8 [2,3] .Ng [.var 0] [.ext 1 (.comp 1 cc .seq [.idx (.var 3) (.cst (.int 1))] [] (.tup [.var 0,.var 3]))],.ret (.call "gathered" [.var 1])]⟩
noncomputable def cR:Fn:=⟨"new_steps",3,6,[.set 3 (.KN cc),.Jv cc [4] .seq [.var 1] [.set 5 (.idx (.idx (.var 0) (.var 4)) (.cst (.int 0))),.ite (.and [.cmp .Jo (.var 5) (.var 2),.cmp .Jo (.var 5) (.var 3)]) [.put 3 (.var 5) (.var 4)] []],.ret (.Pc 3)]⟩
noncomputable def bj:Fn:=⟨"steps_in_rounds",1,10,[.set 1 (.call "places_that_tell" [.var 0]),.set 2 (.comp 1 cc .seq [.var 0] [] (.bi .len [.idx (.var 0) (.cst (.int 1))])),.set 3 (.KN cc),.set 4 (.lst []),.set 5 (.comp 2 b8 .Ng [.var 2] [.cmp .eq (.var 1) (.cst (.int 0))] (.var 0)),.MW (.cmp .ne (.var 5) (.lst [])) [.set 6 (.call "new_steps" [.var 0,.var 5,.var 3]),.set 5 (.lst []),.Jv b8 [7,8] .seq [.var 6] [.put 3 (.var 7) (.cst (.bl b8)),.Jv cc [9] .seq [.LH 1 (.var 7) (.lst [])] [.aug b8 2 (.var 9) (.cst (.int 1)),.ite (.cmp .eq (.idx (.var 2) (.var 9)) (.cst (.int 0))) [.app 5 (.var 9)] []]],.ite (.cmp .ne (.var 6) (.lst [])) [.app 4 (.var 6)] []],.ret (.var 4)]⟩
noncomputable def ff:Fn:=⟨"order",1,3,[.set 1 (.lst []),.Jv cc [2] .seq [.call "steps_in_rounds" [.var 0]] [.ext 1 (.var 2)],.ret (.var 1)]⟩
noncomputable def eO:Fn:=⟨"learnt",1,1,[.ret (.bi .sorted [.comp 2 b8 .seq [.call "order" [.var 0]] [] (.var 0)])]⟩
end KL
namespace KL
open PySem L2 TM JB Od
noncomputable def cB(f:Str->List Nat)(k:Str):U:=.lst ((f k).map λt:Nat=>U.int (t:Nat))
theorem ji(d:List (Str×Nat))(y:Str×Nat)(k:Str):aK (d++[y]) k=if y.1=k then aK d k++[y.2] else aK d k:=by
 rw[qU];by_cases e:y.1=k
 ·rw[Ő e];simp[aK,e]
 ·rw[ő e];simp[aK,e]
theorem Ay(d:List (Str×Nat))(k:Str):(aK d k).length<=d.length:=by
 unfold aK;rw[c4];exact w6 _ _
section
theorem pH(hl:ps.length<=1000):∃ks:List Str,(∀w,w∉ks->aK ps w=[])/\cw Γ dk [.lst (ps.map stN)]=a5 (.ok (.own,.I_ ks (ks.map (cB (aK ps))))):=by
 have hsz:(2000:Nat)<=cL:=by decide
 have A:TM.start [.lst (ps.map stN)] 4=[a5 (.any,.lst (ps.map stN)),b6,b6,b6]:=rfl;let S:=λ(ks:List Str) (us:List U) (o2 f:Option (Kd×U))=>([a5 (.any,.lst (ps.map stN)),a5 (.IY,.I_ ks us),o2,f]:az)
 let body:List TM.S:=[.ite (.inD b8 (.var 2) 1)
    [.putD 1 (.var 2) (.lst [])]
    [],
   .Le 1 (.var 2) (.var 3)]
 obtain⟨st',B,m,ks,o2,f,e,g,hk,C⟩:=cM (t:=b8) (is:=[2,3]) (body:=execs Γ body) (rs:=[(.any,.lst (ps.map stN))]) (λp:Str×Nat=>(Kd.any,stN p))
  (λd r st=>d++r=ps/\∃(ks:List Str) (o2 f:Option (Kd×U)),st=S ks (ks.map (cB (aK d))) o2 f/\ks.Nodup/\(∀w,w∉ks->aK d w=[])/\ks.length<=d.length) (λ_ _ _ _=>trivial) (λd y r st D=>by
   obtain⟨m,ks,o2,f,e,g,hk,C⟩:=D;subst e;have L:d.length<1000:=by have:=Ŕ LA m;simp at this;lia
   let i:Option (Kd×U):=a5 (.any,.str y.1);let j:Option (Kd×U):=a5 (.any,.int (y.2:Nat));have N:=Ay d y.1;have l:∀(ks:List Str),ks.Nodup->y.1∈ks->Run (execs Γ [.Le 1 (.var 2) (.var 3)]) (S ks (ks.map (cB (aK d))) i j) .nx (S ks (ks.map (cB (aK (d++[y])))) i j):=λks g c=>by
    have G:cv ks (ks.map (cB (aK d))) y.1=a5 (.lst ((aK d y.1).map λt:Nat=>U.int (t:Nat))):=by rw[lE,Ő c];rfl
    have hs:jN ks (ks.map (cB (aK d))) y.1 (.lst ((aK d y.1).map (λt:Nat=>U.int (t:Nat))++[.int (y.2:Nat)]))=ks.map (cB (aK (d++[y]))):=by
     rw[qX _ _ _ _ g];refine td λk hk=>?_;unfold cB;rw[ji];by_cases e:y.1=k
     ·subst e;rw[Ő rfl,Ő rfl];simp
     ·rw[ő e,ő (ro e)]
    rw[<-hs];exact FZ (k:=.any) (r:=(.any,.int (y.2:Nat))) rfl (a_ rfl) c (a_ rfl) (qF rfl) G (by rw[c4];lia) aw
   have n:Run (Jt Γ (.inD b8 (.var 2) 1)) (S ks (ks.map (cB (aK d))) i j) (!dt (y.1∈ks)) (S ks (ks.map (cB (aK d))) i j):=HF (neg:=b8) (k:=.any) (a_ rfl) rfl;have q:Run (dB b8 [2,3] (.any,stN y)) (S ks (ks.map (cB (aK d))) o2 f) () (S ks (ks.map (cB (aK d))) i j):=jA (.inr rfl);by_cases c:y.1∈ks
   ·rw[œ c]at n;refine⟨_,_,q,pe n (λh=>by cases h) λ_=>l ks g c,by rw[<-m];simp,ks,_,_,rfl,g,λw o=>?_,by simp;lia⟩;have H:y.1≠w:=λz=>o (by rw[<-z];exact c);rw[ji,ő H];exact hk w o
   ·rw[Œ c]at n;have s:(ks++[y.1]).Nodup:=by
     rw[rr];refine⟨g,by simp,λa I b J e=>?_⟩;have:b=y.1:=by simpa using J
     subst this;exact c (e▸I)
    have em:ks.map (cB (aK d))++[.lst []]=(ks++[y.1]).map (cB (aK d)):=by
     rw[js];congr 1
     show _=[cB (aK d) y.1]
     unfold cB;rw[hk y.1 c];rfl
    have v:=l (ks++[y.1]) s (by simp);rw[<-em]at v;refine⟨_,_,q,pe n (λ_=>FY (k:=.any) (xs:=[]) (bT ai trivial aF (ki _)) rfl (a_ rfl) c ⋯ v) λh=>(by cases h),by rw[<-m];simp,ks++[y.1],_,_,rfl,s,λw o=>?_,by simp;lia⟩;have x:w∉ks/\w≠y.1:=by simpa using o
    rw[ji,ő (ro x.2)];exact hk w x.1) ps [] (S [] [] b6 b6) ⟨rfl,[],b6,b6,rfl,.nil,λ_ _=>rfl,hU _⟩
 subst e;rw[mf]at *;refine⟨ks,hk,?_⟩;have e:(ps.map stN).map (λu=>(kE .any,u))=ps.map λp=>(Kd.any,stN p):=by rw[i5];rfl
 exact bw rfl (.inl rfl) A (FX (c7 (rs:=[(.any,.lst (ps.map stN))]) (st1:=S [] [] b6 b6) (af (a_ rfl) ai) trivial rfl rfl (by rw[e];exact B) (bO (HG rfl) (iB rfl))))
def DE(Γ:Tab):Prop:=∀ps:List (Str×Nat),ps.length<=1000->∃ks:List Str,(∀w,w∉ks->aK ps w=[])/\Γ "gathered" [.lst (ps.map stN)]=a5 (.ok (.own,.I_ ks (ks.map (cB (aK ps)))))
theorem tU(v:DE Γ)(z:Once rows)(A:∀r∈rows,r.2.length<=8)(L:rows.length<=100):
  ∃ks:List Str,(∀w,w∉ks->JJ rows rows.length w=[])/\cw Γ bc [.tup (rows.map A')]=a5 (.ok (.own,.I_ ks (ks.map (cB (JJ rows rows.length))))):=by
 have hsz:(2000:Nat)<=cL:=by decide
 have B:TM.start [.tup (rows.map A')] 4=[a5 (.loc,.tup (rows.map A')),b6,b6,b6]:=by simp[TM.start,Js,aO]
 let S:=λ(ps:List (Str×Nat)) (o2 f:Option (Kd×U))=>([a5 (.loc,.tup (rows.map A')),a5 (.own,.lst (ps.map stN)),o2,f]:az)
 let body:List TM.S:=[.ext 1 (.comp 1 cc .seq [.idx (.var 3) (.cst (.int 1))] [] (.tup [.var 0,.var 3]))]
 obtain⟨st',C,h,ps,o2,f,e,j,m⟩:=cM (t:=b8) (is:=[2,3]) (body:=execs Γ body) (rs:=[(.loc,.tup (rows.map A'))]) (λp:Row×Nat=>(Kd.loc,U.tup [.int (p.2:Nat),A' p.1]))
  (λd r st=>d++r=rows.zipIdx/\∃(ps:List (Str×Nat)) (o2 f:Option (Kd×U)),st=S ps o2 f/\(∀w,aK ps w=JJ rows d.length w)/\ps.length<=8 * d.length) (λ_ _ _ _=>trivial) (λd y r st D=>by
   obtain⟨h,ps,o2,f,e,j,m⟩:=D;subst e;obtain⟨g,i⟩:=y;have n:(rows.zipIdx)[d.length]?=a5 (g,i):=by rw[<-h];simp
   rw[T6,fx]at n;obtain⟨a,o,e⟩:=n;have G:a=g:=Ŕ û e;have q:0+d.length=i:=Ŕ Prod.snd e;rw[OE]at q;subst G q;have N:d.length<100:=by have:=Ŕ LA h;simp at this;lia
   have H:=A a (l0 o);let b:Option (Kd×U):=a5 (.loc,.int (d.length:Nat));let c:Option (Kd×U):=a5 (.loc,A' a);have s:=jc (cond:=bb Γ []) (elt:=ev Γ (.tup [.var 0,.var 3])) (src:=[(.loc,.tup (a.2.map .str))]) (st:=S ps b c) trivial .loc (.inl rfl) U.str (λx=>stN (x,d.length)) .loc (λ_=>iz) a.2 [] (by simp;lia)
    (λy _=>⟨fQ (af (ae rfl) (af (ae rfl) ai)) trivial (aA aI (aA aI aF)) (by show 2<=cL;lia),aI⟩)
   rw[mf]at s;have e:(a.2.map U.str).map (λu=>(kE .loc,u))=a.2.map λr=>(Kd.loc,U.str r):=by rw[i5];rfl
   have I:Run (ev Γ (.comp 1 cc .seq [.idx (.var 3) (.cst (.int 1))] [] (.tup [.var 0,.var 3]))) (S ps b c) (.own,.lst (a.2.map λx=>stN (x,d.length))) (S ps b c) :=
    dO (rs:=[(.loc,.tup (a.2.map .str))]) (af (aN (x:=(.loc,A' a)) (ae rfl) aj trivial rfl) ai) trivial (by show a5 _=_;rw[e]) s
   have em:ps.map stN++(a.2.map λx=>stN (x,d.length))=(ps++a.2.map λx=>(x,d.length)).map stN:=by simp
   refine⟨S ps b c,S (ps++a.2.map λx=>(x,d.length)) b c,jA (.inl rfl),?_,by rw[<-h];simp,_,_,_,rfl,λw=>?_,by simp;lia⟩
   ·show Run _ _ _ [a5 (.loc,.tup (rows.map A')),a5 (.own,.lst ((ps++a.2.map λx=>(x,d.length)).map stN)),b,c];rw[<-em];exact vi (k:=.own) (k':=.own) rfl I rfl rfl (vk (by rw[c4,c4];lia) rfl) aw
   ·rw[hV];exact xq z o j w) rows.zipIdx [] (S [] b6 b6) ⟨rfl,[],b6,b6,rfl,λw=>by simp[aK,JJ],by simp⟩
 subst e;rw[mf,List.length_zipIdx]at j m;have l:K7 .Ng [(.loc,.tup (rows.map A'))]=a5 (rows.zipIdx.map λp:Row×Nat=>(Kd.loc,U.tup [.int (p.2:Nat),A' p.1])):=by
  show a5 ((rows.map A').zipIdx.map λp=>(kE .loc,U.tup [.int p.2,p.1]))=_;rw[ñ,i5];rfl
 obtain⟨ks,k1,k2⟩:=v ps ⋯;have J:aK ps=JJ rows rows.length:=funext j;rw[J]at k1 k2;refine⟨ks,k1,?_⟩;exact bw rfl (.inl rfl) B (av (r:=(.own,.lst [])) (bT ai trivial aF (ki _)) bh (c7 (rs:=[(.loc,.tup (rows.map A'))]) (st1:=S [] b6 b6) (af (ae rfl) ai) trivial l rfl C
  (bO (bE (af (aB rfl) ai) ⟨⟨.own,rfl,rfl⟩,trivial⟩ k2) gD)))
theorem l8{names:List Str}(v:∀r∈rows,r.1∈names)(Q:names.length<64)(y:∀t∈R,t<rows.length):
  ∃st:List (Str×Nat),NS rows K0 R st/\cw Γ cR [.tup (rows.map A'),.lst (R.map λt:Nat=>.int (t:Nat)),.I_ K0 vs]=a5 (.ok (.own,.lst (st.map stN))):=by
 have hsz:(2000:Nat)<=cL:=by decide
 have z:TM.start [.tup (rows.map A'),.lst (R.map λt:Nat=>.int (t:Nat)),.I_ K0 vs] 6=[a5 (.loc,.tup (rows.map A')),a5 (.any,.lst (R.map λt:Nat=>.int (t:Nat))),a5 (.any,.I_ K0 vs),b6,b6,b6]:=by simp[TM.start,Js,aO]
 let S:=λ(ps:List (Str×Nat)) (o4 o5:Option (Kd×U))=>([a5 (.loc,.tup (rows.map A')),a5 (.any,.lst (R.map λt:Nat=>.int (t:Nat))),a5 (.any,.I_ K0 vs),a5 (.own,.I_ (ps.map (·.1)) (ps.map λp=>.int (p.2:Nat))),o4,o5]:az)
 let body:List TM.S:=[.set 5 (.idx (.idx (.var 0) (.var 4)) (.cst (.int 0))),
   .ite (.and [.cmp .Jo (.var 5) (.var 2),.cmp .Jo (.var 5) (.var 3)])
    [.put 3 (.var 5) (.var 4)]
    []]
 have o:∀{d:List Nat} {ps:List (Str×Nat)},NS rows K0 d ps->ps.length<=names.length:=λ{d ps} x=>by
  have:=vq x.once (L:=names) λw A=>by
   obtain⟨s,hs,rfl⟩:=lg.mp A;obtain⟨_,_,r,b,c⟩:=x.ok s hs;rw[<-c];exact v r (l0 b)
  simpa using this
 obtain⟨st',B,j,ps,o4,o5,e,x⟩:=cM (t:=cc) (is:=[4]) (body:=execs Γ body) (rs:=[(.any,.lst (R.map λt:Nat=>.int (t:Nat)))]) (λt:Nat=>(Kd.any,U.int (t:Nat)))
  (λd r st=>d++r=R/\∃(ps:List (Str×Nat)) (o4 o5:Option (Kd×U)),st=S ps o4 o5/\NS rows K0 d ps) (λ_ _ _ _=>trivial) (λd t r st C=>by
   obtain⟨j,ps,o4,o5,e,x⟩:=C;subst e;have D:t<rows.length:=y t (by rw[<-j];simp);have l:rows[t]?=a5 rows[t]:=by simp[D]
   generalize rows[t]=a at l;let f:Option (Kd×U):=a5 (.any,.int (t:Nat));let m:Option (Kd×U):=a5 (.loc,.str a.1);have G:=o x;have i:Run (Jt Γ (.and [.cmp .Jo (.var 5) (.var 2),.cmp .Jo (.var 5) (.var 3)])) (S ps f m) (!dt (a.1∈K0)&&!dt (a.1∈ps.map (·.1))) (S ps f m) :=
    jz (sZ (aV (ae rfl) (a_ rfl) trivial gc) λ_=>fc (aV (ae rfl) (aB rfl) ⟨⟨.own,rfl,rfl⟩,trivial⟩ gc))
   have g:∀{q:az},Run (execs Γ [.ite (.and [.cmp .Jo (.var 5) (.var 2),.cmp .Jo (.var 5) (.var 3)])
    [.put 3 (.var 5) (.var 4)]
    []]) (S ps f m) .nx q->Run (execs Γ body) (S ps f o5) .nx q:=λh =>
    av (r:=(.loc,.str a.1)) (aN (x:=(.loc,A' a)) (aN (ae rfl) (a_ rfl) trivial (kh (pq l))) aj trivial rfl) aE h
   have n:Run (dB cc [4] (.any,.int (t:Nat))) (S ps o4 o5) () (S ps f o5):=eh iA;by_cases b:a.1∈K0
   ·rw[œ b]at i;exact⟨_,_,n,g (pe i (λh=>by cases h) λ_=>aw),by rw[<-j];simp,ps,_,_,rfl,x.skip l (.inl b)⟩
   ·by_cases c:a.1∈ps.map (·.1)
    ·rw[Œ b,œ c]at i;exact⟨_,_,n,g (pe i (λh=>by cases h) λ_=>aw),by rw[<-j];simp,ps,_,_,rfl,x.skip l (.inr c)⟩
    ·rw[Œ b,Œ c]at i;refine⟨_,S (ps++[(a.1,t)]) f m,n,g (pe i (λ_=>?_) λh=>by cases h),by rw[<-j];simp,_,_,_,rfl,x.take l b c⟩;have H:(ps++[(a.1,t)]).map (·.1)=ps.map (·.1)++[a.1]:=by simp
     have I:((ps++[(a.1,t)]).map λp=>U.int (p.2:Nat))=(ps.map λp=>U.int (p.2:Nat))++[.int (t:Nat)]:=by simp
     show Run _ _ _ [a5 (.loc,.tup (rows.map A')),a5 (.any,.lst (R.map λt:Nat=>.int (t:Nat))),a5 (.any,.I_ K0 vs),a5 (.own,.I_ ((ps++[(a.1,t)]).map (·.1)) ((ps++[(a.1,t)]).map λp=>.int (p.2:Nat))),f,m];rw[H,I];exact iD (k:=.own) (rv:=(.any,.int (t:Nat))) (rk:=(.loc,.str a.1)) (a_ rfl) rfl (ae rfl) (aA (qF rfl) (aA aI aF)) rfl rfl (vt (by rw[c4];lia) c) aw) R [] (S [] b6 b6) ⟨rfl,[],b6,b6,rfl,NS.start K0⟩
 subst e;rw[mf]at x;have G:=o x;obtain⟨J,N,O⟩:=CJ (ps:=ps) ⋯ x.once;refine⟨J,x.perm N,?_⟩;have e:(R.map λt:Nat=>U.int (t:Nat)).map (λu=>(kE .any,u))=R.map λt=>(Kd.any,U.int (t:Nat)):=by rw[i5];rfl
 exact bw rfl (.inl rfl) z (av (r:=(.own,.I_ [] [])) lx bh (c7 (rs:=[(.any,.lst (R.map λt:Nat=>.int (t:Nat)))]) (st1:=S [] b6 b6) (af (a_ rfl) ai) trivial rfl rfl (by rw[e];exact B) (bO (HI rfl O) gD)))
end
noncomputable def mi(rows:List Row)(K0:List Str)(d:List Nat)(p:Nat):Int:=(cnt rows K0 p:Int) - (if p∈d then 1 else 0)
noncomputable def bM(rows:List Row)(f:Nat->Int):List U:=(i0 rows.length).map λp=>U.int (f p)
noncomputable def fg(R:List Nat):List U:=R.map λt:Nat=>U.int (t:Nat)
theorem C6(rows:List Row)(K0:List Str):bM rows (mi rows K0 [])=bM rows λp=>(cnt rows K0 p:Int):=by
 unfold bM mi;refine td λp _=>?_;simp
theorem C7(b:Once rows)(c:w∉K0):bM rows (mi rows K0 (JJ rows rows.length w))=bM rows λp=>(cnt rows (K0++[w]) p:Int):=by
 unfold bM mi;refine td λp d=>?_;have e:=tA.mp d;have a:=pj b c p;by_cases h:w∈told rows p
 ·rw[Ő (iG.mpr ⟨e,h⟩)];rw[Ő h]at a;show U.int ((cnt rows K0 p:Int) - 1)=U.int (cnt rows (K0++[w]) p:Int);congr 1
  lia
 ·rw[ő λz=>h (iG.mp z).2];rw[ő h]at a;show U.int ((cnt rows K0 p:Int) - 0)=U.int (cnt rows (K0++[w]) p:Int);congr 1
  lia
theorem Az(a:t∉d):(bM rows (mi rows K0 d)).set t (.int (mi rows K0 d t - 1))=bM rows (mi rows K0 (d++[t])):=by
 unfold bM;rw[set_range];refine td λp _=>?_;unfold mi;by_cases e:p=t
 ·subst e;rw[Ő rfl,ő a,Ő (by simp)];rw[show((cnt rows K0 p:Int) - 0 - 1)=(cnt rows K0 p:Int) - 1 by lia]
 ·rw[ő e];have:(p∈d++[t])↔p∈d:=by simp[e]
  simp only[this]
theorem AA(h:t<rows.length):(bM rows f)[t]?=a5 (.int (f t)):=by simp[bM,h]
section
variable{Γ:Tab}{rows:List Row}
noncomputable def vO:List TM.S:=[.aug b8 2 (.var 9) (.cst (.int 1)),.ite (.cmp .eq (.idx (.var 2) (.var 9)) (.cst (.int 0))) [.app 5 (.var 9)] []]
theorem rq(u:Once rows)(J:rows.length<=100)(v:w∉K0)(L:R.length<=10000)(o9:Option (Kd×U))(y:∀st,bt src st):∃l:Option (Kd×U),
  Run (forM cc [9] (execs Γ vO) src ((JJ rows rows.length w).map λt:Nat=>(Kd.loc,U.int (t:Nat))))
   [b0,b1,a5 (.own,.lst (bM rows λp=>(cnt rows K0 p:Int))),b3,b4,a5 (.own,.lst (fg R)),o6,o7,o8,o9] .nx
   [b0,b1,a5 (.own,.lst (bM rows λp=>(cnt rows (K0++[w]) p:Int))),b3,b4,a5 (.own,.lst (fg (R++(JJ rows rows.length w).filter λt=>dt (cnt rows K0 t=1)))),o6,o7,o8,l]:=by
 have hsz:(20000:Nat)<=cL:=by decide
 let S:=λ(ms:List U) (R:List Nat) (o9:Option (Kd×U))=>([b0,b1,a5 (.own,.lst ms),b3,b4,a5 (.own,.lst (fg R)),o6,o7,o8,o9]:az)
 obtain⟨st',m,c,l,e⟩:=cM (t:=cc) (is:=[9]) (body:=execs Γ vO) (rs:=src) (λt:Nat=>(Kd.loc,U.int (t:Nat)))
  (λd r st=>d++r=JJ rows rows.length w/\∃o9:Option (Kd×U),st=S (bM rows (mi rows K0 d)) (R++d.filter λt=>dt (cnt rows K0 t=1)) o9) (λ_ _ st _=>y st) (λd t r st A=>by
   obtain⟨c,o9,e⟩:=A;subst e;have B:t∈JJ rows rows.length w:=by rw[<-c];simp
   have n:t<rows.length:=(iG.mp B).1;have o:=xp (rows:=rows) rows.length w;have C:t∉d:=λz=>by
    rw[<-c,rr]at o;exact o.2.2 t z t (by simp) rfl
   have N:d.length<=100:=by
    have D:=Ŕ LA c;have G:(JJ rows rows.length w).length<=(i0 rows.length).length:=w6 _ _;simp at D G;lia
   let b:Option (Kd×U):=a5 (.loc,.int (t:Nat));let a:=R++d.filter λt=>dt (cnt rows K0 t=1);have O:a.length<=10100:=by
    have:(d.filter λt=>dt (cnt rows K0 t=1)).length<=d.length:=w6 _ _;show(R++_).length<=_;rw[hV];lia
   have H:J7 (bM rows (mi rows K0 (d++[t]))) (t:Int)=a5 (.int (mi rows K0 (d++[t]) t)):=jS (AA n);have I:mi rows K0 (d++[t]) t=(cnt rows K0 t:Int) - 1:=by unfold mi;rw[Ő (by simp)]
   have g:Run (Jt Γ (.cmp .eq (.idx (.var 2) (.var 9)) (.cst (.int 0)))) (S (bM rows (mi rows K0 (d++[t]))) a b) (dt (cnt rows K0 t=1)) (S (bM rows (mi rows K0 (d++[t]))) a b) :=
    aV (aN (x:=(.bor 2,.lst (bM rows (mi rows K0 (d++[t]))))) (aB rfl) (ae rfl) ⟨⟨.own,rfl,rfl⟩,trivial⟩ (cJ H)) aj trivial (cq (by
     rw[I,Ll];simp;lia))
   have f:∀{q:az},Run (execs Γ [.ite (.cmp .eq (.idx (.var 2) (.var 9)) (.cst (.int 0)))
      [.app 5 (.var 9)]
      []]) (S (bM rows (mi rows K0 (d++[t]))) a b) .nx q->Run (execs Γ vO) (S (bM rows (mi rows K0 d)) a b) .nx q:=λh=>by
    refine HH (us:=bM rows (mi rows K0 d)) (k1:=.loc) (k2:=.loc) (j:=t) (w:=1) rfl (ae rfl) (AA n) aj ?_;rw[Az C];exact h
   have s:Run (dB cc [9] (.loc,.int (t:Nat))) (S (bM rows (mi rows K0 d)) a o9) () (S (bM rows (mi rows K0 d)) a b):=eh aE;cases i:dt (cnt rows K0 t=1) with
   |false =>
    rw[i]at g;refine⟨_,_,s,f (pe g (λh=>by cases h) λ_=>aw),by rw[<-c];simp,b,?_⟩;rw[R3,J3,i];simp[S,a]
   |true =>
    rw[i]at g;refine⟨_,S (bM rows (mi rows K0 (d++[t]))) (a++[t]) b,s,f (pe g (λ_=>?_) λh=>by cases h),by rw[<-c];simp,b,?_⟩
    ·have em:fg (a++[t])=fg a++[.int (t:Nat)]:=by simp[fg]
     show Run _ _ _ [b0,b1,a5 (.own,.lst (bM rows (mi rows K0 (d++[t])))),b3,b4,a5 (.own,.lst (fg (a++[t]))),o6,o7,o8,b];rw[em];exact fm (k:=.own) (k':=.own) (r:=(.loc,.int (t:Nat))) rfl (ae rfl) aI rfl rfl (by unfold fg;rw[c4];lia) aw
    ·rw[R3,J3,i];simp[S,a]) (JJ rows rows.length w) [] (S (bM rows (mi rows K0 [])) R o9) ⟨rfl,o9,by simp⟩
 subst e;rw[mf]at m;rw[C6,C7 u v]at m;exact⟨l,m⟩
noncomputable def AB:List TM.S:=[.put 3 (.var 7) (.cst (.bl b8)),.Jv cc [9] .seq [.LH 1 (.var 7) (.lst [])] vO]
theorem xy(n:Once rows)(y:rows.length<=100)(A:∀w,w∉ks->JJ rows rows.length w=[])(o:(K0++st.map (·.1)).Nodup)(hl:K0.length+st.length<=100)(vs:List U)(o7 o8 o9:Option (Kd×U)):∃(g:List U) (R:List Nat) (i j a:Option (Kd×U)),
  RI rows K0 (K0++st.map (·.1)) R/\(st=[]->R=[])/\Run (forM b8 [7,8] (execs Γ AB) [(.bor 6,.lst (st.map stN))] (st.map λs=>(Kd.loc,stN s)))
   [b0,a5 (.own,.I_ ks (ks.map (cB (JJ rows rows.length)))),a5 (.own,.lst (bM rows λp=>(cnt rows K0 p:Int))),a5 (.own,.I_ K0 vs),b4,a5 (.own,.lst []),a5 (.own,.lst (st.map stN)),o7,o8,o9] .nx
   [b0,a5 (.own,.I_ ks (ks.map (cB (JJ rows rows.length)))),a5 (.own,.lst (bM rows λp=>(cnt rows (K0++st.map (·.1)) p:Int))),a5 (.own,.I_ (K0++st.map (·.1)) g),b4,a5 (.own,.lst (fg R)),a5 (.own,.lst (st.map stN)),i,j,a]:=by
 let S:=λ(K:List Str) (vs:List U) (R:List Nat) (o7 o8 o9:Option (Kd×U))=>([b0,a5 (.own,.I_ ks (ks.map (cB (JJ rows rows.length)))),a5 (.own,.lst (bM rows λp=>(cnt rows K p:Int))),a5 (.own,.I_ K vs),b4,a5 (.own,.lst (fg R)),a5 (.own,.lst (st.map stN)),o7,o8,o9]:az)
 obtain⟨st',B,b,g,R,i,j,a,e,x,C,q⟩:=cM (t:=b8) (is:=[7,8]) (body:=execs Γ AB) (rs:=[(.bor 6,.lst (st.map stN))]) (λs:Str×Nat=>(Kd.loc,stN s))
  (λd r l=>d++r=st/\∃(vs:List U) (R:List Nat) (o7 o8 o9:Option (Kd×U)),l=S (K0++d.map (·.1)) vs R o7 o8 o9/\RI rows K0 (K0++d.map (·.1)) R/\R.length<=100 * d.length/\(d=[]->R=[])) (λ_ _ l ⟨_,vs,R,o7,o8,o9,e,_⟩=>by subst e;exact⟨⟨.own,rfl,rfl⟩,trivial⟩) (λd s r l D=>by
   obtain⟨b,vs,R,o7,o8,o9,e,x,C,q⟩:=D;subst e;obtain⟨w,p⟩:=s;have N:d.length<st.length:=by have:=Ŕ LA b;simp at this;lia
   have m:w∉K0++d.map (·.1):=λz=>by
    rw[<-b,js,<-Ö,rr]at o;exact o.2.2 w z w (by simp) rfl
   let c:Option (Kd×U):=a5 (.loc,.str w);let f:Option (Kd×U):=a5 (.loc,.int (p:Nat));obtain⟨a,G⟩:=rq (Γ:=Γ) n y m (R:=R) ⋯ (b0:=b0) (b1:=a5 (.own,.I_ ks (ks.map (cB (JJ rows rows.length))))) (b3:=a5 (.own,.I_ (K0++d.map (·.1)++[w]) (vs++[.bl b8]))) (b4:=b4) (o6:=a5 (.own,.lst (st.map stN))) (o7:=c) (o8:=f) o9 (src:=[(.loc,cB (JJ rows rows.length) w)]) (λ_=>trivial);have em:K0++(d++[(w,p)]).map (·.1)=K0++d.map (·.1)++[w]:=by simp
   have H:(K0++d.map (·.1)).length<1000:=by rw[hV,c4];lia
   have I:(match cv ks (ks.map (cB (JJ rows rows.length))) w with|some v=>(Kd.loc,v)|none=>(.loc,U.lst []))=(.loc,cB (JJ rows rows.length) w):=by
    rw[lE];by_cases h:w∈ks
    ·rw[Ő h]
    ·rw[ő h];unfold cB;rw[A w h];rfl
   have J:((JJ rows rows.length w).map λt:Nat=>U.int (t:Nat)).map (λu=>(kE .loc,u))=(JJ rows rows.length w).map λt=>(Kd.loc,U.int (t:Nat)):=by rw[i5];rfl
   refine⟨S (K0++d.map (·.1)) vs R c f o9,S (K0++d.map (·.1)++[w]) (vs++[.bl b8]) (R++(JJ rows rows.length w).filter λt=>dt (cnt rows (K0++d.map (·.1)) t=1)) c f a,jA (.inl rfl),?_,by rw[<-b];simp,vs++[.bl b8],_,c,f,a,by rw[em],?_,?_,λz=>by simp at z⟩
   ·refine iD (k:=.own) (rv:=(.loc,.bl b8)) (rk:=(.loc,.str w)) aj rfl (ae rfl) (aA aI (aA aI aF)) rfl rfl (vt H m) ?_;exact c7 (rs:=[(.loc,cB (JJ rows rows.length) w)]) (af (F0 (k:=.loc) (z:=(.own,.lst [])) (u:=.lst []) rfl (ae rfl) (bT ai trivial aF (ki _)) zC I) ai) trivial (by show a5 (Xg (λu=>(kE .loc,u)) _)=_;rw[J]) rfl G aw
   ·rw[em];exact x.step n m
   ·have:((JJ rows rows.length w).filter λt=>dt (cnt rows (K0++d.map (·.1)) t=1)).length<=100:=by
     refine H8 (w6 _ _) ?_;have L:(JJ rows rows.length w).length<=(i0 rows.length).length:=w6 _ _;simp at L;lia
    rw[hV,hV,sx];lia) st [] (S K0 vs [] o7 o8 o9) ⟨rfl,vs,[],o7,o8,o9,by simp[S],by simpa using RI.start K0,by simp,λ_=>rfl⟩
 subst e;exact⟨g,R,i,j,a,by simpa using x,λz=>q (by simpa using z),by simpa[S,fg] using B⟩
noncomputable def gp(a:List (List (Str×Nat))):List U:=a.map λl=>U.lst (l.map stN)
noncomputable def AD:List TM.S:=[.set 6 (.call "new_steps" [.var 0,.var 5,.var 3]),.set 5 (.lst []),.Jv b8 [7,8] .seq [.var 6] AB,.ite (.cmp .ne (.var 6) (.lst [])) [.app 4 (.var 6)] []]
def AE(Γ:Tab)(rows:List Row):Prop:=∀(R:List Nat) (K0:List Str) (vs:List U),(∀t∈R,t<rows.length)->∃st:List (Str×Nat),NS rows K0 R st/\Γ "new_steps" [.tup (rows.map A'),.lst (fg R),.I_ K0 vs]=a5 (.ok (.own,.lst (st.map stN)))
theorem jj(G:Once rows)(H:rows.length<=100)(I:AE Γ rows)(J:∀w,w∉ks->JJ rows rows.length w=[]):∀(f:Nat) (c:List (Str×Nat)) (d:List (List (Str×Nat))) (R:List Nat) (vs:List U) (o6 o7 o8 o9:Option (Kd×U)),
  LI rows c R->d.flatten=c->d.length<=c.length->(rows.length - c.length)+(if R=[] then 1 else 2)<=f ->
  ∃(QT:List (Str×Nat)) (N:List (List (Str×Nat))) (st':az),LI rows QT []/\N.flatten=QT/\N.length<=100/\st'[4]?=a5 (a5 (.own,.lst (gp N))) /\
   Run (fw (Jt Γ (.cmp .ne (.var 5) (.lst []))) (execs Γ AD) f) [a5 (.loc,.tup (rows.map A')),a5 (.own,.I_ ks (ks.map (cB (JJ rows rows.length)))),a5 (.own,.lst (bM rows λp=>(cnt rows (c.map (·.1)) p:Int))),a5 (.own,.I_ (c.map (·.1)) vs),a5 (.own,.lst (gp d)),a5 (.own,.lst (fg R)),o6,o7,o8,o9] .nx st'
 |0,c,d,R,vs,o6,o7,o8,o9,_,_,_,h=>by split at h<;>lia
 |f+1,c,d,R,vs,o6,o7,o8,o9,x,O,Rj,h=>by
  have hsz:(20000:Nat)<=cL:=by decide
  have M4:∀{s:List (Str×Nat)} {g:List Nat},LI rows s g->s.length<=rows.length:=λ{s g} x=>by
   have:=vq x.nd x.wd;simpa using this
  have Ka:=M4 x;let S:=λ(K:List Str) (vs:List U) (d:List (List (Str×Nat))) (R:List Nat) (o6 o7 o8 o9:Option (Kd×U))=>([a5 (.loc,.tup (rows.map A')),a5 (.own,.I_ ks (ks.map (cB (JJ rows rows.length)))),a5 (.own,.lst (bM rows λp=>(cnt rows K p:Int))),a5 (.own,.I_ K vs),a5 (.own,.lst (gp d)),a5 (.own,.lst (fg R)),o6,o7,o8,o9]:az)
  have Zm:∀R:List Nat,J1 50 (.lst (fg R))=b8:=λR=>by show dA 49 _=b8;exact nG (λt:Nat=>((t:Nat):Int)) R 49
  have A:Run (Jt Γ (.cmp .ne (.var 5) (.lst []))) (S (c.map (·.1)) vs d R o6 o7 o8 o9) (!(fg R).isEmpty) (S (c.map (·.1)) vs d R o6 o7 o8 o9) :=
   aV (aB rfl) (bT ai trivial aF (ki _)) ⟨⟨.own,rfl,rfl⟩,trivial⟩ (lF (Zm R))
  by_cases Q:R=[]
  ·subst Q;exact⟨c,d,_,x,O,⋯,rfl,nz A⟩
  ·rw[ő Q]at h;have Zn:(!(fg R).isEmpty)=b8:=by
    cases R with
    |nil=>exact absurd rfl Q
    |cons a l=>rfl
   rw[Zn]at A;obtain⟨st,n,Jh⟩:=I R (c.map (·.1)) vs λt ht=>(x.QI t ht).1;have Jj:(c.map (·.1)++st.map (·.1)).Nodup:=by
    rw[rr];refine⟨x.nd,n.once,λa ha b q e=>?_⟩;obtain⟨s,hs,rfl⟩:=lg.mp q;exact(n.ok s hs).2.1 (e▸ha)
   have ab:c.length+st.length<=rows.length:=by
    have:=vq Jj (L:=rows.map (·.1)) λy hy=>by
     rcases kj.mp hy with hy|hy
     ·exact x.wd y hy
     ·obtain⟨s,hs,rfl⟩:=lg.mp hy;obtain⟨_,_,r,q1,q2⟩:=n.ok s hs;exact lg.mpr ⟨r,l0 q1,q2⟩
    simpa using this
   let v:Option (Kd×U):=a5 (.own,.lst (st.map stN));obtain⟨i,g,j,m,o,y,Zo,US⟩:=xy (Γ:=Γ) G H J Jj (by rw[c4];lia) (b0:=a5 (.loc,.tup (rows.map A'))) (b4:=a5 (.own,.lst (gp d))) vs o7 o8 o9;have T:=x.step n y;have em:(c++st).map (·.1)=c.map (·.1)++st.map (·.1):=js;have Zp:J1 50 (.lst (st.map stN))=b8:=by show dA 49 _=b8;exact qY st 48
   have B:Run (Jt Γ (.cmp .ne (.var 6) (.lst []))) (S (c.map (·.1)++st.map (·.1)) i d g v j m o) (!(st.map stN).isEmpty) (S (c.map (·.1)++st.map (·.1)) i d g v j m o) :=
    aV (aB rfl) (bT ai trivial aF (ki _)) ⟨⟨.own,rfl,rfl⟩,trivial⟩ (lF Zp)
   have e1:(st.map stN).map (λu=>(kE (.bor 6),u))=st.map λs=>(Kd.loc,stN s):=by rw[i5];rfl
   have z:∀{KP:az},Run (execs Γ [.ite (.cmp .ne (.var 6) (.lst []))
    [.app 4 (.var 6)]
    []]) (S (c.map (·.1)++st.map (·.1)) i d g v j m o) .nx KP->Run (execs Γ AD) (S (c.map (·.1)) vs d R o6 o7 o8 o9) .nx KP:=λh=>by
    refine av (r:=(.own,.lst (st.map stN))) (bE (af (ae rfl) (af (aB rfl) (af (aB rfl) ai))) ⟨⟨.own,rfl,rfl⟩,⟨.own,rfl,rfl⟩,trivial⟩ Jh) bh ?_;refine av (r:=(.own,.lst [])) (bT ai trivial aF (ki _)) bh ?_;exact c7 (rs:=[(.bor 6,.lst (st.map stN))]) (af (aB rfl) ai) ⟨⟨.own,rfl,rfl⟩,trivial⟩ (by show a5 (Xg (λu=>(kE (.bor 6),u)) _)=_;rw[e1]) rfl US h
   by_cases C:st=[]
   ·have Zq:=Zo C;subst C;rw[show(!(([]:List (Str×Nat)).map stN).isEmpty)=cc from rfl]at B;have ee:c++[]=c:=r6 _;rw[ee]at T;have q:=z (pe B (λh=>by cases h) λ_=>aw);obtain⟨Y,OR,st2,z1,z2,z3,z4,D⟩:=jj G H I J f c d g i v j m o T O Rj (by rw[Ő Zq];lia);refine⟨Y,OR,st2,z1,z2,z3,z4,qV A q ?_⟩;have e3:c.map (·.1)++([]:List (Str×Nat)).map (·.1)=c.map (·.1):=by simp
    show Run _ (S (c.map (·.1)++([]:List (Str×Nat)).map (·.1)) i d g v j m o) _ _;rw[e3];exact D
   ·have UT:(!(st.map stN).isEmpty)=b8:=by
     cases st with
     |nil=>exact absurd rfl C
     |cons a l=>rfl
    rw[UT]at B;have Zr:0<st.length:=List.length_pos_iff.mpr C;have ef:gp (d++[st])=gp d++[.lst (st.map stN)]:=by simp[gp]
    have q:Run (execs Γ AD) (S (c.map (·.1)) vs d R o6 o7 o8 o9) .nx (S (c.map (·.1)++st.map (·.1)) i (d++[st]) g (a5 (.loc,.lst (st.map stN))) j m o):=by
     refine z (pe B (λ_=>?_) λh=>by cases h);show Run _ _ _ [a5 (.loc,.tup (rows.map A')),a5 (.own,.I_ ks (ks.map (cB (JJ rows rows.length)))),a5 (.own,.lst (bM rows λp=>(cnt rows (c.map (·.1)++st.map (·.1)) p:Int))),a5 (.own,.I_ (c.map (·.1)++st.map (·.1)) i),a5 (.own,.lst (gp (d++[st]))),a5 (.own,.lst (fg g)),a5 (.loc,.lst (st.map stN)),j,m,o];rw[ef];exact fm (k:=.own) (k':=.own) (r:=(.bor 6,.lst (st.map stN))) (u:=.lst (st.map stN)) rfl (aB rfl) (HE rfl) rfl rfl (by unfold gp;rw[c4];lia) aw
    obtain⟨Y,OR,st2,z1,z2,z3,z4,D⟩:=jj G H I J f (c++st) (d++[st]) g i (a5 (.loc,.lst (st.map stN))) j m o T (by rw[ZM,O];simp) (by rw[hV,hV,sx];lia) (by rw[hV];split<;>lia);refine⟨Y,OR,st2,z1,z2,z3,z4,qV A q ?_⟩;rw[em]at D;exact D
def DF(Γ:Tab)(rows:List Row):Prop:=∃ks:List Str,(∀w,w∉ks->JJ rows rows.length w=[])/\Γ "places_that_tell" [.tup (rows.map A')]=a5 (.ok (.own,.I_ ks (ks.map (cB (JJ rows rows.length)))))
theorem gq(s:Once rows)(v:rows.length<=100)(w:DF Γ rows)(z:AE Γ rows):∃(f:List (Str×Nat)) (d:List (List (Str×Nat))),LI rows f []/\d.flatten=f/\d.length<=100/\cw Γ bj [.tup (rows.map A')]=a5 (.ok (.own,.lst (gp d))):=by
 have hsz:(20000:Nat)<=cL:=by decide
 obtain⟨ks,A,B⟩:=w;have C:TM.start [.tup (rows.map A')] 10=[a5 (.loc,.tup (rows.map A')),b6,b6,b6,b6,b6,b6,b6,b6,b6]:=by simp[TM.start,Js,aO]
 let g:Option (Kd×U):=a5 (.loc,.tup (rows.map A'));let j:Option (Kd×U):=a5 (.own,.I_ ks (ks.map (cB (JJ rows rows.length))));let D:Option (Kd×U):=a5 (.own,.lst (bM rows λp=>(cnt rows [] p:Int)));have G:Run (ev Γ (.comp 1 cc .seq [.var 0] [] (.bi .len [.idx (.var 0) (.cst (.int 1))]))) [g,j,b6,b6,b6,b6,b6,b6,b6,b6] (.own,.lst (bM rows λp=>(cnt rows [] p:Int))) [g,j,b6,b6,b6,b6,b6,b6,b6,b6]:=by
  have c:=jc (cond:=bb Γ []) (elt:=ev Γ (.bi .len [.idx (.var 0) (.cst (.int 1))])) (src:=[(.loc,.tup (rows.map A'))]) (st:=[g,j,b6,b6,b6,b6,b6,b6,b6,b6]) trivial .loc (.inl rfl) A' (λr=>.int (r.2.length:Nat)) .loc (λ_=>iz) rows [] (by simp;lia)
   (λy _=>⟨bW (af (aN (x:=(.loc,A' y)) (ae rfl) aj trivial rfl) ai) trivial (by rw[pb,c4]),aI⟩)
  rw[mf]at c;have e:(rows.map A').map (λu=>(kE .loc,u))=rows.map λr=>(Kd.loc,A' r):=by rw[i5];rfl
  have H:(rows.map λr=>U.int (r.2.length:Nat))=bM rows λp=>(cnt rows [] p:Int):=by
   unfold bM;apply LD
   ·simp
   ·intro i k l;have hi:i<rows.length:=by simpa using k
    have m:told rows i=rows[i].2:=jZ (by simp[hi]);have I:cnt rows [] i=rows[i].2.length:=by unfold cnt tv;rw[m];simp
    simp[I]
  rw[H]at c;exact dO (rs:=[(.loc,.tup (rows.map A'))]) (af (ae rfl) ai) trivial (by show a5 _=_;rw[e]) c
 let n:=(i0 rows.length).filter λp=>dt (cnt rows [] p=0);let o:az:=[g,j,D,a5 (.own,.I_ [] []),a5 (.own,.lst []),b6,b6,b6,b6,b6]
 have J:Run (ev Γ (.comp 2 b8 .Ng [.var 2] [.cmp .eq (.var 1) (.cst (.int 0))] (.var 0))) o (.own,.lst (fg n)) o:=by
  have c:=je (st:=o) (cond:=bb Γ [.cmp .eq (.var 1) (.cst (.int 0))]) (elt:=ev Γ (.var 0)) (src:=[(.bor 2,.lst (bM rows λp=>(cnt rows [] p:Int)))]) ⟨⟨.own,rfl,rfl⟩,trivial⟩ (λp:Nat=>U.int (p:Nat)) (λp:Nat=>U.int (cnt rows [] p:Int)) (λp:Nat=>U.int (p:Nat)) (λp=>dt (cnt rows [] p=0)) (i0 rows.length) [] (by simp;lia)
   (λy _=>⟨fc (aV (ae rfl) aj trivial (cq (by rw[Ll];simp))),ae rfl⟩)
  rw[mf]at c;have e:((bM rows λp=>(cnt rows [] p:Int)).zipIdx.map λp=>(kE (.bor 2),U.tup [.int p.2,p.1]))=(i0 rows.length).map λp:Nat=>(Kd.loc,U.tup [.int (p:Nat),.int (cnt rows [] p:Int)]):=by
   unfold bM;apply LD
   ·simp
   ·intro i k l;simp[kE]
  exact dO (rs:=[(.bor 2,.lst (bM rows λp=>(cnt rows [] p:Int)))]) (af (aB rfl) ai) ⟨⟨.own,rfl,rfl⟩,trivial⟩ (by show a5 _=_;rw[e]) c
 have L:LI rows [] n:=⟨.nil,λ_ _ _ h=>(nomatch h),λ_ h=>(nomatch h),λt m=>by
  obtain⟨a,b⟩:=NX.mp m;exact⟨tA.mp a,by simpa using b⟩,λt r k l=>.inl (NX.mpr ⟨tA.mpr (dV.mp k).1,by simpa using l⟩)⟩
 obtain⟨f,d,st',N,O,Q,q,T⟩:=jj s v z A fuel [] [] n [] b6 b6 b6 b6 L rfl (hU _) (by unfold fuel;split<;>simp<;>lia);refine⟨f,d,N,O,Q,?_⟩;exact bw rfl (.inl rfl) C (av (r:=(.own,.I_ ks (ks.map (cB (JJ rows rows.length))))) (bE (af (ae rfl) ai) trivial B) bh (av G bh (av (r:=(.own,.I_ [] [])) lx bh (av (r:=(.own,.lst [])) (bT ai trivial aF (ki _)) bh (av J bh (qW T (bO (aB q) (iB q))))))))
theorem xA(hs:Γ "steps_in_rounds" [.tup (rows.map A')]=a5 (.ok (.own,.lst (gp a))))(c:a.flatten=f)(hl:f.length<=100):cw Γ ff [.tup (rows.map A')]=a5 (.ok (.own,.lst (f.map stN))):=by
 have hsz:(20000:Nat)<=cL:=by decide
 have h:TM.start [.tup (rows.map A')] 3=[a5 (.loc,.tup (rows.map A')),b6,b6]:=by simp[TM.start,Js,aO]
 let S:=λ(l:List (Str×Nat)) (o2:Option (Kd×U))=>([a5 (.loc,.tup (rows.map A')),a5 (.own,.lst (l.map stN)),o2]:az)
 obtain⟨st',i,b,o2,e⟩:=cM (t:=cc) (is:=[2]) (body:=execs Γ [.ext 1 (.var 2)]) (rs:=[(.own,.lst (gp a))]) (λl:List (Str×Nat)=>(Kd.loc,U.lst (l.map stN)))
  (λd r st=>d++r=a/\∃o2:Option (Kd×U),st=S d.flatten o2) (λ_ _ _ _=>trivial) (λd y r st j=>by
   obtain⟨b,o2,e⟩:=j;subst e;have m:d.flatten.length+y.length<=100:=by
    have:=Ŕ (λl:List (List (Str×Nat))=>l.flatten.length) b;simp only[ZM,Vo,hV,c]at this;lia
   refine⟨S d.flatten (a5 (.loc,.lst (y.map stN))),S (d++[y]).flatten (a5 (.loc,.lst (y.map stN))),eh aE,?_,by rw[<-b];simp,_,rfl⟩;have em:(d++[y]).flatten.map stN=d.flatten.map stN++y.map stN:=by simp
   show Run _ _ _ [a5 (.loc,.tup (rows.map A')),a5 (.own,.lst ((d++[y]).flatten.map stN)),a5 (.loc,.lst (y.map stN))];rw[em];exact vi (k:=.own) (k':=.own) rfl (ae rfl) rfl rfl (vk (by rw[c4,c4];lia) rfl) aw) a [] (S [] b6) ⟨rfl,b6,rfl⟩
 subst e;have e:(gp a).map (λu=>(kE .own,u))=a.map λl=>(Kd.loc,U.lst (l.map stN)):=by unfold gp;rw[i5];rfl
 have g:=bw (Γ:=Γ) (fn:=ff) rfl (.inl rfl) h (av (r:=(.own,.lst [])) (bT ai trivial aF (ki _)) bh (c7 (rs:=[(.own,.lst (gp a))]) (st1:=S [] b6) (af (bE (af (ae rfl) ai) trivial hs) ai) trivial rfl rfl (by rw[e];exact i) (bO (aB rfl) (iB rfl))));rw[mf,c]at g;exact g
end
section
variable{Γ:Tab}{rows:List Row}{names:List Str}
theorem tV(h:ss.length<64):KU .sorted [(k,.lst (ss.map .str))]=a5 (.own,.lst ((aR ss).map .str)):=by
 show wD k (ss.map .str)=_;unfold wD;rw[dG];show(if ss.length<64 then _ else _)=_;rw[Ő h]
theorem tW{a:List (Str×Nat)}(hl:a.length<64)(ho:Γ "order" [.tup (rows.map A')]=a5 (.ok (.own,.lst (a.map stN)))):cw Γ eO [.tup (rows.map A')]=a5 (.ok (.own,.lst ((aR (a.map (·.1))).map .str))):=by
 have hsz:(20000:Nat)<=cL:=by decide
 have c:TM.start [.tup (rows.map A')] 1=[a5 (.loc,.tup (rows.map A'))]:=by simp[TM.start,Js,aO]
 have b:=je (st:=[a5 (.loc,.tup (rows.map A'))]) (cond:=bb Γ []) (elt:=ev Γ (.var 0)) (src:=[(.own,.lst (a.map stN))]) trivial (λs:Str×Nat=>U.str s.1) (λs=>U.int (s.2:Nat)) (λs=>U.str s.1) (λ_=>b8) a [] (by simp;lia) (λy _=>⟨iz,ae rfl⟩);rw[mf,MR.mpr (λ_ _=>rfl)]at b;have e:(a.map stN).map (λu=>(kE .own,u))=a.map λs=>(Kd.loc,U.tup [.str s.1,.int (s.2:Nat)]):=by rw[i5];rfl
 have d:(a.map λs=>U.str s.1)=(a.map (·.1)).map U.str:=by rw[i5];rfl
 rw[d]at b;exact bw rfl (.inl rfl) c (bO (bW (af (dO (rs:=[(.own,.lst (a.map stN))]) (af (bE (af (ae rfl) ai) trivial ho) ai) trivial (by show a5 (Xg (λu=>(kE .own,u)) _)=_;rw[e]) b) ai) trivial (tV (by rw[c4];exact hl))) gD)
structure UU(prog:List Fn):Prop where
 g:JT prog "gathered" dk
 p:JT prog "places_that_tell" bc
 n:JT prog "new_steps" cR
 s:JT prog "steps_in_rounds" bj
 o:JT prog "order" ff
 l:JT prog "learnt" eO
structure Kn(rows:List Row)(K:List Str):Prop where
 nd:K.Nodup
 sn:MN rows K
 cl:jd rows (·∈K)
theorem Kn.perm(a:Kn rows K)(b:Kn rows L):K.Perm L:=same a.nd b.nd a.sn b.sn a.cl b.cl
theorem Kn.of(s:LI rows a []):Kn rows (a.map (·.1)):=⟨s.nd,s.sn,s.closed⟩
theorem C8(L:UU prog)(n:Nat)(d:∀r∈rows,nu names r)(y:names.length<=24)(e:rows.length<=100):∃c:List (Str×Nat),LI rows c []/\c.length<=24/\Jl prog (n+4) "order" [.tup (rows.map A')]=a5 (.ok (.own,.lst (c.map stN))):=by
 have j:∀r∈rows,r.2.length<=8:=λr h=>(d r h).M4;have f:Once rows:=λr h=>(d r h).once;have i:∀r∈rows,r.1∈names:=λr h=>(d r h).word;have k:DE (Jl prog (n+1)):=λps hl=>by
  obtain⟨ks,a,b⟩:=pH (Γ:=Jl prog n) hl;exact⟨ks,a,(aJ L.g _).trans b⟩
 have l:DF (Jl prog (n+2)) rows:=by
  obtain⟨ks,a,b⟩:=tU k f j e;exact⟨ks,a,(aJ L.p _).trans b⟩
 have m:AE (Jl prog (n+2)) rows:=λR K0 vs q=>by
  obtain⟨st,a,b⟩:=l8 (Γ:=Jl prog (n+1)) i ⋯ q (K0:=K0) (vs:=vs);exact⟨st,a,(aJ L.n _).trans b⟩
 obtain⟨c,t,s1,s2,s3,s4⟩:=gq f e l m;have u:Jl prog (n+3) "steps_in_rounds" [.tup (rows.map A')]=a5 (.ok (.own,.lst (gp t))):=(aJ L.s _).trans s4;have v:c.length<=24:=by
  have:=vq (Kn.of s1).nd (L:=names) λx w=>by
   obtain⟨r,a,b⟩:=lg.mp (s1.wd x w);exact b▸i r a
  rw[c4]at this;lia
 exact⟨c,s1,v,(aJ L.o _).trans (xA u s2 ⋯)⟩
theorem vP(L:UU prog)(n:Nat)(a:∀r∈rows,nu names r)(b:names.length<=24)(c:rows.length<=100)(d:Kn rows K):Jl prog (n+5) "learnt" [.tup (rows.map A')]=a5 (.ok (.own,.lst ((aR K).map .str))):=by
 obtain⟨f,s1,s2,s3⟩:=C8 L n a b c;have e:aR (f.map (·.1))=aR K:=jq ((Kn.of s1).perm d);rw[<-e];exact(aJ L.l _).trans (tW ⋯ s3)
end
end KL
namespace TM
open PySem L2 JB Od
theorem C9(c:r∈rs)(h:MN rs s.1):MN rs (KZ s r).1:=by
 unfold KZ;split
 ·rename_i d;have e:may s r=b8:=(KJ.mp d).1;intro C a x b;rcases eN.mp b with b|rfl
  ·exact h C a x b
  ·exact a r c λy f=>h C a y (by have:=i8.mp e y f;simpa using this)
 ·exact h
theorem vQ:∀(a:List Row) (s:J5) (b:Bool),(∀r∈a,r∈rs)->MN rs s.1->MN rs (Kt a (s,b)).1.1
 |[],s,b,_,h=>h
 |r::a,s,b,c,h=>vQ a (KZ s r) _ (λy hz=>c y (by simp[hz])) (C9 (c r (by simp)) h)
theorem vR:∀(n:Nat) (s:J5),MN rs s.1->MN rs (lim rs n s).1
 |0,s,h=>h
 |n+1,s,h=>by
  unfold lim;have:=vQ rs s cc (λ_ z=>z) h;split
  ·exact vR n _ this
  ·exact this
theorem Pq.closed(h:Pq rs s):jd rs (·∈s.1):=λr b c=>by
 have a:=h r b;have d:may s r=b8:=i8.mpr λx e=>by simpa using c x e
 rw[d,Ď]at a;unfold KY at a;have:=(ZA.mp a).1;simpa using this
inductive Wk(rs:List Row):List Str->List Nat->List Str->Prop where
 |nil {P:List Str}:Wk rs P [] P
 |cons {P Q:List Str} {p:Nat} {ps:List Nat} {r:Row} (h:rs[p]?=a5 r) (t:Wk rs (P++[r.1]) ps Q):Wk rs (P++r.2) (p::ps) Q
noncomputable def tX:List S :=
   [.ite (.or [.not (.call "_law_whole" [.var 4]),.not (.LG .le .lt (.cst (.int 0)) (.var 4) (.bi .len [.var 0]))])
    [.ret (.cst (.bl cc))]
    [],
   .Mc [5,6] (.idx (.var 0) (.var 4)),
   .set 7 (.bin .sub (.bi .len [.var 3]) (.bi .len [.var 6])),
   .ite (.or [.cmp .lt (.var 7) (.cst (.int 0)),.cmp .ne (.bi .tuple [.Mb (.var 3) [.var 7] []]) (.bi .tuple [.var 6])])
    [.ret (.cst (.bl cc))]
    [],
   .set 3 (.bin .add (.Mb (.var 3) [] [(.var 7)]) (.lst [(.var 5)]))]
noncomputable def AF:Fn:=⟨"_law_walked",3,8,[.set 3 (.lst []),.Jv cc [4] .seq [.var 1] tX,.ret (.cmp .eq (.var 3) (.lst [.var 2]))]⟩
theorem AG(a b:List α):cut (a++b) (a5 (a.length:Nat)) b6=b:=by
 have c:HT.Kz (a++b).length 0 (a5 ((a.length:Nat):Int))=a.length:=by rw[HT.t_];simp
 have d:HT.Kz (a++b).length (a++b).length b6=(a++b).length:=rfl;unfold cut;rw[c,d,List.drop_left,D7 (by simp)]
theorem AH(a b:List α):cut (a++b) b6 (a5 (a.length:Nat))=a:=by
 have c:HT.Kz (a++b).length (a++b).length (a5 ((a.length:Nat):Int))=a.length:=by rw[HT.t_];simp
 have d:HT.Kz (a++b).length 0 b6=0:=rfl;unfold cut;rw[c,d,Xo,Į,List.take_left]
theorem C_{a b:List Str}(h:a.length+b.length<=200000):LW .add (.own,.lst (a.map .str)) (.own,.lst (b.map .str))=a5 (.own,.lst ((a++b).map .str)):=by
 have hsz:(200000:Nat)<=cL:=by decide
 simp only[LW,yE];rw[Ő ⟨by simp;lia,rfl,rfl⟩,js]
noncomputable def rA(rs:List Row)(pl:List U)(w:Str)(P:List Str)(o4 o5 o6 o7:Option (Kd×U)):az:=[a5 (.loc,.tup (rs.map A')),a5 (.any,.lst pl),a5 (.loc,.str w),a5 (.own,.lst (P.map .str)),o4,o5,o6,o7]
theorem AI(d:iK Γ){p:Nat}(h:rs[p]?=a5 r)(hl:P.length+r.2.length<100000):
  ∃e f g,Run (execs Γ tX) (rA rs pl w (P++r.2) (a5 (.any,.int (p:Int))) o5 o6 o7) .nx (rA rs pl w (P++[r.1]) (a5 (.any,.int (p:Int))) e f g):=by
 have i:(200000:Nat)<=cL:=by decide
 have o:p<rs.length:=(dV.mp h).1;let S:Option (Kd×U)->az:=λo7=>rA rs pl w (P++r.2) (a5 (.any,.int (p:Int))) (a5 (.loc,.str r.1)) (a5 (.loc,.tup (r.2.map .str))) o7;have j:Run (ev Γ (.idx (.var 0) (.var 4))) (rA rs pl w (P++r.2) (a5 (.any,.int (p:Int))) o5 o6 o7) (.loc,A' r) (rA rs pl w (P++r.2) (a5 (.any,.int (p:Int))) o5 o6 o7):=aN (ae rfl) (a_ rfl) trivial (kh (k:=.loc) (pq h));have l:Run (ev Γ (.bin .sub (.bi .len [.var 3]) (.bi .len [.var 6]))) (S o7) (.loc,.int (P.length:Nat)) (S o7):=bC (bW (af (aB rfl) ai) ∅ cj) (bW (af (ae rfl) ai) trivial pb) trivial (by rw[ka];simp);have m:Run (ev Γ (.bi .tuple [.Mb (.var 3) [.var 7] []])) (S (a5 (.loc,.int (P.length:Nat)))) (.loc,.tup (r.2.map .str)) (S (a5 (.loc,.int (P.length:Nat)))):=by
  have:=vn (k:=.bor 3) (ss:=P++r.2) (lo:=a5 (P.length:Nat)) (hi:=b6) rfl;rw[AG]at this;exact bW (af (lu (aB rfl) (jy (ae rfl)) nq ∅ this) ai) trivial rfl
 have n:Run (ev Γ (.bin .add (.Mb (.var 3) [] [.var 7]) (.lst [.var 5]))) (S (a5 (.loc,.int (P.length:Nat)))) (.own,.lst ((P++[r.1]).map .str)) (S (a5 (.loc,.int (P.length:Nat)))):=by
  have:=vn (k:=.bor 3) (ss:=P++r.2) (lo:=b6) (hi:=a5 (P.length:Nat)) rfl;rw[AH]at this;exact bC (lu (aB rfl) nq (jy (ae rfl)) ∅ this) (bT (af (ae rfl) ai) trivial (aA aI aF) (by show 1<=cL;lia)) trivial (C_ (a:=P) (b:=[r.1]) (by simp;lia))
 refine⟨a5 (.loc,.str r.1),a5 (.loc,.tup (r.2.map .str)),a5 (.loc,.int (P.length:Nat)),?_⟩;refine bu (zD (qH (vg (c:=b8) (zH (af (a_ rfl) ai) trivial (d _) rfl)) (qG (vg (c:=b8) (Ge aj (a_ rfl) trivial (HJ (by simp)) (bW (af (ae rfl) ai) trivial pb) trivial (qK (by simp;lia))))))) aw ?_;refine F5 j (jA (.inl rfl)) (av (st2:=S (a5 (.loc,.int (P.length:Nat)))) l aE ?_);refine bu (zD (qH (aV (c:=cc) (ae rfl) aj trivial (qK (by simp))) (qG (aV (c:=cc) (y:=(.loc,.tup (r.2.map .str))) m (bW (af (ae rfl) ai) trivial rfl) trivial (nE (by simp[J1,eM])))))) aw ?_;exact av n bh aw
theorem AJ(a:iK Γ)(b:Wk rs P ps Q):∀(o4 o5 o6 o7:Option (Kd×U)),P.length+ps.length<100000->∃c d e f,Run (forM cc [4] (execs Γ tX) [(.any,.lst pl)] (ps.map λp:Nat=>(Kd.any,U.int (p:Int)))) (rA rs pl w P o4 o5 o6 o7) .nx (rA rs pl w Q c d e f):=by
 induction b with
 |nil=>exact λo4 o5 o6 o7 _=>⟨o4,o5,o6,o7,qJ trivial⟩
 |cons h t g =>
  rename_i P Q p ps r;intro o4 o5 o6 o7 hl;rw[hV,ke]at hl;obtain⟨i,j,k,q⟩:=AI (Γ:=Γ) a (pl:=pl) (w:=w) (P:=P) (o5:=o5) (o6:=o6) (o7:=o7) h ⋯;obtain⟨b4,l,m,n,o⟩:=g (a5 (.any,.int (p:Int))) i j k (by simp;lia);exact⟨b4,l,m,n,zE trivial (eh iA) q o⟩
def tY(Γ:Tab):Prop:=∀(rs:List Row) (ps:List Nat) (w:Str),Wk rs [] ps [w]->ps.length<50000->Γ "_law_walked" [.tup (rs.map A'),.lst (ps.map λp:Nat=>.int (p:Int)),.str w]=a5 (.ok (.loc,.bl b8))
theorem AK(d:iK Γ)(e:Wk rs [] ps [w])(hl:ps.length<50000):cw Γ AF [.tup (rs.map A'),.lst (ps.map λp:Nat=>.int (p:Int)),.str w]=a5 (.ok (.loc,.bl b8)):=by
 have f:(1000:Nat)<=cL:=by decide
 obtain⟨o4,o5,o6,o7,q⟩:=AJ (Γ:=Γ) d (pl:=ps.map λp:Nat=>.int (p:Int)) (w:=w) e b6 b6 b6 b6 (by simp;lia);refine bw (st0:=[a5 (.loc,.tup (rs.map A')),a5 (.any,.lst (ps.map λp:Nat=>.int (p:Int))),a5 (.loc,.str w),b6,b6,b6,b6,b6]) rfl (.inr rfl) ?_ (av (st2:=rA rs (ps.map λp:Nat=>.int (p:Int)) w [] b6 b6 b6 b6) (bT ai trivial aF (ki _)) bh (c7 (rs:=[(.any,.lst (ps.map λp:Nat=>.int (p:Int)))]) (af (a_ rfl) ai) trivial (by show a5 ((ps.map λp:Nat=>U.int (p:Int)).map λu=>(kE .any,u))=_;rw[i5];rfl) rfl q (bO (jx (c:=b8) (aB rfl) (bT (af (ae rfl) ai) trivial (aA aI aF) (by show 1<=cL;lia)) ∅ (by have:=qO (a:=[w]) (b:=[w]);simpa using this)) fT)));show [a5 (if Js (.tup (rs.map A'))=b8 then Kd.loc else Kd.any,U.tup (rs.map A')),a5 (Kd.any,_),a5 (Kd.loc,U.str w),b6,b6,b6,b6,b6]=_;rw[Ő (by show bR (rs.map A')=b8;exact aO rs)]
theorem Gf(a:iK (Jl Pg d))(h:JT Pg "_law_walked" AF):tY (Jl Pg (d+1)):=λrs ps w b hl=>by
 rw[aJ h];exact AK a b hl
theorem ba.ok(h:ba ws r):nu ws r:=⟨h.1,h.2.2.2,h.2.1,h.2.2.1⟩
noncomputable def AL:Fn:=⟨"refuse_unknown",2,2,[.ite (.cmp .gt (.Pd b8 (.var 1) (.call "words_of" [.var 0])) (.cst (.int 0))) [.bad] []]⟩
noncomputable def AM:Fn:=⟨"refuse_unlearnt",2,2,[.ite (.cmp .Jo (.var 1) (.call "learnt" [.var 0])) [.bad] []]⟩
theorem rB(a:us.length=fn.np)(hs:start us fn.ns=st0)(h:Run (execs Γ fn.body) st0 .nx st):cw Γ fn us=a5 (.ok (.loc,.Jc)):=by
 subst hs;unfold cw;rw[Ő a,show execs Γ fn.body (start us fn.ns)=_ from h]
structure Bk(ws:List Str)(rs:List Row)(s:J5):Prop where
 wl:ws.length<=24
 rl:rs.length<=84
 ok:∀r∈rs,ba ws r
 inv:fV ws s
 Wm:Pq rs s
 snd:MN rs s.1
theorem Bk.of(a:ws.length<=24)(c:rs.length<=84)(b:∀r∈rs,ba ws r):Bk ws rs (lim rs fuel s0) :=
 ⟨a,c,b,j5 a b fuel s0 (jg ws),vN a b fuel s0 (jg ws) (by unfold fuel;decide),vR fuel s0 λC _ x d=>(by cases d)⟩
theorem Bk.kn(h:Bk ws rs s):KL.Kn rs s.1:=⟨h.inv.1.1,h.snd,h.Wm.closed⟩
theorem Bk.heads(h:Bk ws rs s)(a:x∈s.1):x∈rs.map (·.1):=h.snd (λx=>x∈rs.map (·.1)) (λr b _=>QZ b) x a
theorem Bk.words(h:Bk ws rs s)(a:x∈s.1):x∈ei rs:=by
 rw[tm];obtain⟨r,b,rfl⟩:=lg.mp (h.heads a);unfold cA;exact Û.mpr ⟨_,QZ b,by simp⟩
theorem rC(h:Bk ws rs s)(a:w∈ei rs)(b:Γ "words_of" [.tup (rs.map A')]=a5 (.ok (.own,.lst ((ei rs).map .str)))):cw Γ AL [.tup (rs.map A'),.lst [.str w]]=a5 (.ok (.loc,.Jc)):=by
 have d:=tq λr c=>(h.ok r c).ok;have hl:=h.wl;have f:=kD (ei rs);have hs:wH b8 (aM [w]) (aM (ei rs))=a5 (.loc,.int (0:Nat)):=by
  have e:aM [w]=[w]:=by simp[aM,iQ]
  unfold wH;rw[e,Ő ⟨by simp,⋯⟩,Ő rfl,J3,ő (by simp[gI,a]),Tx];rfl
 refine rB (st0:=[a5 (.loc,.tup (rs.map A')),a5 (.any,.lst [.str w])]) rfl ?_ (bu (aV (HK (a_ rfl) (nI (ss:=[w]) (by simp)) (bE (af (ae rfl) ai) trivial b) (nI ⋯) hs) aj trivial (fU rfl)) aw aw);show [a5 (if Js (.tup (rs.map A'))=b8 then Kd.loc else Kd.any,U.tup (rs.map A')),a5 (Kd.any,_)]=_;rw[Ő (by show bR (rs.map A')=b8;exact aO rs)]
theorem rD{rs:List Row}(a:w∈K)(hl:Γ "learnt" [.tup (rs.map A')]=a5 (.ok (.own,.lst ((aR K).map .str)))):cw Γ AM [.tup (rs.map A'),.str w]=a5 (.ok (.loc,.Jc)):=by
 refine rB (st0:=[a5 (.loc,.tup (rs.map A')),a5 (.loc,.str w)]) rfl ?_ (bu (aV (ae rfl) (bE (af (ae rfl) ai) trivial hl) trivial (iC.trans (by rw[Œ];simp[(bJ K).mem_iff,a]))) aw aw);show [a5 (if Js (.tup (rs.map A'))=b8 then Kd.loc else Kd.any,U.tup (rs.map A')),a5 (Kd.loc,_)]=_;rw[Ő (by show bR (rs.map A')=b8;exact aO rs)]
noncomputable def tZ:List S :=
   [.set 5 (.idx (.var 2) (.pop 4)),
   .app 3 (.var 5),
   .ext 4 (.idx (.idx (.var 0) (.var 5)) (.cst (.int 1)))]
noncomputable def vS:Fn:=⟨"reading",2,6,[.exp (.call "refuse_unknown" [.var 0,.lst [.var 1]]),.exp (.call "refuse_unlearnt" [.var 0,.var 1]),.ite (.cmp .gt (.idx (.bi .dict [.call "prices" [.var 0]]) (.var 1)) (.Pa "DEAREST_READ" (.int 2000))) [.Ni "TooMany" (.fst [.cst (.str "the shortest readings of "),.var 1,.cst (.str " are too long")])] [],.set 2 (.bi .dict [.call "best_rows" [.var 0]]),.set 3 (.lst []),.set 4 (.lst [.var 1]),.MW (.cmp .ne (.var 4) (.lst [])) tZ,.ret (.Nh .K4 [.var 3])]⟩
theorem pI(c:Str->Int)(h:ks.Nodup):KU .dict [(k,.lst (ks.map (Lk c)))]=a5 (.own,.I_ ks (ks.map λx=>.int (c x))):=by
 have e:∀ks:List Str,kR (ks.map (Lk c))=a5 (ks.map λx=>(x,U.int (c x))):=λks=>by
  induction ks with
  |nil=>rfl
  |cons x ks a =>
   show(if Pe (U.int (c x))=b8 then(kR (ks.map (Lk c))).map ((x,U.int (c x))::·) else b6)=_;rw[Ő (show Pe (U.int (c x))=b8 from rfl),a];rfl
 show(kR (ks.map (Lk c))).bind _=_;rw[e];show(if ((ks.map λx=>(x,U.int (c x))).map (·.1)).Nodup then a5 (Kd.own,U.I_ ((ks.map λx=>(x,U.int (c x))).map (·.1)) ((ks.map λx=>(x,U.int (c x))).map (·.2))) else b6)=_;have b:(ks.map λx=>(x,U.int (c x))).map (·.1)=ks:=by rw[i5];exact List.map_id' _
 rw[b,Ő h,i5];rfl
noncomputable def lK(rs:List Row)(w:Str)(ks:List Str)(pl:Str->Int)(B:List Nat)(W:List Str)(o5:Option (Kd×U)):az:=[a5 (.loc,.tup (rs.map A')),a5 (.loc,.str w),a5 (.own,.I_ ks (ks.map λx=>.int (pl x))),a5 (.own,.lst (B.map λp:Nat=>.int (p:Int))),a5 (.own,.lst (W.map .str)),o5]
theorem pJ(h:fV ws s):∀{W:List Str},(∀x∈W,x∈s.1)->(W.length:Int)<=(W.map s.2).sum
 |[],_=>by simp
 |x::W,a=>by
  have:=pJ h (W:=W) λy b=>a y (by simp[b]);have c:=h.2.1 x (a x (by simp));rw[d6,NZ,ke];lia
theorem rE(h:Bk ws rs s)(l:K6 rs s pl)(m:∀x,x∈ks↔x∈s.1):∀(f:Nat) (W:List Str) (B:List Nat) (o5:Option (Kd×U)),(∀x∈W,x∈s.1)->(W.map s.2).sum+1<f->(W.map s.2).sum+B.length<=2000->Wk rs W B.reverse [w] ->
  ∃a c,Run (fw (Jt Γ (.cmp .ne (.var 4) (.lst []))) (execs Γ tZ) f) (lK rs w ks pl B W o5) .nx (lK rs w ks pl a [] c)/\Wk rs [] a.reverse [w]/\(a.length:Int)=(W.map s.2).sum+B.length
 |0,W,B,o5,b,t,_,_=>by have:=pJ h.inv b;lia
 |f+1,W,B,o5,b,t,hl,n=>by
  have v:(10000:Nat)<=cL:=by decide
  have z:=pJ h.inv b;have d:Run (Jt Γ (.cmp .ne (.var 4) (.lst []))) (lK rs w ks pl B W o5) (!W.isEmpty) (lK rs w ks pl B W o5):=aV (aB rfl) (bT ai trivial aF (ki _)) ∅ (by rw[lF (gR _ 49)];simp);by_cases g:W=[]
  ·subst g;exact⟨B,o5,nz d,n,by simp⟩
  ·have e:=QR g;generalize W.dropLast=V at e;generalize W.getLast g=x at e;subst e;have o:x∈s.1:=b x (by simp);obtain⟨i,r,a1,j,a3,A,C⟩:=l.best h.Wm o;have D:=(h.ok r (l0 j)).2.2.2;have O:((V++r.2).map s.2).sum+1=((V++[x]).map s.2).sum:=by
    rw[js,VO,js,VO,R0,Z',C];unfold JF;lia
   have G:∀y∈V++r.2,y∈s.1:=λy hy=>by
    rcases kj.mp hy with hy|hy
    ·exact b y (by simp[hy])
    ·exact A y hy
   rw[hV,sx]at z;have H:Run (execs Γ tZ) (lK rs w ks pl B (V++[x]) o5) .nx (lK rs w ks pl (B++[i]) (V++r.2) (a5 (.loc,.int (i:Int)))):=by
    have I:Run (ev Γ (.idx (.var 2) (.pop 4))) (lK rs w ks pl B (V++[x]) o5) (.loc,.int (i:Int)) (lK rs w ks pl B V o5):=by
     have q:=Dw (Γ:=Γ) (st:=lK rs w ks pl B (V++[x]) o5) (i:=4) (k:=.own) (us:=(V++[x]).map .str) (u:=.str x) rfl rfl (by simp);rw[show((V++[x]).map U.str).dropLast=V.map U.str by simp]at q;refine aN (aB rfl) q ∅ ?_;show(cv ks (ks.map λx=>U.int (pl x)) x).map _=_;rw[dr ((m x).mpr o),a1];rfl
    refine av I aE (fm (k:=.own) (k':=.own) rfl (ae rfl) aI rfl rfl (by rw[c4];lia) ?_);refine vi (k:=.own) (k':=.own) (zs:=(V++r.2).map .str) rfl (aN (aN (ae rfl) (ae rfl) trivial (kh (k:=.loc) (pq j))) aj trivial (show fJ (.loc,A' r) (.int 1)=a5 (.loc,.tup (r.2.map .str)) from rfl)) rfl rfl ?_ ?_
    ·rw[vj (by rw[c4,c4];lia) rfl,js]
    ·rw[show(B.map λp:Nat=>U.int (p:Int))++[U.int (i:Int)]=(B++[i]).map λp:Nat=>U.int (p:Int) by simp];exact aw
   have J:Wk rs (V++r.2) (B++[i]).reverse [w]:=by
    rw[List.reverse_append,List.reverse_singleton,List.singleton_append];exact .cons j (by rw[a3];exact n)
   obtain⟨a,c,L,k2,N⟩:=rE h l (w:=w) m f (V++r.2) (B++[i]) (a5 (.loc,.int (i:Int))) G ⋯ (by rw[hV,sx];lia) J;refine⟨a,c,qV ?_ H L,k2,by rw[hV,sx]at N;lia⟩;rw[show(!(V++[x]).isEmpty)=b8 by simp]at d;exact d
def AN(Γ:Tab):Prop:=∀(ws:List Str) (rs:List Row) (w:Str),Bk ws rs (lim rs fuel s0)->w∈(lim rs fuel s0).1->(lim rs fuel s0).2 w<=2000->∃ps:List Nat,Γ "reading" [.tup (rs.map A'),.str w]=a5 (.ok (.own,.lst (ps.map λp:Nat=>.int (p:Int))))/\Wk rs [] ps [w]/\(ps.length:Int)=(lim rs fuel s0).2 w
theorem run_read(g:pF Γ)(i:Ax Γ)(h:Bk ws rs (lim rs fuel s0))(a:w∈(lim rs fuel s0).1)(j:(lim rs fuel s0).2 w<=2000)(k:Γ "refuse_unknown" [.tup (rs.map A'),.lst [.str w]]=a5 (.ok (.loc,.Jc)))(l:Γ "refuse_unlearnt" [.tup (rs.map A'),.str w]=a5 (.ok (.loc,.Jc))):
  ∃ps:List Nat,cw Γ vS [.tup (rs.map A'),.str w]=a5 (.ok (.own,.lst (ps.map λp:Nat=>.int (p:Int))))/\Wk rs [] ps [w]/\(ps.length:Int)=(lim rs fuel s0).2 w:=by
 have m:(10000:Nat)<=cL:=by decide
 obtain⟨k1,b,c⟩:=g ws rs h.wl h.ok;obtain⟨pl,k2,p2,d,e⟩:=i ws rs h.wl h.ok;generalize lim rs fuel s0=s at h a j c d e b p2;have n:k1.Nodup:=b.nodup_iff.mpr h.inv.1.1;have o:k2.Nodup:=p2.nodup_iff.mpr h.inv.1.1;have r:∀x,x∈k2↔x∈s.1:=λx=>p2.mem_iff;have t:=h.inv.2.1 w a;obtain⟨B,o5,q,u,hl⟩:=rE (Γ:=Γ) h e (w:=w) r fuel [w] [] b6 (λx f=>by rw[i7]at f;subst f;exact a) (by simp;unfold fuel;lia) (by simp;lia) .nil;refine⟨B.reverse,?_,u,by rw[Q2];simpa using hl⟩;have v:Run (ev Γ (.idx (.bi .dict [.call "prices" [.var 0]]) (.var 1))) [a5 (.loc,.tup (rs.map A')),a5 (.loc,.str w),b6,b6,b6,b6] (.loc,.int (s.2 w)) [a5 (.loc,.tup (rs.map A')),a5 (.loc,.str w),b6,b6,b6,b6] :=
  aN (bW (af (bE (af (ae rfl) ai) trivial c) ai) trivial (pI s.2 n)) (ae rfl) trivial (by show(cv k1 (k1.map λx=>U.int (s.2 x)) w).map _=_;rw[dr (b.mem_iff.mpr a)];rfl)
 refine bw (st0:=[a5 (.loc,.tup (rs.map A')),a5 (.loc,.str w),b6,b6,b6,b6]) rfl (.inl rfl) ?_ ?_ (st:=lK rs w k2 pl B [] o5)
 ·show [a5 (if Js (.tup (rs.map A'))=b8 then Kd.loc else Kd.any,U.tup (rs.map A')),a5 (Kd.loc,U.str w),b6,b6,b6,b6]=_;rw[Ő (by show bR (rs.map A')=b8;exact aO rs)]
 refine nL (bE (af (ae rfl) (af (bT (af (ae rfl) ai) trivial (aA aI aF) (by show 1<=cL;lia)) ai)) trivial k) (nL (bE (af (ae rfl) (af (ae rfl) ai)) trivial l) ?_);refine bu (aV v Du trivial (fU (by simp;lia))) aw ?_;refine av (bW (af (bE (af (ae rfl) ai) trivial d) ai) trivial (pI pl o)) bh (av (bT ai trivial aF (ki _)) bh (av (st2:=lK rs w k2 pl [] [w] b6) (bT (af (ae rfl) ai) trivial (aA aI aF) (by show 1<=cL;lia)) bh (qW q (bO (zA (af (aB rfl) ai) ∅ ?_) gD))));show(if d9 (.bor 3) (B.map λp:Nat=>U.int (p:Int))=b8 then a5 (Kd.own,U.lst (B.map λp:Nat=>U.int (p:Int)).reverse) else b6)=_;rw[Ő (show d9 (.bor 3) (B.map λp:Nat=>U.int (p:Int))=b8 from rfl),Ü]
structure UX(prog:List Fn):Prop where
 l:KL.UU prog
 w:JT prog "words_of" tu
 u:JT prog "refuse_unknown" AL
 r:JT prog "refuse_unlearnt" AM
 q:JT prog "row_price" vF
 t:JT prog "prices_and_places" CZ
 c:JT prog "prices" j6
 b:JT prog "best_rows" pG
 d:JT prog "reading" vS
theorem Gg(R:UX prog)(n:Nat):AN (Jl prog (n+7)):=λws rs w h a g=>by
 have i:Jl prog (n+5) "words_of" [.tup (rs.map A')]=a5 (.ok (.own,.lst ((ei rs).map .str))):=(aJ R.w _).trans (iF (by have:=h.rl;lia) (λr f=>(h.ok r f).ok) (by have:=h.wl;lia));have j:Jl prog (n+6) "refuse_unknown" [.tup (rs.map A'),.lst [.str w]]=a5 (.ok (.loc,.Jc)):=(aJ R.u _).trans (rC h (h.words a) i);have k:=KL.vP R.l n (λr f=>(h.ok r f).ok) h.wl (by have:=h.rl;lia) h.kn;have m:Jl prog (n+6) "refuse_unlearnt" [.tup (rs.map A'),.str w]=a5 (.ok (.loc,.Jc)):=(aJ R.r _).trans (rD a k);obtain⟨ps,e,r⟩:=run_read (vL (Av (tR R.q) R.t) R.c) (Gb (Av (tR R.q) R.t) R.b) h a g j m;exact⟨ps,(aJ R.d _).trans e,r⟩
section
theorem HW(h:Run (ev Γ e) st x st1):Run (execs Γ (.Ni c e::ss)) st (.rt .io (.str c)) st1:=aa (aa h aU) aU
theorem AO(a:us.length=fn.np)(hs:start us fn.ns=st0)(h:Run (execs Γ fn.body) st0 (.rt .io (.str c)) st):cw Γ fn us=a5 (.exc c):=by
 subst hs;unfold cw;rw[Ő a,show execs Γ fn.body (start us fn.ns)=_ from h]
theorem xB(h:Γ f us=a5 (.ok (.own,u))):Run (gB Γ f us c) st (a5 (.own,u)) st:=by
 show gB Γ f us c st=_;unfold gB;rw[h]
theorem xC(h:Γ f us=a5 (.exc c)):Run (gB Γ f us c) st b6 st:=by
 show gB Γ f us c st=_;unfold gB;rw[h];exact Ő rfl
theorem AQ(h:st[j]?=a5 b6)(a:i≠j):Run (lX i j k b6) st .nx (st.set i (a5 (.loc,.tup [.str k,.bl b8]))):=by
 show lX i j k b6 st=_;unfold lX
 dsimp only
 rw[h];exact Ő a
theorem HX(a:Run (bG Γ es) st rs st)(b:bt rs st)(d:Run (gB Γ f (rs.map (·.2)) c) st r st)(e:Run (lX i j k r) st .nx st1)(g:Run (execs Γ ss) st1 h st2):Run (execs Γ (.tr i f es c D j k::ss)) st h st2 :=
 aa (aa a (aa (aY b) (aa d e))) g
end
def DG(Γ:Tab):Prop:=∀(ws:List Str) (rs:List Row) (w:Str),Bk ws rs (lim rs fuel s0)->w∈(lim rs fuel s0).1->w.length<=20->2000<(lim rs fuel s0).2 w->Γ "reading" [.tup (rs.map A'),.str w]=a5 (.exc "TooMany")
theorem xD(d:pF Γ)(h:Bk ws rs (lim rs fuel s0))(b:w∈(lim rs fuel s0).1)(m:w.length<=20)(e:2000<(lim rs fuel s0).2 w)(f:Γ "refuse_unknown" [.tup (rs.map A'),.lst [.str w]]=a5 (.ok (.loc,.Jc)))(g:Γ "refuse_unlearnt" [.tup (rs.map A'),.str w]=a5 (.ok (.loc,.Jc))):
  cw Γ vS [.tup (rs.map A'),.str w]=a5 (.exc "TooMany"):=by
 have i:(10000:Nat)<=cL:=by decide
 obtain⟨k1,a,c⟩:=d ws rs h.wl h.ok;generalize lim rs fuel s0=s at h b e c a;have j:k1.Nodup:=a.nodup_iff.mpr h.inv.1.1;have k:Run (ev Γ (.idx (.bi .dict [.call "prices" [.var 0]]) (.var 1))) [a5 (.loc,.tup (rs.map A')),a5 (.loc,.str w),b6,b6,b6,b6] (.loc,.int (s.2 w)) [a5 (.loc,.tup (rs.map A')),a5 (.loc,.str w),b6,b6,b6,b6] :=
  aN (bW (af (bE (af (ae rfl) ai) trivial c) ai) trivial (pI s.2 j)) (ae rfl) trivial (by show(cv k1 (k1.map λx=>U.int (s.2 x)) w).map _=_;rw[dr (a.mem_iff.mpr b)];rfl)
 have l:(("the shortest readings of ":Str)++w).length<=1000:=by
  rw[len_list,app_list,hV,<-len_list,<-len_list];have:("the shortest readings of ":Str).length=25:=by decide +kernel
  lia
 refine AO (st0:=[a5 (.loc,.tup (rs.map A')),a5 (.loc,.str w),b6,b6,b6,b6]) rfl ?_ ?_ (st:=[a5 (.loc,.tup (rs.map A')),a5 (.loc,.str w),b6,b6,b6,b6])
 ·show [a5 (if Js (.tup (rs.map A'))=b8 then Kd.loc else Kd.any,U.tup (rs.map A')),a5 (Kd.loc,U.str w),b6,b6,b6,b6]=_;rw[Ő (by show bR (rs.map A')=b8;exact aO rs)]
 refine nL (bE (af (ae rfl) (af (bT (af (ae rfl) ai) trivial (aA aI aF) (by show 1<=cL;lia)) ai)) trivial f) (nL (bE (af (ae rfl) (af (ae rfl) ai)) trivial g) ?_);refine lz (aV k Du trivial (fU (by simp;lia))) (HW (HC (s_ aj (ph (by decide +kernel) (by decide)) (s_ (ae rfl) (ph ⋯ (by decide +kernel)) (s_ aj (ph (by decide +kernel) ?_) HB)))));exact l
theorem HY(R:UX prog)(n:Nat):DG (Jl prog (n+7)):=λws rs w h a e f=>by
 have g:Jl prog (n+5) "words_of" [.tup (rs.map A')]=a5 (.ok (.own,.lst ((ei rs).map .str))):=(aJ R.w _).trans (iF (by have:=h.rl;lia) (λr b=>(h.ok r b).ok) (by have:=h.wl;lia));have i:Jl prog (n+6) "refuse_unknown" [.tup (rs.map A'),.lst [.str w]]=a5 (.ok (.loc,.Jc)):=(aJ R.u _).trans (rC h (h.words a) g);have j:=KL.vP R.l n (λr b=>(h.ok r b).ok) h.wl (by have:=h.rl;lia) h.kn;have k:Jl prog (n+6) "refuse_unlearnt" [.tup (rs.map A'),.str w]=a5 (.ok (.loc,.Jc)):=(aJ R.r _).trans (rD a j);exact(aJ R.d _).trans (xD (vL (Av (tR R.q) R.t) R.c) h a e f i k)
noncomputable def HZ:Fn:=⟨"_law_asked",2,4,[.set 2 (.cst .Jc),.tr 2 "reading" [.var 0,.var 1] "TooMany" "PrimerError" 3 "many",.ret (.var 2)]⟩
def AR(Γ:Tab):Prop:=∀(ws:List Str) (rs:List Row) (w:Str),Bk ws rs (lim rs fuel s0)->w∈(lim rs fuel s0).1->w.length<=20 ->
 ((lim rs fuel s0).2 w<=2000/\∃ps:List Nat,Γ "_law_asked" [.tup (rs.map A'),.str w]=a5 (.ok (.own,.lst (ps.map λp:Nat=>.int (p:Int))))/\Wk rs [] ps [w]/\(ps.length:Int)=(lim rs fuel s0).2 w) \/
 (2000<(lim rs fuel s0).2 w/\Γ "_law_asked" [.tup (rs.map A'),.str w]=a5 (.ok (.loc,.tup [.str "many",.bl b8])))
theorem H9(f:AN (Jl Pg d))(g:DG (Jl Pg d))(a:JT Pg "_law_asked" HZ):AR (Jl Pg (d+1)):=λws rs w h b i=>by
 have hs:start [.tup (rs.map A'),.str w] 4=[a5 (.loc,.tup (rs.map A')),a5 (.loc,.str w),b6,b6]:=by
  show [a5 (if Js (.tup (rs.map A'))=b8 then Kd.loc else Kd.any,U.tup (rs.map A')),a5 (Kd.loc,U.str w),b6,b6]=_;rw[Ő (by show bR (rs.map A')=b8;exact aO rs)]
 have as:Run (bG (Jl Pg d) [.var 0,.var 1]) [a5 (.loc,.tup (rs.map A')),a5 (.loc,.str w),a5 (.loc,.Jc),b6] [(.loc,.tup (rs.map A')),(.loc,.str w)] [a5 (.loc,.tup (rs.map A')),a5 (.loc,.str w),a5 (.loc,.Jc),b6]:=af (ae rfl) (af (ae rfl) ai);by_cases c:(lim rs fuel s0).2 w<=2000
 ·obtain⟨ps,e,r⟩:=f ws rs w h b c;refine .inl ⟨c,ps,(aJ a _).trans (bw (st0:=[a5 (.loc,.tup (rs.map A')),a5 (.loc,.str w),b6,b6]) rfl (.inl rfl) hs (st:=[a5 (.loc,.tup (rs.map A')),a5 (.loc,.str w),b6,b6]) (av aj aE (HX as trivial (r:=a5 (.own,.lst (ps.map λp:Nat=>.int (p:Int)))) (xB e) (aa bh aU) (bO (aB rfl) (iB rfl))))),r⟩
 ·refine .inr ⟨⋯,(aJ a _).trans (bw (st0:=[a5 (.loc,.tup (rs.map A')),a5 (.loc,.str w),b6,b6]) rfl (.inr rfl) hs (st:=[a5 (.loc,.tup (rs.map A')),a5 (.loc,.str w),a5 (.loc,.tup [.str "many",.bl b8]),b6]) (av aj aE (HX as trivial (r:=b6) (xC (g ws rs w h b i ⋯)) (AQ rfl (by decide)) (bO (ae rfl) fT))))⟩
theorem pK(f:pw Γ)(g:lJ Γ)(h:Am Γ){ns:List Int}(l:ns.length<1000)(b:Src 0 u):
  ∃(ws:List Str) (rs:List Row) (a:List Int) (u':U),Run (ev Γ (.Jb "_law_widened" [.var 3,.Jb "_law_book" [.var 1,.var 3,.Jb "_law_words" [.var 3] [0]] [0,1]] [0])) (o0::a5 (.own,.lst (ns.map .int))::o2::a5 (.own,u)::rest) (.loc,.tup (rs.map A')) (o0::a5 (.own,.lst (a.map .int))::o2::a5 (.own,u')::rest)/\ws.length<=24/\(∀r∈rs,ba ws r)/\rs.length<=84/\∀x∈ws,x.length<=20:=by
 obtain⟨ws,G,m,H,c,s1,n⟩:=f 0 u b ⋯;obtain⟨us,rfl,o⟩:=b.lst;obtain⟨d,rfl,p⟩:=s1.lst;have q:=gT (Γ:=Γ) (st:=o0::a5 (.own,.lst (ns.map .int))::o2::a5 (.own,.lst us)::rest) (i:=3) (es:=[]) (k0:=.own) (k:=.own) rfl rfl ai rfl rfl o rfl m (.inl rfl);obtain⟨rs,a,I,s,t,v,J,s2⟩:=g ns (.lst d) ws _ s1 ⋯ l ⋯ ⋯;obtain⟨e,rfl,w⟩:=s2.lst;have y:=C4 (Γ:=Γ) (st:=o0::a5 (.own,.lst (ns.map .int))::o2::a5 (.own,.lst us)::rest) (st1:=o0::a5 (.own,.lst (ns.map .int))::o2::a5 (.own,.lst d)::rest) (i:=1) (j:=3) (k0:=.own) (k:=.own) (k0':=.own) (k':=.own) (rs:=[(.own,.lst (ws.map .str))]) ⋯ rfl rfl rfl rfl (af q ai) rfl rfl (gf ns) rfl rfl p rfl s (.inr rfl);obtain⟨z,L,A,b3,B,s3⟩:=h _ (.lst e) ws rs s2 ⋯ c t.1 v;obtain⟨C,rfl,D⟩:=s3.lst;exact⟨ws,z,a,.lst C,gT (Γ:=Γ) (st:=o0::a5 (.own,.lst (ns.map .int))::o2::a5 (.own,.lst us)::rest) (st1:=o0::a5 (.own,.lst (a.map .int))::o2::a5 (.own,.lst e)::rest) (i:=3) (k0:=.own) (k:=.own) (rs:=[(.loc,.tup (rs.map A'))]) rfl rfl (af y ai) rfl rfl w rfl A (.inr rfl),c,b3,B,n⟩
noncomputable def pL:List S :=
   [.set 8 (.idx (.var 6) (.Jb "_law_draw" [.var 2,.bi .len [.var 6]] [0])),
   .set 9 (.call "_law_asked" [.var 4,.var 8]),
   .ite (.cmp .gt (.idx (.var 5) (.var 8)) (.cst (.int 2000)))
    [.ite (.cmp .ne (.var 9) (.tup [.cst (.str "many"),.cst (.bl b8)]))
     [.ret (.cst (.bl cc))]
     []]
    [.ite (.or [.not (.MV (.var 9) .list),.cmp .ne (.bi .len [.var 9]) (.idx (.var 5) (.var 8)),.not (.call "_law_walked" [.var 4,.var 9,.var 8])])
     [.ret (.cst (.bl cc))]
     [],
    .app 9 (.cst (.int 0))]]
noncomputable def t6:Fn:=⟨"law",1,10,[.set 1 (.Nh .K4 [.Mb (.var 0) [] [.cst (.int 200)]]),.set 2 (.Jb "_law_source" [.var 1,.cst (.int 2)] [0]),.set 3 (.Jb "_law_source" [.var 1,.cst (.int 1)] [0]),.set 4 (.Jb "_law_widened" [.var 3,.Jb "_law_book" [.var 1,.var 3,.Jb "_law_words" [.var 3] [0]] [0,1]] [0]),.set 5 (.call "_law_costs" [.var 4]),.set 6 (.bi .sorted [.var 5]),.Jv cc [7] .Kv [.bi .min [.cst (.int 4),.bi .len [.var 6]]] pL,.ret (.cst (.bl b8))]⟩
section
noncomputable def l9(a0 a1 a3:Option (Kd×U))(u:U)(rs:List Row)(s:J5)(o7 o8 o9:Option (Kd×U)):az:=[a0,a1,a5 (.own,u),a3,a5 (.loc,.tup (rs.map A')),a5 (.own,cD s),a5 (.own,.lst ((aR s.1).map .str)),o7,o8,o9]
theorem xE(j:bx Γ)(l:tY Γ)(o:AR Γ)(h:Bk ws rs s)(es:lim rs fuel s0=s)(q:∀x∈ws,x.length<=20)(t:Src T u)(L:T+1000<2 ^ 62)(N:0<s.1.length):
  ∃u' v y,Run (execs Γ pL) (l9 a0 a1 a3 u rs s o7 o8 o9) .nx (l9 a0 a1 a3 u' rs s o7 v y)/\Src (T+1000) u':=by
 have z:(10000:Nat)<=cL:=by decide
 have O:=h.inv.1.len;have Q:=h.wl;obtain⟨n,a,A,B,f,s1⟩:=c8 (st:=l9 a0 a1 a3 u rs s o7 o8 o9) j (i:=2) (k:=.own) (e:=.bi .len [.var 6]) (m:=(((aR s.1).map U.str).length:Nat)) rfl rfl (bW (af (aB rfl) ai) ∅ cj) t ⋯ (by rw[c4,bQ];lia) (by rw[c4,bQ];lia);rw[c4]at f;obtain⟨w,C,_,D⟩:=j3 B f;have b:w∈s.1:=(bJ _).mem_iff.mp C;have G:w.length<=20:=by
  obtain⟨r,H,e⟩:=lg.mp (h.heads b);exact q w (e▸(h.ok r H).1)
 have g:Run (ev Γ (.idx (.var 6) (.Jb "_law_draw" [.var 2,.bi .len [.var 6]] [0]))) (l9 a0 a1 a3 u rs s o7 o8 o9) (.loc,.str w) (l9 a0 a1 a3 a rs s o7 o8 o9):=aN (aB rfl) A ∅ (cJ (k:=.bor 6) D);have d:∀{k:Kd},fJ (k,cD s) (.str w)=a5 (kE k,.int (s.2 w)):=λ{k}=>by show(cv _ _ w).map _=_;rw[dr b];rfl
 subst es;rcases o ws rs w h b G with⟨I,ps,e,J,hl⟩|⟨I,e⟩
 ·refine⟨a,a5 (.loc,.str w),a5 (.own,.lst ((ps.map λp:Nat=>U.int (p:Int))++[.int 0])),?_,s1.up ⋯⟩;refine av g aE (av (bE (af (ae rfl) (af (ae rfl) ai)) trivial e) bh (bu (aV (c:=cc) (aN (aB rfl) (ae rfl) ∅ d) aj trivial (fU (by simp;lia))) (bu (zD (qH (vg (c:=b8) (HD (aB rfl) rfl)) (qH (aV (c:=cc) (bW (af (aB rfl) ai) ∅ cj) (aN (aB rfl) (ae rfl) ∅ d) trivial (tM (by simp;lia))) (qG (vg (c:=b8) (zH (af (ae rfl) (af (aB rfl) (af (ae rfl) ai))) ⟨⟨.own,rfl,rfl⟩,trivial⟩ (l rs ps w J ⋯) rfl)))))) aw (fm (k:=.own) (k':=.own) rfl aj aI rfl rfl (by simp;lia) aw)) aw))
 ·refine⟨a,a5 (.loc,.str w),a5 (.loc,.tup [.str "many",.bl b8]),?_,s1.up ⋯⟩;refine av g aE (av (bE (af (ae rfl) (af (ae rfl) ai)) trivial e) aE (c6 (aV (c:=b8) (aN (aB rfl) (ae rfl) ∅ d) aj trivial (fU (by simp;lia))) (bu (aV (c:=cc) (ae rfl) (fQ (af aj (af aj ai)) trivial (aA aI (aA aI aF)) (by show 2<=cL;lia)) trivial (nE rfl)) aw aw) aw))
end
theorem xF(g:iH Γ)(p:pw Γ)(v:lJ Γ)(w:Am Γ)(x:Ap Γ)(z:bx Γ)(A:tY Γ)(B:AR Γ){ns:List Int}(hn:ns.length<=63):cw Γ t6 [.lst (ns.map .int)]=a5 (.ok (.loc,.bl b8)):=by
 have j:se .K4 [(.own,.lst ((cut ns b6 (a5 200)).map .int))]=a5 (.own,.lst ((cut ns b6 (a5 200)).reverse.map .int)):=by
  show(if d9 .own ((cut ns b6 (a5 200)).map U.int)=b8 then a5 (Kd.own,U.lst ((cut ns b6 (a5 200)).map U.int).reverse) else b6)=_;rw[Ő (show d9 .own ((cut ns b6 (a5 200)).map U.int)=b8 from rfl),Ü]
 have e:(cut ns b6 (a5 200)).reverse.length<=63:=by rw[Q2];have:=CF ns b6 (a5 200);lia
 generalize (cut ns b6 (a5 200)).reverse=C at j e;obtain⟨D,f,G,l2,s2⟩:=rp (Γ:=Γ) g (ns:=C) (rest:=[b6,b6,b6,b6,b6,b6,b6,b6]) (o0:=a5 (.any,.lst (ns.map .int))) (k:=2);obtain⟨H,u3,I,l3,s3⟩:=rp (Γ:=Γ) g (ns:=D) (rest:=[a5 (.own,f),b6,b6,b6,b6,b6,b6,b6]) (o0:=a5 (.any,.lst (ns.map .int))) (k:=1);obtain⟨ws,rs,b,c,J,l,m,L,N⟩:=pK (Γ:=Γ) p v w (ns:=H) (rest:=[b6,b6,b6,b6,b6,b6]) (o0:=a5 (.any,.lst (ns.map .int))) (o2:=a5 (.own,f)) ⋯ s3;have n:=x ws rs l m;have h:=Bk.of l L m;obtain⟨s,es⟩:∃s,lim rs fuel s0=s:=⟨_,rfl⟩
 rw[es]at n h;have Pn:=h.inv.1.len;have O:KU .min [(.loc,.int 4),(.loc,.int (((aR s.1).map U.str).length:Nat))]=a5 (.loc,.int ((min 4 s.1.length:Nat):Int)):=by
  rw[c4,bQ];show a5 (Kd.loc,U.int (if b8=b8 then(if ((s.1.length:Nat):Int)<4 then((s.1.length:Nat):Int) else 4) else _))=_;rw[Ő rfl];congr 3
  split<;>lia
 obtain⟨st',Q,a,o7,o8,o9,rfl,o,_⟩:=cM (rs:=[(.loc,.int ((min 4 s.1.length:Nat):Int))]) (t:=cc) (is:=[7]) (body:=execs Γ pL) (λi:Nat=>(Kd.loc,U.int (0+(i:Int)))) (λd q st=>∃(a:U) (o7 o8 o9:Option (Kd×U)),st=l9 (a5 (.any,.lst (ns.map .int))) (a5 (.own,.lst (b.map .int))) (a5 (.own,c)) a rs s o7 o8 o9/\Src (1000 * (d.length:Nat)) a/\d.length+q.length=min 4 s.1.length)
  (λd r st _=>trivial) (λd y r st T=>by
   obtain⟨a,o7,o8,o9,rfl,o,Y⟩:=T;simp only[ke]at Y;obtain⟨u6,a8,a9,q,s6⟩:=xE (Γ:=Γ) (a0:=a5 (.any,.lst (ns.map .int))) (a1:=a5 (.own,.lst (b.map .int))) (a3:=a5 (.own,c)) z A B h es N (u:=a) o ⋯ ⋯ (o7:=a5 (.loc,.int (0+(y:Int)))) (o8:=o8) (o9:=o9);exact⟨l9 (a5 (.any,.lst (ns.map .int))) (a5 (.own,.lst (b.map .int))) (a5 (.own,c)) a rs s (a5 (.loc,.int (0+(y:Int)))) o8 o9,_,aE,q,u6,_,_,_,rfl,s6.up (by simp;lia),by simp;lia⟩) (i0 (min 4 s.1.length)) [] (l9 (a5 (.any,.lst (ns.map .int))) (a5 (.own,.lst (b.map .int))) (a5 (.own,c)) f rs s b6 b6 b6) ⟨f,b6,b6,b6,rfl,by simpa using s2,by simp⟩
 refine bw (st0:=[a5 (.any,.lst (ns.map .int)),b6,b6,b6,b6,b6,b6,b6,b6,b6]) rfl (.inr rfl) rfl (st:=l9 (a5 (.any,.lst (ns.map .int))) (a5 (.own,.lst (b.map .int))) (a5 (.own,c)) a rs s o7 o8 o9) (av (zA (af (lu (a_ rfl) nq (jy aj) trivial (zJ (by show bR _=b8;exact gf ns))) ai) trivial j) bh (av G bh (av I bh (av J aE (av (bE (af (ae rfl) ai) trivial n) bh ?_)))));refine av (r:=(.own,.lst ((aR s.1).map .str))) (st2:=l9 (a5 (.any,.lst (ns.map .int))) (a5 (.own,.lst (b.map .int))) (a5 (.own,c)) f rs s b6 b6 b6) (bW (af (aB rfl) ai) ∅ ?_) bh ?_
 ·show(if s.1.length<64 then a5 (Kd.own,U.lst ((aR s.1).map .str)) else b6)=_;rw[Ő ⋯]
 exact c7 (rs:=[(.loc,.int ((min 4 s.1.length:Nat):Int))]) (af (bW (af aj (af (bW (af (aB rfl) ai) ∅ cj) ai)) trivial O) ai) trivial (jb ⋯) rfl Q (bO aj fT)
end TM
namespace K
open PySem L2 TM
noncomputable def top(i:Nat):M3:=PySem.Challenge.pw_primer_k23_readings_walked.main.body.getD i (.Pass ⟨0,0,0,0⟩)
noncomputable abbrev lL:Fn:=TM.tu
noncomputable abbrev dk:Fn:=KL.dk
noncomputable abbrev eQ:Fn:=TM.AL
noncomputable abbrev bc:Fn:=KL.bc
noncomputable abbrev cR:Fn:=KL.cR
noncomputable abbrev bj:Fn:=KL.bj
noncomputable abbrev ff:Fn:=KL.ff
noncomputable abbrev eO:Fn:=KL.eO
noncomputable abbrev dY:Fn:=TM.AM
noncomputable abbrev jB:Fn:=TM.vF
noncomputable abbrev dw:Fn:=TM.CZ
noncomputable abbrev rF:Fn:=TM.j6
noncomputable abbrev jC:Fn:=TM.pG
noncomputable abbrev nQ:Fn:=TM.vS
noncomputable abbrev iL:Fn:=TM.zN
noncomputable abbrev lM:Fn:=TM.vv
noncomputable abbrev jD:Fn:=TM.lI
noncomputable abbrev nR:Fn:=TM.F7
noncomputable abbrev nS:Fn:=TM.CO
noncomputable abbrev lN:Fn:=TM.pv
noncomputable abbrev jE:Fn:=TM.tQ
noncomputable abbrev jF:Fn:=TM.tT
noncomputable abbrev iM:Fn:=TM.AF
noncomputable abbrev jG:Fn:=TM.HZ
noncomputable abbrev nU:Fn:=TM.F_
noncomputable abbrev gF:Fn:=TM.CV
noncomputable abbrev DH:Fn:=TM.t6
noncomputable def prog:List Fn:=[lL,dk,eQ,bc,cR,bj,ff,eO,dY,jB,dw,rF,jC,nQ,iL,lM,jD,nR,nS,lN,jE,jF,iM,jG,nU,gF,DH]
noncomputable def ck:Ck:=⟨(prog.filter λf=>f.io.isNone).map (·.name),[("DEAREST_READ",(.int 2000))],prog.filterMap λf=>f.io.map λp=>(f.name,p.1),["TooMany"],[("TooMany","PrimerError")]⟩
theorem Wo:UX prog:=⟨⟨rfl,rfl,rfl,rfl,rfl,rfl⟩,rfl,rfl,rfl,rfl,rfl,rfl,rfl,rfl⟩
theorem pure(ns:List Int)(c:ns.length<=63):Jl prog 9 "law" [sU ns]=a5 (.ok (.loc,.bl b8)):=by
 have a:JT prog "_law_draw" vv:=rfl;have hs:JT prog "_law_source" zN:=rfl;have d:JT prog "_law_whole" tT:=rfl;have e:bx (Jl prog 6):=tD a;have b:bx (Jl prog 7):=tD a;have hl:JT prog "law" t6:=rfl;rw[show Jl prog 9 "law" [sU ns]=_ from aJ hl [sU ns]];exact xF (zY hs) (CQ b rfl) (Aw (zY hs) b (HN e rfl) (HQ rfl) rfl) (HU b (HR rfl) rfl) (Ga rfl) (tD a) (Gf (C5 d) rfl) (H9 (Gg Wo 0) (HY Wo 0) rfl) c
end K
namespace K
open PySem L2 TM PySem.W PyProof.Rows
noncomputable def m0:d3:=.str "primer.books" 255
noncomputable def m1:d3:=.str "primer.learning" 284
noncomputable def m2:d3:=.str "primer.prices" 333
noncomputable def m3:d3:=.str "primer.readings" 359
noncomputable def m4:d3:=.str "law_primer_k23_readings_walked" 375
noncomputable def ml:Me:=⟨DH,37,["_law_script","_law_left","_law_query","_law_source_here","_law_book_here","_law_costs_here","_law_some","_law_turn","_law_word","_law_found"],232,231,m4,co "law" 493 215 1 226 227 (.ref 228) (.ref 229) (.ref 230) 506 507 181⟩
noncomputable def ms:List Me:=[⟨lL,6,["book","words","row"],70,69,m0,co "words_of" 257 11 1 64 65 (.ref 66) (.ref 67) (.ref 68) 263 264 181⟩,
 ⟨dk,7,["pairs","found","key","value"],77,76,m0,co "gathered" 266 17 1 71 72 (.ref 73) (.ref 74) (.ref 75) 273 274 181⟩,
 ⟨eQ,8,["book","words"],84,83,m0,co "refuse_unknown" 276 24 2 78 79 (.ref 80) (.ref 81) (.ref 82) 281 282 181⟩,
 ⟨bc,10,["book","pairs","place","row"],89,88,m1,co "places_that_tell" 286 28 1 85 86 .none .none (.ref 87) 289 290 181⟩,
 ⟨cR,11,["book","places","known","steps","place","word"],96,95,m1,co "new_steps" 292 33 3 90 91 (.ref 92) (.ref 93) (.ref 94) 301 302 181⟩,
 ⟨bj,12,["book","tellers","missing","known","found","ready","steps","word","place","teller"],101,100,m1,co "steps_in_rounds" 304 40 1 97 98 .none .none (.ref 99) 307 308 181⟩,
 ⟨ff,13,["book","found","steps"],108,107,m1,co "order" 310 58 1 102 103 (.ref 104) (.ref 105) (.ref 106) 316 317 181⟩,
 ⟨eO,14,["book"],113,112,m1,co "learnt" 319 63 1 109 110 .none .none (.ref 111) 322 323 181⟩,
 ⟨dY,15,["book","word"],120,119,m1,co "refuse_unlearnt" 325 65 2 114 115 (.ref 116) (.ref 117) (.ref 118) 330 331 181⟩,
 ⟨jB,17,["row","found"],125,124,m2,co "row_price" 335 69 2 121 122 .none .none (.ref 123) 338 339 181⟩,
 ⟨dw,18,["book","found","fallen","place","row","price"],130,129,m2,co "prices_and_places" 341 71 1 126 127 .none .none (.ref 128) 344 345 181⟩,
 ⟨rF,19,["book"],135,134,m2,co "prices" 347 83 1 131 132 .none .none (.ref 133) 350 351 181⟩,
 ⟨jC,20,["book"],140,139,m2,co "best_rows" 353 85 1 136 137 .none .none (.ref 138) 356 357 181⟩,
 ⟨nQ,23,["book","word","places","backward","waiting","place"],147,146,m3,co "reading" 363 89 2 141 142 (.ref 143) (.ref 144) (.ref 145) 372 373 181⟩,
 ⟨iL,25,["_law_left","_law_k","_law_cell"],154,153,m4,co "_law_source" 377 103 2 148 149 (.ref 150) (.ref 151) (.ref 152) 383 384 181⟩,
 ⟨lM,26,["_law_source_here","_law_many","_law_number","_law_turn","_law_mixed"],161,160,m4,co "_law_draw" 386 108 2 155 156 (.ref 157) (.ref 158) (.ref 159) 394 395 181⟩,
 ⟨jD,27,["_law_source_here","_law_letters","_law_many","_law_base","_law_way","_law_size","_law_first","_law_words_here","_law_k","_law_word","_law_sense"],166,165,m4,co "_law_words" 397 117 1 162 163 .none .none (.ref 164) 400 401 181⟩,
 ⟨nR,28,["_law_source_here","_law_words_here","_law_at","_law_below","_law_told","_law_k","_law_one"],173,172,m4,co "_law_row" 403 138 4 167 168 (.ref 169) (.ref 170) (.ref 171) 413 414 181⟩,
 ⟨nS,29,["_law_rows","_law_row_here","_law_other"],180,179,m4,co "_law_lay" 416 147 2 174 175 (.ref 176) (.ref 177) (.ref 178) 422 423 181⟩,
 ⟨lN,30,["_law_left","_law_source_here","_law_words_here","_law_rows","_law_way","_law_k","_law_at","_law_more"],187,186,m4,co "_law_book" 425 152 3 181 182 (.ref 183) (.ref 184) (.ref 185) 436 437 181⟩,
 ⟨jE,31,["_law_book_here","_law_costs_here","_law_fell","_law_word","_law_told","_law_length"],192,191,m4,co "_law_costs" 439 164 1 188 189 .none .none (.ref 190) 442 443 181⟩,
 ⟨jF,32,["_law_found"],199,198,m4,co "_law_whole" 445 176 1 193 194 (.ref 195) (.ref 196) (.ref 197) 449 450 181⟩,
 ⟨iM,33,["_law_book_here","_law_places","_law_word","_law_pile","_law_place","_law_one","_law_told","_law_many"],206,205,m4,co "_law_walked" 452 178 3 200 201 (.ref 202) (.ref 203) (.ref 204) 463 464 181⟩,
 ⟨jG,34,["_law_book_here","_law_word","_law_found","e"],213,212,m4,co "_law_asked" 466 189 2 207 208 (.ref 209) (.ref 210) (.ref 211) 473 474 181⟩,
 ⟨nU,35,["_law_book_here","_law_met","_law_word","_law_told","_law_one"],220,219,m4,co "_law_all" 476 196 1 214 215 (.ref 216) (.ref 217) (.ref 218) 484 485 181⟩,
 ⟨gF,36,["_law_source_here","_law_book_here","_law_share","_law_heads","_law_pool","_law_more","_law_k","_law_word"],225,224,m4,co "_law_widened" 487 203 2 221 222 .none .none (.ref 223) 490 491 181⟩,
 ml]
noncomputable def gg(P:VH):Obj:=⟨.type "dict",b6,.dict #[ge P "__name__" 165 (.str "law_primer_k23_readings_walked" 375),ge P "__doc__" 166 .none,ge P "__package__" 167 .none,ge P "__loader__" 168 (.builtin "__main__.__loader__#opaque"),ge P "__spec__" 169 .none,ge P "__annotations__" 170 (.ref 6),ge P "__builtins__" 171 (.ref 4),ge P "__file__" 173 (.str "/claim/cut.py" 172),ge P "__cached__" 174 .none,ge P "PrimerError" 206 (.ref 24),ge P "Unknown" 222 (.ref 37),ge P "Unlearnt" 238 (.ref 49),ge P "TooMany" 254 (.ref 61),ge P "words_of" 265 (.ref 70),ge P "gathered" 275 (.ref 77),ge P "refuse_unknown" 283 (.ref 84),ge P "places_that_tell" 291 (.ref 89),ge P "new_steps" 303 (.ref 96),ge P "steps_in_rounds" 309 (.ref 101),ge P "order" 318 (.ref 108),ge P "learnt" 324 (.ref 113),ge P "refuse_unlearnt" 332 (.ref 120),ge P "row_price" 340 (.ref 125),ge P "prices_and_places" 346 (.ref 130),ge P "prices" 352 (.ref 135),ge P "best_rows" 358 (.ref 140),ge P "DEAREST_READ" 362 (.int 2000 361),ge P "reading" 374 (.ref 147),ge P "_law_source" 385 (.ref 154),ge P "_law_draw" 396 (.ref 161),ge P "_law_words" 402 (.ref 166),ge P "_law_row" 415 (.ref 173),ge P "_law_lay" 424 (.ref 180),ge P "_law_book" 438 (.ref 187),ge P "_law_costs" 444 (.ref 192),ge P "_law_whole" 451 (.ref 199),ge P "_law_walked" 465 (.ref 206),ge P "_law_asked" 475 (.ref 213),ge P "_law_all" 486 (.ref 220),ge P "_law_widened" 492 (.ref 225),ge P "law" 508 (.ref 232)] 41,#[]⟩
noncomputable def xo(P:VH):List (fR×Obj):=[(24,({cls:=.type "type",data:=.cls {name:="PrimerError",bases:=[.type "ValueError"],mro:=[.ref 24,.type "ValueError",.type "Exception",.type "BaseException",.type "object"],ns:=23,qualname:="PrimerError",subclasses:=[.ref 37,.ref 49,.ref 61]},slots:=#[a5 (.ref 15),b6,a5 (.str "PrimerError" 189),a5 (.str "PrimerError" 197),a5 (.builtin "ValueError.__new__"),a5 (.bool b8)]}:Obj)),
 (61,({cls:=.type "type",data:=.cls {name:="TooMany",bases:=[.ref 24],mro:=[.ref 61,.ref 24,.type "ValueError",.type "Exception",.type "BaseException",.type "object"],ns:=60,qualname:="TooMany" },slots:=#[a5 (.ref 52),b6,a5 (.str "TooMany" 239),a5 (.str "TooMany" 247),a5 (.builtin "ValueError.__new__"),a5 (.bool b8)]}:Obj)),
 (23,({cls:=.type "dict",data:=.dict #[{hash:=Ke P "__module__",key:=.str "__module__" 196,val:=.str "primer.errors" 187},{hash:=Ke P "__firstlineno__",key:=.str "__firstlineno__" 200,val:=.int 2 199},{hash:=Ke P "__static_attributes__",key:=.str "__static_attributes__" 201,val:=.ref 22},{hash:=Ke P "__weakref__",key:=.str "__weakref__" 203,val:=.ref 25},{hash:=Ke P "__doc__",key:=.str "__doc__" 204,val:=.none}] 3}:Obj)),
 (60,({cls:=.type "dict",data:=.dict #[{hash:=Ke P "__module__",key:=.str "__module__" 246,val:=.str "primer.errors" 187},{hash:=Ke P "__firstlineno__",key:=.str "__firstlineno__" 250,val:=.int 8 249},{hash:=Ke P "__static_attributes__",key:=.str "__static_attributes__" 251,val:=.ref 59},{hash:=Ke P "__doc__",key:=.str "__doc__" 252,val:=.none}] 2}:Obj))]
noncomputable def gx(P:VH):Gx:=(gg P,xo P)
noncomputable def xa:List fR:=[24,61,23,60]
noncomputable def vw:ve:=view PySem.Challenge.pw_primer_k23_readings_walked [6,7,8,10,11,12,13,14,15,17,18,19,20,23,25,26,27,28,29,30,31,32,33,34,35,36,37]
noncomputable def hk:Hook:=kHook (λP=>Li top (gx P) ms) (adr ms xa) λP=>vd top (gx P) ms xa rfl
theorem hl:LeftO PySem.Challenge.rw_primer_k23_readings_walked.row.prog vw ["PrimerError","Unknown","Unlearnt","TooMany","DEAREST_READ"] (λs=>xlAt vw [] s&&recOk (RowW.records PySem.Challenge.rw_primer_k23_readings_walked.row.toRowW) s) hk.obs hk.val 4000:=λw=>by kernel_rfl
theorem hs:PySem.Challenge.rw_primer_k23_readings_walked.wellSaid=b8:=by kernel_rfl
theorem ho(P:VH):NW ck top (Li top (gx P) ms) ms=b8:=by kernel_rfl
theorem ZE(P:VH):gX ck (Li top (gx P) ms)=b8:=by kernel_rfl
end K
open PySem PySem.W PyProof.Rows K
theorem PySem.Challenge.cw_primer_k23_readings_walked_holds : PySem.Challenge.rw_primer_k23_readings_walked.Holds := by
 w_on
 refine holds_law hs λz => ?_;refine holds_open hl hk.of hk.keeps (λs e => xl_of s (KJ.mp e).1) XL.keeps rfl rfl rfl (λs e => recFacts_of (KJ.mp e).2) rfl z (by kernel_rfl) ⟨rfl, rfl, rfl, rfl, rfl, by decide +kernel⟩ ?hw ?a
 (case hw => w_witness2)
 exact TM.walk2 (l := PySem.Challenge.rw_primer_k23_readings_walked) (Pg := prog) (ck := ck) (dp := 8) (x := "_law_script") (m := ml) rfl rfl ⟨rfl, by decide, by decide, rfl⟩ rfl (by decide +kernel) (by decide +kernel) rfl (by simp [ms]) rfl rfl ho ZE (λ_ => rfl) K.pure
