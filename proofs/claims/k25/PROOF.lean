import PyProof.Rows.All
import Wide.All
import OpenK.AllK
import Wide.FinOn
import Lean
import PyProof.EqAt
import PyProof.EqKinds
import PyProof.TupleCall
import PyProof.StrLawsChain
import PyProof.StrLawsFirst
import PyProof.Rows.StrNews2
import OpenK.AllK
import PySem.SetOps
import OpenK.AllK
import PyProof.DictItems
import OpenK.AllK
import PyProof.AttrMissHeap
import OpenK.AllK
import PyProof.StationsW
import PyProof.ExcBaseAll.ValueError
import PyProof.RulesAs
import PyProof.NsDelKeeps
import OpenK.AllK
import PyProof.ExcArgsOwn
import PyProof.ExcAttrAll.ValueError
import PyProof.IsiBase
import PyProof.ReprBulk
import PySem.Challenge.RW_primer_k25_readings_refused
set_option Elab.async false
set_option linter.all false
set_option bootstrap.genMatcherCode false
set_option maxRecDepth 100000
set_option maxHeartbeats 4000000
set_option genInjectivity false
set_option genSizeOf false
set_option autoImplicit true
set_option relaxedAutoImplicit true
open Option renaming some->a5,none->b6,map_eq_some_iff->d5,bind_eq_some_iff->oT,isNone_iff_eq_none->SV,isSome_iff_exists->TF,map_eq_none_iff->Ul,map_some->UM,isSome_map->Wj,getD_none->ç
open PySem renaming wpAny_bind->bD,sizeLine->cK,wpAny_pure->df,Value->dV,wpAny->d4,Addr->ez,Shared->eH,model->fS,starEach->i2,mainGlobals->ko,Expr->mx,wpAny_setState_of->my,wpAny_mono->qb,wpAny_holding->ra,wpAny_Call_Name_kw->ti,eval->t6,rawInt->t7,Program->t8,bootBuiltins->u7,World->vl,wpAny_newObj_type->vu,codeAny_builtin->x2,wpAny_call_entry->x3,scanBound->y1,backTo->zy,Heap->DD,cLine->L8,Builtin->Mx,wpAny_truthy_bool->MJ,keywordEach->ML,holding->MT,foldedSetIterable->MV,Scope->M3,Stmt->Nd,wpAny_setField->NC,Around->N7,wpAny_rule->Oo,sysModules->Ov,call->Oz,wpAny_passesOwn->OP,compareOp->OT,builtinLookup_eq_fast->OW,Keyword->O3,binaryOp->Po,SetTable->Pp,NameKind->Pq,wpAny_isInstance->Pz,swapsWith->PD,plainId_quiet->Qc,attributeBase->Qd,codeAny->Qm,wpAny_pyIter_tuple->QV,typeLookup->QW,tupleKind_room_in1->Q1,assignEach->Q2,wpAny_getItem_str_slice->Rj,wpAny_callSpecial?_slot->Rk,wpAny_loadPart_at->RB,backToKw->RC,wpAny_askSetting->R8,call_meets->R9,swapsWithSole->Si,behindInMarks->Sn,sliceBounds->Sw,wpAny_updateSeq->Tr,wpAny_execs_nil->Ts,typeLookup_type->Tt,wpAny_setEntries_of->TB,wpAny_typeOf->TR,codeAny_mono->TU,wpAny_seqItems->Ua,pyNext->Ud,isSubtype_type->Ue,assign->Ug,FuncData->Uh,wpAny_pyIter_list->UN,wpAny_Call_method0_late->U9,isSubtype->Vc,setItem->Vr,relabel->Vs,notedBy->Vt,callerA->Vy,wpAny_specialOf->VT,wpAny_loadPart'->VU,post_val_or_str->VV,letOwnedTupleGo->V0,wpAny_field->Wm,firstArgMember->Wr,codeAny_call_builtin->Wv,Params->Wz,tupleKind->WD,wpAny_newList->WV,swappedStores->WW,wpAny_storeSet_of->XA,wpAny_setEpoch_of->XB,wpAny_pyIter_enum->XC,valueAt->XE,sub_set_self->XF,setNext->XM,setField->XN,release->XQ,getItem->XS,fits_of_scanBound->XT,concat_meets->XW,compEnvC->XX,call_meetsIn->XY,wpAny_eqBool_str->YM,wpAny_eqBool_int->YN,seqIndex?->YO,pickOrder->YP,noFill_tuple_add->YQ,checkBuiltinCall->YS,PassesOwn->YX,wpAny_of_eq->Y7,unsupported->Y9,subscripted->Y_,standAt->Zw,wpAny_runValue->À,relayAll->Á,raiseNew->Â,pyIter->Ã,entryFor_alias->Ä,entryFor->Å,atKey->Æ,GenState->Ç,wpAny_standAt->Ú,wpAny_comprehension_free->Û,seq_tuple_add->Ü,seqItems?->ã,bindL->ä,bindC->å,wpAny_Call_method_late->ê,setNextDrawn->ë,newExc->ì,collect->í,IsEnum->ñ,BindsTo->ô,wpAny_isTrue_Compare1->Ă,step->ċ,seqIndex_of->Č,getAttr?->č,codeAny_extend_loopS->Ď,Operator->đ,wpAny_load->Ĩ,wpAny_call->ĩ,wpAny_Name->Ī,typeOf->ī,typeIs_str->Ĭ,setsByText->ĭ,getattributeRaised->Į,checkCount->į,builtinsNs->İ,WalksS->ı,JoinOk->ĳ,wpAny_pyIter_slot->Ľ,wpAny_assign_Name->ľ,wpAny_Assign_Name->Ŀ,spliced->ŀ,slot_list_getitem->Ł,newList->ł,ItemsOf->ŉ,wpAny_setScan_of->Ő,wpAny_execs_cons->ő,updateSeq->Œ,setDiscardHashed->œ,rule->Ŕ,meets_dict_items->ŕ,entryFor_of_tree->Ŗ,cellsFrom->ŗ,codeAny_of_tree->ş,wpAny_Expr_any->Ŧ,truthy->ŧ,table->Ũ,stored->ũ,recursionLimit->Ū,newTuple->ū,isSubtype_stop->Ŭ,field->ŭ,callType_codes->Ů,bindArgs->ů,augStore->Ű,argsOk->ű,again->Ų
open Bool renaming true->b8,and_eq_true->cb,false->cc,false_ne_true->js,not_eq_true'->tA,and_eq_true_iff->va,or_eq_true->KR,eq_iff_iff->KX,false_eq_true->L3,or_false->Pu,and_false->QU,false_and->Vq,and_true->V_,or_eq_false_iff->Ù,true_and->ĺ,not_true->Ļ,and_self->ļ,or_true->ŏ
open PySem.Heap renaming get?_push_of_some->cL,lt_size->et,get?_push_size->fx,SameBut->qp,get?_update_self->tj,get?_update_other->NB,get?_update_ne->Pj,size_push->Yp,size_update->ă,ExtBut->Ř
open List renaming length_map->c2,getElem?_eq_some_iff->dt,map_cons->d3,mem_cons->d6,getElem?_set_self->fR,range->gs,length_append->hH,size_toArray->hQ,getElem?_set_ne->i1,mem_singleton->i3,all_eq_true->i6,getElem?_map->i7,replicate->i8,map_map->i9,mem_append->ke,map_append->ki,length_cons->kj,nil_append->lg,mem_map->lz,getElem?_eq_getElem->l',mem_cons_of_mem->mf,mem_of_getElem?->mh,nodup_cons->mN,mem_cons_self->nc,mem_append_right->nC,getElem?_append_right->qs,nodup_append->ri,append_nil->ro,mem_range->rr,length_singleton->rz,lookup_cons->sx,map_congr_left->tr,length_take->tv,getElem?_append_left->t5,length_range->uv,length_filter_le->vr,isEmpty_iff->wk,getD->w6,filterMap_cons->C1,filter_cons->D7,map_nil->H8,getElem?_replicate->KQ,take_of_length_le->K5,length->Lp,getElem_mem->Lx,ext_getElem->LF,getElem?_drop->LY,filter_eq_self->M',mem_filter->N9,find?_cons->N_,sum_cons->N',any_eq_true->Pa,zip_cons_cons->PQ,mem_filterMap->P2,filter_cons_of_pos->P9,filter_cons_of_neg->P',filter_eq_nil_iff->QS,eraseIdx_eq_take_drop_succ->Ro,length_replicate->Rr,getElem?_eq_none->Ru,mem_append_left->RK,of_mem_zip->R0,filter_nil->R5,dropLast_concat_getLast->R7,mem_map_of_mem->R',length_reverse->Sb,getElem_of_mem->Sd,pairwise_cons->S0,nodup_nil->Td,map_singleton->To,filter_append->Tq,drop_eq_getElem_cons->TL,reverse_cons->T8,flatten_cons->T9,not_mem_nil->Um,length_eq_zero_iff->Uo,getElem?_cons_succ->Up,eraseIdx_cons_succ->UC,foldl_cons->U1,mem_iff_getElem?->U8,mem_iff_getElem->Vn,mem_erase_of_ne->Vo,getElem?_zipIdx->Vp,flatten_append->V2,any_cons->V4,findIdx?_eq_some_iff_getElem->WA,eraseIdxIfInBounds_toArray->WU,length_drop->W0,getElem_map->W3,getElem_inj->W6,sum_append->Xj,length_zip->Xk,length_nil->Xl,forIn_cons->Xm,drop_left'->Xt,perm_ext_iff_of_nodup->Yw,map->YE,getD_eq_getElem?_getD->YF,drop_zero->YL,findIdx?_eq_none_iff->Y6,length_erase_of_mem->Zf,getElem?_take_of_lt->Zg,findIdx?->Zh,length_pos_of_mem->Z4,length_eq_one_iff->Z5,take_append_drop->Ï,dropLast_eq_take->Ð,map_id->Õ,length_eraseIdx->Ö,getElem_eq_getD->Ø,filter_sublist->ß,sum_singleton->è,take_sublist->þ,filter_congr->ÿ,ext_getElem?->Ā,append_assoc->ā,mem_toArray->ą,mem_flatten->Ć,map_reverse->ć,map_fst_zip->Ĉ,drop_length->ĉ,cons_append->Ċ,zipIdx_map->ę,range_succ->Ě,length_set->ě,lt_irrefl->ĥ,forIn_nil->Ħ,perm_nil->Ķ,map_take->ķ,map_drop->ĸ,all_cons->Ĺ,all_map->Ō,range'->Ŝ
open Decidable renaming decide->c4
open Nat renaming ne_of_lt->gj,le_refl->i0,lt_of_lt_of_le->i5,zero_le->kr,lt_irrefl->t4,ne_of_gt->B',le_trans->C0,le_succ->Ls,zero_add->Pf,lt_succ_self->Ph,lt_trans->Q3,lt_succ_of_lt->Q4,le_of_lt->Q8,mod_lt->Y5,add_sub_cancel_left->ZL,succ_pos->Í,le_of_eq->Î,lt_of_le_of_lt->ý,not_lt_of_lt->Ę,min_eq_left->Ĥ,add_zero->ś
open PySem.Value renaming ref->hU,none->mA,str->sL,type->ve,bool->OS,isStrOf->Rz,builtin->RA,int->WN,isStrOf_shape->Ó,isInt->ņ
open Array renaming length_toList->hY,getElem?_toList->qt,getElem?_eq_getElem->Pc,size_map->SN,getD->Wa,forIn_toList->Wb,size_append->WB,toList->Zv,toList_extract->Ñ,toArray_toList->Ò,append_assoc->â,toList_push->é
open Sum renaming inr->l0,inl->WI
open PySem.Str renaming empty->nH,ofString->Sx,length->Ŷ
open PySem.Obj renaming mapSeq->qd,data_mapFields->N5,putSet->P8,isFreed_of_fields->Ve,cls_mapFields->WO,mapFields->Ň
open Ne renaming symm->qP
open PySem.Builtin.List renaming listExtendWith->r6,listTooLong->LS,listSameRef->OB,listLengthHint->V3,listItems->WX,listUpdate->š
open Option.some renaming inj->td,injEq->RS
open PySem.SetTable.layClean renaming free->uk
open PyProof.Rows renaming seqObj->u5,callWith_type1->Ko,size_push'->KA,StrsAre->RE,AllBare->UX,callWith_builtin1->Vm,envOfC->VI,subscriptTail->WY,listUpdate_at->WZ,entry_list_sort->Zs,sortedHeap_old->É,sortedHeap->Ê,slot_list_sort->Ë,args_list_sort->Ì,sortedHeap_at->Þ,subscriptTail_builtinR->õ,plain_sorted->ö,listItems_at->ø,entry_sorted->ù,args_sorted1->ú,IntsAre->ü,seqEpoch_at->Ė,kind_sorted->ė,Subscript_->ĵ,slot_str_getitem->Ś,joinParts_consE->Ť,get?_update_seq->ť,tail_any->ŷ,keyKind'->Ÿ,joinParts_cons->Ź,isTrue_and_nil->ź,IsTup->Ż
open Int renaming eq_ofNat_of_zero_le->u6,toNat_natCast->OO,emod_nonneg->Se,emod_lt_of_pos->Tz,le_trans->U2,le_refl->VS,natCast_pow->ħ
open PySem.Heap.SameBut renaming update->wh,refl->D6
open PySem.Calls renaming callWith_builtin->y4,evalArgs_plain->Mm,spliced_cons->Nu,spliced_nil->Qi,call_function_entry->Tw,Name_function_global->X7
open PySem.Around renaming under_plainId->H0
open PySem.Builtin.Frozenset renaming isAnySet->I0,difference->PH,sizeOf->Rp,differenceUpdate->T6,unchanged->U6,copyOf->VD,baseOf->VE,addrOf->VH,slot1->V1,updateFrom->ē,slot0->Ĕ,newClass->ĕ
open PySem.Builtin.SmallTypes renaming nextOf->KC
open PySem.SetTable renaming sizeAbove->KZ,below->MI,grown->Oj,bits->O0,eraseAt->Qy,turns->RN,layClean->SM,fits->SU,laid->Vd,runEnd->WE,relaid->WH,fill->W',orStandIn->Zx,fresh->æ,leap->ï,drop->ð
open PySem.W renaming kas_sort->Mj,kas_ask->X0,looks_findIn->î,kat_cons->ď,kat_yes->Ń,Looks->Ņ,subIn->ų,findIn->Ŵ
open List.Perm renaming refl->MG,swap->à,cons->á
open PySem.NameKind renaming free->Nq
open False renaming elim->Nv
open PyProof.Rows.F renaming plain_set_update_loop->N8,entry_set_update_loop->T_
open PySem.AutoSeq1 renaming wpAny_loadPart'->O',sub_tuple_tuple->Xa,sub_tuple_list->X8,sub_list_tuple->X9,sub_list_list->Yv,idx_int->Ô
open ForInStep renaming yield->Pb
open PySem.PyData renaming keyHash->Qb
open List.cons renaming injEq->Rx
open LT renaming lt->RF
open ToString renaming toString->Sq
open PySem.Shared renaming TypeIs->TC
open PySem.SeqAt renaming EqAt->UJ,ne_of_list_tuple->Zq,RcAt->Ý,RcNeAt->Ĳ
open PySem.Data renaming fields->Vf,cell->Zr
open PySem.Txt renaming join->VA
open PySem.F renaming typeOf_object_class->VB,slot_gs_get->È,excBase_ValueError->ò,args_list_extend_2->ó,entry_list_extend->Ą,slot_list_extend->Ē,attr_ValueError->ğ,entry_list_pop->Ĵ,slot_list_pop->ŋ
open PySem.Code renaming quiet_builtin->Wg
open Sum.inr renaming inj->WC
open PySem.Builtin.Dict renaming updateFrom->WT,selfAndRest->Ţ,pairItems->ţ
open PySem.pickOrder renaming go->XR
open PySem.Walks renaming list->XZ
open PySem.SetTable.below renaming go->X6
open Prod.mk renaming injEq->X_
open True renaming intro->X'
open PySem.SeqAt.EqAt renaming bool_bool->Yc
open List.Nodup renaming sublist->Zm
open PySem.Heap.DictOf renaming new->ZK
open PyProof.Rows.IsTup renaming new->û
open PySem.W.KatTups renaming cons->Đ,nil->ĝ
open PySem.W.Looks renaming of_pure->Ĝ,ld->ŵ
open PySem.ItemsOf renaming nil->Ğ
open PyProof.Rows.LSm renaming range_all->Ġ,kept_iter->ġ
open Prod renaming fst->Ģ,ext->ģ
open PySem.W.WShape renaming has->ń
open PySem.Moved renaming trans->ň
open PySem.Heap.IsSliceOf renaming new->Ŋ
open LE renaming le->ō
open ForIn renaming forIn->Ŏ
open PySem.Builtin.Range renaming rangeSize->ř
open List.Pairwise renaming nil->ŝ,map->Ş
open PySem.W.WData renaming int->Š
abbrev ż:=@decide_eq_true_eq
abbrev Ž:=@if_pos
abbrev ž:=@if_neg
abbrev ſ:=@decide_eq_false
abbrev Α:=@decide_eq_true
abbrev Β:=@of_decide_eq_true
abbrev Δ:=@congrArg
abbrev Ε:=@beq_eq_false_iff_ne
local macro_rules|`(def $a:declId $b* : $t :=$v)=>`(theorem $a:declId $b* : $t :=$v)
local macro_rules|`(abbrev $a:declId $b:optDeclSig $c:declVal)=>`(noncomputable def $a:declId $b:optDeclSig $c:declVal)
local macro_rules|`(tactic|show $t)=>`(tactic|refine $t)
local macro_rules|`(tactic|have⟨$a,*⟩:=$t)=>do let p<-a.getElems.mapM fun x=>`(Lean.Parser.Tactic.rcasesPatLo|$(⟨x⟩):ident);`(tactic|obtain⟨$p,*⟩:=$t)
local macro_rules|`(⋯)=>`(by lia)
local macro_rules|`(∅)=>`(by(first|exact trivial|exact⟨⟨_,rfl,rfl⟩,trivial⟩|exact⟨⟨_,rfl,rfl⟩,⟨_,rfl,rfl⟩,trivial⟩))
namespace L2
open PySem PySem.Spec PyProof.Rows
@[reducible]def Key:=Sum Int Str
abbrev jP:Key->dV->Bool
 |.inl k,v=>ņ k v
 |.inr x,v=>Rz x v
abbrev Jq(w:vl):Key->Int
 |.inl k=>hashInt k
 |.inr x=>hashStr w x
theorem bg:∀{k:Key}{v:dV},jP k v=b8->(∃i t,k=WI i/\v=WN i t)\/(∃x t,k=l0 x/\v=sL x t)
 |.inl i,v,h=>by
  have⟨t,e⟩:=Value.isInt_shape (k:=i) (v:=v) h;show .inl ⟨i,t,rfl,e⟩
 |.inr x,v,h=>by
  have⟨t,e⟩:=Ó (x:=x) (v:=v) h;show .inr ⟨x,t,rfl,e⟩
def wI(i:Int)(t:Tok):jP (.inl i) (.int i t)=b8:=by simp[jP,ņ]
def wJ(x:Str)(t:Tok):jP (.inr x) (.str x t)=b8:=by simp[jP,Rz]
def EF(a b:Int):c4 ((WI a:Key)=WI b)=(a==b):=by
 by_cases e:a=b
 .subst e;simp
 .have h:¬(WI a:Key)=WI b:=λq=>e (Sum.inl.inj q);rw[ſ h];show(Ε.mpr e).symm
def EG(a b:Str):c4 ((l0 a:Key)=l0 b)=c4 (a=b):=by
 by_cases e:a=b
 .subst e;simp
 .have h:¬(l0 a:Key)=l0 b:=λq=>e (WC q);rw[ſ h,ſ e]
def EH(a:Int)(b:Str):c4 ((WI a:Key)=l0 b)=cc:=ſ (λq=>nomatch q)
def EI(a:Str)(b:Int):c4 ((l0 a:Key)=WI b)=cc:=ſ (λq=>nomatch q)
abbrev aI(prog:t8)(w:vl):PySem.KeyKind prog w Key where
 is:=jP
 hash:=Jq w
 inj:=λv a b g f=>by
  rcases bg g with⟨i,t,rfl,rfl⟩|⟨x,t,rfl,rfl⟩
  .rcases bg f with⟨j,u,rfl,e⟩|⟨y,u,rfl,e⟩
   .injection e with c _;rw[c]
   .show nomatch e
  .rcases bg f with⟨j,u,rfl,e⟩|⟨y,u,rfl,e⟩
   .show nomatch e
   .injection e with c _;rw[c]
 byValue:=λk v h=>by
  rcases bg h with⟨i,t,rfl,rfl⟩|⟨x,t,rfl,rfl⟩<;>rfl
 pyHash:=λd h=>by
  rcases bg d with⟨i,t,rfl,rfl⟩|⟨x,t,rfl,rfl⟩
  .show wpAny_pyHash_int h
  .show wpAny_pyHash_str h
 eqBool:=λl d h=>by
  rcases bg l with⟨i,t,rfl,rfl⟩|⟨x,t,rfl,rfl⟩
  .rcases bg d with⟨j,u,rfl,rfl⟩|⟨y,u,rfl,rfl⟩
   .rw[EF]at h;show YN h
   .rw[EH]at h;show SeqAt.EqAt.int_str i t y u _ _ _ _ h
  .rcases bg d with⟨j,u,rfl,rfl⟩|⟨y,u,rfl,rfl⟩
   .rw[EI]at h;show SeqAt.EqAt.str_int x t j u _ _ _ _ h
   .rw[EG]at h;show YM h
 «strs»:=λk x t v h=>by
  rcases bg h with⟨i,u,rfl,e⟩|⟨y,u,rfl,e⟩
  .show nomatch e
  .injection e with c _
   subst c;cases v<;>rfl
def qc(prog:t8)(w:vl)(i:Int)(t:Tok):(aI prog w).is (.inl i) (.int i t)=b8:=wI i t
def qe(prog:t8)(w:vl)(x:Str)(t:Tok):(aI prog w).is (.inr x) (.str x t)=b8:=wJ x t
inductive V where
 |Kb|bl (b:Bool)|int (i:Int)|str (x:Str)|Sj (b:Array UInt8)|Sk (b:UInt64)|ref (a:ez)|ty (n:String)
 deriving DecidableEq
def RelV:V->dV->Prop
 |.Kb,u=>u=mA
 |.bl b,u=>u=OS b
 |.int i,u=>∃t,u=WN i t
 |.str x,u=>∃t,u=sL x t
 |.Sj b,u=>∃t,u=Value.bytes b t
 |.Sk b,u=>∃t,u=Value.float b t
 |.ref a,u=>u=hU a
 |.ty n,u=>u=ve n
@[reducible]def Vals:List V->List dV->Prop:=Paired RelV
def Vals.length(r:Vals xs us):xs.length=us.length:=Paired.length r
theorem Vals.get:∀{xs:List V}{us:List dV}{i:Nat}{x:V},Vals xs us->xs[i]?=a5 x->∃u,us[i]?=a5 u/\RelV x u
 |_,_,_,_,.nil,e=>by simp at e
 |_,_,0,_,.cons r _,e=>by simp at e;subst e;show⟨_,rfl,r⟩
 |_,_,i+1,x,.cons _ t,e=>by
  have⟨u,a,b⟩:=Vals.get (i:=i) (x:=x) t (by simpa using e);show⟨u,by simpa using a,b⟩
theorem Vals.set(r:RelV x u):∀{xs:List V}{us:List dV} (i:Nat),Vals xs us->Vals (xs.set i x) (us.set i u)
 |_,_,_,.nil=>.nil
 |_,_,0,.cons _ t=>.cons r t
 |_,_,i+1,.cons q t=>.cons q (Vals.set r i t)
theorem Vals.append:∀{xs a:List V}{us ws:List dV},Vals xs us->Vals a ws->Vals (xs++a) (us++ws)
 |_,_,_,_,.nil,s=>s
 |_,_,_,_,.cons r t,s=>.cons r (Vals.append t s)
theorem Vals.take:∀{xs:List V}{us:List dV} (n:Nat),Vals xs us->Vals (xs.take n) (us.take n)
 |_,_,0,_=>.nil
 |_,_,_+1,.nil=>.nil
 |_,_,n+1,.cons r t=>.cons r (Vals.take n t)
theorem Vals.drop:∀{xs:List V}{us:List dV} (n:Nat),Vals xs us->Vals (xs.drop n) (us.drop n)
 |_,_,0,r=>r
 |_,_,_+1,.nil=>.nil
 |_,_,n+1,.cons _ t=>Vals.drop n t
def ka:Option V->Option dV->Prop
 |some v,a5 u=>RelV v u
 |none,b6=>True
 |_,_=>False
abbrev KV{κ:Type}:List (κ×V)->List (κ×dV)->Prop:=Paired λ(p:κ×V) (q:κ×dV)=>p.1=q.1/\RelV p.2 q.2
abbrev kV:Key->V
 |.inl i=>.int i
 |.inr x=>.str x
inductive HO where
 |lst (xs:List V)
 |tup (xs:List V)
 |dK (kvs:List (Key×V))|dT (kvs:List (List Key×V))
 |set (S:Int->Bool) (n:Nat)
 |ins (C dx:ez) (fs:List (Str×V))
 |own (x:ez)
 |xd (fs:List (Str×V))
 |met (f x:ez)
 |Sl (lo hi:Int)
 |Lc (o:Obj) (u:HO)
 |OR (ps:Array dV)
 |ext (φ:DD->Prop)
@[reducible]def Hp:=ez->Option HO
abbrev upd(H:Hp)(a:ez)(o:HO):Hp:=λb=>if b=a then a5 o else H b
def az:upd H a o a=a5 o:=by unfold upd;rw[Ž rfl]
def au(h:b≠a):upd H a o b=H b:=by unfold upd;rw[ž h]
def He{H:Hp}(h:H a=a5 o)(h':H b=a5 u)(d:o≠u):a≠b:=by
 intro e;subst e;rw[h]at h';show d (td h')
def bt{H:Hp}(h:H a=a5 o)(h':H b=b6):a≠b:=by
 intro e;subst e;rw[h]at h';cases h'
section
variable(P:t8)(w:vl)
def bE(H:Hp)(h:DD)(a:ez):HO->Prop
 |.lst xs=>xs.length<=cK/\∃(its:List dV) (n:Nat),Vals xs its/\h.get? a=a5 {cls:=.type "list",data:=.seq its.toArray n}
 |.tup xs=>xs.length<=cK/\∃its:List dV,Vals xs its/\Ż h a its.toArray
 |.dK kvs=>kvs.length<=cK/\(a==Ov)=cc/\∃vs,KV kvs vs/\h.DictOf (aI P w) a vs
 |.dT kvs=>kvs.length<=cK/\(a==Ov)=cc/\∃xs:List (List Key×ez×dV),
   Paired (λ(p:List Key×V) (q:List Key×ez×dV)=>p.1=q.1/\H q.2.1=a5 (.tup (p.1.map kV))/\RelV p.2 q.2.2) kvs xs /\
   ∃o es ep,h.get? a=a5 o/\o.ExactDict/\o.data=.dict es ep/\es.toList=xs.map (entryOfKey (WD (aI P w)))/\(xs.map (·.1)).Nodup
 |.set S n=>h.SetOf (intKind P w) a S n
 |.ins C d c=>H d=a5 (.own a)/\c.length<=1000/\d≠a/\h.get? a=a5 (PySem.W.instObj C d) /\
   ∃b,h.Ns1 d b/\(∀f,ka (c.lookup f) (b f))/\PySem.Within b (c.map (·.1))
 |.own _=>∃o,h.get? a=a5 o
 |.xd c=>∃b,h.Ns1 a b/\∀f,ka (c.lookup f) (b f)
 |.Sl lo i=>∃t u v,h.get? a=a5 {cls:=.type "range",data:=.fields #[.int lo t,.int i u,.int 1 v]}
 |.Lc o u=>h.get? a=a5 o/\bE H h a u
 |.OR ps=>h.get? a=a5 {cls:=.none,data:=.fields ps}
 |.met f x=>h.get? a=a5 (PySem.W.methodObj (.ref f) (.ref x))
 |.ext φ=>φ h/\(∃o,h.get? a=a5 o)/\∀e g:DD,φ e->(∀o,e.get? a=a5 o->g.get? a=a5 o)->φ g
abbrev Lh(H:Hp)(h:DD):Prop:=∀a o,H a=a5 o->bE P w H h a o
end
section
def bE.lt(x:bE P w H h a o):a<h.objs.size:=by
 cases o with
 |lst xs=>obtain⟨_,_,_,_,e⟩:=x;show et e
 |tup xs=>obtain⟨_,_,_,p⟩:=x;show p.lt
 |set S n=>obtain⟨o,_,_,_,e,_⟩:=x;show et e
 |ins C c b=>obtain⟨_,_,_,e,_⟩:=x;show et e
 |own y=>obtain⟨_,e⟩:=x;show et e
 |xd b=>obtain⟨_,⟨_,_,_,e,_⟩,_⟩:=x;show et e
 |Sl lo d=>obtain⟨_,_,_,e⟩:=x;show et e
 |Lc g u=>obtain⟨e,_⟩:=x;show et e
 |OR ps=>show et (show h.get? a=a5 _ from x)
 |met f y=>show et (show h.get? a=a5 _ from x)
 |ext φ=>obtain⟨_,⟨_,e⟩,_⟩:=x;show et e
 |_=>obtain⟨_,_,_,_,o,_,_,e,_⟩:=x;show et e
theorem Paired.EJ:∀{c:List α}{d:List β},Paired F c d->(∀a b,F a b->G a b)->Paired G c d
 |_,_,.nil,_=>.nil
 |_,_,.cons r t,f=>.cons (f _ _ r) (Paired.EJ t f)
def bE.fI(x:bE P w H h a o)(k:∀b u,(b=a\/H b=a5 (.own a))->h.get? b=a5 u->h'.get? b=a5 u)
  (ho:∀b,H b=a5 (.own a)->H' b=a5 (.own a)) (l:∀b xs,H b=a5 (.tup xs)->H' b=a5 (.tup xs)):bE P w H' h' a o:=by
 induction o with
 |lst xs=>have⟨z,its,n,r,e⟩:=x;show⟨z,its,n,r,k _ _ (.inl rfl) e⟩
 |tup xs=>have⟨z,its,r,g,e,c⟩:=x;show⟨z,its,r,g,k _ _ (.inl rfl) e,c⟩
 |dK kvs=>have⟨z,y,vs,r,g,es,ep,e,c⟩:=x;show⟨z,y,vs,r,g,es,ep,k _ _ (.inl rfl) e,c⟩
 |dT kvs =>
  have⟨z,y,xs,r,g,es,ep,e,c⟩:=x;show⟨z,y,xs,Paired.EJ r λp q z=>⟨z.1,l _ _ z.2.1,z.2.2⟩,g,es,ep,k _ _ (.inl rfl) e,c⟩
 |set S n=>have⟨g,es,ep,t,e,c⟩:=x;show⟨g,es,ep,t,k _ _ (.inl rfl) e,c⟩
 |ins C B m =>
  obtain⟨d,z,ne,e,i,⟨j,es,ep,s,c⟩,r⟩:=x;show⟨ho _ d,z,ne,k _ _ (.inl rfl) e,i,⟨j,es,ep,k _ _ (.inr d) s,c⟩,r⟩
 |own y=>have⟨g,e⟩:=x;show⟨g,k _ _ (.inl rfl) e⟩
 |xd m=>obtain⟨i,⟨j,es,ep,e,c⟩,r⟩:=x;show⟨i,⟨j,es,ep,k _ _ (.inl rfl) e,c⟩,r⟩
 |Sl lo D=>have⟨t,u,v,e⟩:=x;show⟨t,u,v,k _ _ (.inl rfl) e⟩
 |Lc g u A=>have⟨e,q⟩:=x;show⟨k _ _ (.inl rfl) e,A q⟩
 |OR ps =>
  have e:h.get? a=a5 {cls:=.none,data:=.fields ps}:=x;change h'.get? a=a5 {cls:=.none,data:=.fields ps};show k a _ (.inl rfl) e
 |met f y =>
  have e:h.get? a=a5 (PySem.W.methodObj (.ref f) (.ref y)):=x;change h'.get? a=a5 (PySem.W.methodObj (.ref f) (.ref y));show k a _ (.inl rfl) e
 |ext φ=>obtain⟨p,⟨o,e⟩,st⟩:=x;show⟨st _ _ p λo q=>k _ _ (.inl rfl) q,⟨o,k _ _ (.inl rfl) e⟩,st⟩
def Lh.lt(x:Lh P w H h)(e:H a=a5 o):a<h.objs.size:=(x a o e).lt
def Lh.fresh(x:Lh P w H h)(e:h.objs.size<=a):H a=b6:=by
 cases q:H a with
 |none=>rfl
 |some u=>show absurd (i5 (x.lt q) e) (t4 _)
def Lh.kept(x:Lh P w H h)(k:∀b u,h.get? b=a5 u->h'.get? b=a5 u):Lh P w H h':=λa o e =>
 (x a o e).fI (λb u _ q=>k b u q) (λ_ q=>q) λ_ _ q=>q
def Lh.laid(x:Lh P w H h)(k:∀b u,h.get? b=a5 u->h'.get? b=a5 u)(g:h.objs.size<=a)(new:bE P w (upd H a o) h' a o):Lh P w (upd H a o) h':=λb u e=>by
 have d:=x.fresh g;by_cases f:b=a
 .subst f;rw[az]at e;cases e;show new
 .rw[au f]at e;show(x b u e).fI (λc v _ q=>k c v q) (λc q=>by rw[au (bt q d)];show q) λc xs q=>by rw[au (bt q d)];show q
end
abbrev Rd(H:Hp)(a:ez)(u:HO):Prop:=H a=a5 u\/∃o,H a=a5 (.Lc o u)
def Rd.ok(r:Rd H a u)(x:Lh P w H h):bE P w H h a u:=by
 rcases r with r|⟨o,r⟩
 .show x a u r
 .obtain⟨_,q⟩:=x a _ r;show q
def QR:Option HO->Prop
 |some (.lst _)=>True
 |some (.dK _)=>True
 |some (.dT _)=>True
 |some (.set _ _)=>True
 |some (.ins _ _ _)=>True
 |some (.ext _)=>True
 |_=>False
section
def Lh.write(j:Lh P w H h)(mu:QR (H x))(f:e=x\/H e=a5 (.own x))(k:∀b u,b≠e->h.get? b=a5 u->h'.get? b=a5 u)(l:∃u,h'.get? e=a5 u)
  (new:bE P w (upd H x o') h' x o'):Lh P w (upd H x o') h':=λb u q=>by
 have g:∀c y,H c=a5 (.own y)->c≠x:=λc y r z=>by subst z;rw[r]at mu;show mu
 have m:∀c xs,H c=a5 (.tup xs)->c≠x:=λc xs r z=>by subst z;rw[r]at mu;show mu
 by_cases a:b=x
 .subst a;rw[az]at q;cases q;show new
 .rw[au a]at q;by_cases d:b=e
  .have i:H b=a5 (.own x):=by
    rcases f with z|z
    .show absurd (d.trans z) a
    .rw[d];show z
   rw[q]at i;cases i;have⟨v,n⟩:=l;show⟨v,by rw[d];show n⟩
  .show(j b u q).fI (λc v hc r=>k c v ?_ r) (λc r=>by rw[au (g c b r)];show r) λc xs r=>by rw[au (m c xs r)];show r
   rcases hc with rfl|hc
   .show d
   .rintro rfl;rcases f with z|z
    .show g c b hc z
    .rw[hc]at z;cases z;show a rfl
end
structure Un(fs ex:List ez)(H H':Hp)(h h':DD):Prop where
 keep:∀b o,h.get? b=a5 o->H b=b6->b∉fs->b∉ex->h'.get? b=a5 o
 slot:∀b o,h.get? b=a5 o->H b=b6->b∈fs->b∉ex->∃sl,h'.get? b=a5 {o with slots:=sl}
 free:∀b o,h.get? b=a5 o->H b=b6->b∉ex->H' b=b6
 there:∀b o,h.get? b=a5 o->b∉ex->∃o',h'.get? b=a5 o'
 eX:∀b xs,H b=a5 (.tup xs)->H' b=a5 (.tup xs)
 Le:∀b o u,H b=a5 (.Lc o u)->H' b=a5 (.Lc o u)
 Ll:∀b ps,H b=a5 (.OR ps)->∃more,H' b=a5 (.OR (ps++more))
section
def Un.any(u:Un e ex H i h f)(q:h.get? b=a5 a)(n:H b=b6)(c:b∉ex):∃g,f.get? b=a5 {a with slots:=g}:=by
 by_cases d:b∈e
 .show u.slot b a q n d c
 .show⟨a.slots,u.keep b a q n d c⟩
def Un.kept(k:∀b u,h.get? b=a5 u->h'.get? b=a5 u):Un c ex H H h h' :=
 ⟨λb a q _ _ _=>k b a q,λb a q _ _ _=>⟨a.slots,k b a q⟩,λ_ _ _ n _=>n,λb a q _=>⟨a,k b a q⟩,λ_ _ q=>q,λ_ _ _ q=>q,λ_ ps q=>⟨#[],by rw[q];simp⟩⟩
def Un.refl:Un a ex H H h h:=Un.kept λ_ _ q=>q
def Un.laid(k:∀b u,h.get? b=a5 u->h'.get? b=a5 u)(d:h.objs.size<=a)(c:H a=b6):Un e ex H (upd H a o) h h' where
 keep:=λb u q _ _ _=>k b u q
 slot:=λb u q _ _ _=>⟨u.slots,k b u q⟩
 free:=λb u q n _=>by rw[au (gj (i5 (et q) d))];show n
 there:=λb u q _=>⟨u,k b u q⟩
 eX:=λb xs q=>by rw[au (bt q c)];show q
 Le:=λb u xs q=>by rw[au (bt q c)];show q
 Ll:=λb ps q=>⟨#[],by rw[au (bt q c),q];simp⟩
def Un.write(mu:QR (H x))(g:e=x\/H e=a5 (.own x))(k:∀b u,b≠e->h.get? b=a5 u->h'.get? b=a5 u)(i:∃u,h'.get? e=a5 u):Un j ex H (upd H x o) h h':=by
 have c:∀b,H b=b6->b≠x:=λb n z=>by subst z;rw[n]at mu;show mu
 have d:∀b,H b=b6->b≠e:=λb n z=>by
  subst z;rcases g with r|r
  .show c b n r
  .rw[n]at r;cases r
 have a:∀b u,H b=a5 u->¬QR (a5 u)->b≠x:=λb u q nm z=>by subst z;rw[q]at mu;show nm mu
 show⟨λb u q n _ _=>k b u (d b n) q,λb u q n _ _=>⟨u.slots,k b u (d b n) q⟩,λb u q n _=>by rw[au (c b n)];show n,λb u q _=>?_,
  λb xs q=>by rw[au (a b _ q λz=>z)];show q,λb u xs q=>by rw[au (a b _ q λz=>z)];show q,λb ps q=>⟨#[],by rw[au (a b _ q λz=>z),q];simp⟩⟩
 by_cases f:b=e
 .subst f;show i
 .show⟨u,k b u f q⟩
end
abbrev Sm(h:DD)(H:Hp):List ez:=(gs h.objs.size).filter λa=>(H a).isSome
abbrev oF(h:DD)(H:Hp):DD:=PySem.W.hideAll h (Sm h H)
def wK(h:DD)(H:Hp):(oF h H).objs.size=h.objs.size:=PySem.W.hideAll_size _ _
def yi(e:h.get? b=a5 o)(n:H b=b6):(oF h H).get? b=a5 o :=
 PySem.W.hideAll_get _ e λa=>by
  have q:(H b).isSome=b8:=(N9.mp a).2;rw[n]at q;simp at q
def BG(e:(oF h H).get? b=a5 o):h.get? b=a5 o/\H b=b6:=by
 have a:h.get? b=a5 o:=PySem.W.of_hideAll (Sm h H) e;show⟨a,?_⟩;cases q:H b with
 |none=>rfl
 |some x =>
  have c:b∈Sm h H:=N9.mpr ⟨rr.mpr (et a),by simp[q]⟩;have z:(oF h H).get? b=b6:=PySem.W.hideAll_none (Sm h H) c;rw[z]at e;cases e
structure Mod(K:PySem.W.Frag)(mg:Str->Option dV)(base:DD):Prop where
 Qg:K.In base
 glob:base.Ns ko mg
 blt:∃mb,base.Ns İ mb/\∀x:Str,x≠"__name__"->mb x=u7 x
 nolimit:base.NoLimit
structure Cx where
 prog:t8
 w:vl
 K:PySem.W.Frag
 mg:Str->Option dV
 base:DD
 A:N7
 N:List Str
 s₀:eH
 H₀:Hp
 env:Env
 outer:List Env
 stack:List Env
 ex:List ez
 fn:Str->Bool
 calm:Bool
 pn:List (ez×Obj)
 xe:dV->eH->Prop
abbrev KW(l:List Env):List ez:=l.filterMap (·.frame)
noncomputable abbrev Cx.fs(X:Cx):List ez:=KW X.outer
abbrev Ml(a:M3)(x:Str):Prop:=a.names.lookup x=a5 .local\/a.names.lookup x=a5 .cell\/a.names.lookup x=a5 .free
abbrev Loc(a:M3)(x:Str):Prop:=a.names.lookup x=a5 .local\/a.names.lookup x=a5 .cell
abbrev Look(env:Env)(h:DD)(m:Str->Option dV)(x:Str)(u:dV):Prop :=
 (env.kindOf x=a5 .local/\m x=a5 u)\/((env.kindOf x=a5 .cell\/env.kindOf x=a5 .free)/\∃c,env.cells.lookup x=a5 c/\h.IsCell c (a5 u))
structure Cx.Ok(X:Cx):Prop where
 mod:Mod X.K X.mg X.base
 kind:X.env.scope.kind=.function
 glob:X.env.globals=ko
 blt:X.env.builtins=İ
 above:X.s₀.heap.objs.size<=X.env.locals
 inj:∀x y c,X.env.cells.lookup x=a5 c->X.env.cells.lookup y=a5 c->x=y
 has:∀x,(X.env.kindOf x=a5 .cell\/X.env.kindOf x=a5 .free)->∃c,X.env.cells.lookup x=a5 c
 Qh:∀x c,X.fn x=b8->X.env.cells.lookup x=a5 c->X.s₀.heap.objs.size<=c
 hd:X.calm=b8->X.A.handled=b6
 frames:X.A.frames=a5 X.stack
 QT:X.stack=X.outer\/(X.stack=X.env::X.outer/\X.env.frame=a5 X.env.locals)
 Tu:∀b∈X.ex,b≠X.env.locals/\∀x c,X.env.cells.lookup x=a5 c->c≠b
 bs:∀b o,X.base.get? b=a5 o->X.s₀.heap.get? b=a5 o/\X.H₀ b=b6
 Ol:X.base.objs.size<=X.s₀.heap.objs.size
 M9:∀b o,X.base.get? b=a5 o->b∉X.ex
 Ny:∀b∈X.ex,b∉X.fs
 kb:X.s₀.heap.FunFrames X.base X.outer
 Pd:∀b∈X.fs,X.H₀ b=b6
structure Inv(X:Cx)(pins:List (ez×Obj))(σ:List (Option V))(H:Hp)(s:eH):Prop where
 ok:X.Ok
 os:s.os=X.s₀.os
 bare:UX s.gens
 base:Un X.fs X.ex X.H₀ H X.s₀.heap s.heap
 loc:∃m,s.heap.Ns X.env.locals m/\∀(i:Nat) (x:Str) (v:V),X.N[i]?=a5 x->σ[i]?=a5 (a5 v)->Ml X.env.scope x->∃u,RelV v u/\Look X.env s.heap m x u
 cell:∀x c,X.env.cells.lookup x=a5 c->∃v,s.heap.IsCell c v
 free:H X.env.locals=b6
 Ku:∀x c,X.env.cells.lookup x=a5 c->H c=b6
 pin:∀p∈X.pn++pins,s.heap.get? p.1=a5 p.2/\H p.1=b6/\p.1≠X.env.locals/\p.1∉X.fs/\∀v,p.2.data≠.cell v
 J_:Lh X.prog X.w H s.heap
 len:σ.length=X.N.length
section
variable{X:Cx}{pins:List (ez×Obj)}{σ:List (Option V)}{H H':Hp}{s:eH}{h':DD}
def Cx.Ok.Jr(a:X.Ok)(e:X.base.get? b=a5 o):b∉X.fs:=λc=>by
 have:=(a.kb.mem c).1;rw[e]at this;cases this
def Inv.bs(I:Inv X pins σ H s):∀b o,X.base.get? b=a5 o->s.heap.get? b=a5 o/\H b=b6:=λb o e =>
 ⟨I.base.keep b o (I.ok.bs b o e).1 (I.ok.bs b o e).2 (I.ok.Jr e) (I.ok.M9 b o e),I.base.free b o (I.ok.bs b o e).1 (I.ok.bs b o e).2 (I.ok.M9 b o e)⟩
def Inv.bk(I:Inv X pins σ H s):∀b o,X.base.get? b=a5 o->s.heap.get? b=a5 o:=λb o e=>(I.bs b o e).1
def Inv.mod(I:Inv X pins σ H s):Mod X.K X.mg X.base:=I.ok.mod
def Inv.Nz(I:Inv X pins σ H s):X.K.In s.heap:=I.ok.mod.Qg.keeps I.bk
def Inv.lt(I:Inv X pins σ H s):X.env.locals<s.heap.objs.size:=let ⟨_,a,_⟩:=I.loc;a.lt
def Inv.sz(I:Inv X pins σ H s):X.s₀.heap.objs.size<=s.heap.objs.size:=C0 I.ok.above (Q8 I.lt)
def Inv.EK(I:Inv X pins σ H s)(h:s.heap.objs.size<=a):a∉X.fs:=λb=>by
 obtain⟨_,o,ho,_⟩:=I.ok.kb.mem b;show absurd (i5 (et ho) (C0 I.sz h)) (t4 _)
def Inv.NA(I:Inv X pins σ H s):∀x c,X.env.cells.lookup x=a5 c->c≠X.env.locals:=λx c e z=>by
 have⟨v,o,ho,a⟩:=I.cell x c e;obtain⟨m,⟨o',es,ep,b,d,_⟩,_⟩:=I.loc;rw[z,b]at ho;cases ho;rw[d]at a;cases a
def Inv.kb(I:Inv X pins σ H s):s.heap.FunFrames X.base X.outer:=by
 have all:∀(l:List Env),(∀b∈KW l,b∈X.fs)->X.s₀.heap.FunFrames X.base l->s.heap.FunFrames X.base l:=by
  intro l;induction l with
  |nil=>intro _ _;trivial
  |cons env r f =>
   intro hs hl;obtain⟨hk,⟨L,o,a,g,ho,h⟩,i⟩:=hl;have c:L∈X.fs:=hs L (by unfold KW;rw[C1,a];show nc);have⟨j,e⟩:=I.base.slot L o ho (I.ok.Pd L c) c λz=>I.ok.Ny L z c;show⟨hk,⟨L,_,a,g,e,h⟩,f (λb d=>hs b (by unfold KW;rw[C1,a];show mf _ d)) i⟩
 show all X.outer (λ_ d=>d) I.ok.kb
def Inv.stack(I:Inv X pins σ H s):s.heap.FunFrames X.base X.stack:=by
 rcases I.ok.QT with e|⟨e,a⟩
 .rw[e];show I.kb
 .rw[e];obtain⟨m,b,_⟩:=I.loc;show .cons (by rw[I.ok.kind];decide) a b ?_ I.kb;show Heap.get?_none_of_le (C0 I.ok.Ol I.ok.above)
def Inv.kP(I:Inv X pins σ H s):∀b∈KW X.stack,b∈X.env.locals::X.fs:=λb a=>by
 rcases I.ok.QT with e|⟨e,c⟩
 .rw[e]at a;show mf _ a
 .rw[e]at a;unfold KW at a;rw[C1,c]at a;show a
def Inv.kC(I:Inv X pins σ H s):∀b∈KW X.stack,H b=b6:=λb hb=>by
 rcases d6.mp (I.kP b hb) with e|hb
 .rw[e];show I.free
 .obtain⟨_,o,ho,_⟩:=I.ok.kb.mem hb;show I.base.free b o ho (I.ok.Pd b hb) λz=>I.ok.Ny b z hb
def Inv.step{ch:List ez}(I:Inv X pins σ H s)
  (j:∀b∈ch,(b∈X.ex\/X.s₀.heap.objs.size<=b)/\b≠X.env.locals/\(∀x c,X.env.cells.lookup x=a5 c->c≠b)/\∀p∈X.pn++pins,p.1≠b)
  (keep:∀b o,b≠X.env.locals->b∉X.fs->b∉ch->s.heap.get? b=a5 o->H b=b6->h'.get? b=a5 o)
  (slot:∀b o,b≠X.env.locals->b∈X.fs->b∉ch->s.heap.get? b=a5 o->H b=b6->∃B,h'.get? b=a5 {o with slots:=B}) (free:∀b o,b∉ch->s.heap.get? b=a5 o->H b=b6->H' b=b6)
  (there:∀b o,b∉ch->s.heap.get? b=a5 o->∃o',h'.get? b=a5 o')
  (eX:∀b xs,H b=a5 (.tup xs)->H' b=a5 (.tup xs)) (Le:∀b o u,H b=a5 (.Lc o u)->H' b=a5 (.Lc o u)) (Ll:∀b ps,H b=a5 (.OR ps)->∃more,H' b=a5 (.OR (ps++more)))
  (ns:∀m,s.heap.Ns X.env.locals m->h'.Ns X.env.locals m) (L:Lh X.prog X.w H' h') (N:UX g') :
  Inv X pins σ H' {s with heap:=h',gens:=g',drawn:=d',toks:=t' }:=by
 have D:∀b o,X.s₀.heap.get? b=a5 o->b≠X.env.locals:=λb o e=>gj (i5 (et e) I.ok.above);have A:∀b o,X.s₀.heap.get? b=a5 o->b∉X.ex->b∉ch:=λb o e a h=>by
  rcases(j b h).1 with z|z
  .show a z
  .show absurd (i5 (et e) z) (t4 _)
 have f:∀x c,X.env.cells.lookup x=a5 c->∀v,s.heap.IsCell c v->h'.IsCell c v:=λx c e v O=>by
  have⟨o,ho,C⟩:=O;have t:c∉ch:=λz=>(j c z).2.2.1 x c e rfl;by_cases G:c∈X.fs
  .have⟨B,q⟩:=slot c o (I.NA x c e) G t ho (I.Ku x c e);show⟨_,q,C⟩
  .show⟨o,keep c o (I.NA x c e) G t ho (I.Ku x c e),C⟩
 show⟨I.ok,I.os,N,⟨λb o e n h a=>?_,λb o e n h a=>?_,λb o e n a=>?_,λb o e a=>?_,λb xs e=>eX b xs (I.base.eX b xs e),λb o xs e=>Le b o xs (I.base.Le b o xs e),λb ps e=>?_⟩,?_,λx c e=>?_,?_,λx c e=>?_,λp J=>?_,L,I.len⟩
 .show keep b o (D b o e) h (A b o e a) (I.base.keep b o e n h a) (I.base.free b o e n a)
 .have⟨B,g⟩:=I.base.slot b o e n h a;have⟨Q,y⟩:=slot b _ (D b o e) h (A b o e a) g (I.base.free b o e n a);show⟨Q,y⟩
 .have⟨o',g⟩:=I.base.there b o e a;show free b o' (A b o e a) g (I.base.free b o e n a)
 .have⟨o',g⟩:=I.base.there b o e a;show there b o' (A b o e a) g
 .have⟨m1,g⟩:=I.base.Ll b ps e;have⟨m2,y⟩:=Ll b _ g;show⟨m1++m2,by rw[y,â]⟩
 .have⟨m,T,hl⟩:=I.loc;show⟨m,ns m T,λi x v g y Y=>?_⟩;have⟨u,r,l⟩:=hl i x v g y Y;show⟨u,r,?_⟩;rcases l with l|⟨k,c,e,z⟩
  .show .inl l
  .show .inr ⟨k,c,e,f x c e _ z⟩
 .have⟨v,z⟩:=I.cell x c e;show⟨v,f x c e v z⟩
 .obtain⟨m,⟨o,_,_,ho,_⟩,_⟩:=I.loc;show free _ o (λz=>(j _ z).2.1 rfl) ho I.free
 .have⟨v,o,ho,C⟩:=I.cell x c e;show free c o (λz=>(j c z).2.2.1 x c e rfl) ho (I.Ku x c e)
 .have⟨e,n,ne,nf,d⟩:=I.pin p J;have t:p.1∉ch:=λz=>(j p.1 z).2.2.2 p J rfl;show⟨keep p.1 p.2 ne nf t e n,free p.1 p.2 t e n,ne,nf,d⟩
def Inv.un(I:Inv X pins σ H s)(u:Un X.fs [] H H' s.heap h')(d:Lh X.prog X.w H' h'):Inv X pins σ H' {s with heap:=h',toks:=t' }:=by
 obtain⟨m,⟨o,es,ep,ho,r⟩,_⟩:=id I.loc;have⟨k,f⟩:=u.any ho I.free (by simp);show I.step (g':=s.gens) (d':=s.drawn) (ch:=[]) (λ_ z=>nomatch z) (λb o _ a _ e n=>u.keep b o e n a (by simp)) (λb o _ a _ e n=>u.slot b o e n a (by simp)) (λb o _ e n=>u.free b o e n (by simp)) (λb o _ e=>u.there b o e (by simp)) u.eX u.Le u.Ll (λl g=>by
  have⟨o',h,i,c,j⟩:=g;rw[ho]at c;cases c;show⟨_,h,i,f,j⟩) d I.bare
def Inv.call(I:Inv X pins σ H s)(u:Un (KW X.stack) ch H H' s.heap h')(h:Lh X.prog X.w H' h')(i:UX g')
  (f:∀b∈ch,(b∈X.ex\/X.s₀.heap.objs.size<=b)/\b≠X.env.locals/\(∀x c,X.env.cells.lookup x=a5 c->c≠b)/\∀p∈X.pn++pins,p.1≠b) :
  Inv X pins σ H' {s with heap:=h',gens:=g',drawn:=d',toks:=t' }:=by
 obtain⟨m,⟨o,es,ep,ho,r⟩,_⟩:=id I.loc;have⟨v,d⟩:=u.any ho I.free λz=>(f _ z).2.1 rfl;show I.step (ch:=ch) f (λb o d j a e n=>u.keep b o e n (λz=>(d6.mp (I.kP b z)).elim d j) a) (λb o _ _ a e n=>u.any e n a) (λb o a e n=>u.free b o e n a) (λb o a e=>u.there b o e a) u.eX u.Le u.Ll (λy k=>by
  have⟨o',l,q,g,t⟩:=k;rw[ho]at g;cases g;show⟨_,l,q,d,t⟩) h i
def Inv.turned(I:Inv X pins σ H s)(k:∀b o,b≠it->s.heap.get? b=a5 o->h'.get? b=a5 o)(g:H it=b6)(d:it≠X.env.locals)
  (h:it∈X.ex\/X.s₀.heap.objs.size<=it) (i:∀x c,X.env.cells.lookup x=a5 c->c≠it) (j:∀p∈X.pn++pins,p.1≠it):Inv X pins σ H {s with heap:=h',toks:=t' }:=by
 have f:∀b u,H b=a5 u->b≠it:=λb u e z=>by rw[z,g]at e;cases e
 show I.step (g':=s.gens) (d':=s.drawn) (ch:=[it]) (λb l=>?_) (λb o _ _ a e _=>k b o (λz=>a (by simp[z])) e) (λb o _ _ a e _=>⟨o.slots,k b o (λz=>a (by simp[z])) e⟩) (λ_ _ _ _ n=>n)
  (λb o a e=>⟨o,k b o (λz=>a (by simp[z])) e⟩) (λ_ _ e=>e) (λ_ _ _ e=>e) (λb ps e=>⟨#[],by rw[e];simp⟩) (λm t=>?_) (λb u e=>?_) I.bare
 .have e:b=it:=by simpa using l
  subst e;show⟨h,d,i,j⟩
 .have⟨o,es,ep,ho,r⟩:=t;show⟨o,es,ep,k _ o (qP d) ho,r⟩
 .show(I.J_ b u e).fI (λc v a q=>k c v ?_ q) (λ_ q=>q) λ_ _ q=>q;rcases a with z|z
  .rw[z];show f b u e
  .show f c _ z
def Inv.tok(I:Inv X pins σ H s)(t:Nat):Inv X pins σ H {s with toks:=t}:=I.un (h':=s.heap) (t':=t) Un.refl I.J_
def Inv.kept(I:Inv X pins σ H s)(k:∀b u,s.heap.get? b=a5 u->h'.get? b=a5 u):Inv X pins σ H {s with heap:=h',toks:=t' }:=I.un (Un.kept k) (I.J_.kept k)
def Inv.laid(I:Inv X pins σ H s)(k:∀b u,s.heap.get? b=a5 u->h'.get? b=a5 u)(c:s.heap.objs.size<=a)(new:bE X.prog X.w (upd H a o) h' a o):
  Inv X pins σ (upd H a o) {s with heap:=h',toks:=t' }:=I.un (Un.laid k c (I.J_.fresh c)) (I.J_.laid k c new)
def Inv.write(I:Inv X pins σ H s)(mu:QR (H x))(a:e=x\/H e=a5 (.own x))(k:∀b u,b≠e->s.heap.get? b=a5 u->h'.get? b=a5 u)(c:∃u,h'.get? e=a5 u)
  (new:bE X.prog X.w (upd H x o) h' x o):Inv X pins σ (upd H x o) {s with heap:=h',toks:=t' }:=I.un (Un.write mu a k c) (I.J_.write mu a k c new)
def Inv.weak(I:Inv X pins σ H s)(hl:a.length=σ.length)(w:∀(i:Nat) v,a[i]?=a5 (a5 v)->σ[i]?=a5 (a5 v)):Inv X pins a H s :=
 ⟨I.ok,I.os,I.bare,I.base,let ⟨m,b,c⟩:=I.loc;⟨m,b,λi x v d e f=>c i x v d (w i v e) f⟩,I.cell,I.free,I.Ku,I.pin,I.J_,hl.trans I.len⟩
def Inv.ei(I:Inv X pins σ H s)(h:∀p∈a,s.heap.get? p.1=a5 p.2/\H p.1=b6/\p.1≠X.env.locals/\p.1∉X.fs/\∀v,p.2.data≠.cell v):Inv X a σ H s :=
 ⟨I.ok,I.os,I.bare,I.base,I.loc,I.cell,I.free,I.Ku,λp b=>(ke.mp b).elim (λz=>I.pin p (RK _ z)) (h p),I.J_,I.len⟩
def iD{N:List Str}(c:N.Nodup){i j:Nat}(a:N[i]?=a5 x)(b:N[j]?=a5 x):i=j:=by
 have⟨f,d⟩:=dt.mp a;have⟨g,e⟩:=dt.mp b;show(W6 c).mp (d.trans e.symm)
def mX(I:Inv X pins σ H s)(hN:X.N.Nodup)(D:X.N[i]?=a5 x)(l:Loc X.env.scope x)(r:RelV v u)
  (h:∀s',Inv X pins (σ.set i (a5 v)) H s'->(∃a,qp a s.heap s'.heap/\(a=X.env.locals\/X.env.cells.lookup x=a5 a))->Q () s') (hf:X.fn x=b8\/X.env.scope.names.lookup x=a5 .local:=by first|show .inl rfl|show .inr rfl|assumption):d4 M A (storeName X.env x u) Q E s:=by
 have⟨m,L,hl⟩:=id I.loc;have Pe:(X.env.scope.kind==.class||(X.env.scope.kind==.module&&X.env.locals != X.env.globals))=cc:=by rw[I.ok.kind];rfl
 have Wc:i < σ.length:=by rw[I.len];show(dt.mp D).1
 have O:=I.NA;have f:∀{a:ez} {h':DD},(∃o,s.heap.get? a=a5 o/\H a=b6)->qp a s.heap h'->Lh X.prog X.w H h':=λ{a h'} ha hs b ob e=>by
  obtain⟨_,_,K6⟩:=ha;show(I.J_ b ob e).fI (λc G hc q=>(hs.2 c ?_).trans q) (λ_ q=>q) λ_ _ q=>q;rintro rfl;rcases hc with rfl|hc
  .rw[K6]at e;cases e
  .rw[K6]at hc;cases hc
 rcases l with hk|hk
 .show wpAny_storeName_local hk L (λh' Qj hs=>?_) Pe;obtain⟨oL,_,_,M_,_⟩:=id L;show h _ ⟨I.ok,I.os,I.bare,⟨λb o e n B l=>?_,λb o e n B l=>?_,I.base.free,λb o e l=>?_,I.base.eX,I.base.Le,I.base.Ll⟩,⟨_,Qj,λj y T g t Y=>?_⟩,λy c e=>?_,I.free,I.Ku,λp hp=>?_,f ⟨oL,M_,I.free⟩ hs,by simpa using I.len⟩ ⟨_,hs,.inl rfl⟩
  .show(hs.2 b (gj (i5 (et e) I.ok.above))).trans (I.base.keep b o e n B l)
  .have⟨sl,g⟩:=I.base.slot b o e n B l;show⟨sl,(hs.2 b (gj (i5 (et e) I.ok.above))).trans g⟩
  .have⟨o',g⟩:=I.base.there b o e l;show⟨o',(hs.2 b (gj (i5 (et e) I.ok.above))).trans g⟩
  .by_cases C:j=i
   .subst C;rw[D]at g;cases g;rw[fR Wc]at t;cases t;show⟨u,r,.inl ⟨hk,by simp⟩⟩
   .rw[i1 (qP C)]at t;have⟨u',r',q⟩:=hl j y T g t Y;show⟨u',r',?_⟩;rcases q with⟨k,e⟩|⟨k,c,e,z⟩
    .show .inl ⟨k,?_⟩;have:y≠x:=λe=>C (iD hN g (e▸D));simp[this,e]
    .show .inr ⟨k,c,e,z.sameBut hs (O y c e)⟩
  .have⟨G,z⟩:=I.cell y c e;show⟨G,z.sameBut hs (O y c e)⟩
  .have⟨e,n,ne,nf,d⟩:=I.pin p hp;show⟨(hs.2 p.1 ne).trans e,n,ne,nf,d⟩
 .have MD:X.fn x=b8:=by
   rcases hf with z|z
   .show z
   .rw[z]at hk;cases hk
  have⟨c,hc⟩:=I.ok.has x (.inl hk);have⟨G,z⟩:=I.cell x c hc;show wpAny_storeName_cell I.ok.kind hk hc z (λh' Qk hs=>?_);have⟨oc,Wd,Tv⟩:=id z;show h {s with heap:=h' } ⟨I.ok,I.os,I.bare,⟨λb o e n B l=>?_,λb o e n B l=>?_,I.base.free,λb o e l=>?_,I.base.eX,I.base.Le,I.base.Ll⟩,⟨m,L.sameBut hs (qP (O x c hc)),λj y T g t Y=>?_⟩,λy J e=>?_,I.free,I.Ku,λp hp=>?_,f ⟨oc,Wd,I.Ku x c hc⟩ hs,by simpa using I.len⟩ ⟨c,hs,.inr hc⟩
  .show(hs.2 b (gj (i5 (et e) (I.ok.Qh x c MD hc)))).trans (I.base.keep b o e n B l)
  .have⟨sl,g⟩:=I.base.slot b o e n B l;show⟨sl,(hs.2 b (gj (i5 (et e) (I.ok.Qh x c MD hc)))).trans g⟩
  .have⟨o',g⟩:=I.base.there b o e l;show⟨o',(hs.2 b (gj (i5 (et e) (I.ok.Qh x c MD hc)))).trans g⟩
  .by_cases C:j=i
   .subst C;rw[D]at g;cases g;rw[fR Wc]at t;cases t;show⟨u,r,.inr ⟨.inl hk,c,hc,Qk⟩⟩
   .rw[i1 (qP C)]at t;have⟨u',r',q⟩:=hl j y T g t Y;show⟨u',r',?_⟩;rcases q with q|⟨k,J,e,z'⟩
    .show .inl q
    .show .inr ⟨k,J,e,z'.sameBut hs ?_⟩;rintro rfl;show C (iD hN g (I.ok.inj _ _ _ e hc▸D))
  .by_cases We:J=c
   .subst We;show⟨_,Qk⟩
   .have⟨w2,z2⟩:=I.cell y J e;show⟨w2,z2.sameBut hs We⟩
  .have⟨e,n,ne,nf,d⟩:=I.pin p hp;show⟨(hs.2 p.1 ?_).trans e,n,ne,nf,d⟩;intro q;rw[q,Wd]at e;have q':oc=p.2:=td e;show d G (by rw[<-q'];show Tv)
def iE(I:Inv X pins σ H s)(a:X.N.Nodup)(b:X.N[i]?=a5 x)(c:Loc X.env.scope x)(r:RelV v u)
  (h:∀s',Inv X pins (σ.set i (a5 v)) H s'->Q () s') (d:X.fn x=b8\/X.env.scope.names.lookup x=a5 .local:=by first|show .inl rfl|show .inr rfl|assumption):d4 M A (storeName X.env x u) Q E s :=
 mX I a b c r (λs' e _=>h s' e) d
def Inv.D3(I:Inv X pins σ H s)(ho:s'.os=s.os)(u:Un (KW X.stack) ch H H' s.heap s'.heap)(a:Lh X.prog X.w H' s'.heap)(d:UX s'.gens)
  (f:∀b∈ch,(b∈X.ex\/X.s₀.heap.objs.size<=b)/\b≠X.env.locals/\(∀x c,X.env.cells.lookup x=a5 c->c≠b)/\∀p∈X.pn++pins,p.1≠b):Inv X pins σ H' s':=by
 have⟨h',g',d',t',o'⟩:=s';have e:o'=s.os:=ho;subst e;show I.call (g':=g') (t':=t') (d':=d') u a d f
end
@[reducible]def XK:=dV->Option ez->Hp->Prop
@[reducible]def St:=List (Option V)
@[reducible]def VK:=V->Hp->Prop
@[reducible]def TE:=St->Hp->VK->Prop
@[reducible]def TT:=St->Hp->(Bool->Hp->Prop)->Prop
@[reducible]def TA:=St->Hp->(List V->Hp->Prop)->Prop
structure Ends where
 nx:St->Hp->Prop
 rt:VK
 bk:St->Hp->Prop:=λ_ _=>False
 ct:St->Hp->Prop:=λ_ _=>False
@[reducible]def TS:=Ends->St->Hp->Prop
abbrev EP(X:Cx)(a:List (ez×Obj))(σ:St)(Q:VK)(u:dV)(s':eH):Prop:=∃v H',Inv X a σ H' s'/\RelV v u/\Q v H'
abbrev TP(X:Cx)(a:List (ez×Obj))(σ:St)(Q:Bool->Hp->Prop)(b:Bool)(s':eH):Prop:=∃H',Inv X a σ H' s'/\Q b H'
abbrev AP(X:Cx)(a:List (ez×Obj))(σ:St)(Q:List V->Hp->Prop)(us:List dV)(s':eH):Prop:=∃vs H',Inv X a σ H' s'/\Vals vs us/\Q vs H'
abbrev SP(X:Cx)(a:List (ez×Obj))(D:Ends)(f:Flow)(s':eH):Prop :=
 match f with
 |.next=>∃b H',Inv X a b H' s'/\D.nx b H'
 |.brk=>∃b H',Inv X a b H' s'/\D.bk b H'
 |.cont=>∃b H',Inv X a b H' s'/\D.ct b H'
 |.ret u=>∃v b H',Inv X a b H' s'/\RelV v u/\D.rt v H'
abbrev PE(X:Cx)(e:mx)(t:TE):Prop :=
 ∀(a:List (ez×Obj)) (s:eH) (σ:St) (H:Hp) (Q:VK),Inv X a σ H s->t σ H Q->d4 (fS X.prog X.w) X.A (t6 e X.env) (EP X a σ Q) X.xe s
abbrev PT(X:Cx)(e:mx)(t:TT):Prop :=
 ∀(a:List (ez×Obj)) (s:eH) (σ:St) (H:Hp) (Q:Bool->Hp->Prop),Inv X a σ H s->t σ H Q->d4 (fS X.prog X.w) X.A (isTrue e X.env (t6 e X.env)) (TP X a σ Q) X.xe s
abbrev PW(X:Cx)(e:mx)(t:TT):Prop :=
 ∀(b:Sem dV) (a:List (ez×Obj)) (s:eH) (σ:St) (H:Hp) (Q:Bool->Hp->Prop),Inv X a σ H s->t σ H Q->d4 (fS X.prog X.w) X.A (isTrue e X.env b) (TP X a σ Q) X.xe s
def PW.pt(h:PW X e t):PT X e t:=h _
abbrev PA(X:Cx)(es:List mx)(t:TA):Prop :=
 ∀(pos:Pos) (a:List (ez×Obj)) (s:eH) (σ:St) (H:Hp) (Q:List V->Hp->Prop),Inv X a σ H s->t σ H Q->d4 (fS X.prog X.w) X.A (ŀ (zy pos (i2 es X.env))) (AP X a σ Q) X.xe s
abbrev PS(X:Cx)(st:Nd)(t:TS):Prop :=
 ∀(a:List (ez×Obj)) (s:eH) (σ:St) (H:Hp) (D:Ends),Inv X a σ H s->t D σ H->d4 (fS X.prog X.w) X.A (exec st X.env) (SP X a D) X.xe s
abbrev Lu(X:Cx)(st:List Nd)(t:TS):Prop :=
 ∀(a:List (ez×Obj)) (s:eH) (σ:St) (H:Hp) (D:Ends),Inv X a σ H s->t D σ H->d4 (fS X.prog X.w) X.A (execs st X.env) (SP X a D) X.xe s
def Kc(h:d4 M A t Q E s)(b:∀a s,Q a s->Q' a s):d4 M A t Q' E s:=qb h b λ_ _ x=>x
section
abbrev Js(i:Nat):TE:=λσ H Q=>∃v,σ[i]?=a5 (a5 v)/\Q v H
abbrev tC(v:V):TE:=λ_ H Q=>Q v H
def bU(j:X.N[i]?=a5 x)(k:Ml X.env.scope x)(d:(x==("__debug__":Str))=cc:=by decide)(n:(x==("__classdict__":Str))=cc:=by decide):PE X (.Name x pos) (Js i):=by
 intro b s σ H Q I h;have⟨v,e,h⟩:=h;have⟨m,o,hl⟩:=I.loc;have⟨u,r,l⟩:=hl i x v j e k;have a:EP X b σ Q u s:=⟨v,H,I,r,h⟩
 rcases l with⟨hk,p⟩|⟨hk,c,f,g⟩
 .show Ī (wpAny_loadName_local I.ok.kind hk o p a) d
 .rcases hk with hk|hk
  .show Ī (wpAny_loadName_cell I.ok.kind hk f g a) d
  .show Ī (wpAny_loadName_free I.ok.kind hk f g a n) d
def yj:PE X (.Constant (.int i) j pos) (tC (.int i)):=λ_ _ _ H _ I h=>wpAny_Constant_int ⟨.int i,H,I.tok _,⟨_,rfl⟩,h⟩
def uG:PE X (.Constant (.bool b) j pos) (tC (.bl b)):=λ_ _ _ H _ I h=>Constant_bool ⟨.bl b,H,I,rfl,h⟩
def yk:PE X (.Constant .none j pos) (tC .Kb):=λ_ _ _ H _ I h=>Constant_none ⟨.Kb,H,I,rfl,h⟩
def rX:PE X (.Constant (.str x) j pos) (tC (.str x)):=λ_ _ _ H _ I h=>Calls.Constant_str ⟨.str x,H,I.tok _,⟨_,rfl⟩,h⟩
abbrev Gl(X:Cx)(x:Str):Prop:=X.env.kindOf x=a5 .globalImplicit
def fg(I:Inv X a σ H s)(b:Gl X x)(c:X.mg x=a5 u)(h:Q u s)
  (d:(x==("__debug__":Str))=cc:=by decide):d4 (fS X.prog X.w) X.A (t6 (.Name x pos) X.env) Q E s :=
 X7 I.ok.kind b (Calls.loadGlobal_global (by rw[I.ok.glob];show I.mod.glob.keeps I.bk) c h) d
def c8(I:Inv X a σ H s)(b:Gl X x)(c:X.mg x=b6)(d:u7 x=a5 u)(h:Q u s)
  (e:x≠"__name__":=by decide) (f:(x==("__debug__":Str))=cc:=by decide):d4 (fS X.prog X.w) X.A (t6 (.Name x pos) X.env) Q E s:=by
 have⟨j,g,i⟩:=I.mod.blt;show X7 I.ok.kind b (Calls.loadGlobal_builtin (by rw[I.ok.glob];show I.mod.glob.keeps I.bk) c (by rw[I.ok.blt];show g.keeps I.bk) ((i x e).trans d) h) f
def BH(a:Gl X x)(b:X.mg x=a5 u)(r:RelV v u)(c:(x==("__debug__":Str))=cc:=by decide):PE X (.Name x pos) (tC v) :=
 λ_ _ _ H _ I h=>fg I a b ⟨v,H,I,r,h⟩ c
def BI(a:Gl X x)(b:X.mg x=b6)(c:u7 x=a5 u)(r:RelV v u)(d:x≠"__name__":=by decide)(e:(x==("__debug__":Str))=cc:=by decide):PE X (.Name x pos) (tC v) :=
 λ_ _ _ H _ I h=>c8 I a b c ⟨v,H,I,r,h⟩ d e
abbrev PC(X:Cx)(d:CmpOp)(a b:mx)(t:TE):Prop :=
 ∀(c:List (ez×Obj)) (s:eH) (σ:St) (H:Hp) (Q:VK),Inv X c σ H s->t σ H Q ->
  d4 (fS X.prog X.w) X.A (t6 a X.env) (λv e=>d4 (fS X.prog X.w) X.A (t6 b X.env) (λu f=>d4 (fS X.prog X.w) X.A (OT d v u) (EP X c σ Q) X.xe f) X.xe e) X.xe s
abbrev tB(t:TE):TT:=λσ H Q=>t σ H λx a=>∃c,x=.bl c/\Q c a
def yl(h:PC X g a b t)(f:Sn g b=cc:=by first|show o _ (by decide) (by decide)|rfl):PT X (.Compare a [g] [b] pos) (tB t):=by
 intro e s σ H Q I i;show Ă (Kc (h e s σ H _ I i) λv s1 f=>Kc f λu s2 j=>Kc j λc s3 ⟨x,k,l,m,n⟩=>?_) f;have⟨d,rfl,q⟩:=n;cases m;show MJ ⟨k,l,q⟩
abbrev Jt(t u:TT):TT:=λσ H Q=>t σ H λc a=>if c=b8 then u σ a Q else Q cc a
abbrev XO(t u:TT):TT:=λσ H Q=>t σ H λc a=>if c=b8 then Q b8 a else u σ a Q
abbrev Ju(t:TT):TT:=λσ H Q=>t σ H λc a=>Q (!c) a
def BJ(d:PT X a f):PW X (.BoolOp .And [a] pos) f:=by
 intro g b s σ H Q I h;show isTrue_and (Kc (d b s σ H Q I h) λc s1 e=>?_);cases c with
 |true=>show ź e
 |false=>show e
def EL(d:PT X a f):PW X (.BoolOp .Or [a] pos) f:=by
 intro g b s σ H Q I h;show isTrue_or (Kc (d b s σ H Q I h) λc s1 e=>?_);cases c with
 |false=>show isTrue_or_nil e
 |true=>show e
def EM(i:PT X a j)(k:PW X (.BoolOp .And (b::rest) pos) l):PW X (.BoolOp .And (a::b::rest) pos) (Jt j l):=by
 intro m d s σ H Q I h;show isTrue_and (Kc (i d s σ H _ I h) λc s1 n=>?_);have⟨e,f,g⟩:=n;cases c with
 |true=>show k m d s1 σ e Q f g
 |false=>show⟨e,f,g⟩
def Hf(i:PT X a j)(k:PW X (.BoolOp .Or (b::rest) pos) l):PW X (.BoolOp .Or (a::b::rest) pos) (XO j l):=by
 intro m d s σ H Q I h;show isTrue_or (Kc (i d s σ H _ I h) λc s1 n=>?_);have⟨e,f,g⟩:=n;cases c with
 |true=>show⟨e,f,g⟩
 |false=>show k m d s1 σ e Q f g
def EN(d:PT X a e):PT X (.UnaryOp .Not a pos) (Ju e):=by
 intro b s σ H Q I h;show isTrue_not (d b s σ H (λc f=>Q (!c) f) I h)
abbrev Hg(b d:TE):TE:=λσ H Q=>b σ H λx a=>∃c,x=.bl c/\if c=b8 then d σ a Q else Q (.bl cc) a
abbrev Hh(a:TE):TE:=λσ H Q=>a σ H λx b=>∃c,x=.bl c/\Q (.bl (!c)) b
def EO(h:PE X a t):PE X (.BoolOp d [a] pos) t:=λb s σ H Q I c=>BoolOp_one (h b s σ H Q I c)
def ER(i:PE X a j)(k:PE X (.BoolOp .And (b::rest) pos) l):PE X (.BoolOp .And (a::b::rest) pos) (Hg j l):=by
 intro d s σ H Q I h;show BoolOp_and (Kc (i d s σ H _ I h) λv s1 m=>?_);have⟨x,f,g,n,e⟩:=m;have⟨c,rfl,e⟩:=e;cases n;show MJ ?_;cases c with
 |true=>show k d s1 σ f Q g e
 |false=>show⟨.bl cc,f,g,rfl,e⟩
def ES(e:PE X a f):PE X (.UnaryOp .Not a pos) (Hh f):=by
 intro b s σ H Q I h;show UnaryOp_ (Kc (e b s σ H _ I h) λv s1 g=>?_);have⟨x,i,j,k,d⟩:=g;have⟨c,rfl,d⟩:=d;cases k;show not_of (MJ ⟨.bl (!c),i,j,rfl,d⟩)
abbrev XU(t:TT)(b d:TE):TE:=λσ H Q=>t σ H λc a=>if c=b8 then b σ a Q else d σ a Q
def ym(j:PT X c k)(l:PE X a m)(n:PE X b o):PE X (.IfExp c a b pos) (XU k m o):=by
 intro e s σ H Q I h;show wpAny_IfExp (Kc (j e s σ H _ I h) λd s1 p=>?_);have⟨f,g,i⟩:=p;cases d with
 |true=>show l e s1 σ f Q g i
 |false=>show n e s1 σ f Q g i
end
abbrev Kz(K:PySem.W.Frag)(H:Hp)(a:ez)(xs:List V):Prop :=
 Rd H a (.lst xs) \/
  ∃(o:Obj) (its:Array dV) (n:Nat),K.lookup a=a5 o/\o.cls=.type "list"/\o.dict=b6/\o.data=.seq its n/\its.size<=cK/\Vals xs its.toList
abbrev KN(K:PySem.W.Frag)(H:Hp)(a:ez)(xs:List V):Prop :=
 Rd H a (.tup xs) \/
  ∃(o:Obj) (its:Array dV) (n:Nat),K.lookup a=a5 o/\o.cls=.type "tuple"/\o.data=.seq its n/\its.size<=cK/\Vals xs its.toList
abbrev Jv:dV->Option V
 |.none=>a5 .Kb
 |.bool b=>a5 (.bl b)
 |.int i _=>a5 (.int i)
 |.str x _=>a5 (.str x)
 |.bytes b _=>a5 (.Sj b)
 |.float b _=>a5 (.Sk b)
 |.ref a=>a5 (.ref a)
 |.type n=>a5 (.ty n)
 |_=>b6
def RelV.abs(r:RelV x u):Jv u=a5 x:=by
 cases x with
 |Kb=>cases r;rfl
 |bl _=>cases r;rfl
 |ref _=>cases r;rfl
 |ty _=>cases r;rfl
 |_=>have⟨t,rfl⟩:=r;rfl
def RelV.inj(r:RelV x u)(q:RelV y u):x=y:=td (r.abs.symm.trans q.abs)
theorem Vals.inj:∀{xs a:List V}{us:List dV},Vals xs us->Vals a us->xs=a
 |_,_,_,.nil,.nil=>rfl
 |_,_,_,.cons r t,.cons b t'=>by rw[r.inj b,Vals.inj t t']
section
def Kz.of{K:PySem.W.Frag}(h:H a=a5 (.lst xs)):Kz K H a xs:=.inl (.inl h)
def KN.of{K:PySem.W.Frag}(h:H a=a5 (.tup xs)):KN K H a xs:=.inl (.inl h)
def Inv.list(I:Inv X b σ H s)(h:Kz X.K H a xs):∃its:List dV,Vals xs its/\PlainL s.heap a its.toArray/\xs.length<=cK:=by
 rcases h with h|⟨o,its,n,hk,c,d,hs,hz,r⟩
 .have⟨z,its,n,r,e⟩:=h.ok I.J_;show⟨its,r,⟨_,n,e,rfl,rfl,rfl⟩,z⟩
 .show⟨its.toList,r,⟨o,n,I.Nz a o hk,c,d,by simpa using hs⟩,?_⟩;have e:=r.length;simp only[hY]at e;lia
def Inv.tuple(I:Inv X b σ H s)(h:KN X.K H a xs):∃its:List dV,Vals xs its/\Ż s.heap a its.toArray/\xs.length<=cK:=by
 rcases h with h|⟨o,its,n,hk,c,hs,hz,r⟩
 .have⟨z,its,r,p⟩:=h.ok I.J_;show⟨its,r,p,z⟩
 .show⟨its.toList,r,⟨o,I.Nz a o hk,c,n,by simpa using hs⟩,?_⟩;have e:=r.length;simp only[hY]at e;lia
def Inv.qf(I:Inv X b σ H s)(h:Kz X.K H a xs)(h':Kz X.K H a f):xs=f:=by
 obtain⟨its,r,⟨o,n,e,_,_,d⟩,_⟩:=I.list h;obtain⟨its',g,⟨o',j,c,_,_,d'⟩,_⟩:=I.list h';rw[e]at c;cases c;rw[d]at d';injection d' with i _
 have:its=its':=by simpa using Δ Zv i
 subst this;show r.inj g
def Inv.mY(I:Inv X b σ H s)(h:KN X.K H a xs)(h':KN X.K H a f):xs=f:=by
 obtain⟨its,r,⟨o,e,_,n,d⟩,_⟩:=I.tuple h;obtain⟨its',g,⟨o',c,_,j,d'⟩,_⟩:=I.tuple h';rw[e]at c;cases c;rw[d]at d';injection d' with i _
 have:its=its':=by simpa using Δ Zv i
 subst this;show r.inj g
end
@[reducible]def Cx.kf(X:Cx)(E:dV->eH->Prop):Cx:={X with xe:=E}
@[reducible]def Cx.MU(X:Cx):Cx:=X.kf λ_ _=>False
def Cx.Ok.kf{X:Cx}(a:X.Ok)(E:dV->eH->Prop):(X.kf E).Ok :=
 ⟨a.mod,a.kind,a.glob,a.blt,a.above,a.inj,a.has,a.Qh,a.hd,a.frames,a.QT,a.Tu,a.bs,a.Ol,a.M9,a.Ny,a.kb,a.Pd⟩
def Cx.Ok.fN{X:Cx}(a:(X.kf E).Ok):X.Ok :=
 ⟨a.mod,a.kind,a.glob,a.blt,a.above,a.inj,a.has,a.Qh,a.hd,a.frames,a.QT,a.Tu,a.bs,a.Ol,a.M9,a.Ny,a.kb,a.Pd⟩
section
def Inv.kf(I:Inv X a σ H s)(E:dV->eH->Prop):Inv (X.kf E) a σ H s:=⟨I.ok.kf E,I.os,I.bare,I.base,I.loc,I.cell,I.free,I.Ku,I.pin,I.J_,I.len⟩
def Inv.fN(I:Inv (X.kf E) a σ H s):Inv X a σ H s:=⟨I.ok.fN,I.os,I.bare,I.base,I.loc,I.cell,I.free,I.Ku,I.pin,I.J_,I.len⟩
def SP.fN(h:SP (X.kf E) a D f s'):SP X a D f s':=by
 cases f with
 |ret u=>have⟨v,b,H',I,r,q⟩:=h;show⟨v,b,H',I.fN,r,q⟩
 |_=>have⟨b,H',I,q⟩:=h;show⟨b,H',I.fN,q⟩
def Lu.MU{st:List Nd}(h:Lu X.MU st t):Lu X st t:=λa s σ H D I b =>
 qb (h a s σ H D (I.kf _) b) (λ_ _ q=>q.fN) λ_ _ z=>Nv z
end
section
variable{X:Cx}{st:Nd}{rest:List Nd}{t u:TS}{e:mx}{te:TE}{pos:Pos}
abbrev Hi:TS:=λD σ H=>D.nx σ H
abbrev Jw(t u:TS):TS:=λD σ H=>t {D with nx:=u D} σ H
def uH:Lu X [] Hi:=λ_ _ σ H _ I h=>Ts ⟨σ,H,I,h⟩
def qg(b:PS X st t)(c:Lu X rest u):Lu X (st::rest) (Jw t u):=by
 intro a s σ H D I h;show ő (Kc (b a s σ H {D with nx:=u D} I h) λf s1 q=>?_);cases f with
 |next =>
  have⟨d,H',g,q⟩:=q;show c a s1 d H' D g q
 |_=>show q
def Inv.quiet(I:Inv X a σ H s):interactive X.env=cc:=by simp[interactive,I.ok.kind]
abbrev Hj(te:TE):TS:=λD σ H=>te σ H λ_ a=>D.nx σ a
def kD(b:PE X e te)(hs:PD e b6 pos.line X.env=pure cc:=by rfl):PS X (.Expr e pos) (Hj te):=by
 intro a s σ H D I h;show Ŧ (Kc (b a s σ H _ I h) λv s1 ⟨x,c,d,g,f⟩=>⟨σ,c,d,f⟩) I.quiet hs
abbrev Jx(te:TE):TS:=λD σ H=>te σ H D.rt
def ET(b:PE X e te):PS X (.Return (a5 e) pos) (Jx te):=by
 intro a s σ H D I h;show wpAny_Return_some (Kc (b a s σ H _ I h) λv s1 ⟨x,c,d,f,g⟩=>⟨x,σ,c,d,f,g⟩)
abbrev Hk:TS:=λD _ H=>D.rt .Kb H
def BK:PS X (.Return b6 pos) Hk:=λ_ _ σ H _ I h=>wpAny_Return_none ⟨.Kb,σ,H,I,rfl,h⟩
abbrev Jy(c:TT)(t u:TS):TS:=λD σ H=>c σ H λb a=>if b=b8 then t D σ a else u D σ a
def Hl(k:PT X c l)(m:Lu X a t)(n:Lu X b u):PS X (.If c a b pos) (Jy l t u):=by
 intro f s σ H D I h;show wpAny_If (Kc (k f s σ H _ I h) λd s1 o=>?_);have⟨g,i,j⟩:=o;cases d with
 |true=>show m f s1 σ g D i j
 |false=>show n f s1 σ g D i j
end
@[reducible]def TG:=V->St->Hp->(St->Hp->Prop)->Prop
@[reducible]def Ql:=List V->St->Hp->(St->Hp->Prop)->Prop
abbrev PG(X:Cx)(a:mx)(t:TG):Prop :=
 ∀(b:List (ez×Obj)) (s:eH) (σ:St) (H:Hp) (v:V) (u:dV) (Q:St->Hp->Prop),Inv X b σ H s->RelV v u->t v σ H Q ->
  d4 (fS X.prog X.w) X.A (Ug a X.env u) (λ_ s'=>∃c H',Inv X b c H' s'/\Q c H') X.xe s
abbrev QX(X:Cx)(ts:List mx)(t:Ql):Prop :=
 ∀(a:List (ez×Obj)) (s:eH) (σ:St) (H:Hp) (vs:List V) (us:List dV) (Q:St->Hp->Prop),Inv X a σ H s->Vals vs us->t vs σ H Q ->
  d4 (fS X.prog X.w) X.A (assignInOrder ((Q2 ts X.env).map (·.2)) us) (λ_ s'=>∃b H',Inv X a b H' s'/\Q b H') X.xe s
@[reducible]def EU:=V->V->V->Hp->(Hp->Prop)->Prop
abbrev oG(X:Cx)(t:EU):Prop :=
 ∀(a:List (ez×Obj)) (s:eH) (σ:St) (H:Hp) (o i v:V) (b c u:dV) (Q:Hp->Prop),Inv X a σ H s->RelV o b->RelV i c->RelV v u->t o i v H Q ->
  d4 (fS X.prog X.w) X.A (Vr b c u) (λ_ s'=>∃H',Inv X a σ H' s'/\Q H') X.xe s
@[reducible]def Tx:=V->V->Hp->VK->Prop
abbrev So(X:Cx)(b:đ)(t:Tx):Prop :=
 ∀(a:List (ez×Obj)) (s:eH) (σ:St) (H:Hp) (x y:V) (v u:dV) (Q:VK),Inv X a σ H s->RelV x v->RelV y u->t x y H Q ->
  d4 (fS X.prog X.w) X.A (inplaceOp b v u) (EP X a σ Q) X.xe s
section
abbrev uI(i:Nat):TG:=λv σ H Q=>Q (σ.set i (a5 v)) H
def uJ(b:X.N.Nodup)(c:X.N[i]?=a5 x)(d:Loc X.env.scope x)(e:X.fn x=b8\/X.env.scope.names.lookup x=a5 .local:=by first|show .inl rfl|show .inr rfl|assumption):PG X (.Name x pos) (uI i):=by
 intro a s σ H v u Q I r h;show ľ (iE I b c d r (λs' f=>⟨_,H,f,h⟩) e)
abbrev Hm:Ql:=λvs σ H Q=>vs=[]/\Q σ H
abbrev D4(t:TG)(u:Ql):Ql:=λvs σ H Q=>∃v r,vs=v::r/\t v σ H λa H'=>u r a H' Q
def BL:QX X [] Hm:=by
 intro a s σ H vs us Q I r h;have⟨e,h⟩:=h;subst e;cases r;show assignInOrder_nil ⟨σ,H,I,h⟩
def yn(b:PG X e t)(c:QX X es u)
  (hs:(Q2 (e::es) X.env).map (·.2)=Ug e X.env::(Q2 es X.env).map (·.2):=by rfl):QX X (e::es) (D4 t u):=by
 intro a s σ H vs us Q I r h;have⟨v,m,d,h⟩:=h;subst d;cases r with
 |cons r f =>
  rw[hs];show assignInOrder_cons (Kc (b a s σ H _ _ _ I r h) λ_ s1 g=>?_);have⟨i,j,k,l⟩:=g;show c a s1 i j _ _ Q k f l
abbrev Jz(K:PySem.W.Frag)(n:Nat)(t:Ql):TG:=λv σ H Q=>∃a xs,v=.ref a/\KN K H a xs/\xs.length=n/\t xs σ H Q
def EV(f:X.calm=b8)(h:QX X es t)
  (g:(Q2 es X.env).length=n:=by rfl) (i:(Q2 es X.env).findIdx? (·.1)=b6:=by rfl):PG X (.Tuple es k pos) (Jz X.K n t):=by
 intro c s σ H v u Q I r d;have⟨a,xs,j,l,hl,d⟩:=d;subst j;cases r;have⟨its,rv,m,hz⟩:=I.tuple l;show assign_Tuple_tuple (I.ok.hd f) m (by simp[g,<-hl,rv.length]) i λh' p=>?_;have q:Inv X c σ H {s with heap:=h' }:=I.kept (t':=s.toks) λb o e=>p b o (gj (et e)) e;show h c _ σ H xs _ Q q (by simpa using rv) d
abbrev JA(a b:TE)(t:EU):TG:=λv σ H Q=>a σ H λo c=>b σ c λi d=>t o i v d λe=>Q σ e
def yo(ho:PE X o d)(e:PE X i f)(hs:oG X t)
  (g:∀v,Ug (.Subscript o i pos) X.env v=(do
   let b <-MT [v] (t6 o X.env)
   let c <-MT [v,b] (t6 i X.env)
   Zw pos
   MT [v,b,c] (Vr b c v)
   XQ [v,b,c] []):=by intro _;rfl):PG X (.Subscript o i pos) (JA d f t):=by
 intro a s σ H v u Q I r h;rw[g];show bD (ra (Kc (ho a s σ H _ I h) λb s1 j=>?_));have⟨x,k,l,m,n⟩:=j;show bD (ra (Kc (e a s1 σ k _ l n) λc s2 p=>?_));have⟨y,q,w,z,A⟩:=p;show bD (Ú (bD (ra (Kc (hs a s2 σ q x y v b c u _ w m z r A) λ_ s3 B=>?_))));have⟨C,D,G⟩:=B;show wpAny_release ⟨σ,C,D,G⟩
abbrev EW(a:TE)(g:TG):TS:=λD σ H=>a σ H λx b=>g x σ b D.nx
def rY(c:PE X e d)(f:PG X b g)(hs:Si [b] e pos.line X.env=pure cc:=by rfl)(i:WW [b] e X.env=pure b6:=by rfl)
  (j:(Q2 [b] X.env).map (·.2)=[Ug b X.env]:=by rfl):PS X (.Assign [b] e pos) (EW d g):=by
 intro a s σ H D I h;show wpAny_Assign_stores (Kc (c a s σ H _ I h) λv s1 ⟨x,k,l,m,n⟩=>?_) hs i;rw[j];show Kc (f a s1 σ k x v _ l m n) λ_ s2 q=>q
def rZ(b:X.N.Nodup)(c:X.N[i]?=a5 x)(d:Loc X.env.scope x)(f:PE X e g)(hs:PD e (a5 (.Name x pos')) pos.line X.env=pure cc:=by rfl)(j:X.fn x=b8\/X.env.scope.names.lookup x=a5 .local:=by first|show .inl rfl|show .inr rfl|assumption):
  PS X (.Assign [.Name x pos'] e pos) (EW g (uI i)):=by
 intro a s σ H D I h;show Ŀ (Kc (f a s σ H _ I h) λv s1 ⟨y,k,l,m,n⟩=>?_) hs;show iE l b c d m (λs2 o=>⟨_,k,o,n⟩) j
abbrev Hn(a b c:TE)(d:V->V->Hp->VK->Prop)(e:Tx)(f:EU):TS:=λD σ H=>a σ H λo g=>b σ g λi h=>d o i h λx j=>c σ j λy k=>e x y k λz l=>f o i z l λm=>D.nx σ m
abbrev Ho(X:Cx)(t:V->V->Hp->VK->Prop):Prop :=
 ∀(a:List (ez×Obj)) (s:eH) (σ:St) (H:Hp) (o i:V) (b c:dV) (Q:VK),Inv X a σ H s->RelV o b->RelV i c->t o i H Q ->
  d4 (fS X.prog X.w) X.A (XS b c) (EP X a σ Q) X.xe s
def BM(ho:PE X o l)(m:PE X i n)(p:Ho X q)(r:PE X e t)(u:So X w x)(hs:oG X y)
  (z:∀b c new,Ű i b c new=(do MT [new,b,c] (Vr b c new);XQ [new,b,c] [];pure .next):=by intros;rfl):PS X (.AugAssign (.Subscript o i X1) w e pos) (Hn l n t q x y):=by
 intro a s σ H D I h;show wpAny_AugAssign_SubscriptAny (Kc (ho a s σ H _ I h) λb s1 ⟨f,A,B,g,C⟩=>?_) z;show Kc (m a s1 σ A _ B C) λc s2 G=>?_;have⟨j,J,L,k,N⟩:=G;show Kc (p a s2 σ J f j b c _ L g k N) λd s3 O=>?_;have⟨Q,T,Y,r3,q3⟩:=O;show Kc (r a s3 σ T _ Y q3) λv s4 TH=>?_;have⟨x4,H4,I4,r4,q4⟩:=TH;show Kc (u a s4 σ H4 Q x4 d v _ I4 r3 r4 q4) λnew s5 TJ=>?_;have⟨x5,H5,I5,r5,q5⟩:=TJ;show Kc (hs a s5 σ H5 f j x5 b c new _ I5 g k r5 q5) λ_ s6 ⟨H6,I6,q6⟩=>⟨σ,H6,I6,q6⟩
abbrev TK(f:Int->Int->Int):Tx:=λx y H Q=>∃i j,x=.int i/\y=.int j/\Q (.int (f i j)) H
def EX:So X .Add (TK λi j=>i+j):=by
 intro a s σ H x y v u Q I b c h;have⟨i,j,d,e,q⟩:=h;subst d;subst e;have⟨t,rfl⟩:=b;have⟨t',rfl⟩:=c;show iadd_int ⟨.int _,H,I.tok _,⟨_,rfl⟩,q⟩
def EY:So X .Sub (TK λi j=>i - j):=by
 intro a s σ H x y v u Q I b c h;have⟨i,j,d,e,q⟩:=h;subst d;subst e;have⟨t,rfl⟩:=b;have⟨t',rfl⟩:=c;show isub_int ⟨.int _,H,I.tok _,⟨_,rfl⟩,q⟩
end
section
abbrev EZ(c:TT)(f:TS):TS:=λD σ H=>∃W:Nat->St->Hp->Prop,(∃m,W m σ H)/\∀m σ H,W m σ H ->
 c σ H λb a=>if b=b8 then ∃N:St->Hp->Prop,(∀d H',N d H'->∃e,e<m/\W e d H')/\f {D with nx:=N,ct:=N,bk:=D.nx} σ a else D.nx σ a
def yp(r:YX (fS X.prog X.w) X.A X.env X.xe)(z:PT X c B)(C:Lu X body G):PS X (.While c body [] pos) (EZ B G):=by
 intro a s σ H D I h;obtain⟨W,⟨m0,J⟩,d⟩:=h;show wpAny_While (codeAny_whileLoop (λn s'=>∃t H',Inv X a t H' s'/\W n t H') ?_ m0 ⟨σ,H,I,J⟩);rintro n s1 ⟨i,u,L,O⟩;show OP r (Kc (z a s1 i u _ L (d n i u O)) λb s2 Q=>?_);have⟨v,x,j⟩:=Q;cases b with
 |true =>
  have⟨N,y,j⟩:=j;rw[Ž rfl];show OP r (Kc (C a s2 i v _ x j) λf s3 k=>?_);cases f with
  |next =>
   have⟨e,g,l,m⟩:=k;have⟨o,p,q⟩:=y e g m;show⟨o,p,e,g,l,q⟩
  |cont =>
   have⟨e,g,l,m⟩:=k;have⟨o,p,q⟩:=y e g m;show⟨o,p,e,g,l,q⟩
  |_=>show k
 |false =>
  rw[ž js];show Ts ⟨i,v,x,j⟩
end
structure It where
 go:Nat->Hp->Prop
 Sr:Nat->Hp->V->Hp->Prop
 stop:Nat->Hp->Prop
abbrev iF(X:Cx)(a:List (ez×Obj))(H:Hp)(b:ez):Prop :=
 H b=b6/\b≠X.env.locals/\b∉X.fs/\(b∈X.ex\/X.s₀.heap.objs.size<=b)/\(∀x c,X.env.cells.lookup x=a5 c->c≠b)/\∀p∈X.pn++a,p.1≠b
def Inv.yq(I:Inv X a σ H s)(d:s.heap.objs.size<=b)(f:H' b=b6):iF X a H' b:=by
 show⟨f,B' (i5 I.lt d),I.EK d,.inr (C0 I.sz d),λx c e z=>?_,λp g z=>?_⟩
 .have⟨v,q⟩:=I.cell x c e;show absurd (i5 q.lt (by rw[z];show d)) (t4 _)
 .show absurd (i5 (et (I.pin p g).1) (by rw[z];show d)) (t4 _)
structure Turn(P:t8)(w:vl)(K:PySem.W.Frag)(tg:mx)(J:It)(fp:List ez)(it:ez)(tn:Nat->DD->Prop):Prop where
 mem:it∈fp
 obj:∀i h,tn i h->∀b∈fp,∃o,h.get? b=a5 o/\∀v,o.data≠.cell v
 keep:∀i h h',tn i h->(∀b∈fp,∀o,h.get? b=a5 o->h'.get? b=a5 o)->tn i h'
 item:∀(X:Cx),X.prog=P->X.w=w->X.K=K->X.calm=b8->∀(i:Nat) (pins:List (ez×Obj)) (s:eH) (σ:St) (H:Hp) (E:dV->eH->Prop),Inv X pins σ H s->(∀b∈fp,iF X pins H b)->tn i s.heap->J.go i H ->
  d4 (fS P w) X.A (Ud (.ref it)) (λr s1=>∃u,r=a5 u /\
   d4 (fS P w) X.A (V0 tg (.ref it) u) (λ_ s2=>∃x H',Inv X pins σ H' s2/\RelV x u/\J.Sr i H x H'/\tn (i+1) s2.heap/\∀b∈fp,H' b=b6) E s1) E s
 done:∀(X:Cx),X.prog=P->X.w=w->X.K=K->X.calm=b8->∀(i:Nat) (pins:List (ez×Obj)) (s:eH) (σ:St) (H:Hp) (E:dV->eH->Prop),Inv X pins σ H s->(∀b∈fp,iF X pins H b)->tn i s.heap->J.stop i H ->
  d4 (fS P w) X.A (Ud (.ref it)) (λr s1=>r=b6/\Inv X pins σ H s1) E s
 self:∀(A:N7) (i:Nat) (s:eH) (Q:dV->eH->Prop) (E:dV->eH->Prop),tn i s.heap->Q (.ref it) s->d4 (fS P w) A (Ã (.ref it)) Q E s
@[reducible]def TI:=St->Hp->(It->Hp->Prop)->Prop
abbrev Wf(X:Cx)(a:List (ez×Obj))(σ:St)(e:mx)(R:It->Hp->Prop)(f:dV)(s2:eH):Prop :=
 ∃(it:ez) (c:List ez) (d:Nat->DD->Prop) (J:It) (H':Hp),f=.ref it/\Inv X a σ H' s2/\Turn X.prog X.w X.K e J c it d/\d 0 s2.heap/\(∀b∈c,iF X a H' b)/\R J H'
abbrev PI(X:Cx)(c b:mx)(d:TI):Prop :=
 ∀(a:List (ez×Obj)) (s:eH) (σ:St) (H:Hp) (R:It->Hp->Prop),Inv X a σ H s->d σ H R ->
  d4 (fS X.prog X.w) X.A (t6 b X.env) (λv s1=>d4 (fS X.prog X.w) X.A (Ã v) (Wf X a σ c R) X.xe s1) X.xe s
def yr(ho:s.heap.get? it=a5 o)(b:o.cls=.type n)(c:o.data=.fields vs)
    (d:["enumerate","zip","dict_itemiterator","dict_reverseitemiterator","odict_iterator","itertools.zip_longest","itertools.pairwise"].contains n=cc) (a:Q () s):d4 M A (V0 e (.ref it) u) Q E s:=by
  unfold V0;cases e<;>first
    | show df a
    | (cases u<;>first
        | show df a
        | (show bD (Ĩ ho ?_)
           rw[b,c];change d4 M A (if (["enumerate","zip","dict_itemiterator","dict_reverseitemiterator","odict_iterator","itertools.zip_longest","itertools.pairwise"].contains n&&vs[0]?==a5 (t7 _))=b8 then _ else _) Q E s;rw[ž (by intro h;rw[d,Vq]at h;cases h)];show df a))
abbrev TN(K:PySem.W.Frag)(a:ez):It :=
 ⟨λi H=>∃xs x,Kz K H a xs/\xs[i]?=a5 x,λi H x H'=>H'=H/\∀xs,Kz K H a xs->xs[i]?=a5 x,λi H=>∃xs,Kz K H a xs/\xs.length<=i⟩
abbrev TQ(K:PySem.W.Frag)(a:ez):It :=
 ⟨λi H=>∃xs x,KN K H a xs/\xs[i]?=a5 x,λi H x H'=>H'=H/\∀xs,KN K H a xs->xs[i]?=a5 x,λi H=>∃xs,KN K H a xs/\xs.length<=i⟩
abbrev QY(lo:Int)(n:Nat):It:=⟨λi _=>i<n,λi H x H'=>H'=H/\x=.int (lo+i),λi _=>n<=i⟩
def wL{K:PySem.W.Frag}(a it:ez):Turn P w K tg (TN K a) [it] it (λi h=>h.IsListIter it a i) where
 mem:=by simp
 obj:=λi h st b g=>by
  have e:b=it:=by simpa using g
  subst e;have⟨o,e,c,d⟩:=st;show⟨o,e,λv z=>by rw[d]at z;cases z⟩
 keep:=λi h h' st k=>st.at λo e=>k it (by simp) o e
 item:=by
  intro X m n q G i f s σ H E I j st r;subst m n q;have⟨xs,x,l,t⟩:=r;have⟨its,rv,p,hz⟩:=I.list l;have⟨u,J,L⟩:=rv.get t;have⟨y,A,N,B,C,D⟩:=j it (by simp);show wpAny_pyNext_list_item st p.isList (x:=u) (by simpa using J) λh' st' O=>?_;have Q:Inv X f σ H {s with heap:=h' }:=I.turned (t':=s.toks) (λb o g e=>(O.2 b g).trans e) y A B C D;have⟨o,e,c,d⟩:=id st';show⟨u,rfl,yr (s:={s with heap:=h' }) e c d (by decide) ⟨x,H,Q,L,⟨rfl,λys T=>by rw[I.qf T l];show t⟩,st',λb g=>(j b g).1⟩⟩
 done:=by
  intro X m n q G i f s σ H E I j st r;subst m n q;have⟨xs,l,t⟩:=r;have⟨its,rv,p,hz⟩:=I.list l;have⟨y,A,N,B,C,D⟩:=j it (by simp);have hl:=rv.length;show wpAny_pyNext_list_end (I.ok.hd G) st p.isList (by simp;lia) λh' Y=>⟨rfl,I.turned (t':=s.toks) (λb o g e=>Y b o g e) y A B C D⟩
 self:=λ_ _ _ _ _ st h=>wpAny_pyIter_listiter st h
def r9{K:PySem.W.Frag}(a it:ez):Turn P w K tg (TQ K a) [it] it (λi h=>h.IsTupleIter it a i) where
 mem:=by simp
 obj:=λi h st b g=>by
  have e:b=it:=by simpa using g
  subst e;have⟨o,e,c,d⟩:=st;show⟨o,e,λv z=>by rw[d]at z;cases z⟩
 keep:=λi h h' st k=>st.at λo e=>k it (by simp) o e
 item:=by
  intro X m n q G i f s σ H E I j st r;subst m n q;have⟨xs,x,l,t⟩:=r;have⟨its,rv,p,hz⟩:=I.tuple l;have⟨u,J,L⟩:=rv.get t;have⟨y,A,N,B,C,D⟩:=j it (by simp);show wpAny_pyNext_tuple_item st (show s.heap.IsTuple a its.toArray from p) (x:=u) (by simpa using J) λh' st' O=>?_;have Q:Inv X f σ H {s with heap:=h' }:=I.turned (t':=s.toks) (λb o g e=>(O.2 b g).trans e) y A B C D;have⟨o,e,c,d⟩:=id st';show⟨u,rfl,yr (s:={s with heap:=h' }) e c d (by decide) ⟨x,H,Q,L,⟨rfl,λys T=>by rw[I.mY T l];show t⟩,st',λb g=>(j b g).1⟩⟩
 done:=by
  intro X m n q G i f s σ H E I j st r;subst m n q;have⟨xs,l,t⟩:=r;have⟨its,rv,p,hz⟩:=I.tuple l;have⟨y,A,N,B,C,D⟩:=j it (by simp);have hl:=rv.length;show wpAny_pyNext_tuple_end (I.ok.hd G) st (show s.heap.IsTuple a its.toArray from p) (by simp;lia) λh' Y=>⟨rfl,I.turned (t':=s.toks) (λb o g e=>Y b o g e) y A B C D⟩
 self:=λ_ _ _ _ _ st h=>wpAny_pyIter_tupleiter st h
def r_{K:PySem.W.Frag}(it:ez)(lo:Int)(n:Nat):Turn P w K L (QY lo n) [it] it (λi h=>IsRangeIter h it (lo+(i:Nat) * 1) ((n:Int) - (i:Nat)) 1) where
 mem:=by simp
 obj:=λi h st b c=>by
  have e:b=it:=by simpa using c
  subst e;show⟨_,st,λv z=>by
   have A:Vf _=Zr v:=z;cases A⟩
 keep:=λi h h' st k=>k it (by simp) _ st
 item:=by
  intro X f g j l i a s σ H E I d st m;subst f g j;have⟨p,q,B,r,u,x⟩:=d it (by simp);have W:=Walks.range (prog:=X.prog) (w:=X.w) (I.ok.hd l) it lo 1 n;show W.item i s _ _ m st λv h' y C st' D=>?_;have⟨t,rfl⟩:=C;have G:Inv X a σ H {s with heap:=h',toks:=y}:=I.turned (λb o c e=>D b o (by simpa using c) e) p q r u x;show⟨_,rfl,yr (s:={s with heap:=h',toks:=y}) (n:="range_iterator") st' rfl rfl (by decide) ⟨.int (lo+i),H,G,⟨t,?_⟩,⟨rfl,rfl⟩,st',λb c=>(d b c).1⟩⟩;rw[Int.mul_one]
 done:=by
  intro X f g j l i a s σ H E I d st m;subst f g j;have⟨p,q,B,r,u,x⟩:=d it (by simp);show wpAny_pyNext_range_end (I.ok.hd l) st (by have:n<=i:=m;lia) λh' J=>⟨rfl,I.turned (t':=s.toks) (λb o c e=>J b o c e) p q r u x⟩
 self:=λ_ _ _ _ _ st h=>wpAny_pyIter_rangeiter st h
section
abbrev Hq(K:PySem.W.Frag)(c:TE):TI:=λσ H R=>c σ H λx b=>∃a,x=.ref a/\(∃xs,Kz K b a xs)/\R (TN K a) b
abbrev JB(K:PySem.W.Frag)(c:TE):TI:=λσ H R=>c σ H λx b=>∃a,x=.ref a/\(∃xs,KN K b a xs)/\R (TQ K a) b
def BN(hl:PE X l f):PI X r l (Hq X.K f):=by
 intro c s σ H R I h;show Kc (hl c s σ H _ I h) λv s1 g=>?_;have⟨x,i,d,j,k⟩:=g;obtain⟨a,e,⟨xs,m⟩,q⟩:=k;subst e;cases j;have⟨its,rv,p,hz⟩:=d.list m;show UN p.isList ?_;show⟨s1.heap.objs.size,[s1.heap.objs.size],_,_,i,rfl,d.kept (t':=s1.toks) λb o e=>cL _ e,wL a _,⟨_,fx _ rfl,rfl,rfl⟩,λb n=>?_,q⟩;have e:b=s1.heap.objs.size:=by simpa using n
 subst e;show d.yq (i0 _) (d.J_.fresh (i0 _))
def E1(hl:PE X l f):PI X r l (JB X.K f):=by
 intro c s σ H R I h;show Kc (hl c s σ H _ I h) λv s1 g=>?_;have⟨x,i,d,j,k⟩:=g;obtain⟨a,e,⟨xs,m⟩,q⟩:=k;subst e;cases j;have⟨its,rv,p,hz⟩:=d.tuple m;show QV (show s1.heap.IsTuple a its.toArray from p) ?_;show⟨s1.heap.objs.size,[s1.heap.objs.size],_,_,i,rfl,d.kept (t':=s1.toks) λb o e=>cL _ e,r9 a _,⟨_,fx _ rfl,rfl,rfl⟩,λb n=>?_,q⟩;have e:b=s1.heap.objs.size:=by simpa using n
 subst e;show d.yq (i0 _) (d.J_.fresh (i0 _))
def qh{lo a:Int}(I:Inv X c σ H s)(g:-(2 ^ 62)<=lo)(h:lo<2 ^ 62)(i:-(2 ^ 62)<=a)(j:a<2 ^ 62)
  (q:R (QY lo (a - lo).toNat) H):d4 (fS X.prog X.w) X.A (Ã (.ref s.heap.objs.size)) (Wf X c σ n R) E {s with heap:=s.heap.push {cls:=.type "range",data:=.fields #[.int lo t,.int a u,.int 1 v]},toks:=f}:=by
 show wpAny_pyIter_range (IsRange.new ..) (small_one g h i j) ?_;have d:Inv X c σ H {s with heap:=s.heap.push {cls:=.type "range",data:=.fields #[.int lo t,.int a u,.int 1 v]},toks:=f}:=I.kept λb o e=>cL _ e;show⟨(s.heap.push {cls:=.type "range",data:=.fields #[.int lo t,.int a u,.int 1 v]}).objs.size,[(s.heap.push {cls:=.type "range",data:=.fields #[.int lo t,.int a u,.int 1 v]}).objs.size],_,_,H,rfl,
  d.kept (t':=f) λb o e=>cL _ e,r_ _ lo (a - lo).toNat,?_,λb k=>?_,q⟩
 .have l:lo+((0:Nat):Int) * 1=lo:=by simp
  have m:(((a - lo).toNat:Nat):Int) - ((0:Nat):Int)=ř lo a 1:=by rw[rangeSize_one];split<;>lia
  change IsRangeIter _ _ (lo+((0:Nat):Int) * 1) ((((a - lo).toNat:Nat):Int) - ((0:Nat):Int)) 1;rw[l,m];show fx _ rfl
 .have e:b=(s.heap.push {cls:=.type "range",data:=.fields #[.int lo t,.int a u,.int 1 v]}).objs.size:=by simpa using k
  subst e;show d.yq (i0 _) (d.J_.fresh (i0 _))
abbrev Hr(a:TA):TI:=λσ H R=>a σ H λvs b=>∃j:Int,vs=[.int j]/\-(2 ^ 62)<=j/\j<2 ^ 62/\R (QY 0 j.toNat) b
abbrev Hs(a:TA):TI:=λσ H R=>a σ H λvs b=>∃i j:Int,vs=[.int i,.int j]/\(-(2 ^ 62)<=i/\i<2 ^ 62/\-(2 ^ 62)<=j/\j<2 ^ 62)/\R (QY i (j - i).toNat) b
def wM(d:Gl X "range")(f:X.mg "range"=b6)(g:PA X [a] i)(hs:i2 [a] X.env=[(cc,t6 a X.env)]:=by rfl):PI X o (.Call (.Name "range" p) [a] [] pos) (Hr i):=by
 intro b s σ H R I h;show Call_ (c8 I d f boot_range (Ko (Kc (g pos b s σ H _ I h) λus s1 ⟨vs,u,k,l,c⟩=>?_) hs rfl));have⟨j,e,c,m,q⟩:=c;subst e;cases l with
 |cons r n =>
  cases n;have⟨t,rfl⟩:=r;show call_range_1 (qh k ⋯ ⋯ c m (by simpa using q))
def wN(k:Gl X "range")(l:X.mg "range"=b6)(m:PA X [a,b] n)(hs:i2 [a,b] X.env=[(cc,t6 a X.env),(cc,t6 b X.env)]:=by rfl)(g:i2 [b] X.env=[(cc,t6 b X.env)]:=by rfl):
  PI X z (.Call (.Name "range" p) [a,b] [] pos) (Hs n):=by
 intro c s σ H R I h;show Call_ (c8 I k l boot_range (Ko (Kc (m pos c s σ H _ I h) λus s1 ⟨vs,A,o,u,d⟩=>?_) (by rw[hs,g]) (by rw[g];rfl)));obtain⟨i,j,e,⟨d,v,w,x⟩,q⟩:=d;subst e;cases u with
 |cons r f =>
  cases f with
  |cons y f =>
   cases f;have⟨t,rfl⟩:=r;have⟨t',rfl⟩:=y;show call_range_2 (qh o d v w x q)
abbrev JC(c:TI)(g:TG)(d:TS):TS:=λD σ H=>c σ H λJ e=>∃W:Nat->Nat->St->Hp->Prop,(∃m,W 0 m σ e)/\∀i m σ H,W i m σ H ->
 (J.stop i H/\D.nx σ H)\/(J.go i H/\∃N:St->Hp->Prop,(∀a H',N a H'->∃b,b<m/\W (i+1) b a H')/\∀x H',J.Sr i H x H'->g x σ H' λf h=>d {D with nx:=N,ct:=N,bk:=D.nx} f h)
abbrev kQ(a:List ez)(h:DD):List (ez×Obj):=a.filterMap λb=>(h.get? b).map λo=>(b,o)
def fh(a:b∈c)(e:h.get? b=a5 o):(b,o)∈kQ c h:=P2.mpr ⟨b,a,by rw[e];rfl⟩
def wO(a:p∈kQ c h):p.1∈c/\h.get? p.1=a5 p.2:=by
 have⟨b,d,e⟩:=P2.mp a;cases q:h.get? b with
 |none=>rw[q]at e;cases e
 |some o =>
  rw[q]at e;have f:(b,o)=p:=td e;subst f;show⟨d,q⟩
def Inv.pinned(I:Inv X a σ H s)(h:∀b∈c,iF X a H b)(ho:∀b∈c,∃o,s.heap.get? b=a5 o/\∀v,o.data≠.cell v):Inv X (a++kQ c s.heap) σ H s :=
 I.ei λp i=>(ke.mp i).elim (λz=>I.pin p (nC _ z)) λz=>by
  have⟨f,e⟩:=wO z;obtain⟨j,k,l,_⟩:=h p.1 f;have⟨o,g,d⟩:=ho p.1 f;rw[e]at g;cases g;show⟨e,j,k,l,d⟩
def Inv.kR(I:Inv X (a++pl) σ H s):Inv X a σ H s:=I.ei λp b=>I.pin p (nC _ (RK _ b))
def E2(t:YX (fS X.prog X.w) X.A X.env X.xe)(hc:X.calm=b8)(hi:PI X tg p wi)(hg:PG X tg g)(c:Lu X body tb)
  (hs:∀x,MV p X.env x=pure x:=by intro _;rfl):PS X (.For tg p body [] pos) (JC wi g tb):=by
 intro a s σ H D I h;show wpAny_For (Kc (hi a s σ H _ I h) λv s1 h1=>Kc h1 λSs s2 h2=>?_) hs;obtain⟨it,y,tn,J,H2,e,I2,T,st2,f2,W,⟨m0,w0⟩,z⟩:=h2;subst e;have O:∀{H':Hp},(∀b∈y,H' b=b6)->∀b∈y,iF X a H' b:=λhn b c=>⟨hn b c,(f2 b c).2⟩
 show codeAny_forLoop_any (λn s'=>∃i B H',Inv X a B H' s'/\tn i s'.heap/\(∀b∈y,H' b=b6)/\W i n B H') ?_ m0 ⟨0,σ,H2,I2,st2,λb c=>(f2 b c).1,w0⟩;rintro n s3 ⟨i,C,L,I3,KS,QZ,w3⟩;rcases z i n C L w3 with⟨G,qn⟩|⟨go,N,hN,ċ⟩
 .show OP t (Kc (T.done X rfl rfl rfl hc i a s3 C L X.xe I3 (O QZ) KS G) λr s4 TV=>?_);have⟨Q,I4⟩:=TV;subst Q;show Ts ⟨C,L,I4,qn⟩
 .show OP t (Kc (T.item X rfl rfl rfl hc i a s3 C L X.xe I3 (O QZ) KS go) λr s4 TX=>?_);have⟨u,Q,h4⟩:=TX;subst Q;show OP t (Kc h4 λ_ s5 TY=>?_);have⟨x,H5,I5,r5,y5,Y,TZ⟩:=TY;have T1:=I5.pinned (O TZ) (T.obj _ _ Y);show OP t (Kc (hg _ s5 C H5 x u _ T1 r5 (ċ x H5 y5)) λ_ s6 T5=>?_);have⟨σ6,H6,I6,q6⟩:=T5;show OP t (Kc (c _ s6 σ6 H6 _ I6 q6) λf s7 q=>?_);have Ų:∀{j:St} {k:Hp},Inv X (a++kQ y s5.heap) j k s7->N j k->∃m,m<n/\∃i B H',Inv X a B H' s7/\tn i s7.heap/\(∀b∈y,H' b=b6)/\W i m B H':=λ{j k} l n7=>by
   have⟨m',hm,w7⟩:=hN j k n7;show⟨m',hm,i+1,j,k,l.kR,T.keep _ _ _ Y λb c o e=>(l.pin (b,o) (nC _ (nC _ (fh c e)))).1,λb c=>?_,w7⟩;have⟨o,e,d⟩:=T.obj _ _ Y b c;show(l.pin (b,o) (nC _ (nC _ (fh c e)))).2.1
  cases f with
  |brk=>have⟨j,k,l,q⟩:=q;show⟨j,k,l.kR,q⟩
  |ret v=>have⟨x7,j,k,l,r7,q⟩:=q;show⟨x7,j,k,l.kR,r7,q⟩
  |_=>have⟨j,k,l,n7⟩:=q;show Ų l n7
end
@[reducible]def R2:=V->V->Hp->VK->Prop
abbrev Ma(X:Cx)(f:dV->dV->Sem dV)(r:R2):Prop :=
 ∀(a:List (ez×Obj)) (s:eH) (σ:St) (H:Hp) (x y:V) (v u:dV) (Q:VK),Inv X a σ H s->RelV x v->RelV y u->r x y H Q ->
  d4 (fS X.prog X.w) X.A (f v u) (EP X a σ Q) X.xe s
abbrev iG(X:Cx)(f:dV)(r:List V->Hp->VK->Prop):Prop :=
 ∀(a:List (ez×Obj)) (s:eH) (σ:St) (H:Hp) (xs:List V) (us:List dV) (Q:VK),Inv X a σ H s->Vals xs us->r xs H Q ->
  d4 (fS X.prog X.w) X.A (Oz f us) (EP X a σ Q) X.xe s
abbrev JD(X:Cx)(r:V->Hp->(Bool->Hp->Prop)->Prop):Prop :=
 ∀(a:List (ez×Obj)) (s:eH) (σ:St) (H:Hp) (x:V) (v:dV) (Q:Bool->Hp->Prop),Inv X a σ H s->RelV x v->r x H Q ->
  d4 (fS X.prog X.w) X.A (ŧ v) (TP X a σ Q) X.xe s
abbrev rI(C:Int->Int->Prop)(g:Int->Int->V):R2:=λx y H Q=>∃i j,x=.int i/\y=.int j/\C i j/\Q (g i j) H
abbrev OU(g:Int->Int->V):R2:=λx y H Q=>∃i j,x=.int i/\y=.int j/\Q (g i j) H
section
def Su{g:Int->Int->Int}
  (Ŕ:∀(i j:Int) (t u:Tok) (s:eH) (Q:dV->eH->Prop) (E:dV->eH->Prop),C i j->Q (.int (g i j) s.toks) {s with toks:=s.toks+1}->d4 (fS X.prog X.w) X.A (f (.int i t) (.int j u)) Q E s) :
  Ma X f (rI C λi j=>.int (g i j)):=by
 intro a s σ H x y v u Q I b c h;have⟨i,j,rfl,rfl,d,q⟩:=h;have⟨t,rfl⟩:=b;have⟨t',rfl⟩:=c;show Ŕ i j t t' s _ _ d ⟨.int (g i j),H,I.tok _,⟨_,rfl⟩,q⟩
def Ht{g:Int->Int->Int}
  (Ŕ:∀(i j:Int) (t u:Tok) (s:eH) (Q:dV->eH->Prop) (E:dV->eH->Prop),Q (.int (g i j) s.toks) {s with toks:=s.toks+1}->d4 (fS X.prog X.w) X.A (f (.int i t) (.int j u)) Q E s) :
  Ma X f (OU λi j=>.int (g i j)):=by
 intro a s σ H x y v u Q I b c h;have⟨i,j,rfl,rfl,q⟩:=h;have⟨t,rfl⟩:=b;have⟨t',rfl⟩:=c;show Ŕ i j t t' s _ _ ⟨.int (g i j),H,I.tok _,⟨_,rfl⟩,q⟩
def BO{g:Int->Int->Bool}
  (Ŕ:∀(i j:Int) (t u:Tok) (s:eH) (Q:dV->eH->Prop) (E:dV->eH->Prop),Q (.bool (g i j)) s->d4 (fS X.prog X.w) X.A (f (.int i t) (.int j u)) Q E s) :
  Ma X f (OU λi j=>.bl (g i j)):=by
 intro a s σ H x y v u Q I b c h;have⟨i,j,rfl,rfl,q⟩:=h;have⟨t,rfl⟩:=b;have⟨t',rfl⟩:=c;show Ŕ i j t t' s _ _ ⟨.bl (g i j),H,I,rfl,q⟩
abbrev JE(i j:Int):Prop:=0<j/\j<1073741824
abbrev JF(i j:Int):Prop:=0<=j/\j<=1000000/\i.natAbs<2 ^ 64
abbrev E3(i j:Int):Prop:=(-(2 ^ 64)<i/\i<2 ^ 64)\/(-(2 ^ 64)<j/\j<2 ^ 64)
def E3.ok(h:E3 i j):IntMulOk i j:=by
 rcases h with⟨a,b⟩|⟨a,b⟩
 .show .of_left (intBits_le_64 a b)
 .show .of_right (intBits_le_64 a b)
def bV:Ma X (Po .Add) (OU λi j=>.int (i+j)):=Ht λ_ _ _ _ _ _ _ q=>add_int q
def kS:Ma X (Po .Sub) (OU λi j=>.int (i - j)):=Ht λ_ _ _ _ _ _ _ q=>sub_int q
def kU:Ma X (Po .Mult) (rI E3 λi j=>.int (i * j)):=Su λ_ _ _ _ _ _ _ a q=>mul_int q a.ok
def BP:Ma X (Po .FloorDiv) (rI JE λi j=>.int (i / j)):=Su λi j _ _ _ _ _ a q=>by
 have b:(0:Int)<j:=a.1;have c:j<1073741824:=a.2;show floordiv_int ⋯ (by rw[Int.fdiv_eq_ediv_of_nonneg i ⋯];show q) (.inl (PyProof.noPylong_small ⋯))
def eF:Ma X (Po .Mod) (rI (λ_ j=>0<j) λi j=>.int (i % j)):=Su λi j _ _ _ _ _ a q=>by
 have b:(0:Int)<j:=a;show mod_int' ⋯ (by rw[Int.fmod_eq_emod_of_nonneg i ⋯];show q)
def oH:Ma X (Po .Pow) (rI JF λi j=>.int (i ^ j.toNat)):=Su λ_ _ _ _ _ _ _ a q=>pow_int_small a.1 a.2.1 a.2.2 q
end
section
def E4(I:Inv X a σ H s)(q:Q (.bl k) H)(e:k=k'):EP X a σ Q (.bool k') s:=by
 subst e;show⟨.bl k,H,I,rfl,q⟩
def Hu:Ma X (OT .Lt) (OU λi j=>.bl (c4 (i<j))):=BO λ_ _ _ _ _ _ _ q=>lt_int q
def Hv:Ma X (OT .LtE) (OU λi j=>.bl (c4 (i<=j))):=BO λ_ _ _ _ _ _ _ q=>le_int q
def Hw:Ma X (OT .Gt) (OU λi j=>.bl (c4 (j<i))):=BO λ_ _ _ _ _ _ _ q=>gt_int q
def Hx:Ma X (OT .GtE) (OU λi j=>.bl (c4 (j<=i))):=BO λ_ _ _ _ _ _ _ q=>ge_int q
def E5:Ma X (OT .Is) (λx y H Q=>y=.Kb/\Q (.bl (c4 (x=.Kb))) H):=by
 intro a s σ H x y v u Q I b c h;have⟨rfl,q⟩:=h;cases c;show is_none_gen (E4 I q ?_);cases x<;>first
  |(cases b;rfl)
  |(have⟨t,rfl⟩:=b;rfl)
abbrev Hy(K:PySem.W.Frag)(x:V)(H:Hp)(k:Bool):Prop :=
 match x with
 |.Kb=>k=cc
 |.bl b=>k=b
 |.int i=>k=(i != 0)
 |.str y=>y.length<=cK/\k=((y.length:Int) != 0)
 |.Sj y=>y.size<=cK/\k=((y.size:Int) != 0)
 |.ref p=>(∃xs,Kz K H p xs/\k=!xs.isEmpty)\/(∃xs,KN K H p xs/\k=!xs.isEmpty)\/∃kvs,H p=a5 (.dK kvs)/\k=!kvs.isEmpty
 |_=>False
def sd(r:KV kvs vs):(!vs.isEmpty)=!kvs.isEmpty:=by
 cases r<;>rfl
def kW(r:Vals xs its):(!its.toArray.isEmpty)=!xs.isEmpty:=by
 cases r<;>simp
def fO:(cK:Nat)<2 ^ 63:=by rw[sizeLine_eq];decide
def E6:JD X (λx H Q=>∃k,Hy X.K x H k/\Q k H):=by
 intro g s σ H x v Q I d h;have⟨k,e,q⟩:=h;have hl:=fO;have hs:cK=16777216:=sizeLine_eq;cases x with
 |Kb =>
  cases d;have a:k=cc:=e;subst a;show truthy_none ⟨H,I,q⟩
 |bl b =>
  cases d;have a:k=b:=e;subst a;show MJ ⟨H,I,q⟩
 |int i =>
  have⟨t,rfl⟩:=d;have a:k=(i != 0):=e;subst a;show PySem.P.truthy_int ⟨H,I,q⟩
 |str y =>
  have⟨t,rfl⟩:=d;obtain⟨j,a⟩:y.length<=cK/\k=((y.length:Int) != 0):=e;subst a;show PySem.P.truthy_str ⋯ ⟨H,I.tok _,q⟩
 |Sj y =>
  have⟨t,rfl⟩:=d;obtain⟨j,a⟩:y.size<=cK/\k=((y.size:Int) != 0):=e;subst a;show PySem.W.truthy_bytes ⋯ ⟨H,I.tok _,q⟩
 |ref p =>
  cases d;have a:(∃xs,Kz X.K H p xs/\k=!xs.isEmpty)\/(∃xs,KN X.K H p xs/\k=!xs.isEmpty)\/∃kvs,H p=a5 (.dK kvs)/\k=!kvs.isEmpty:=e;rcases a with⟨xs,f,a⟩|⟨xs,f,a⟩|⟨kvs,f,a⟩
  .subst a;have⟨its,r,pl,hz⟩:=I.list f;have c:=r.length;show wpAny_truthy_list pl.isList (by simp only[hQ];lia) ⟨H,I.tok _,by rw[kW r];show q⟩
  .subst a;have⟨its,r,pl,hz⟩:=I.tuple f;have c:=r.length;show truthy_tuple pl (by simp only[hQ];lia) ⟨H,I.tok _,by rw[kW r];show q⟩
  .subst a;obtain⟨hz,l,vs,r,m⟩:kvs.length<=cK/\(p==Ov)=cc/\∃vs,KV kvs vs/\s.heap.DictOf (aI X.prog X.w) p vs:=I.J_ p _ f;have c:kvs.length=vs.length:=Paired.length r;show wpAny_truthy_dict l m ⋯ ⟨H,I.tok _,by rw[sd r];show q⟩
 |_=>show(show False from e).elim
def yt(d:PE X a e)(f:∀b,isTrue a X.env b=(do let v <-b;Zw a.pos;MT [v] (ŧ v))):
  PT X a (λσ H Q=>e σ H λx H'=>∃k,Hy X.K x H' k/\Q k H'):=by
 intro c s σ H Q I h;show isTrue_plain (Kc (d c s σ H _ I h) λv s1 ⟨x,g,i,j,l⟩=>E6 c s1 σ g x v Q i j l) (f _)
def se:Ma X (Po .Add) (λx y H Q=>∃i j,x=.str i/\y=.str j/\i.length+j.length<=cK/\Q (.str (i++j)) H):=by
 intro a s σ H x y v u Q I b c h;have⟨i,j,rfl,rfl,hz,q⟩:=h;have⟨t,rfl⟩:=b;have⟨t',rfl⟩:=c;show add_str (λt' d=>⟨.str (i++j),H,I.tok _,⟨_,rfl⟩,q⟩) hz
def vals1(r:Vals [x] us):∃u,us=[u]/\RelV x u:=by
 cases r with
 |cons a b=>cases b;show⟨_,rfl,a⟩
def vals2(r:Vals [x,y] us):∃u a,us=[u,a]/\RelV x u/\RelV y a:=by
 cases r with
 |cons b c =>
  cases c with
  |cons d e=>cases e;show⟨_,_,rfl,b,d⟩
def oI:iG X (.type "str") (λxs H Q=>∃i,xs=[.int i]/\i.natAbs.log2<1920/\Q (.str (Sq i)) H):=by
 intro a s σ H xs us Q I r h;have⟨i,rfl,hz,q⟩:=h;have⟨u,rfl,t,rfl⟩:=vals1 r;show PySem.P.str_of_int hz ⟨.str _,H,I.tok _,⟨_,rfl⟩,q⟩
end
section
end
def ka.some_of(r:ka (a5 v) o):∃u,o=a5 u/\RelV v u:=by
 cases o with
 |none=>show(show False from r).elim
 |some u=>show⟨u,rfl,r⟩
section
end
structure X2(K:PySem.W.Frag)(C:ez):Prop where
 pg:PySem.W.plainGet K C nH=b8
 hd:PySem.W.hasDictIn K C=b8
 po:PySem.W.plainOver K C=b8
 sa:PySem.W.findIn K (.ref C) "__setattr__"=a5 (a5 (.builtin "object.__setattr__"))
section
end
section
end
section
inductive kX(K:PySem.W.Frag)(H:Hp):V->dV->Prop where
 |Kb:kX K H .Kb (.type "NoneType")
 |bl (x:Bool):kX K H (.bl x) (.type "bool")
 |int (i:Int):kX K H (.int i) (.type "int")
 |str (x:Str):kX K H (.str x) (.type "str")
 |Sk (x:UInt64):kX K H (.Sk x) (.type "float")
 |lst {a:ez} {xs:List V} (e:H a=a5 (.lst xs)):kX K H (.ref a) (.type "list")
 |Lc {a:ez} {o:Obj} {xs:List V} (e:H a=a5 (.Lc o (.lst xs))):kX K H (.ref a) (.type "list")
 |tup {a:ez} {xs:List V} (e:H a=a5 (.tup xs)):kX K H (.ref a) (.type "tuple")
 |dK {a:ez} {kvs:List (Key×V)} (e:H a=a5 (.dK kvs)):kX K H (.ref a) (.type "dict")
 |dT {a:ez} {kvs:List (List Key×V)} (e:H a=a5 (.dT kvs)):kX K H (.ref a) (.type "dict")
 |ins {a C dx:ez} {fs:List (Str×V)} (e:H a=a5 (.ins C dx fs)) (cl:X2 K C) (ha:PySem.W.findIn K (.ref C) "__class__"=a5 (a5 (.builtin "object.__class__")))
   (hn:PySem.W.specialIn K (.builtin "object.__class__") "__get__"=a5 (a5 (.builtin "getset_descriptor.__get__"))) (X3:PySem.W.takesIn K (.builtin "object.__class__")=a5 b8)
   (hm:PySem.W.mroIn K C (.type "object")=a5 b8):kX K H (.ref a) (.ref C)
end
structure fJ(k:Nat)(A:N7):Prop where
 hd:A.handled=b6
 dp:A.depth+3 * k+5<Ū
 un:A.units+16 * k+200<L8
 gd:A.guards=a5 []
def fJ.deeper(r:fJ (k+1) A)(env:Env):fJ k (A.deeper env) :=
 ⟨r.hd,by have:=r.dp;change A.depth+1+3 * k+5 < _;lia,by have:=r.un;change A.units+3+16 * k+200 < _;lia,r.gd⟩
def fJ.depth(r:fJ k A):A.depth<Ū:=by have:=r.dp;lia
abbrev JG:TA:=λ_ H Q=>Q [] H
abbrev Hz(a:TE)(b:TA):TA:=λσ H Q=>a σ H λx c=>b σ c λxs d=>Q (x::xs) d
section
def fP:PA X [] JG:=λ_ _ _ _ H Q I h=>Qi ⟨[],H,I,.nil,h⟩
def dA(b:PE X e c)(d:PA X es t)(hs:i2 (e::es) X.env=(cc,t6 e X.env)::i2 es X.env:=by rfl):PA X (e::es) (Hz c t):=by
 intro pos a s σ H Q I h;rw[hs];change d4 _ _ (ŀ ((cc,t6 e X.env)::zy pos (i2 es X.env))) _ _ s;show Nu (Kc (b a s σ H _ I h) λu s1 f=>?_);have⟨x,g,i,j,k⟩:=f;show Kc (d pos a s1 σ g _ i k) λus s2 ⟨xs,l,m,n,o⟩=>⟨x::xs,l,m,.cons j n,o⟩
end
@[reducible]def Sp:=List V->Hp->VK->XK->Prop
@[reducible]def Pk:=List Env->Hp->eH->XK->dV->eH->Prop
structure BQ(P:t8)(w:vl)(K:PySem.W.Frag)(mg:Str->Option dV)(base:DD)(A:N7)(outer:List Env)(s:eH)(H:Hp):Prop where
 frames:A.frames=a5 outer
 mod:Mod K mg base
 bs:∀b o,base.get? b=a5 o->s.heap.get? b=a5 o/\H b=b6
 Ol:base.objs.size<=s.heap.objs.size
 kb:s.heap.FunFrames base outer
 Pd:∀b∈KW outer,H b=b6
 J_:Lh P w H s.heap
 bare:UX s.gens
abbrev CE(outer:List Env)(P:t8)(w:vl)(H:Hp)(s:eH)(Q:VK)(u:dV)(s':eH):Prop :=
 ∃v H',s'.os=s.os/\UX s'.gens/\Un (KW outer) [] H H' s.heap s'.heap/\Lh P w H' s'.heap/\RelV v u/\Q v H'
abbrev CR(CX:Pk)(outer:List Env)(P:t8)(w:vl)(H:Hp)(s:eH)(Q:VK)(E:XK)(r:Result)(s':eH):Prop :=
 match r with
 |.ok (.ret u)=>CE outer P w H s Q u s'
 |.ok _=>False
 |.error e=>CX outer H s E e s'
structure jm(P:t8)(w:vl)(K:PySem.W.Frag)(mg:Str->Option dV)(base:DD)(CX:Pk)(k:Nat)(f:ez)(fd:Uh)(ps:List Str)(sp:Sp):Prop where
 len:∀vs H Q E,sp vs H Q E->vs.length=ps.length
 run:∀(A:N7) (outer:List Env) (s:eH) (H:Hp) (args:Args) (us:List dV) (vs:List V) (Q:VK) (E:XK),fJ k A->BQ P w K mg base A outer s H->ô s fd args (ps.zip us)->Vals vs us->sp vs H Q E ->
  Qm (fS P w) A (.call (.ref f) args) (CR CX outer P w H s Q E) s
section
def Inv.HA(I:Inv X a σ H s):BQ X.prog X.w X.K X.mg X.base X.A X.stack s H :=
 ⟨I.ok.frames,I.ok.mod,I.bs,C0 I.ok.Ol I.sz,I.stack,I.kC,I.J_,I.bare⟩
def Inv.after(I:Inv X a σ H s)(h:CE X.stack X.prog X.w H s Q u s'):EP X a σ Q u s':=by
 have⟨v,H',os,c,e,f,r,q⟩:=h;have⟨i,g,d,t,j⟩:=s';obtain rfl:j=s.os:=os;show⟨v,H',I.call (h':=i) (g':=g) (d':=d) (t':=t) (ch:=[]) e f c (λb z=>absurd z (by simp)),r,q⟩
end
abbrev Binds(K:PySem.W.Frag)(b:Uh)(ps:List Str)(a:List dV):Prop :=
 ∀(s:eH) (us:List dV),K.In s.heap->(us++a).length=ps.length->ô s b ⟨us,[]⟩ (ps.zip (us++a))
def Binds.all{K:PySem.W.Frag}(h:∀us:List dV,us.length=ps.length->ů a ⟨us,[]⟩=pure (ps.zip us)):Binds K a ps []:=λs us _ hl=>by
 rw[ro]at hl ⊢;show .of_eq (h us hl)
abbrev Passes(CX:Pk)(X:Cx)(E:XK):Prop:=∀(a:List (ez×Obj)) (σ:St) (H:Hp) (s:eH) (e:dV) (s':eH),Inv X a σ H s->CX X.stack H s E e s'->X.xe e s'
section
def yu(F:jm X.prog X.w X.K X.mg X.base CX k f i ps sp)(j:fJ k X.A)(l:Binds X.K i ps b)(m:Vals c b)(n:Passes CX X E)
  (I:Inv X a σ H s) (r:Vals vs us) (h:sp (vs++c) H Q E):d4 (fS X.prog X.w) X.A (Oz (.ref f) us) (EP X a σ Q) X.xe s:=by
 have g:Vals (vs++c) (us++b):=r.append m;have hl:(us++b).length=ps.length:=by rw[<-g.length];show F.len _ _ _ _ h
 show ĩ (TU (F.run X.A X.stack s H ⟨us,[]⟩ (us++b) (vs++c) Q E j I.HA (l s us I.Nz hl) g h) λr s' d=>?_);cases r with
 |error e=>show n a σ H s e s' I d
 |ok o =>
  cases o with
  |ret u=>show I.after d
  |_=>show Nv d
end
section
end
structure eB(N P:List Str)(sc:M3):Prop where
 kind:sc.kind=.function
 co:sc.isCoroutine=cc
 gen:sc.isGenerator=cc
 nd:N.Nodup
 pre:N.take P.length=P
 par:∀x∈P,sc.names.lookup x=a5 .local\/sc.names.lookup x=a5 .cell
 Pl:∀y∈sc.names,y.2≠.free
theorem mZ{kindOf:Str->Option Pq}:∀{a:List (Str×dV)}{m:Str->Option dV},(∀v,(x,v)∉a)->ä kindOf a m x=m x
 |[],_,_=>rfl
 |(n,v)::r,m,h=>by
  unfold ä;rw[mZ λw b=>h w (mf _ b)];split
  .have:x≠n:=by rintro rfl;show h v nc
   simp[this]
  .rfl
theorem m6{kindOf:Str->Option Pq}:∀{a:List (Str×dV)}{m:Str->Option dV},(∀v,(x,v)∉a)->å kindOf a m x=m x
 |[],_,_=>rfl
 |(n,v)::r,m,h=>by
  unfold å;rw[m6 λw b=>h w (mf _ b)];split
  .rfl
  .have:x≠n:=by rintro rfl;show h v nc
   simp[this]
theorem m7{kindOf:Str->Option Pq}:∀{P:List Str}{vs:List dV}{i:Nat}{m:Str->Option dV},P.Nodup->P[i]?=a5 x->vs[i]?=a5 v->kindOf x=a5 .local ->
  ä kindOf (P.zip vs) m x=a5 v
 |[],_,_,_,_,h,_,_=>by simp at h
 |_::_,[],_,_,_,_,h,_=>by simp at h
 |p::P,w::vs,0,m,c,a,b,hk=>by
  simp at a b;subst a;subst b;change ä kindOf ((p,w)::P.zip vs) m p=_;unfold ä;rw[mZ λv d=>(mN.mp c).1 (R0 d).1,Ž hk];simp
 |p::P,w::vs,i+1,m,c,a,b,hk=>by
  change ä kindOf ((p,w)::P.zip vs) m x=_;unfold ä;show m7 (i:=i) (mN.mp c).2 (by simpa using a) (by simpa using b) hk
theorem m8{kindOf:Str->Option Pq}:∀{P:List Str}{vs:List dV}{i:Nat}{m:Str->Option dV},P.Nodup->P[i]?=a5 x->vs[i]?=a5 v->kindOf x≠a5 .local ->
  å kindOf (P.zip vs) m x=a5 v
 |[],_,_,_,_,h,_,_=>by simp at h
 |_::_,[],_,_,_,_,h,_=>by simp at h
 |p::P,w::vs,0,m,c,a,b,hk=>by
  simp at a b;subst a;subst b;change å kindOf ((p,w)::P.zip vs) m p=_;unfold å;rw[m6 λv d=>(mN.mp c).1 (R0 d).1,ž hk];simp
 |p::P,w::vs,i+1,m,c,a,b,hk=>by
  change å kindOf ((p,w)::P.zip vs) m x=_;unfold å;show m8 (i:=i) (mN.mp c).2 (by simpa using a) (by simpa using b) hk
abbrev start(N:List Str)(vs:List V):St:=vs.map a5++i8 (N.length - vs.length) b6
abbrev qi(CX:Pk)(P:t8)(w:vl)(K:PySem.W.Frag)(mg:Str->Option dV)(base:DD)(N:List Str)(a:Str)(scope:M3)(f:ez)(b:dV)(A:N7)(outer:List Env)(s:eH)(H:Hp)(E:XK):Cx where
 prog:=P
 w:=w
 K:=K
 mg:=mg
 base:=base
 A:=A.deeper (VI a scope s.heap.objs.size f b)
 N:=N
 s₀:=s
 H₀:=H
 env:=VI a scope s.heap.objs.size f b
 outer:=outer
 stack:=VI a scope s.heap.objs.size f b::outer
 ex:=[]
 calm:=b8
 fn:=λ_=>b8
 pn:=[]
 xe:=λe s'=>d4 (fS P w) (A.deeper (VI a scope s.heap.objs.size f b)) (leaving (VI a scope s.heap.objs.size f b) e) (λ_ c=>CX outer H s E e c) (λd c=>CX outer H s E d c) s'
def qj{a:M3}(h:a.names.lookup x=a5 .cell):∃c,(ŗ n a.names []).lookup x=a5 c:=by
 have q:=PySem.W.cellsFrom_some a.names n [] (.inl h);show TF.mp q
def wQ{K:PySem.W.Frag}
  (S:eB N ps scope) (G:A.handled=b6) (j:BQ P w K mg base A outer s H) (hl:vs.length=ps.length) (r:Vals vs us)
  (x:InCallC s s.heap.objs.size (ä (VI g scope s.heap.objs.size f t).kindOf (ps.zip us) λ_=>b6) (ŗ (s.heap.objs.size+1) scope.names []) (å (VI g scope s.heap.objs.size f t).kindOf (ps.zip us) λ_=>b6) s1) :
  Inv (qi CX P w K mg base N g scope f t A outer s H E) [] (start N vs) H s1:=by
 have J:ps.length<=N.length:=by have:=Δ Lp S.pre;rw[tv]at this;lia
 have⟨m,L,rfl,hk⟩:=x.done;have B:∀b:ez,b∉(qi CX P w K mg base N g scope f t A outer s H E).ex:=λb z=>absurd (show b∈([]:List ez) from z) (by simp);show⟨⟨j.mod,S.kind,rfl,rfl,i0 _,λy z c m d=>?_,λy hy=>?_,λy c _ h=>?_,λ_=>G,Around.frames_deeper j.frames,.inr ⟨rfl,rfl⟩,λb z=>absurd z (B b),j.bs,j.Ol,λb _ _=>B b,λb z=>absurd z (B b),j.kb,j.Pd⟩,
  rfl,j.bare,Un.kept hk,⟨_,x.toInCall.ns,λi y v m d O=>?_⟩,λy c h=>⟨_,x.cell y c h⟩,j.J_.fresh (i0 _),λy c h=>?_,λp l=>absurd (show p∈([]:List (ez×Obj)) from l) (by simp),j.J_.kept hk,?_⟩
 .show name_of_addr x.apart (PySem.mem_of_lookup m) (PySem.mem_of_lookup d)
 .have hy:scope.names.lookup y=a5 .cell\/scope.names.lookup y=a5 .free:=hy;rcases hy with hy|hy
  .show qj hy
  .show absurd rfl (S.Pl _ (PySem.mem_of_lookup hy))
 .show Q8 (x.above y c (PySem.mem_of_lookup h))
 .have o:i<vs.length:=by
   unfold start at d;by_cases o:i<vs.length
   .show o
   .rw[qs (by simpa using o)]at d;rw[KQ]at d;split at d<;>cases d
  have I:vs[i]?=a5 v:=by
   unfold start at d;rw[t5 (by simpa using o),i7]at d;cases e:vs[i]? with
   |none=>rw[e]at d;cases d
   |some a=>rw[e]at d;cases d;rfl
  have⟨u,C,rv⟩:=r.get I;have l:ps[i]?=a5 y:=by
   rw[<-S.pre,Zg ⋯];show m
  have D:ps.Nodup:=by rw[<-S.pre];show S.nd.sublist (þ _ _)
  show⟨u,rv,?_⟩;rcases S.par y (mh l) with k|k
  .show .inl ⟨k,m7 D l C k⟩
  .have⟨c,e⟩:=qj (n:=s.heap.objs.size+1) k;show .inr ⟨.inl k,c,e,?_⟩;have q:=x.cell y c e;rw[m8 D l C (by change scope.names.lookup y≠_;rw[k];decide)]at q;show q
 .show j.J_.fresh (Q8 (x.above y c (PySem.mem_of_lookup h)))
 .unfold start;change _=N.length;rw[hH,c2,Rr];lia
def D5{K:PySem.W.Frag}{p kV g z d ct D:dV}
 (lk:K.lookup f=a5 ⟨D,od,.func (PySem.W.fnOf name a c body scope p kV g z G d ct),Pn⟩) (L:PySem.W.codeIn K d a=b8) (S:eB N ps scope)
    (h:∀vs H Q E,sp vs H Q E->vs.length=ps.length)
    (O:∀(A:N7) (outer:List Env) (s:eH) (H:Hp) (vs:List V) (Q:VK) (E:XK),fJ k (A.deeper (VI a scope s.heap.objs.size f d))->sp vs H Q E ->
      ∃t,Lu (qi CX P w K mg base N a scope f d A outer s H E) body t/\t {nx:=λ_ H'=>Q .Kb H',rt:=Q} (start N vs) H) :
    jm P w K mg base CX (k+1) f (PySem.W.fnOf name a c body scope p kV g z G d ct) ps sp:=by
  show⟨h,λA outer s H args us vs Q E m i T r B=>?_⟩;have hl:=h _ _ _ _ B;have C:K.In s.heap:=i.mod.Qg.keeps λb o e=>(i.bs b o e).1;have lim:s.heap.NoLimit:=i.mod.nolimit.keeps λb o e=>(i.bs b o e).1;have Y:∀y∈ps.zip us,scope.names.lookup y.1=a5 .local\/(scope.names.lookup y.1=a5 .cell/\((ŗ (s.heap.objs.size+1) scope.names []).lookup y.1).isSome=b8):=λ⟨n,v⟩ hy=>by
    rcases S.par n (R0 hy).1 with q|q
    . show .inl q
    . show .inr ⟨q,PySem.W.cellsFrom_some _ _ _ (.inl q)⟩
  show codeAny_call_function m.depth (C _ _ lk) rfl S.co S.gen rfl (PySem.W.codeRec_of C L) (T _ _ _ _ ?_);show wpAny_newFunctionEnv_cells S.kind Y λenv he s1 x=>?_;subst he;show⟨lim.keeps x.toInCall.keep,codeAny_func ?_⟩;have⟨t,ht,hq⟩:=O A outer s H vs Q E (m.deeper _) B;have I:Inv (qi CX P w K mg base N a scope f d A outer s H E) [] (start N vs) H s1:=wQ S m.hd i hl r x;show qb (ht [] s1 (start N vs) H _ I hq) (λfl s' hs=>?_) λe s' hs=>hs;have j:∀{l:St} {H':Hp} {v:V} {u:dV},Inv (qi CX P w K mg base N a scope f d A outer s H E) [] l H' s'->RelV v u->Q v H'->CE outer P w H s Q u s' :=
    λ{l H' v u} J rv q=>⟨v,H',J.os,J.bare,J.base,J.J_,rv,q⟩
  cases fl with
  | ret u =>
    have⟨v,l,H',J,rv,q⟩:=hs;show j J rv q
  | next =>
    have⟨l,H',J,q⟩:=hs;show j (v:=V.Kb) (u:=mA) J rfl q
  | brk =>
    obtain⟨_,_,_,q⟩:=hs;show Nv q
  | cont =>
    obtain⟨_,_,_,q⟩:=hs;show Nv q
section
end
end L2
namespace HT
open PySem PyProof.Rows
section
open PySem.SeqAt
open PySem.AutoSeq1 (wpAny_loadPart')
open PySem.MeetsSeq PySem.MeetsSeq2 PySem.MeetsSeq3
end
section
def BR(o:Ż s.heap t vs.toArray)(p:Ż s.heap b ws.toArray)(f:vs≠[])
  (q:ws=[]->Q (.ref t) s) (r:ws≠[]->Q (.ref s.heap.objs.size) {s with heap:=s.heap.push {cls:=.type "tuple",data:=.seq (vs++ws).toArray}})
  (hsz:vs.length+ws.length<=cK):d4 (fS prog w) A (Po .Add (.ref t) (.ref b)) Q E s:=by
 obtain⟨⟨cls,dd,data,g⟩,ho,h,n,i⟩:=id o;obtain⟨⟨u,j,data2,k⟩,c,l,m,a⟩:=id p;simp only at h i l a;subst h i l a;have e:vs.toArray++ws.toArray=(vs++ws).toArray:=by simp
 by_cases d:ws=[]
 .show XW ⟨_,ho,rfl⟩ ⟨_,c,rfl⟩ YQ Ü PySem.F.slot_tuple_add PySem.F.entry_tuple_add (PySem.F.args_tuple_add_2 _ _)
   (tuple_addW1 t b vs.toArray ws.toArray n m dd j g k (by simpa using f) (by simp[d])) ⟨ho,c,q d⟩
 .show XW ⟨_,ho,rfl⟩ ⟨_,c,rfl⟩ YQ Ü PySem.F.slot_tuple_add PySem.F.entry_tuple_add (PySem.F.args_tuple_add_2 _ _)
   (tuple_addW2 t b vs.toArray ws.toArray n m dd j g k (by simpa using f) (by simpa using d) (by rw[hQ,hQ];show hsz)) ⟨ho,c,?_⟩
  rw[e];show r d
abbrev LN(n d:Nat):Option Int->Nat
 |none=>d
 |some v=>if v<0 then(v+(n:Int)).toNat else min v.toNat n
def uK(n d k:Nat):LN n d (a5 (k:Int))=min k n:=by
 change(if (k:Int)<0 then((k:Int)+(n:Int)).toNat else min (k:Int).toNat n)=min k n;rw[ž ⋯,OO]
end
end HT
namespace L2
open PySem PySem.Spec PyProof.Rows
@[reducible]def TO:=St->Hp->(Option Int->Hp->Prop)->Prop
abbrev PO(X:Cx)(e:Option mx)(t:TO):Prop :=
 ∀(a:List (ez×Obj)) (s:eH) (σ:St) (H:Hp) (Q:Option Int->Hp->Prop),Inv X a σ H s->t σ H Q ->
  d4 (fS X.prog X.w) X.A (evalPart e X.env) (λu s'=>∃o H',Inv X a σ H' s'/\IsPart u o/\Q o H') X.xe s
abbrev BS:TO:=λ_ H Q=>Q b6 H
abbrev HB(t:TE):TO:=λσ H Q=>t σ H λx a=>∃i,x=.int i/\Q (a5 i) a
section
variable{X:Cx}{e:mx}{te:TE}{lo hi:Option mx}{tl th:TO}{pos p2:Pos}
def BU:PO X b6 BS:=by
 intro a s σ H Q I h;rw[evalPart_none];show df ⟨b6,H,I,.none,h⟩
def BV(h:PE X e te):PO X (a5 e) (HB te):=by
 intro a s σ H Q I b;rw[evalPart_some];show Kc (h a s σ H _ I b) λu s1 c=>?_;have⟨x,d,f,g,j⟩:=c;have⟨i,rfl,q⟩:=j;have⟨t,rfl⟩:=g;show⟨a5 i,d,f,.int i t,q⟩
abbrev OX(X:Cx)(r:V->Option Int->Option Int->Hp->VK->Prop):Prop :=
 ∀(a:List (ez×Obj)) (s:eH) (σ:St) (H:Hp) (x:V) (v b c:dV) (lo hi:Option Int) (d:ez) (Q:VK),Inv X a σ H s->RelV x v->s.heap.IsSliceOf d b c .none->IsPart b lo->IsPart c hi->r x lo hi H Q ->
  ∃T id,QW (.type T) "__getitem__"=pure (a5 (.builtin id))/\s.TypeIs v T/\d4 (fS X.prog X.w) X.A (XS v (.ref d)) (EP X a σ Q) X.xe s
def OX.or(h:OX X r)(h':OX X i):OX X (λx lo hi H Q=>r x lo hi H Q\/i x lo hi H Q):=by
 intro a s σ H x v b c lo hi d Q I f hs pl g q;rcases q with q|q
 .show h a s σ H x v b c lo hi d Q I f hs pl g q
 .show h' a s σ H x v b c lo hi d Q I f hs pl g q
abbrev X4(r:V->Option Int->Option Int->Hp->VK->Prop)(te:TE)(tl th:TO):TE:=λσ H Q=>te σ H λx a=>tl σ a λl b=>th σ b λu c=>r x l u c Q
def yw(g:OX X r)(i:PE X e te)(hl:PO X lo tl)(j:PO X hi th):PE X (.Subscript e (.Slice lo hi b6 p2) pos) (X4 r te tl th):=by
 intro a s σ H Q I h;show ĵ (Kc (i a s σ H _ I h) λv s1 k=>?_);have⟨x,m,n,o,p⟩:=k;show wpAny_Slice (Kc (hl a s1 σ m _ n p) λc s2 ⟨l,t,y,pl,z⟩=>Kc (j a s2 σ t _ y z) λd s3 B=>?_);have⟨u,f,C,D,G⟩:=B;rw[evalPart_none];show df ?_;have J:Inv X a σ f {s3 with heap:=s3.heap.push {cls:=.type "slice",data:=.fields #[c,d,.none]}}:=C.kept (t':=s3.toks) λb Y q=>cL _ q;have⟨T,id,L,N,O⟩:=g a {s3 with heap:=s3.heap.push {cls:=.type "slice",data:=.fields #[c,d,.none]}} σ f x v c d l u s3.heap.objs.size Q J o (Ŋ ..) pl D G;change d4 (fS X.prog X.w) X.A (WY e (.Slice lo hi b6 p2) v (.ref s3.heap.objs.size)) (EP X a σ Q) X.xe {s3 with heap:=s3.heap.push {cls:=.type "slice",data:=.fields #[c,d,.none]}};show ŷ (ops:=[.ref s3.heap.objs.size,v]) N L O (by with_unfolding_all rfl)
abbrev wR(xs:List V)(lo hi:Option Int):List V:=(xs.drop (HT.LN xs.length 0 lo)).take (HT.LN xs.length xs.length hi - HT.LN xs.length 0 lo)
def qk(xs:List V)(lo hi:Option Int):(wR xs lo hi).length<=xs.length:=by
 unfold wR;rw[tv,W0];lia
abbrev HC(K:PySem.W.Frag):R2:=λx y H Q=>∃a b xs c,x=.ref a/\y=.ref b/\KN K H a xs/\KN K H b c/\xs≠[]/\xs.length+c.length<=cK /\
 (c=[]->Q (.ref a) H)/\(c≠[]->∀p,H p=b6->Q (.ref p) (upd H p (.tup (xs++c))))
def Vals.oJ(r:Vals xs us):us=[]↔xs=[]:=by
 cases r with
 |_=>simp
def BW:Ma X (Po .Add) (HC X.K):=by
 intro f s σ H x y v u Q I g i h;have⟨a,b,xs,j,rfl,rfl,k,l,m,hz,n,p⟩:=h;cases g;cases i;obtain⟨its,d,r,_⟩:=I.tuple k;obtain⟨t,c,p2,_⟩:=I.tuple l;show HT.BR r p2 (λz=>m (d.oJ.mp z)) (λz=>⟨.ref a,H,I,rfl,n (c.oJ.mp z)⟩) (λz=>?_) (by rw[<-d.length,<-c.length];show hz);show⟨.ref s.heap.objs.size,_,I.laid (t':=s.toks) (o:=.tup (xs++j)) (λb A q=>cL _ q) (i0 _) ?_,rfl,p (λw=>z (c.oJ.mpr w)) _ (I.J_.fresh (i0 _))⟩;show⟨by rw[hH];show hz,_,d.append c,û _ _⟩
end
abbrev ND(n:Nat)(i:Int):Option Nat:=if 0<=i then(if i<n then a5 i.toNat else b6) else if -(n:Int)<=i then a5 (i+n).toNat else b6
abbrev K8{α:Type}(xs:List α)(i:Int):Option α:=(ND xs.length i).bind λj=>xs[j]?
def uL{n:Nat}(h:ND n i=a5 j):YO i n=a5 j/\j<n/\-(n:Int)<=i/\i<n:=by
 unfold ND at h;by_cases b:0<=i
 .rw[Ž b]at h;by_cases a:i<n
  .rw[Ž a]at h;have e:i.toNat=j:=td h;show⟨by rw[Č b a,e],⋯,⋯,a⟩
  .rw[ž a]at h;cases h
 .rw[ž b]at h;by_cases a:-(n:Int)<=i
  .rw[Ž a]at h;have e:(i+n).toNat=j:=td h;show⟨by rw[seqIndex_neg ⋯ a,e],⋯,a,⋯⟩
  .rw[ž a]at h;cases h
def oK(h:K8 xs i=a5 v):∃j,YO i xs.length=a5 j/\xs[j]?=a5 v/\j<xs.length/\-(xs.length:Int)<=i/\i<xs.length:=by
 unfold K8 at h;cases e:ND xs.length i with
 |none=>rw[e]at h;cases h
 |some j =>
  rw[e]at h;have⟨a,b,c,d⟩:=uL e;show⟨j,a,h,b,c,d⟩
def iH{j:Nat}(h:xs[j]?=a5 v):K8 xs (j:Int)=a5 v:=by
 have a:j<xs.length:=(dt.mp h).1;have e:ND xs.length (j:Int)=a5 j:=by
  unfold ND;rw[Ž ⋯,Ž ⋯];simp
 unfold K8;rw[e];show h
abbrev oM(b:mx):Prop:=∀o i,Y_ b cc o i=operate [o,i] (XS o i)
abbrev Ub(X:Cx)(r:R2):Prop :=
 ∀(c a:mx) (b:List (ez×Obj)) (s:eH) (σ:St) (H:Hp) (x y:V) (v u:dV) (Q:VK),Inv X b σ H s->RelV x v->RelV y u->r x y H Q ->
  Y_ a cc v u=operate [v,u] (XS v u)->d4 (fS X.prog X.w) X.A (WY c a v u) (EP X b σ Q) X.xe s
abbrev Uc(X:Cx)(id:String)(r:V->List V->Hp->VK->Prop):Prop :=
 ∀(a:List (ez×Obj)) (s:eH) (σ:St) (H:Hp) (x:V) (xs:List V) (v:dV) (us:List dV) (Q:VK),Inv X a σ H s->RelV x v->Vals xs us->r x xs H Q ->
  d4 (fS X.prog X.w) X.A (Oz (.builtin id) (v::us)) (EP X a σ Q) X.xe s
section
abbrev JH(K:PySem.W.Frag):R2:=λx y H Q=>∃p xs i v,x=.ref p/\y=.int i/\Kz K H p xs/\K8 xs i=a5 v/\Q v H
abbrev JI(K:PySem.W.Frag):R2:=λx y H Q=>∃p xs i v,x=.ref p/\y=.int i/\KN K H p xs/\K8 xs i=a5 v/\Q v H
abbrev JJ:R2:=λx y H Q=>∃z i c,x=.str z/\y=.int i/\z.length<=cK/\K8 z.cps.toList i=a5 c/\Q (.str ⟨#[c]⟩) H
def BX:Ub X (JH X.K):=by
 intro d f a s σ H x y v u Q I m n h hs;have⟨p,xs,i,z,rfl,rfl,A,B,q⟩:=h;cases m;have⟨t,rfl⟩:=n;have⟨its,r,pl,hz⟩:=I.list A;have⟨j,c,C,L,D,G⟩:=oK B;have⟨w,k,J⟩:=r.get C;have hl:=r.length;have N:=fO;have b:EP X a σ Q w s:=⟨z,H,I,J,q⟩
 by_cases l:0<=i
 .have g:i.toNat=j:=by
   rw[Č l G]at c;show td c
  show item_listR pl.isList l ⋯ (by rw[g];simpa using k) b hs
 .have g:(i+(its.toArray.size:Int)).toNat=j:=by
   rw[seqIndex_neg ⋯ D]at c;rw[hQ,<-hl];show td c
  show õ (x:=w) pl.isList.typeIs Ł.lookup
   (wpAny_getItem_list_neg (Q:=λr s'=>r=w/\EP X a σ Q r s') pl.isList ⋯ (by rw[hQ]<;>lia) ⋯ (by rw[g];simpa using k) ⟨rfl,b⟩) hs
def oN:Ub X (JI X.K):=by
 intro b c a s σ H x y v u Q I f g h hs;have⟨p,xs,i,z,rfl,rfl,k,l,q⟩:=h;cases f;have⟨t,rfl⟩:=g;have⟨its,r,pl,hz⟩:=I.tuple k;have⟨j,m,n,C,D,G⟩:=oK l;have⟨w,A,B⟩:=r.get n;have hl:=r.length;have J:=fO;have d:EP X a σ Q w s:=⟨z,H,I,B,q⟩
 show õ (x:=w) pl.typeIs slot_tuple_getitem.lookup
  (getItem_tuple (j:=j) (Q:=λr s'=>r=w/\EP X a σ Q r s') pl ⋯ ⋯ (by rw[hQ,<-hl];show m) (by simpa using A) ⟨rfl,d⟩) hs
def jn:Ub X JJ:=by
 intro a b d s σ H x y v u Q I g k h hs;have⟨z,i,c,rfl,rfl,hz,l,q⟩:=h;have⟨t,rfl⟩:=g;have⟨t',rfl⟩:=k;have⟨j,f,m,B,n,p⟩:=oK l;have hl:z.cps.toList.length=z.length:=by simp[Ŷ]
 rw[hl]at f n p;have C:=fO;show ŷ (Ĭ s z t) Ś.lookup (getItem_str (c:=c) (by
  have w:c4 (i < -(2 ^ 63:Int))=cc:=ſ ⋯;have A:c4 (i >= 2 ^ 63)=cc:=ſ ⋯;rw[w,A,Pu]) (by rw[f];simpa using m) ⟨.str ⟨#[c]⟩,H,I.tok _,⟨_,rfl⟩,q⟩) hs
def sf(its:List dV)(n j:Nat)(u:dV):qd (·.setIfInBounds j u) {cls:=.type "list",data:=.seq its.toArray n}={cls:=.type "list",data:=.seq (its.set j u).toArray n}:=by
 simp[qd]
def Inv.lst(I:Inv X a σ H s)(h:H p=a5 (.lst xs)):
  ∃(its:List dV) (n:Nat),Vals xs its/\s.heap.get? p=a5 {cls:=.type "list",data:=.seq its.toArray n}/\xs.length<=cK:=by
 have⟨z,its,n,r,e⟩:=I.J_ p _ h;show⟨its,n,r,e,z⟩
def Inv.E7{its its':List dV}(I:Inv X a σ H s)(h:H p=a5 (.lst xs))
  (ho:s.heap.get? p=a5 {cls:=.type "list",data:=.seq its.toArray n}) (c:f {cls:=.type "list",data:=.seq its.toArray n}={cls:=.type "list",data:=.seq its'.toArray d }) (r:Vals g its') (hz:g.length<=cK) (t:Nat) :
  Inv X a σ (upd H p (.lst g)) {s with heap:=s.heap.update p f,toks:=t}:=by
 have e:(s.heap.update p f).get? p=a5 {cls:=.type "list",data:=.seq its'.toArray d }:=by
  rw[tj f ho (by rw[c]<;>rfl),c]
 show I.write (x:=p) (e:=p) (by rw[h];trivial) (.inl rfl) (λb u i q=>(NB _ _ (qP i)).trans q) ⟨_,e⟩ ?_;show⟨hz,its',d,r,e⟩
abbrev HD:V->V->V->Hp->(Hp->Prop)->Prop:=λo i v H Q=>∃p xs k j,o=.ref p/\i=.int k/\H p=a5 (.lst xs)/\ND xs.length k=a5 j/\Q (upd H p (.lst (xs.set j v)))
def set_list:oG X HD:=by
 intro a s σ H o i v y z u Q I m w rv h;have⟨p,xs,k,j,rfl,rfl,c,x,q⟩:=h;cases m;have⟨t,rfl⟩:=w;have⟨its,n,r,ho,hz⟩:=I.lst c;have⟨b,A,d,f⟩:=uL x;have hl:=r.length;have B:=fO;have g:Inv X a σ (upd H p (.lst (xs.set j v))) {s with heap:=s.heap.update p (qd (·.setIfInBounds j u))} :=
  I.E7 c ho (sf its n j u) (r.set rv j) (by rw[ě];show hz) s.toks
 by_cases l:0<=k
 .have hk:k.toNat=j:=by
   rw[Č l f]at b;show td b
  show PySem.W.ki_setAt ho l ⋯ (by rw[hQ,<-hl];show f) (by rw[hk];show⟨_,g,q⟩)
 .have hk:(k+(its.toArray.size:Int)).toNat=j:=by
   rw[seqIndex_neg ⋯ d]at b;rw[hQ,<-hl];show td b
  show PySem.W.ki_setBack ho ⋯ (by rw[hQ,<-hl];show d) ⋯ (by rw[hk];show⟨_,g,q⟩)
def oO(lo a:Option Int)(n:Nat):(Sw lo a b6 n).1=((HT.LN n 0 lo:Nat):Int)/\(Sw lo a b6 n).2.1=((HT.LN n n a:Nat):Int)/\(Sw lo a b6 n).2.2=1:=by
 show⟨?_,?_,rfl⟩
 .cases lo with
  |none=>simp[Sw,HT.LN]
  |some i =>
   simp only[Sw,HT.LN,ç,show(1:Int)>0 by decide,if_true];by_cases h:i<0
   .simp only[h,if_true]<;>lia
   .simp only[h,if_false]<;>lia
 .cases a with
  |none=>simp[Sw,HT.LN]
  |some i =>
   simp only[Sw,HT.LN,ç,show(1:Int)>0 by decide,if_true];by_cases h:i<0
   .simp only[h,if_true]<;>lia
   .simp only[h,if_false]<;>lia
def mK(its:List dV)(lo a:Option Int):slicePick its.toArray lo a b6=((its.drop (HT.LN its.length 0 lo)).take (HT.LN its.length its.length a - HT.LN its.length 0 lo)).toArray:=by
 have⟨b,c,d⟩:=oO lo a its.toArray.size;unfold slicePick;rw[b,c,d];simp only[sliceRange_one,pick_run,hQ]<;>rfl
abbrev HE(K:PySem.W.Frag):V->Option Int->Option Int->Hp->VK->Prop:=λx lo b H Q=>∃a xs,x=.ref a/\Kz K H a xs/\∀p,H p=b6->Q (.ref p) (upd H p (.lst (wR xs lo b)))
def BY:OX X (HE X.K):=by
 intro f s σ H x v l m lo d n Q I i hs pl j h;have⟨a,xs,rfl,k,q⟩:=h;cases i;have⟨its,r,g,hz⟩:=I.list k;have c:=r.length;show⟨"list",_,Ł.lookup,g.isList.typeIs,?_⟩;show wpAny_getItem_list_slice g.isList hs pl j .none (by simp) ?_ (by rw[hQ]<;>lia);rw[mK,<-c];show⟨.ref s.heap.objs.size,_,I.laid (t':=s.toks) (o:=.lst (wR xs lo d)) (λb p q=>cL _ q) (i0 _) ?_,rfl,q _ (I.J_.fresh (i0 _))⟩;show⟨C0 (qk xs lo d) hz,_,0,(r.drop (HT.LN xs.length 0 lo)).take (HT.LN xs.length xs.length d - HT.LN xs.length 0 lo),fx _ rfl⟩
def iI:iG X (.builtin "len") (λxs H Q=>∃p b,xs=[.ref p]/\(Kz X.K H p b\/KN X.K H p b)/\Q (.int b.length) H):=by
 intro d s σ H xs us Q I r h;have⟨p,b,rfl,hq,q⟩:=h;have⟨u,rfl,f⟩:=vals1 r;cases f;have g:=fO;rcases hq with hq|hq
 .have⟨its,c,pl,hz⟩:=I.list hq;have a:=c.length;show Calls.call_len_list pl.isList (by simp only[hQ]<;>lia) ⟨.int b.length,H,I.tok _,⟨s.toks+1,by rw[hQ,a]⟩,q⟩
 .have⟨its,c,pl,hz⟩:=I.tuple hq;have a:=c.length;show len_tuple pl (by simp only[hQ]<;>lia) ⟨.int b.length,H,I.tok _,⟨s.toks+1,by rw[hQ,a]⟩,q⟩
def oP:iG X (.builtin "len") (λxs H Q=>∃z,xs=[.str z]/\z.length<=cK/\Q (.int z.length) H):=by
 intro a s σ H xs us Q I r h;have⟨z,rfl,hz,q⟩:=h;have⟨u,rfl,t,rfl⟩:=vals1 r;have b:=fO;show len_str ⋯ ⟨.int z.length,H,I.tok _,⟨_,rfl⟩,q⟩
def gO:iG X (.type "tuple") (λxs H Q=>∃p c,xs=[.ref p]/\((Kz X.K H p c/\∀l,H l=b6->Q (.ref l) (upd H l (.tup c)))\/(KN X.K H p c/\Q (.ref p) H))):=by
 intro a s σ H xs us Q I r h;have⟨p,c,rfl,h⟩:=h;have⟨u,rfl,j⟩:=vals1 r;cases j;rcases h with⟨d,q⟩|⟨d,q⟩
 .have⟨its,f,pl,hz⟩:=I.list d;have g:=f.length;show call_tuple_list pl.isList (λh' k=>?_) (by simp only[hQ]<;>lia);have i:Inv X a σ H {s with heap:=h' }:=I.kept (t':=s.toks) k;have m:Inv X a σ (upd H h'.objs.size (.tup c)) {s with heap:=h'.push {cls:=.type "tuple",data:=.seq its.toArray}} :=
   i.laid (t':=s.toks) (λb o e=>cL _ e) (i0 _) (show bE X.prog X.w _ _ _ (.tup c) from⟨hz,its,f,û _ _⟩)
  show⟨.ref h'.objs.size,_,m,rfl,q _ (i.J_.fresh (i0 _))⟩
 .have⟨its,f,pl,hz⟩:=I.tuple d;show call_tuple_same pl ⟨.ref p,H,I,rfl,q⟩
abbrev Sv(K:PySem.W.Frag)(T:String)(x:V)(H:Hp):Prop:=match x with
 |.str _=>T="str"
 |.int _=>T="int"
 |.ref p=>(T="list"/\∃xs,Kz K H p xs)\/(T="tuple"/\∃o,K.lookup p=a5 o/\o.cls=.type "tuple"/\o.dict=b6) \/
   (T="dict"/\((∃kvs,H p=a5 (.dK kvs))\/∃kvs,H p=a5 (.dT kvs)))\/(T="set"/\∃S n,H p=a5 (.set S n))
 |_=>False
def oQ(I:Inv X f σ H s)(r:RelV x v)(ty:Sv X.K T x H):
  s.TypeIs v T/\∀a,v=.ref a->∃g,s.heap.get? a=a5 g/\g.dict=b6:=by
 cases x with
 |str z =>
  have⟨t,rfl⟩:=r;cases(show T="str" from ty);show⟨Ĭ s z t,λ_ e=>nomatch e⟩
 |int i =>
  have⟨t,rfl⟩:=r;cases(show T="int" from ty);show⟨typeIs_int s i t,λ_ e=>nomatch e⟩
 |ref p =>
  cases r;rcases ty with⟨rfl,xs,h⟩|⟨rfl,o,hk,j,b⟩|⟨rfl,hk⟩|⟨rfl,S,n,hk⟩
  .obtain⟨its,_,pl,_⟩:=I.list h;show⟨pl.isList.typeIs,λa e=>?_⟩;cases e;obtain⟨o,n,e,c,b,_⟩:=pl;show⟨o,e,b⟩
  .show⟨⟨o,I.Nz p o hk,j⟩,λa e=>?_⟩;cases e;show⟨o,I.Nz _ o hk,b⟩
  .have z:∃o,s.heap.get? p=a5 o/\o.ExactDict:=by
    rcases hk with⟨kvs,hk⟩|⟨kvs,hk⟩
    .obtain⟨_,_,_,_,o,_,_,e,ex,_⟩:=I.J_ p _ hk;show⟨o,e,ex⟩
    .obtain⟨_,_,_,_,o,_,_,e,ex,_⟩:=I.J_ p _ hk;show⟨o,e,ex⟩
   have⟨o,e,ex⟩:=z;show⟨⟨o,e,ex.1⟩,λa d=>?_⟩;cases d;show⟨o,e,ex.2.1⟩
  .obtain⟨o,_,_,_,e,ex,_⟩:=I.J_ p _ hk;show⟨⟨o,e,ex.1⟩,λa d=>?_⟩;cases d;show⟨o,e,ex.2.1⟩
 |_=>show Nv ty
abbrev JK(K:PySem.W.Frag)(T:String)(r:V->List V->Hp->VK->Prop)(to:TE):TE:=λσ H Q=>to σ H λx a=>Sv K T x a/\r x [] a Q
abbrev X5(K:PySem.W.Frag)(T:String)(r:V->List V->Hp->VK->Prop)(to:TE)(t:TA):TE:=λσ H Q=>to σ H λx a=>Sv K T x a/\t σ a λxs b=>r x xs b Q
variable{o e:mx}{es:List mx}{to:TE}{t:TA}{name:Str}{apos G':Pos}{T id:String}{r:V->List V->Hp->VK->Prop}
def E8(d:PlainAttrs T)(slot:Slot T name id)(f:ī (.builtin id)=pure (.type "method_descriptor"))(g:Uc X id r)(ho:PE X o to)
  (i:Qd o name X.env (t6 o X.env)=t6 o X.env:=by rfl) (j:(apos.endLine==G'.line)=b8:=by rfl):PE X (.Call (.Attribute o name apos) [] [] G') (JK X.K T r to):=by
 intro a s σ H Q I h;show U9 i j (Kc (ho a s σ H _ I h) λv s1 k=>?_);have⟨x,l,b,c,ty,m⟩:=k;have⟨n,p⟩:=oQ b c ty;show⟨T,id,d,slot,f,n,p,y4 rfl (PySem.evalArgs_none (g a s1 σ l x [] v [] Q b c .nil m))⟩
def m9(f:PlainAttrs T)(slot:Slot T name id)(g:ī (.builtin id)=pure (.type "method_descriptor"))(i:Uc X id r)(ho:PE X o to)(j:PA X (e::es) t)
  (k:Qd o name X.env (t6 o X.env)=t6 o X.env:=by rfl)
  (l:((zy G' (i2 (e::es) X.env)).all (λx=>!x.1)&&(RC G' (ML [] X.env)).all (λx=>x.1.isSome)
   && c4 ((e::es).length+([]:List O3).length+(if ([]:List O3).isEmpty then 0 else 1)<30))=b8:=by rfl)
  (m:(apos.endLine==G'.line)=b8:=by rfl) (hs:i2 (e::es) X.env=(cc,t6 e X.env)::i2 es X.env:=by rfl) (n:(zy G' (i2 es X.env)).any (·.1)=cc:=by rfl) :
  PE X (.Call (.Attribute o name apos) (e::es) [] G') (X5 X.K T r to t):=by
 intro a s σ H Q I h;show ê k l m rfl (Kc (ho a s σ H _ I h) λv s1 p=>?_);have⟨x,q,b,c,ty,u⟩:=p;have⟨w,y⟩:=oQ b c ty;show⟨T,id,f,slot,g,w,y,?_⟩;have d:=j G' a s1 σ q _ b u;rw[hs]at d ⊢;show y4 (by change(cc||(zy G' (i2 es X.env)).any (·.1))=cc;rw[n]<;>rfl) (Mm ?_);show Kc d λus s2 ⟨vs,z,A,B,C⟩=>i a s2 σ z x vs v us Q A c B C
end
abbrev Qn(X:Cx)(id:String)(r:V->List V->Hp->VK->Prop):Prop :=
 ∀(a:List (ez×Obj)) (s:eH) (σ:St) (H:Hp) (x:V) (xs:List V) (v:dV) (us:List dV) (Q:VK),Inv X a σ H s->RelV x v->Vals xs us->r x xs H Q ->
  d4 (fS X.prog X.w) X.A (Oz (.builtin id) (v::us)) (EP X a σ Q) X.xe s
theorem Vals.one:∀{x:V}{us:List dV},Vals [x] us->∃u,us=[u]/\RelV x u
 |_,_,.cons r .nil=>⟨_,rfl,r⟩
theorem Vals.zero:∀{us:List dV},Vals [] us->us=[]
 |_,.nil=>rfl
def Vals.dropLast(h:Vals xs us):Vals xs.dropLast us.dropLast:=by
 induction h with
 |nil=>show .nil
 |cons r t a =>
  cases t with
  |nil=>show .nil
  |cons q t'=>show .cons r a
theorem Vals.eraseIdx:∀{xs:List V}{us:List dV} (i:Nat),Vals xs us->Vals (xs.eraseIdx i) (us.eraseIdx i)
 |_,_,_,.nil=>.nil
 |_,_,0,.cons _ t=>t
 |_,_,i+1,.cons r t=>.cons r (Vals.eraseIdx i t)
def Vals.reverse(h:Vals xs us):Vals xs.reverse us.reverse:=by
 induction h with
 |nil=>show .nil
 |cons r t a=>rw[T8,T8];show Vals.append a (.cons r .nil)
def sg(l:List α):l.eraseIdx (l.length - 1)=l.dropLast:=by
 induction l with
 |nil=>rfl
 |cons a r c =>
  cases r with
  |nil=>rfl
  |cons b r =>
   have e:(a::b::r).length - 1=((b::r).length - 1)+1:=by
    have d:(a::b::r).length=r.length+2:=rfl;have f:(b::r).length=r.length+1:=rfl;lia
   rw[e,UC,c]
   all_goals rfl
theorem m_:∀(l:List α) (i:Nat),(l.eraseIdx i).length<=l.length
 |[],_=>i0 _
 |_::_,0=>Ls _
 |_::r,i+1=>Nat.succ_le_succ (m_ r i)
section
def Inv.mL{its its':List dV}(I:Inv X a σ H s)(c:H l=a5 (.lst xs))
  (e:s.heap.get? l=a5 {cls:=.type "list",data:=.seq its.toArray n}) (d:f its.toArray=its'.toArray) (g:Vals b its') (hz:b.length<=cK) :
  Inv X a σ (upd H l (.lst b)) {s with heap:=s.heap.update l (qd f),toks:=t' }:=by
 have q:=PySem.IsL.update e f;rw[d]at q;show I.write (x:=l) (e:=l) (by rw[c];show trivial) (.inl rfl) (λj u h i=>(NB s.heap (qd f) (qP h)).trans i) ⟨_,q⟩ ?_;show⟨hz,its',_,g,q⟩
def Inv.JL(I:Inv X a σ H s)(c:Vals b its)(hz:b.length<=cK):
  Inv X a σ (upd H s.heap.objs.size (.lst b)) {s with heap:=s.heap.push {cls:=.type "list",data:=.seq its.toArray},toks:=t' } :=
 I.laid (λ_ _ q=>cL _ q) (i0 _) ⟨hz,its,0,c,fx _ rfl⟩
def Inv.fresh(I:Inv X a σ H s):H s.heap.objs.size=b6:=I.J_.fresh (i0 _)
def Inv.wU(I:Inv X a σ H s)(b:H l=a5 (.lst xs)):xs.length<=cK/\∃(its:List dV) (n:Nat),Vals xs its/\xs.length=its.length/\s.heap.get? l=a5 {cls:=.type "list",data:=.seq its.toArray n}:=by
 have⟨z,its,n,r,e⟩:=I.J_ l _ b;show⟨z,its,n,r,r.length,e⟩
def yx(h:n<=cK):LS n=cc:=by
 unfold LS;show ſ ⋯
end
section
abbrev BZ:V->List V->Hp->VK->Prop:=λx vs H Q=>∃l xs y,x=.ref l/\vs=[y]/\H l=a5 (.lst xs)/\xs.length<cK/\Q .Kb (upd H l (.lst (xs++[y])))
def ng:Qn X "list.append" BZ:=by
 intro a s σ H x vs v us Q I c rv h;have⟨l,xs,y,rfl,rfl,b,hz,q⟩:=h;cases c;have⟨u,rfl,d⟩:=rv.one;have⟨z,its,n,r,hl,e⟩:=I.wU b;show R9 F.slot_list_append ⟨_,e,rfl⟩ F.entry_list_append (F.args_list_append_2 _ _) (PySem.list_append l its.toArray n u (by rw[hQ];lia)) ⟨e,?_⟩;show⟨.Kb,_,I.mL (its':=its++[u]) b e (by simp) (r.append (.cons d .nil)) ?_,rfl,q⟩;rw[hH,rz];lia
abbrev JM:V->List V->Hp->VK->Prop:=λx vs H Q=>∃l xs y,x=.ref l/\vs=[]/\H l=a5 (.lst xs)/\xs[xs.length - 1]?=a5 y/\Q y (upd H l (.lst xs.dropLast))
def E9:Qn X "list.pop" JM:=by
 intro a s σ H x vs v us Q I c rv h;have⟨l,xs,y,rfl,rfl,b,d,q⟩:=h;cases c;have f:=rv.zero;subst f;have⟨z,its,n,r,hl,e⟩:=I.wU b;have⟨u,g,i⟩:=r.get d;have j:its.toArray[its.toArray.size - 1]?=a5 u:=by
  change its.toArray[its.length - 1]?=a5 u;rw[<-qt,<-hl];show g
 show R9 ŋ ⟨_,e,rfl⟩ Ĵ (F.args_list_pop_1 _) (MeetsSeq.list_pop_last l its.toArray n u j (by rw[hQ];lia)) ⟨e,?_⟩;show⟨y,_,I.mL (its':=its.dropLast) b e ?_ r.dropLast ?_,i,q⟩
 .change its.toArray.eraseIdxIfInBounds (its.toArray.size - 1)=its.dropLast.toArray;rw[hQ,WU,sg]
 .rw[List.length_dropLast];lia
abbrev E_:V->List V->Hp->VK->Prop:=λx vs H Q=>∃l xs i k y,x=.ref l/\vs=[.int i]/\H l=a5 (.lst xs)/\-(2 ^ 63)<=i/\i<2 ^ 63/\YO i xs.length=a5 k/\xs[k]?=a5 y/\Q y (upd H l (.lst (xs.eraseIdx k)))
def yy:Qn X "list.pop" E_:=by
 intro a s σ H x vs v us Q I c rv h;have⟨l,xs,i,k,y,rfl,rfl,b,d,f,hk,g,q⟩:=h;cases c;have⟨u,rfl,j⟩:=rv.one;have⟨t,rfl⟩:=j;have⟨z,its,n,r,hl,e⟩:=I.wU b;have⟨w,m,o⟩:=r.get g;show R9 ŋ ⟨_,e,rfl⟩ Ĵ (F.args_list_pop_2 _ _)
  (MeetsSeq.list_pop_at l its.toArray n i t k w (fitsIndex_both d f) (by rw[hQ,<-hl];show hk) (by rw[<-qt];show m) (by rw[hQ];lia)) ⟨e,?_⟩
 show⟨y,_,I.mL (its':=its.eraseIdx k) b e ?_ (r.eraseIdx k) ?_,o,q⟩
 .change its.toArray.eraseIdxIfInBounds k=(its.eraseIdx k).toArray;rw[WU]
 .have:=m_ xs k;lia
end
section
set_option maxRecDepth 100000 in
end
section
end
end L2
namespace Wh
open PySem PySem.W PySem.Calls PyProof.Rows
def kg:∀(ns:List Int) (vs:List dV),WellAll P h vs (ns.map Š)->ü vs ns:=by
 intro ns;induction ns with
 |nil =>
  intro vs w;rw[H8]at w;cases w;show .nil
 |cons n ns c =>
  intro vs w;rw[d3]at w;cases w with
  |cons a b =>
   cases a;show .cons _ _ (c _ b)
def wV{l:OpenLaw}(i:l.most=a5 n)
  (f:l.row.toRowW.claim.pre args=b8) (j:WellAll P h vals args) :
  ∃a vs ns,vals=[hU a]/\args=[WData.list (ns.map Š)]/\h.get? a=a5 {cls:=.type "list",data:=.seq vs.toArray}/\ü vs ns/\ns.length<=n:=by
 have k:WShape.hasAll [] args [.list .int]=b8:=(pre_splitW f).1;have g:l.pre.holds [] {args:=args}=b8:=(pre_splitW f).2;have⟨d,r,rfl,m,o⟩:=hasAllW_cons k;obtain rfl:=hasAllW_nil o;have⟨xs,rfl,p⟩:=hasW_list m;have⟨ns,rfl⟩:=items_int p;have b:ns.length<=n:=by
  unfold OpenLaw.pre at g;have c:(WTm.not (.lt (.lit (.int (n:Int))) (.len (.arg 0)))).holds [] {args:=[.list (ns.map .int)]}=b8:=by
   have c:=(holds_andW g).1;rw[i]at c;show c
  have e:=condW_of c (w_not (w_lt w_lit (w_len_list (w_arg rfl))));rw[c2]at e;show Nat.le_of_not_lt λq=>?_;have s:(n:Int)<((ns.length:Nat):Int):=by lia
  first
   |(rw[Α s]at e;show absurd e (by decide))
   |(simp at e;lia)
 cases j with
 |cons t u =>
  cases u;cases t with
  |list ho v=>show⟨_,_,ns,rfl,rfl,ho,kg ns _ v,b⟩
def wW(l:OpenLaw)(args:List WData):l.row.toRowW.claim.post args (.bool b8) args=b8 :=
 postW_of (r:=l.row.toRowW) (X:=(b8==b8))
  (show ń [] (.bool b8) .bool=b8 by first|rfl|decide|simp[ń,WShape.arms,WShape.armsAll])
  (show(WTm.eq .res (.lit (.bool b8))).value [] {args:=args,res:=a5 (.bool b8),after:=args}=a5 (.bool (b8==b8)) from w_eq_bool (w_res rfl) w_lit) rfl
def ql{l:OpenLaw}
  (p:l.most=a5 n) (s:d.params.defaults=[])
  (Oz:∀(w:vl) (s₀ b:eH) (mg j:Str->Option dV) (fa:ez) (o:Obj) (k i c:dV) (a:ez) (vs:List dV) (ns:List Int),
   Ground q e [] t w s₀ mg j b.heap->u w b.heap ->
   b.heap.get? fa=a5 o->o.data=.func (docDef d.name d.params d.body d.scope k i c)->b.heap.CodeRec i d.name->mg d.name=a5 (.ref fa) ->
   b.heap.get? a=a5 {cls:=.type "list",data:=.seq vs.toArray}->ü vs ns->ns.length<=n->b.gens=#[] ->
   Qm (fS l.prog w) Vy (.call (.ref fa) ⟨[.ref a],[]⟩) (λr s'=>r=.ok (.ret (.bool b8))/\OldK b.heap s'.heap/\s'.os=b.os/\UX s'.gens) b) :
  WalkO q e t u l.row.toRowW d [] (λf vs=>PySem.call f vs):=by
 intro w s₀ b mg j G Y fa o k i c v kV ho x y m z A args vals as B Q T C D;obtain rfl:v=.none:=Dflts.none m s;obtain rfl:kV=.none:=Dflts.noKw m;have⟨a,vs,ns,rfl,rfl,H,g,h⟩:=wV p B C;show enter_call (TU (Oz w s₀ b mg j fa o k i c a vs ns G Y ho (fd_plain x) y z H g h A) λr s' I=>?_);have⟨rfl,J,L,N⟩:=I;show⟨.inl ⟨.bool b8,.bool b8,[],rfl,λ_=>rfl,.bool b8,wW l _,λ_=>⟨ŝ,λ_ O=>(nomatch O)⟩⟩,J,L,N⟩
section
end
end Wh
namespace L2
open PySem PySem.Spec PyProof.Rows
theorem nh:∀{vs:List dV}{ns:List Int},ü vs ns->Vals (ns.map V.int) vs
 |_,_,.nil=>.nil
 |_,_,.cons n t h=>.cons ⟨t,rfl⟩ (nh h)
abbrev Fb(H:Hp):Prop:=∀b,H b=b6\/∃o xs,H b=a5 (.Lc o (.lst xs))
def yz{K:PySem.W.Frag}
  (y:K.In c.heap) (A:c.heap.Ns ko mg) (f:c.heap.Ns İ B) (O:∀x:Str,x≠"__name__"->B x=u7 x) (Q:c.heap.NoLimit) (T:c.gens=#[])
  (l:c.heap.get? a=a5 {cls:=.type "list",data:=.seq vs.toArray}) (C:ü vs ns) (hl:ns.length<=cK) (Y:fJ k Vy)
  (F:∀base:DD,K.In base->base.Ns ko mg->jm P w K mg base CX k fa fd [x] sp) (Q6:∀(s:eH) (u:dV),ô s fd ⟨[u],[]⟩ [(x,u)])
  (LU:∀H:Hp,Fb H->Kz K H a (ns.map V.int)->sp [.ref a] H (λv _=>v=.bl b8) λ_ _ _=>False)
  (Ui:∀H e s',CX [] H c (λ_ _ _=>False) e s'->False) :
  Qm (fS P w) Vy (.call (.ref fa) ⟨[.ref a],[]⟩) (λr s'=>r=.ok (.ret (.bool b8))/\OldK c.heap s'.heap/\s'.os=c.os/\UX s'.gens) c:=by
 have rv:=nh C;have Uj:=C.length;have g:∀H:Hp,Fb H->Kz K H a (ns.map V.int)->Lh P w H c.heap->(∀b,H b≠b6->b=a)->(H a≠b6->K.lookup a=b6) ->
   Qm (fS P w) Vy (.call (.ref fa) ⟨[.ref a],[]⟩) (λr s'=>r=.ok (.ret (.bool b8))/\OldK c.heap s'.heap/\s'.os=c.os/\UX s'.gens) c:=by
  intro H D hS G I hK;have kJ:∀{b:ez} {o:Obj},c.heap.get? b=a5 o->H b=b6->(oF c.heap H).get? b=a5 o:=λe n=>yi e n;have Q0:∀{b:ez} {o:Obj} {es:Array DictEntry} {ep:Nat},c.heap.get? b=a5 o->o.data=.dict es ep->H b=b6:=λ{b o es ep} e d=>by
   cases q:H b with
   |none=>rfl
   |some u =>
    have t:b=a:=I b (by rw[q];simp);subst t;rw[l]at e;cases e;have d':Data.seq vs.toArray _=Data.dict es ep:=d;cases d'
  have p:∀{b:ez} {m:Str->Option dV},c.heap.Ns b m->(oF c.heap H).Ns b m:=λ{b m} ⟨o,es,ep,e,d,r⟩=>⟨o,es,ep,kJ e (Q0 e d),d,r⟩
  have J:K.In (oF c.heap H):=λb o e=>kJ (y b o e) (by
   cases q:H b with
   |none=>rfl
   |some u =>
    have t:b=a:=I b (by rw[q];simp);subst t;rw[hK (by rw[q];simp)]at e;cases e)
  have hM:Mod K mg (oF c.heap H):=⟨J,p A,⟨B,p f,O⟩,let ⟨mc,h1,h2⟩:=Q;⟨mc,p h1,h2⟩⟩
  have e0:BQ P w K mg (oF c.heap H) Vy [] c H:=⟨rfl,hM,λb o e=>BG e,Î (wK _ _),trivial,λb f=>absurd (show b∈([]:List ez) from f) (by simp),G,.of_eq T⟩
  show TU ((F _ J (p A)).run Vy [] c H ⟨[.ref a],[]⟩ [.ref a] [.ref a] _ _ Y e0 (Q6 c (.ref a)) (.cons rfl .nil) (LU H D hS)) λr s' h=>?_;cases r with
  |error e=>show(Ui H e s' h).elim
  |ok fl =>
   cases fl with
   |ret u =>
    have⟨v,H',os,i,L,Uk,r',q⟩:=h;have q':v=.bl b8:=q;subst q';obtain rfl:u=OS b8:=r';show⟨rfl,OldK.of_keep λb o e=>?_,os,i⟩;cases q:H b with
    |none=>show L.keep b o e q (by intro z;show absurd (show b∈([]:List ez) from z) (by simp)) (by simp)
    |some u =>
     rcases D b with z|⟨ob,xs,z⟩
     .rw[q]at z;cases z
     .have z2:=L.Le b ob _ z;obtain⟨N,_⟩:=G b _ z;obtain⟨e2,_⟩:=Uk b _ z2;rw[e]at N;cases N;show e2
   |_=>show Nv h
 cases hk:K.lookup a with
 |some o =>
  have e:=y a o hk;rw[l]at e;cases e;show g (λ_=>b6) (λ_=>.inl rfl) (.inr ⟨_,vs.toArray,_,hk,rfl,rfl,rfl,by rw[hQ,Uj];show hl,by simpa using rv⟩) (λb u z=>by have j:(b6:Option HO)=a5 u:=z;cases j) (λb z=>absurd rfl z) λz=>absurd rfl z
 |none =>
  show g (λb=>if b=a then a5 (.Lc {cls:=.type "list",data:=.seq vs.toArray} (.lst (ns.map V.int))) else b6) (λb=>?_) (.inl (.inr ⟨{cls:=.type "list",data:=.seq vs.toArray},Ž rfl⟩)) (λb u z=>?_) (λb z=>?_) λ_=>hk
  .by_cases f:b=a
   .show .inr ⟨_,_,Ž f⟩
   .show .inl (ž f)
  .by_cases f:b=a
   .have j:=(Ž f).symm.trans z;cases j;subst f;show⟨l,by rw[c2];show hl,vs,_,rv,l⟩
   .have j:=(ž f).symm.trans z;cases j
  .by_cases f:b=a
   .show f
   .show absurd (ž f) z
def B0{l:PySem.W.OpenLaw}{K:Wz->PySem.W.Frag}{CX:vl->Pk}{sp:vl->Sp}
  (r:l.most=a5 n) (t:n<=cK) (y:d.params.defaults=[]) (z:fJ k Vy)
  (A:∀(w:vl) (h:DD),B w h->(K w.params).In h)
  (F:∀(w:vl) (mg:Str->Option dV) (fa:ez) (h:DD),(K w.params).In h->h.Ns ko mg->mg d.name=a5 (.ref fa) ->
   ∃j:Uh,(∀(s:eH) (u:dV),ô s j ⟨[u],[]⟩ [(x,u)]) /\
    ∀base:DD,(K w.params).In base->base.Ns ko mg->jm l.prog w (K w.params) mg base (CX w) k fa j [x] (sp w))
  (C:∀(w:vl) (H:Hp) (a:ez) (ns:List Int),ns.length<=n->Fb H->Kz (K w.params) H a (ns.map V.int)->sp w [.ref a] H (λv _=>v=.bl b8) λ_ _ _=>False)
  (D:∀(w:vl) (H:Hp) (s:eH) (e:dV) (s':eH),CX w [] H s (λ_ _ _=>False) e s'->False) :
  PySem.W.WalkO q m XP B l.row.toRowW d [] (λf vs=>PySem.call f vs):=by
 show Wh.ql r y λw s₀ I mg mb fa o pm cd J a vs ns G Y ho hd KI L N i c O=>?_;have p:=A w _ Y;have⟨j,Q,hF⟩:=F w mg fa _ p G.T.g L;show yz p G.T.g G.T.b G.T.builtins G.T.nolimit O N i (C0 c t) z hF Q (λH hO hS=>C w H a ns c hO hS) λH e s'=>D w H I e s'
abbrev gr(s:Nd):Arguments:=match s with
 |.FunctionDef _ a _ _ _ _ _ _ _ _=>a
 |_=>{posonlyargs:=[],args:=[],vararg:=b6,kwonlyargs:=[],kw_defaults:=[],kwarg:=b6,defaults:=[]}
abbrev cU(s:Nd):List Nd:=match s with
 |.FunctionDef _ _ b _ _ _ _ _ _ _=>b
 |_=>[]
abbrev aS(s:Nd):M3:=match s with
 |.FunctionDef _ _ _ _ _ _ a _ _ _=>a
 |_=>{kind:=.function,names:=[],isGenerator:=cc,isCoroutine:=cc}
@[reducible]def Pt:Pk:=λ_ _ _ _ _ _=>False
@[reducible]def E0:XK:=λ_ _ _=>False
def HF:Passes Pt X E0:=λ_ _ _ _ _ _ _ h=>h.elim
structure OY(K:PySem.W.Frag)(x qual:Str)(st:Nd)(f:ez)(fd:Uh):Prop where
 ex:∃(oc:dV) (od:Option ez) (kV doc pm:dV) (an:Option ez) (Lv ct:dV) (Pn:Array (Option dV)),
  fd=PySem.W.fnOf x qual (gr st) (cU st) (aS st) .none kV doc pm an Lv ct/\K.lookup f=a5 ⟨oc,od,.func fd,Pn⟩/\PySem.W.codeIn K Lv qual=b8
 kp:PySem.W.keepIn K (.ref f)=b8
section
variable{P:t8}{w:vl}{K:PySem.W.Frag}{mg:Str->Option dV}{base:DD}
def OY.ok{st:Nd}(F:OY K x a st f d)(S:eB N ps (aS st))(c:∀vs H Q E,sp vs H Q E->vs.length=ps.length)
  (e:∀(b:dV) (A:N7) (outer:List Env) (s:eH) (H:Hp) (vs:List V) (Q:VK) (E:XK),fJ k (A.deeper (VI a (aS st) s.heap.objs.size f b))->sp vs H Q E ->
   ∃t,Lu (qi Pt P w K mg base N a (aS st) f b A outer s H E).MU (cU st) t/\t {nx:=λ_ H'=>Q .Kb H',rt:=Q} (start N vs) H):jm P w K mg base Pt (k+1) f d ps sp:=by
 have⟨m,n,kV,g,o,p,b,ct,r,rfl,lk,i⟩:=F.ex;show D5 lk i S c λA outer s H vs Q E j l=>?_;have⟨t,h,q⟩:=e b A outer s H vs Q E j l;show⟨t,h.MU,q⟩
def Fc{st:Nd}{kV b e d ct:dV}(l:K.lookup f=a5 ⟨h,i,.func (PySem.W.fnOf x a (gr st) (cU st) (aS st) .none kV b e g d ct),j⟩)
  (c:PySem.W.codeIn K d a=b8) (k:PySem.W.keepIn K (.ref f)=b8):OY K x a st f (PySem.W.fnOf x a (gr st) (cU st) (aS st) .none kV b e g d ct):=⟨⟨h,i,kV,b,e,g,d,ct,j,rfl,l,c⟩,k⟩
end
section
end
abbrev qm(H H':Hp):Prop:=∀b o,H b=a5 o->H' b=a5 o
section
variable{κ:Type}[DecidableEq κ]
abbrev dB(kvs:List (κ×V))(k:κ):Option V:=(kvs.find? λkv=>c4 (kv.1=k)).map (·.2)
abbrev putK(kvs:List (κ×V))(k:κ)(v:V):List (κ×V) :=
 if (kvs.any λkv=>c4 (kv.1=k))=b8 then kvs.map (λkv=>if kv.1=k then(kv.1,v) else kv) else kvs++[(k,v)]
def eO{p:κ×V}{k:κ}(e:p.1=k):dB (p::r) k=a5 p.2:=by simp[dB,N_,e]
def eQ{p:κ×V}{k:κ}(e:¬p.1=k):dB (p::r) k=dB r k:=by simp[dB,N_,e]
theorem iJ(k:κ):∀kvs:List (κ×V),(kvs.any λkv=>c4 (kv.1=k))=(dB kvs k).isSome
 |[]=>rfl
 |p::r=>by
  rw[V4];by_cases e:p.1=k
  .simp only[eO e,Α e,Bool.true_or,Option.isSome_some]
  .rw[eQ e,ſ e,Bool.false_or];show iJ k r
def jQ(kvs:List (κ×V))(k:κ)(v:V):(putK kvs k v).length<=kvs.length+1:=by
 unfold putK;split
 .rw[c2];lia
 .rw[hH,kj,Xl];lia
def yA{k:κ}(v:V)(h:dB kvs k=b6):putK kvs k v=kvs++[(k,v)]:=by
 unfold putK;rw[iJ,h];show ž (by decide)
def ka.eR(r:ka o u):o.isSome=u.isSome:=by
 cases o with
 |none=>cases u with
  |none=>rfl
  |some _=>show(show False from r).elim
 |some _=>cases u with
  |none=>show(show False from r).elim
  |some _=>rfl
def ka.getD(r:ka o u)(a:RelV d d'):RelV (o.getD d) (u.getD d'):=by
 cases o with
 |none=>cases u with
  |none=>show a
  |some _=>show(show False from r).elim
 |some _=>cases u with
  |none=>show(show False from r).elim
  |some _=>show r
def KV.val(r:KV kvs vs)(k:κ):ka (dB kvs k) (XE vs k):=by
 unfold KV at r;induction r with
 |nil=>show X'
 |@cons p q ps a h t f =>
  have⟨d,g⟩:=h;by_cases e:p.1=k
  .have c:q.1=k:=d.symm.trans e;have b:XE (q::a) k=a5 q.2:=by simp[XE,N_,c]
   rw[eO e,b];show g
  .have c:¬q.1=k:=λz=>e (d.trans z);have b:XE (q::a) k=XE a k:=by simp[XE,N_,c]
   rw[eQ e,b];show f
def KV.any(r:KV kvs vs)(k:κ):(kvs.any λkv=>c4 (kv.1=k))=vs.any λkv=>c4 (kv.1=k):=by
 unfold KV at r;induction r with
 |nil=>rfl
 |cons h t a=>rw[V4,V4,a,h.1]
def KV.Fd(r:KV kvs vs)(k:κ)(b:RelV y u):
  KV (kvs.map λkv=>if kv.1=k then(kv.1,y) else kv) (vs.map λkv=>if kv.1=k then(kv.1,u) else kv):=by
 unfold KV at r ⊢;induction r with
 |nil=>show .nil
 |@cons p q ps f h t c =>
  rw[d3,d3];show .cons ?_ c;have⟨a,d⟩:=h;by_cases e:p.1=k
  .rw[Ž e,Ž (a.symm.trans e)];show⟨a,b⟩
  .rw[ž e,ž (λz=>e (a.trans z))];show⟨a,d⟩
def KV.put(r:KV kvs vs)(k:κ)(a:RelV y u):KV (putK kvs k y) (ũ vs k u):=by
 unfold putK ũ;rw[r.any k];by_cases e:(vs.any λkv=>c4 (kv.1=k))=b8
 .rw[Ž e,Ž e];show r.Fd k a
 .rw[ž e,ž e];show Paired.snoc r ⟨rfl,a⟩
def KV.length(r:KV kvs vs):kvs.length=vs.length:=Paired.length r
end
def ni(r:RelV (kV k) u):(aI P w).is k u=b8:=by
 cases k with
 |inl i=>have⟨t,e⟩:=(show ∃t,u=WN i t from r);subst e;show qc P w i t
 |inr x=>have⟨t,e⟩:=(show ∃t,u=sL x t from r);subst e;show qe P w x t
theorem nj:∀{ks:List Key}{us:List dV},Vals (ks.map kV) us->ItemsAre (aI P w) ks us
 |[],_,r=>by rw[H8]at r;cases r;show .nil
 |k::ks,_,r=>by
  rw[d3]at r;cases r with
  |cons h t=>show .cons (ni h) (nj t)
@[reducible]def KT(H:Hp):List (List Key×V)->List (List Key×ez×dV)->Prop:=Paired λp q=>p.1=q.1/\H q.2.1=a5 (.tup (p.1.map kV))/\RelV p.2 q.2.2
def KT.val(r:KT H kvs xs)(k:List Key):ka (dB kvs k) ((Æ xs k).map (·.2)):=by
 induction r with
 |nil=>show X'
 |@cons p q ps a h t f =>
  obtain⟨d,_,g⟩:=h;by_cases e:p.1=k
  .have c:q.1=k:=d.symm.trans e;have b:Æ (q::a) k=a5 q.2:=by simp[Æ,N_,c]
   rw[eO e,b];show g
  .have c:¬q.1=k:=λz=>e (d.trans z);have b:Æ (q::a) k=Æ a k:=by simp[Æ,N_,c]
   rw[eQ e,b];show f
def KT.Fd(r:KT H kvs xs)(k:List Key)(c:RelV y u):
  KT H (kvs.map λkv=>if kv.1=k then(kv.1,y) else kv) (xs.map (putAt k u)):=by
 induction r with
 |nil=>show .nil
 |@cons p q ps g h t d =>
  rw[d3,d3];show .cons ?_ d;have⟨a,b,f⟩:=h;unfold putAt;by_cases e:p.1=k
  .rw[Ž e,Ž (a.symm.trans e)];show⟨a,b,c⟩
  .rw[ž e,ž (λz=>e (a.trans z))];show⟨a,b,f⟩
def KT.put(r:KT H kvs xs)(k:List Key)(c:H b=a5 (.tup (k.map kV)))(a:RelV y u):
  KT H (putK kvs k y) (storedH xs k b u):=by
 have e:(kvs.any λkv=>c4 (kv.1=k))=(Æ xs k).isSome:=by
  rw[iJ,(r.val k).eR,Wj]
 unfold putK storedH;rw[e];by_cases q:(Æ xs k).isSome=b8
 .rw[Ž q,Ž q];show r.Fd k a
 .rw[ž q,ž q];show Paired.snoc r ⟨rfl,c,a⟩
def KT.keeps(r:KT H kvs xs)(c:∀b a,H b=a5 (.tup a)->H' b=a5 (.tup a)):KT H' kvs xs :=
 Paired.EJ r λ_ _ z=>⟨z.1,c _ _ z.2.1,z.2.2⟩
section
def D8(b:Lh P w H h)(e:Rd H a u):bE P w H h a u:=e.ok b
def kY(b:Lh P w H h)(e:Rd H a (.dK kvs)):kvs.length<=cK/\(a==Ov)=cc/\∃vs,KV kvs vs/\h.DictOf (aI P w) a vs :=
 show bE P w H h a (.dK kvs) from D8 b e
def yB(b:Lh P w H h)(e:H a=a5 (.dK kvs)):kvs.length<=cK/\(a==Ov)=cc/\∃vs,KV kvs vs/\h.DictOf (aI P w) a vs:=kY b (.inl e)
def jo(b:Lh P w H h)(e:H a=a5 (.tup (ks.map kV))):(WD (aI P w)).is h ks a:=by
 obtain⟨_,its,r,o,c,d,n,f⟩:=(show bE P w H h a (.tup (ks.map kV)) from b a _ e)
 show⟨o,its.toArray,n,c,d,f,by simpa using nj r⟩
def kZ(b:Lh P w H h)(e:Rd H a (.dT kvs)):kvs.length<=cK/\(a==Ov)=cc /\
  ∃xs,KT H kvs xs/\h.DictOfH (WD (aI P w)) a xs:=by
 have⟨z,y,xs,r,o,es,ep,d,f,g,i,j⟩:=(show bE P w H h a (.dT kvs) from D8 b e)
 show⟨z,y,xs,r,o,es,ep,d,f,g,i,λx hx=>?_,j⟩;have all:∀{l:List (List Key×V)} {m:List (List Key×ez×dV)},KT H l m->∀x∈m,(WD (aI P w)).is h x.1 x.2.1:=by
  intro l m q;induction q with
  |nil=>intro x hx;show nomatch hx
  |@cons p q ps n c t k =>
   intro x hx;rcases d6.mp hx with e|hx
   .subst e;show jo b (by rw[<-c.1];show c.2.1)
   .show k x hx
 show all r x hx
def HG(b:Lh P w H h)(e:H a=a5 (.dT kvs)):kvs.length<=cK/\(a==Ov)=cc /\
  ∃xs,KT H kvs xs/\h.DictOfH (WD (aI P w)) a xs:=kZ b (.inl e)
end
abbrev eG(H:Hp)(a:ez)(y:V)(r:Option V):Prop :=
 (∃kvs k,Rd H a (.dK kvs)/\y=kV k/\r=dB kvs k)\/∃kvs k b,Rd H a (.dT kvs)/\y=.ref b/\H b=a5 (.tup (k.map kV))/\r=dB kvs k
abbrev wX(H:Hp)(a:ez)(y v:V)(H':Hp):Prop :=
 (∃kvs k,H a=a5 (.dK kvs)/\y=kV k/\kvs.length<cK/\H'=upd H a (.dK (putK kvs k v))) \/
 ∃kvs k b,H a=a5 (.dT kvs)/\y=.ref b/\H b=a5 (.tup (k.map kV))/\kvs.length<cK/\H'=upd H a (.dT (putK kvs k v))
def eG.k{H:Hp}{a:ez}{kvs:List (Key×V)}{k:Key}(e:H a=a5 (.dK kvs)):eG H a (kV k) (dB kvs k):=.inl ⟨kvs,k,.inl e,rfl,rfl⟩
def wX.k{H:Hp}{a:ez}{kvs:List (Key×V)}{k:Key}{v:V}(e:H a=a5 (.dK kvs))(hl:kvs.length<cK):wX H a (kV k) v (upd H a (.dK (putK kvs k v))):=.inl ⟨kvs,k,e,rfl,hl,rfl⟩
section
def Inv.big(I:Inv X a σ H s):Ov<s.heap.objs.size:=by
 have h:ko<s.heap.objs.size:=(I.mod.glob.keeps I.bk).lt;show Q3 (by decide) h
def nq(q:A.units+1<L8)(I:Inv X f σ H s)(g:eG H a y (a5 v))(n:RelV y u)(h:∀d s',Inv X f σ H s'->RelV v d->Q d s'):
  d4 (fS X.prog X.w) A (XS (.ref a) u) Q E s:=by
 rcases g with⟨kvs,k,e,i,l⟩|⟨kvs,k,b,e,i,r,l⟩
 .subst i;have⟨z,t,vs,c,dd⟩:=kY I.J_ e;have⟨d,j,m⟩:=ka.some_of (v:=v) (o:=XE vs k) (by rw[l];show c.val k);show wpAny_getItem_of (ni n) dd.mapOf j (h d _ (I.tok _) m)
 .subst i;cases(show u=hU b from n);have⟨z,t,xs,c,dd⟩:=kZ I.J_ e;have⟨d,j,m⟩:=ka.some_of (v:=v) (o:=(Æ xs k).map (·.2)) (by rw[l];show c.val k);have⟨p,x,B⟩:=d5.mp j;show wpAny_getItem_heap (Q1 q) (jo I.J_ r) dd x ?_;rw[B];show h d _ (I.tok _) m
def HH(m:A.units+1<L8)(I:Inv X d σ H s)(g:eG H a y o)(j:RelV y u)(h:∀s',Inv X d σ H s'->Q (.bool o.isSome) s'):
  d4 (fS X.prog X.w) A (OT .In u (.ref a)) Q E s:=by
 rcases g with⟨kvs,k,e,f,l⟩|⟨kvs,k,b,e,f,n,l⟩
 .subst f;have⟨z,i,vs,c,dd⟩:=kY I.J_ e;show wpAny_in_of (ni j) i dd.mapOf ?_;rw[<-(c.val k).eR,<-l];show h _ (I.tok _)
 .subst f;cases(show u=hU b from j);have⟨z,i,xs,c,dd⟩:=kZ I.J_ e;show wpAny_in_heap (Q1 m) (jo I.J_ n) i dd ?_;have q:=(c.val k).eR;rw[Wj]at q;rw[<-q,<-l];show h _ (I.tok _)
def uM(m:A.units+1<L8)(I:Inv X d σ H s)(g:eG H a y o)(j:RelV y u)(h:∀s',Inv X d σ H s'->Q (.bool (!o.isSome)) s'):
  d4 (fS X.prog X.w) A (OT .NotIn u (.ref a)) Q E s:=by
 rcases g with⟨kvs,k,e,f,l⟩|⟨kvs,k,b,e,f,n,l⟩
 .subst f;have⟨z,i,vs,c,dd⟩:=kY I.J_ e;show wpAny_notIn_of (ni j) i dd.mapOf ?_;rw[<-(c.val k).eR,<-l];show h _ (I.tok _)
 .subst f;cases(show u=hU b from j);have⟨z,i,xs,c,dd⟩:=kZ I.J_ e;show wpAny_notIn_heap (Q1 m) (jo I.J_ n) i dd ?_;have q:=(c.val k).eR;rw[Wj]at q;rw[<-q,<-l];show h _ (I.tok _)
def uN(I:Inv X c σ H s)(mu:QR (H a))(hs:qp a s.heap h')(f:∃q,h'.get? a=a5 q)(new:bE X.prog X.w (upd H a d) h' a d):
  Inv X c σ (upd H a d) {s with heap:=h',toks:=t' } :=
 I.write (x:=a) (e:=a) mu (.inl rfl) (λb q g z=>(hs.2 b g).trans z) f new
def Fe(z:kvs.length<=cK)(c:(a==Ov)=cc)(b:KV kvs vs)(dd:h'.DictOf (aI P w) a vs):
  bE P w H' h' a (.dK kvs):=⟨z,c,vs,b,dd⟩
def wY(B:A.units+1<L8)(I:Inv X f σ H s)(g:wX H a y v H')(p:RelV y u)(rv:RelV v r)(h:∀s',Inv X f σ H' s'->Q () s'):
  d4 (fS X.prog X.w) A (Vr (.ref a) u r) Q E s:=by
 rcases g with⟨kvs,k,e,m,l,n⟩|⟨kvs,k,b,e,m,t,l,n⟩
 .subst m n;have⟨z,o,vs,d,dd⟩:=yB I.J_ e;have hz:vs.length<=cK:=by rw[<-d.length];show z
  have hl:(putK kvs k v).length<=cK:=by have:=jQ kvs k v;lia
  show wpAny_setItem_pairs (hsz:=hz) (ni p) dd λh' i hs=>h _ ?_;have C:∃q,h'.get? a=a5 q:=let ⟨q,_,_,j,_⟩:=i;⟨q,j⟩;show uN I (by rw[e];show X') hs C (Fe hl o (d.put k rv) i)
 .subst m n;cases(show u=hU b from p);have⟨z,o,xs,d,dd⟩:=HG I.J_ e;have hz:xs.length<=cK:=by rw[<-Paired.length d];show z
  have hl:(putK kvs k v).length<=cK:=by have:=jQ kvs k v;lia
  show wpAny_setItem_heap (hsz:=hz) (Q1 B) (jo I.J_ t) dd λh' i hs=>h _ ?_;obtain⟨q,es,ep,j,D,G,J,_,L⟩:=i;show uN I (by rw[e];show X') hs ⟨q,j⟩ ⟨hl,o,_,(d.put k t rv).keeps λc N x=>?_,q,es,ep,j,D,G,J,L⟩;rw[au (He x e (λz=>nomatch z))];show x
end
section
end
abbrev Ff(i:mx):Prop:=∀a b,Y_ i cc a b=operate [a,b] (XS a b)
def B1{T id:String}
  (hl:QW (.type T) "__getitem__"=pure (a5 (.builtin id))) (hs:Ff a)
  (h:d4 (fS prog w) A (t6 b env) (λo f=>d4 (fS prog w) A (t6 a env) (λi d=>d.TypeIs o T/\d4 (fS prog w) A (XS o i) Q E d) E f) E s) :
  d4 (fS prog w) A (t6 (.Subscript b a pos) env) Q E s:=by
 show ĵ (qb h (λo f k=>qb k (λi d e=>?_) λ_ _ x=>x) λ_ _ x=>x);have⟨g,e⟩:=e;unfold WY;show bD ?_;rw[getitemInPython_of_ne g.not_modules];show bD (VT g hl ?_);have c:d4 (fS prog w) A (Y_ a cc o i) (λr j=>d4 (fS prog w) A (letTemporaryGo b o r >>= λ_=>pure r) Q E j) E d:=by
  rw[hs o i];show wpAny_operating (qb e (λr j l=>bD (wpAny_letTemporaryGo (df l))) λ_ _ x=>x)
 first
  |show df (bD c)
  |show bD (df (bD c))
  |show bD c
def jR(I:Inv X c σ H s)(g:eG H a y o):s.TypeIs (.ref a) "dict":=by
 rcases g with⟨kvs,k,e,_,_⟩|⟨kvs,k,b,e,_,_,_⟩
 .obtain⟨_,_,vs,_,dd⟩:=kY I.J_ e;show dd.typeIs
 .obtain⟨_,_,xs,_,dd⟩:=kZ I.J_ e;show dd.typeIs
abbrev HI(c ty:TE):TE:=λσ H Q=>c σ H λx d=>ty σ d λy b=>∃a v,x=.ref a/\eG b a y (a5 v)/\Q v b
abbrev JN(ty c:TE):TE:=λσ H Q=>ty σ H λy d=>c σ d λx b=>∃a o,x=.ref a/\eG b a y o/\Q (.bl o.isSome) b
abbrev B3(ty c:TE):TE:=λσ H Q=>ty σ H λy d=>c σ d λx b=>∃a o,x=.ref a/\eG b a y o/\Q (.bl (!o.isSome)) b
section
def B4(d:X.A.units+1<L8)(ho:PE X o e)(f:PE X i ty)(hs:Ff i):PE X (.Subscript o i pos) (HI e ty):=by
 intro b s σ H Q I h;show B1 PySem.F.slot_dict_getitem.lookup hs (Kc (ho b s σ H _ I h) λu s1 ⟨x,j,k,l,m⟩=>Kc (f b s1 σ j _ k m) λz s2 n=>?_);have⟨y,p,c,q,a,v,ex,g,r⟩:=n;subst ex;obtain rfl:u=hU a:=l;show⟨jR c g,nq d c g q λB s3 t w=>⟨v,p,t,w,r⟩⟩
def Fg(c:X.A.units+1<L8)(d:PE X i ty)(ho:PE X o e):PC X .In i o (JN ty e):=by
 intro b s σ H Q I h;show Kc (d b s σ H _ I h) λw s1 ⟨y,f,j,k,l⟩=>Kc (ho b s1 σ f _ j l) λu s2 m=>?_;have⟨x,n,p,q,a,r,ex,g,t⟩:=m;subst ex;obtain rfl:u=hU a:=q;show HH c p g k λs3 v=>⟨.bl r.isSome,n,v,rfl,t⟩
def wZ(c:X.A.units+1<L8)(d:PE X i ty)(ho:PE X o e):PC X .NotIn i o (B3 ty e):=by
 intro b s σ H Q I h;show Kc (d b s σ H _ I h) λw s1 ⟨y,f,j,k,l⟩=>Kc (ho b s1 σ f _ j l) λu s2 m=>?_;have⟨x,n,p,q,a,r,ex,g,t⟩:=m;subst ex;obtain rfl:u=hU a:=q;show uM c p g k λs3 v=>⟨.bl (!r.isSome),n,v,rfl,t⟩
end
def yC(h:DD)(a:Ov<h.objs.size):bE P w H (h.push {cls:=.type "dict",data:=.dict #[]}) h.objs.size (.dK []) :=
 ⟨kr _,Ε.mpr (qP (gj a)),[],.nil,ZK h⟩
abbrev Fh:TE:=λ_ H Q=>∀p,H p=b6->Q (.ref p) (upd H p (.dK []))
section
def qo:PE X (.Dict [] [] pos) Fh:=λb s σ H Q I h =>
 wpAny_Dict_empty ⟨.ref s.heap.objs.size,_,I.laid (a:=s.heap.objs.size) (o:=.dK []) (t':=s.toks) (λ_ _ q=>cL _ q) (i0 _) (yC s.heap I.big),rfl,h _ (I.J_.fresh (i0 _))⟩
end
structure M2(X:Cx)(o:mx)(m:Str)(apos:Pos)(e f:mx)(G':Pos):Prop where
 base:Qd o m X.env (t6 o X.env)=t6 o X.env
 Oq:((zy G' (i2 [e,f] X.env)).all (λx=>!x.1)&&(RC G' (ML [] X.env)).all (λx=>x.1.isSome)
  && c4 (([e,f]:List mx).length+([]:List O3).length+(if ([]:List O3).isEmpty then 0 else 1)<30))=b8
 line:(apos.endLine==G'.line)=b8
 trees:zy G' (i2 [e,f] X.env)=[(cc,t6 e X.env),(cc,t6 f X.env)]
abbrev Wl(H:Hp)(a:ez):Prop:=(∃kvs,Rd H a (.dK kvs))\/∃kvs,Rd H a (.dT kvs)
def Fi(I:Inv X i σ H s)(d:Wl H a):
  s.TypeIs (.ref a) "dict"/\(∀b,hU a=.ref b->∃c,s.heap.get? b=a5 c/\c.dict=b6)/\(a==Ov)=cc:=by
 rcases d with⟨kvs,e⟩|⟨kvs,e⟩
 .obtain⟨_,f,vs,_,dd⟩:=kY I.J_ e;show⟨dd.typeIs,λb q=>?_,f⟩;cases q;obtain⟨c,_,_,g,h,_⟩:=dd;show⟨c,g,h.2.1⟩
 .obtain⟨_,f,xs,_,dd⟩:=kZ I.J_ e;show⟨dd.typeIs,λb q=>?_,f⟩;cases q;obtain⟨c,_,_,g,h,_⟩:=dd;show⟨c,g,h.2.1⟩
section
def Fj(q:A.units+1<L8)(I:Inv X f σ H s)(g:eG H a y o)(m:RelV y u)(n:RelV d r)(h:∀p s',Inv X f σ H s'->RelV (o.getD d) p->Q p s'):
  d4 (fS X.prog X.w) A (Oz (.builtin "dict.get") [.ref a,u,r]) Q E s:=by
 rcases g with⟨kvs,k,e,i,l⟩|⟨kvs,k,b,e,i,t,l⟩
 .subst i;have⟨z,j,vs,c,dd⟩:=kY I.J_ e;show XY PySem.F.slot_dict_get dd.typeIs PySem.F.entry_dict_get (PySem.F.args_dict_get_3 _ _ _) (meets_dict_get_default (aI X.prog X.w) a (ni m) j r) ⟨_,dd.mapOf,h _ _ (I.tok _) ?_⟩;rw[l];show(c.val k).getD n
 .subst i;cases(show u=hU b from m);have⟨z,j,xs,c,dd⟩:=kZ I.J_ e;show XY PySem.F.slot_dict_get dd.typeIs PySem.F.entry_dict_get (PySem.F.args_dict_get_3 _ _ _) (meetsH_dict_get_default (WD (aI X.prog X.w)) a b j r) ⟨Q1 q,k,xs,jo I.J_ t,dd,h _ _ (I.tok _) ?_⟩;rw[l];show(c.val k).getD n
end
abbrev Fm(d ty e:TE):TE:=λσ H Q=>d σ H λx b=>∃a,x=.ref a/\Wl b a/\ty σ b λy f=>e σ f λz c=>∃o,eG c a y o/\Q (o.getD z) c
section
def yD(j:X.A.units+1<L8)(ho:PE X o k)(l:PE X e ty)(n:PE X f p)(m:M2 X o "get" c e f q):PE X (.Call (.Attribute o "get" c) [e,f] [] q) (Fm k ty p):=by
 intro b s σ H Q I h;show wpAny_Call_method m.base m.Oq m.line PySem.F.plainAttrs_dict PySem.F.slot_dict_get PySem.F.type_dict_get (Kc (ho b s σ H _ I h) λu s1 r=>?_);have⟨x,t,i,v,a,ex,d,w⟩:=r;subst ex;obtain rfl:u=hU a:=v;obtain⟨B,C,_⟩:=Fi i d;show⟨B,C,?_⟩;rw[m.trees];show y4 rfl (Mm (Nu (Kc (l b s1 σ t _ i w) λiv s2 ⟨y,D,G,J,L⟩ =>
  Nu (Kc (n b s2 σ D _ G L) λfv s3 ⟨z,N,O,T,ov,g,Y⟩=>Qi ?_))))
 show Fj j O g J T λw' s4 I4 Mn=>⟨_,N,I4,Mn,Y⟩
end
section
end
section
end
end L2
namespace Kv
open PySem PySem.Builtin.Str PySem.StrLaws
abbrev yE(i:Int):Str:=Sx (Sq i)
def app_list(x y:Str):(x++y).cps.toList=x.cps.toList++y.cps.toList:=by
 change(x.cps++y.cps).toList=_;simp
end Kv
namespace L2
open PySem PySem.Spec PyProof.Rows
abbrev bF(env:Env):List (Str×Pq)->List (Str×ez)->List (Str×ez)
 |[],b=>b
 |(n,k)::r,b=>bF env r (if k==.free then(match env.cells.lookup n with|some a=>(n,a)::b|none=>b) else b)
def eS(h:∀y∈scope.names,y.2=.free->∃a,env.cells.lookup y.1=a5 a):closureFor scope env=pure (bF env scope.names []):=by
 unfold closureFor;generalize scope.names=names at h
 suffices H:∀b,(Ŏ names b (λ(x:Str×Pq) (r:List (Str×ez))=>if (x.2==Nq)=b8 then do let a <-cellOf env x.1;pure (Pb ((x.1,a)::r)) else pure (Pb r)):Sem (List (Str×ez)))=pure (bF env names b) by
  have:=H [];show Δ (λ(m:Sem (List (Str×ez)))=>m >>= pure) this
 induction names with
 |nil=>intro b;rfl
 |cons y r d =>
  intro b;have⟨n,k⟩:=y;rw[Xm];have c:=d λy e=>h y (mf _ e);by_cases hk:(k==Nq)=b8
  .have⟨a,f⟩:=h (n,k) nc (by simpa using hk);have g:env.cells.lookup n=a5 a:=f;simp only[hk,if_true,cellOf,g,bF];show c _
  .simp only[hk,if_false,bF];show c _
theorem fi:∀(names:List (Str×Pq)) (b:List (Str×ez)),(∀n c,b.lookup n=a5 c->env.cells.lookup n=a5 c)->∀n c,(bF env names b).lookup n=a5 c->env.cells.lookup n=a5 c
 |[],_,h=>h
 |(m,k)::r,b,h=>by
  unfold bF;show fi r _ λn c e=>?_;by_cases hk:(k==Nq)=b8
  .rw[Ž hk]at e;cases q:env.cells.lookup m with
   |none=>rw[q]at e;show h n c e
   |some a =>
    rw[q]at e;simp only[sx]at e;cases d:n==m with
    |true =>
     rw[d]at e;have f:n=m:=by simpa using d
     subst f;simp only at e;rw[q];show e
    |false=>rw[d]at e;show h n c e
  .rw[ž hk]at e;show h n c e
theorem jS(d:env.cells.lookup n=a5 a):∀(names:List (Str×Pq)) (c:List (Str×ez)),c.lookup n=a5 a->(bF env names c).lookup n=a5 a
 |[],_,h=>h
 |(m,k)::r,c,h=>by
  unfold bF;show jS d r _ ?_;by_cases hk:(k==Nq)=b8
  .rw[Ž hk];cases q:env.cells.lookup m with
   |none=>show h
   |some b =>
    simp only[sx];cases e:n==m with
    |true =>
     have f:n=m:=by simpa using e
     subst f;rw[d]at q;cases q;rfl
    |false=>show h
  .rw[ž hk];show h
theorem h_(b:env.cells.lookup n=a5 a):∀(names:List (Str×Pq)) (c:List (Str×ez)),(n,Nq)∈names->(bF env names c).lookup n=a5 a
 |[],_,h=>by cases h
 |(m,k)::r,c,h=>by
  unfold bF;rcases d6.mp h with e|e
  .cases e;show jS b r _ ?_;rw[Ž (by decide),b];simp[sx]
  .show h_ b r _ e
theorem bP{env:Env}:∀{names:List (Str×Pq)}{x:Str}{k:Pq},
  (names.map λ(n,k)=>if (k==Nq&&env.scope.kind==.function&&env.kindOf n==a5 .cell) then(n,NameKind.cell) else(n,k)).lookup x=a5 k ->
  names.lookup x=a5 k\/(k=.cell/\names.lookup x=a5 .free)
 |[],_,_,h=>by simp at h
 |(n,k0)::r,x,k,h=>by
  have e:=@bP env r x k;rw[d3]at h;by_cases b:(k0==Nq&&env.scope.kind==.function&&env.kindOf n==a5 .cell)=b8
  .simp only[Ž b,sx]at h;cases a:x==n with
   |true =>
    rw[a]at h;have f:k0=.free:=by
     have:=(va.mp (va.mp b).1).1;simpa using this
    show .inr ⟨by simpa using h.symm,by simp[sx,a,f]⟩
   |false =>
    rw[a]at h;rcases e h with z|⟨c,d⟩
    .show .inl (by simp[sx,a,z])
    .show .inr ⟨c,by simp[sx,a,d]⟩
  .simp only[ž b,sx]at h;cases a:x==n with
   |true=>rw[a]at h;show .inl (by simpa[sx,a] using h)
   |false =>
    rw[a]at h;rcases e h with z|⟨c,d⟩
    .show .inl (by simp[sx,a,z])
    .show .inr ⟨c,by simp[sx,a,d]⟩
abbrev Lo(X:Cx)(N:List Str)(scope:M3)(C:ez)(s:eH)(H:Hp)(ex:List ez):Cx where
 prog:=X.prog
 w:=X.w
 K:=X.K
 mg:=X.mg
 base:=X.base
 A:=X.A
 N:=N
 s₀:=s
 H₀:=H
 env:=XX scope (bF X.env scope.names []) C X.env
 outer:=X.stack
 stack:=X.stack
 ex:=ex
 fn:=λ_=>cc
 calm:=X.calm
 pn:=[]
 xe:=λ_ _=>False
abbrev eI(D N:List Str):Prop:=D.length=N.length/\∀(i:Nat) (y:Str),D[i]?=a5 y->N[i]?=a5 y\/y="."\/y=".."
def eI.refl(N:List Str):eI N N:=⟨rfl,λ_ _ h=>.inl h⟩
def eI.set{D N:List Str}(h:eI D N)(j:Nat){m:Str}(b:m="."\/m=".."):eI (D.set j m) N:=by
 show⟨by rw[ě];show h.1,λi y e=>?_⟩;by_cases a:j=i
 .subst a;rw[List.getElem?_set,Ž rfl]at e;split at e
  .cases e;show .inr b
  .cases e
 .rw[i1 a]at e;show h.2 i y e
structure eJ(X:Cx)(N own:List Str)(scope:M3):Prop where
 kind:scope.kind=.function
 MF:∀y∈scope.names,y.2≠.cell
 names:∀y∈scope.names,y.2=.local->scope.names.lookup y.1=a5 .local
 nd:N.Nodup
 pre:N.take own.length=own
 loc:∀y∈scope.names,y.2=.local->y.1∈own\/y.1=".0"
 Ya:(".0":Str)∉N
 tail:eI (N.drop own.length) X.N
 free:∀y∈scope.names,y.2=.free->X.env.scope.names.lookup y.1=a5 .cell\/X.env.scope.names.lookup y.1=a5 .free
 dot:∀y∈scope.names,y.1≠"."/\y.1≠".."
def mem_lookup{names:List (Str×Pq)}(h:names.lookup x=a5 k):(x,k)∈names:=PySem.mem_of_lookup h
def eJ.cells(S:eJ X N c scope)(b:X.Ok):∀y∈scope.names,y.2=.free->∃a,X.env.cells.lookup y.1=a5 a:=λy d e=>by
 rcases S.free y d e with z|z
 .show b.has y.1 (.inl z)
 .show b.has y.1 (.inr z)
def yF(S:eJ X N d scope)(I:Inv X A σ H s)
  (G:s.heap.objs.size<=C) (Uq:s4.os=s.os) (hg:s4.gens=s.gens) (keep:∀b o,s.heap.get? b=a5 o->s4.heap.get? b=a5 o) (ns:∃m,s4.heap.Ns C m)
  (f:∀b∈ex,iF X A H b/\b<s.heap.objs.size):Inv (Lo X N scope C s H ex) [] (i8 d.length b6++σ) H s4:=by
 have⟨m0,Sy⟩:=ns;have sub:=fi (env:=X.env) scope.names [] (λn c e=>by simp at e);have Ur:∀b∈ex,b<C:=λb g=>i5 (f b g).2 G;have tl:d.length<=N.length:=by have:=Δ Lp S.pre;rw[tv]at this;lia
 show⟨⟨I.ok.mod,?_,I.ok.glob,I.ok.blt,G,λx y c B w=>I.ok.inj x y c (sub x c B) (sub y c w),λx hx=>?_,λx c h _=>absurd (show cc=b8 from h) (by decide),I.ok.hd,I.ok.frames,.inl rfl,λb g=>⟨gj (Ur b g),λx c e=>?_⟩,λb o e=>I.bs b o e,?_,λb o e g=>?_,λb g=>?_,I.stack,I.kC⟩,
  Uq,(by rw[hg];show I.bare),Un.kept keep,⟨m0,Sy,λi y v B w h3=>?_⟩,λx c e=>?_,I.J_.fresh G,λx c e=>I.Ku x c (sub x c e),λp hp=>absurd (show p∈([]:List (ez×Obj)) from hp) (by simp),I.J_.kept keep,?_⟩
 .change(Vs scope X.env).kind=.function;show S.kind
 .
  have OZ:(Vs scope X.env).names.lookup x=a5 .cell\/(Vs scope X.env).names.lookup x=a5 .free:=hx;have t:scope.names.lookup x=a5 .free:=by
   rcases OZ with z|z
   .rcases bP z with q|⟨_,q⟩
    .show absurd rfl (S.MF _ (mem_lookup q))
    .show q
   .rcases bP z with q|⟨q,_⟩
    .show q
    .cases q
  have⟨a,ha⟩:=S.cells I.ok (x,.free) (mem_lookup t) rfl;show⟨a,h_ ha scope.names [] (mem_lookup t)⟩
 .show(f b g).1.2.2.2.2.1 x c (sub x c e)
 .show C0 I.ok.Ol I.sz
 .have⟨f0,O,Q,T,f4,f5⟩:=(f b g).1;rcases T with z|z
  .show I.ok.M9 b o e z
  .show absurd (i5 (et e) (C0 I.ok.Ol z)) (t4 _)
 .intro Lj;have⟨f0,O,Q,T,f4,f5⟩:=(f b g).1;rcases d6.mp (I.kP b Lj) with z|z
  .show O z
  .show Q z
 .
  have J:d.length<=i:=by
   by_cases J:i<d.length
   .rw[t5 (by simpa using J),KQ]at w;split at w<;>cases w
   .lia
  rw[qs (by simpa using J),Rr]at w;have Yb:(N.drop d.length)[i - d.length]?=a5 y:=by
   rw[LY];have e:d.length+(i - d.length)=i:=by lia
   rw[e];show B
  have Y:(Vs scope X.env).names.lookup y=a5 .local\/(Vs scope X.env).names.lookup y=a5 .cell\/(Vs scope X.env).names.lookup y=a5 .free:=h3;have t:scope.names.lookup y=a5 .free:=by
   rcases Y with z|z|z
   .rcases bP z with q|⟨q,_⟩
    .exfalso
     have LO:y∈d:=by
      rcases S.loc (y,.local) (mem_lookup q) rfl with z|z
      .show z
      .have z':y=".0":=z;show absurd (mh B) (by rw[z'];show S.Ya)
     have⟨j,hj,ej⟩:=Sd LO;have MW:N[j]?=a5 y:=by
      have e1:(N.take d.length)[j]?=a5 y:=by rw[S.pre,l' hj,ej]
      rw[Zg hj]at e1;show e1
     have:=iD S.nd MW B;lia
    .cases q
   .rcases bP z with q|⟨_,q⟩
    .show absurd rfl (S.MF _ (mem_lookup q))
    .show q
   .rcases bP z with q|⟨q,_⟩
    .show q
    .cases q
  have hX:X.N[i - d.length]?=a5 y:=by
   rcases S.tail.2 _ _ Yb with e|e|e
   .show e
   .show absurd e (S.dot _ (mem_lookup t)).1
   .show absurd e (S.dot _ (mem_lookup t)).2
  have⟨m,hn,hl⟩:=I.loc;have hv:X.env.scope.names.lookup y=a5 .cell\/X.env.scope.names.lookup y=a5 .free:=S.free (y,.free) (mem_lookup t) rfl;have⟨u,r,l⟩:=hl _ y v hX w (.inr hv);show⟨u,r,?_⟩;rcases l with⟨k,_⟩|⟨k,c,e,z⟩
  .have k':X.env.scope.names.lookup y=a5 .local:=k;rcases hv with q|q<;>(rw[k']at q;cases q)
  .have hk:(Vs scope X.env).names.lookup y=a5 .cell\/(Vs scope X.env).names.lookup y=a5 .free:=by
    rcases Y with q|q|q
    .rcases bP q with D|⟨D,_⟩
     .rw[t]at D;cases D
     .cases D
    .show .inl q
    .show .inr q
   have⟨o,ho,L⟩:=z;show .inr ⟨hk,c,h_ e scope.names [] (mem_lookup t),o,keep c o ho,L⟩
 .have⟨v,o,ho,L⟩:=I.cell x c (sub x c e);show⟨v,o,keep c o ho,L⟩
 .rw[hH,Rr,I.len];have e:N.length=d.length+(N.drop d.length).length:=by rw[W0];lia
  change _=N.length;rw[e,S.tail.1]
def qq(I:Inv X f σ H s)
  (d:Inv (Lo X N scope C s H ex) O Q k s4) (t:s.heap.objs.size<=D) (w:s.heap.objs.size<=C) (x:D≠C) (h:k D=b6) (rv:Vals m its) (pl:s4.heap.PlainList D its.toArray) (hl:m.length<=cK)
  (i:qp C s4.heap h') (l:∀b∈ex,iF X f H b):Inv X f σ (upd k D (.lst m)) {s4 with heap:=h' }:=by
 have p:k C=b6:=d.free;have lt:∀{b:ez} {o:Obj},s.heap.get? b=a5 o->b≠C/\b≠D:=λe=>⟨gj (i5 (et e) w),gj (i5 (et e) t)⟩
 show I.D3 (s':={s4 with heap:=h' }) (ch:=ex) d.os ⟨λb o e n j g=>?_,λb o e n j g=>?_,λb o e n g=>?_,λb o e g=>?_,λb xs e=>?_,λb o u e=>?_,λb ps e=>?_⟩ (λa o e=>?_) d.bare λb j=>?_
 .show(i.2 b (lt e).1).trans (d.base.keep b o e n j g)
 .have⟨y,q⟩:=d.base.slot b o e n j g;show⟨y,(i.2 b (lt e).1).trans q⟩
 .rw[au (lt e).2];show d.base.free b o e n g
 .have⟨o',q⟩:=d.base.there b o e g;show⟨o',(i.2 b (lt e).1).trans q⟩
 .have q:=d.base.eX b xs e;rw[au (bt q h)];show q
 .have q:=d.base.Le b o u e;rw[au (bt q h)];show q
 .have⟨more,q⟩:=d.base.Ll b ps e;show⟨more,by rw[au (bt q h)];show q⟩
 .by_cases r:a=D
  .subst r;rw[az]at e;cases e;have⟨n,q⟩:=pl;show⟨hl,its,n,rv,(i.2 _ x).trans q⟩
  .rw[au r]at e;show(d.J_ a o e).fI (λc v A q=>(i.2 c ?_).trans q) (λc q=>?_) λc xs q=>?_
   .rintro rfl;rcases A with z|z
    .rw[<-z,p]at e;cases e
    .rw[p]at z;cases z
   .rw[au (bt q h)];show q
   .rw[au (bt q h)];show q
 .have⟨T,B,Y,G,J,L⟩:=l b j;show⟨G,B,J,L⟩
section
def oR(I:Nat->eH->Prop)
  (b:∀n s,I n s->d4 (fS prog w) A (Ud it) (λr d=>match r with
   |none=>R (.ok .next) d
   |some v=>d4 (fS prog w) A (V0 a it v) (λ_ d=>d4 (fS prog w) A (Ug a env v) (λ_ j =>
     d4 (fS prog w) A (Ŏ f b8 λc r=>if r=b8 then do let ok <-isTrue c env (t6 c env);pure (Pb ok) else pure (Pb r)) (λok i =>
      if ok=b8 then d4 (fS prog w) A (t6 elt env) (λx k =>
       d4 (fS prog w) A (Oz (.builtin "list.append") [acc,x]) (λ_ l=>∃m,m<n/\I m l) (Vt (fS prog w) A env λe s'=>R (.error e) s') k) (Vt (fS prog w) A env λe s'=>R (.error e) s') i
      else ∃m,m<n/\I m i) (Vt (fS prog w) A env λe s'=>R (.error e) s') j) (Vt (fS prog w) A env λe s'=>R (.error e) s') d) (Vt (fS prog w) A env λe s'=>R (.error e) s') d) (Vt (fS prog w) A env λe s'=>R (.error e) s') s)
  (n:Nat) (h:I n s) :
  Qm (fS prog w) A (.compLoop (.ListComp elt [⟨a,g,f,0⟩] scope pos) 0 it acc env) R s:=by
 show codeAny_loop rfl I (λn s q=>?_) n h;change d4 _ A ((compTurn (.ListComp elt [⟨a,g,f,0⟩] scope pos) 0 it acc env).onRaise (λx=>do noteFrame x env;theTreesLotGoes x)) _ _ s;show wpAny_noted ?_;rw[compTurn_list];show bD (Ú (bD (qb (b n s q) (λr d o=>?_) λ_ _ h'=>h')));cases r with
 |none=>show df o
 |some v =>
  show bD (qb o (λ_ t u=>?_) λ_ _ h'=>h');show bD (qb u (λ_ j y=>bD (qb y (λok i p=>?_) λ_ _ h'=>h')) λ_ _ h'=>h');cases ok with
  |false=>show df ⟨rfl,p⟩
  |true =>
   show bD (bD (qb p (λx k z=>bD (qb z (λ_ l B=>df (df ⟨rfl,B⟩)) λ_ _ h'=>h')) λ_ _ h'=>h'))
end
abbrev Ot(X:Cx)(b:List mx)(t:TT):Prop :=
 ∀(a:List (ez×Obj)) (s:eH) (σ:St) (H:Hp) (Q:Bool->Hp->Prop),Inv X a σ H s->t σ H Q ->
  d4 (fS X.prog X.w) X.A (Ŏ b b8 λc r=>if r=b8 then do let d <-isTrue c X.env (t6 c X.env);pure (Pb d) else pure (Pb r)) (TP X a σ Q) X.xe s
abbrev JO:TT:=λ_ H Q=>Q b8 H
def uO:Ot X [] JO:=λ_ _ _ H _ I h=>wpAny_tests_nil ⟨H,I,h⟩
def uP(h:PT X c t):Ot X [c] t:=λa s σ H Q I q=>wpAny_tests_one (h a s σ H Q I q)
abbrev uQ(k:Nat)(J:It)(g:TG)(l:TT)(n:TE)(Q:VK)(σ:St)(o:Hp):Prop :=
  ∃W:Nat->Nat->List V->Hp->Prop,(∃m,W 0 m [] o)/\∀i m a H,W i m a H->a.length<=cK /\
    ((J.stop i H/\∀p,H p=b6->Q (.ref p) (upd H p (.lst a))) \/
     (J.go i H/\∃d:List V->Hp->Prop,(∀f H',d f H'->∃h,h<m/\W (i+1) h f H')/\∀x H',J.Sr i H x H'->g x (i8 k b6++σ) H' λe q=>∃c:St,c.length=k/\e=c++σ /\
        l e q λb j=>if b=b8 then n e j λy r=>d (a++[y]) r else d a j))
abbrev yG(k:Nat)(a:TI)(g:TG)(b:TT)(c:TE):TE:=λσ H Q=>a σ H λJ d=>uQ k J g b c Q σ d
section
def yH
  (S:eJ X N t scope) (hc:X.calm=b8) (hg:∀C s H ex,PG (Lo X N scope C s H ex) tg g) (hf:∀C s H ex,Ot (Lo X N scope C s H ex) ag tt) (he:∀C s H ex,PE (Lo X N scope C s H ex) elt te)
  (I:Inv X al σ H s) (T:Turn X.prog X.w X.K tg J B it tn) (st:tn 0 s.heap) (f2:∀b∈B,iF X al H b) (W:uQ t.length J g tt te Q σ H)
  (hD:@Eq Nat D s.heap.objs.size) (hC:@Eq Nat C (s.heap.objs.size+1)) (Uq:s4.os=s.os) (Yd:s4.gens=s.gens) (keep:∀b o,s.heap.get? b=a5 o->s4.heap.get? b=a5 o) (ns:∃m,s4.heap.Ns C m) (pl:s4.heap.PlainList D #[])
  (am:∀s5 O L its,Inv (Lo X N scope C s H B) [] (i8 t.length b6++σ) O s5->O D=b6->Vals L its->s5.heap.PlainList D its.toArray->L.length<=cK->(∀p,O p=b6->Q (.ref p) (upd O p (.lst L)))->R (.ok .next) s5) :
  Qm (fS X.prog X.w) X.A (.compStart (.ListComp elt [⟨tg,an,ag,0⟩] scope pos) 0 (.ref it) (.ref D) (XX scope (bF X.env scope.names []) C X.env)) R s4:=by
 have Ou:∀b∈B,@RF Nat _ b s.heap.objs.size:=λb h=>by
  obtain⟨o,e,_⟩:=T.obj 0 s.heap st b h;show et e
 have I4:Inv (Lo X N scope C s H B) [] (i8 t.length b6++σ) H s4:=yF S I ⋯ Uq Yd keep ns λb h=>⟨f2 b h,Ou b h⟩
 have Qr:tn 0 s4.heap:=T.keep 0 s.heap s4.heap st λb _ o e=>keep b o e;have nD:H D=b6:=I.J_.fresh ⋯;obtain⟨W,⟨m0,w0⟩,ċ⟩:=W;generalize k:Lo X N scope C s H B=f at I4 am;have eP:f.prog=X.prog:=by rw[<-k];rfl
 have ew:f.w=X.w:=by rw[<-k];rfl
 have eK:f.K=X.K:=by rw[<-k];rfl
 have ec:f.calm=b8:=by rw[<-k];show hc
 have eA:f.A=X.A:=by rw[<-k];rfl
 have ee:f.env=XX scope (bF X.env scope.names []) C X.env:=by rw[<-k];rfl
 have Ut:f.xe=λ_ _=>False:=by rw[<-k];rfl
 have el:f.env.locals=C:=by rw[ee];rfl
 have Uu:PG f tg g:=by rw[<-k];show hg _ _ _ _
 have Uv:Ot f ag tt:=by rw[<-k];show hf _ _ _ _
 have Uw:PE f elt te:=by rw[<-k];show he _ _ _ _
 have s0:f.s₀=s:=by rw[<-k];rfl
 have Q7:f.pn=[]:=by rw[<-k];rfl
 have Ux:∀{H':Hp} {o:Obj},(∀b∈B,H' b=b6)->∀b∈B,iF f [(D,o)] H' b:=λ{H' o} hn b h=>by
  have ex:f.ex=B:=by rw[<-k];rfl
  show⟨hn b h,?_,?_,.inl (by rw[ex];show h),λx c e=>?_,λp G=>?_⟩
  .rw[el];have:=Ou b h;show gj (by change @RF Nat _ b C;lia)
  .have e1:f.fs=KW X.stack:=by rw[<-k];rfl
   rw[e1];intro z;have⟨f0,f1,Ye,f3,f4,f5⟩:=f2 b h;rcases d6.mp (I.kP b z) with q|q
   .show f1 q
   .show Ye q
  .have e1:f.env.cells=bF X.env scope.names []:=by rw[ee];rfl
   rw[e1]at e;show(f2 b h).2.2.2.2.1 x c (fi scope.names [] (λn c e=>by simp at e) x c e)
  .rw[Q7,lg]at G;have:p=(D,o):=by simpa using G
   subst this;have:=Ou b h;show B' (by change @RF Nat _ b D;lia)
 have Uy:∀{σ':St} {H':Hp} {s':eH} {o:Obj},Inv f [] σ' H' s'->H' D=b6->s'.heap.get? D=a5 o->(∀v,o.data≠.cell v)->Inv f [(D,o)] σ' H' s':=λ{σ' H' s' o} I' n e d =>
  I'.ei λp G=>by
   have:p=(D,o):=by simpa using G
   subst this;show⟨e,n,?_,?_,d⟩
   .rw[el];show gj (by change @RF Nat _ D C;lia)
   .have e1:f.fs=KW X.stack:=by rw[<-k];rfl
    rw[e1];intro z;have zz:(D:ez)∈KW X.stack:=z;rcases d6.mp (I.kP D zz) with q|q
    .have:=I.lt;rw[<-q]at this;show absurd this (by change ¬@RF Nat _ D s.heap.objs.size;lia)
    .show I.EK (a:=D) ⋯ q
 have start:∀s':eH,s'=s4->Qm (fS X.prog X.w) X.A (.compLoop (.ListComp elt [⟨tg,an,ag,0⟩] scope pos) 0 (.ref it) (.ref D) (XX scope (bF X.env scope.names []) C X.env)) R s':=by
  rintro s' rfl;show oR (λn s'=>∃i L its H',Inv f [] (i8 t.length b6++σ) H' s'/\tn i s'.heap/\(∀b∈B,H' b=b6)/\H' D=b6/\Vals L its/\s'.heap.PlainList D its.toArray/\W i n L H') ?_ m0
   ⟨0,[],[],H,I4,Qr,λb h=>(f2 b h).1,nD,.nil,pl,w0⟩
  rintro n s3 ⟨i,L,its,H3,I3,KS,QZ,Wn,Sz,⟨nn,Yf⟩,w3⟩;have⟨Y,MX⟩:=ċ i n L H3 w3;have IP:=Uy I3 Wn Yf (λv z=>by have z':Data.seq _ _=Zr v:=z;cases z');rcases MX with⟨ap,qn⟩|⟨go,NN,Wo,ar⟩
  .have d:=T.done f eP ew eK ec i _ s3 _ H3 (Vt (fS X.prog X.w) X.A (XX scope (bF X.env scope.names []) C X.env) λe s'=>R (.error e) s') IP (Ux QZ) KS ap;rw[eA]at d;show Kc d λr s4 Uz=>?_;have⟨hr,I5⟩:=Uz;subst hr;have e5:=(I5.pin (D,({cls:=.type "list",data:=.seq its.toArray nn}:Obj)) (by rw[Q7];simp)).1;show am s4 H3 L its (I5.ei λp G=>by cases G) Wn Sz ⟨nn,e5⟩ Y qn
  .have d:=T.item f eP ew eK ec i _ s3 _ H3 (Vt (fS X.prog X.w) X.A (XX scope (bF X.env scope.names []) C X.env) λe s'=>R (.error e) s') IP (Ux QZ) KS go;rw[eA]at d;show Kc d λr s4 UA=>?_;have⟨u,hr,h4⟩:=UA;subst hr;show Kc h4 λ_ s5 UB=>?_;have⟨x,O,I5,r5,y5,Nn,TZ⟩:=UB;have ax:O D=b6:=(I5.pin (D,({cls:=.type "list",data:=.seq its.toArray nn}:Obj)) (by rw[Q7];simp)).2.1;have T1:=I5.pinned (Ux TZ) (T.obj _ _ Nn);have a6:=Uu _ s5 _ O x u _ T1 r5 (ar x O y5);rw[eP,ew,eA,ee,Ut]at a6;show qb a6 (λ_ s6 ⟨σ6,H6,I6,q6⟩=>?_) λ_ _ z=>Nv z;have⟨ow,as,rfl,q6⟩:=q6;have a7:=Uv _ s6 _ H6 _ I6 q6;rw[eP,ew,eA,ee,Ut]at a7;show qb a7 (λb s7 ⟨H7,I7,q7⟩=>?_) λ_ _ z=>Nv z;have ab:∀{s8:eH} {l:Hp} {Mb:List V} {its':List dV} {nn':Nat},Inv f [] (ow++σ) l s8->tn (i+1) s8.heap->(∀b∈B,l b=b6)->l D=b6->Vals Mb its'->s8.heap.PlainList D its'.toArray->(∃m',m'<n/\W (i+1) m' Mb l) ->
     ∃m,m<n/\∃i L its H',Inv f [] (i8 t.length b6++σ) H' s8/\tn i s8.heap/\(∀b∈B,H' b=b6)/\H' D=b6/\Vals L its/\s8.heap.PlainList D its.toArray/\W i m L H':=λ{s8 l Mb its' nn'} I8 Yg Yh n8 Yi Yj w8=>by
    have⟨m',hm,w8⟩:=w8;show⟨m',hm,i+1,Mb,its',l,I8.weak (by simp[as]) (λj v e=>?_),Yg,Yh,n8,Yi,Yj,w8⟩;by_cases hj:j<t.length
    .rw[t5 (by simpa using hj),KQ]at e;split at e<;>cases e
    .rw[qs (by simpa using(Nat.not_lt.mp hj)),Rr]at e;rw[qs ⋯,as];show e
   have ac:∀{σ':St} {l:Hp} {s8:eH},Inv f ([(D,({cls:=.type "list",data:=.seq its.toArray nn}:Obj))]++kQ B s5.heap) σ' l s8->s8.heap.get? D=a5 {cls:=.type "list",data:=.seq its.toArray nn}/\l D=b6/\tn (i+1) s8.heap/\∀b∈B,l b=b6:=λ{σ' l s8} I8=>by
    have p1:=I8.pin (D,({cls:=.type "list",data:=.seq its.toArray nn}:Obj)) (by rw[Q7];simp);show⟨p1.1,p1.2.1,T.keep _ _ _ Nn λb h o e=>(I8.pin (b,o) (nC _ (nC _ (fh h e)))).1,λb h=>?_⟩;have⟨o,e,d⟩:=T.obj _ _ Nn b h;show(I8.pin (b,o) (nC _ (nC _ (fh h e)))).2.1
   cases b with
   |false =>
    rw[ž js]at q7 ⊢;have⟨p1,p2,p3,p4⟩:=ac I7;show ab (nn':=0) (I7.ei λp G=>by cases G) p3 p4 p2 Sz ⟨nn,p1⟩ (Wo _ _ q7)
   |true =>
    rw[Ž rfl]at q7 ⊢;have a8:=Uw _ s7 _ H7 _ I7 q7;rw[eP,ew,eA,ee,Ut]at a8;show qb a8 (λy s8 ⟨yv,l,I8,r8,q8⟩=>?_) λ_ _ z=>Nv z;have⟨p1,p2,p3,p4⟩:=ac I8;have hsz:its.toArray.size<=cK:=by rw[hQ,<-Sz.length];show Y
    show wpAny_list_append_plain (hsz:=hsz) ⟨nn,p1⟩ λh9 Yk Wq=>?_;have Yl:Inv f [] (ow++σ) l s8:=I8.ei λp G=>by cases G
    have SA:∀x c,f.env.cells.lookup x=a5 c->c≠D:=λx c e=>by
     have e1:f.env.cells=bF X.env scope.names []:=by rw[ee];rfl
     rw[e1]at e;have q:=fi scope.names [] (λn c e=>by simp at e) x c e;have⟨v,z⟩:=I.cell x c q;have:@RF Nat _ c s.heap.objs.size:=z.lt;show gj (by change @RF Nat _ c D;lia)
    have I9:Inv f [] (ow++σ) l {s8 with heap:=h9,toks:=s8.toks}:=Yl.turned (it:=D) (λb o h e=>(Wq.2 b h).trans e) p2 (by rw[el];show gj (by change @RF Nat _ D C;lia)) (.inr (by rw[s0];change @ō Nat _ s.heap.objs.size D;lia)) SA (λp G=>by rw[Q7]at G;cases G);have Ym:(its++[y]).toArray=its.toArray.push y:=by simp
    show ab (nn':=0) (s8:={s8 with heap:=h9,toks:=s8.toks}) I9 (T.keep _ _ _ p3 λb h o e=>(Wq.2 b ?_).trans e) p4 p2 (Sz.append (.cons r8 .nil)) (by rw[Ym];show Yk) (Wo _ _ q8);have:=Ou b h;show gj (by change @RF Nat _ b D;lia)
 show codeAny_compStart_list (start _ rfl) (T.self _ _ _ _ _ Qr (start _ rfl))
def k7{RR:dV->ez->Result->eH->Prop}
    (S:eJ X N d scope) (G:X.calm=b8) (L:∀C s H ex,PG (Lo X N scope C s H ex) v g) (O:∀C s H ex,Ot (Lo X N scope C s H ex) l Y) (he:∀C s H ex,PE (Lo X N scope C s H ex) elt te)
 (I:Inv X f σ H s) (T:Turn X.prog X.w X.K v J x it tn) (st:tn 0 s.heap) (f2:∀b∈x,iF X f H b) (W:uQ d.length J g Y te Q σ H)
    (m:∀D C h c i its,@Eq Nat D s.heap.objs.size->@Eq Nat C (s.heap.objs.size+1)->Inv (Lo X N scope C s H x) [] (i8 d.length b6++σ) c h->c D=b6->Vals i its->h.heap.PlainList D its.toArray->i.length<=cK->(∀p,c p=b6->Q (.ref p) (upd c p (.lst i)))->RR (.ref D) C (.ok .next) h) :
    d4 (fS X.prog X.w) X.A (ł []) (λacc s₃=>d4 (fS X.prog X.w) X.A (newFunctionEnv scope X.env.globals (bF X.env scope.names []) [] X.env.qual b6 .none (a5 X.env)) (λz s₄ =>
      Qm (fS X.prog X.w) X.A (.compStart (.ListComp elt [⟨v,B,l,0⟩] scope pos) 0 (.ref it) acc {z with scope:=Vs scope X.env}) (RR acc z.locals) s₄) E s₃) E s:=by
  show vu (wpAny_newFunctionEnv S.MF (by intro y hy;simp at hy) (λn q k=>?_) S.kind)
  dsimp only at q k ⊢
  generalize r:s.heap.push {cls:=.type "list",dict:=b6,data:=.seq ([]:List dV).toArray}=j at q k ⊢;have t:j.objs.size=s.heap.objs.size+1:=by rw[<-r,Yp]
  have Us:s.heap.objs.size≠j.objs.size:=by rw[t];show gj (Ph _)
  have a:∀b:ez,b<s.heap.objs.size->b≠j.objs.size:=λb hb=>gj (by have Lj:@RF Nat _ b s.heap.objs.size:=hb;change @RF Nat _ b j.objs.size;lia);have u:∀b o,s.heap.get? b=a5 o->n.get? b=a5 o:=λb o e=>k.extBut b o (a b (et e)) (cL _ (r▸cL _ e));have K':n.PlainList s.heap.objs.size #[]:=⟨_,k.extBut _ _ Us (cL _ (r▸fx _ rfl))⟩
  show yH (s:=s) (s4:={s with heap:=n,toks:=s.toks+([]:List (Str×dV)).length}) (C:=j.objs.size) (D:=s.heap.objs.size) S G L O he I T st f2 W rfl t rfl rfl u ⟨_,q⟩ K'
    λh c i its I5 n5 Q9 Q_ Ra q5=>m _ _ h c i its rfl t I5 n5 Q9 Q_ Ra q5
def B5(S:eJ X N c scope)(m:X.calm=b8)(n:PI X f a o)(p:∀C s H ex,PG (Lo X N scope C s H ex) f g)(q:∀C s H ex,Ot (Lo X N scope C s H ex) d r)(t:∀C s H ex,PE (Lo X N scope C s H ex) elt u)
  (hs:∀x,MV a X.env x=pure x:=by intro _;rfl):PE X (.ListComp elt [⟨f,a,d,0⟩] scope pos) (yG c.length o g r u):=by
 intro b s σ H Q I h;rw[eval_ListComp];show Û (use:=b6) (cl:=bF X.env scope.names []) rfl hs (eS (S.cells I.ok)) S.kind S.names ?_;show Kc (n b s σ H _ I h) λv s1 y=>Kc y λSs s2 z=>?_;have⟨it,fp,tn,J,H2,e,i,T,st2,j,W⟩:=z;subst e;show k7 (RR:=λacc C=>compPost (fS X.prog X.w) X.A X.xe b6 (EP X b σ Q) acc C) S m p q t i T st2 j W ?_;intro D C s5 H5 ys its B hC k l G L O Y;obtain⟨m5,UD,_⟩:=k.loc;show⟨m5,UD,λh' sb=>⟨.ref D,_,qq i k (Î B.symm) (by change @ō Nat _ s2.heap.objs.size C;lia) (gj (by change @RF Nat _ D C;lia)) l G L O sb j,rfl,Y D l⟩⟩
def B6(S:eJ X N r scope)(hc:X.calm=b8)(hN:X.N.Nodup)(SD:X.N[i]?=a5 y)(G:X.env.scope.names.lookup y=a5 .local)
  (hi:PI X n d wi) (hg:∀C s H ex,PG (Lo X N scope C s H ex) n g) (hf:∀C s H ex,Ot (Lo X N scope C s H ex) k tt) (he:∀C s H ex,PE (Lo X N scope C s H ex) elt te)
  (Oa:PD (.ListComp elt [⟨n,d,k,0⟩] scope pos) (a5 (.Name y m)) Na.line X.env=pure b8:=by rfl)
  (hs:∀x,MV d X.env x=pure x:=by intro _;rfl):PS X (.Assign [.Name y m] (.ListComp elt [⟨n,d,k,0⟩] scope pos) Na) (EW (yG r.length wi g tt te) (uI i)):=by
 intro f s σ H D I h;rw[exec_Assign_Name_used _ _ _ _ Oa];show bD (Ú (bD ?_));change d4 _ X.A (do let _ <-comprehension (.ListComp elt [⟨n,d,k,0⟩] scope pos) scope X.env _ (ł []) cc (t6 d X.env) (a5 (Ug (.Name y m) X.env))) _ _ s;show bD (qb (Û (use:=a5 (Ug (.Name y m) X.env)) (cl:=bF X.env scope.names []) (Q:=λ_ s'=>SP X f D .next s') rfl hs (eS (S.cells I.ok)) S.kind S.names ?_) (λ_ s' hq=>df (df hq)) λ_ _ e=>e);show Kc (hi f s σ H _ I h) λv s1 h1=>Kc h1 λSs s2 h2=>?_;have⟨it,fp,tn,J,H2,e,l,T,st2,L,W⟩:=h2;subst e;show k7 (RR:=λacc C=>compPost (fS X.prog X.w) X.A X.xe (a5 (Ug (.Name y m) X.env)) (λ_ s'=>SP X f D .next s') acc C) S hc hg hf he l T st2 L W ?_;intro j C q t O its hD hC u Y Q9 Q_ Ra q5;obtain⟨m5,UD,_⟩:=u.loc;have Yn:t C=b6:=u.free;have B:Inv X f σ (upd t j (.lst O)) {q with heap:=q.heap}:=qq l u (Î hD.symm) (by change @ō Nat _ s2.heap.objs.size C;lia) (gj (by change @RF Nat _ j C;lia)) Y Q9 Q_ Ra (D6 ..) L;change d4 _ X.A (Ug (.Name y m) X.env (.ref j)) _ _ q;show ľ (mX (s:=q) B hN SD (.inl G) (show RelV (.ref j) (.ref j) from rfl) (λs6 I6 ⟨a,sb,ha⟩=>?_) (.inr G));have SA:@RF Nat _ X.env.locals C:=by have:@RF Nat _ X.env.locals s2.heap.objs.size:=l.lt;lia
 have NF:∀x c,X.env.cells.lookup x=a5 c->c≠C:=λx c e=>by
  have⟨v,z⟩:=l.cell x c e;have:@RF Nat _ c s2.heap.objs.size:=z.lt;show gj (by change @RF Nat _ c C;lia)
 have Yo:C≠a:=by
  rcases ha with z|z
  .rw[z];show B' SA
  .show(NF _ _ z).symm
 show⟨m5,UD.sameBut sb Yo,λh' Rb=>?_⟩;show⟨σ.set i (a5 (.ref j)),upd t j (.lst O),I6.turned (it:=C) (t':=s6.toks) (λb o hb e=>(Rb.2 b hb).trans e) ?_ (B' SA) (.inr (by have:@ō Nat _ X.s₀.heap.objs.size s2.heap.objs.size:=l.sz;change @ō Nat _ X.s₀.heap.objs.size C;lia)) NF (λp hp=>?_),q5 j Y⟩
 .rw[au (B' (by change @RF Nat _ j C;lia))];show Yn
 .have:@RF Nat _ p.1 s2.heap.objs.size:=et (l.pin p hp).1;show gj (by change @RF Nat _ p.1 C;lia)
end
section
end
section
abbrev HJ:V->Option Int->Option Int->Hp->VK->Prop:=λx lo a H Q=>∃z,x=.str z/\z.length<=cK/\Q (.str (PySem.StrLaws.sliceText z lo a)) H
def mM(x:Str)(lo a:Option Int)(hz:x.length<=cK):(PySem.StrLaws.sliceText x lo a).length<=cK:=C0 (Txt.slice_le x lo a) hz
def Fo:OX X HJ:=by
 intro b s σ H x v m n lo c o Q I g hs pl e h;have⟨z,rfl,hz,q⟩:=h;have⟨t,rfl⟩:=g;show⟨"str",_,Ś.lookup,Ĭ _ _ _,?_⟩;have a:(PySem.StrLaws.sliceText z lo c).length<=cK/\∀t' k,EP X b σ Q (.str (PySem.StrLaws.sliceText z lo c) t') {s with toks:=k}:=⟨mM z lo c hz,λt' k=>⟨.str _,H,I.tok k,⟨_,rfl⟩,q⟩⟩
 cases pl with
 |none =>
  cases e with
  |none=>show Rj (l:=b6) (u:=b6) (st:=b6) hs rfl (VV a)
  |int j d=>show Rj (l:=b6) (u:=a5 (j,d)) (st:=b6) hs rfl (VV a)
 |int i f =>
  cases e with
  |none=>show Rj (l:=a5 (i,f)) (u:=b6) (st:=b6) hs rfl (VV a)
  |int j d=>show Rj (l:=a5 (i,f)) (u:=a5 (j,d)) (st:=b6) hs rfl (VV a)
theorem iK:∀{a:List Str}{its:List dV},Vals (a.map V.str) its->∃l:List (Str×Tok),its=strValues l/\l.map (·.1)=a
 |[],_,.nil=>⟨[],rfl,rfl⟩
 |y::a,_,.cons r t=>by
  have⟨b,rfl⟩:=r;have⟨l,rfl,e⟩:=iK t;show⟨(y,b)::l,rfl,by rw[d3,e]⟩
def B7:Uc X "str.join" (λx xs H Q=>∃a p b,x=.str a/\xs=[.ref p]/\Kz X.K H p (b.map V.str)/\ĳ a b=b8/\Q (.str (VA a b)) H):=by
 intro c s σ H x xs v us Q I d rs h;have⟨a,p,b,rfl,rfl,f,g,q⟩:=h;have⟨t,rfl⟩:=d;have⟨u,rfl,r⟩:=vals1 rs;cases r;have⟨its,rv,pl,hz⟩:=I.list f;have⟨l,rfl,e⟩:=iK rv;show SC.join pl.isList e g λt' k=>⟨.str _,H,I.tok k,⟨_,rfl⟩,q⟩
theorem jT:∀{bs:List Bool}{its:List dV},Vals (bs.map V.bl) its->its=bs.map OS
 |[],_,.nil=>rfl
 |b::bs,_,.cons r t=>by
  cases r;rw[jT t];rfl
def yI:X.calm=b8->iG X (.builtin "all") (λxs H Q=>∃(p:ez) (bs:List Bool),xs=[.ref p]/\Kz X.K H p (bs.map V.bl)/\Q (.bl (bs.all id)) H):=by
 intro f c s σ H xs us Q I rs h;have⟨p,bs,rfl,g,q⟩:=h;have⟨u,rfl,r⟩:=vals1 rs;cases r;have⟨its,rv,pl,hz⟩:=I.list g;have e:=jT rv;subst e;have j:p<s.heap.objs.size:=by obtain⟨_,_,e,_⟩:=pl;show et e
 show call_all_walk (UN pl.isList ?_);show⟨s.heap.objs.size,[s.heap.objs.size,p],[s.heap.objs.size],(bs.map OS).toArray.size,_,_,λi=>(bs[i]?).getD b8,rfl,XZ (A:=X.A.in1) (I.ok.hd f) _ p (gj j) (bs.map OS).toArray,
  ⟨⟨_,fx _ rfl,rfl,rfl⟩,pl.isList.push _⟩,λi v s' Q' m k d=>?_,λh' l hk=>?_⟩
 .have a:(bs.map OS)[i]?=a5 v:=by simpa using k
  rw[i7]at a;cases e:bs[i]? with
  |none=>rw[e]at a;cases a
  |some b =>
   rw[e]at a;cases a;simp only[e,Option.getD_some]at d;show MJ d
 .have e:((gs (bs.map OS).toArray.size).all λi=>(bs[i]?).getD b8)=bs.all id:=by
   rw[hQ,c2];show Ġ bs
  rw[e];show⟨.bl _,H,I.kept (t':=l) (ġ hk),rfl,q⟩
end
section
end
abbrev Fp(N a:List Str)(scope:M3)(out:List (Str×Pq)):Bool :=
 c4 (scope.kind=.function)&&scope.names.all (λy=>c4 (y.2≠.cell))&&scope.names.all (λy=>c4 (y.2≠.local)||decide (scope.names.lookup y.1=a5 .local))&&decide N.Nodup&&c4 (N.take a.length=a) &&
 scope.names.all (λy=>c4 (y.2≠.local)||decide (y.1∈a)||decide (y.1=".0"))&&c4 ((".0":Str)∉N)&&scope.names.all (λy=>c4 (y.2≠.free)||decide (out.lookup y.1=a5 .cell)||decide (out.lookup y.1=a5 .free))&&scope.names.all (λy=>c4 (y.1≠".")&&c4 (y.1≠".."))
def yJ(c:X.env.scope.names=out)(d:eI (N.drop a.length) X.N)(h:Fp N a scope out=b8):eJ X N a scope:=by
 unfold Fp at h;simp only[cb,i6,KR,ż]at h;obtain⟨⟨⟨⟨⟨⟨⟨⟨f,g⟩,i⟩,j⟩,k⟩,l⟩,m⟩,n⟩,o⟩:=h;show⟨f,g,λy b e=>?_,j,k,λy b e=>?_,m,d,λy b e=>?_,o⟩
 .rcases i y b with z|z
  .show absurd e z
  .show z
 .rcases l y b with(z|z)|z
  .show absurd e z
  .show .inl z
  .show .inr z
 .rw[c];rcases n y b with(z|z)|z
  .show absurd e z
  .show .inl z
  .show .inr z
section
end
section
end
abbrev Mo(a b:Str):Bool:=!c4 (b.cps.toList<a.cps.toList)
def kF(a b:Str):Mo a b=b8↔a.cps.toList<=b.cps.toList:=by
 simp only[Mo,tA,decide_eq_false_iff_not];show List.not_lt
def nu(a b c:Str)(d:Mo a b=b8)(e:Mo b c=b8):Mo a c=b8:=by
 rw[kF]at d e ⊢;show List.le_trans d e
def w9(a b:Str):(Mo a b||Mo b a)=b8:=by
 rw[KR,kF,kF];show List.le_total _ _
def yK{x y:Str}(h:x.cps.toList=y.cps.toList):x=y:=by
 cases x;cases y;congr
 show Array.toList_inj.mp h
def oS(c:Mo a b=b8)(d:Mo b a=b8):a=b:=by
 rw[kF]at c d;show yK (List.le_antisymm c d)
abbrev aU(l:List Str):List Str:=l.mergeSort Mo
def bX(l:List Str):(aU l).Perm l:=List.mergeSort_perm l Mo
def k8(l:List Str):(aU l).Pairwise (λa b=>Mo a b=b8):=List.pairwise_mergeSort nu w9 l
theorem iL:∀(l:List Str) (p:Str),risingS p l=b8->(p::l).Pairwise (λa b=>Mo a b=b8)
 |[],p,_=>by simp
 |x::r,p,h=>by
  have h':(!ltCps x.cps.toList p.cps.toList&&risingS x r)=b8:=h;have⟨c,g⟩:=va.mp h';have d:=iL r x g;have f:Mo p x=b8:=by rw[ltCps_eq]at c;show c
  show S0.mpr ⟨λy i=>?_,d⟩;rcases d6.mp i with e|e
  .rw[e];show f
  .show nu _ _ _ f ((S0.mp d).1 y e)
def oU(h:sortedS l=b8):l.Pairwise (λa b=>Mo a b=b8):=by
 cases l with
 |nil=>show .nil
 |cons x r=>show iL r x h
theorem jq:∀{l m:List Str},l.Perm m->l.Pairwise (λa b=>Mo a b=b8)->m.Pairwise (λa b=>Mo a b=b8)->l=m
 |[],m,c,_,_=>(List.Perm.nil_eq c)
 |x::l,m,c,d,f=>by
  cases m with
  |nil=>show absurd c.length_eq (by simp)
  |cons y m =>
   have⟨g,h⟩:=S0.mp d;have⟨b1,i⟩:=S0.mp f;have j:x=y:=by
    have m1:x∈y::m:=c.mem_iff.mp nc;have m2:y∈x::l:=c.mem_iff.mpr nc;rcases d6.mp m1 with e|e
    .show e
    .rcases d6.mp m2 with e'|e'
     .show e'.symm
     .show oS (g y e') (b1 x e)
   subst j;rw[jq (List.Perm.cons_inv c) h i]
def yL(a:l.Perm m)(hs:sortedS l=b8):l=aU m:=jq (a.trans (bX m).symm) (oU hs) (k8 m)
def fQ(a:l.Perm m):aU l=aU m:=jq ((bX l).trans (a.trans (bX m).symm)) (k8 l) (k8 m)
def dC(l:List Str):(aU l).length=l.length:=(bX l).length_eq
section
theorem cF:∀{a:List Str}{its:List dV},Vals (a.map V.str) its->RE its a
 |[],_,.nil=>.nil
 |y::a,_,.cons r t=>by
  have⟨b,rfl⟩:=r;show .cons y b (cF t)
theorem dE:∀{its:List dV}{a:List Str},RE its a->Vals (a.map V.str) its
 |_,_,.nil=>.nil
 |_,_,.cons x t h=>.cons ⟨t,rfl⟩ (dE h)
theorem fj(hc:d4 (fS prog w) A.in1 (í x) (λvs s1=>∃ss,RE vs ss/\vs.length<64 /\
      ∀(h':DD) (KG:List dV) (e:Nat),(∀b o,s1.heap.get? b=a5 o->h'.get? b=a5 o)->h'.get? s1.heap.objs.size=a5 (u5 "list" KG.toArray e)->RE KG (aU ss)->Q (.ref s1.heap.objs.size) {s1 with heap:=h' }) E s) :
    d4 (fS prog w) A (Oz (.builtin "sorted") [x]) Q E s:=by
  refine Tw ė ö ù (ú _) ?_;unfold Mx.«sorted»;refine bD (m:=į "sorted" 1 1 _) (df ?_);refine bD (qb hc (λvs s1 h1=>?_) λ_ _ e=>e);obtain⟨ss,hS,Mp,h⟩:=h1
  refine wpAny_bind (wpAny_newList ?_ (by have : (64 : Nat) ≤ sizeLine := by decide
                                          lia))
  have M_:(s1.heap.push (u5 "list" vs.toArray 0)).get? s1.heap.objs.size=a5 (u5 "list" vs.toArray 0):=fx _ rfl;show d4 _ _ _ _ _ {s1 with heap:=s1.heap.push (u5 "list" vs.toArray 0)};refine bD (ra (x3 Ë ⟨_,M_,rfl⟩ Zs (list_sort_treeK strKind_oneLt M_ hS.keysOf (λv₁ v₂ rest e=>keyKind_strs (by rw[<-e];exact hS)) Mp λst' a1 a2=>⟨_,rfl,?_⟩) (Ì _)));obtain⟨MH,b1,b2,b3⟩:=sorted_out_str hS a1 a2;obtain⟨e,he⟩:=Þ (out:=(arrOf st').map (·.2)) M_;rw[yL b2 b3]at b1;refine df ⟨_,rfl,h _ ((arrOf st').map (·.2)).toList e (λb o q=>?_) (by rw[Ò];exact he) b1⟩;have Kj:b<s1.heap.objs.size:=et q;show(Ê (s1.heap.push (u5 "list" vs.toArray 0)) s1.heap.objs.size vs ((arrOf st').map (·.2))).get? b=a5 o;rw[É (gj Kj) (by rw[KA];exact Q4 Kj)];exact cL _ q
def mO(hl:Ż s.heap l vs.toArray)
  (h:Q vs {s with heap:=(s.heap.push (u5 "list" #[] 0)).update s.heap.objs.size (qd (·++vs.toArray))}) (hsz:vs.length<=cK) :
  d4 (fS prog w) A (í (.ref l)) Q E s:=by
 have⟨o,ho,b,n,c⟩:=id hl;unfold í;show bD (À (x2 entry_proto_collect' ?_));change d4 _ _ (do Ų (.builtin "list.__iadd__" ⟨[<-ł [],.ref l],[]⟩)) _ _ s;show bD (WV (df ⟨Wg _ (by decide +kernel),x2 entry_list_iadd' ?_⟩));change d4 _ _ (r6 (.ref s.heap.objs.size) (.ref l) (.ref s.heap.objs.size)) _ _ {s with heap:=s.heap.push (u5 "list" #[] 0)};unfold r6;have a:(s.heap.push (u5 "list" #[] 0)).get? l=a5 o:=cL _ ho;show bD (TR (T:="tuple") ⟨o,a,b⟩ ?_);have d:(ve "tuple"==ve "tuple")=b8:=by rfl
 rw[Ž (by rw[d];simp)];show bD (ø a c ?_);show bD (ø (xs:=#[]) (n:=0) (fx _ rfl) rfl ?_);rw[ž (by simp)];show bD (WZ (xs:=#[]) (n:=0) (fx _ rfl) rfl ?_ (kr _) (by change(#[]++vs.toArray).size<=cK+1;simp only[WB,hQ,Xl];lia));show df ?_;change d4 (fS prog w) A (do
   let o <-load s.heap.objs.size
   match o.data with
   |.seq xs _=>pure xs.toList
   |_=>Y9 "internal:collect") Q E {s with heap:=(s.heap.push (u5 "list" #[] 0)).update s.heap.objs.size (qd (·++vs.toArray))}
 show bD (Ĩ (ť (fx _ rfl) _) ?_);change d4 _ _ (pure ((#[]:Array dV)++vs.toArray).toList) Q E _;rw[show((#[]:Array dV)++vs.toArray).toList=vs by simp];show df h
end
section
def gP{h:DD}{vs:List dV}(e:h.get? b=a5 o):((h.push (u5 "list" #[] 0)).update h.objs.size (qd (·++vs.toArray))).get? b=a5 o:=by
 rw[Pj _ _ _ _ (gj (et e))];show cL _ e
def qr(I:Inv X a σ H s)(k1:∀b o,s.heap.get? b=a5 o->s1.heap.get? b=a5 o)(h:∃d c,s1={s with heap:=d,toks:=c})
  (hk:∀b o,s1.heap.get? b=a5 o->h'.get? b=a5 o) (i:h'.get? s1.heap.objs.size=a5 (u5 "list" f.toArray e)) (j:RE f (aU ss)) (hsz:s.heap.objs.size<=s1.heap.objs.size) (hl:ss.length<=cK)
  (q:∀p,H p=b6->Q (.ref p) (upd H p (.lst ((aU ss).map V.str)))):EP X a σ Q (.ref s1.heap.objs.size) {s1 with heap:=h' }:=by
 have⟨d,c,rfl⟩:=h;have g:Inv X a σ H {s with heap:=d,toks:=c}:=I.kept (t':=c) k1;show⟨.ref d.objs.size,_,g.laid (t':=c) (o:=.lst ((aU ss).map V.str)) hk (i0 _) ⟨by rw[c2,dC];show hl,f,e,dE j,i⟩,rfl,q _ (g.J_.fresh (i0 _))⟩
def jU:iG X (.builtin "sorted") (λxs H Q=>∃(p:ez) (a:List Str),xs=[.ref p]/\(Kz X.K H p (a.map V.str)\/KN X.K H p (a.map V.str))/\a.length<64/\∀q,H q=b6->Q (.ref q) (upd H q (.lst ((aU a).map V.str)))):=by
 intro d s σ H xs us Q I rs h;have⟨p,a,rfl,hq,j,q⟩:=h;have⟨u,rfl,r⟩:=vals1 rs;cases r;have hl:a.length<=cK:=Q8 (i5 j (by decide));have f:∀(its:List dV),Vals (a.map V.str) its->∀(h':DD) (c:List dV) (e:Nat),(∀b o,((s.heap.push (u5 "list" #[] 0)).update s.heap.objs.size (qd (·++its.toArray))).get? b=a5 o->h'.get? b=a5 o) ->
   h'.get? ((s.heap.push (u5 "list" #[] 0)).update s.heap.objs.size (qd (·++its.toArray))).objs.size=a5 (u5 "list" c.toArray e)->RE c (aU a) ->
   EP X d σ Q (.ref ((s.heap.push (u5 "list" #[] 0)).update s.heap.objs.size (qd (·++its.toArray))).objs.size) {s with heap:=h' }:=λits rv h' c e hk g i =>
  qr (s1:={s with heap:=(s.heap.push (u5 "list" #[] 0)).update s.heap.objs.size (qd (·++its.toArray))}) I (λb o z=>gP z) ⟨_,s.toks,rfl⟩ hk g i (by change s.heap.objs.size<=((s.heap.push (u5 "list" #[] 0)).update s.heap.objs.size (qd (·++its.toArray))).objs.size;rw[ă,KA];show Ls _) hl q
 rcases hq with hq|hq
 .have⟨its,rv,pl,hz⟩:=I.list hq;have k:its.length=a.length:=by rw[<-rv.length,c2]
  show fj (collect_list pl.isList ⟨a,cF rv,⋯,λh' c e hk g i=>f its rv h' c e hk g i⟩ ⋯)
 .have⟨its,rv,pl,hz⟩:=I.tuple hq;have k:its.length=a.length:=by rw[<-rv.length,c2]
  show fj (mO pl ⟨a,cF rv,⋯,λh' c e hk g i=>f its rv h' c e hk g i⟩ ⋯)
end
@[reducible]def sK(P:t8)(w:vl):=PySem.strKind P w
abbrev aR(P:t8)(w:vl)(h:DD)(a:ez)(led:Bool)(D:List Str):Prop :=
 ∃(L:List (Str×Tok)) (es:Array (Int×dV)) (ep:Nat) (t:Pp),h.get? a=a5 {cls:=.type "set",dict:=b6,data:=.set es ep t}/\es.toList=L.map (λp=>((sK P w).hash p.1,sL p.1 p.2)) /\
  (L.map (·.1)).Perm D/\D.Nodup/\t.fits es.size=b8/\es.size<y1/\t.led=led/\(es.size=0\/t.plain=cc)
section
def k9{L:List (Str×Tok)}:ElemsOf (sK prog w) (L.map λp=>((sK prog w).hash p.1,sL p.1 p.2)):=by
 intro e a;obtain⟨p,_,rfl⟩:=lz.mp a;show⟨⟨p.1,by simp[PySem.strKind,Rz],rfl⟩,rfl⟩
def gQ(x y:Str)(t:Tok):(sK prog w).is x (.str y t)=c4 (x=y):=by
 rw[KX];simp[PySem.strKind,Rz];show⟨λh=>h.symm,λh=>h.symm⟩
def si(t:Pp)(es:Array (Int×dV))(h:Int)(x:dV):(layNew t es h x).2.1.led=t.led:=by
 unfold layNew;split
 .change(Zx (t.put _).1 _).led=t.led;unfold Zx;split<;>rfl
 .rfl
def oV(t:Pp)(es:Array (Int×dV))(n:Nat):(Á t es n).2.1.led=t.led:=by
 unfold Á;split
 .rename_i t' b a;have:t'.led=t.led:=by
   unfold WH Vd at a;cases c:SM (KZ n - 1) (es.map (·.1)) with
   |none=>rw[c]at a;cases a
   |some o=>rw[c]at a;cases a;rfl
  dsimp only
  split
  .show this
  .rfl
 .rfl
def k_(t:Pp)(es:Array (Int×dV))(n:Nat)(h:t.plain=cc):(Á t es n).2.1.plain=cc:=by
 unfold Á;split
 .rename_i t' b a;have:t'.plain=t.plain:=by
   unfold WH Vd at a;cases c:SM (KZ n - 1) (es.map (·.1)) with
   |none=>rw[c]at a;cases a
   |some o=>rw[c]at a;cases a;rfl
  dsimp only
  split
  .rw[this];show h
  .rfl
 .rfl
def c9(h:l.Perm (L.map λp=>((sK prog w).hash p.1,sL p.1 p.2))):∃L':List (Str×Tok),l=L'.map (λp=>((sK prog w).hash p.1,sL p.1 p.2))/\L'.Perm L:=by
 have all:∀e∈l,∃p:Str×Tok,e=((sK prog w).hash p.1,sL p.1 p.2):=λe a=>by
  obtain⟨p,_,rfl⟩:=lz.mp (h.mem_iff.mp a);show⟨p,rfl⟩
 have ex:∀l:List (Int×dV),(∀e∈l,∃p:Str×Tok,e=((sK prog w).hash p.1,sL p.1 p.2))->∃L':List (Str×Tok),l=L'.map (λp=>((sK prog w).hash p.1,sL p.1 p.2)):=by
  intro l;induction l with
  |nil=>intro _;show⟨[],rfl⟩
  |cons e l c =>
   intro b;have⟨p,rfl⟩:=b e nc;have⟨L',rfl⟩:=c λe a=>b e (mf _ a);show⟨p::L',rfl⟩
 have⟨L',rfl⟩:=ex l all;show⟨L',rfl,?_⟩;have g:(L'.map λp=>((sK prog w).hash p.1,sL p.1 p.2)).map (λe=>match e.2 with|.str x t=>(x,t)|_=>(nH,0))=L':=by
  rw[i9];show Õ _
 have d:(L.map λp=>((sK prog w).hash p.1,sL p.1 p.2)).map (λe=>match e.2 with|.str x t=>(x,t)|_=>(nH,0))=L:=by
  rw[i9];show Õ _
 have:=h.map (λe=>match e.2 with|.str x t=>(x,t)|_=>(nH,0));rw[g,d]at this;show this
theorem la(hS:aR prog w s.heap a led D)(O1:D.length+1<y1)
    (h:∀h',qp a s.heap h'->aR prog w h' a led (if x∈D then D else D++[x])->Q (c4 (x∉D)) {s with heap:=h' }) :
    d4 (fS prog w) A (setAddHashed a (.str x tk) ((sK prog w).hash x)) Q E s:=by
  obtain⟨L,es,ep,t,ho,K1,J',Kk,hf,hb,K9,KD⟩:=hS;have Pw:(sK prog w).is x (.str x tk)=b8:=by rw[gQ];simp
  have Rc:ElemsOf (sK prog w) es.toList:=by rw[K1];exact k9
  have hlen:es.size=D.length:=by rw[<-hY,K1,c2,<-c2 (f:=Ģ) (as:=L),J'.length_eq]
  unfold setAddHashed setAddHashedIn;refine ra (bD (my ho rfl hf ?_))
  dsimp only
  rw[byScan_of (knd:=sK prog w) rfl hb Rc];simp only[↓reduceIte];unfold setAddByScan;refine bD ?_;refine bD (Oo ?_);refine bD (Ő (knd:=sK prog w) Pw ho rfl hf Rc ?_);have mem_iff:(∃e∈es.toList,(sK prog w).is x e.2=b8)↔x∈D:=by
    rw[K1,<-J'.mem_iff,lz];constructor
    · rintro⟨e,he,hi⟩
      obtain⟨p,hp,rfl⟩:=lz.mp he;rw[gQ,ż]at hi;exact⟨p,hp,hi.symm⟩
    · rintro⟨p,hp,e⟩
      exact⟨_,lz.mpr ⟨p,hp,rfl⟩,by rw[gQ];simp[e]⟩
  cases hr:Zh (λe=>(sK prog w).is x e.2) es.toList with
  | some j =>
    dsimp only
    obtain⟨hj,SE,_⟩:=WA.mp hr;have hx:x∈D:=mem_iff.mp ⟨es.toList[j],Lx hj,SE⟩;refine df (df ?_);have e:s={s with heap:=s.heap}:=by cases s;rfl
    have:=h s.heap (D6 a s.heap) (by rw[Ž hx];exact⟨L,es,ep,t,ho,K1,J',Kk,hf,hb,K9,KD⟩);rw[ſ (λz=>z hx)]at this;rw[e];exact this
  | none =>
    dsimp only
    have hx:x∉D:=λhx=>by
      obtain⟨e,he,hp⟩:=mem_iff.mpr hx;have:=Y6.mp hr e he;rw[hp]at this;exact Bool.noConfusion this
    have Yq:∀(b:Bool) {s₁:eH} {Q':Unit->eH->Prop},Q' () s₁->d4 (fS prog w) A (match b with|true=>Ŕ "set.scan.the-table-gave-way"|false=>pure ()) Q' E s₁ :=
      λb s₁ Q' hq=>by cases b<;>first|exact df hq|exact Oo hq
    have Qs:=layNew_perm t es ((sK prog w).hash x) (.str x tk);have MY:=layNew_fits t es ((sK prog w).hash x) (.str x tk);have Nb:=si t es ((sK prog w).hash x) (.str x tk);generalize hL:layNew t es ((sK prog w).hash x) (.str x tk)=NL at Qs MY Nb ⊢;obtain⟨KU,t1,NG,Yr⟩:=NL
    dsimp only at Qs MY Nb ⊢
    rw[é,K1,show [((sK prog w).hash x,sL x tk)]=[(x,tk)].map (λp=>((sK prog w).hash p.1,sL p.1 p.2)) from rfl,<-ki]at Qs;obtain⟨L1,e1,Ys⟩:=c9 Qs;have Mq:KU.size=D.length+1:=by rw[<-hY,Qs.length_eq,c2,hH,<-hlen,<-hY,K1,c2];rfl
    have Ws:KU.size<y1:=by lia
    have O2:(L1.map (·.1)).Perm (D++[x]):=(Ys.map _).trans (by rw[ki];exact J'.append_right _);have Wt:(D++[x]).Nodup:=by
      rw[ri]
      exact ⟨Kk, by simp, fun y hy z hz => by have : z = x := by simpa using hz
                                              subst this;rintro rfl;exact hx hy⟩
    refine bD (Yq _ ?_);have Ow:∀h',qp a s.heap h'->aR prog w h' a led (D++[x])->Q b8 {s with heap:=h' }:=λh' sb hs=>by
      have:=h h' sb (by rw[ž hx];exact hs);rw[Α hx]at this;exact this
    have tail:∀(g:Bool->Sem Unit),(∀(b:Bool) (s₁:eH) (Q':Unit->eH->Prop),Q' () s₁->d4 (fS prog w) A (g b) Q' E s₁)->∀(R:Option Bool->eH->Prop),(∀h',qp a s.heap h'->aR prog w h' a led (D++[x])->R (a5 b8) {s with heap:=h' })->∀t2:Pp,t2.fits KU.size=b8->t2.led=led->t2.plain=cc->d4 (fS prog w) A (do
        storeSet a KU t2
        if (!NG&&t2.tooFull)=true then do
            g (relayAll t2 KU (SetTable.grown KU.size)).2.2
            storeSet a (relayAll t2 KU (SetTable.grown KU.size)).1 (relayAll t2 KU (SetTable.grown KU.size)).2.1
            pure (some true)
          else pure (a5 b8)) R E s:=by
      intro g hg R hR t2 Yt NH Ox;refine bD (XA ho rfl ?_ (XT Ws));have Ob:(s.heap.update a (P8 KU t2)).get? a=a5 {cls:=.type "set",dict:=b6,data:=.set KU (ep+1) t2}:=by
        have:=tj (P8 KU t2) ho rfl;exact this
      have Rf:=wh s.heap a (P8 KU t2);split
      · have hp:=relayAll_perm t2 KU (Oj KU.size)
        have MZ:=relayAll_fits t2 KU (Oj KU.size);have UE:=oV t2 KU (Oj KU.size);have Oy:=k_ t2 KU (Oj KU.size) Ox;generalize UG:Á t2 KU (Oj KU.size)=Rl at hp MZ UE Oy ⊢;obtain⟨LX,t3,Wu⟩:=Rl
        dsimp only at hp MZ UE Oy ⊢
        rw[e1]at hp;obtain⟨L2,e2,Yu⟩:=c9 hp;have hsz:LX.size=KU.size:=by rw[<-hY,hp.length_eq,<-e1,hY]
        refine bD (hg _ _ _ ?_);refine bD (XA Ob rfl ?_ (XT ⋯));have Qt:((s.heap.update a (P8 KU t2)).update a (P8 LX t3)).get? a=a5 {cls:=.type "set",dict:=b6,data:=.set LX (ep+1+1) t3}:=tj (P8 LX t3) Ob rfl;refine df (hR _ (Rf.trans (wh _ a _)) ⟨L2,LX,_,t3,Qt,e2,(Yu.map _).trans O2,Wt,MZ,⋯,UE.trans NH,.inr Oy⟩)
      · exact df (hR _ Rf ⟨L1,KU,_,t2,Ob,e1,O2,Wt,Yt,Ws,NH,.inr Ox⟩)
    split
    · rename_i hp
      refine bD ?_;rw[hashByValue_scannable 8 rfl];refine df ?_;have ep:(if plainKind (sL x tk)=b8 then t1 else {t1 with plain:=cc})={t1 with plain:=cc}:=rfl;rw[ep];refine tail _ ?_ _ ?_ {t1 with plain:=cc} (SetTable.fits_plain_off MY) (Nb.trans K9) rfl
      · intro b s₁ Q' hq;cases b<;>first|exact df hq|exact Oo hq
      · intro h' Nc L4;dsimp only;exact df (Ow h' Nc L4)
    · rename_i hp
      refine bD (df ?_);simp only[↓reduceIte];refine tail _ ?_ _ ?_ t1 MY (Nb.trans K9) (Bool.eq_false_iff.mpr hp)
      · intro b s₁ Q' hq;cases b<;>first|exact df hq|exact Oo hq
      · intro h' Nc L4;dsimp only;exact df (Ow h' Nc L4)
end
abbrev jr(D:List Str)(x:Str):List Str:=if x∈D then D else D++[x]
abbrev aJ(l:List Str):List Str:=l.foldl jr []
theorem sj(h:D.Nodup):(jr D x).Nodup:=by
  unfold jr;split
  · exact h
  · rename_i hx
    rw[ri]
    exact ⟨h, by simp, fun y hy z hz => by have : z = x := by simpa using hz
                                           subst this;rintro rfl;exact hx hy⟩
theorem fk:∀(l D:List Str),D.Nodup->(l.foldl jr D).Nodup/\(∀x,x∈l.foldl jr D↔x∈D\/x∈l)/\(l.foldl jr D).length<=D.length+l.length
 |[],D,h=>⟨h,by simp,by simp⟩
 |y::l,D,h=>by
  have⟨a,b,f⟩:=fk l (jr D y) (sj h);have c:∀x,x∈jr D y↔x∈D\/x=y:=λx=>by
   unfold jr;split
   .rename_i d;show⟨.inl,λz=>z.elim id (λe=>e▸d)⟩
   .simp
  have hl:(jr D y).length<=D.length+1:=by
   unfold jr;split
   .lia
   .simp
  show⟨a,λx=>?_,by rw[U1,kj];lia⟩;rw[U1,b,c,d6,or_assoc]
def dF(l:List Str):(aJ l).Nodup:=(fk l [] Td).1
def c_(l:List Str)(x:Str):x∈aJ l↔x∈l:=by rw[aJ,(fk l [] Td).2.1];simp
def sm(l:List Str):(aJ l).length<=l.length:=by have:=(fk l [] Td).2.2;simpa[aJ] using this
def qu(l:List Str)(x:Str):aJ (l++[x])=jr (aJ l) x:=by unfold aJ;rw[List.foldl_append];rfl
section
variable{prog:t8}{w:vl}{A:N7}{R:Result->eH->Prop}{I:ez}{fp wr:List ez}{G:Array Ç->Array Ç->Prop}{n:Nat}{P:Nat->dV->Prop}{St:Nat->eH->Prop}
def jt(W:ı prog w A.in1 I fp wr G n P St)(S:ez)(l:S∉fp)(led:Bool)
  (a:List Str) (hn:a.length=n) (u:∀i v,P i v->∃x t,a[i]?=a5 x/\v=.str x t) (c:n+1<y1) :
  ∀(k i:Nat) (s:eH),n - i=k->i<=n->St i s->aR prog w s.heap S led (aJ (a.take i)) ->
   (∀s',Moved (S::wr) G s s'->aR prog w s'.heap S led (aJ a)->R (.ok (.ret .none)) s') ->
   Qm (fS prog w) A (.builtin "set.update.loop" ⟨[.ref S,.ref I],[]⟩) R s:=by
 have m:S∉wr:=λh=>l (W.sub _ h);have p:∀b∈wr,b∈S::wr:=λb c=>mf _ c;intro k;induction k with
 |zero =>
  intro i s hk y g f j;have z:i=n:=by lia
  subst z;show x2 T_ ?_;rw[H0 N8 _];change d4 _ A.in1 (Ud (.ref I) >>= _) _ _ s;show bD (W.done s _ _ g λs' d=>?_);change d4 _ A.in1 (ret mA) _ _ s';rw[K5 ⋯]at f;show df (j s' (d.mono p) (by
   have⟨L,es,ep,t,ho,rest⟩:=f;show⟨L,es,ep,t,d.heap S _ m ho,rest⟩))
 |succ k B =>
  intro i s hk y g f j;have q:i<n:=by lia
  show x2 T_ ?_;rw[H0 N8 _];change d4 _ A.in1 (Ud (.ref I) >>= _) _ _ s;show bD (W.item i s _ _ q g λv s' C D d=>?_);have⟨x,t,H,rfl⟩:=u i v C;have J:aR prog w s'.heap S led (aJ (a.take i)):=by
   have⟨L,es,ep,N,ho,rest⟩:=f;show⟨L,es,ep,N,d.heap S _ m ho,rest⟩
  change d4 _ A.in1 (MT [sL x t] (setAdd S (.str x t)) >>= _) _ _ s';show bD (ra ?_);unfold setAdd;show ra ?_;show bD ((sK prog w).pyHash (k:=x) (by rw[gQ];simp) ?_);have O:(aJ (a.take i)).length+1<y1:=by have:=sm (a.take i);rw[tv]at this;lia
  show la (s:={s' with toks:=s'.toks+1}) J O λh' r Q=>?_;have T:aR prog w h' S led (aJ (a.take (i+1))):=by
   rw[List.take_add_one,H];change aR prog w h' S led (aJ (a.take i++[x]));rw[qu];show Q
  show df ⟨Qc N8 _,B (i+1) _ ⋯ q (W.frame _ s' _ _ D (Ls _) λb c o e=>?_) T λY UH UI=>?_⟩
  .rw[r.2 b (λh:b=S=>l (by rw[<-h];show c))];show e
  .show j Y (ň W.gtrans ((d.mono p).then_heap (Ls _) λb o c e=>?_) UH) UI;rw[r.2 b (λh:b=S=>c (by rw[h];show nc))];show e
end
section
def mP(a:dV)
  (h:Q₁ (.ref s.heap.objs.size) {s with heap:=s.heap.push {cls:=.type "set",dict:=b6,data:=.set #[] 0 (.fresh 0 0 (!w.params.followText "set-order"))}}) :
  Qm (fS prog w) A (.call (.builtin "set.__new__") ⟨[.type "set",a],[]⟩) (wants Q₁ E) s:=by
 show ş ?_;change d4 _ A.in1 (do YS "set.__new__" ⟨[.type "set",a],[]⟩;Ų (.builtin "set.__new__" ⟨[.type "set",a],[]⟩)) _ _ s;show bD (Y7 (PySem.F.newCall_set_1 a) (df ⟨Qc PySem.F.plain_set_new _,x2 PySem.F.entry_set_new ?_⟩));rw[H0 PySem.F.plain_set_new _];unfold Mx.«set.__new__» ĕ;have b:=XF;have⟨c,g,d,e,os⟩:=s
 dsimp only
 wp_walk
 show R8 (df ?_)
 dsimp only
 simp only[newObj];show bD (wpAny_alloc (df ?_));show df h
def ia(b:h.get? a=a5 {cls:=.type "set",dict:=b6,data:=.set #[] 0 (.fresh 0 0 led)}):aR prog w h a led [] :=
 ⟨[],#[],0,_,b,rfl,.nil,Td,rfl,by unfold y1;decide,rfl,.inl rfl⟩
end
def sub_tuple_set:Vc (.type "tuple") (.type "set")=pure cc:=by rw[Ue];kernel_rfl
def sub_tuple_frozenset:Vc (.type "tuple") (.type "frozenset")=pure cc:=by rw[Ue];kernel_rfl
section
@[reducible]def aH(w:vl):Bool:=!w.params.followText "set-order"
@[reducible]def so(led:Bool):Obj:={cls:=.type "set",dict:=b6,data:=.set #[] 0 (.fresh 0 0 led)}
def iM
  (L:s.TypeIs (.ref l) T) (Yx:Vc (.type T) (.type "set")=pure cc) (Yy:Vc (.type T) (.type "frozenset")=pure cc) (K2:(ve T==ve "dict")=cc)
  (N:a.length+1<y1)
  (k:∀(s1:eH) (B:N7) (Q':dV->eH->Prop),B.handled=A.handled->(∀b o,s.heap.get? b=a5 o->s1.heap.get? b=a5 o)->s.heap.objs.size<s1.heap.objs.size ->
   (∀I m n G P St d,ı prog w B.in1 I m n G a.length P St->(∀g g',G g g'->g'=g)->s.heap.objs.size∉m->(∀b∈n,s.heap.objs.size<b)->(∀i v,P i v->∃x t,a[i]?=a5 x/\v=.str x t)->St 0 {s1 with heap:=d}->(∀b o,s1.heap.get? b=a5 o->d.get? b=a5 o)->Q' (.ref I) {s1 with heap:=d})->d4 (fS prog w) B (Ã (.ref l)) Q' E s1)
  (h:∀(h':DD) (f:Nat),aR prog w h' s.heap.objs.size (aH w) (aJ a)->(∀b o,b<s.heap.objs.size->s.heap.get? b=a5 o->h'.get? b=a5 o)->Q (.ref s.heap.objs.size) {s with heap:=h',toks:=f}) :
  d4 (fS prog w) A (Oz (.type "set") [.ref l]) Q E s:=by
 have⟨c,tl,Yz⟩:=PySem.F.called_set.mro;have Ww:=PySem.F.called_set.made;have NI:=PySem.F.called_set.sub;show ĩ (ş ?_);change d4 _ _ (callAny (.type "set") _) _ _ _;show df ⟨Wg _ (by decide +kernel),x2 PySem.F.entry_type_call ?_⟩;rw[Around.under_plain (weight_type_call_type "set" [.ref l] []) rfl];have d:=PySem.F.called_set.notType;have h2:=PySem.F.called_set.canCreate;have O:=PySem.F.typeCall_set_1 (.ref l)
 repeat (any_goals (first|assumption|wp_step))
 show TU (mP (.ref l) (E:=E) (Q₁:=λobj C=>obj=.ref s.heap.objs.size/\C={s with heap:=s.heap.push (so (aH w))}) ⟨rfl,rfl⟩) λr C p=>?_;cases r with
 |error e=>show p
 |ok Y =>
  cases Y with
  |ret obj =>
   have⟨rfl,rfl⟩:=p;have D:(s.heap.push (so (aH w))).get? s.heap.objs.size=a5 (so (aH w)):=fx _ rfl;have hT:TC {s with heap:=s.heap.push (so (aH w))} (.ref s.heap.objs.size) "set":=⟨_,D,rfl⟩
   have ab:=PySem.F.called_set.init.lookup;have ac:=PySem.F.called_set.init.bind (.ref s.heap.objs.size)
   repeat (any_goals (first|assumption|wp_step))
   show TU (Wv (R:=wants (λr H=>r=.none/\∃h' f,H={s with heap:=h',toks:=f} /\
     aR prog w h' s.heap.objs.size (aH w) (aJ a) /\
     (∀b o,b<s.heap.objs.size->s.heap.get? b=a5 o->h'.get? b=a5 o)) E) PySem.F.called_set.init.plain PySem.F.entry_set_init (check_set_init_1 hT ?_)) λr₂ H q=>?_
   .have⟨ol,Rg,J⟩:=L;have⟨YA,Rh,Ri,Py⟩:=ol;simp only at J;subst J;have UK:(s.heap.push (so (aH w))).get? l=a5 {cls:=.type T,dict:=Rh,data:=Ri,slots:=Py}:=cL _ Rg;have Wx:TC {s with heap:=s.heap.push (so (aH w))} (.ref l) T:=⟨_,UK,rfl⟩
    unfold Mx.«set.__init__» noKeywords ē;generalize YB:Ã=PI
    wp_walk
    subst YB;show k {s with heap:=s.heap.push (so (aH w))} _ _ rfl (λb o e=>cL _ e) (by rw[KA];show Ph _) λI m n G P St d W hG hf YC Px Kf hk=>?_;show bD (À ?_);show jt W s.heap.objs.size hf (aH w) a rfl Px N (a.length - 0) 0 _ ⋯ (kr _) Kf (ia (hk _ _ D)) ?_;intro s' j u;have⟨h',g',d',SF,T7⟩:=s';have eg:g'=s.gens:=hG _ _ j.gens;have ed:d'=s.drawn:=j.drawn;have eo:T7=s.os:=j.os;subst eg;subst ed;subst eo;change d4 _ _ _ _ _ _;show df ?_;change d4 _ _ (ret mA) _ _ _;show df ⟨rfl,h',SF,rfl,u,λb o y e=>?_⟩;show j.heap b o (λz=>by
     rcases d6.mp z with z|z
     .rw[z]at y;show t4 _ y
     .show absurd (YC b z) (Ę y)) (hk _ _ (cL _ e))
   .cases r₂ with
    |error e=>show q
    |ok YD =>
     cases YD with
     |ret r =>
      have⟨rfl,h',f,rfl,u,Kx⟩:=q
      repeat (any_goals (first|assumption|wp_step))
      show h _ _ u Kx
     |_=>show q.elim
  |_=>show p.elim
end
section
theorem oW:∀{vs:List dV}{ss:List Str},RE vs ss->∀(i:Nat) (v:dV),vs[i]?=a5 v->∃x t,ss[i]?=a5 x/\v=.str x t
 |_,_,.nil,i,v,h=>by simp at h
 |_,_,.cons x t h,0,v,e=>by simp at e;show⟨x,t,rfl,e.symm⟩
 |_,_,.cons x t h,i+1,v,e=>by rw[Up]at e;rw[Up];show oW h i v e
theorem iN:∀{vs:List dV}{ss:List Str},RE vs ss->vs.length=ss.length
 |_,_,.nil=>rfl
 |_,_,.cons x t h=>by simp[iN h]
def uR(a:n≠S)(b:n≠l):n∉[S,l]:=by simp[a,b]
def fT(j:A.handled=b6)(hl:s.heap.IsList l vs.toArray)(f:RE vs a)(c:a.length+1<y1)
  (h:∀(h':DD) (k:Nat),aR prog w h' s.heap.objs.size (aH w) (aJ a)->(∀b o,b<s.heap.objs.size->s.heap.get? b=a5 o->h'.get? b=a5 o)->Q (.ref s.heap.objs.size) {s with heap:=h',toks:=k}) :
  d4 (fS prog w) A (Oz (.type "set") [.ref l]) Q E s:=by
 have g:l<s.heap.objs.size:=let ⟨o,ho,_⟩:=hl;et ho;show iM hl.typeIs PySem.F.sub_list_set PySem.F.sub_list_frozenset (by decide) c (λs1 B Q' m hk d n=>?_) h;have Nb:s1.heap.IsList l vs.toArray:=let ⟨o,ho,r⟩:=hl;⟨o,hk _ _ ho,r⟩;show UN Nb ?_;have p:l≠s1.heap.objs.size:=gj (Q3 g d);have W:=(XZ (prog:=prog) (w:=w) (A:=B.in1) (by simp[m,j]) s1.heap.objs.size l p vs.toArray).toS;have q:vs.toArray.size=a.length:=by simp[iN f]
 rw[q]at W;show n _ _ _ _ _ _ _ W (λ_ _ e=>e) (uR (gj d) (B' g)) (λb c=>by rw[i3.mp c];show d) (λi v t=>oW f i v (by simpa using t)) ⟨⟨_,fx _ rfl,rfl,rfl⟩,Nb.push _⟩ λb o e=>cL _ e
def gR(j:A.handled=b6)(hl:s.heap.IsTuple l vs.toArray)(f:RE vs a)(c:a.length+1<y1)
  (h:∀(h':DD) (k:Nat),aR prog w h' s.heap.objs.size (aH w) (aJ a)->(∀b o,b<s.heap.objs.size->s.heap.get? b=a5 o->h'.get? b=a5 o)->Q (.ref s.heap.objs.size) {s with heap:=h',toks:=k}) :
  d4 (fS prog w) A (Oz (.type "set") [.ref l]) Q E s:=by
 have g:l<s.heap.objs.size:=let ⟨o,ho,_⟩:=hl;et ho;show iM hl.typeIs sub_tuple_set sub_tuple_frozenset (by decide) c (λs1 B Q' m hk d n=>?_) h;have Nb:s1.heap.IsTuple l vs.toArray:=let ⟨o,ho,r⟩:=hl;⟨o,hk _ _ ho,r⟩;show QV Nb ?_;have p:l≠s1.heap.objs.size:=gj (Q3 g d);have W:=(Walks.tuple (prog:=prog) (w:=w) (A:=B.in1) (by simp[m,j]) s1.heap.objs.size l p vs.toArray).toS;have q:vs.toArray.size=a.length:=by simp[iN f]
 rw[q]at W;show n _ _ _ _ _ _ _ W (λ_ _ e=>e) (uR (gj d) (B' g)) (λb c=>by rw[i3.mp c];show d) (λi v t=>oW f i v (by simpa using t)) ⟨⟨_,fx _ rfl,rfl,rfl⟩,let ⟨o,ho,r⟩:=Nb;⟨o,cL _ ho,r⟩⟩ λb o e=>cL _ e
def oX(a:n≠0)(h:∀i<n,Q i {s with drawn:=s.drawn.bump src}):d4 M A (choose src n) Q E s:=λΓ p b=>by
 change Sem.wp M Γ (.choose src n .pure) _ _ p s;rw[Sem.wp_choose];show⟨a,h _ (Y5 _ (Nat.pos_of_ne_zero a))⟩
theorem ib:∀{xs:List α}{i:Nat}{x:α},xs[i]?=a5 x->(x::xs.eraseIdx i).Perm xs
 |[],i,x,h=>by simp at h
 |y::a,0,x,h=>by simp at h;subst h;show .refl _
 |y::a,i+1,x,h=>by
  rw[Up]at h;rw[UC];show(à y x _).trans ((ib h).cons y)
theorem gS:∀(n:Nat) (xs:List α) (s:eH) (Q:List α->eH->Prop),xs.length=n->(∀a d,a.Perm xs->Q a {s with drawn:=d})->d4 M A (drawOrder n xs) Q E s
 |0,xs,s,Q,b,h=>by
  have:xs=[]:=Uo.mp b;subst this;show df (h [] s.drawn (.refl _))
 |n+1,[],s,Q,b,h=>by simp at b
 |n+1,y::a,s,Q,b,h=>by
  change d4 M A (choose .order (y::a).length >>= _) Q E s;show bD (oX (by simp) λi c=>?_);have e:(y::a)[i]?=a5 ((y::a)[i]'c):=l' c;have f:=ib e;generalize (y::a)[i]'c=x at e f;simp only[e];show bD (gS n _ _ _ (by have:=f.length_eq;simp at this b ⊢;lia) λzs d hz=>?_);show df (h (x::zs) d ((hz.cons x).trans f))
theorem jV(next:Nat->Nat):∀(fuel k:Nat) (left:List α) (out:Array α),left.length=fuel->(XR next fuel k left out).toList.Perm (out.toList++left)
 |0,k,left,out,hl=>by
  have:left=[]:=Uo.mp hl;subst this;simp[XR]
 |fuel+1,k,left,out,hl=>by
  unfold XR;have a:next k % left.length<left.length:=Y5 _ ⋯;have e:left[next k % left.length]?=a5 (left[next k % left.length]'a):=l' a;have b:=ib e;generalize left[next k % left.length]'a=x at e b;simp only[e];show(jV next fuel _ _ _ (by have:=b.length_eq;simp at this;lia)).trans ?_;rw[é,ā];show(b.append_left _)
def dJ(next:Nat->Nat)(xs:Array α):(YP next xs).toList.Perm xs.toList:=by
 have:=jV next xs.size 0 xs.toList #[] (by simp);simpa[YP] using this
end
namespace SI
def qv:Manifest.owners.lookup (String.ofList ['r','o','t','a','r','e','t','i','_','t','e','s'].reverse)=a5 Manifest.sig_set_iterator:=by kernel_rfl
def slot_next:Slot "set_iterator" "__next__" "set_iterator.__next__" :=
 .of (owner:="set_iterator") (n:="__next__") (by rw[Tt,OW];kernel_rfl) (by decide +kernel) (by decide +kernel) (by decide +kernel)
  (by first|show .inl (by decide +kernel)|show .inr (by decide +kernel)) (by rw[Ue];kernel_rfl)
def entry_next:Å Ũ "set_iterator.__next__"=a5 Mx.«set_iterator.__next__»:=Ŗ (by kernel_rfl)
def args_next(a:dV):ű "set_iterator.__next__" ⟨[a],[]⟩:=by
 unfold ű;rw[signature?_of (id:="set_iterator.__next__") (n:=['_','_','t','x','e','n','_','_']) (o:=['r','o','t','a','r','e','t','i','_','t','e','s']) (by kernel_rfl) qv];kernel_rfl
def nv:Slot "set_iterator" "__iter__" "set_iterator.__iter__" :=
 .of (owner:="set_iterator") (n:="__iter__") (by rw[Tt,OW];kernel_rfl) (by decide +kernel) (by decide +kernel) (by decide +kernel)
  (by first|show .inl (by decide +kernel)|show .inr (by decide +kernel)) (by rw[Ue];kernel_rfl)
def w_(a:dV):ű "set_iterator.__iter__" ⟨[a],[]⟩:=by
 unfold ű;rw[signature?_of (id:="set_iterator.__iter__") (n:=['_','_','r','e','t','i','_','_']) (o:=['r','o','t','a','r','e','t','i','_','t','e','s']) (by kernel_rfl) qv];kernel_rfl
def sr:Å Ũ "set_iterator.__iter__"=a5 Mx.«dict_keyiterator.__iter__» :=
 Ä (id':="dict_keyiterator.__iter__") (by kernel_rfl) (by first|rfl|decide +kernel|(unfold String.splitOn;simp +decide [String.splitOnAux])) (by decide +kernel) (by kernel_rfl)
def lb:Å Ũ "set.__iter__"=a5 Mx.«frozenset.__iter__» :=
 Ä (id':="frozenset.__iter__") (by kernel_rfl) rfl (by decide +kernel) (by kernel_rfl)
end SI
section
variable{prog:t8}{w:vl}{A:N7}{E:dV->eH->Prop}{s:eH}
abbrev ic(h:DD)(I:ez)(first:dV)(i:Nat)(S:ez)(n ep:Nat):Prop:=∃o,h.get? I=a5 o/\o.cls=.type "set_iterator"/\o.data=.fields #[first,t7 i,.ref S,t7 n,t7 ep]
def ic.typeIs(x:ic s.heap I f i S n ep):s.TypeIs (.ref I) "set_iterator":=let ⟨o,ho,a,_⟩:=x;⟨o,ho,a⟩
def B8(a:ic s.heap I f i S n ep)(h:Q (.ref I) s):d4 (fS prog w) A (Ã (.ref I)) Q E s:=by
 show Ľ a.typeIs SI.nv (x3 SI.nv a.typeIs SI.sr ?_ (SI.w_ _));change d4 _ _ (ret (.ref I)) _ _ s;show df ⟨_,rfl,"set_iterator",_,a.typeIs,SI.slot_next.lookup,h⟩
def cG(h:Q (M.w.params.followText "set-order") s):d4 M A ĭ Q E s:=by
 unfold ĭ;show bD (R8 (df h))
end
end L2
namespace L2
open PySem PySem.Spec PyProof.Rows
section
variable{prog:t8}{w:vl}{A:N7}{E:dV->eH->Prop}{s:eH}
@[reducible]def oY(es:Array (Int×dV))(ep:Nat)(t:Pp):Obj:={cls:=.type "set",dict:=b6,data:=.set es ep t}
def qw{I:ez}{B:N7}{Q:Option dV->eH->Prop}{c:DD}{k:dV->Sem (Option dV)}(d:B.handled=b6)
  (f:∀h',(∀b o,c.get? b=a5 o->h'.get? b=a5 o)->∀e,TC {s with heap:=h' } e "StopIteration"->E e {s with heap:=h' }) {Q':Fin->eH->Prop} :
  d4 (fS prog w) B (ì (.type "StopIteration") [] >>= λe=>(Â e:Sem Fin)) Q' E {s with heap:=c}:=by
 show bD ?_;simp only[ì,ū];show bD (vu ?_ (by size_fits));show bD (m:=Wr _ _) (Y7 (a:=mA) (by first|rfl|(simp only[Wr];rfl)) ?_);show vu ?_ (by size_fits);simp only[Â];show bD (wpAny_handled ?_);rw[d];show bD (df (wpAny_throw ?_));show f _ (λb o e=>cL _ (cL _ e)) _ ⟨_,fx _ rfl,rfl⟩
def uS{I S:ez}{first:dV}{i ep:Nat}{es:Array (Int×dV)}{t:Pp}(d:ic s.heap I first i S es.size ep)(ho:s.heap.get? S=a5 (oY es ep t))(j:t.fits es.size=b8)
  (k:∀(Q':Fin->eH->Prop) (h:dV->eH->Prop) ,(∀v s',Q (a5 v) s'->Q' (.done (.ret v)) s')->(∀e s',s'.TypeIs e "StopIteration"->Q b6 s'->h e s') ->
   d4 (fS prog w) A.in1 (if let .int slot _:=first then(do
     match <-XM S slot.toNat i ep with
     |some (x,next) =>
      XN (.ref I) 0 (t7 next)
      XN (.ref I) 1 (t7 ((i:Int)+1))
      ret x
     |none=>XN (.ref I) 2 .none;Â (<-ì (.type "StopIteration") []))
    else(do
     let a5 c <-ã first|unsupported "internal:set_iterator"
     match c[i]? with
     |some (.int f _) =>
      let x <-ë S f.toNat ep
      XN (.ref I) 1 (t7 ((i:Int)+1))
      ret x
     |some _=>Y9 "internal:set_iterator"
     |none=>XN (.ref I) 0 (t7 0);XN (.ref I) 2 .none;Â (<-ì (.type "StopIteration") []))) Q' h s):d4 (fS prog w) A (Ud (.ref I)) Q E s:=by
 have⟨o,l,n,m⟩:=id d;unfold Ud;show bD (wpAny_attempt (Rk (name:=Sx "__next__") d.typeIs SI.slot_next
  (x3 SI.slot_next d.typeIs SI.entry_next ?_ (SI.args_next _))))
 unfold Mx.«set_iterator.__next__»;show bD (Y7 (a:=(hU I,[])) rfl ?_)
 try dsimp only
 show bD (wpAny_fieldsOf l m ?_)
 try dsimp only
 show bD (TB ho rfl j ?_);rw[ž (by simp)];show qb (k (λg s'=>∃r,g=.done (.ret r)/\Q (a5 r) s') (λe s'=>s'.TypeIs e "StopIteration"/\Q b6 s') (λv s' q=>⟨v,rfl,q⟩) λe s' z q=>⟨z,q⟩) ?_ ?_
 .rintro g s' ⟨r,rfl,q⟩;show⟨r,rfl,df q⟩
 .rintro e s' ⟨z,q⟩;show bD (Pz (T:="StopIteration") (b:=b8) z Ŭ ?_);show df q
end
section
def uT{I S:ez}{f f':dV}{i n ep:Nat}{h:DD}{o:Obj}(b:h.get? I=a5 o)(c:o.cls=.type "set_iterator")(a:o.data=.fields #[f,t7 i,.ref S,t7 n,t7 ep]):
  ic (h.update I (Ň (·.setIfInBounds 1 (t7 ((i:Int)+1))))) I f (i+1) S n ep :=
 ⟨_,tj _ b (Ve (N5 a _)),(WO ..).trans c,by rw[N5 a];simp⟩
def qx{h:DD}(b:h.get? I=a5 o)(c:o.cls=.type "set_iterator")(a:o.data=.fields #[f,t7 i,.ref S,t7 n,t7 ep]):
  ∃o',(h.update I (Ň (·.setIfInBounds 0 f'))).get? I=a5 o'/\o'.cls=.type "set_iterator"/\o'.data=.fields #[f',t7 i,.ref S,t7 n,t7 ep] :=
 ⟨_,tj _ b (Ve (N5 a _)),(WO ..).trans c,by rw[N5 a];simp⟩
def yM{I S:ez}{slot i ep:Nat}{es:Array (Int×dV)}{t:Pp}{Q:Option dV->eH->Prop}(a:ic s.heap I (t7 slot) i S es.size ep)(ho:s.heap.get? S=a5 (oY es ep t))(j:t.fits es.size=b8)(l:A.handled=b6)
  {r:Option (dV×Nat)} (m:∀(B:N7) (f:dV->eH->Prop) (Q':Option (dV×Nat)->eH->Prop),Q' r s->d4 (fS prog w) B (XM S slot i ep) Q' f s)
  (n:∀x nx,r=a5 (x,nx)->∀h',ic h' I (t7 nx) (i+1) S es.size ep->qp I s.heap h'->Q (a5 x) {s with heap:=h' })
  (q:r=b6->∀h',(∀b o,b≠I->s.heap.get? b=a5 o->h'.get? b=a5 o)->Q b6 {s with heap:=h' }):d4 (fS prog w) A (Ud (.ref I)) Q E s:=by
 show uS a ho j λQ' f u v=>?_;have⟨o,c,y,d⟩:=id a;change d4 _ _ (XM S slot i ep >>= _) _ _ s;show bD (m _ _ _ ?_);cases r with
 |some p =>
  have⟨x,nx⟩:=p
  dsimp only
  show bD (NC c d (by simp) ?_);have⟨o',g,z,h⟩:=qx (f':=t7 nx) c y d;show bD (NC (s:={s with heap:=_}) g h (by simp) ?_);show df (u _ _ (n x nx rfl _ (uT (f':=t7 nx) g z h) ((wh ..).trans (wh ..))))
 |none =>
  dsimp only
  show bD (NC c d (by simp) ?_);show qw (I:=I) (k:=λ_=>pure b6) (Q:=λ_ _=>True) (s:=s) (by simpa using l) λh' hk e C=>v e _ C (q rfl h' λb D G H=>hk b D ?_);rw[Pj _ _ _ _ G];show H
def Fq{I S T:ez}{i ep:Nat}{es:Array (Int×dV)}{t:Pp}{pl:List Nat}{Q:Option dV->eH->Prop}(a:ic s.heap I (.ref T) i S es.size ep)(ho:s.heap.get? S=a5 (oY es ep t))(l:t.fits es.size=b8)(q:A.handled=b6)
  (r:s.heap.IsTuple T ((pl.map λ(j:Nat)=>t7 j).toArray))
  (u:∀(j:Nat) (e:Int×dV),pl[i]?=a5 j->es[j]?=a5 e->∀h',ic h' I (.ref T) (i+1) S es.size ep->qp I s.heap h'->Q (a5 e.2) {s with heap:=h' })
  (v:∀j∈pl,j<es.size)
  (x:pl[i]?=b6->∀h',(∀b o,b≠I->s.heap.get? b=a5 o->h'.get? b=a5 o)->Q b6 {s with heap:=h' }):d4 (fS prog w) A (Ud (.ref I)) Q E s:=by
 show uS a ho l λQ' O y z=>?_;have⟨o,c,m,d⟩:=id a;have⟨Y,B,C,nT,D⟩:=r;change d4 _ _ (ã (.ref T) >>= _) _ _ s;show bD (Ua B D ?_);cases e:pl[i]? with
 |some j =>
  have f:(pl.map λ(j:Nat)=>t7 j).toArray[i]?=a5 (t7 j):=by simp[e]
  simp only[f];have g:j<es.size:=v j (mh e);have h:es[j]?=a5 (es[j]'g):=by simp[g]
  change d4 _ _ (ë S (j:Int).toNat ep >>= _) _ _ s;unfold ë;rw[OO];show bD (bD (my ho rfl l ?_))
  dsimp only
  rw[ž (by simp)];generalize es[j]'g=p at h;simp only[h];show df ?_;show bD (NC c d (by simp) ?_);show df (y _ _ (u j p e h _ (uT (f':=.ref T) c m d) (wh ..)))
 |none =>
  have f:(pl.map λ(j:Nat)=>t7 j).toArray[i]?=b6:=by simp at e ⊢;show e
  simp only[f];show bD (NC c d (by simp) ?_);have⟨o',G,e2,H⟩:=qx (f':=t7 0) c m d;show bD (NC (s:={s with heap:=_}) G H (by simp) ?_);show qw (I:=I) (k:=λ_=>pure b6) (Q:=λ_ _=>True) (s:=s) (by simpa using q) λh' hk ex J=>z ex _ J (x e h' λb L n N=>hk b L ?_);rw[Pj _ _ _ _ n,Pj _ _ _ _ n];show N
end
section
def ic.at(x:ic h I f i S n ep)(e:∀o,h.get? I=a5 o->h'.get? I=a5 o):ic h' I f i S n ep:=let ⟨o,ho,r⟩:=x;⟨o,e _ ho,r⟩
def lh(r:A.handled=b6)(n:S≠I)(u:t.fits es.size=b8)(T:ez)(p:T≠I)(c:List dV)(k:c.length=es.size)
  (first:Nat->dV) (a:DD->Prop) (l:∀h h',a h->(∀o,h.get? T=a5 o->h'.get? T=a5 o)->a h')
  (m:∀(s:eH) (i:Nat) (E:dV->eH->Prop) (Q:Option dV->eH->Prop),i<=es.size->a s.heap->ic s.heap I (first i) i S es.size ep->s.heap.get? S=a5 (oY es ep t) ->
   (∀x,c[i]?=a5 x->∀h',ic h' I (first (i+1)) (i+1) S es.size ep->qp I s.heap h'->Q (a5 x) {s with heap:=h' }) ->
   (c[i]?=b6->∀h',(∀b o,b≠I->s.heap.get? b=a5 o->h'.get? b=a5 o)->Q b6 {s with heap:=h' })->d4 (fS prog w) A (Ud (.ref I)) Q E s) :
  Walks prog w A I [I,S,T] [I] es.size (λi v=>c[i]?=a5 v) (λi h=>i<=es.size/\ic h I (first i) i S es.size ep/\h.get? S=a5 (oY es ep t)/\a h) where
 sub:=λb d=>by rw[i3.mp d];simp
 frame:=λi h h' x hk=>⟨x.1,x.2.1.at λo e=>hk I (by simp) o e,hk S (by simp) _ x.2.2.1,l h h' x.2.2.2 λo e=>hk T (by simp) o e⟩
 item:=λi s Q E q x f=>by
  show m s i E Q x.1 x.2.2.2 x.2.1 x.2.2.1 (λv g h' j hs=>?_) λz=>absurd z (by simp;lia);show f v h' s.toks g ⟨q,j,?_,l _ h' x.2.2.2 λo e=>?_⟩ λb o d e=>?_
  .rw[hs.2 S n];show x.2.2.1
  .rw[hs.2 T p];show e
  .rw[hs.2 b λz=>d (by simp[z])];show e
 done:=λs Q E x f=>by
  show m s es.size E Q x.1 x.2.2.2 x.2.1 x.2.2.1 (λv g=>absurd g (by rw[Ru ⋯];simp)) λ_ h' hk=>f h' s.toks λb o d e=>hk b o (λz=>d (by simp[z])) e
 self:=λi s Q E x f=>B8 x.2.1 f
def oZ(ho:s.heap.get? S=a5 (oY es ep t))(a:t.fits es.size=b8)(h:Q (!w.params.followText "set-order"&&(!t.plain&&c4 (es.size>1))) s):d4 (fS prog w) A (setDrawn S) Q E s:=by
 unfold setDrawn;show bD (my ho rfl a ?_)
 dsimp only
 show bD (cG (df h))
def o_(a:w.params.followText "set-order"=b8)(ho:s.heap.get? S=a5 (oY es ep t))(b:t.fits es.size=b8)
  (h:Q ((YP (w.params.setOrder S ep) es)[i]?.map λe=>(e.2,0)) s):d4 (fS prog w) A (XM S 0 i ep) Q E s:=by
 unfold XM;show bD (my ho rfl b ?_)
 dsimp only
 show bD (cG ?_);change d4 _ _ (if (w.params.followText "set-order")=b8 then _ else _) _ _ s;rw[Ž a];rw[ž (by simp)];unfold setWalk;show bD (bD (my ho rfl b ?_))
 dsimp only
 show bD (cG ?_);change d4 _ _ (if (w.params.followText "set-order")=b8 then _ else _) _ _ s;rw[Ž a];show bD (R8 (df ?_));show df h
theorem qy(hw:w.params.followText "set-order"=cc)(ho:s.heap.get? S=a5 (oY es ep t))(hf:t.fits es.size=b8)(hl:t.led=b8)(h1:es.size<=1)
    (h:Q (match es[MI t.place slot]?,t.place[MI t.place slot]? with|some (_,x),a5 j=>a5 (x,j+1)|_,_=>b6) s):d4 (fS prog w) A (XM S slot i ep) Q E s:=by
  unfold XM;refine bD (my ho rfl hf ?_)
  dsimp only
  refine bD (cG ?_);show d4 _ _ (if (w.params.followText "set-order")=b8 then _ else _) _ _ s;rw[ž (by rw[hw];simp)];show d4 _ _ (if (!t.plain&&c4 (es.size>1))=b8 then _ else _) _ _ s
  rw [if_neg (by have : decide (es.size > 1) = false := decide_eq_false (by lia)
                 rw[this];simp)]
  show d4 _ _ ((if (!t.led&&!es.isEmpty)=b8 then _ else _) >>= _) _ _ s;rw[ž (by rw[hl];simp)];exact bD (df (df h))
def qz(es:Array (Int×dV))(pl:Array Nat)(i:Nat)(b:es.size<=1)(c:pl.size=es.size)(a:i<=es.size):
  (match es[MI pl (if i=0 then 0 else(pl[0]?).getD 0+1)]?,pl[MI pl (if i=0 then 0 else(pl[0]?).getD 0+1)]? with|some (_,x),a5 j=>a5 (x,j+1)|_,_=>b6)=es[i]?.map λe=>(e.2,(pl[0]?).getD 0+1):=by
 have⟨es⟩:=es;have⟨pl⟩:=pl
 match es,pl,b,c,a with
 |[],[],_,_,a=>simp
 |[e],[p],_,_,a =>
  match i,a with
  |0,_ =>
   have:MI #[p] 0=0:=by simp[MI,X6]
   simp[this]
  |1,_ =>
   have:MI #[p] (p+1)=1:=by simp[MI,X6]
   simp[this]
  |n+2,h=>simp at h
 |[],_::_,_,h,_=>simp at h
 |[_],[],_,h,_=>simp at h
 |[_],_::_::_,_,h,_=>simp at h
 |_::_::_,_,h,_,_=>simp at h
def yN(C:B.handled=b6)(hS:aR prog w s.heap S (aH w) D)
  (h:∀(I:ez) (fp:List ez) (n:Nat) (P:Nat->dV->Prop) (St:Nat->DD->Prop) (c:List Str) (h':DD) (d':Drawn),Walks prog w B I fp [I] n P St->c.Perm D->n=c.length->(∀i v,P i v->∃x T,c[i]?=a5 x/\v=.str x T)->s.heap.objs.size<=I->(∀b∈fp,b=S\/s.heap.objs.size<=b)->St 0 h' ->
   (∀b o,s.heap.get? b=a5 o->h'.get? b=a5 o)->Q (.ref I) {s with heap:=h',drawn:=d' }):d4 (fS prog w) A (Ã (.ref S)) Q E s:=by
 have⟨L,es,ep,t,ho,K1,Y,Kk,a,d,K9,KD⟩:=hS;have Wy:s.TypeIs (.ref S) "set":=⟨_,ho,rfl⟩
 have NJ:S<s.heap.objs.size:=et ho;show Ľ Wy PySem.F.slot_set_iter (x3 PySem.F.slot_set_iter Wy SI.lb ?_ (PySem.F.args_set_iter_1 _));unfold Mx.«frozenset.__iter__» Ĕ slotArgs;simp only[List.isEmpty_nil,Ļ,L3,↓reduceIte,bind_assoc,Xl,bne_self_eq_false];unfold VH Rp;show bD (df ?_)
 try dsimp only
 show bD (df ?_);show bD (bD (TB ho rfl a (df ?_)));have SG:D.length=es.size:=by rw[<-Y.length_eq,c2,<-hY,K1,c2]
 have f:∀(l:List (Int×dV)),l.Perm es.toList->∃c:List Str,c.Perm D/\c.length=es.size/\∀(i:Nat) (v:dV),(l.map (·.2))[i]?=a5 v->∃(x:Str) (T:Tok),c[i]?=a5 x/\v=sL x T:=by
  intro l hl;rw[K1]at hl;have⟨L',e',p'⟩:=c9 hl;show⟨L'.map (·.1),(p'.map _).trans Y,by rw[((p'.map _).trans Y).length_eq,SG],λi v G=>?_⟩;subst e';rw[i9,i7]at G;rw[i7];cases q:L'[i]? with
  |none=>rw[q]at G;simp at G
  |some p=>rw[q]at G;simp at G;show⟨p.1,p.2,rfl,G.symm⟩
 show bD (oZ ho a ?_);cases hw:w.params.followText "set-order" with
 |true =>
  simp only[Ļ,Vq,L3,↓reduceIte];show bD (df ?_);show bD (bD (my ho rfl a (df ?_)));show bD (vu ?_);have m:S≠s.heap.objs.size:=gj NJ;have⟨c,H,J,N⟩:=f (YP (w.params.setOrder S ep) es).toList (dJ _ _);have W:=lh (prog:=prog) (w:=w) (A:=B) (I:=s.heap.objs.size) (S:=S) (es:=es) (ep:=ep) (t:=t) C m a S m ((YP (w.params.setOrder S ep) es).toList.map (·.2)) (by rw[c2,(dJ _ _).length_eq,hY]) (λ_=>t7 0) (λ_=>True) (λ_ _ _ _=>trivial)
   (λs i E Q _ _ g u k1 k2=>yM (slot:=0) g u a C (λB E' Q' q=>o_ hw u a q) (λx nx e h' O hs=>by
    rw[d5]at e;have⟨p,y,e2⟩:=e;cases e2;show k1 _ (by rw[i7,qt,y];rfl) h' O hs) (λe=>k2 (by rw[i7,qt,Ul];rwa [Ul]at e)))
  show df ⟨_,rfl,"set_iterator",_,⟨_,fx _ rfl,rfl⟩,SI.slot_next.lookup,?_⟩;show h _ _ _ _ _ c _ s.drawn W H J.symm N (i0 _) (λb d=>by
   simp only[d6,Um,or_false]at d;rcases d with rfl|rfl|rfl
   .show .inr (i0 _)
   .show .inl rfl
   .show .inl rfl) ⟨kr _,⟨_,fx _ rfl,rfl,rfl⟩,cL _ ho,trivial⟩ λb o e=>cL _ e
 |false =>
  by_cases hsz:es.size>1
  .have Lf:t.plain=cc:=by
    rcases KD with z|z
    .lia
    .show z
   have y:(!cc&&(!t.plain&&c4 (es.size>1)))=b8:=by rw[Lf,Α hsz];rfl
   rw[y];simp only[↓reduceIte];show bD (gS _ _ _ _ uv λpl d' hp=>?_);simp only[ū];have Ox:∀j∈pl,j<es.size:=λj hj=>by have:=hp.mem_iff.mp hj;simpa using this
   have Rm:pl.length=es.size:=by rw[hp.length_eq];simp
   show bD (vu ?_ (by
    change(pl.map λ(j:Nat)=>t7 j).toArray.size<=_;have:es.size<4096:=d;simp only[hQ,c2,Rm];have:(4096:Nat)<=cK:=by decide
    lia))
   have Nf:(s.heap.push {cls:=.type "tuple",data:=.seq (pl.map λ(j:Nat)=>t7 j).toArray}).get? S=a5 (oY es ep t):=cL _ ho;show bD (bD (my (s:={s with heap:=_,drawn:=d' }) Nf rfl a (df ?_)));show bD (vu ?_);have YG:s.heap.objs.size≠(s.heap.push {cls:=.type "tuple",data:=.seq (pl.map λ(j:Nat)=>t7 j).toArray}).objs.size:=by rw[KA];show gj (Ph _)
   have m:S≠(s.heap.push {cls:=.type "tuple",data:=.seq (pl.map λ(j:Nat)=>t7 j).toArray}).objs.size:=by rw[KA];show gj (Q4 NJ)
   have PB:(pl.map λj=>(es[j]?).getD (0,mA)).Perm es.toList:=by
    show(hp.map _).trans ?_;have:(gs es.size).map (λj=>(es[j]?).getD (0,mA))=es.toList:=by
     apply LF
     .simp
     .intro i h1 h2;simp at h1 ⊢;simp[h1]
    rw[this]
   have⟨c,H,J,N⟩:=f _ PB;have W:=lh (prog:=prog) (w:=w) (A:=B) (I:=(s.heap.push {cls:=.type "tuple",data:=.seq (pl.map λ(j:Nat)=>t7 j).toArray}).objs.size) (S:=S) (es:=es) (ep:=ep) (t:=t) C m a s.heap.objs.size YG ((pl.map λj=>(es[j]?).getD (0,mA)).map (·.2)) (by simp[Rm]) (λ_=>.ref s.heap.objs.size) (λh=>h.IsTuple s.heap.objs.size (pl.map λ(j:Nat)=>t7 j).toArray) (λh h' ⟨o,ho,r⟩ k=>⟨o,k _ ho,r⟩)
    (λs' i E Q _ M1 g u k1 k2=>Fq g u a C M1 (λj e ej ee h' O hs=>k1 _ (by rw[i7,i7,ej];simp[ee]) h' O hs) Ox (λe=>k2 (by rw[i7,i7,e];rfl)))
   show df ⟨_,rfl,"set_iterator",_,⟨_,fx _ rfl,rfl⟩,SI.slot_next.lookup,?_⟩;show h _ _ _ _ _ c _ d' W H J.symm N (by rw[KA];show Ls _) (λb d=>?_) ⟨kr _,⟨_,fx _ rfl,rfl,rfl⟩,cL _ Nf,⟨_,cL _ (fx _ rfl),rfl,_,rfl⟩⟩ λb o e=>cL _ (cL _ e);rw[KA]at d;simp only[d6,Um,or_false]at d;rcases d with rfl|rfl|rfl
   .show .inr (Ls _)
   .show .inl rfl
   .show .inr (i0 _)
  .have y:(!cc&&(!t.plain&&c4 (es.size>1)))=cc:=by rw[ſ hsz];simp
   rw[y];simp only[L3,↓reduceIte];show bD (df ?_);show bD (bD (my ho rfl a (df ?_)));show bD (vu ?_);have m:S≠s.heap.objs.size:=gj NJ;have YH:t.led=b8:=by rw[K9];change(!w.params.followText "set-order")=b8;rw[hw];rfl
   have⟨c,H,J,N⟩:=f es.toList (.refl _);have MB:t.place.size=es.size:=by
    unfold SU at a;simp only[cb,beq_iff_eq]at a;show a.1
   have W:=lh (prog:=prog) (w:=w) (A:=B) (I:=s.heap.objs.size) (S:=S) (es:=es) (ep:=ep) (t:=t) C m a S m (es.toList.map (·.2)) (by simp) (λi=>t7 ((if i=0 then 0 else(t.place[0]?).getD 0+1:Nat):Nat)) (λ_=>True) (λ_ _ _ _=>trivial)
    (λs' i E Q hi _ g u k1 k2=>yM (slot:=if i=0 then 0 else(t.place[0]?).getD 0+1) g u a C (λB E' Q' q=>qy hw u a YH ⋯ q) (λx nx e h' O hs=>by
     rw[qz es t.place i ⋯ MB hi,d5]at e;have⟨p,y,e2⟩:=e;cases e2;show k1 _ (by rw[i7,qt,y];rfl) h' ?_ hs;rw[ž (Nat.succ_ne_zero i)];show O) (λe=>by
     rw[qz es t.place i ⋯ MB hi,Ul]at e;show k2 (by rw[i7,qt,e];rfl)))
   show df ⟨_,rfl,"set_iterator",_,⟨_,fx _ rfl,rfl⟩,SI.slot_next.lookup,?_⟩;show h _ _ _ _ _ c _ s.drawn W H J.symm N (i0 _) (λb d=>by
    simp only[d6,Um,or_false]at d;rcases d with rfl|rfl|rfl
    .show .inr (i0 _)
    .show .inl rfl
    .show .inl rfl) ⟨kr _,⟨_,fx _ rfl,rfl,rfl⟩,cL _ ho,trivial⟩ λb o e=>cL _ e
end
def qA:QW (.type "set") "__len__"=pure (a5 (.builtin "set.__len__")):=by rw[Tt,OW];kernel_rfl
section
theorem lj:∀{vs:List dV}{a:List Str},vs.length=a.length->(∀(i:Nat) (v:dV),vs[i]?=a5 v->∃x t,a[i]?=a5 x/\v=.str x t)->RE vs a
 |[],[],_,_=>.nil
 |[],_::_,h,_=>by simp at h
 |_::_,[],h,_=>by simp at h
 |v::vs,y::a,h,k=>by
  have⟨x,t,b,c⟩:=k 0 v rfl;cases b;subst c;show .cons y t (lj (by simpa using h) λi w d=>k (i+1) w d)
def qB(J:A.handled=b6)(N:aR prog w s.heap S (aH w) D)(O:D.length<=cK)
  (T:∀(vs:List dV) (c:List Str) (h':DD) (d':Drawn) (h:Nat),c.Perm D->RE vs c->s.heap.objs.size<=h'.objs.size->s.toks<=h->(∀b o,s.heap.get? b=a5 o->h'.get? b=a5 o)->Q vs {s with heap:=h',drawn:=d',toks:=h}) :
  d4 (fS prog w) A (í (.ref S)) Q E s:=by
 have⟨L,es,ep,t,ho,rest⟩:=id N;have Y:S<s.heap.objs.size:=et ho;unfold í;show bD (À (x2 PySem.F.entry_proto_collect ?_));rw[H0 PySem.F.plain_proto_collect _];change d4 _ A.in1 (ł [] >>= λl=>Ų (.builtin "list.__iadd__" ⟨[l,.ref S],[]⟩)) _ _ s;show bD (vu ?_);show df ⟨Qc PySem.F.plain_list_iadd _,x2 PySem.F.entry_list_iadd ?_⟩;rw[H0 PySem.F.plain_list_iadd _];have f:(s.heap.push {cls:=.type "list",data:=.seq ([]:List dV).toArray}).get? S=a5 {cls:=.type "set",dict:=b6,data:=.set es ep t}:=cL _ ho;have hT:TC {s with heap:=s.heap.push {cls:=.type "list",data:=.seq ([]:List dV).toArray}} (.ref S) "set":=⟨_,f,rfl⟩
 change d4 _ A.in1 (r6 (.ref s.heap.objs.size) (.ref S) (.ref s.heap.objs.size)) _ _ _;unfold r6;show bD (TR hT ?_);have j:s.heap.objs.size≠S:=B' Y;have h1:OB (.ref s.heap.objs.size) (.ref S)=cc:=by simp[OB,j]
 have h2:(ve "set"==ve "list")=cc:=by decide
 have h3:(ve "set"==ve "tuple")=cc:=by decide
 simp only[h1,h2,h3,Pu,L3,if_false];show bD (yN (B:=A.in1) (by simpa using J) ⟨L,es,ep,t,f,rest⟩ ?_);intro I fp n P St c h' d' W k m hP p UL Kf hk;have g:TC {s with heap:=h',drawn:=d' } (.ref S) "set":=⟨_,hk _ _ f,rfl⟩
 show bD (ra ?_);unfold V3;show bD (VT g qA ?_);have LU:splitId "set.__len__"=a5 ("set","__len__"):=by decide +kernel
 dsimp only
 rw[LU]
 dsimp only
 show bD (Pz g XF ?_);rw[ž (by decide)];rw[Ž (by decide +kernel)];show bD (TR g ?_);show df ?_;rw[Ž (by decide +kernel)];have q:s.heap.objs.size∉fp:=λa=>by
  rcases UL _ a with z|z
  .show j z
  .rw[KA]at z;show absurd z (Nat.not_succ_le_self _)
 have r:h'.get? s.heap.objs.size=a5 {cls:=.type "list",data:=.seq ([]:List dV).toArray}:=hk _ _ (fx _ rfl);show bD (Oo ?_);show bD ?_;change d4 _ A.in1 (Œ s.heap.objs.size (·.push .none) >>= λ_=>Œ s.heap.objs.size (·.pop)) _ _ _;show bD (Tr r rfl ?_);have u:=tj (qd (·.push mA)) r rfl;show Tr u rfl ?_;have YI:=tj (qd (·.pop)) u rfl;have x:∀b o,b≠s.heap.objs.size->h'.get? b=a5 o->((h'.update s.heap.objs.size (qd (·.push mA))).update s.heap.objs.size (qd (·.pop))).get? b=a5 o :=
  λb o d e=>(NB _ _ (qP d)).trans ((NB _ _ (qP d)).trans e)
 show df ⟨Qc PySem.F.plain_extend_loop _,Ď W.toS (by rw[m,k.length_eq];show O) _ q _ n 0 _ _ _ rfl (kr _) (W.frame 0 h' _ Kf λb d o e=>x b o (λz=>q (z▸d)) e) YI (Ğ P) λs' K_ c' a y C=>?_⟩;change d4 _ A (load s.heap.objs.size >>= _) _ _ s';show bD (Ĩ y ?_);have⟨OA,g2,G,YJ,YK⟩:=s';have eg:g2=s.gens:=a.gens;have ed:G=d':=a.drawn;have eo:YK=s.os:=a.os;subst eg;subst ed;subst eo;show df (T _ c OA G YJ k (lj (by rw[hY,C.1,m]) λi v hv=>hP i v (C.2 i v (by rwa [qt]at hv))) (Q8 (et y)) a.toks λb o e=>?_);have H:b≠s.heap.objs.size:=λz=>by rw[z]at e;show absurd (et e) (t4 _)
 show a.heap b o (λz=>?_) (x b o H (hk _ _ (cL _ e)));rcases d6.mp z with z|z
 .show H z
 .rw[i3.mp z]at e;have:=et e;rw[KA]at p;show absurd (i5 this (C0 (Ls _) p)) (t4 _)
end
section
def Inv.drawn(I:Inv X a σ H s)(d:Drawn):Inv X a σ H {s with drawn:=d}:=⟨I.ok,I.os,I.bare,I.base,I.loc,I.cell,I.free,I.Ku,I.pin,I.J_,I.len⟩
def pb(j:X.calm=b8)(I:Inv X c σ H s)(hq:Kz X.K H p (d.map V.str)\/KN X.K H p (d.map V.str))(g:d.length+1<y1)
  (h:∀(S:ez) (h':DD) (a:Nat),aR X.prog X.w h' S (aH X.w) (aJ d)->Inv X c σ H {s with heap:=h',toks:=a}->Q (.ref S) {s with heap:=h',toks:=a}) :
  d4 (fS X.prog X.w) X.A (Oz (.type "set") [.ref p]) Q X.xe s:=by
 have i:X.A.handled=b6:=I.ok.hd j;rcases hq with hq|hq
 .have⟨its,rv,pl,hz⟩:=I.list hq;show fT i pl.isList (cF rv) g λh' a f k=>h _ h' a f (I.kept λb o e=>k b o (et e) e)
 .have⟨its,rv,pl,hz⟩:=I.tuple hq;show gR i pl (cF rv) g λh' a f k=>h _ h' a f (I.kept λb o e=>k b o (et e) e)
def gT(i:X.calm=b8)(I:Inv X a σ H s)(j:aR X.prog X.w s.heap S (aH X.w) D)(d:D.length<64)
  (q:∀p,H p=b6->Q (.ref p) (upd H p (.lst ((aU D).map V.str)))):d4 (fS X.prog X.w) X.A (Oz (.builtin "sorted") [.ref S]) (EP X a σ Q) X.xe s:=by
 have k:X.A.handled=b6:=I.ok.hd i;have hl:D.length<=cK:=Q8 (i5 d (by decide));show fj (qB (A:=X.A.in1) (by simpa using k) j hl λvs l h' d' b f g hsz r hk=>⟨l,g,by rw[iN g,f.length_eq];show d,λt m e k2 c s2=>?_⟩);rw[fQ f]at s2;have n:Inv X a σ H {s with heap:=h',toks:=b}:=I.kept (t':=b) hk;have h:Inv X a σ H {s with heap:=h',drawn:=d',toks:=b}:=n.drawn d';show⟨.ref h'.objs.size,_,h.laid (t':=b) (o:=.lst ((aU D).map V.str)) k2 (i0 _) ⟨by rw[c2,dC];show hl,m,e,dE s2,c⟩,rfl,q _ (h.J_.fresh (i0 _))⟩
def su(I:Inv X a σ H s)(c:aR X.prog X.w s.heap S (aH X.w) D)
  (q:Q (.int D.length) H):d4 (fS X.prog X.w) X.A (Oz (.builtin "len") [.ref S]) (EP X a σ Q) X.xe s:=by
 have⟨L,es,ep,t,ho,d,g,j,h,i,k,l⟩:=c;have b:es.size=D.length:=by rw[<-hY,d,c2,<-c2 (f:=Ģ) (as:=L),g.length_eq]
 have m:es.size<4096:=i;show call_len_set ho ⟨rfl,rfl,rfl⟩ rfl h ⋯ ?_;show⟨.int es.size,_,I.kept (t':=s.toks+1+1) (λ_ _ e=>e),⟨_,rfl⟩,by rw[b];show q⟩
end
end L2
namespace L2
open PySem
abbrev dM(mask:Nat):Nat->Nat×Nat->Nat×Nat
 |0,q=>q
 |t+1,q=>dM mask t (ï mask q.1 q.2)
theorem ny(mask:Nat):∀(a b:Nat) (q:Nat×Nat),dM mask (a+b) q=dM mask b (dM mask a q)
 |0,b,q=>by rw[Pf];rfl
 |a+1,b,q=>by rw[show a+1+b=(a+b)+1 by lia];show ny mask a b _
theorem nz(mask:Nat):∀(t:Nat) (q:Nat×Nat),(dM mask t q).2=q.2 / 32 ^ t
 |0,q=>by simp[dM]
 |t+1,q=>by
  change(dM mask t (ï mask q.1 q.2)).2=_;rw[nz mask t];change q.2 / 32 / 32 ^ t=_;rw[Nat.div_div_eq_div_mul,Nat.pow_succ,Nat.mul_comm]
theorem qC(mask:Nat):∀(t:Nat) (q:Nat×Nat),q.1<mask+1->(dM mask t q).1<mask+1
 |0,q,h=>h
 |t+1,q,h=>qC mask t _ (Y5 _ (Í _))
abbrev NM(m:Nat):Nat->Nat->Nat
 |0,i=>i
 |t+1,i=>NM m t ((i * 5+1) % m)
theorem nA(mask:Nat):∀(t i:Nat),dM mask t (i,0)=(NM (mask+1) t i,0)
 |0,i=>rfl
 |t+1,i=>by
  change dM mask t ((i * 5+1+0 / 32) % (mask+1),0 / 32)=(NM (mask+1) t ((i * 5+1) % (mask+1)),0)
  rw[Nat.zero_div,ś];show nA mask t _
theorem kG(m:Nat):∀(a b i:Nat),NM m (a+b) i=NM m b (NM m a i)
 |0,b,i=>by rw[Pf];rfl
 |a+1,b,i=>by rw[show a+1+b=(a+b)+1 by lia];show kG m a b _
abbrev xb(m:Nat):Nat->Nat->List Nat
 |0,_=>[]
 |t+1,i=>i::xb m t ((i * 5+1) % m)
theorem uU(m:Nat):∀(n i t:Nat),t<n->(xb m n i)[t]?=a5 (NM m t i)
 |0,_,_,h=>by lia
 |n+1,i,0,_=>rfl
 |n+1,i,t+1,h=>by
  change(xb m n ((i * 5+1) % m))[t]?=_;show uU m n _ t ⋯
theorem qD(m:Nat):∀(n i:Nat),(xb m n i).length=n
 |0,_=>rfl
 |n+1,i=>by change(xb m n _).length+1=_;rw[qD m n]
abbrev Full(m:Nat):Bool:=(gs m).all (λj=>(xb m m 0).contains j)&&(NM m m 0==0)
def D9:Full 8=b8:=by decide +kernel
def yO:Full 16=b8:=by decide +kernel
def yP:Full 32=b8:=by decide +kernel
def yQ:Full 64=b8:=by decide +kernel
def uV:Full 128=b8:=by decide +kernel
def xf(h:Full m=b8)(l:i<m)(n:j<m):∃t,t<m/\NM m t i=j:=by
 unfold Full at h;rw[cb,i6]at h;have⟨o,d⟩:=h;have d:NM m m 0=0:=by simpa using d
 have get:∀k,k<m->∃a,a<m/\NM m a 0=k:=λk hk=>by
  have:=o k (rr.mpr hk);rw[List.contains_iff_mem]at this;have⟨a,c⟩:=U8.mp this;have e:a<m:=by have:=(dt.mp c).1;rw[qD]at this;show this
  rw[uU m m 0 a e]at c;show⟨a,e,by simpa using c⟩
 have⟨a,c,f⟩:=get i l;have⟨b,p,g⟩:=get j n;by_cases q:a<=b
 .show⟨b - a,⋯,by rw[<-f,<-kG,show a+(b - a)=b by lia,g]⟩
 .show⟨m - a+b,⋯,?_⟩;rw[<-f,<-kG,show a+(m - a+b)=m+b by lia,kG,d,g]
theorem nB:∀(f i p:Nat),uk mask owner f i p=b6->∀t,t<f->(owner.getD (dM mask t (i,p)).1 (a5 0)).isNone=cc
 |0,_,_,_,t,h=>by lia
 |f+1,i,p,h,t,b=>by
  unfold uk at h;cases a:(gs (WE mask i+1 - i)).find? (λk=>(owner.getD (i+k) (a5 0)).isNone) with
  |some k=>rw[a]at h;cases h
  |none =>
   rw[a]at h;cases t with
   |zero =>
    have:=List.find?_eq_none.mp a 0 (rr.mpr (by unfold WE;split<;>lia));rw[ś]at this;change(owner.getD i (a5 0)).isNone=cc;cases e:(owner.getD i (a5 0)).isNone with
    |false=>rfl
    |true=>show absurd e this
   |succ t=>show nB f _ _ h t ⋯
theorem nE:∀(f i p j:Nat),uk mask owner f i p=a5 j->owner[j]?=a5 b6
 |0,_,_,_,h=>by cases h
 |f+1,i,p,j,h=>by
  unfold uk at h;cases b:(gs (WE mask i+1 - i)).find? (λk=>(owner.getD (i+k) (a5 0)).isNone) with
  |some k =>
   rw[b]at h;cases h;have a:=List.find?_some b;have c:i+k<owner.size:=by
    show Classical.byContradiction λz=>?_;have:owner.getD (i+k) (a5 0)=a5 0:=by simp[Wa,z]
    rw[this]at a;cases a
   have d:owner.getD (i+k) (a5 0)=owner[i+k]:=by simp[Wa,c]
   rw[d]at a;rw[Pc c];cases e:owner[i+k] with
   |none=>rfl
   |some _=>rw[e]at a;cases a
  |none =>
   rw[b]at h;show nE f _ _ j h
def B9(c:Full (mask+1)=b8){j0:Nat}(a:owner[j0]?=a5 b6)(hsz:owner.size=mask+1)(d:i<mask+1)(f:p<2 ^ 64):∃j,uk mask owner (RN mask) i p=a5 j/\owner[j]?=a5 b6:=by
 cases e:uk mask owner (RN mask) i p with
 |some j=>show⟨j,rfl,nE _ _ _ _ e⟩
 |none =>
  have g:j0<mask+1:=by rw[<-hsz];show(Array.getElem?_eq_some_iff.mp a).1
  have h:(dM mask 13 (i,p)).2=0:=by
   rw[nz];show Nat.div_eq_of_lt (Q3 f (by decide))
  have⟨t,n,k⟩:=xf c (qC mask 13 (i,p) d) g;have l:dM mask (13+t) (i,p)=(j0,0):=by
   rw[ny,show dM mask 13 (i,p)=((dM mask 13 (i,p)).1,0) from ģ rfl h,nA,k]
  have:=nB _ _ _ e (13+t) (by unfold RN;lia);rw[l]at this;have m:owner.getD j0 (a5 0)=b6:=by
   have b:j0<owner.size:=by lia
   rw[Pc b]at a;simp[Wa,b];show td a
  rw[m]at this;cases this
abbrev vals(L:List (Option Nat)):List Nat:=L.filterMap id
theorem qE:∀{L:List (Option Nat)}{j:Nat},L[j]?=a5 b6->(vals (L.set j (a5 k))).Perm (k::vals L)
 |[],j,h=>by simp at h
 |x::L,0,h=>by
  have:x=b6:=by simpa using h
  subst this;show MG _
 |x::L,j+1,h=>by
  have a:=qE (k:=k) (L:=L) (j:=j) (by simpa using h);cases x with
  |none=>show a
  |some y =>
   change(y::vals (L.set j (a5 k))).Perm (k::y::vals L);show(á y a).trans (à k y _)
theorem nF:∀{L:List (Option Nat)},(vals L).length<L.length->∃j:Nat,L[j]?=a5 b6
 |[],h=>by simp at h
 |none::L,_=>⟨0,rfl⟩
 |some y::L,h=>by
  have⟨j,a⟩:=nF (L:=L) (by
   have:(vals L).length+1<L.length+1:=h;lia)
  show⟨j+1,by simpa using a⟩
theorem yR(d:Full (mask+1)=b8):∀(hs:List Int) (owner:Array (Option Nat)) (k:Nat),owner.size=mask+1->(vals owner.toList).Perm (gs k)->k+hs.length<=mask ->
  ∃c,hs.foldl (λacc h=>do
   let (owner,k) <-acc
   let j <-uk mask owner (RN mask) (O0 h % (mask+1)) (O0 h)
   pure (owner.setIfInBounds j (a5 k),k+1)) (a5 (owner,k))=a5 (c,k+hs.length)/\c.size=mask+1/\(vals c.toList).Perm (gs (k+hs.length))
 |[],owner,k,a,b,_=>⟨owner,rfl,a,b⟩
 |h::hs,owner,k,a,b,f=>by
  rw[kj]at f;have⟨j0,g⟩:=nF (L:=owner.toList) (by rw[b.length_eq,uv,hY];lia);have⟨j,e,l⟩:=B9 d (owner:=owner) (j0:=j0) (by rw[<-qt];show g) a (i:=O0 h % (mask+1)) (p:=O0 h) (Y5 _ (Í _)) (by unfold O0;lia);have m:owner.toList[j]?=a5 b6:=by rw[qt];show l
  have n:(vals (owner.setIfInBounds j (a5 k)).toList).Perm (gs (k+1)):=by
   rw[Array.toList_setIfInBounds,Ě];show(qE m).trans ((á k b).trans (List.perm_append_singleton k _).symm)
  have⟨o',o,q,r⟩:=yR d hs (owner.setIfInBounds j (a5 k)) (k+1) (by rw[Array.size_setIfInBounds];show a) n ⋯;show⟨o',?_,q,by rw[show k+(h::hs).length=k+1+hs.length by simp;lia];show r⟩;rw[U1,show k+(h::hs).length=k+1+hs.length by simp;lia,<-o];congr 1
  change(uk mask owner (RN mask) (O0 h % (mask+1)) (O0 h)).bind _=_;rw[e];rfl
def sv(L:List (Option Nat)):(gs L.length).filterMap (λj=>L.getD j b6)=vals L:=by
 have h:(gs L.length).map (λj=>L.getD j b6)=L:=by
  apply LF
  .simp
  .intro i b a;simp[w6,a]
 have a:vals ((gs L.length).map (λj=>L.getD j b6))=vals L:=Δ vals h;unfold vals at a;rw[List.filterMap_map]at a;show a
def uW{led plain:Bool}(e:Full (mask+1)=b8)(f:hs.size<=mask):∃t a,Vd mask finger moves led plain hs=a5 (t,a)/\t.fits hs.size=b8/\t.led=led/\t.plain=plain/\t.mask=mask/\t.dummies=#[]/\a.toList.Perm (gs hs.size):=by
 have⟨owner,c,g,b⟩:=yR e hs.toList (Array.replicate (mask+1) b6) 0 (by simp) (by
  have:∀n:Nat,vals (i8 n b6)=[]:=λn=>by
   induction n with
   |zero=>rfl
   |succ n h=>rw[List.replicate_succ];show h
  rw[Array.toList_replicate,this];show MG _) (by rw[hY];lia)
 rw[Pf,hY]at c b;have i:SM mask hs=a5 owner:=by
  unfold SM;rw[<-Array.foldl_toList];rw[c];rfl
 have k:((gs (mask+1)).filterMap λj=>owner.getD j b6)=vals owner.toList:=by
  rw[<-sv,hY,g];congr 1
  funext j
  simp only[Array.getD_eq_getD_getElem?,YF,qt]
 have d:(((gs (mask+1)).filterMap λj=>(owner.getD j b6).map (j,·)).map (·.2))=vals owner.toList:=by
  rw[<-k,List.map_filterMap];congr 1
  funext j
  cases owner.getD j b6<;>rfl
 have hl:((gs (mask+1)).filterMap λj=>(owner.getD j b6).map (j,·)).length=hs.size:=by
  have:=Δ Lp d;rw[c2,b.length_eq,uv]at this;show this
 show⟨_,_,by unfold Vd;rw[i];rfl,?_,rfl,rfl,rfl,rfl,?_⟩
 .unfold SU W';simp only[hQ,c2,hl];simp;show f
 .change(((gs (mask+1)).filterMap λj=>(owner.getD j b6).map (j,·)).map (·.2)).Perm _;rw[d];show b
end L2
namespace L2
open PySem PySem.Spec PyProof.Rows
abbrev Fs(P:t8)(w:vl)(p:Str×Tok):Int×dV:=((sK P w).hash p.1,sL p.1 p.2)
section
def aR.perm(b:aR prog w h a led D)(p:D.Perm c):aR prog w h a led c :=
 let ⟨L,es,ep,t,d,e,f,g,i⟩:=b;⟨L,es,ep,t,d,e,f.trans p,p.nodup_iff.mp g,i⟩
def aR.at(b:aR prog w h a led D)(k:∀o,h.get? a=a5 o->h'.get? a=a5 o):aR prog w h' a led D :=
 let ⟨L,es,ep,t,c,d⟩:=b;⟨L,es,ep,t,k _ c,d⟩
def aR.sz{h:DD}{a:ez}{led:Bool}{D:List Str}{L:List (Str×Tok)}{es:Array (Int×dV)}(b:es.toList=L.map (λp=>((sK prog w).hash p.1,sL p.1 p.2)))(c:(L.map (·.1)).Perm D):es.size=D.length:=by
 rw[<-hY,b,c2,<-c.length_eq,c2]
def aR.of(g:aR prog w h a led D):h.SetOf (sK prog w) a (λx=>c4 (x∈D)) D.length:=by
 have⟨L,es,ep,t,ho,b,d,l,i,j,m,n⟩:=g;show⟨_,es,ep,t,ho,⟨rfl,rfl,rfl⟩,rfl,by rw[b];show k9,λx=>?_,j,i,aR.sz (h:=h) (a:=a) (led:=led) b d⟩;rw[ż,b,<-d.mem_iff,lz];constructor
 .rintro⟨p,c,e⟩;show⟨_,lz.mpr ⟨p,c,rfl⟩,by rw[gQ];simp[e]⟩
 .rintro⟨e,k,f⟩;have⟨p,c,rfl⟩:=lz.mp k;rw[gQ,ż]at f;show⟨p,c,f.symm⟩
def qF(b:aR prog w s.heap a led D)(h:∀r:Option Nat,r.isSome=c4 (x∈D)->Q r s):
  d4 (fS prog w) A (setFind a (.str x c) ((sK prog w).hash x)) Q E s :=
 wpAny_setFind_of (knd:=sK prog w) (by rw[gQ];simp) rfl b.of h
def eT{L':List (Str×Tok)}(ho:s.heap.get? a=a5 {cls:=.type "set",dict:=b6,data:=.set es ep t})(f:b.toList=L'.map (λp=>((sK prog w).hash p.1,sL p.1 p.2)))(g:(L'.map (·.1)).Perm c)(i:c.Nodup)
  (j:t'.fits b.size=b8) (d:b.size<y1) (hl:t'.led=led) (k:b.size=0\/t'.plain=cc) (h:∀h',qp a s.heap h'->h'.get? a=a5 {cls:=.type "set",dict:=b6,data:=.set b (ep+1) t' }->aR prog w h' a led c->Q () {s with heap:=h' }) :
  d4 (fS prog w) A (storeSet a b t') Q E s:=by
 show XA ho rfl ?_ (XT d);have e:(s.heap.update a (P8 b t')).get? a=a5 {cls:=.type "set",dict:=b6,data:=.set b (ep+1) t' }:=tj (P8 b t') ho rfl;show h _ (wh s.heap a (P8 b t')) e ⟨L',b,ep+1,t',e,f,g,i,j,d,hl,k⟩
def fm(xs:Array α)(i:Nat):(Qy xs i).toList=xs.toList.eraseIdx i:=by
 unfold Qy;rw[Array.toList_append,Ñ,Ñ,Ro];simp[List.extract];rw[K5 (by simp)]
def xg{t:Pp}(h:t.fits n=b8)(e:i<n):(t.drop i).fits (n - 1)=b8:=by
 simp only[SU,cb,beq_iff_eq,ż]at h;have⟨f,b⟩:=h;have a:i<t.place.size:=by lia
 have c:(Qy t.place i).size=t.place.size - 1:=by
  rw[<-hY,fm,Ö,Ž (by simpa using a),hY]
 have d:∀p x,(SetTable.insertAt t.dummies p x).size=t.dummies.size+1:=λp x=>by
  have:=(SetTable.insertAt_perm t.dummies p x).length_eq;rw[hY,hY,Array.size_push]at this;show this
 unfold ð;rw[Pc a];simp only[SU,W',cb,beq_iff_eq,ż,c,d]at b ⊢;constructor<;>lia
def yS(t:Pp)(i:Nat):(t.drop i).led=t.led/\(t.drop i).plain=t.plain:=by
 unfold ð;split<;>show⟨rfl,rfl⟩
theorem erase_filter:∀{l:List Str}{j:Nat}{x:Str},l.Nodup->l[j]?=a5 x->l.eraseIdx j=l.filter λy=>c4 (y≠x)
 |[],j,x,_,h=>by simp at h
 |y::l,0,x,a,h=>by
  have⟨b,c⟩:=mN.mp a;have:y=x:=by simpa using h
  subst this;rw[List.eraseIdx_cons_zero,P' (by simp)];show(M'.mpr λz hz=>by
   have:z≠y:=λe=>b (e▸hz);simpa using this).symm
 |y::l,j+1,x,a,h=>by
  have⟨b,c⟩:=mN.mp a;have d:l[j]?=a5 x:=by simpa using h
  have:y≠x:=λe=>b (e▸mh d);rw[UC,erase_filter c d,P9 (by simpa using this)]
theorem fU(f:α->β):∀(l:List α) (j:Nat),(l.map f).eraseIdx j=(l.eraseIdx j).map f
 |[],_=>rfl
 |x::l,0=>rfl
 |x::l,j+1=>by
  change f x::(l.map f).eraseIdx j=f x::(l.eraseIdx j).map f;rw[fU f l j]
def qG{a:ez}{led:Bool}{D:List Str}{x:Str}{k:Tok}{Q:Bool->eH->Prop}(l:aR prog w s.heap a led D)(h:∀b h',qp a s.heap h'->aR prog w h' a led (D.filter λy=>c4 (y≠x))->Q b {s with heap:=h' }):
  d4 (fS prog w) A (œ a (.str x k) ((sK prog w).hash x)) Q E s:=by
 have u:=l;have⟨L,es,ep,t,ho,c,d,m,f,v,B,C⟩:=l;have G:(sK prog w).is x (.str x k)=b8:=by rw[gQ];simp
 have n:ElemsOf (sK prog w) es.toList:=by rw[c];show k9
 have hsz:=aR.sz (h:=s.heap) (a:=a) (led:=led) c d;unfold œ setFind setFindIn;show bD (bD (my ho rfl f ?_))
 dsimp only
 rw[byScan_of (knd:=sK prog w) rfl v n];simp only[↓reduceIte];show bD (Oo ?_);show bD (Ő (knd:=sK prog w) G ho rfl f n ?_);cases o:Zh (λe=>(sK prog w).is x e.2) es.toList with
 |none =>
  dsimp only
  show df (df ?_);have g:x∉D:=λg=>by
   rw[<-d.mem_iff,lz]at g;have⟨p,H,e⟩:=g;have I:((sK prog w).hash p.1,sL p.1 p.2)∈es.toList:=by rw[c];show lz.mpr ⟨p,H,rfl⟩
   have:=Y6.mp o _ I;rw[gQ,decide_eq_false_iff_not]at this;show this e.symm
  have e:D.filter (λy=>c4 (y≠x))=D:=M'.mpr λz hz=>by
   have:z≠x:=λe=>g (e▸hz);simpa using this
  have J:s={s with heap:=s.heap}:=by cases s;rfl
  rw[J];show h cc s.heap (D6 a s.heap) (by rw[e];show u)
 |some j =>
  dsimp only
  obtain⟨i,q,_⟩:=WA.mp o;rw[Pf];show df ?_
  dsimp only
  show bD (my ho rfl f ?_)
  dsimp only
  have N:j<L.length:=by rw[c,c2]at i;show i
  have O:j<es.size:=by simpa using i
  have T:L[j].1=x:=by
   have e:es.toList[j]=((sK prog w).hash L[j].1,sL L[j].1 L[j].2):=by simp[c]
   rw[e,gQ,ż]at q;show q.symm
  have Y:(L.map (·.1)).Nodup:=d.nodup_iff.mpr m;have YR:(L.eraseIdx j).map (·.1)=(L.map (·.1)).filter λy=>c4 (y≠x):=by
   rw[<-erase_filter Y (j:=j) (by simp[N,T]),fU]
  have UO:(Qy es j).toList=(L.eraseIdx j).map (λp=>((sK prog w).hash p.1,sL p.1 p.2)):=by
   rw[fm,c,fU]
  have r:(Qy es j).size=es.size - 1:=by rw[<-hY,fm,Ö,Ž i,hY]
  have⟨d1,d2⟩:=yS t j;show bD (eT (t':=t.drop j) (led:=led) ho UO (by rw[YR];show d.filter _) (Zm ß m) (by rw[r];show xg f O) (by rw[r];lia) (d1.trans B) (.inr (d2.trans (C.resolve_left ⋯))) λh' sb hg LP=>?_);show bD (wpAny_point ?_);show df (h b8 h' sb LP)
end
def B_:Full 256=b8:=by decide +kernel
section
def iO{es:Array (Int×dV)}{a:Array Nat}(h:a.toList.Perm (gs es.size)):(a.filterMap (es[·]?)).toList.Perm es.toList:=by
 rw[Array.toList_filterMap];show(h.filterMap _).trans (by rw[filterMap_getElem?_range])
def nG{L:List (Str×Tok)}(ho:s.heap.get? a=a5 {cls:=.type "set",dict:=b6,data:=.set es ep t})(n:es.toList=L.map (λp=>((sK prog w).hash p.1,sL p.1 p.2)))(o:(L.map (·.1)).Perm D)(q:D.Nodup)
  (r:t.fits es.size=b8) (u:es.size<y1) (i:t.led=led) (v:es.size=0\/t.plain=cc) (j:KZ c=m+1) (x:Full (m+1)=b8) (y:es.size<=m) (Y:m<1000)
  (h:∀h' (d:Array (Int×dV)) (t':Pp) (z:Nat),qp a s.heap h'->h'.get? a=a5 {cls:=.type "set",dict:=b6,data:=.set d z t' }->aR prog w h' a led D->t'.fits d.size=b8->t'.mask=m->t'.dummies=#[]->t'.led=led->d.size=es.size->Q () {s with heap:=h' }) :
  d4 (fS prog w) A (setRelay a c) Q E s:=by
 have B:(2000:Nat)<=cK:=by decide
 have⟨t',b,C,f,k,G,H,I,l⟩:=uW (mask:=m) (finger:=t.finger) (moves:=t.movedTo m) (led:=t.led) (plain:=t.plain) (hs:=es.map (·.1)) x (by rw[SN];show y);rw[SN]at f l;have e:t.relaid (es.map (·.1)) c=a5 (t',b):=by
  unfold WH;rw[j,Nat.add_sub_cancel];show C
 unfold setRelay;show bD (my ho rfl r ?_)
 dsimp only
 rw[ž (by rw[j];lia)];show bD ?_;rw[e];change d4 (fS prog w) A (if ((b.filterMap (es[·]?)).size != es.size)=b8 then((Y9 "internal:set-table-lost-an-element":Sem Unit) >>= λ_=>pure (b.filterMap (es[·]?),t')) else pure (b.filterMap (es[·]?),t')) _ E s;have g:=iO l;have hsz:(b.filterMap (es[·]?)).size=es.size:=by rw[<-hY,g.length_eq,hY]
 rw[ž (by rw[hsz];simp)];show df ?_;rw[n]at g;have⟨L',J,N⟩:=c9 g;show eT (led:=led) ho J ((N.map _).trans o) q (by rw[hsz];show f) (by rw[hsz];show u) (k.trans i) (by rw[hsz,G];show v) λh' O T hs=>h h' _ t' _ O T hs (by rw[hsz];show f) H I (k.trans i) hsz
def yT(b:5<=n)(a:n<64):∃m,KZ (2 * n)=m+1/\Full (m+1)=b8/\n<=m/\m<1000:=by
 have:∀n:_root_.Fin 64,KZ (2 * n.val)=(if n.val<4 then 8 else if n.val<8 then 16 else if n.val<16 then 32 else if n.val<32 then 64 else 128):=by decide +kernel
 have e:=this ⟨n,a⟩
 dsimp only at e
 rw[e,ž ⋯];split
 .show⟨15,rfl,yO,⋯,⋯⟩
 .split
  .show⟨31,rfl,yP,⋯,⋯⟩
  .split
   .show⟨63,rfl,yQ,⋯,⋯⟩
   .show⟨127,rfl,uV,⋯,⋯⟩
def xh(a:n<64):∃m,KZ (Oj n)=m+1/\Full (m+1)=b8/\n<=m/\m<1000:=by
 have:∀n:_root_.Fin 64,KZ (Oj n.val)=(if n.val<2 then 8 else if n.val<4 then 16 else if n.val<8 then 32 else if n.val<16 then 64 else if n.val<32 then 128 else 256):=by decide +kernel
 have e:=this ⟨n,a⟩
 dsimp only at e
 rw[e];split
 .show⟨7,rfl,D9,⋯,⋯⟩
 .split
  .show⟨15,rfl,yO,⋯,⋯⟩
  .split
   .show⟨31,rfl,yP,⋯,⋯⟩
   .split
    .show⟨63,rfl,yQ,⋯,⋯⟩
    .split
     .show⟨127,rfl,uV,⋯,⋯⟩
     .show⟨255,rfl,B_,⋯,⋯⟩
def yU{a:ez}{led:Bool}{D:List Str}{Q:Unit->eH->Prop}(b:aR prog w s.heap a led D)(p:D.length<64)(h:∀h',qp a s.heap h'->aR prog w h' a led D->Q () {s with heap:=h' }):
  d4 (fS prog w) A (setTidy a) Q E s:=by
 have f:=b;have⟨L,es,ep,t,ho,c,d,g,e,i,j,k⟩:=b;have hsz:=aR.sz (h:=s.heap) (a:=a) (led:=led) c d;unfold setTidy;show bD (my ho rfl e ?_)
 dsimp only
 split
 .have⟨m,m1,m2,m3,m4⟩:=xh (n:=es.size) ⋯;show nG ho c d g e i j k m1 m2 m3 m4 λh' _ _ _ l _ hs _ _ _ _ _=>h h' l hs
 .have o:s={s with heap:=s.heap}:=by cases s;rfl
  show df ?_;rw[o];show h s.heap (D6 a s.heap) f
def xj{a b:ez}{es:Array (Int×dV)}{D:List Str}{Q:Unit->eH->Prop}(v:a≠b)(ho:s.heap.get? a=a5 {cls:=.type "set",dict:=b6,data:=.set #[] 0 (.fresh 0 0 (aH w))})(x:aR prog w s.heap b (aH w) D)(Mp:D.length<64)
  (h:∀h',qp a s.heap h'->aR prog w h' a (aH w) D->Q () {s with heap:=h' }):d4 (fS prog w) A (setMerge a b) Q E s:=by
 have Qv:=x;have⟨L,d,YT,f,y,l,n,B,C,G,Rq,UP⟩:=x;have hsz:=aR.sz (h:=s.heap) (a:=b) (led:=aH w) l n;have o:(æ 0 0 (aH w)).fits (#[]:Array (Int×dV)).size=b8:=rfl;unfold setMerge;rw[ž (by simpa using v)];show bD (my y rfl C ?_)
 dsimp only
 split
 .rename_i UQ;have hD:D=[]:=by
   have:d.size=0:=by simpa using UQ
   show List.eq_nil_of_length_eq_zero ⋯
  subst hD;have p:s={s with heap:=s.heap}:=by cases s;rfl
  show df ?_;rw[p];show h s.heap (D6 a s.heap) (ia ho)
 .rename_i K2;have UR:d.size≠0:=λz=>K2 (by simpa using z);show bD ?_;unfold setRoomFor;show bD (my ho rfl o ?_)
  dsimp only
  show qb (Q:=λ_ s1=>∃(g:DD) (ts:Pp) (H:Nat) (k:Array (Int×dV)),s1={s with heap:=g}/\k.size=0/\qp a s.heap g/\g.get? a=a5 {cls:=.type "set",dict:=b6,data:=.set k H ts}/\ts.fits k.size=b8/\Full (ts.mask+1)=b8/\d.size<=ts.mask/\ts.dummies=#[]/\ts.led=aH w) ?_ (λ_ s1 ⟨g,ts,H,k,e,z,i,j,I,hF,q,US,hl⟩=>?_) λ_ _ e=>e
  .unfold SetTable.roomFor;by_cases h5:5<=d.size
   .rw[Ž (by change(0+d.size) * 5 >= 7 * 3;lia)]
    dsimp only
    have⟨m,m1,m2,m3,m4⟩:=yT h5 ⋯;have ew:((æ 0 0 (aH w)).place.size+d.size) * 2=2 * d.size:=by change(0+d.size) * 2=_;lia
    rw[ew];show nG (L:=[]) (D:=[]) (led:=aH w) ho rfl (MG _) .nil o (by decide) rfl (.inl rfl) m1 m2 (by change 0<=m;lia) m4 λh' J7 t' Om i j _ Uv J hd hl hz=>⟨h',t',Om,J7,rfl,hz,i,j,Uv,by rw[J];show m2,by rw[J];show m3,hd,hl⟩
   .rw[ž (by change ¬(0+d.size) * 5 >= 7 * 3;lia)]
    dsimp only
    have p:s={s with heap:=s.heap}:=by cases s;rfl
    show df ⟨s.heap,_,0,#[],p,rfl,D6 a s.heap,ho,o,D9,by change d.size<=7;lia,rfl,rfl⟩
  .subst e;show bD (my j rfl I ?_)
   dsimp only
   have UT:ts.place.size=0:=by
    simp only[SU,cb,beq_iff_eq]at I;lia
   have Rt:ts.road f=if ts.mask==f.mask&&f.dummies.isEmpty then .slotForSlot else .clean:=by
    unfold SetTable.road W';rw[UT,US];rfl
   have YU:g.get? b=a5 {cls:=.type "set",dict:=b6,data:=.set d YT f}:=(i.2 b (qP v)).trans y;have N:(ts.plain&&f.plain)=cc:=by rw[UP.resolve_left UR,QU]
   have O:(ts.led&&f.led)=aH w:=by rw[hl,Rq,ļ]
   rw[Rt];by_cases T:(ts.mask==f.mask&&f.dummies.isEmpty)=b8
   .rw[Ž T]
    dsimp only
    show eT (s:={s with heap:=g}) (led:=aH w) (L':=L) (t':={f with finger:=ts.finger,led:=ts.led&&f.led,moves:=ts.moves,plain:=ts.plain&&f.plain}) j l n B C G O (.inr N) λh' r _ hs=>h h' (i.trans r) hs
   .rw[ž T]
    dsimp only
    have⟨t',c,q1,Y,q3,q4,q5,q6,q7⟩:=uW (mask:=ts.mask) (finger:=ts.finger) (moves:=ts.moves) (led:=ts.led&&f.led) (plain:=ts.plain&&f.plain) (hs:=d.map (·.1)) hF (by rw[SN];show q);rw[SN]at Y q7;show bD ?_;rw[q1];change d4 (fS prog w) A (if ((c.filterMap (d[·]?)).size != d.size)=b8 then((Y9 "internal:set-table-lost-an-element":Sem Unit) >>= λ_=>pure (c.filterMap (d[·]?),t')) else pure (c.filterMap (d[·]?),t')) _ E _;have t:=iO q7;have u:(c.filterMap (d[·]?)).size=d.size:=by rw[<-hY,t.length_eq,hY]
    rw[ž (by rw[u];simp)];show df ?_;rw[l]at t;have⟨L',e',p'⟩:=c9 t;show eT (s:={s with heap:=g}) (led:=aH w) j e' ((p'.map _).trans n) B (by rw[u];show Y) (by rw[u];show G) (q3.trans O) (.inr (q4.trans N)) λh' r _ hs=>h h' (i.trans r) hs
end
section
theorem ie:∀{l:List α},(∀x∈l,∀Q':ForInStep β->eH->Prop,Q' (.yield b) s->d4 M A (body x b) Q' E s)->Q b s->d4 M A (Ŏ l b body) Q E s
 |[],_,h=>by rw[Ħ];show df h
 |x::l,a,h=>by
  rw[Xm];show bD (a x (by simp) _ (ie (λy c=>a y (by simp[c])) h))
def xm(hs:∀b∈sets,∃led D,aR prog w s.heap b led D)(h:Q b8 s):d4 (fS prog w) A (setsQuiet sets) Q E s:=by
 unfold setsQuiet;show bD (ie (λb c Q' d=>?_) (df h));have⟨led,D,L,es,ep,t,f,g,l,m,i,j,n,o⟩:=hs b c;show bD (TB f rfl i ?_);rw[<-Wb];show bD (ie (λe a q k=>?_) (df d));rw[g]at a;obtain⟨p,_,rfl⟩:=lz.mp a;show df k
def qH(l:aR prog w s.heap a (aH w) D)(ho:∀b∈others,∃led B,aR prog w s.heap b led B)(m:∀r,f=a5 r->aR prog w s.heap r (aH w) [])
  (h:∀(es:Array (Int×dV)) (L:List (Str×Tok)) (h':DD),es.toList=L.map (Fs prog w)->(L.map (·.1)).Perm D->(f=b6->h'=s.heap)->(∀r,f=a5 r->qp r s.heap h'/\aR prog w h' r (aH w) [])->Q es {s with heap:=h' }) :
  d4 (fS prog w) A (setWalkUnseen a others f) Q E s:=by
 have C:=l;have⟨L,es,ep,t,j,n,o,Kk,k,hb,G,H⟩:=l;have I:s={s with heap:=s.heap}:=by cases s;rfl
 have c:∀(d:Array (Int×dV)),d.toList.Perm es.toList->Q d s:=λd p=>by
  rw[n]at p;have⟨L',J,N⟩:=c9 p;rw[I];show h d L' s.heap J ((N.map _).trans o) (λ_=>rfl) λr e=>⟨D6 r s.heap,m r e⟩
 unfold setWalkUnseen;show bD (my j rfl k ?_)
 dsimp only
 show bD (cG ?_);cases g:w.params.followText "set-order" with
 |true =>
  rw[Ž (by change(w.params.followText "set-order"||t.led&&t.plain||decide (es.size<=1))=b8;rw[g];rfl)];unfold setWalk;show bD (my j rfl k ?_)
  dsimp only
  show bD (cG ?_);rw[Ž (by show g)];show bD (R8 ?_);show df (c _ (dJ _ _))
 |false =>
  by_cases q:es.size<=1
  .rw[Ž (by rw[Α q];simp)];unfold setWalk;show bD (my j rfl k ?_)
   dsimp only
   show bD (cG ?_);rw[ž (by change ¬w.params.followText "set-order"=b8;rw[g];simp)];change d4 _ _ (if (!t.plain&&c4 (es.size>1))=b8 then _ else _) _ _ s;rw[ž (by rw[ſ (show ¬es.size>1 by lia)];simp)];change d4 _ _ ((if (!t.led&&c4 (es.size>1))=b8 then _ else _) >>= _) _ _ s;rw[ž (by rw[ſ (show ¬es.size>1 by lia)];simp)];show bD (df (df (c es (MG _))))
  .have O:t.plain=cc:=H.resolve_left ⋯;rw[ž (by change ¬(w.params.followText "set-order"||t.led&&t.plain||decide (es.size<=1))=b8;rw[g,O,ſ q];simp)];show bD (xm (λb Lj=>by
    rcases d6.mp Lj with rfl|Lj
    .show⟨_,_,C⟩
    .show ho b Lj) ?_)
   rw[ž (by simp)];show bD (Oo ?_);cases f with
   |none=>show df (c es (MG _))
   |some r =>
    dsimp only
    have⟨Lr,T,Y,i,u,v,x,UU,y,YV,Rw,YW⟩:=m r rfl;show bD (my u rfl y ?_)
    dsimp only
    have PF:T.size=0:=by
     have:=aR.sz (h:=s.heap) (a:=r) (led:=aH w) v x;simpa using this
    split
    .show bD (eT (t':={i with led:=i.led&&t.led,plain:=i.plain&&t.plain}) (led:=aH w) u v x UU y YV (by change(i.led&&t.led)=_;rw[Rw,G,ļ]) (.inl PF) λh' sb _ hs=>?_);show df (h es L h' n o (λz=>nomatch z) λr' e=>by cases e;show⟨sb,hs⟩)
    .show df (c es (MG _))
end
section
variable{prog:t8}{w:vl}{A:N7}{E:dV->eH->Prop}{s:eH}
theorem ju(J:List (Str×Tok)->eH->Prop)(a:∀d p r s,d++p::r=L->J d s->∀Q':ForInStep PUnit->eH->Prop,(∀s',J (d++[p]) s'->Q' (.yield ⟨⟩) s')->d4 M A (body (Fs prog w p) ⟨⟩) Q' E s)(b:∀s',J L s'->Q ⟨⟩ s'):
  ∀(r d:List (Str×Tok)) (s:eH),d++r=L->J d s->d4 M A (Ŏ (r.map (Fs prog w)) ⟨⟩ body) Q E s
 |[],d,s,e,h=>by
  rw[ro]at e;subst e;rw[H8,Ħ];show df (b s h)
 |p::r,d,s,e,h=>by
  rw[d3,Xm];show bD (a d p r s e h _ λs' h'=>ju J a b r (d++[p]) s' (by rw[<-e];simp) h')
def aR.ty(h:aR prog w s.heap a led D):s.TypeIs (.ref a) "set":=let ⟨_,_,_,_,ho,_⟩:=h;⟨_,ho,rfl⟩
def gu(b:aR prog w s.heap a led D)(h:Q b8 s):d4 (fS prog w) A (I0 (.ref a)) Q E s:=by
 unfold I0;show bD (Pz b.ty XF ?_);show df h
def iP{a:ez}{led:Bool}{D:List Str}{Q:Nat->eH->Prop}(b:aR prog w s.heap a led D)(h:Q D.length s):d4 (fS prog w) A (Rp a) Q E s:=by
 obtain⟨L,es,ep,t,ho,c,d,f,e,_⟩:=b;unfold Rp;show bD (TB ho rfl e (df ?_));rw[aR.sz (h:=s.heap) (a:=a) (led:=led) c d];show h
def qJ(b:aR prog w s.heap a led D)(h:Q (.type "set") s):d4 (fS prog w) A (VE a) Q E s:=by
 unfold VE;show bD (Pz b.ty XF ?_);show df h
def uX(h:Q (.ref s.heap.objs.size) {s with heap:=s.heap.push {cls:=.type "set",dict:=b6,data:=.set #[] 0 (.fresh 0 0 (aH w))}}):d4 (fS prog w) A (newSet (.type "set")) Q E s:=by
 unfold newSet ĭ;show bD (bD (R8 (df ?_)))
 dsimp only
 simp only[newObj];show bD (wpAny_alloc (df h))
def yV{a:ez}{D:List Str}{Q:dV->eH->Prop}(b:aR prog w s.heap a (aH w) D)(c:D.length<64)(h:∀h',qp s.heap.objs.size (s.heap.push {cls:=.type "set",dict:=b6,data:=.set #[] 0 (.fresh 0 0 (aH w))}) h'->aR prog w h' s.heap.objs.size (aH w) D->Q (.ref s.heap.objs.size) {s with heap:=h' }):
  d4 (fS prog w) A (VD a) Q E s:=by
 unfold VD;show bD (qJ b (bD (uX ?_)));show bD (df ?_);have d:s.heap.objs.size≠a:=λe=>by obtain⟨_,_,_,_,ho,_⟩:=b;show t4 _ (e▸et ho)
 show bD (xj (es:=#[]) (s:={s with heap:=s.heap.push {cls:=.type "set",dict:=b6,data:=.set #[] 0 (.fresh 0 0 (aH w))}}) d (fx _ rfl) (b.at λo e=>cL _ e) c λh' f hs=>?_);show df (h h' f hs)
def ll{id:String}(ho:s.heap.get? a=a5 {cls:=.type "set",dict:=b6,data:=.set es ep t})(b:t.fits es.size=b8)(h:Q () s):d4 (fS prog w) A (U6 id a ep) Q E s:=by
 unfold U6;show bD (XB ho rfl b ?_);rw[ž (by simp)];show df h
def yW{id:String}(v:a≠b)(o:aR prog w s.heap a (aH w) g)(j:aR prog w s.heap b (aH w) q)(B:g.length<64)(i:q.length<=g.length)
  (h:∀h',qp a s.heap h'->aR prog w h' a (aH w) (g.filter λx=>c4 (x∉q))->Q () {s with heap:=h' }):d4 (fS prog w) A (T6 id a (.ref b)) Q E s:=by
 unfold T6;rw[ž (by simpa using qP v)];show bD (gu j ?_);rw[Ž rfl];show bD (df ?_);show bD (iP j (bD (iP o ?_)));rw[ž ⋯];have⟨L2,O,C,T,y,D,G,Y,z,Wi,WG,YY⟩:=_root_.id j;show bD (XB y rfl z ?_);show bD (ra ?_);show bD (qH j (others:=[a]) (f:=b6) (λc H=>by rw[i3.mp H];show⟨_,_,o⟩) (λr e=>nomatch e) λes L h0 I J t _=>?_);have t:=t rfl;subst t;rw[<-Wb,I];show bD (ju (prog:=prog) (w:=w) (L:=L) (λd s'=>∃h',s'={s with heap:=h' }/\qp a s.heap h'/\aR prog w h' a (aH w) (g.filter λx=>c4 (x∉d.map (·.1)))) (λd p r s' ed ⟨h',u,k,l⟩ Q' N=>?_) (λs' ⟨h',u,k,l⟩=>?_) L [] _ rfl ⟨s.heap,by cases s;rfl,D6 a s.heap,by rw[M'.mpr λx _=>by simp];show o⟩)
 .subst u;show bD (ra (qG (s:={s with heap:=h' }) l λb' i m n=>?_));show bD (ll (s:={s with heap:=i}) (((k.trans m).2 b (qP v)).trans y) z ?_);show df (N _ ⟨i,rfl,k.trans m,?_⟩);rw[List.filter_filter]at n;have e:(g.filter λx=>c4 (x≠p.1)&&c4 (x∉d.map (·.1)))=g.filter λx=>c4 (x∉(d++[p]).map (·.1)):=by
   show ÿ λx _=>?_;rw[KX];simp[not_or,and_comm]
  rw[<-e];show n
 .subst u;show df ?_;have e:(g.filter λx=>c4 (x∉L.map (·.1)))=g.filter λx=>c4 (x∉q):=by
   show ÿ λx _=>?_;rw[KX];simp only[ż];rw[J.mem_iff]
  rw[e]at l;show yU (s:={s with heap:=h' }) l (ý (vr _ _) B) λi m n=>h i (k.trans m) n
def yX{id:String}(Ng:a≠b)(l:aR prog w s.heap a (aH w) m)(j:aR prog w s.heap b (aH w) g)(D:m.length<64)(k:g.length<64)
  (h:∀h',(∀c o,s.heap.get? c=a5 o->h'.get? c=a5 o)->aR prog w h' s.heap.objs.size (aH w) (m.filter λx=>c4 (x∉g))->Q (.ref s.heap.objs.size) {s with heap:=h' }):d4 (fS prog w) A (PH id a (.ref b)) Q E s:=by
 have keep:∀h',qp s.heap.objs.size (s.heap.push {cls:=.type "set",dict:=b6,data:=.set #[] 0 (.fresh 0 0 (aH w))}) h'->∀c o,s.heap.get? c=a5 o->h'.get? c=a5 o:=λh' i c o e =>
  (i.2 c (gj (et e))).trans (cL _ e)
 have G:a<s.heap.objs.size:=by obtain⟨_,_,_,_,ho,_⟩:=l;show et ho
 have v:b<s.heap.objs.size:=by obtain⟨_,_,_,_,ho,_⟩:=j;show et ho
 unfold PH
 dsimp only
 show bD (gu j ?_);rw[ž (by simp)];show bD (df ?_);rw[ž (by simp),Ž rfl];show bD (iP j (bD (iP l ?_)));by_cases H:m.length / 4>g.length
 .rw[Ž H];show bD (Oo ?_);show bD (yV l D λh' i hs=>?_);show bD (df ?_);show bD (ra (yW (s:={s with heap:=h' }) (B' v) hs (j.at λo e=>keep h' i b o e) D ⋯ λk n t=>?_));show df (h k (keep k (i.trans n)) t)
 .rw[ž H];show bD (qJ l (bD (uX ?_)));show bD (df ?_);have I:=l.at (h':=s.heap.push {cls:=.type "set",dict:=b6,data:=.set #[] 0 (.fresh 0 0 (aH w))}) λo e=>cL _ e;have Wx:=j.at (h':=s.heap.push {cls:=.type "set",dict:=b6,data:=.set #[] 0 (.fresh 0 0 (aH w))}) λo e=>cL _ e;have J:aR prog w (s.heap.push {cls:=.type "set",dict:=b6,data:=.set #[] 0 (.fresh 0 0 (aH w))}) s.heap.objs.size (aH w) []:=ia (fx _ rfl);have⟨La,ea,YZ,ta,N,Qw,ab,UW,y,ac,WJ,Y0⟩:=_root_.id I;show bD (XB N rfl y ?_);show bD (ra ?_);rw[Ž rfl];show bD (qH (s:={s with heap:=s.heap.push {cls:=.type "set",dict:=b6,data:=.set #[] 0 (.fresh 0 0 (aH w))}}) I (others:=[b,s.heap.objs.size]) (f:=a5 s.heap.objs.size) (λc hc=>by
   rcases d6.mp hc with rfl|hc
   .show⟨_,_,Wx⟩
   .rw[i3.mp hc];show⟨_,_,J⟩) (λr e=>by cases e;show J) λes L h0 he B _ e0=>?_)
  have⟨Y1,SO⟩:=e0 _ rfl;rw[<-Wb,he];have Y2:L.length=m.length:=by rw[<-B.length_eq,c2]
  show bD (ju (prog:=prog) (w:=w) (L:=L) (λd s'=>∃h',s'={s with heap:=h' }/\qp s.heap.objs.size (s.heap.push {cls:=.type "set",dict:=b6,data:=.set #[] 0 (.fresh 0 0 (aH w))}) h'/\aR prog w h' s.heap.objs.size (aH w) ((d.map (·.1)).filter λx=>c4 (x∉g))) (λd p r s' O ⟨h',C,i,u⟩ Q' T=>?_) (λs' ⟨h',C,i,u⟩=>?_) L [] _ rfl ⟨h0,rfl,Y1,SO⟩)
  .subst C;have Y:(L.map (·.1)).Nodup:=B.nodup_iff.mpr UW;have Y3:p.1∉d.map (·.1):=λz=>by
    rw[<-O,ki,ri]at Y;show Y.2.2 p.1 z p.1 (by simp) rfl
   have Y4:aR prog w h' b (aH w) g:=j.at λo e=>keep h' i b o e;have WK:h'.get? a=a5 {cls:=.type "set",dict:=b6,data:=.set ea YZ ta}:=(i.2 a (gj G)).trans N;have Oc:d.length<64:=by have:=Δ Lp O;simp at this;lia
   show bD (ra ?_);rw[Ž rfl];show bD (qF (s:={s with heap:=h' }) Y4 λr hr=>?_);show bD (df ?_);have em:((d++[p]).map (·.1)).filter (λx=>c4 (x∉g))=(d.map (·.1)).filter (λx=>c4 (x∉g))++if p.1∈g then [] else [p.1]:=by
    rw[ki,Tq];congr 1
    by_cases z:p.1∈g<;>simp[z]
   by_cases z:p.1∈g
   .rw[ž (by rw[hr,Α z];simp)];show df ?_;show bD (ll (s:={s with heap:=h' }) WK y ?_);show df (T _ ⟨h',rfl,i,?_⟩);rw[em,Ž z,ro];show u
   .rw[Ž (by rw[hr,ſ z];rfl)];show bD (la (s:={s with heap:=h' }) u (by
     have:((d.map (·.1)).filter λx=>c4 (x∉g)).length<=d.length:=C0 (vr _ _) (by simp);have Nc:y1=4096:=rfl;lia) λk n t=>?_)
    show df ?_;show bD (ll (s:={s with heap:=k}) ((n.2 a (gj G)).trans WK) y ?_);show df (T _ ⟨k,rfl,i.trans n,?_⟩);rw[em,ž z];rw[ž (λq=>Y3 (N9.mp q).1)]at t;show t
  .subst C;show df ?_;show df (h h' (keep h' i) (u.perm ?_));show B.filter _
end
def mQ:Å Ũ "set.__sub__"=a5 Mx.«frozenset.__sub__» :=
 Ä (id':="frozenset.__sub__") (by kernel_rfl) rfl (by decide +kernel) (by kernel_rfl)
section
def Ca(n:a≠b)(g:aR prog w s.heap a (aH w) j)(i:aR prog w s.heap b (aH w) k)(p:j.length<64)(q:k.length<64)
  (h:∀h',(∀c o,s.heap.get? c=a5 o->h'.get? c=a5 o)->aR prog w h' s.heap.objs.size (aH w) (j.filter λx=>c4 (x∉k))->Q (.ref s.heap.objs.size) {s with heap:=h' }):d4 (fS prog w) A (Po .Sub (.ref a) (.ref b)) Q E s:=by
 show wpAny_binaryOp_same (T:="set") g.ty i.ty PySem.F.fills_set_sub PySem.F.slot_set_sub (x3 PySem.F.slot_set_sub g.ty mQ ?_ (PySem.F.args_set_sub_2 _ _));unfold Mx.«frozenset.__sub__»;change d4 (fS prog w) _ (do
  let x <-V1 "__sub__" ⟨[.ref a,.ref b],[]⟩
  match x with
  |(self,f) =>
   match if cc=b8 then(f,self) else(self,f) with
   |(l,r)=>do
    let c <-I0 l <&&> I0 r
    if (!c)=b8 then do
      Ŕ (Sq "frozenset."++Sq "__sub__"++Sq ".declined")
      ret Value.notImplemented
     else do
      let d <-VH l
      let e <-PH (Sq "frozenset."++Sq "__sub__") d r
      ret e) _ _ _
 show bD (m:=V1 "__sub__" ⟨[.ref a,.ref b],[]⟩) (df (a:=(hU a,hU b)) ?_)
 dsimp only
 show bD (bD (gu g ?_));change d4 _ _ (I0 (.ref b)) _ _ _;show gu i ?_;rw[ž (by simp)];show bD (df ?_);show bD (yX n g i p q λh' hk hs=>?_);show df ⟨_,rfl,(λz=>by cases z),h h' hk hs⟩
end
section
def sy(m:X.calm=b8)(I:Inv X a σ H s)(hq:Kz X.K H p (g.map V.str)\/KN X.K H p (g.map V.str))(i:g.length+1<y1)
  (h:∀(S:ez) (o:Obj) (s1:eH),s.heap.objs.size<=S->s1.heap.get? S=a5 o->aR X.prog X.w s1.heap S (aH X.w) (aJ g)->Inv X ((S,o)::a) σ H s1->Q (.ref S) s1) :
  d4 (fS X.prog X.w) X.A (Oz (.type "set") [.ref p]) Q X.xe s:=by
 have j:X.A.handled=b6:=I.ok.hd m;have f:∀(h':DD) (c:Nat),aR X.prog X.w h' s.heap.objs.size (aH X.w) (aJ g)->(∀b o,b<s.heap.objs.size->s.heap.get? b=a5 o->h'.get? b=a5 o)->Q (.ref s.heap.objs.size) {s with heap:=h',toks:=c}:=λh' c d k=>by
  have⟨L,es,ep,t,ho,r⟩:=_root_.id d;have l:Inv X a σ H {s with heap:=h',toks:=c}:=I.kept λb o e=>k b o (et e) e;show h _ _ _ (i0 _) ho d (l.ei λq hq=>?_);rcases d6.mp hq with rfl|hq
  .show⟨ho,I.J_.fresh (i0 _),B' I.lt,I.EK (i0 _),λv z=>nomatch z⟩
  .show l.pin q (nC _ hq)
 rcases hq with hq|hq
 .have⟨its,rv,pl,hz⟩:=I.list hq;show fT j pl.isList (cF rv) i λh' c d k=>f h' c d k
 .have⟨its,rv,pl,hz⟩:=I.tuple hq;show gR j pl (cF rv) i λh' c d k=>f h' c d k
end
def sA:QW (.type "list_reverseiterator") "__len__"=pure b6:=by rw[Tt,OW];kernel_rfl
def yY:QW (.type "list_reverseiterator") "__length_hint__"=pure (a5 (.builtin "list_reverseiterator.__length_hint__")):=by rw[Tt,OW];kernel_rfl
def pd:Vc (.type "list_reverseiterator") (.type "list_reverseiterator")=pure b8:=by rw[Ue];kernel_rfl
section
variable{I:ez}{fp wr:List ez}{G:Array Ç->Array Ç->Prop}{n:Nat}{P:Nat->dV->Prop}{St:Nat->eH->Prop}
def sC(W:ı prog w A.in1 I fp wr G n P St)(c:∀i s,St i s->s.TypeIs (.ref I) "list_reverseiterator")(S:ez)(res:dV)(j:Nat)(a:St 0 s)(h:S∉fp)(k:I∈fp)
  (l:s.heap.get? S=a5 {cls:=.type "list",data:=.seq #[] j})
  (m:∀s' d b,Moved (S::wr) G s s'->s'.heap.get? S=a5 {cls:=.type "list",dict:=b6,data:=.seq d b,slots:=#[]}->ŉ P d n->R (.ok (.ret res)) s') (o:n<=cK) :
  d4 (fS prog w) A.in1 (r6 (.ref S) (.ref I) res)
   (λg s'=>match g with|.done f=>R (.ok f) s'|.again b=>b.quiet=b8/\Qm (fS prog w) A b R s') (λe s'=>R (.error e) s') s:=by
 have p:S≠I:=λe=>h (e▸k);unfold r6;show bD (TR (c 0 _ a) ?_);have q:OB (.ref S) (.ref I)=cc:=by simp[OB,p]
 have r:(ve "list_reverseiterator"==ve "list")=cc:=by decide
 have t:(ve "list_reverseiterator"==ve "tuple")=cc:=by decide
 simp only[q,r,t,Pu,L3,if_false];show bD (W.self 0 _ _ _ a ?_);show bD (ra ?_);unfold V3;show bD (VT (c 0 _ a) sA ?_);change d4 _ A.in1 (specialOf (hU I) (Sx "__length_hint__") >>= _) _ _ _;show bD (VT (c 0 _ a) yY ?_);have u:splitId "list_reverseiterator.__length_hint__"=a5 ("list_reverseiterator","__length_hint__"):=by decide +kernel
 dsimp only
 rw[u]
 dsimp only
 show bD (Pz (c 0 _ a) pd ?_);rw[ž (by decide)];rw[Ž (by decide +kernel)];rw[ž (by decide +kernel)];show df ?_;rw[ž (by decide +kernel)];show df ⟨Qc PySem.F.plain_extend_loop _,Ď W o _ h _ n 0 _ _ _ rfl (kr _) a l (Ğ P) λs' d b v x y=>?_⟩;show m s' d b v x y
def mR(W:ı prog w A.in1 I fp wr G n P St)(p:∀i s,St i s->s.TypeIs (.ref I) "list_reverseiterator")(S:ez)(q:St 0 s)(l:S∉fp)(r:I∈fp)
  (g:s.heap.get? S=a5 {cls:=.type "list",data:=.seq #[]})
  (t:∀s' d a,Moved (S::wr) G s s'->s'.heap.get? S=a5 {cls:=.type "list",dict:=b6,data:=.seq d a,slots:=#[]}->ŉ P d n->R (.ok (.ret .none)) s') (u:n<=cK) :
  d4 (fS prog w) A.in1 (Mx.«list.__init__» ⟨[.ref S,.ref I],[]⟩)
   (λj s'=>match j with|.done f=>R (.ok f) s'|.again a=>a.quiet=b8/\Qm (fS prog w) A a R s') (λe s'=>R (.error e) s') s:=by
 change d4 _ A.in1 (do let k <-WX (.ref S);š (.ref S) (λ_=>#[]);letGo k.toList.reverse;r6 (.ref S) (.ref I) .none) _ _ s;show bD ?_;unfold WX;show bD (Ua g rfl (df ?_));change d4 _ A.in1 (Œ S (λ_=>#[]) >>= λ_=>letGo (#[]:Array dV).toList.reverse >>= λ_=>r6 (.ref S) (.ref I) .none) _ _ s;show bD (Tr g rfl ?_);have v:=tj (qd (λ_=>(#[]:Array dV))) g rfl;have m:∀b o,b≠S->s.heap.get? b=a5 o->(s.heap.update S (qd (λ_=>(#[]:Array dV)))).get? b=a5 o :=
  λb o c e=>(NB _ _ (qP c)).trans e
 show bD (wpAny_letGo ?_);show sC W p S .none _ (W.frame 0 s _ s.toks q (i0 _) λb c o e=>m b o (λh=>l (h▸c)) e) l r v (λs' d a x y z=>?_) u;show t s' d a (ň W.gtrans ((Moved.refl W.grefl).then_heap (i0 _) λb o c e=>m b o (λh=>c (h▸nc)) e) x) y z
def qK(W:ı prog w A.in1.in1 I fp wr G n P St)(h:∀i s,St i s->s.TypeIs (.ref I) "list_reverseiterator")(j:St 0 s)(k:∀b∈fp,b<s.heap.objs.size)(l:I∈fp)
  (m:∀s' a c,Moved (s.heap.objs.size::wr) G {s with heap:=s.heap.push {cls:=.type "list",data:=.seq #[]}} s' ->
   s'.heap.get? s.heap.objs.size=a5 {cls:=.type "list",dict:=b6,data:=.seq a c,slots:=#[]}->ŉ P a n->Q (.ref s.heap.objs.size) s') (p:n<=cK) :
  d4 (fS prog w) A (Oz (.type "list") [.ref I]) Q E s:=by
 have q:s.heap.objs.size∉fp:=λd=>t4 _ (k _ d);show Ů (Q₁:=λobj f=>obj=.ref s.heap.objs.size/\f={s with heap:=s.heap.push {cls:=.type "list",data:=.seq #[]}}) PySem.F.called_list (PySem.F.typeCall_list_1 _) PySem.F.entry_list_init
  (code_list_new _ ⟨rfl,rfl⟩) λobj f r=>?_
 have⟨rfl,rfl⟩:=r;have g:(s.heap.push {cls:=.type "list",data:=.seq #[]}).get? s.heap.objs.size=a5 {cls:=.type "list",data:=.seq #[]}:=fx _ rfl;show⟨⟨_,g,rfl⟩,PySem.F.args_list_init_2 _ _,mR W h _ (W.frame 0 s _ s.toks j (i0 _) λb _ o e=>cL _ e) q l g (λs' a c d t u=>?_) p⟩;show⟨rfl,m s' a c d t u⟩
open AutoSeq1 (wpAny_loadPart') in
end
section
def iQ(a:s.heap.IsTupleIter it l i)
  (hl:s.heap.IsTuple l b) (d:b[i]?=a5 x)
  (e:∀h',h'.IsTupleIter it l (i+1)->qp it s.heap h'->Q x {s with heap:=h' }) :
  d4 (fS prog w) A (KC (.ref it)) Q E s:=by
 have⟨o,ho,f,c⟩:=id a;obtain⟨j,g,_,k,h⟩:=hl;unfold KC;show bD (Rk (name:=Sx "__next__") a.typeIs PySem.F.slot_tuple_iterator_next
  (x3 PySem.F.slot_tuple_iterator_next a.typeIs PySem.F.entry_tuple_iterator_next ?_ (PySem.F.args_tuple_iterator_next_1 _)))
 change d4 _ _ (ŭ (.ref it) 0 >>= _) _ _ s;show bD (Wm ho c (x:=.ref l) rfl ?_);change d4 _ _ (if (hU l==mA)=b8 then _ else _) _ _ s;rw[ž (show ¬((hU l==mA)=b8) from js)];change d4 _ _ (ŭ (.ref it) 1 >>= _) _ _ s;show bD (Wm ho c (x:=.int i 0) rfl ?_);change d4 _ _ (ã (.ref l) >>= _) _ _ s;show bD (Ua g h ?_);simp only[OO,d];show bD (NC ho c (by simp) (df ⟨x,rfl,df (e _ ?_ (wh ..))⟩));show⟨_,tj _ ho (Ve (N5 c _)),(WO ..).trans f,by
  rw[N5 c];simp[t7]⟩
def eU(f:A.handled=b6)
  (b:s.heap.IsTupleIter it l i) (hl:s.heap.IsTuple l c) (g:c[i]?=b6)
  (h:∀h' e,Ř it s.heap h'->(∃o,h'.get? e=a5 o/\o.cls=.type "StopIteration")->E (.ref e) {s with heap:=h' }) :
  d4 (fS prog w) A (KC (.ref it)) Q E s:=by
 have⟨o,ho,n,d⟩:=id b;obtain⟨p,j,_,q,k⟩:=hl;unfold KC;show bD (Rk (name:=Sx "__next__") b.typeIs PySem.F.slot_tuple_iterator_next
  (x3 PySem.F.slot_tuple_iterator_next b.typeIs PySem.F.entry_tuple_iterator_next ?_ (PySem.F.args_tuple_iterator_next_1 _)))
 change d4 _ _ (ŭ (.ref it) 0 >>= _) _ _ s;show bD (Wm ho d (x:=.ref l) rfl ?_);change d4 _ _ (if (hU l==mA)=b8 then _ else _) _ _ s;rw[ž (show ¬((hU l==mA)=b8) from js)];change d4 _ _ (ŭ (.ref it) 1 >>= _) _ _ s;show bD (Wm ho d (x:=.int i 0) rfl ?_);change d4 _ _ (ã (.ref l) >>= _) _ _ s;show bD (Ua j k ?_);simp only[OO,g];show bD (Oo (bD (NC ho d (by simp) ?_)));change d4 _ _ (ì (.type "StopIteration") [] >>= _) _ _ _;show bD ?_;simp only[ì,ū];show bD (vu ?_ (by size_fits));show bD (m:=Wr _ _) (Y7 (a:=mA) (by first|rfl|(simp only[Wr];rfl)) ?_);show vu ?_ (by size_fits);simp only[Â];show bD (wpAny_handled ?_)
 first|rw[show A.in1.handled=b6 from f]|rw[f]
 show bD (df (wpAny_throw ?_));show h _ _ (((wh ..).extBut.push _).push _) ⟨_,fx _ rfl,rfl⟩
end
def qL(d:A.handled=b6)(it l:ez)(f:l≠it)(a:Array dV):
  Draws prog w A it [it,l] a.size (λi v=>a[i]?=a5 v) (λi h=>h.IsTupleIter it l i/\h.IsTuple l a) where
 live:=λ_ _ st=>let ⟨o,ho,_⟩:=st.1;⟨o,ho⟩
 frame:=λ_ _ _ st hk=>⟨st.1.at λo e=>hk it (by simp) o e,let ⟨o,ho,r⟩:=st.2;⟨o,hk l (by simp) o ho,r⟩⟩
 item:=λi s Q E b st g=>by
  show iQ st.1 st.2 (x:=a[i]) (by simp[b]) λh' j c=>?_;show g _ h' s.toks (by simp[b]) ⟨j,let ⟨o,ho,r⟩:=st.2;⟨o,(c.2 l f).trans ho,r⟩⟩ c
 done:=λs Q E st k=>eU d st.1 st.2 (by simp) k
open AutoSeq1 (wpAny_loadPart') in
def lp(l:ez)(a:Array dV)(n:Nat)(e:Option ez)(f:Array (Option dV)):
  Meets (Mx.«enumerate.__new__» ⟨[.type "enumerate",.ref l],[]⟩) (λ_ R s=>s.heap.get? l=a5 {cls:=.type "tuple",dict:=e,data:=.seq a n,slots:=f} /\
   R (.ok (.ret (.ref (s.heap.push {cls:=.type "tuple_iterator",data:=.fields #[.ref l,.int 0 0]}).objs.size)))
    {s with heap:=(s.heap.push {cls:=.type "tuple_iterator",data:=.fields #[.ref l,.int 0 0]}).push {cls:=.type "enumerate",data:=.fields #[.none,.bool cc,.ref s.heap.objs.size,t7 0,.none,.none]}}) :=
 .of_wp λprog w A R s h=>by
  have⟨i,g,d,j,os⟩:=s;have⟨hl,h⟩:=h;have k:=sub_enumerate;have b:Heap.IsTuple (Shared.heap ⟨i,g,d,j,os⟩) l a:=⟨_,hl,rfl,n,rfl⟩
  wp_walk using VU hl
  show wpAny_stack_any λst=>df ?_;split
  .rename_i c _ _ _ _ _;cases(c==ve "enumerate")
   .wp_walk using VU hl,QV b
    show⟨_,rfl,h⟩
   .wp_walk using VU hl,QV b
    show⟨_,rfl,h⟩
  .wp_walk using VU hl,QV b
   show⟨_,rfl,h⟩
section
def fV(g:s.heap.IsTuple l a)
  (h:∀h',ñ h' (s.heap.objs.size+1) s.heap.objs.size 0 .none->h'.IsTupleIter s.heap.objs.size l 0->h'.objs.size=s.heap.objs.size+2 ->
   (∀b o,s.heap.get? b=a5 o->h'.get? b=a5 o)->Q (.ref (s.heap.objs.size+1)) {s with heap:=h' }) :
  d4 (fS prog w) A (Oz (.type "enumerate") [.ref l]) Q E s:=by
 obtain⟨⟨c,i,j,k⟩,hl,d,n,e⟩:=g
 replace d:c=.type "tuple":=d
 replace e:j=.seq a n:=e
 subst d e;show callType_new PySem.F.called_enumerate (by decide) (PySem.F.typeCall_enumerate_1 _) (PySem.F.newCall_enumerate_1 _) (λobj=>PySem.F.args_object_init_2 obj _) PySem.F.entry_enumerate_new
  (lp l a n i k) ⟨hl,?_⟩
 have hz:(s.heap.push {cls:=.type "tuple_iterator",data:=.fields #[.ref l,.int 0 0]}).objs.size=s.heap.objs.size+1:=Yp ..;change _/\_;rw[hz];have f:ñ ((s.heap.push {cls:=.type "tuple_iterator",data:=.fields #[.ref l,.int 0 0]}).push
   {cls:=.type "enumerate",data:=.fields #[.none,.bool cc,.ref s.heap.objs.size,t7 0,.none,.none]}) (s.heap.objs.size+1) s.heap.objs.size 0 .none:=by
  have:=fx (s.heap.push {cls:=.type "tuple_iterator",data:=.fields #[.ref l,.int 0 0]})
   (o:={cls:=.type "enumerate",data:=.fields #[.none,.bool cc,.ref s.heap.objs.size,t7 0,.none,.none]}) rfl
  rw[hz]at this;show this
 show⟨⟨_,f,rfl⟩,h _ f ⟨_,cL _ (fx _ rfl),rfl,rfl⟩ (by rw[Yp,hz]) λb o x=>cL _ (cL _ x)⟩
end
end L2
namespace L2
open PySem PySem.Spec PyProof.Rows
section
def Inv.pe{ch:List ez}(I:Inv X a σ H s)(f:∀b∈ch,iF X a H b)(k:∀b o,b∉ch->s.heap.get? b=a5 o->h'.get? b=a5 o):Inv X a σ H {s with heap:=h',toks:=t' }:=by
 have g:∀b u,H b=a5 u->b∉ch:=λb u e z=>by rw[(f b z).1]at e;cases e
 show I.step (g':=s.gens) (d':=s.drawn) (ch:=ch) (λb h=>?_) (λb o _ _ d e _=>k b o d e) (λb o _ _ d e _=>⟨o.slots,k b o d e⟩) (λ_ _ _ _ n=>n)
  (λb o d e=>⟨o,k b o d e⟩) (λ_ _ e=>e) (λ_ _ _ e=>e) (λb ps e=>⟨#[],by rw[e];simp⟩) (λm i=>?_) (λb u e=>?_) I.bare
 .have⟨w,j,x,l,p,t⟩:=f b h;show⟨l,j,p,t⟩
 .have⟨o,es,ep,ho,r⟩:=i;show⟨o,es,ep,k _ o (λz=>(f _ z).2.1 rfl) ho,r⟩
 .show(I.J_ b u e).fI (λc v d q=>k c v ?_ q) (λ_ q=>q) λ_ _ q=>q;rcases d with z|z
  .rw[z];show g b u e
  .show g c _ z
def Inv.lq{ch:List ez}(I:Inv X a σ H s)(h:∀b∈ch,iF X a H b)(k:∀b o,b∉ch->s.heap.get? b=a5 o->h'.get? b=a5 o)(i:s.heap.objs.size<=T)(new:bE X.prog X.w (upd H T o) h' T o):
  Inv X a σ (upd H T o) {s with heap:=h',toks:=t' }:=by
 have j:Inv X a σ H {s with heap:=h',toks:=t' }:=I.pe h k;have l:H T=b6:=I.J_.fresh i;have p:∀b o,s.heap.get? b=a5 o->b≠T:=λb o e z=>by rw[z]at e;show absurd (i5 (et e) i) (t4 _)
 have d:∀b u,H b=a5 u->b≠T:=λb u e z=>by rw[z,l]at e;cases e
 show I.step (g':=s.gens) (d':=s.drawn) (ch:=ch) (λb g=>?_) (λb o _ _ f e _=>k b o f e) (λb o _ _ f e _=>⟨o.slots,k b o f e⟩) (λb o _ e n=>by rw[au (p b o e)];show n)
  (λb o f e=>⟨o,k b o f e⟩) (λb _ e=>by rw[au (d b _ e)];show e) (λb _ _ e=>by rw[au (d b _ e)];show e) (λb ps e=>⟨#[],by rw[au (d b _ e),e];simp⟩) (λm t=>?_) (λb u e=>?_) I.bare
 .have⟨C,x,D,y,A,B⟩:=h b g;show⟨y,x,A,B⟩
 .have⟨o,es,ep,ho,r⟩:=t;show⟨o,es,ep,k _ o (λz=>(h _ z).2.1 rfl) ho,r⟩
 .by_cases g:b=T
  .subst g;rw[az]at e;cases e;show new
  .rw[au g]at e;show(j.J_ b u e).fI (λc v _ q=>q) (λc q=>by rw[au (d c _ q)];show q) λc xs q=>by rw[au (d c _ q)];show q
end
abbrev Qx(a:Hp->List V->Prop):It :=
 ⟨λi H=>∃xs x,a H xs/\xs[i]?=a5 x,λi H x H'=>∃p,H p=b6/\x=.ref p/\∀xs v,a H xs->xs[i]?=a5 v->H'=upd H p (.tup [.int i,v]),λi H=>∃xs,a H xs/\xs.length<=i⟩
def nI{K:PySem.W.Frag}(n:Hp->List V->Prop)(a e it:ez)(N:e≠it)(At:Nat->DD->Prop)(r:DD->Array dV->Prop)
  (Mz:∀i h h',At i h->(∀o,h.get? it=a5 o->h'.get? it=a5 o)->At i h') (WL:∀i h,At i h->∃o,h.get? it=a5 o/\∀v,o.data≠.cell v)
  (SQ:∀(X:Cx) (d:List (ez×Obj)) (s:eH) (σ:St) (H:Hp) (xs:List V),X.K=K->Inv X d σ H s->n H xs->∃its:List dV,Vals xs its/\r s.heap its.toArray)
  (UY:∀(X:Cx) (d:List (ez×Obj)) (s:eH) (σ:St) (H:Hp) (xs t:List V),X.K=K->Inv X d σ H s->n H xs->n H t->xs=t)
  (Qw:∀h c i f,r h c->ñ h e it i f->e≠a)
  (hD:∀(A:N7) (c:Array dV),A.handled=b6->Draws P w A it [it,a] c.size (λi v=>c[i]?=a5 v) (λi h=>At i h/\r h c))
  (Ow:∀(A:N7) (s:eH) (i:Nat) (c:Array dV) (Q:dV->eH->Prop) (E:dV->eH->Prop),A.handled=b6->At i s.heap->r s.heap c->c[i]?=b6 ->
   (∀h' x,Ř it s.heap h'->(∃o,h'.get? x=a5 o/\o.cls=.type "StopIteration")->E (.ref x) {s with heap:=h' })->d4 (fS P w) A (KC (.ref it)) Q E s) :
  Turn P w K (.Tuple es kx ps) (Qx n) [e,it] e (λi h=>(∃f,ñ h e it i f)/\At i h) where
 mem:=by simp
 obj:=λi h st b g=>by
  obtain⟨⟨f,j⟩,hl⟩:=st;rcases d6.mp g with z|z
  .rw[z];show⟨_,j,λv z=>by
    have z':Vf _=Zr v:=z;cases z'⟩
  .rw[i3.mp z];show WL i h hl
 keep:=λi h h' ⟨⟨f,j⟩,hl⟩ k=>⟨⟨f,k e (by simp) _ j⟩,Mz i h h' hl λo q=>k it (by simp) o q⟩
 item:=by
  intro X O Y B hc i d s σ H E I C ⟨⟨f,j⟩,hl⟩ hg;subst O Y;have⟨xs,x,G,hx⟩:=hg;have⟨its,rv,p⟩:=SQ X d s σ H xs B I G;have⟨u,hu,ru⟩:=rv.get hx;have Kj:i<its.toArray.size:=by simpa using(dt.mp hu).1
  have D:=hD X.A.in1 its.toArray (by simpa using I.ok.hd hc);have UZ:=Qw _ _ _ _ p j;show wpAny_pyNext_enum_itemD D j ⟨hl,p⟩ Kj N (by simp[N,UZ]) λy h1 l J ho st1 L hsz hk=>?_;have ey:y=u:=by
   have:its.toArray[i]?=a5 u:=by simpa using hu
   rw[this]at J;cases J;rfl
  subst ey;show⟨_,rfl,wpAny_letOwnedTupleGo_enum (s:={s with heap:=h1,toks:=l+1}) ho λm SR K7=>?_⟩;have WM:e<s.heap.objs.size:=et j;have U0:m.get? s.heap.objs.size=a5 {cls:=.type "tuple",data:=.seq #[.int i l,y]}:=(K7.2 _ (B' WM)).trans L;have k2:∀b o,b∉[e,it]->s.heap.get? b=a5 o->m.get? b=a5 o:=λb o g q=>by
   simp only[d6,Um,or_false,not_or]at g;show(K7.2 b g.1).trans (hk b o g.1 g.2 q)
  have I2:Inv X d σ (upd H s.heap.objs.size (.tup [.int i,x])) {s with heap:=m,toks:=l+1}:=I.lq C k2 (i0 _)
   (show bE X.prog X.w _ m _ (.tup [.int i,x]) from⟨by change 2<=cK;decide,[.int i l,y],.cons ⟨l,rfl⟩ (.cons ru .nil),⟨_,U0,rfl,_,rfl⟩⟩)
  show⟨.ref s.heap.objs.size,_,I2,rfl,⟨_,I.J_.fresh (i0 _),rfl,λt v J hv=>?_⟩,⟨⟨_,SR⟩,Mz (i+1) h1 m st1.1 λo q=>(K7.2 it (qP N)).trans q⟩,λb g=>?_⟩
  .have:=UY X d s σ H t xs B I J G;subst this;rw[hx]at hv;cases hv;rfl
  .have Lj:b≠s.heap.objs.size:=by
    rcases d6.mp g with z|z
    .rw[z];show gj WM
    .rw[i3.mp z];obtain⟨o,q,_⟩:=WL i _ hl;show gj (et q)
   rw[au Lj];show(C b g).1
 done:=by
  intro X O Y B hc i d s σ H E I C ⟨⟨f,j⟩,hl⟩ hg;subst O Y;have⟨xs,G,hx⟩:=hg;have⟨its,rv,p⟩:=SQ X d s σ H xs B I G;have ab:=rv.length;have L:s.TypeIs (.ref e) "enumerate":=⟨_,j,rfl⟩
  unfold Ud;show bD (wpAny_attempt (Rk (name:=Sx "__next__") L PySem.F.slot_enumerate_next
   (x3 PySem.F.slot_enumerate_next L PySem.F.entry_enumerate_next ?_ (PySem.F.args_enumerate_next_1 _))))
  change d4 _ _ (ŭ (.ref e) 2 >>= _) _ _ _;show bD (Wm j rfl (x:=.ref it) rfl ?_);show bD (Ow _ _ i its.toArray _ _ (by simpa using I.ok.hd hc) hl p (by simp;lia) λh' x Uw OZ=>?_);have⟨o,ho,M0⟩:=OZ;show bD (Pz (T:="StopIteration") (b:=b8) ⟨o,ho,M0⟩ Ŭ ?_);show df ⟨rfl,I.pe (t':=s.toks) (ch:=[it]) (λb g=>C b (mf _ g)) λb o g q=>Uw b o (λz=>g (by simp[z])) q⟩
 self:=λA i s Q E ⟨⟨f,j⟩,hl⟩ h=>XC j h
section
variable{X:Cx}{es:List mx}{kx:Nat}{ps p pos:Pos}
def xn:u7 "enumerate"=a5 (.type "enumerate"):=by decide +kernel
abbrev JP(K:PySem.W.Frag)(c:TA):TI:=λσ H R=>c σ H λvs b=>∃a,vs=[.ref a]/\((∃xs,Kz K b a xs)/\R (Qx λH xs=>Kz K H a xs) b\/(∃xs,KN K b a xs)/\R (Qx λH xs=>KN K H a xs) b)
def Ft(a e it:ez)(q:e≠it)(r:a≠it):Turn X.prog X.w X.K (.Tuple es kx ps) (Qx λH xs=>Kz X.K H a xs) [e,it] e (λi h=>(∃c,ñ h e it i c)/\h.IsListIter it a i):=by
 show nI _ a e it q (λi h=>h.IsListIter it a i) (λh b=>h.IsList a b) (λi h h' x k=>x.at k) (λi h ⟨o,ho,l,t⟩=>⟨o,ho,λv z=>by rw[t]at z;cases z⟩)
  (λY d s σ H xs g I m=>?_) (λY d s σ H xs D g I f n=>?_) (λh b i c ⟨o,ho,l,_⟩ u z=>?_) (λA b j=>Draws.list j it a r b) (λA s i b Q E j hl y f B=>wpAny_nextOf_list_end j hl y f B)
 .rw[<-g]at m;have⟨its,rv,p,hz⟩:=I.list m;show⟨its,rv,p.isList⟩
 .rw[<-g]at f n;show I.qf f n
 .rw[<-z,u]at ho;cases ho;have C:ve "enumerate"=ve "list":=l;show absurd C (by decide)
def Fu(a e it:ez)(q:e≠it)(r:a≠it):Turn X.prog X.w X.K (.Tuple es kx ps) (Qx λH xs=>KN X.K H a xs) [e,it] e (λi h=>(∃c,ñ h e it i c)/\h.IsTupleIter it a i):=by
 show nI _ a e it q (λi h=>h.IsTupleIter it a i) (λh b=>h.IsTuple a b) (λi h h' x k=>x.at k) (λi h ⟨o,ho,l,t⟩=>⟨o,ho,λv z=>by rw[t]at z;cases z⟩)
  (λY d s σ H xs g I m=>?_) (λY d s σ H xs D g I f n=>?_) (λh b i c ⟨o,ho,l,_⟩ u z=>?_) (λA b j=>qL j it a r b) (λA s i b Q E j hl y f B=>eU j hl y f B)
 .rw[<-g]at m;have⟨its,rv,p,hz⟩:=I.tuple m;show⟨its,rv,p⟩
 .rw[<-g]at f n;show I.mY f n
 .rw[<-z,u]at ho;cases ho;have C:ve "enumerate"=ve "tuple":=l;show absurd C (by decide)
def Cb(n:Gl X "enumerate")(t:X.mg "enumerate"=b6)(v:PA X [a] w)(hs:i2 [a] X.env=[(cc,t6 a X.env)]):PI X (.Tuple es kx ps) (.Call (.Name "enumerate" p) [a] [] pos) (JP X.K w):=by
 intro c s σ H R I h;show Call_ (c8 I n t xn (Ko (Kc (v pos c s σ H _ I h) λus s1 ⟨vs,j,d,x,y⟩=>?_) hs rfl));have⟨a',e,q⟩:=y;subst e;have⟨u,rfl,r⟩:=vals1 x;cases r;have f:s1.heap.objs.size+1≠s1.heap.objs.size:=Nat.succ_ne_self _;have g:∀(h':DD),(∀b∈[s1.heap.objs.size+1,s1.heap.objs.size],iF X c j b):=λh' b A=>by
  have m:s1.heap.objs.size<=b:=by
   rcases d6.mp A with z|z
   .rw[z];show Ls _
   .rw[i3.mp z];show i0 _
  show d.yq m (d.J_.fresh m)
 rcases q with⟨⟨xs,k⟩,q⟩|⟨⟨xs,k⟩,q⟩
 .have⟨its,rv,p,hz⟩:=d.list k;have l:a'<s1.heap.objs.size:=let ⟨o,ho,_⟩:=p.isList;et ho;show call_enumerate_list p.isList λh' i hl hsz hk=>?_;show XC i ⟨_,[s1.heap.objs.size+1,s1.heap.objs.size],_,_,j,rfl,d.kept (t':=s1.toks) hk,Ft a' _ _ f (gj l),⟨⟨_,i⟩,hl⟩,g h',q⟩
 .have⟨its,rv,p,hz⟩:=d.tuple k;have l:a'<s1.heap.objs.size:=let ⟨o,ho,_⟩:=p;et ho;show fV p λh' i hl hsz hk=>?_;show XC i ⟨_,[s1.heap.objs.size+1,s1.heap.objs.size],_,_,j,rfl,d.kept (t':=s1.toks) hk,Fu a' _ _ f (gj l),⟨⟨_,i⟩,hl⟩,g h',q⟩
end
def Cd{its:List dV}(h:ŉ (λi v=>its.toArray[its.toArray.size - 1 - i]?=a5 v) acc its.toArray.size):acc.toList=its.reverse:=by
 apply Ā;intro i;have hs:acc.size=its.length:=by have:=h.1;simpa using this
 by_cases b:i<its.length
 .have a:i<acc.size:=by lia
  have:=h.2 i (acc[i]'a) (by simp[a]);rw[qt,Pc a,List.getElem?_reverse b];simpa using this.symm
 .rw[Ru (by rw[hY];lia),Ru (by rw[Sb];lia)]
section
def yZ(g:X.calm=b8)(I:Inv X d σ H s)(j:Kz X.K H a xs)
  (h:∀its,Vals xs its->xs.length<=cK->∀(R:ez) (c:DD),R=s.heap.objs.size->c.objs.size=s.heap.objs.size+1->(∀b o,s.heap.get? b=a5 o->c.get? b=a5 o)->(∀B:N7,B.handled=X.A.handled ->
   Walks X.prog X.w B R [R,a] [R] its.toArray.size (λi v=>its.toArray[its.toArray.size - 1 - i]?=a5 v) (λi h=>i<=its.toArray.size/\h.IsRevIter R a ((its.toArray.size:Int) - 1 - (i:Int))/\h.IsList a its.toArray)) ->
   c.IsRevIter R a ((its.toArray.size:Int) - 1 - ((0:Nat):Int))->c.IsList a its.toArray->a<s.heap.objs.size->Q (.ref R) {s with heap:=c}):d4 (fS X.prog X.w) X.A (Oz (.type "reversed") [.ref a]) Q X.xe s:=by
 have⟨its,rv,p,hz⟩:=I.list j;have f:a<s.heap.objs.size:=let ⟨o,ho,_⟩:=p.isList;et ho;show call_reversed_list p.isList (h its rv hz _ _ rfl (by rw[KA]) (λb o e=>cL _ e) (λB k=>Walks.listRev (by rw[k];show I.ok.hd g) _ a (gj f) its.toArray) ?_ (p.isList.push _) f);show⟨_,fx _ rfl,rfl,?_⟩;change Vf _=Vf _;congr 3
 simp
def y0(n:X.calm=b8)(I:Inv X c σ H s)(p:Kz X.K H a xs)(q:∀l,H l=b6->Q (.ref l) (upd H l (.lst xs.reverse))):
  d4 (fS X.prog X.w) X.A (Oz (.type "reversed") [.ref a]) (λv s1=>d4 (fS X.prog X.w) X.A (Oz (.type "list") [v]) (EP X c σ Q) X.xe s1) X.xe s:=by
 show yZ n I p λits rv hz R d h hsz hk r t hl u=>?_;have T:its.length=xs.length:=rv.length.symm;show qK (s:={s with heap:=d}) (r X.A.in1.in1 rfl).toS (λi s st=>st.2.1.typeIs) ⟨kr _,t,hl⟩ (λb f=>?_) (by simp) (λs' acc j g x y=>?_) (by simp;lia)
 .change b<d.objs.size;rw[hsz];rcases d6.mp f with z|z
  .rw[z,h];show Ph _
  .rw[i3.mp z];show Q4 u
 .have⟨k,B,C,D,o2⟩:=s';have G:B=s.gens:=g.gens;have J:C=s.drawn:=g.drawn;have L:o2=s.os:=g.os;subst G J L;have k2:∀b o,s.heap.get? b=a5 o->k.get? b=a5 o:=λb o e=>g.heap b o (λz=>by
   have f:=et e;rcases d6.mp z with z|z
   .rw[z]at f;have m:d.objs.size<s.heap.objs.size:=f;rw[hsz]at m;show absurd m (Ę (Ph _))
   .rw[i3.mp z,h]at e;show absurd (et e) (t4 _)) (cL _ (hk b o e))
  have N:=Cd y;show⟨.ref d.objs.size,_,I.laid (t':=D) (o:=.lst xs.reverse) k2 (by rw[hsz];show Ls _) ⟨by rw[Sb];show hz,its.reverse,j,rv.reverse,?_⟩,rfl,q _ (I.J_.fresh (by rw[hsz];show Ls _))⟩;have O:k.get? d.objs.size=a5 {cls:=.type "list",dict:=b6,data:=.seq acc j,slots:=#[]}:=x;rw[O,<-N,Ò]
end
def xp(l:ez)(a:Array dV)(n:Nat)(b:ez)(c:Array dV)(e:Nat)(dd:Option ez)(f:Array (Option dV))(o:¬(!a.isEmpty&&LS (a.size+c.size))=b8)(i:a.size<=cK)(j:a.size+c.size<=cK+1):
  Meets (Mx.«list.extend» ⟨[.ref l,.ref b],[]⟩) (λ_ R s=>s.heap.get? l=a5 {cls:=.type "list",dict:=b6,data:=.seq a n,slots:=#[]}/\s.heap.get? b=a5 {cls:=.type "list",dict:=dd,data:=.seq c e,slots:=f}/\R (.ok (.ret mA)) {s with heap:=s.heap.update l (qd λx=>x++c),toks:=s.toks}) :=
 .of_wp λprog w A R s h=>by
  have⟨p,g,d,q,os⟩:=s;have⟨hl,k,h⟩:=h;have r:=Ô;have t:=Xa;have u:=Yv;have v:=X8;have y:=X9;
  have m:(a++c).size<=cK+1:=by rw[WB];show j
  wp_walk using(Tr hl rfl (hz:=i) (_hz':=m)),O' hl,O' k;show⟨_,rfl,h⟩
def xq(l:ez)(a:Array dV)(n:Nat)(b:ez)(c:Array dV)(e:Nat)(dd:Option ez)(f:Array (Option dV))(o:¬(!a.isEmpty&&LS (a.size+c.size))=b8)(i:a.size<=cK)(j:a.size+c.size<=cK+1):
  Meets (Mx.«list.extend» ⟨[.ref l,.ref b],[]⟩) (λ_ R s=>s.heap.get? l=a5 {cls:=.type "list",dict:=b6,data:=.seq a n,slots:=#[]}/\s.heap.get? b=a5 {cls:=.type "tuple",dict:=dd,data:=.seq c e,slots:=f}/\R (.ok (.ret mA)) {s with heap:=s.heap.update l (qd λx=>x++c),toks:=s.toks}) :=
 .of_wp λprog w A R s h=>by
  have⟨p,g,d,q,os⟩:=s;have⟨hl,k,h⟩:=h;have r:=Ô;have t:=Xa;have u:=Yv;have v:=X8;have y:=X9;
  have m:(a++c).size<=cK+1:=by rw[WB];show j
  wp_walk using(Tr hl rfl (hz:=i) (_hz':=m)),O' hl,O' k;show⟨_,rfl,h⟩
section
def sD:Qn X "list.extend" (λx vs H Q=>∃l b xs zs,x=.ref l/\vs=[.ref b]/\H l=a5 (.lst xs)/\(Kz X.K H b zs\/KN X.K H b zs)/\xs.length+zs.length<=cK/\Q .Kb (upd H l (.lst (xs++zs)))):=by
 intro d s σ H x vs v us Q I t rv h;have⟨l,b,xs,zs,rfl,rfl,o,hB,hz,q⟩:=h;cases t;have⟨u,rfl,w⟩:=rv.one;cases w;have⟨z,its,n,r,hl,e⟩:=I.wU o;have f:∀a:List dV,Vals zs a->EP X d σ Q mA {s with heap:=s.heap.update l (qd λx=>x++a.toArray),toks:=s.toks}:=λa c=>by
  show⟨.Kb,_,I.mL (its':=its++a) o e (by simp) (r.append c) ?_,rfl,q⟩;rw[hH];lia
 have j:∀a:List dV,zs.length=a.length->its.toArray.size+a.toArray.size<=cK:=λa h=>by rw[hQ,hQ];lia
 have p:∀a:List dV,zs.length=a.length->¬(!its.toArray.isEmpty&&LS (its.toArray.size+a.toArray.size))=b8:=λa h=>by
  rw[yx (j a h),QU];show js
 rcases hB with hB|hB
 .obtain⟨a,c,pl,_⟩:=I.list hB;obtain⟨⟨cls,dd,data,k⟩,ho,g,m,i⟩:=pl.isList;simp only at g i;subst g i;have NH:=c.length;have y:=j a NH;show R9 Ē ⟨_,e,rfl⟩ Ą (ó _ _) (xp l its.toArray n b a.toArray m dd k (p a NH) ⋯ ⋯) ⟨e,ho,f a c⟩
 .obtain⟨a,c,pl,_⟩:=I.tuple hB;obtain⟨⟨cls,dd,data,k⟩,ho,g,m,i⟩:=pl;simp only at g i;subst g i;have NH:=c.length;have y:=j a NH;show R9 Ē ⟨_,e,rfl⟩ Ą (ó _ _) (xq l its.toArray n b a.toArray m dd k (p a NH) ⋯ ⋯) ⟨e,ho,f a c⟩
end
end L2
namespace L2
open PySem PySem.W PyProof.Rows
section
def xr{vs:List (Key×dV)}(hk:vs.map (·.1)=ks.map l0)(hl:acc.length=vs.length)(h:∀(j:Nat) (v:dV),acc[j]?=a5 v->∃k x,vs[j]?=a5 (k,x)/\(aI P w).is k v=b8):RE acc ks:=by
 induction acc generalizing ks vs with
 |nil =>
  cases vs with
  |nil=>cases ks with
   |nil=>show .nil
   |cons _ _=>cases hk
  |cons _ _=>cases hl
 |cons v acc b =>
  cases vs with
  |nil=>cases hl
  |cons p vs =>
   cases ks with
   |nil=>cases hk
   |cons k ks =>
    simp only[d3,Rx]at hk;have⟨k',x,a,c⟩:=h 0 v rfl;simp only[List.getElem?_cons_zero,RS]at a;subst a;have d:k'=l0 k:=hk.1;subst d;rcases bg (show jP (l0 k) v=b8 from c) with⟨i,t,e,rfl⟩|⟨y,t,e,rfl⟩
    .cases e
    .cases e;show .cons _ _ (b hk.2 (by simpa using hl) λj u f=>h (j+1) u (by simpa using f))
def jv:X.calm=b8->iG X (.builtin "sorted") (λxs H Q=>∃(d:ez) (kvs:List (Key×V)) (ks:List Str),xs=[.ref d]/\H d=a5 (.dK kvs)/\kvs.map (·.1)=ks.map l0/\ks.length<64/\∀q,H q=b6->Q (.ref q) (upd H q (.lst ((aU ks).map V.str)))):=by
 intro l a s σ H xs us Q I rs h;have⟨d,kvs,ks,rfl,e,hk,D,q⟩:=h;have⟨u,rfl,r⟩:=vals1 rs;cases r;have⟨hz,lo,vs,kv,dd⟩:=yB I.J_ e;have b:vs.length=kvs.length:=(Paired.length kv).symm;have m:kvs.length=ks.length:=by rw[<-c2 (f:=(·.1)),hk,c2]
 have n:vs.map (·.1)=ks.map l0:=by
  rw[<-hk];clear dd b hk m e q hz;induction kv with
  |nil=>rfl
  |cons r _ p=>rw[d3,d3,p,r.1]
 have⟨o,es,ep,t⟩:=id dd;have x:(64:Nat)<=cK:=by decide
 show fj (kdu_collect (A:=X.A.in1) (kdl_dict (knd:=aI X.prog X.w) (kvs:=vs) (ep:=ep) lo) (I.ok.hd l) ⟨o,es,t⟩ ⋯ λh' c acc y g=>⟨ks,xr n (by rw[hY];show g.1) (λj v z=>g.2 j v (by rw[<-qt];show z)),by rw[hY,g.1];lia,λG B C k2 i s2=>?_⟩);have k:Inv X a σ H {s with heap:=h',toks:=c}:=I.kept (t':=c) y;show⟨.ref h'.objs.size,_,k.laid (t':=c) (o:=.lst ((aU ks).map V.str)) k2 (i0 _) ⟨by rw[c2,dC];lia,B,C,dE s2,i⟩,rfl,q _ (k.J_.fresh (i0 _))⟩
end
section
theorem lr:∀{ns:List Int}{its:List dV},Vals (ns.map V.int) its->∃ps:List (Int×Tok),its=ps.map (λp=>WN p.1 p.2)/\ps.map (·.1)=ns
 |[],_,h=>by cases h;show⟨[],rfl,rfl⟩
 |n::ns,_,h=>by
  cases h with
  |cons r t =>
   have⟨a,rfl⟩:=r;have⟨ps,rfl,rfl⟩:=lr t;show⟨(n,a)::ps,rfl,rfl⟩
def y6:X.calm=b8->iG X (.builtin "sum") (λxs H Q=>∃(p:ez) (ns:List Int),xs=[.ref p]/\Kz X.K H p (ns.map V.int)/\Q (.int ns.sum) H):=by
 intro b a s σ H xs us Q I rs h;have⟨p,ns,rfl,c,q⟩:=h;have⟨u,rfl,r⟩:=vals1 rs;cases r;have⟨its,rv,pl,hz⟩:=I.list c;have⟨ps,rfl,rfl⟩:=lr rv;have e:(ps.map λp=>WN p.1 p.2).toArray=intItems ps.toArray:=by simp[intItems]
 show sum_intListG (xs:=ps.toArray) (I.ok.hd b) (by rw[<-e];show pl.isList) λh' d t' hk=>?_;rw[preSum_eq,K5 (by simp)];show⟨.int _,H,I.kept (t':=d) hk,⟨t',rfl⟩,q⟩
end
abbrev fK{α:Type}(lt:Nat->Nat->Bool):KasT α->α
 |.ret x=>x
 |.ask i j k=>fK lt (k (lt i j))
def Ly{α:Type}(n:Nat)(P:α->Prop):KasT α->Prop
 |.ret x=>P x
 |.ask i j k=>i<n/\j<n/\∀b,Ly n P (k b)
theorem Ly.Qz{P:α->Prop}{Q:β->Prop}{f:α->KasT β}(a:∀x,P x->Ly n Q (f x)):∀{t:KasT α},Ly n P t->Ly n Q (t.bind f)
 |.ret x,h=>a x h
 |.ask i j k,h=>⟨h.1,h.2.1,λb=>Ly.Qz a (h.2.2 b)⟩
theorem Ly.got:∀{t:KasT α},Ly n P t->P (fK lt t)
 |.ret _,h=>h
 |.ask i j k,h=>Ly.got (t:=k (lt i j)) (h.2.2 _)
theorem Ly.wp(b:∀i j,i<n->j<n->∀C:Bool->eH->Prop,C (lt i j) s->a i j C s):
  ∀{t:KasT α},Ly n P t->Q (fK lt t) s->t.kasWp a Q s
 |.ret _,_,q=>q
 |.ask i j k,h,q=>b i j h.1 h.2.1 _ (Ly.wp b (t:=k (lt i j)) (h.2.2 _) q)
abbrev Pm(n:Nat)(p:Array Nat):Prop:=p.toList.Perm (gs n)
section
variable{n:Nat}(hn:0<n)
include hn
def Pm.at(h:Pm n p)(i:Nat):p.getD i 0<n:=by
 by_cases a:i<p.size
 .have:p.getD i 0=p[i]:=by simp[Wa,a]
  rw[this];have b:p[i]∈p.toList:=by simp
  show rr.mp (h.mem_iff.mp b)
 .have:p.getD i 0=0:=by simp[Wa,a]
  rw[this];show hn
omit hn in
def Pm.rev(h:Pm n p)(i j:Nat):Pm n (kas_rev p i j):=(mirror_perm p i j _).toList.trans h
omit hn in
def Pm.Y8(h:Pm n p)(i j:Nat):Pm n (bubble p i j):=(bubble_perm p i j).toList.trans h
theorem sE(h:Pm n p):∀(f m:Nat),Ly n (λ_=>True) (kas_asc p f m)
 |0,m=>trivial
 |f+1,m=>⟨h.at hn _,h.at hn _,λb=>by
  cases b
  .show sE h f (m+1)
  .show trivial⟩
theorem kH:∀(f:Nat) (p:Array Nat) (m q:Nat),Pm n p->Ly n (λr=>Pm n r.1) (kas_desc f p m q)
 |0,p,m,q,h=>h
 |f+1,p,m,q,h=>⟨h.at hn _,h.at hn _,λb=>by
  cases b
  .show⟨h.at hn _,h.at hn _,λb=>by
    cases b
    .show kH f p (m+1) (q+1) h
    .show h⟩
  .change Ly n _ (if q>0 then _ else _);split
   .show kH f _ _ _ (h.rev _ _)
   .show kH f _ _ _ h⟩
def uY(h:Pm n p)(m r:Nat):Ly n (λx=>Pm n x.2) (kas_tail3 m r p):=by
 unfold kas_tail3;show Ly.Qz (λx _=>?_) (sE hn (h.rev _ _) _ _);show h.rev _ _
def uZ(h:Pm n p)(m r:Nat):Ly n (λx=>Pm n x.2) (kas_descPart m r p):=by
 unfold kas_descPart;show Ly.Qz (λx a=>?_) (kH hn _ _ _ _ h);split
 .show uY hn (a.rev _ _) _ _
 .show uY hn a _ _
def y7(h:Pm n p)(r:Nat):Ly n (λx=>Pm n x.2) (kas_count r p):=by
 unfold kas_count;show Ly.Qz (λm _=>?_) (sE hn h _ _);split
 .show h
 .split
  .show⟨h.at hn _,h.at hn _,λb=>by
    cases b
    .show uZ hn (h.rev _ _) _ _
    .show h⟩
  .show uZ hn h _ _
theorem lu(h:Pm n p)(k:Nat):∀(f l r:Nat),Ly n (λ_=>True) (kas_place p k f l r)
 |0,l,r=>trivial
 |f+1,l,r=>by
  unfold kas_place;split
  .show trivial
  .show⟨h.at hn _,h.at hn _,λb=>by
    cases b
    .show lu h k f _ _
    .show lu h k f _ _⟩
theorem y8:∀(f:Nat) (p:Array Nat) (k:Nat),Pm n p->Ly n (Pm n) (kas_bin f p k)
 |0,p,k,h=>h
 |f+1,p,k,h=>Ly.Qz (λl _=>y8 f _ _ (h.Y8 _ _)) (lu hn h _ _ _ _)
def u9:Ly n (Pm n) (Mj n):=by
 unfold Mj;show Ly.Qz (λx a=>?_) (y7 hn (p:=List.toArray (gs n)) (by unfold Pm;simp) n);split
 .show y8 hn _ _ _ a
 .show a
end
def lx(lt:Nat->Nat->Bool)(n:Nat):(fK lt (Mj n)).toList.Perm (gs n):=by
 cases n with
 |zero=>show MG _
 |succ n=>show(u9 (Í n)).got
section
def nJ(ho:s.heap.get? a=a5 (u5 "list" vs.toArray n))(l:vs.length<64)
  (m:2<=vs.length->∀s1:eH,(∀b o,b≠a->s.heap.get? b=a5 o->s1.heap.get? b=a5 o)->d4 (fS prog w) A (Ÿ vs.toArray) (λκ s'=>s'=s1/\∀i j,i<vs.length->j<vs.length->∀C:Bool->eH->Prop,C (lt i j) s1->X0 prog w A κ vs i j C s1) (λ_ _=>False) s1)
  (h:P (.done (.ret .none)) {s with heap:=Ê s.heap a vs (((fK lt (Mj vs.length)).toList.map λi=>vs.getD i mA).toArray)}) :
  d4 (fS prog w) A (Mx.«list.sort» ⟨[.ref a],[]⟩) P E s:=by
 have N:a<s.heap.objs.size:=et ho;have u:(64:Nat)<=cK:=by decide
 rw[list_sort_plain];show bD (ø ho rfl (bD (WZ ho rfl ?_ (by rw[hQ];lia) (kr _))));obtain⟨k,q⟩:∃k,(s.heap.update a (qd λ_=>(#[]:Array dV))).get? a=a5 (u5 "list" #[] k):=⟨_,ť ho λ_=>#[]⟩
 show bD (Ė q rfl (bD (wpAny_newTuple (bD (WV (ra ?_) (kr _))) (by change vs.length<=_;lia))));have d:(((s.heap.update a (qd λ_=>(#[]:Array dV))).push (u5 "tuple" vs.toArray 0)).push (u5 "list" #[] 0)).get? a=a5 (u5 "list" #[] k):=cL _ (cL _ q);have f:∀b o,b≠a->s.heap.get? b=a5 o->(((s.heap.update a (qd λ_=>(#[]:Array dV))).push (u5 "tuple" vs.toArray 0)).push (u5 "list" #[] 0)).get? b=a5 o:=λb o y e =>
  cL _ (cL _ (by rw[Pj _ _ _ _ y];show e))
 change d4 (fS prog w) A _ P E {s with heap:=((s.heap.update a (qd λ_=>(#[]:Array dV))).push (u5 "tuple" vs.toArray 0)).push (u5 "list" #[] 0)}
 dsimp only
 have r:((fK lt (Mj vs.length)).toList.map λi=>vs.getD i mA).length=vs.length:=by rw[c2,(lx lt _).length_eq,uv]
 by_cases c:vs.toArray.size<2
 .rw[Ž c,Ž c];show bD (df ?_);rw[StateT.run_pure];show bD (df ?_);have z:((fK lt (Mj vs.length)).toList.map λi=>vs.getD i mA).toArray=(vs.toArray.zip vs.toArray).map (·.2):=by
   have g:=lx lt vs.length;clear h m r f d ho l
   match vs,c,g with
   |[],_,g=>rw[show(fK lt (Mj ([]:List dV).length)).toList=[] from Ķ.mp g];simp
   |[v],_,g=>rw[show(fK lt (Mj [v].length)).toList=[0] from List.perm_singleton.mp g];simp
   |_::_::_,c,_=>simp at c;lia
  rw[z]at h
  dsimp only
  show bD (Ė d rfl (bD (WZ d rfl ?_ (kr _) (by rw[SN];change(pairsOf vs).size<=_;rw[pairsOf_size];lia))));simp only[bne_self_eq_false,L3,if_false];show df h
 .rw[ž c,ž c];have t:2<=vs.length:=by rw[hQ]at c;lia
  show bD (qb (m t _ f) (λκ s0 hk=>?_) λ_ _ x=>x.elim);have⟨rfl,hk⟩:=hk;show bD (qb (kat_run (κ:=κ) (ks:=vs) (vs:=vs) (G:=λp s'=>p=fK lt (Mj vs.length)/\s'={s with heap:=((s.heap.update a (qd λ_=>(#[]:Array dV))).push (u5 "tuple" vs.toArray 0)).push (u5 "list" #[] 0)})
   (Q:=λst' s'=>∃p:Array Nat,arrOf st'=p.map (kas_item (vs.toArray.zip vs.toArray))/\failedOf st'=b6/\p=fK lt (Mj vs.length)/\s'={s with heap:=((s.heap.update a (qd λ_=>(#[]:Array dV))).push (u5 "tuple" vs.toArray 0)).push (u5 "list" #[] 0)})
   rfl t l (λp st' s' O B D H=>⟨p,B,D,H⟩) (Ly.wp hk (u9 ⋯) ⟨rfl,rfl⟩)) ?_ λ_ _ e=>e)
  rintro⟨⟨⟩,st'⟩ s' ⟨p,I,J,rfl,rfl⟩
  dsimp only
  have L:=kat_snds rfl I;rw[L,J];show bD (Ė d rfl (bD (WZ d rfl ?_ (kr _) (by rw[hQ,r];lia))));simp only[bne_self_eq_false,L3,if_false];show df h
end
@[reducible]def Ce:=Str×Int
abbrev MK(ks:List Str)(i j:Nat):Bool:=c4 ((ks.getD i nH).cps.toList<(ks.getD j nH).cps.toList)
abbrev eV(ks:List Str):List Nat:=(fK (MK ks) (Mj ks.length)).toList
def cj(ks:List Str):(eV ks).Perm (gs ks.length):=lx _ _
abbrev HK(x:Str)(n:Int)(t u:Tok):Obj:={cls:=.type "tuple",data:=.seq #[.str x t,.int n u]}
abbrev fE(h:DD)(as:List ez)(ps:List Ce):Prop:=as.length=ps.length/\∀(j:Nat) (a:ez),as[j]?=a5 a->∃p t u,ps[j]?=a5 p/\h.get? a=a5 (HK p.1 p.2 t u)
def fE.keeps(x:fE h as ps)(k:∀b o,b∈as->h.get? b=a5 o->h'.get? b=a5 o):fE h' as ps :=
 ⟨x.1,λj a e=>let ⟨p,t,u,c,d⟩:=x.2 j a e;⟨p,t,u,c,k a _ (mh e) d⟩⟩
def fE.tail(x:fE h (a::as) (p::ps)):fE h as ps :=
 ⟨by have:=x.1;simpa using this,λj b e=>by
  have⟨q,t,u,c,d⟩:=x.2 (j+1) b (by simpa using e);show⟨q,t,u,by simpa using c,d⟩⟩
theorem fE.eX:∀{as:List ez}{ps:List Ce},fE h as ps->∃b:List dV,KatTups h (as.map hU) b/\b.length=as.length/\∀v∈b,∃x t,v=sL x t
 |[],_,_=>⟨[],ĝ,rfl,by simp⟩
 |a::as,[],x=>by have:=x.1;simp at this
 |a::as,p::ps,x=>by
  have⟨b,c,d,e⟩:=fE.eX x.tail;have⟨q,t,u,g,f⟩:=x.2 0 a rfl;show⟨.str q.1 t::b,Đ f rfl rfl rfl c,by simp[d],λv hv=>?_⟩;rcases d6.mp hv with rfl|hv
  .show⟨_,_,rfl⟩
  .show e v hv
theorem nK:∀{l:List α}{m:List β}{i:Nat}{x:α},Paired F l m->l[i]?=a5 x->∃y,m[i]?=a5 y/\F x y
 |_,_,_,_,.nil,e=>by simp at e
 |_,_,0,_,.cons r _,e=>by simp at e;subst e;show⟨_,rfl,r⟩
 |_,_,i+1,x,.cons _ t,e=>by
  have⟨u,a,b⟩:=nK (i:=i) (x:=x) t (by simpa using e);show⟨u,by simpa using a,b⟩
section
def Fv(x:fE s.heap as ps)(g:(ps.map (·.1)).Nodup)(e:i<as.length)(f:j<as.length)(q:C (MK (ps.map (·.1)) i j) s):
  X0 prog w A (tuples' b8) (as.map hU) i j C s:=by
 have⟨p,t,u,d,k⟩:=x.2 i as[i] (by simp[e]);have⟨a,t',u',c,l⟩:=x.2 j as[j] (by simp[f]);have hl:=x.1;have m:i<ps.length:=by lia
 have n:j<ps.length:=by lia
 have o:(as.map hU).getD i mA=.ref as[i]:=by simp[w6,e]
 have r:(as.map hU).getD j mA=.ref as[j]:=by simp[w6,f]
 have v:(ps.map (·.1)).getD i nH=p.1:=by simp[w6,d]
 have y:(ps.map (·.1)).getD j nH=a.1:=by simp[w6,c]
 unfold X0;rw[o,r];show kat_lt (b:=b8) k rfl l rfl ?_;unfold MK at q;rw[v,y]at q;change KatLex prog w A b8 (c4 (2<2)) C [(.str p.1 t,.str a.1 t'),(.int p.2 u,.int a.2 u')] 0 s;show ď (YM ?_);by_cases h:p.1=a.1
 .have z:i=j:=by
   have B:(ps.map (·.1))[i]'(by simpa using m)=(ps.map (·.1))[j]'(by simpa using n):=by
    obtain⟨_,D⟩:=dt.mp d;obtain⟨_,G⟩:=dt.mp c;simp[D,G,h]
   show(W6 g).mp B
  subst z;rw[d]at c;cases c;rw[Α rfl];show Ń (ď (YN ?_));rw[show(p.2==p.2)=b8 by simp];show Ń (kat_nil ?_);have:c4 (p.1.cps.toList<p.1.cps.toList)=cc:=ſ (ĥ _);rw[this]at q;show q
 .rw[ſ h];show kat_no (oneLt_str q)
def Fw(x:fE s.heap as ps)(c:(ps.map (·.1)).Nodup)(g:2<=as.length):
  d4 (fS prog w) A (Ÿ (as.map hU).toArray) (λκ s'=>s'=s/\∀i j,i<(as.map hU).length->j<(as.map hU).length->∀C:Bool->eH->Prop,C (MK (ps.map (·.1)) i j) s->X0 prog w A κ (as.map hU) i j C s) (λ_ _=>False) s:=by
 have⟨h,d,k,e⟩:=x.eX;show kat_kind (T:=.type "str") d ⋯ (λv f=>?_) rfl ⟨rfl,λi j a b C q=>?_⟩
 .have⟨y,t,rfl⟩:=e v f;show Ĝ rfl
 .rw[c2]at a b;show Fv x c a b q
end
abbrev kh(H:Hp):List (ez×List V)->Hp
 |[]=>H
 |(a,vs)::r=>upd (kh H r) a (.tup vs)
theorem ly:∀{l:List (ez×List V)}{b:ez}{o:HO},kh H l b=a5 o->(∃vs,(b,vs)∈l/\o=.tup vs)\/H b=a5 o
 |[],b,o,h=>.inr h
 |(a,vs)::r,b,o,h=>by
  by_cases c:b=a
  .subst c;rw[kh,az]at h;cases h;show .inl ⟨vs,by simp,rfl⟩
  .rw[kh,au c]at h;rcases ly h with⟨ws,d,e⟩|q
   .show .inl ⟨ws,by simp[d],e⟩
   .show .inr q
theorem lA:∀{l:List (ez×List V)}{b:ez},(∀p∈l,p.1≠b)->kh H l b=H b
 |[],b,_=>rfl
 |(a,vs)::r,b,h=>by
  rw[kh,au (qP (h _ nc))];show lA λp c=>h p (by simp[c])
theorem u_:∀{l:List (ez×List V)}{b:ez}{vs:List V},(l.map (·.1)).Nodup->(b,vs)∈l->kh H l b=a5 (.tup vs)
 |(a,ws)::r,b,vs,d,h=>by
  have c:a∉r.map (·.1)/\(r.map (·.1)).Nodup:=by simpa using d
  rcases d6.mp h with h|h
  .cases h;show az
  .have:b≠a:=λz=>c.1 (by rw[<-z];show lz.mpr ⟨_,h,rfl⟩);rw[kh,au this];show u_ c.2 h
section
def Inv.many(I:Inv X a σ H s)(k:∀b u,s.heap.get? b=a5 u->h'.get? b=a5 u)(d:∀b o,H b=a5 o->H' b=a5 o)
  (f:∀b o,H' b=a5 o->H b=a5 o\/(s.heap.objs.size<=b/\bE X.prog X.w H' h' b o)):Inv X a σ H' {s with heap:=h',toks:=t' }:=by
 show I.un ⟨λb u q _ _ _=>k b u q,λb u q _ _ _=>⟨u.slots,k b u q⟩,λb u q n _=>?_,λb u q _=>⟨u,k b u q⟩,λb xs q=>d b _ q,λb u xs q=>d b _ q,λb ps q=>⟨#[],by rw[d b _ q];simp⟩⟩ λb o e=>?_
 .cases e:H' b with
  |none=>rfl
  |some o =>
   rcases f b o e with z|⟨z,_⟩
   .rw[n]at z;cases z
   .show absurd (i5 (et q) z) (t4 _)
 .rcases f b o e with z|⟨_,z⟩
  .show(I.J_ b o z).fI (λc v _ q=>k c v q) (λc q=>d c _ q) λc xs q=>d c _ q
  .show z
abbrev Oe(p:Ce):List V:=[.str p.1,.int p.2]
def pf{ps:List Ce}(hc:X.calm=b8)(I:Inv X g σ H s)(e:H d=a5 (.dK (ps.map λp=>((l0 p.1:Key),V.int p.2))))(Kk:(ps.map (·.1)).Nodup)(Mp:ps.length<64)
  (q:∀(as:List ez) (L:ez),as.length=ps.length->as.Nodup->(∀a∈L::as,H a=b6)->L∉as->Q (.ref L) (upd (kh H (as.zip (ps.map Oe))) L (.lst ((eV (ps.map (·.1))).map λi=>V.ref (as.getD i 0))))) :
  d4 (fS X.prog X.w) X.A (Oz (.builtin "dict.items") [.ref d]) (λv s1=>d4 (fS X.prog X.w) X.A (Oz (.builtin "sorted") [v]) (EP X g σ Q) X.xe s1) X.xe s:=by
 have ab:(64:Nat)<=cK:=by decide
 have⟨hz,lo,vs,kv,dd⟩:=yB I.J_ e;have C:vs.length=ps.length:=by
  have:=Paired.length kv;simpa using this.symm
 have⟨o,es,ep,r⟩:=id dd;show XY PySem.F.slot_dict_items (show s.TypeIs (.ref d) "dict" from⟨o,r.1,r.2.1.1⟩) PySem.F.entry_dict_items (PySem.F.args_dict_items_1 _) (ŕ (aI X.prog X.w) d lo) ⟨⟨vs,dd⟩,?_⟩;change d4 (fS X.prog X.w) X.A (Oz (.builtin "sorted") [.ref s.heap.objs.size]) (EP X g σ Q) X.xe {s with heap:=s.heap.push {cls:=.type "dict_items",data:=.fields #[.ref d]}};have k1:∀b u,s.heap.get? b=a5 u->(s.heap.push {cls:=.type "dict_items",data:=.fields #[.ref d]}).get? b=a5 u:=λb u z=>cL _ z;have ac:(s.heap.push {cls:=.type "dict_items",data:=.fields #[.ref d]}).DictOf (aI X.prog X.w) d vs:=⟨o,es,ep,k1 _ _ r.1,r.2⟩
 have Mz:(s.heap.push {cls:=.type "dict_items",data:=.fields #[.ref d]}).DictAt (aI X.prog X.w) d vs ep:=⟨o,es,k1 _ _ r.1,r.2⟩
 show Tw ė ö ù (ú _) ?_;unfold Mx.«sorted»;show bD (m:=į "sorted" 1 1 _) (df ?_);show bD (kdx_collect (A:=X.A.in1) (knd:=aI X.prog X.w) (kvs:=vs) (ep:=ep) (I.ok.hd hc) ⟨_,fx _ rfl,rfl,rfl⟩ Mz ⋯ λc tk as hk hl D=>?_);have G:as.length=ps.length:=hl.trans C;have f:∀a∈as,s.heap.objs.size<=a:=λa ha=>by
  have:=D.above a ha;have z:(s.heap.push {cls:=.type "dict_items",data:=.fields #[.ref d]}).objs.size=s.heap.objs.size+1:=KA ..;have WQ:(s.heap.push {cls:=.type "dict_items",data:=.fields #[.ref d]}).objs.size<a:=this;lia
 have pa:fE c as ps:=⟨G,λj a ea=>by
  have⟨key,k,x,N,O,e3⟩:=D.pairs j a ea;have B:j<ps.length:=by rw[<-G];show(dt.mp ea).1
  have⟨y,ey,r1,r2⟩:=nK kv (i:=j) (x:=((l0 ps[j].1:Key),V.int ps[j].2)) (by simp[B]);rw[N]at ey;cases ey;obtain⟨tx,rfl⟩:∃t,x=.int ps[j].2 t:=r2;have Y':k=l0 ps[j].1:=r1.symm;subst Y';have⟨t,rfl⟩:=Ó (x:=ps[j].1) (v:=key) O;show⟨ps[j],t,tx,by simp[B],e3⟩⟩
 have nd:as.Nodup:=D.rise.imp λh=>gj h;show bD (WV ?_ (by rw[c2];lia));have T:(c.push (u5 "list" (as.map hU).toArray 0)).get? c.objs.size=a5 (u5 "list" (as.map hU).toArray 0):=fx _ rfl;change d4 _ _ _ _ _ {s with heap:=c.push (u5 "list" (as.map hU).toArray 0),toks:=tk};have SS:∀a∈as,a<c.objs.size:=λa ha=>D.there ha;show bD (ra (x3 Ë ⟨_,T,rfl⟩ Zs (nJ (lt:=MK (ps.map (·.1))) T (by rw[c2];lia) (λh2 s1 ks=>?_) ⟨_,rfl,?_⟩) (Ì _)))
 .show Fw (pa.keeps λb o J z=>ks b o (gj (SS b J)) (cL _ z)) Kk (by rw[c2]at h2;show h2)
 .have⟨ee,he⟩:=Þ (out:=((fK (MK (ps.map (·.1))) (Mj (as.map hU).length)).toList.map λi=>(as.map hU).getD i mA).toArray) T;have n:∀b o,c.get? b=a5 o->(Ê (c.push (u5 "list" (as.map hU).toArray 0)) c.objs.size (as.map hU) ((fK (MK (ps.map (·.1))) (Mj (as.map hU).length)).toList.map λi=>(as.map hU).getD i mA).toArray).get? b=a5 o:=λb o z=>by
   have Kj:b<c.objs.size:=et z;rw[É (gj Kj) (by rw[KA];show Q4 Kj)];show cL _ z
  have Mq:s.heap.objs.size<=c.objs.size:=Q8 (et (hk _ _ (fx _ rfl)));have eP:((fK (MK (ps.map (·.1))) (Mj (as.map hU).length)).toList)=eV (ps.map (·.1)):=by
   unfold eV;rw[c2,c2,G]
  have QA:H c.objs.size=b6:=I.J_.fresh Mq;have Za:c.objs.size∉as:=λz=>t4 _ (SS _ z);have WR:∀a∈as,H a=b6:=λa ha=>I.J_.fresh (f a ha);have U4:∀{b:ez} {ws:List V},(b,ws)∈as.zip (ps.map Oe)->b∈as:=λz=>(R0 z).1;show df ⟨_,rfl,.ref c.objs.size,upd (kh H (as.zip (ps.map Oe))) c.objs.size (.lst ((eV (ps.map (·.1))).map λi=>V.ref (as.getD i 0))),?_,rfl,q as _ G nd (λa ha=>?_) Za⟩
  .show I.many (λb u z=>n b u (hk b u (k1 b u z))) (λb o z=>?_) λb o z=>?_
   .have n1:b≠c.objs.size:=λy=>by rw[y,QA]at z;cases z
    rw[au n1,lA λp hp y=>?_]
    .show z
    .have:=WR p.1 (U4 (b:=p.1) (ws:=p.2) hp);rw[y,z]at this;cases this
   .by_cases J:b=c.objs.size
    .subst J;rw[az]at z;cases z;show .inr ⟨Mq,by rw[c2,(cj _).length_eq,uv,c2];lia,(eV (ps.map (·.1))).map λi=>(as.map hU).getD i mA,ee,?_,?_⟩
     .have Y:∀i∈eV (ps.map (·.1)),i<as.length:=λi hi=>by
       have:=rr.mp ((cj _).mem_iff.mp hi);rw[c2]at this;lia
      generalize eV (ps.map (·.1))=l at Y;induction l with
      |nil=>show .nil
      |cons i l ih =>
       show .cons ?_ (ih λj B=>Y j (by simp[B]));have hi:=Y i (by simp);change RelV (.ref (as.getD i 0)) ((as.map hU).getD i mA);have:(as.map hU).getD i mA=.ref (as.getD i 0):=by simp[w6,hi]
       rw[this];rfl
     .rw[<-eP];show he
    .rw[au J]at z;rcases ly z with⟨ws,z1,rfl⟩|z1
     .have⟨j,B,ej⟩:=Vn.mp z1;have U5:j<as.length:=by simp at B;lia
      have U3:j<ps.length:=by lia
      have Zb:as[j]=b/\Oe ps[j]=ws:=by simpa using ej
      have⟨rfl,rfl⟩:=Zb;have⟨p,t,u,N,O⟩:=pa.2 j as[j] (by simp[U5]);have:p=ps[j]:=by simpa[U3] using N.symm
      subst this;show .inr ⟨f _ (by simp),by change 2<=cK;lia,[.str ps[j].1 t,.int ps[j].2 u],.cons ⟨t,rfl⟩ (.cons ⟨u,rfl⟩ .nil),_,n _ _ O,rfl,0,rfl⟩
     .show .inl z1
  .rcases d6.mp ha with rfl|ha
   .show QA
   .show WR a ha
end
abbrev fF(h:DD)(as:List ez)(ks:List Str):Prop:=as.length=ks.length/\∀(j:Nat) (a:ez),as[j]?=a5 a->∃k t o n b u,ks[j]?=a5 k/\h.get? a=a5 o/\o.cls=.type "tuple"/\o.data=.seq #[.str k t,.int b u] n
def fF.keeps(x:fF h as ks)(k:∀b o,b∈as->h.get? b=a5 o->h'.get? b=a5 o):fF h' as ks :=
 ⟨x.1,λj a e=>let ⟨k0,t,o,n,b,u,c,d,f⟩:=x.2 j a e;⟨k0,t,o,n,b,u,c,k a o (mh e) d,f⟩⟩
def fF.tail(x:fF h (a::as) (k::ks)):fF h as ks :=
 ⟨by have:=x.1;simpa using this,λj b e=>by
  have⟨k0,t,o,n,c,u,d,f⟩:=x.2 (j+1) b (by simpa using e);show⟨k0,t,o,n,c,u,by simpa using d,f⟩⟩
theorem fF.eX:∀{as:List ez}{ks:List Str},fF h as ks->∃c:List dV,KatTups h (as.map hU) c/\c.length=as.length/\∀v∈c,∃x t,v=sL x t
 |[],_,_=>⟨[],ĝ,rfl,by simp⟩
 |a::as,[],x=>by have:=x.1;simp at this
 |a::as,k::ks,x=>by
  have⟨c,d,e,f⟩:=fF.eX x.tail;have⟨k0,t,o,n,b,u,l,g,i,j⟩:=x.2 0 a rfl;show⟨.str k0 t::c,Đ g i j rfl d,by simp[e],λv hv=>?_⟩;rcases d6.mp hv with rfl|hv
  .show⟨_,_,rfl⟩
  .show f v hv
section
def Fx(x:fF s.heap as ks)(z:ks.Nodup)(g:i<as.length)(k:j<as.length)(q:C (MK ks i j) s):
  X0 prog w A (tuples' b8) (as.map hU) i j C s:=by
 obtain⟨p,t,o,n,b,u,l,m,_,r⟩:=x.2 i as[i] (by simp[g]);obtain⟨d,t',o',O,v,u',y,e,_,c⟩:=x.2 j as[j] (by simp[k]);have B:(as.map hU).getD i mA=.ref as[i]:=by simp[w6,g]
 have D:(as.map hU).getD j mA=.ref as[j]:=by simp[w6,k]
 have G:ks.getD i nH=p:=by simp[w6,l]
 have H:ks.getD j nH=d:=by simp[w6,y]
 unfold X0;rw[B,D];show kat_lt (b:=b8) m r e c ?_;unfold MK at q;rw[G,H]at q;change KatLex prog w A b8 (c4 (2<2)) C [(.str p t,.str d t'),(.int b u,.int v u')] 0 s;show ď (YM ?_);by_cases h:p=d
 .have I:i=j:=by
   have⟨Q,J⟩:=dt.mp l;have⟨T,L⟩:=dt.mp y;show(W6 z).mp (by rw[J,L,h])
  subst I;rw[m]at e;cases e;rw[r]at c;injection c with c _
  have f:b=v/\u=u':=by
   have:=Δ (λa:Array dV=>a[1]?) c;simpa using this
  have⟨f,N⟩:=f;subst f N;subst h;rw[Α rfl];show Ń (ď (YN ?_));rw[show(b==b)=b8 by simp];show Ń (kat_nil ?_);have:c4 (p.cps.toList<p.cps.toList)=cc:=ſ (ĥ _);rw[this]at q;show q
 .rw[ſ h];show kat_no (oneLt_str q)
def Fy(x:fF s.heap as ks)(c:ks.Nodup)(g:2<=as.length):
  d4 (fS prog w) A (Ÿ (as.map hU).toArray) (λκ s'=>s'=s/\∀i j,i<(as.map hU).length->j<(as.map hU).length->∀C:Bool->eH->Prop,C (MK ks i j) s->X0 prog w A κ (as.map hU) i j C s) (λ_ _=>False) s:=by
 have⟨h,d,k,e⟩:=x.eX;show kat_kind (T:=.type "str") d ⋯ (λv f=>?_) rfl ⟨rfl,λi j a b C q=>?_⟩
 .have⟨y,t,rfl⟩:=e v f;show Ĝ rfl
 .rw[c2]at a b;show Fx x c a b q
end
section
def sF{as:List ez}(I:Inv X d σ H s)(e:Kz X.K H L (as.map V.ref))(hl:as.length=ks.length)
  (T:∀(j:Nat) a k,as[j]?=a5 a->ks[j]?=a5 k->∃b,KN X.K H a [.str k,.int b]) (Y:ks.Nodup) (Mp:as.length<64)
  (q:∀L',H L'=b6->Q (.ref L') (upd H L' (.lst ((eV ks).map λi=>V.ref (as.getD i 0))))) :
  d4 (fS X.prog X.w) X.A (Oz (.builtin "sorted") [.ref L]) (EP X d σ Q) X.xe s:=by
 have ab:(64:Nat)<=cK:=by decide
 have⟨its,rv,pl,hz⟩:=I.list e;have PL:its=as.map hU:=by
  have:∀(as:List ez) (its:List dV),Vals (as.map V.ref) its->its=as.map hU:=λas=>by
   induction as with
   |nil=>intro its h;cases h;rfl
   |cons a as x =>
    intro its h;cases h with
    |cons r t=>rw[x _ t];cases r;rfl
  show this as its rv
 subst PL;have J:fF s.heap as ks:=⟨hl,λj a p=>by
  have c:j<ks.length:=by rw[<-hl];show(dt.mp p).1
  have⟨b,y⟩:=T j a ks[j] p (by simp[c]);obtain⟨us,r,⟨o,h1,v,n,h3⟩,_⟩:=I.tuple y;cases r with
  |cons r1 B =>
   cases B with
   |cons B r3 =>
    cases r3;have⟨t,rfl⟩:=r1;have⟨u,rfl⟩:=B;show⟨_,t,o,n,b,u,by simp[c],h1,v,h3⟩⟩
 show Tw ė ö ù (ú _) ?_;unfold Mx.«sorted»;show bD (m:=į "sorted" 1 1 _) (df ?_);show bD (collect_list pl.isList ?_ (by simp;lia));generalize N:(s.heap.push (u5 "list" #[] 0)).update s.heap.objs.size (qd (·++(as.map hU).toArray))=g;have k1:∀b o,s.heap.get? b=a5 o->g.get? b=a5 o:=λb o z=>by subst N;show gP z
 have hsz:s.heap.objs.size<=g.objs.size:=by subst N;rw[ă,KA];show Ls _
 have SS:∀a∈as,a<g.objs.size:=λa ha=>by
  have⟨j,c,p⟩:=Vn.mp ha;obtain⟨_,_,o,_,_,_,_,z,_⟩:=J.2 j a (by simp[c,p]);show i5 (et z) hsz
 show bD (WV ?_ (by rw[c2];lia));have C:(g.push (u5 "list" (as.map hU).toArray 0)).get? g.objs.size=a5 (u5 "list" (as.map hU).toArray 0):=fx _ rfl;change d4 _ _ _ _ _ {s with heap:=g.push (u5 "list" (as.map hU).toArray 0)};show bD (ra (x3 Ë ⟨_,C,rfl⟩ Zs (nJ (lt:=MK ks) C (by rw[c2];lia) (λv s1 kp=>?_) ⟨_,rfl,?_⟩) (Ì _)))
 .show Fy (J.keeps λb o y z=>kp b o (gj (SS b y)) (cL _ (k1 b o z))) Y (by rw[c2]at v;show v)
 .have⟨ee,he⟩:=Þ (out:=((fK (MK ks) (Mj (as.map hU).length)).toList.map λi=>(as.map hU).getD i mA).toArray) C;have f:∀b o,g.get? b=a5 o->(Ê (g.push (u5 "list" (as.map hU).toArray 0)) g.objs.size (as.map hU) ((fK (MK ks) (Mj (as.map hU).length)).toList.map λi=>(as.map hU).getD i mA).toArray).get? b=a5 o:=λb o z=>by
   have O:b<g.objs.size:=et z;rw[É (gj O) (by rw[KA];show Q4 O)];show cL _ z
  have eP:((fK (MK ks) (Mj (as.map hU).length)).toList)=eV ks:=by
   unfold eV;rw[c2,hl]
  have D:∀i∈eV ks,i<as.length:=λi G=>by
   have:=rr.mp ((cj _).mem_iff.mp G);lia
  show df ⟨_,rfl,.ref g.objs.size,_,I.laid (t':=s.toks) (o:=.lst ((eV ks).map λi=>V.ref (as.getD i 0))) (λb u z=>f b u (k1 b u z)) hsz ⟨?_,(eV ks).map λi=>(as.map hU).getD i mA,ee,?_,by rw[<-eP];show he⟩,rfl,q _ (I.J_.fresh hsz)⟩
  .rw[c2,(cj _).length_eq,uv];lia
  .generalize eV ks=l at D;induction l with
   |nil=>show .nil
   |cons i l x =>
    show .cons ?_ (x λj c=>D j (by simp[c]));have G:=D i (by simp);change RelV (.ref (as.getD i 0)) ((as.map hU).getD i mA);have:(as.map hU).getD i mA=.ref (as.getD i 0):=by simp[w6,G]
    rw[this];rfl
end
section
def ph:QW (.type "list") "keys"=pure b6:=am_miss_of_fast (by decide +kernel)
theorem pj(hx:s.heap.get? a=a5 {cls:=.type "list",dict:=b6,data:=.seq xs k,slots:=sl})(hA:A.handled=b6)
    (h:∀h' tk,(∀b ob,s.heap.get? b=a5 ob->h'.get? b=a5 ob)->Q b6 {s with heap:=h',toks:=tk}):d4 (fS prog w) A (č (.ref a) "keys") Q E s:=by
  obtain⟨hp,g,d,tk,os⟩:=s;have hT:∀SF,(⟨hp,g,d,SF,os⟩:eH).TypeIs (.ref a) "list":=λ_=>⟨_,hx,rfl⟩
  have f1:=sub_AttributeError;have f3:=PySem.F.slot_list_getattribute.lookup;have f4:=PySem.F.slot_list_getattribute.bind (.ref a);have f5:=am_list_getattr_none;have big:(1000:Nat)<=cK:=by decide
  have hk : (("keys" : Str)).length + 100 ≤ sizeLine := by have : ("keys" : Str).length = 4 := by decide
                                                           lia
  unfold č getAttrBy? getAttrBy
  repeat (any_goals (first|assumption|exact hT _|((with_reducible show d4 _ _ (Oz (RA "list.__getattribute__") _ _) _ _ _);refine R9 PySem.F.slot_list_getattribute (hT _) am_entry_list_getattribute (PySem.F.args_list_getattribute_2 _ _) (meets_getattribute_miss_list a xs k sl "keys" _ ph (by decide) hk) ⟨hx,hA,λh' SF e OZ=>?_⟩)|wp_step))
  obtain⟨t',u',he⟩:=OZ.there;show d4 _ _ (Į _ _ _ _ _ _ _) _ _ _;unfold Į
  repeat (any_goals (first|assumption|wp_step))
  exact h _ _ OZ.keeps
def fW:Å Ũ "dict.update.loop"=a5 Mx.«dict.update.loop»:=Ŗ (by kernel_rfl)
def cV:plainId "dict.update.loop"=b8:=by decide +kernel
abbrev Cg(prog:t8)(w:vl)(d I:ez)(its:Array dV)(ps:List (Key×dV))(h:DD):Prop:=∀(j:Nat) p,ps[j]?=a5 p->∃a o e key,its[j]?=a5 (.ref a)/\a≠d/\a≠I/\h.get? a=a5 o/\o.cls=.type "tuple"/\o.data=.seq #[key,p.2] e/\(aI prog w).is p.1 key=b8
def Cg.keep(x:Cg prog w d I its ps h)(k:∀b o,b≠d->b≠I->h.get? b=a5 o->h'.get? b=a5 o):Cg prog w d I its ps h':=λj p e=>by
 have⟨a,o,n,key,g,c,f,i,l⟩:=x j p e;show⟨a,o,n,key,g,c,f,k a o c f i,l⟩
def y9(G:A.handled=b6)(H:ax≠I)(t:d≠I)(U7:ax≠d)(hz:ps.length<=cK)(hl:its.size=ps.length):
  ∀(k i:Nat) (s:eH) (acc:List (Key×dV)),ps.length - i=k->i<=ps.length->s.heap.IsListIter I ax i->s.heap.IsList ax its->acc.length<=i->Cg prog w d I its ps s.heap->s.heap.DictOf (aI prog w) d acc->(acc.map (·.1)++(ps.drop i).map (·.1)).Nodup ->
  (∀h' m,h'.DictOf (aI prog w) d (acc++ps.drop i)->(∀b o,b≠d->b≠I->s.heap.get? b=a5 o->h'.get? b=a5 o)->R (.ok (.ret res)) {s with heap:=h',toks:=m}) ->
  Qm (fS prog w) A (.builtin "dict.update.loop" ⟨[.ref d,.ref I,t7 i,res],[]⟩) R s:=by
 intro k;induction k with
 |zero =>
  intro i s acc hk hi f u WS J y h j;have MA:i=its.size:=by lia
  subst MA;show x2 fW ?_;rw[H0 cV _];change d4 _ A.in1 (Ud (.ref I) >>= _) _ _ s;show bD ((XZ (A:=A.in1) G I ax H its).done s _ _ ⟨f,u⟩ λh' m B=>?_);have e0:ps.drop its.size=[]:=List.drop_eq_nil_of_le ⋯;rw[e0,ro]at j;have g:∀b o,b≠I->s.heap.get? b=a5 o->h'.get? b=a5 o:=λb o c e=>B b o (by simpa using c) e;show bD (df (df (j h' m ?_ λb o _ c e=>g b o c e)));have⟨o,es,ep,ho,r⟩:=y;show⟨o,es,ep,g d o t ho,r⟩
 |succ k ih =>
  intro i s acc hk hi f u WS J y h j;have n:i<ps.length:=by lia
  obtain⟨p,L⟩:∃p,ps[i]?=a5 p:=⟨ps[i],by simp[n]⟩
  show x2 fW ?_;rw[H0 cV _];change d4 _ A.in1 (Ud (.ref I) >>= _) _ _ s;show bD ((XZ (A:=A.in1) G I ax H its).item i s _ _ ⋯ ⟨f,u⟩ λv h' m hP N B=>?_);have g:∀b o,b≠I->s.heap.get? b=a5 o->h'.get? b=a5 o:=λb o c e=>B b o (by simpa using c) e;have My:h'.DictOf (aI prog w) d acc:=by
   have⟨o,es,ep,ho,r⟩:=y;show⟨o,es,ep,g d o t ho,r⟩
  have O:=J.keep (h':=h') λb o _ c e=>g b o c e;have⟨a,o,e,key,e1,e2,e3,Q,e5,e6,e7⟩:=O i p L;have Y:its[i]?=a5 v:=hP;rw[e1]at Y;cases Y;show bD (ra (bD (wpAny_tryCatch ?_)));unfold ţ;show bD (TR (T:="tuple") ⟨o,Q,e5⟩ ?_);rw[Ž (by decide)];show bD (Ua Q e6 (df ?_));change d4 _ _ (MT [key,p.2] (dictSet d key p.2)) _ _ _;have C:ps.drop i=p::ps.drop (i+1):=by
   rw[TL n];have:ps[i]=p:=by simpa[n] using L
   rw[this]
  have NO:p.1∉acc.map (·.1):=λz=>by
   rw[C,d3,ri]at h;show h.2.2 _ z _ (by simp) rfl
  have U_:ũ acc p.1 p.2=acc++[p]:=by
   unfold ũ;rw[ž λz=>by
    have⟨x,hx,e⟩:=Pa.mp z;show NO (lz.mpr ⟨x,hx,by simpa using e⟩)]
  show ra (wpAny_dictSet_pairs (hsz:=by lia) e7 My λD l K7=>?_);rw[U_]at l;have q:∀b o,b≠d->h'.get? b=a5 o->D.get? b=a5 o:=λb o c e=>(K7.2 b c).trans e;have U':D.IsListIter I ax (i+1):=by
   obtain⟨z,_⟩:=N;show z.at λo e=>q _ o (qP t) e
  have Va:D.IsList ax its:=by
   obtain⟨_,z⟩:=N;show z.at λo e=>q _ o U7 e
  rw[C,d3]at h;rw[C]at j;show df ⟨Qc cV _,ih (i+1) _ (acc++[p]) ⋯ n U' Va (by simp;lia) (O.keep λb o c _ e=>q b o c e) l (by simpa using h) λh3 Zc Zd k3=>j h3 Zc (by simpa using Zd) λb o c Lj e=>k3 b o c Lj (q b o c (g b o Lj e))⟩
end
theorem y_{h:DD}:∀{as:List ez}{ps:List (Str×V)},as.length=ps.length->(∀(j:Nat) a p,as[j]?=a5 a->ps[j]?=a5 p->∃(o:Obj) (n:Nat) (t:Tok) (v:dV),h.get? a=a5 o/\o.cls=.type "tuple"/\o.data=.seq #[.str p.1 t,v] n/\RelV p.2 v) ->
  ∃vs:List (Key×dV),vs.length=ps.length/\vs.map (·.1)=ps.map (λp=>(l0 p.1:Key))/\KV (ps.map λp=>((l0 p.1:Key),p.2)) vs/\∀(j:Nat) q,vs[j]?=a5 q->∃a p o n t,as[j]?=a5 a/\ps[j]?=a5 p/\q.1=l0 p.1/\h.get? a=a5 o/\o.cls=.type "tuple"/\o.data=.seq #[.str p.1 t,q.2] n
 |[],[],_,_=>⟨[],rfl,rfl,.nil,by simp⟩
 |[],_::_,h,_=>by simp at h
 |_::_,[],h,_=>by simp at h
 |a::as,p::ps,hl,f=>by
  have⟨vs,g,i,k,l⟩:=y_ (as:=as) (ps:=ps) (by simpa using hl) λj b q c d=>f (j+1) b q (by simpa using c) (by simpa using d);have⟨o,n,t,v,c,d,m,r⟩:=f 0 a p rfl rfl;show⟨(l0 p.1,v)::vs,by simp[g],by simp[i],.cons ⟨rfl,r⟩ k,λj q e=>?_⟩;cases j with
  |zero =>
   simp at e;subst e;show⟨a,p,o,n,t,rfl,rfl,rfl,c,d,m⟩
  |succ j =>
   have⟨a',s,o',u,t',w,x,z⟩:=l j q (by simpa using e);show⟨a',s,o',u,t',by simpa using w,by simpa using x,z⟩
section
def Ci{as:List ez}{ps:List (Str×V)}(hc:X.calm=b8)(I:Inv X c σ H s)(e:Kz X.K H L (as.map V.ref))(hl:as.length=ps.length)(ht:∀(j:Nat) a p,as[j]?=a5 a->ps[j]?=a5 p->KN X.K H a [.str p.1,p.2])(Kk:(ps.map (·.1)).Nodup)
  (q:∀d,H d=b6->Q (.ref d) (upd H d (.dK (ps.map λp=>((l0 p.1:Key),p.2))))) :
  d4 (fS X.prog X.w) X.A (Oz (.type "dict") [.ref L]) (EP X c σ Q) X.xe s:=by
 have⟨its,rv,pl,hz⟩:=I.list e;rw[c2]at hz;have Lk:its.length=ps.length:=by rw[<-rv.length,c2,hl]
 have PL:its=as.map hU:=by
  have:∀(as:List ez) (its:List dV),Vals (as.map V.ref) its->its=as.map hU:=λas=>by
   induction as with
   |nil=>intro its h;cases h;rfl
   |cons a as ih =>
    intro its h;cases h with
    |cons r t=>rw[ih _ t];cases r;rfl
  show this as its rv
 subst PL;have⟨o,n,ho,B,C,D⟩:=pl;have⟨oc,od,ab,Pn⟩:=o;simp only at B C D;subst B C D;have⟨vs,v1,v2,v3,v4⟩:=y_ (h:=s.heap) hl λj a p e1 e2=>by
  obtain⟨us,r,⟨o,i,h2,n,h3⟩,_⟩:=I.tuple (ht j a p e1 e2);cases r with
  |cons r1 v =>
   cases v with
   |cons v r3 =>
    cases r3;have⟨t,rfl⟩:=r1;show⟨o,n,t,_,i,h2,h3,v⟩
 have G:X.A.handled=b6:=I.ok.hd hc;have J:L<s.heap.objs.size:=et ho;show Ů (Q₁:=λobj N=>obj=.ref s.heap.objs.size/\N={s with heap:=s.heap.push {cls:=.type "dict",data:=.dict #[]}}) PySem.F.kt_called_dict (PySem.F.kt_typeCall_dict_1 _) PySem.F.entry_dict_init (kt_code_dict_new _ ⟨rfl,rfl⟩) ?_;rintro obj N ⟨rfl,rfl⟩;have y:(s.heap.push {cls:=.type "dict",data:=.dict #[]}).DictOf (aI X.prog X.w) s.heap.objs.size []:=ZK s.heap;have k0:∀b u,s.heap.get? b=a5 u->(s.heap.push {cls:=.type "dict",data:=.dict #[]}).get? b=a5 u:=λb u z=>cL _ z;show⟨y.typeIs,PySem.F.args_dict_init_2 _ _,?_⟩;unfold Mx.«dict.__init__»;show bD ?_;unfold Ţ;show bD (wpAny_notOrdered_dict y.typeIs ?_);change d4 _ _ (pure (s.heap.objs.size,[hU L])) _ _ _;show df ?_;change d4 _ _ (WT "dict.__init__" s.heap.objs.size (.ref L) [] .none) _ _ _;unfold WT;show bD (TR (T:="list") ⟨_,k0 _ _ ho,rfl⟩ ?_);rw[Ž (by decide)];show bD (pj (k0 _ _ ho) G λi ac k1=>?_);have O:=k1 _ _ (k0 _ _ ho);have Y:i.DictOf (aI X.prog X.w) s.heap.objs.size []:=by
  have⟨o,es,ep,ho,r⟩:=y;show⟨o,es,ep,k1 _ _ ho,r⟩
 have l:s.heap.objs.size<i.objs.size:=by
  have⟨o,es,ep,ho,r⟩:=Y;show et ho
 show bD (Oo (bD (UN ⟨_,O,rfl,n,rfl⟩ ?_)));show df ⟨Qc cV _,y9 (A:=X.A.in1) (ax:=L) (I:=i.objs.size) (d:=s.heap.objs.size) (its:=(as.map hU).toArray) (ps:=vs) G (gj (Q3 J l)) (gj l) (gj J) ⋯ (by simp;lia) vs.length 0 _ [] ⋯ (kr _) ⟨_,fx _ rfl,rfl,rfl⟩ ⟨_,cL _ O,rfl,n,rfl⟩ (i0 _) (λj q hq=>?_) (Y.push _) (by rw[H8,lg,YL,v2];show(i9 (f:=λp:Str×V=>p.1) (g:=λx=>(l0 x:Key))▸(Ş _ (λa b Ng z=>Ng (by injection z)) Kk)) ) λh' tk My kp=>?_⟩
 .have⟨a,p,o,m,t,z1,z2,z3,z4,z5,z6⟩:=v4 j q hq;have k:=et z4;show⟨a,o,m,.str p.1 t,by simp[z1],gj k,gj (Q3 k l),cL _ (k1 _ _ (k0 _ _ z4)),z5,z6,?_⟩;rw[z3];change Rz p.1 (.str p.1 t)=b8;simp[Rz]
 .show⟨rfl,.ref s.heap.objs.size,upd H s.heap.objs.size (.dK (ps.map λp=>((l0 p.1:Key),p.2))),I.laid (a:=s.heap.objs.size) (λb u z=>?_) (i0 _) ⟨by rw[c2];lia,?_,vs,v3,?_⟩,rfl,q _ (I.J_.fresh (i0 _))⟩
  .have k:=et z;show kp b u (gj k) (gj (Q3 k l)) (cL _ (k1 _ _ (k0 _ _ z)))
  .show Ε.mpr (B' I.big)
  .simpa using My
end
section
def Inv.freeze(I:Inv X a σ H s)(c:H r=a5 (.dK kvs))(ho:s.heap.get? r=a5 o):Inv X a σ (upd H r (.Lc o (.dK kvs))) s:=by
 have d:∀b u,H b=a5 u->u≠.dK kvs->b≠r:=λb u e n z=>by subst z;rw[c]at e;cases e;show n rfl
 show I.write (t':=s.toks) (x:=r) (e:=r) (by rw[c];trivial) (.inl rfl) (λb u _ q=>q) ⟨o,ho⟩ ⟨ho,(I.J_ r _ c).fI (λ_ _ _ q=>q) (λb q=>by rw[au (d b _ q (λz=>by cases z))];show q) λb xs q=>by rw[au (d b _ q (λz=>by cases z))];show q⟩
end
abbrev Vb(r:ez)(o:Obj)(kvs:List (Key×V)):It :=
 ⟨λi H=>H r=a5 (.Lc o (.dK kvs))/\i<kvs.length,λi H x H'=>∃p,H p=b6/\x=.ref p/\∀k v,kvs[i]?=a5 (k,v)->H'=upd H p (.tup [kV k,v]),λi H=>H r=a5 (.Lc o (.dK kvs))/\kvs.length<=i⟩
def Fz(h:(aI P w).is k u=b8):RelV (kV k) u:=by
 rcases bg (show jP k u=b8 from h) with⟨i,t,rfl,rfl⟩|⟨y,t,rfl,rfl⟩
 .show⟨t,rfl⟩
 .show⟨t,rfl⟩
theorem D_:∀{kvs:List (Key×V)}{vs:List (Key×dV)},KV kvs vs->∀(i:Nat) (h:i<kvs.length) (h':i<vs.length),kvs[i].1=vs[i].1/\RelV kvs[i].2 vs[i].2
 |_,_,.cons a _,0,_,_=>a
 |_,_,.cons _ b,i+1,h,h'=>D_ b i (by simpa using h) (by simpa using h')
def sG{K:PySem.W.Frag}(j:o.data=.dict J ep):
  Turn P w K (.Tuple es kx ps) (Vb r o kvs) [it] it (λi h=>∃d e,IsItemIter h it r i kvs.length ep d e) where
 mem:=by simp
 obj:=λi h ⟨d,e,st⟩ b a=>by
  rw[i3.mp a];show⟨_,st,λv z=>by
    have z':Vf _=Zr v:=z;cases z'⟩
 keep:=λi h h' ⟨d,e,st⟩ k=>⟨d,e,k it (by simp) _ st⟩
 item:=by
  intro X p t hK L i c s σ H E I l ⟨d,e,st⟩ u;subst p t;have⟨x,y⟩:=u;have⟨ho,z1,z2,vs,kv,o',Ze,Om,f,B,g,C⟩:=(show bE X.prog X.w H s.heap r (.Lc o (.dK kvs)) from I.J_ r _ x)
  rw[ho]at f;cases f;rw[j]at g;cases g;have hl:vs.length=kvs.length:=(Paired.length kv).symm;have D:s.heap.DictAt (aI X.prog X.w) r vs ep:=⟨o,J,ho,B,j,C⟩
  obtain⟨q,hq,e1,e2⟩:∃q,vs[i]?=a5 q/\kvs[i].1=q.1/\RelV kvs[i].2 q.2:=by
   have N:i<vs.length:=by lia
   show⟨vs[i],by simp[N],?_⟩;show D_ kv i y N
  rw[<-hl]at st;show wpAny_pyNext_items_item st D (k:=q.1) (v:=q.2) hq λkey h1 hk G hT hsz PM=>⟨_,rfl,wpAny_letOwnedTupleGo_items (s:={s with heap:=h1}) G λm O T=>?_⟩
  have Y:it<s.heap.objs.size:=et st;have U0:m.get? s.heap.objs.size=a5 {cls:=.type "tuple",data:=.seq #[key,q.2]}:=(T.2 _ (B' Y)).trans hT;have k2:∀b o,b∉[it]->s.heap.get? b=a5 o->m.get? b=a5 o:=λb o a q=>by
   have n:b≠it:=λz=>a (by simp[z]);show(T.2 b n).trans (PM b o n q)
  have I2:Inv X c σ (upd H s.heap.objs.size (.tup [kV kvs[i].1,kvs[i].2])) {s with heap:=m,toks:=s.toks}:=I.lq l k2 (i0 _)
   (show bE X.prog X.w _ m _ (.tup [kV kvs[i].1,kvs[i].2]) from⟨by change 2<=cK;decide,[key,q.2],.cons (by rw[e1];show Fz hk) (.cons e2 .nil),⟨_,U0,rfl,_,rfl⟩⟩)
  show⟨.ref s.heap.objs.size,_,I2,rfl,⟨_,I.J_.fresh (i0 _),rfl,λk v SW=>?_⟩,⟨_,_,by rw[hl]at O;show O⟩,λb a=>?_⟩
  .rw[l' y]at SW;rw[td SW]
  .have n:b≠s.heap.objs.size:=by rw[i3.mp a];show gj Y
   rw[au n];show(l b a).1
 done:=by
  intro X p t hK L i c s σ H E I l ⟨d,e,st⟩ u;subst p t;have⟨x,y⟩:=u;have⟨ho,z1,z2,vs,kv,o',Ze,Om,f,B,g,C⟩:=(show bE X.prog X.w H s.heap r (.Lc o (.dK kvs)) from I.J_ r _ x)
  rw[ho]at f;cases f;rw[j]at g;cases g;have hl:vs.length=kvs.length:=(Paired.length kv).symm;have D:s.heap.DictAt (aI X.prog X.w) r vs ep:=⟨o,J,ho,B,j,C⟩
  rw[<-hl]at st;show wpAny_pyNext_items_end (by simpa using I.ok.hd L) st D (Ru ⋯) λh' OZ=>⟨rfl,I.pe (t':=s.toks) l λb o a q=>OZ b o (λz=>a (by simp[z])) q⟩
 self:=λA i s Q E ⟨d,e,st⟩ h=>kcp_self st h
section
end
section
abbrev HL(b:TE):TI:=λσ H R=>b σ H λv a=>∃r kvs,v=.ref r/\a r=a5 (.dK kvs)/\∀o,R (Vb r o kvs) (upd a r (.Lc o (.dK kvs)))
def xu(A:PE X e B)(C:Qd e "items" X.env (t6 e X.env)=t6 e X.env)(D:(c.endLine==G.line)=b8):
  PI X (.Tuple es kx ps) (.Call (.Attribute e "items" c) [] [] G) (HL B):=by
 intro d s σ H R I J;show U9 C D (Kc (A d s σ H _ I J) λv s1 L=>?_);have⟨x1,m,n,N,r,kvs,p,q,h⟩:=L;subst p;cases(show v=hU r from N);obtain⟨_,_,_,_,o,_,_,O,_⟩:=(show bE X.prog X.w m s1.heap r (.dK kvs) from n.J_ r _ q)
 have f:=n.freeze q O;have h:=h o;generalize Q:upd m r (.Lc o (.dK kvs))=j at f h;have T:j r=a5 (.Lc o (.dK kvs)):=by rw[<-Q];show az
 have⟨ho,p,lo,vs,kv,o',k,ep,t,g,i,l⟩:=(show bE X.prog X.w j s1.heap r (.Lc o (.dK kvs)) from f.J_ r _ T)
 rw[ho]at t;cases t;have hl:vs.length=kvs.length:=(Paired.length kv).symm;have hm:s1.heap.DictAt (aI X.prog X.w) r vs ep:=⟨o,k,ho,g,i,l⟩
 have x:s1.TypeIs (.ref r) "dict":=⟨o,ho,g.1⟩
 show⟨"dict","dict.items",PySem.F.plainAttrs_dict,PySem.F.slot_dict_items,PySem.F.type_dict_items,x,λa e=>⟨o,by cases e;show ho,g.2.1⟩,y4 rfl (PySem.evalArgs_none (XY PySem.F.slot_dict_items x PySem.F.entry_dict_items (PySem.F.args_dict_items_1 _) (ŕ (aI X.prog X.w) r lo) ⟨⟨vs,o,k,ep,ho,g,i,l⟩,?_⟩))⟩;have k1:∀b u,s1.heap.get? b=a5 u->(s1.heap.push {cls:=.type "dict_items",data:=.fields #[.ref r]}).get? b=a5 u:=λb u z=>cL _ z;have Y:(s1.heap.push {cls:=.type "dict_items",data:=.fields #[.ref r]}).DictAt (aI X.prog X.w) r vs ep:=⟨o,k,k1 _ _ ho,g,i,l⟩
 show wpAny_pyIter_items (s:={s1 with heap:=s1.heap.push {cls:=.type "dict_items",data:=.fields #[.ref r]}}) ⟨_,fx _ rfl,rfl,rfl⟩ Y ?_;have hsz:(s1.heap.push {cls:=.type "dict_items",data:=.fields #[.ref r]}).objs.size=s1.heap.objs.size+1:=KA ..;have I2:=f.kept (t':=s1.toks) (h':=(s1.heap.push {cls:=.type "dict_items",data:=.fields #[.ref r]}).push {cls:=.type "dict_itemiterator",data:=.fields #[.none,.bool cc,.ref r,.int 0 0,.int vs.length 0,.int ep 0,.none,.none]}) λb u z=>cL _ (k1 b u z);show⟨_,[_],_,_,j,rfl,I2,sG (kvs:=kvs) i,⟨.none,.none,by rw[<-hl];show fx _ rfl⟩,λb hb=>?_,h⟩;rw[i3.mp hb];have y:s1.heap.objs.size<=(s1.heap.push {cls:=.type "dict_items",data:=.fields #[.ref r]}).objs.size:=by rw[hsz];show Ls _
 show f.yq y (f.J_.fresh y)
end
end L2
namespace L2
open PySem PySem.Spec PyProof.Rows
theorem pk:∀{bs:List Bool}{us:List dV},Vals (bs.map V.bl) us->us=bs.map OS
 |[],_,.nil=>rfl
 |_::_,_,.cons r t=>by rw[show _=OS _ from r,pk t];rfl
abbrev za(b:Bool):dV->Bool
 |.bool c=>c==b
 |_=>cc
section
abbrev FA:V->List V->Hp->VK->Prop:=λx vs H Q=>∃(l:ez) (bs:List Bool) (b:Bool),x=.ref l/\vs=[.bl b]/\H l=a5 (.lst (bs.map V.bl))/\Q (.int (bs.count b:Nat)) H
def zb:Qn X "list.count" FA:=by
 intro a s σ H x vs v us Q I d rv h;have⟨l,bs,b,rfl,rfl,f,q⟩:=h;cases d;have⟨u,rfl,g⟩:=rv.one;cases g;have⟨z,its,n,r,hl,e⟩:=I.wU f;obtain rfl:=pk r;show R9 F.slot_list_count ⟨_,e,rfl⟩ F.entry_list_count (F.args_list_count_2 _ _) (SeqAt.list_countAt l _ n b6 #[] (.bool b) (za b)) ⟨e,λy i=>?_,?_⟩
 .obtain⟨c,_,rfl⟩:=lz.mp (ą.mp i);show Yc c b
 .have:(bs.map OS).countP (za b)=bs.count b:=by rw[List.countP_map];rfl
  show⟨.int (bs.count b:Nat),H,I.tok _,⟨s.toks,by rw[<-this]⟩,q⟩
abbrev FC:V->List V->Hp->VK->Prop:=λx vs H Q=>∃(l:ez) (bs:List Bool) (b:Bool) (j:Nat),x=.ref l/\vs=[.bl b]/\H l=a5 (.lst (bs.map V.bl))/\bs[j]?=a5 b/\(∀m,m<j->bs[m]?≠a5 b)/\Q (.int j) H
def zc:Qn X "list.index" FC:=by
 intro a s σ H x vs v us Q I d rv h;have⟨l,bs,b,j,rfl,rfl,f,g,i,q⟩:=h;cases d;have⟨u,rfl,k⟩:=rv.one;cases k;have⟨z,its,n,r,hl,e⟩:=I.wU f;obtain rfl:=pk r;have⟨o,p⟩:=dt.mp g;have hz:cK<2 ^ 62:=by decide
 rw[c2]at z;show R9 F.slot_list_index ⟨_,e,rfl⟩ F.entry_list_index (F.args_list_index_2 _ _) (SeqAt.list_indexAt l _ n b6 #[] (.bool b) (za b) j (by simpa using o) ⋯ (by simp[za,p]) (λm t w=>?_)) ⟨e,λy A=>?_,?_⟩
 .have B:m<bs.length:=by simpa using t
  have:=i m w;rw[l' B]at this;simp only[List.getElem_toArray,W3,za];rw[Ε];show λz=>this (by rw[z])
 .obtain⟨c,_,rfl⟩:=lz.mp (ą.mp A);show Yc c b
 .show⟨.int j,H,I.tok _,⟨_,rfl⟩,q⟩
end
end L2
namespace L2
open PySem PyProof.Rows PySem.W
abbrev JQ(h:DD)(e C:ez)(a0:dV)(T:Option ez)(b:dV):Prop:=∃oe vs,h.get? e=a5 oe/\oe.cls=.ref C/\oe.data=.fields vs/\vs[0]?=a5 a0/\match T with
 |none=>vs[1]?=a5 .none
 |some T=>T≠e/\vs[1]?=a5 (.ref T)/\∃a ts,h.get? T=a5 a/\a.data=.fields ts/\ts[3]?=a5 b
structure bQ(P:t8)(w:vl)(stack:List Env)(H:Hp)(s:eH)(e C:ez)(T:Option ez)(fl:dV)(H':Hp)(s':eH):Prop where
 os:s'.os=s.os
 bare:UX s'.gens
 un:Un (KW stack) [] H H' s.heap s'.heap
 J_:Lh P w H' s'.heap
 new:s.heap.get? e=b6
 he:H' e=b6
 exc:∃a0,JQ s'.heap e C a0 T fl
 hT:∀a,T=a5 a->s.heap.get? a=b6/\H' a=b6
abbrev PN(P:t8)(w:vl):Pk:=λouter H s E v s'=>∃e C T H',v=.ref e/\bQ P w outer H s e C (a5 T) .none H' s'/\E (.ref C) b6 H'
def bE.there(x:bE P w H h a o):∃u,h.get? a=a5 u:=by
 cases o with
 |lst xs=>obtain⟨_,_,_,_,e⟩:=x;show⟨_,e⟩
 |tup xs=>obtain⟨_,_,_,_,e,_⟩:=x;show⟨_,e⟩
 |set S n=>obtain⟨o,_,_,_,e,_⟩:=x;show⟨_,e⟩
 |ins C c b=>obtain⟨_,_,_,e,_⟩:=x;show⟨_,e⟩
 |own y=>show x
 |xd b=>obtain⟨_,⟨_,_,_,e,_⟩,_⟩:=x;show⟨_,e⟩
 |Sl lo d=>obtain⟨_,_,_,e⟩:=x;show⟨_,e⟩
 |Lc g u=>show⟨_,x.1⟩
 |OR ps=>show⟨_,x⟩
 |met f y=>show⟨_,x⟩
 |ext φ=>show x.2.1
 |_=>obtain⟨_,_,_,_,o,_,_,e,_⟩:=x;show⟨_,e⟩
section
variable{P:t8}{w:vl}{stack outer:List Env}{H H':Hp}{s s':eH}{e C L:ez}{T:Option ez}{fl:dV}{base:DD}{env:Env}{M:Model}{A:N7}{E:dV->eH->Prop}{Q:Unit->eH->Prop}
theorem vb(u:Un (KW stack) [] H H' s.heap s'.heap)(a:∀b∈KW stack,H b=b6):∀l:List Env,(∀b∈KW l,b∈KW stack)->s.heap.FunFrames base l->s'.heap.FunFrames base l
 |[],_,_=>trivial
 |env::l,hs,⟨hk,⟨L,o,c,d,ho,f⟩,g⟩=>by
  have h:KW (env::l)=L::KW l:=by unfold KW;rw[C1,c]
  rw[h]at hs;have⟨j,q⟩:=u.any ho (a L (hs L nc)) λz=>nomatch z
  show⟨hk,⟨L,_,c,d,q,f⟩,vb u a l (λb i=>hs b (mf _ i)) g⟩
def bQ.next(F:bQ P w stack H s e C T fl H' s')(k:s.heap.FunFrames base stack)(l:∀b∈KW stack,H b=b6)(G:B=hideAll s'.heap (e::(T.toList++KW stack))):
  B.StaysIn s'.heap/\s'.heap.FunFrames B stack/\B.get? e=b6/\(∀a,T=a5 a->B.get? a=b6) /\
   ∀h' i,B.StaysIn h'->h'.FunFrames B stack->h'.TracedAtW B e (.ref C) a0 i->s'.heap.UpToSlots h'->∃c,bQ P w stack H s e C (a5 c) i H' {s' with heap:=h' }:=by
 have m:=vb F.un l _ (λ_ z=>z) k;subst G;show⟨λb o q=>of_hideAll _ q,funFrames_hide m λI J a N=>mf _ (nC _ (P2.mpr ⟨I,J,N⟩)),hideAll_none _ nc,λa z=>hideAll_none _ (mf _ (RK _ (by simp[z]))),λh' i k1 k2 ⟨O,Y,c,Zi,Np,b1,⟨b2,b0⟩,b3,b4,b5,p,r,t,b9⟩ k4=>?_⟩;have Zj:∀a,a∈e::(T.toList++KW stack)->H' a=b6:=λa ha=>by
  rcases d6.mp ha with rfl|ha
  .show F.he
  rcases ke.mp ha with ha|ha
  .show(F.hT a (by simpa using ha)).2
  .obtain⟨_,o,ho,_⟩:=k.mem ha;show F.un.free a o ho (l a ha) λz=>nomatch z
 have keep:∀b o,b∉e::(T.toList++KW stack)->s'.heap.get? b=a5 o->h'.get? b=a5 o:=λb o hb q=>k1 b o (hideAll_get _ q hb);have slot:∀b o,b∈KW stack->s'.heap.get? b=a5 o->∃v,h'.get? b=a5 {o with slots:=v}:=λb o hb q=>by
  obtain⟨_,o',d,j⟩:=m.mem hb;rw[q]at d;cases d;show k4 b o q j
 have x:∀b o,s.heap.get? b=a5 o->b∉KW stack->b∉e::(T.toList++KW stack):=λb o q hb z=>by
  rcases d6.mp z with z|z
  .rw[z,F.new]at q;cases q
  rcases ke.mp z with z|z
  .rw[(F.hT b (by simpa using z)).1]at q;cases q
  .show hb z
 have tn:s.heap.get? c=b6/\H' c=b6:=by
  by_cases z:c∈e::(T.toList++KW stack)
  .rcases d6.mp z with z|z
   .show absurd z p
   rcases ke.mp z with z|z
   .show F.hT c (by simpa using z)
   .obtain⟨_,o',d,j⟩:=k2.mem z;rw[r]at d;cases d;show absurd t (j _)
  .have q:s'.heap.get? c=b6:=by
    cases q:s'.heap.get? c with
    |none=>rfl
    |some o=>have:=hideAll_get _ q z;rw[b5]at this;cases this
   show⟨?_,?_⟩
   .cases f:s.heap.get? c with
    |none=>rfl
    |some o=>have⟨o',y⟩:=F.un.there _ o f λz=>nomatch z;rw[q]at y;cases y
   .cases f:H' c with
    |none=>rfl
    |some u =>
     have⟨o,z⟩:=(F.J_ c u f).there;rw[q]at z;cases z
 show⟨c,F.os,F.bare,⟨λb o q n hb g=>keep b o (x b o q hb) (F.un.keep b o q n hb g),λb o q n hb g=>?_,F.un.free,λb o q g=>?_,F.un.eX,F.un.Le,F.un.Ll⟩,λa u q=>(F.J_ a u q).fI (λb o hb d=>?_) (λ_ z=>z) λ_ _ z=>z,F.new,F.he,⟨_,O,Y,b1,b2,b3,b0,p,b4,Zi,Np,r,t,b9⟩,λa z=>by cases z;show tn⟩
 .have⟨v,h⟩:=F.un.slot b o q n hb g;have⟨D,f⟩:=slot b _ hb h;show⟨D,f⟩
 .have⟨o',h⟩:=F.un.there b o q g;by_cases hb:b∈KW stack
  .have⟨D,f⟩:=slot b _ hb h;show⟨_,f⟩
  .show⟨_,keep b _ (x b o q hb) h⟩
 .show keep b o (λz=>?_) d;have:=Zj b z;rcases hb with rfl|hb
  .rw[q]at this;cases this
  .rw[hb]at this;cases this
def bQ.leave(F:bQ P w (env::outer) H s e C T .none H' s')(c:A.frames=a5 (env::outer))(d:env.frame=a5 L)(q:s.heap.FunFrames base (env::outer))(r:∀b∈KW (env::outer),H b=b6)
  (h:∀f g,bQ P w (env::outer) H s e C (a5 f) .none H' g->Q () g):d4 M A (leaving env (.ref e)) Q E s':=by
 have⟨a0,oe,vs,i,j,k,l,m⟩:=F.exc;obtain⟨B,t⟩:∃B,B=hideAll s'.heap (e::(T.toList++KW (env::outer))):=⟨_,rfl⟩
 have⟨n,o,p,u,v⟩:=F.next (a0:=a0) q r t;have a:∀h',Heap.LeftW B (env::outer) e (.ref C) a0 s'.heap h'->Q () {s' with heap:=h' }:=λh' x=>by
  have⟨k1,k2,k3,y⟩:=x;have⟨f,z⟩:=v h' .none k1 k2 k3 y;show h _ _ z
 cases T with
 |none=>show wpAny_leaving_firstW c o d i n p k m l λh' z=>a h' (j▸z)
 |some T =>
  have⟨D,G,I,ts,J,N,O⟩:=m;show wpAny_leaving_nextW c o d ⟨oe,vs,T,I,ts,i,⟨j,l⟩,k,G,u T rfl,D,J,N,O⟩ n p a
def bQ.note{T:ez}(F:bQ P w (env::outer) H s e C (a5 T) .none H' s')(d:A.frames=a5 (env::outer))(f:env.frame=a5 L)(g:s.heap.FunFrames base (env::outer))(i:∀b∈KW (env::outer),H b=b6)
  (h:∀a c,bQ P w (env::outer) H s e C (a5 a) (t7 L) H' c->Q () c):d4 M A (noteFrame (.ref e) env) Q E s':=by
 have⟨a0,oe,vs,j,k,l,m,n,o,p,ts,q,r,t⟩:=F.exc;have⟨u,v,x,y,B⟩:=F.next (a0:=a0) g i rfl;show wpAny_noteFrame_onW d v f ⟨oe,vs,T,p,ts,j,⟨k,m⟩,l,o,y T rfl,n,q,r,t⟩ u x λh' D=>?_;have⟨k1,k2,k3,G⟩:=D;have⟨a,z⟩:=B h' _ k1 k2 k3 G;show h _ _ z
def bQ.land{T:ez}(F:bQ P w stack H s e C (a5 T) fl H' s')(d:s.heap.FunFrames base stack)(f:∀b∈KW stack,H b=b6)
  (h:∀a c,bQ P w stack H s e C (a5 a) .none H' c->Q () c):d4 M A (setFlight (.ref e) b6) Q E s':=by
 have⟨a0,oe,vs,g,i,j,k,l,m,p,ts,r,t,u⟩:=F.exc;have⟨v,x,G,y,B⟩:=F.next (a0:=a0) d f rfl;show wpAny_setFlight_noneW v x ⟨oe,vs,T,p,ts,g,⟨i,k⟩,j,m,y T rfl,l,r,t,u⟩ λh' k1 k2 k3 D=>?_;have⟨a,z⟩:=B h' _ k1 k2 k3 λb o q n=>⟨o.slots,D b o q n⟩
 show h _ _ z
end
section
def bQ.down(I:Inv X i σ H s)(k:X.ex=[])(hs:X.stack=X.env::X.outer)(l:X.env.frame=a5 X.env.locals)(F:bQ X.prog X.w X.stack H s e C T m H' s'):bQ X.prog X.w X.outer X.H₀ X.s₀ e C T m H' s':=by
 have nx:∀b:ez,b∉X.ex:=λb z=>by rw[k]at z;cases z
 have j:KW X.stack=X.env.locals::KW X.outer:=by rw[hs];unfold KW;rw[C1,l]
 have c:∀b,s.heap.get? b=b6->X.s₀.heap.get? b=b6:=λb q=>by
  cases z:X.s₀.heap.get? b with
  |none=>rfl
  |some o=>have⟨o',z⟩:=I.base.there b o z (nx b);rw[q]at z;cases z
 have hl:∀b o,X.s₀.heap.get? b=a5 o->b≠X.env.locals:=λb o q=>gj (i5 (et q) I.ok.above);have g:∀b:ez,b∉([]:List ez):=λb z=>nomatch z
 show⟨F.os.trans I.os,F.bare,⟨λb o q n f _=>?_,λb o q n f _=>?_,λb o q n _=>?_,λb o q _=>?_,λb xs q=>F.un.eX b xs (I.base.eX b xs q),λb o u q=>F.un.Le b o u (I.base.Le b o u q),λb ps q=>?_⟩,F.J_,c _ F.new,F.he,F.exc,λa z=>⟨c _ (F.hT a z).1,(F.hT a z).2⟩⟩
 .show F.un.keep b o (I.base.keep b o q n f (nx b)) (I.base.free b o q n (nx b)) (λz=>by rw[j]at z;show(d6.mp z).elim (hl b o q) f) (g b)
 .have⟨r,d⟩:=I.base.slot b o q n f (nx b);have⟨p,h⟩:=F.un.slot b _ d (I.base.free b o q n (nx b)) (by rw[j];show mf _ f) (g b);show⟨p,h⟩
 .have⟨o',d⟩:=I.base.there b o q (nx b);show F.un.free b o' d (I.base.free b o q n (nx b)) (g b)
 .have⟨o',d⟩:=I.base.there b o q (nx b);show F.un.there b o' d (g b)
 .have⟨m1,d⟩:=I.base.Ll b ps q;have⟨m2,h⟩:=F.un.Ll b _ d;show⟨m1++m2,by rw[h,â]⟩
def bQ.made(I:Inv X c σ H s)(b:Heap.MadeExcOf s.heap h' e (.ref C) vs):bQ X.prog X.w X.stack H s e C b6 .none H {s with heap:=h' }:=by
 obtain⟨t,d,_⟩:=b.there;show⟨rfl,I.bare,Un.kept b.keeps,I.J_.kept b.keeps,b.new,?_,⟨_,_,_,d,rfl,rfl,rfl,rfl⟩,λa z=>nomatch z⟩;cases z:H e with
 |none=>rfl
 |some u=>have⟨o,q⟩:=(I.J_ e u z).there;rw[b.new]at q;cases q
abbrev QB:List dV:=[.type "ValueError",.type "Exception",.type "BaseException",.type "object"]
abbrev Zk(p:ez->List dV->Option dV->Option dV->Option dV->Option dV->String->Option dV->Bool)(M:List dV)(S:List (Option dV)):Prop:=∃C a k0 k1 k2 k3 n k5,M=.ref C::a/\S=[k0,k1,k2,k3,a5 (.builtin n),k5]/\p C a k0 k1 k2 k3 n k5=b8
def nf{P:Prop}(h:cc=b8):P:=nomatch h
def FD(q:excIn.match_1 (λ_ _=>Bool) M S p (λ_ _=>cc)=b8):Zk p M S:=by
 cases M with
 |nil=>show nf q
 |cons v a =>
  cases v with
  |ref C =>
   cases S with
   |nil=>show nf q
   |cons k0 S =>
   cases S with
   |nil=>show nf q
   |cons k1 S =>
   cases S with
   |nil=>show nf q
   |cons k2 S =>
   cases S with
   |nil=>show nf q
   |cons k3 S =>
   cases S with
   |nil=>show nf q
   |cons b S =>
   cases b with
   |none=>show nf q
   |some v =>
   cases v with
   |builtin n =>
    cases S with
    |nil=>show nf q
    |cons k5 S =>
    cases S with
    |nil=>show⟨C,a,k0,k1,k2,k3,n,k5,rfl,rfl,q⟩
    |cons _ _=>show nf q
   |_=>show nf q
  |_=>show nf q
abbrev Zl(p:Option ez->ClassData->Array (Option dV)->Bool)(o:Option Obj):Prop:=∃d a b,o=a5 ⟨.type "type",d,.cls a,b⟩/\p d a b=b8
def FE(q:excIn.match_6 (λ_=>Bool) o p (λ_=>cc)=b8):Zl p o:=by
 split at q
 .show⟨_,_,_,rfl,q⟩
 .show nf q
def FF{K:Frag}{P:Prop}(b:K.In h)(q:excIn K C QB a=b8)(k:∀c N nm d bs hdct sn sub ab col dd k0 k1 k2 k3 k5 f,h.get? C=a5 (excClassObj nm d C N bs c hdct sn sub ab col dd k0 k1 k2 k3 k5 a)->h.Ns N f->f "__init__"=b6->OwnTail h QB c->P):P:=by
 have⟨dd,p,r,ho,g⟩:=FE q;have⟨v,c,k0,k1,k2,k3,n,k5,i,hs,j⟩:=FD g;clear q g;have⟨nm,bs,mro,ns,d,s,sn,sub,ab,col,t⟩:=p;have⟨l⟩:=r;simp only[cb,beq_iff_eq,tA]at j;obtain⟨⟨⟨⟨⟨rfl,rfl⟩,m⟩,u⟩,e⟩,o⟩:=j
 dsimp only at i m e o
 subst i m;obtain rfl:l=_:=hs;show k c ns nm d bs s sn sub ab col dd k0 k1 k2 k3 k5 _ (b _ _ ho) (.of_isNs (isNs_of_in b e)) (nsMap_none_of_in b e o) (tail_of_in b u)
def zd(i:X.calm=b8)(j:Gl X x)(f:X.mg x=a5 (.ref C))(k:(x==("__debug__":Str))=cc)(l:excIn X.K C QB "ValueError.__new__"=b8)(m:PE X a n)
  (g:i2 [a] X.env=[(cc,t6 a X.env)]) :
  PS X (.Raise (a5 (.Call (.Name x p) [a] [] A)) b6 pos) (λD σ H=>n σ H λv d=>∀b s e s',Inv X b σ d s->bQ X.prog X.w X.stack d s e C b6 .none d s'->X.xe (.ref e) s'):=by
 intro b s σ H D I h;show FF I.mod.Qg l λB N nm o bs hdct sn sub ab col dd k0 k1 k2 k3 k5 G r t y T=>?_;show wpAny_Raise_call_subT (nm:=nm) (q:=o) (N:=N) (bs:=bs) (hdct:=hdct) (sn:=sn) (sub:=sub) (ab:=ab) (col:=col) (dd:=dd) (k0:=k0) (k1:=k1) (k2:=k2) (k3:=k3) (k5:=k5) ò (T.hasType ò.hasBase) (I.ok.hd i) (by rw[g];rfl) y (fg I j f ⟨rfl,?_⟩ k);rw[g];show Mm (Nu (Kc (m b s σ H _ I h) λu s1 ⟨v,d,c,J,z⟩=>Qi ⟨rfl,?_,c.bk _ _ r,t.keeps c.bk,T.keeps c.bk,λh' e f=>z b s1 e _ c (.made c f)⟩));show(by decide:1<=cK)
def HM:Passes (PN X.prog X.w) X E0:=λ_ _ _ _ _ _ _ ⟨_,_,_,_,_,_,h⟩=>h.elim
def vc(F:jm X.prog X.w X.K X.mg X.base CX k f d ps sp)(g:fJ k X.A)(i:Binds X.K d ps [])(I:Inv X a σ H s)(r:Vals vs us)(h:sp vs H Q E)
  (j:∀e s',CX X.stack H s E e s'->EE e s'):d4 (fS X.prog X.w) X.A (Oz (.ref f) us) (EP X a σ Q) EE s:=by
 have hl:us.length=ps.length:=by rw[<-r.length];show F.len _ _ _ _ h
 have c:=i s us I.Nz (by rw[ro];show hl);rw[ro]at c;show ĩ (TU (F.run X.A X.stack s H ⟨us,[]⟩ us vs Q E g I.HA c r h) λr s' b=>?_);cases r with
 |error e=>show j e s' b
 |ok l =>
  cases l with
  |ret u=>show I.after b
  |_=>show Nv b
end
@[reducible]def Cx.NQ(X:Cx)(e:ez)(oe:Obj)(E:dV->eH->Prop):Cx:={X with A:=X.A.mark (a5 (.ref e)),calm:=cc,pn:=(e,oe)::X.pn,xe:=E}
section
def Inv.NQ(I:Inv X a σ H s)(b:s.heap.get? e=a5 oe)(c:H e=b6)(d:e≠X.env.locals)(f:e∉X.fs)(g:∀v,oe.data≠.cell v):Inv (X.NQ e oe E) a σ H s :=
 ⟨⟨I.ok.mod,I.ok.kind,I.ok.glob,I.ok.blt,I.ok.above,I.ok.inj,I.ok.has,I.ok.Qh,λz=>(nomatch z),I.ok.frames,I.ok.QT,I.ok.Tu,I.ok.bs,I.ok.Ol,I.ok.M9,I.ok.Ny,I.ok.kb,I.ok.Pd⟩,I.os,I.bare,I.base,I.loc,I.cell,I.free,I.Ku,
  λp h=>(d6.mp (show p∈(e,oe)::(X.pn++a) from h)).elim (λz=>by subst z;show⟨b,c,d,f,g⟩) λz=>I.pin p z,I.J_,I.len⟩
def Inv.JR(b:X.Ok)(I:Inv (X.NQ e oe E) a σ H s):Inv X a σ H s :=
 ⟨b,I.os,I.bare,I.base,I.loc,I.cell,I.free,I.Ku,λp c=>I.pin p (mf _ c),I.J_,I.len⟩
def Inv.gone(I:Inv X f σ H s)(D:X.N.Nodup)(w:X.N[j]?=a5 n)(hl:X.env.scope.names.lookup n=a5 .local)
  (h:∀s',Inv X f (σ.set j b6) H s'->Q () s'):d4 M A (do bindName X.env n .none;unbindBehindTheSuite X.env n pos) Q E s:=by
 have⟨m,G,J⟩:=id I.loc;have L:(X.env.scope.kind==.class||(X.env.scope.kind==.module&&X.env.locals != X.env.globals))=cc:=by rw[I.ok.kind];rfl
 show wpAny_nameGoes_keeps hl G L λh' v O hs=>h _ ?_;have x:=I.NA;have T:j < σ.length:=by rw[I.len];show(dt.mp w).1
 have ne:∀b o,X.s₀.heap.get? b=a5 o->b≠X.env.locals:=λb o q=>gj (i5 (et q) I.ok.above);show⟨I.ok,I.os,I.bare,⟨λb o e n t g=>(hs.2 b (ne b o e)).trans (I.base.keep b o e n t g),λb o e n t g=>?_,I.base.free,λb o e g=>?_,I.base.eX,I.base.Le,I.base.Ll⟩,⟨_,O,λi y u B k Y=>?_⟩,λy c e=>?_,I.free,I.Ku,λp hp=>?_,λb ob e=>(I.J_ b ob e).fI (λc w' hc q=>(hs.2 c ?_).trans q) (λ_ q=>q) λ_ _ q=>q,by simpa using I.len⟩
 .have⟨sl,q⟩:=I.base.slot b o e n t g;show⟨sl,(hs.2 b (ne b o e)).trans q⟩
 .have⟨o',q⟩:=I.base.there b o e g;show⟨o',(hs.2 b (ne b o e)).trans q⟩
 .have C:i≠j:=λz=>by subst z;rw[fR T]at k;cases k
  rw[i1 (qP C)]at k;have⟨u',r,l⟩:=J i y u B k Y;show⟨u',r,l.imp (λ⟨a,b⟩=>⟨a,?_⟩) λ⟨a,c,b,d⟩=>⟨a,c,b,d.sameBut hs (x y c b)⟩⟩;change(if y=n then v else m y)=a5 u';rw[ž λ(z:y=n)=>C (iD D B (by rw[z];show w))];show b
 .have⟨u,z⟩:=I.cell y c e;show⟨u,z.sameBut hs (x y c e)⟩
 .have⟨a,b,c,d⟩:=I.pin p hp;show⟨(hs.2 p.1 c).trans a,b,c,d⟩
 .rintro rfl;rcases hc with hc|hc
  .rw[<-hc,I.free]at e;cases e
  .rw[I.free]at hc;cases hc
end
section
variable{prog:t8}{w:vl}{A:N7}{E:dV->eH->Prop}{h:DD}{g:Array Ç}{d:Drawn}{t:Nat}{os:OsState}{a C:ez}{o:Obj}{K:Frag}
def qM(e:K.In h)(hs:ų K (.ref C) (.type "object")=a5 b8)(b:h.get? a=a5 o)(c:o.cls=.ref C)(j:R (.ok (.ret (.ref C))) ⟨h,g,d,t,os⟩):
  Qm (fS prog w) A (.call (.builtin "getset_descriptor.__get__") ⟨[.builtin "object.__class__",.ref a,.ref C],[]⟩) R ⟨h,g,d,t,os⟩:=by
 have f:(⟨h,g,d,t,os⟩:eH).TypeIs (.builtin "object.__class__") "getset_descriptor":=VB;have i:Ņ (fS prog w) h (Vc (.ref C) (.type (".".intercalate ("object.__class__".cutAt '.').dropLast))) b8:=by rw[F.owner_object_class];show looks_subIn e hs
 show Wv È.plain F.entry_gs_get (È.check _ _ _ _ _ _ _ _ f (F.args_gs_get _ _ _) ?_)
 repeat (any_goals (first|assumption|(with_reducible show RB b ?_;rw[c])|with_reducible show i.at ?_|wp_step))
 show⟨Wg _ (by decide +kernel),x2 F.entry_object_class ?_⟩
 repeat (any_goals (first|assumption|(with_reducible show RB b ?_;rw[c])|wp_step))
def mS(b:K.In h)(hs:ų K (.ref C) (.type "object")=a5 b8)(f:Ŵ K (.ref C) "__class__"=a5 (a5 (.builtin "object.__class__")))(c:h.get? a=a5 o)(e:o.cls=.ref C)(j:Q (.done (.ret (.ref C))) ⟨h,g,d,t,os⟩):
  d4 (fS prog w) A (Mx.«object.__getattribute__» ⟨[.ref a,.str "__class__" k],[]⟩) Q E ⟨h,g,d,t,os⟩:=by
 have l:(⟨h,g,d,t,os⟩:eH).TypeIs (.builtin "object.__class__") "getset_descriptor":=VB;have i:Ņ (fS prog w) h (QW (.ref C) "__class__") (a5 (.builtin "object.__class__")):=î b f;have m:=VB;have n:=È.lookup;have p:=F.slot_gs_set.lookup
 repeat (any_goals (first|assumption|(with_reducible show RB c ?_;rw[e])|with_reducible show i.at ?_|wp_step))
 show qM b hs c e ?_
 repeat (any_goals (first|assumption|wp_step))
def sH(b:K.In h)(hs:ų K (.ref C) (.type "BaseException")=a5 b8)(c:h.get? a=a5 o)(e:o.cls=.ref C)(f:Q () ⟨h,g,d,t,os⟩):d4 M A (YS "BaseException.__getattribute__" ⟨[.ref a,i],[]⟩) Q E ⟨h,g,d,t,os⟩:=by
 have hk:builtinKind "BaseException.__getattribute__"=a5 .slot:=by decide +kernel
 have j:splitId "BaseException.__getattribute__"=a5 ("BaseException","__getattribute__"):=by decide +kernel
 have k:Ņ M h (Vc (.ref C) (.type "BaseException")) b8:=looks_subIn b hs;have l:=F.args_bexc_ga (.ref a) i;simp only[YS,hk,j];show bD ?_
 .unfold isInstance
  repeat (first|(with_reducible show RB c ?_;rw[e])|with_reducible show k.at ?_|wp_step)
  show f
abbrev fX(K:Frag)(C:ez):Bool:=ų K (.ref C) (.type "object")==a5 b8&&ų K (.ref C) (.type "BaseException")==a5 b8&&Ŵ K (.ref C) "__class__"==a5 (a5 (.builtin "object.__class__"))&&Ŵ K (.ref C) "__getattribute__"==a5 (a5 (.builtin "BaseException.__getattribute__"))&&Ŵ K (.ref C) "__getattr__"==a5 b6&&(clsIn K C).isSome
def sI(b:K.In h)(f:fX K C=b8)(c:h.get? a=a5 o)(e:o.cls=.ref C)(n:Q (.ref C) ⟨h,g,d,t,os⟩):d4 (fS prog w) A (getAttrBy (.ref a) (.str "__class__" p) cc) Q E ⟨h,g,d,t,os⟩:=by
 simp only[fX,cb,beq_iff_eq]at f;obtain⟨⟨⟨⟨⟨i,o2⟩,o3⟩,o4⟩,o5⟩,_⟩:=f;have q:=ğ.ga.bind (.ref a);have j:(cc&&onTheHeap (RA "BaseException.__getattribute__"))=cc:=rfl;have k:(RA "BaseException.__getattribute__"==RA "object.__getattribute__")=cc:=by decide +kernel
 have l:(onTheHeap (hU C)&&RA "BaseException.__getattribute__"==RA "object.__getattribute__")=cc:=by rw[k];rfl
 have m:Ņ (fS prog w) h (QW (.ref C) "__getattribute__") (a5 (.builtin "BaseException.__getattribute__")):=î b o4;have L2:Ņ (fS prog w) h (QW (.ref C) "__getattr__") b6:=î b o5
 repeat (any_goals (first|assumption|(with_reducible show RB c ?_;rw[e])|with_reducible show m.at ?_|with_reducible show L2.at ?_|wp_step))
 show Wv ğ.ga.plain F.entry_bexc_ga (sH b o2 c e (mS b i o3 c e ?_))
 repeat (any_goals (first|assumption|wp_step))
def pq(b:K.In h)(c:fX K C=b8)(e:h.get? a=a5 o)(f:o.cls=.ref C)(i:Q (a5 (.ref C)) ⟨h,g,d,t+1,os⟩):d4 (fS prog w) A (č (.ref a) "__class__") Q E ⟨h,g,d,t,os⟩:=by
 unfold č getAttrBy?
 repeat (any_goals (first|assumption|with_reducible apply sI b c e f|wp_step))
end
def ze{K:Frag}(b:fX K C=b8):KitX K (.ref a) (.ref C) (λh=>∃o,h.get? a=a5 o/\o.cls=.ref C) where
 ty:=λM h _ j=>by
  have⟨o,f,i⟩:=j;show(ŵ f).andThen ?_;rw[i];show .now
 it:=λM h c _ A Q E s k q=>by
  simp only[fX,cb]at b;have z:=b.2;unfold clsIn at z;split at z
  .rename_i ho;unfold isType loadHead;show bD (wpAny_loadPart (k _ _ (c _ _ ho)) (df q))
  .cases z
 ne:=λh l dd its n m c e=>by
  simp only[fX,cb]at b;have z:=b.2;unfold clsIn at z;split at z
  .rename_i ho;rw[Ε];intro q;cases q;have:=c _ _ ho;rw[e]at this;cases this
  .cases z
 ca:=λ{_ _ _ _ _ s} c ⟨o,f,i⟩ q=>by
  have⟨h,g,d,t,os⟩:=s;show pq c b f i q
def Inv.HN(I:Inv X d σ H s)(f:s.heap.get? e=a5 oe)(h:H e=b6)(i:X.s₀.heap.get? e=b6)(j:e≠X.env.locals)(k:∀x c,X.env.cells.lookup x=a5 c->c≠e)(l:∀p∈X.pn++d,p.1≠e):
  Inv X d σ (upd H e (.Lc oe (.ext λ_=>True))) s:=by
 have ne:∀b o,H b=a5 o->b≠e:=λb o q=>bt q h;show⟨I.ok,I.os,I.bare,⟨I.base.keep,I.base.slot,λb o q n r=>?_,I.base.there,λb xs q=>?_,λb o u q=>?_,λb ps q=>?_⟩,I.loc,I.cell,?_,λx c q=>?_,λp g=>?_,λb u q=>?_,I.len⟩
 .rw[au (λz=>by rw[z,i]at q;cases q)];show I.base.free b o q n r
 .have:=I.base.eX b xs q;rw[au (ne b _ this)];show this
 .have:=I.base.Le b o u q;rw[au (ne b _ this)];show this
 .have⟨m,q⟩:=I.base.Ll b ps q;show⟨m,by rw[au (ne b _ q)];show q⟩
 .rw[au (qP j)];show I.free
 .rw[au (k x c q)];show I.Ku x c q
 .have⟨a,b,c⟩:=I.pin p g;show⟨a,by rw[au (l p g)];show b,c⟩
 .by_cases z:b=e
  .subst z;rw[az]at q;cases q;show⟨f,trivial,⟨oe,f⟩,λ_ _ _ _=>trivial⟩
  .rw[au z]at q;show(I.J_ b u q).fI (λ_ _ _ q=>q) (λc q=>by rw[au (ne c _ q)];show q) λc xs q=>by rw[au (ne c _ q)];show q
end L2
namespace TM
open PySem L2
inductive U where
 |Kb|bl (b:Bool)|int (i:Int)|str (x:Str)
 |tup (xs:List U)|lst (xs:List U)
 |J8 (ks:List Str) (vs:List U)
 |exc (c:Str)
mutual
noncomputable def Kw:U->Bool
 |.tup xs=>cm xs
 |.lst _=>cc
 |.J8 _ _=>cc
 |.exc _=>b8
 |.Kb=>b8|.bl _=>b8|.int _=>b8|.str _=>b8
noncomputable def cm:List U->Bool
 |[]=>b8
 |u::us=>Kw u&&cm us
end
inductive Kd where|own|io|loc|any|bor (j:Nat)|J6
deriving DecidableEq
abbrev Kd.root:Kd->Bool
 |.own=>b8
 |.io=>b8
 |_=>cc
@[reducible]def ay:=List (Option (Kd×U))
structure Ct where
 P:t8
 w:vl
 K:PySem.W.Frag
 H₀:Hp
 MM:ez->Prop
 IO:ez->Prop
 xw:U->Hp->Prop
abbrev KL(K:PySem.W.Frag)(a:ez)(xs:List V):Prop :=
 ∃(o:Obj) (its:Array dV) (n:Nat),K.lookup a=a5 o/\o.cls=.type "list"/\o.dict=b6/\o.data=.seq its n/\its.size<=cK/\Vals xs its.toList
abbrev RG(K:PySem.W.Frag)(S:ez->Prop)(H:Hp)(a:ez)(vs:List V):Prop:=(S a/\Rd H a (.lst vs))\/KL K a vs
def RG.sq(h:RG K S H a vs):Kz K H a vs:=h.elim (λz=>.inl z.2) .inr
abbrev O4(H:Hp)(R:List V->Prop)(a:ez)(ks:List Str):Prop:=∃kvs:List (Key×V),H a=a5 (.dK kvs)/\kvs.map (·.1)=ks.map l0/\R (kvs.map (·.2))
abbrev JS(K:PySem.W.Frag)(H:Hp)(a:ez)(c:Str):Prop:=∃o C,H a=a5 (.Lc o (.ext λ_=>True))/\o.cls=.ref C/\PySem.W.nsIn K ko c=a5 (a5 (.ref C))
section
variable(C:Ct)(S:ez->Prop)(H:Hp)
mutual
def Rep:U->V->Prop
 |.Kb,v=>v=.Kb
 |.bl b,v=>v=.bl b
 |.int i,v=>v=.int i
 |.str x,v=>v=.str x
 |.tup us,v=>∃a vs,v=.ref a/\KN C.K H a vs/\ak us vs
 |.lst us,v=>∃a vs,v=.ref a/\RG C.K S H a vs/\ak us vs
 |.J8 ks us,v=>∃a,v=.ref a/\S a/\O4 H (ak us) a ks
 |.exc c,v=>∃a,v=.ref a/\JS C.K H a c
def ak:List U->List V->Prop
 |[],vs=>vs=[]
 |u::us,vs=>∃v r,vs=v::r/\Rep u v/\ak us r
end
end
def Tp:HO->Prop
 |.tup _=>True
 |.Lc _ (.tup _)=>True
 |.Lc _ (.ext _)=>True
 |_=>False
structure Mv(S:ez->Prop)(H:Hp)(S':ez->Prop)(H':Hp):Prop where
 sub:∀a,S a->S' a
 QC:∀a o,H a=a5 o->Tp o->H' a=a5 o
 Vg:∀a o,S a->H a=a5 o->H' a=a5 o
def Mv.Zn(m:Mv S H S' H')(h:KN K H a vs):KN K H' a vs:=by
 rcases h with(h|⟨o,h⟩)|h
 .show .inl (.inl (m.QC a _ h trivial))
 .show .inl (.inr ⟨o,m.QC a _ h trivial⟩)
 .show .inr h
def Mv.Zo(m:Mv S H S' H')(h:RG K S H a vs):RG K S' H' a vs:=by
 rcases h with⟨s,h|⟨o,h⟩⟩|h
 .show .inl ⟨m.sub a s,.inl (m.Vg a _ s h)⟩
 .show .inl ⟨m.sub a s,.inr ⟨o,m.Vg a _ s h⟩⟩
 .show .inr h
def O4.mv(b:∀o,H a=a5 o->H' a=a5 o)(c:∀vs,R vs->d vs)(h:O4 H R a ks):O4 H' d a ks :=
 let ⟨kvs,e,f,g⟩:=h;⟨kvs,b _ e,f,c _ g⟩
section
mutual
theorem Rep.O6(m:Mv S H S' H'):∀(u:U) (v:V),Rep C S H u v->Rep C S' H' u v
 |.Kb,_,h=>h
 |.bl _,_,h=>h
 |.int _,_,h=>h
 |.str _,_,h=>h
 |.tup us,v,h=>by
  have⟨a,vs,e,b,d⟩:=h;show⟨a,vs,e,m.Zn b,ak.O6 m us vs d⟩
 |.lst us,v,h=>by
  have⟨a,vs,e,b,d⟩:=h;show⟨a,vs,e,m.Zo b,ak.O6 m us vs d⟩
 |.J8 ks us,v,h=>by
  have⟨a,e,b,d⟩:=h;show⟨a,e,m.sub a b,d.mv (λo q=>m.Vg a o b q) λvs q=>ak.O6 m us vs q⟩
 |.exc c,v,h=>let ⟨a,e,o,f,b,d⟩:=h;⟨a,e,o,f,m.QC a _ b trivial,d⟩
theorem ak.O6(m:Mv S H S' H'):∀(us:List U) (vs:List V),ak C S H us vs->ak C S' H' us vs
 |[],_,h=>h
 |u::us,vs,h=>by
  have⟨v,r,e,a,b⟩:=h;show⟨v,r,e,Rep.O6 m u v a,ak.O6 m us r b⟩
end
mutual
theorem Rep.xv:∀(u:U) (v:V),Kw u=b8->Rep C S H u v->Rep C S' H u v
 |.Kb,_,_,h=>h
 |.bl _,_,_,h=>h
 |.int _,_,_,h=>h
 |.str _,_,_,h=>h
 |.tup us,v,i,h=>by
  have⟨a,vs,e,b,c⟩:=h;show⟨a,vs,e,b,ak.xv us vs (by simpa[TM.Kw] using i) c⟩
 |.lst us,v,i,h=>by simp[TM.Kw]at i
 |.J8 ks us,v,i,h=>by simp[TM.Kw]at i
 |.exc _,_,_,h=>h
theorem ak.xv:∀(us:List U) (vs:List V),cm us=b8->ak C S H us vs->ak C S' H us vs
 |[],_,_,h=>h
 |u::us,vs,i,h=>by
  have⟨v,r,e,b,c⟩:=h;have a:TM.Kw u=b8/\cm us=b8:=by simpa[cm] using i
  show⟨v,r,e,Rep.xv u v a.1 b,ak.xv us r a.2 c⟩
end
def Rep.mv(m:Mv S H S' H')(h:Rep C S H u v):Rep C S' H' u v:=Rep.O6 m u v h
def ak.mv(m:Mv S H S' H')(h:ak C S H us vs):ak C S' H' us vs:=ak.O6 m us vs h
def Rep.Kw(i:TM.Kw u=b8)(h:Rep C S H u v):Rep C S' H u v:=Rep.xv u v i h
def ak.Kw(i:cm us=b8)(h:ak C S H us vs):ak C S' H us vs:=ak.xv us vs i h
def Mv.up(sub:∀a,S a->S' a):Mv S H S' H:=⟨sub,λ_ _ h _=>h,λ_ _ _ h=>h⟩
theorem ak.len:∀{us:List U}{vs:List V},ak C S H us vs->us.length=vs.length
 |[],_,h=>by cases h;rfl
 |u::us,vs,h=>by
  obtain⟨v,r,rfl,_,a⟩:=h;rw[kj,kj,ak.len a]
theorem ak.get:∀{us:List U}{vs:List V}{i:Nat}{u:U},ak C S H us vs->us[i]?=a5 u->∃v,vs[i]?=a5 v/\Rep C S H u v
 |[],_,_,_,_,e=>by simp at e
 |u::us,vs,0,w,h,e=>by
  obtain⟨v,r,rfl,a,_⟩:=h;simp at e;subst e;show⟨v,rfl,a⟩
 |u::us,vs,i+1,w,h,e=>by
  obtain⟨v,r,rfl,_,b⟩:=h;have⟨c,d,h'⟩:=ak.get (i:=i) (u:=w) b (by simpa using e);show⟨c,by simpa using d,h'⟩
theorem ak.append:∀{us ws:List U}{vs a:List V},ak C S H us vs->ak C S H ws a->ak C S H (us++ws) (vs++a)
 |[],_,_,_,h,h'=>by cases h;show h'
 |u::us,ws,vs,a,h,h'=>by
  have⟨v,r,rfl,b,c⟩:=h;show⟨v,r++a,rfl,b,c.append h'⟩
theorem ak.take:∀{us:List U}{vs:List V} (n:Nat),ak C S H us vs->ak C S H (us.take n) (vs.take n)
 |_,_,0,_=>by simp[ak]
 |[],_,n+1,h=>by cases h;simp[ak]
 |u::us,vs,n+1,h=>by
  have⟨v,r,rfl,a,b⟩:=h;show⟨v,r.take n,rfl,a,b.take n⟩
theorem ak.drop:∀{us:List U}{vs:List V} (n:Nat),ak C S H us vs->ak C S H (us.drop n) (vs.drop n)
 |_,_,0,h=>h
 |[],_,n+1,h=>by cases h;simp[ak]
 |u::us,vs,n+1,h=>by
  have⟨v,r,rfl,b,a⟩:=h;show a.drop n
theorem ak.set:∀{us:List U}{vs:List V} (n:Nat) {u:U}{v:V},ak C S H us vs->Rep C S H u v->ak C S H (us.set n u) (vs.set n v)
 |[],_,n,_,_,h,_=>by cases h;simp[ak]
 |u::us,vs,0,_,_,h,h'=>by
  have⟨v,r,rfl,b,a⟩:=h;show⟨_,r,rfl,h',a⟩
 |u::us,vs,n+1,_,_,h,h'=>by
  have⟨v,r,rfl,b,a⟩:=h;show⟨v,_,rfl,b,a.set n h'⟩
def ak.snoc(h:ak C S H us vs)(h':Rep C S H u v):ak C S H (us++[u]) (vs++[v]):=h.append ⟨v,[],rfl,h',rfl⟩
theorem ak.strs:∀{xs:List Str}{vs:List V},ak C S H (xs.map .str) vs↔vs=xs.map V.str
 |[],vs=>by simp[ak]
 |x::xs,vs=>by
  constructor
  .rintro⟨v,r,rfl,a,b⟩;rw[ak.strs.mp b];have:v=.str x:=a;rw[this];rfl
  .rintro rfl;show⟨_,_,rfl,rfl,ak.strs.mpr rfl⟩
end
structure Ct.Eqv(C C':Ct):Prop where
 P:C.P=C'.P
 w:C.w=C'.w
 K:C.K=C'.K
section
mutual
theorem Rep.O7(q:C.Eqv f):∀(u:U) (v:V),Rep C S H u v->Rep f S H u v
 |.Kb,_,h=>h
 |.bl _,_,h=>h
 |.int _,_,h=>h
 |.str _,_,h=>h
 |.tup us,v,h=>by
  have⟨a,vs,e,b,d⟩:=h;show⟨a,vs,e,q.K▸b,ak.O7 q us vs d⟩
 |.lst us,v,h=>by
  have⟨a,vs,e,b,d⟩:=h;show⟨a,vs,e,q.K▸b,ak.O7 q us vs d⟩
 |.J8 ks us,v,h=>by
  have⟨a,e,b,d⟩:=h;show⟨a,e,b,d.mv (λ_ q=>q) λvs z=>ak.O7 q us vs z⟩
 |.exc c,v,h=>by
  have⟨a,e,h⟩:=h;show⟨a,e,q.K▸h⟩
theorem ak.O7(q:C.Eqv a):∀(us:List U) (vs:List V),ak C S H us vs->ak a S H us vs
 |[],_,h=>h
 |u::us,vs,h=>by
  have⟨v,r,e,b,c⟩:=h;show⟨v,r,e,Rep.O7 q u v b,ak.O7 q us r c⟩
end
def Rep.cg(q:C.Eqv a)(h:Rep C S H u v):Rep a S H u v:=Rep.O7 q u v h
def ak.cg(q:C.Eqv a)(h:ak C S H us vs):ak a S H us vs:=ak.O7 q us vs h
end
def cW(C:Ct)(S:ez->Prop)(H:Hp)(r:ez):U->Prop
 |.lst us=>∃vs,H r=a5 (.lst vs)/\ak C S H us vs
 |.J8 ks us=>O4 H (ak C S H us) r ks
 |_=>False
def cW.mv(m:Mv S H S' H')(a:∀o,H r=a5 o->H' r=a5 o)(h:cW C S H r u):cW C S' H' r u:=by
 cases u with
 |lst us=>have⟨vs,b,c⟩:=h;show⟨vs,a _ b,c.mv m⟩
 |J8 ks us=>show O4.mv a (λvs q=>q.mv m) h
 |_=>show h
def cW.rep(hs:∀a,S a->S' a)(b:S' r)(h:cW C S H r u):Rep C S' H u (.ref r):=by
 cases u with
 |lst us=>have⟨vs,c,d⟩:=h;show⟨r,vs,rfl,.inl ⟨b,.inl c⟩,d.mv (.up hs)⟩
 |J8 ks us=>show⟨r,rfl,b,O4.mv (λ_ q=>q) (λvs q=>q.mv (.up hs)) h⟩
 |_=>show h.elim
def cW.cg(q:C.Eqv a)(h:cW C S H r u):cW a S H r u:=by
 cases u with
 |lst us=>have⟨vs,b,c⟩:=h;show⟨vs,b,c.cg q⟩
 |J8 ks us=>show O4.mv (λ_ q=>q) (λvs z=>z.cg q) h
 |_=>show h
def cW.some(h:cW C S H r u):∃o,H r=a5 o/\¬Tp o:=by
 cases u with
 |lst us=>obtain⟨vs,a,_⟩:=h;show⟨_,a,λz=>z⟩
 |J8 ks us=>obtain⟨kvs,a,_⟩:=h;show⟨_,a,λz=>z⟩
 |_=>show h.elim
structure Cf where
 S:ez->Prop
 H:Hp
 σ:St
 st:ay
 kid:Nat->List ez
abbrev Cf.R1(c:Cf)(a:ez):Prop:=∃(j:Nat) (k:Kd) (u:U),k.root=b8/\c.st[j]?=a5 (a5 (k,u))/\c.σ[j]?=a5 (a5 (.ref a))
abbrev Cf.RD(c:Cf)(j:Nat)(a:ez):Prop:=∃(u:U) (r:ez),c.st[j]?=a5 (a5 (.J6,u))/\c.σ[j]?=a5 (a5 (.ref r))/\(a=r\/a∈c.kid j)
abbrev Cf.R(c:Cf)(a:ez):Prop:=c.R1 a\/∃j,c.RD j a
abbrev PS(C:Ct)(S:ez->Prop):ez->Prop:=λa=>C.MM a\/S a
def fY(C:Ct)(S:ez->Prop)(H:Hp):Kd->U->V->Prop
 |.own,u,v=>∃r,v=.ref r/\¬S r/\¬C.MM r/\C.H₀ r=b6/\cW C S H r u
 |.io,u,v=>∃r,v=.ref r/\¬S r/\¬C.MM r/\C.IO r/\cW C S H r u
 |.loc,u,v=>Rep C S H u v
 |.any,u,v=>Rep C (PS C S) H u v
 |.bor _,_,_=>False
 |.J6,_,v=>∃r,v=.ref r
def du(C:Ct)(S:ez->Prop)(H:Hp):List U->List ez->Prop
 |[],as=>as=[]
 |u::us,as=>∃a as' b vs,as=a::as'/\u=.lst b/\H a=a5 (.lst vs)/\ak C S H b vs/\du C S H us as'
def cp(C:Ct)(S:ez->Prop)(H:Hp)(r:ez)(as:List ez):U->Prop
 |.J8 ks us=>∃kvs:List (Key×V),H r=a5 (.dK kvs)/\kvs.map (·.1)=ks.map l0/\kvs.map (·.2)=as.map V.ref/\(r::as).Nodup/\(∀a∈r::as,¬S a/\¬C.MM a/\C.H₀ a=b6)/\du C S H us as
 |_=>False
structure Nj(C:Ct)(c:Cf):Prop where
 kd:∀(j:Nat) (u:U) (r:ez),c.st[j]?=a5 (a5 (.J6,u))->c.σ[j]?=a5 (a5 (.ref r))->cp C c.S c.H r (c.kid j) u
 dj:∀(i j:Nat) (a:ez),c.RD i a->c.RD j a->i=j
 d1:∀(j:Nat) (a:ez),c.RD j a->¬c.R1 a
structure Ok(C:Ct)(c:Cf):Prop where
 same:∀a o,C.H₀ a=a5 o->¬C.IO a->c.H a=a5 o
 L5:∀a,c.S a->C.H₀ a=b6/\∃o,c.H a=a5 o
 par:∀a,C.MM a->(∃o,C.H₀ a=a5 o)/\¬C.IO a
 io:∀a,C.IO a->(∃o,C.H₀ a=a5 o)/\∃o,c.H a=a5 o
 len:c.st.length=c.σ.length
 sl:∀(i:Nat) (k:Kd) (u:U),c.st[i]?=a5 (a5 (k,u))->∃v,c.σ[i]?=a5 (a5 v)/\fY C c.S c.H k u v
 inj:∀(i j:Nat) (k k':Kd) (u u':U) (r:ez),k.root=b8->k'.root=b8->c.st[i]?=a5 (a5 (k,u))->c.st[j]?=a5 (a5 (k',u'))->c.σ[i]?=a5 (a5 (.ref r))->c.σ[j]?=a5 (a5 (.ref r))->i=j
 dd:Nj C c
structure Ns(c c':Cf):Prop where
 keep:∀a o,c.H a=a5 o->¬c.R a->c'.H a=a5 o
 there:∀a o,c.H a=a5 o->∃o',c'.H a=a5 o'
 roots:∀a,c'.R a->c.R a\/c.H a=b6
 sub:∀a,c.S a->c'.S a
 new:∀a,c'.S a->c.S a\/c.R a\/c.H a=b6
section
def Ns.refl(c:Cf):Ns c c:=⟨λ_ _ h _=>h,λ_ o h=>⟨o,h⟩,λ_ h=>.inl h,λ_ h=>h,λ_ h=>.inl h⟩
def Ns.none(n:Ns c b)(h:b.H a=.none):c.H a=.none:=by
 cases e:c.H a with
 |none=>rfl
 |some o=>have⟨o',q⟩:=n.there a o e;rw[h]at q;cases q
def Ns.trans(m:Ns c d)(n:Ns d e):Ns c e where
 keep:=λa o h b=>by
  show n.keep a o (m.keep a o h b) λz=>?_;rcases m.roots a z with z|z
  .show b z
  .rw[h]at z;cases z
 there:=λa o h=>let ⟨o',h'⟩:=m.there a o h;n.there a o' h'
 roots:=λa h=>by
  rcases n.roots a h with z|z
  .show m.roots a z
  .show .inr (m.none z)
 sub:=λa h=>n.sub a (m.sub a h)
 new:=λa h=>by
  rcases n.new a h with z|z|z
  .show m.new a z
  .rcases m.roots a z with z|z
   .show .inr (.inl z)
   .show .inr (.inr z)
  .show .inr (.inr (m.none z))
def fY.rt(hk:k.root=b8)(h:fY C S H k u v):∃r,v=.ref r/\¬S r/\¬C.MM r/\(C.H₀ r=b6\/C.IO r)/\cW C S H r u:=by
 cases k with
 |own=>have⟨r,a,b,c,d,e⟩:=h;show⟨r,a,b,c,.inl d,e⟩
 |io=>have⟨r,a,b,c,d,e⟩:=h;show⟨r,a,b,c,.inr d,e⟩
 |_=>cases hk
theorem du.mem:∀{us:List U}{as:List ez}{a:ez},du C S H us as->a∈as->∃vs,H a=a5 (.lst vs)
 |[],as,a,h,ha=>by cases h;cases ha
 |u::us,as,a,h,ha=>by
  obtain⟨a',as',d,vs,rfl,_,b,_,c⟩:=h;rcases d6.mp ha with rfl|ha
  .show⟨vs,b⟩
  .show du.mem c ha
theorem du.mv(m:Mv S H S' H'):∀{us:List U}{as:List ez},(∀a∈as,∀o,H a=a5 o->H' a=a5 o)->du C S H us as->du C S' H' us as
 |[],as,_,h=>h
 |u::us,as,b,h=>by
  have⟨a,as',c,vs,rfl,e,d,f,g⟩:=h;show⟨a,as',c,vs,rfl,e,b a (by simp) _ d,f.mv m,du.mv m (λa i=>b a (by simp[i])) g⟩
def cp.fr(h:cp C S H r as u):∀a∈r::as,¬S a/\¬C.MM a/\C.H₀ a=b6:=by
 cases u<;>first|show h.elim|(obtain⟨kvs,_,_,_,_,b,_⟩:=h;show b)
def cp.there(h:cp C S H r as u):∀a∈r::as,∃o,H a=a5 o/\¬Tp o:=by
 cases u<;>first|show h.elim|skip
 obtain⟨kvs,b,_,_,_,_,c⟩:=h;intro a ha;rcases d6.mp ha with rfl|ha
 .show⟨_,b,λz=>z⟩
 .have⟨vs,e⟩:=c.mem ha;show⟨_,e,λz=>z⟩
def cp.mv(m:Mv S H S' H')(c:∀a∈r::as,¬S' a/\∀o,H a=a5 o->H' a=a5 o)(h:cp C S H r as u):cp C S' H' r as u:=by
 cases u<;>first|show h.elim|skip
 have⟨kvs,d,e,f,g,i,j⟩:=h;show⟨kvs,(c r (by simp)).2 _ d,e,f,g,λa b=>⟨(c a b).1,(i a b).2⟩,j.mv m λa b=>(c a (by simp[b])).2⟩
def Nj.of(d:Nj C c)(hk:e.kid=c.kid)(p:∀(j:Nat) (u:U),e.st[j]?=a5 (a5 (.J6,u))->c.st[j]?=a5 (a5 (.J6,u))/\e.σ[j]?=c.σ[j]?)(s:∀a,e.R1 a->c.R1 a\/∀j,¬c.RD j a)
  (m:Mv c.S c.H e.S e.H) (t:∀j a,c.RD j a->¬e.S a/\∀o,c.H a=a5 o->e.H a=a5 o):Nj C e:=by
 have b:∀j a,e.RD j a->c.RD j a:=λj a v=>by
  have⟨u,r,k,f,q⟩:=v;have⟨g,l⟩:=p j u k;rw[l]at f;rw[hk]at q;show⟨u,r,g,f,q⟩
 show⟨λj u r k f=>?_,λi j a h n=>d.dj i j a (b i a h) (b j a n),λj a h n=>?_⟩
 .have⟨g,l⟩:=p j u k;rw[l]at f;rw[hk];show cp.mv m (λa w=>t j a ⟨u,r,g,f,d6.mp w⟩) (d.kd j u r g f)
 .rcases s a n with z|z
  .show d.d1 j a (b j a h) z
  .show z j (b j a h)
def Nj.hs(d:Nj C c)(m:Mv c.S c.H S' H')(b:∀j a,c.RD j a->¬S' a/\∀o,c.H a=a5 o->H' a=a5 o):Nj C {c with H:=H',S:=S' } :=
 d.of rfl (λ_ _ e=>⟨e,rfl⟩) (λ_ z=>.inl z) m b
def Ok.root(f:Ok C c)(h:c.R r):¬c.S r/\¬C.MM r/\(C.H₀ r=b6\/C.IO r)/\∃o,c.H r=a5 o/\¬Tp o:=by
 rcases h with⟨j,k,u,hk,b,d⟩|⟨j,u,g,b,d,a⟩
 .have⟨v,e,hs⟩:=f.sl j _ _ b;have⟨g,ev,a,l,m,n⟩:=hs.rt hk;rw[d]at e;cases e;cases ev;show⟨a,l,m,n.some⟩
 .have i:=f.dd.kd j u g b d;have⟨p,q,s⟩:=cp.fr i r (d6.mpr a);show⟨p,q,.inl s,cp.there i r (d6.mpr a)⟩
def Ok.mv(b:Ok C c)(n:Ns c d):Mv c.S c.H d.S d.H:=⟨n.sub,λa o h t=>n.keep a o h λz=>by
  obtain⟨_,_,_,o',h',e⟩:=b.root z;rw[h]at h';cases h';show e t,λa o s h=>n.keep a o h λz=>(b.root z).1 s⟩
def Ok.OC(b:Ok C c)(n:Ns c d):Mv (PS C c.S) c.H (PS C d.S) d.H:=⟨λa h=>h.imp id (n.sub a),(b.mv n).QC,λa o s h=>n.keep a o h λz=>by
  rcases s with s|s
  .show(b.root z).2.1 s
  .show(b.root z).1 s⟩
def Ok.kl(a:Ok C c)(h:c.H p=b6):C.H₀ p=b6/\¬c.S p/\¬C.MM p/\¬C.IO p/\¬c.R p:=by
 have b:¬C.IO p:=λz=>by obtain⟨_,o,q⟩:=a.io p z;rw[h]at q;cases q
 have d:C.H₀ p=b6:=by
  cases e:C.H₀ p with
  |none=>rfl
  |some o=>have:=a.same p o e b;rw[h]at this;cases this
 show⟨d,λz=>?_,λz=>?_,b,λz=>?_⟩
 .obtain⟨_,o,q⟩:=a.L5 p z;rw[h]at q;cases q
 .obtain⟨⟨o,q⟩,_⟩:=a.par p z;rw[d]at q;cases q
 .obtain⟨_,_,_,o,q,_⟩:=a.root z;rw[h]at q;cases q
def fY.mv(m:Mv S H S' H')(i:Mv (PS C S) H (PS C S') H')(g:k.root=b8->∀r,v=.ref r->¬S' r/\∀o,H r=a5 o->H' r=a5 o)(h:fY C S H k u v):fY C S' H' k u v:=by
 cases k with
 |own =>
  have⟨r,e,l,a,b,c⟩:=h;have⟨d,f⟩:=g rfl r e;show⟨r,e,d,a,b,c.mv m f⟩
 |io =>
  have⟨r,e,l,a,b,c⟩:=h;have⟨d,f⟩:=g rfl r e;show⟨r,e,d,a,b,c.mv m f⟩
 |loc=>show Rep.mv m h
 |any=>show Rep.mv i h
 |bor j=>show h.elim
 |J6=>show h
structure Nx(c c':Cf):Prop extends Ns c c' where
instance {c a:Cf}:Coe (Nx c a) (Ns c a):=⟨Nx.toNs⟩
def Nx.refl(c:Cf):Nx c c:=⟨.refl c⟩
def Nx.trans(m:Nx c a)(n:Nx a b):Nx c b:=⟨m.toNs.trans n.toNs⟩
def Nx.none(n:Nx c b)(h:b.H a=.none):c.H a=.none:=n.toNs.none h
def Ok.lay(b:Ok C c)(h:c.H p=b6):Ok C {c with H:=upd c.H p o}/\Nx c {c with H:=upd c.H p o}:=by
 have ne:∀{a:ez} {o':HO},c.H a=a5 o'->a≠p:=λe z=>by subst z;rw[h]at e;cases e
 have d:∀a o',c.H a=a5 o'->(upd c.H p o) a=a5 o':=λa o' e=>by rw[au (ne e)];show e
 have nx:Nx c {c with H:=upd c.H p o}:=⟨⟨λa o' e _=>d a o' e,λa o' e=>⟨o',d a o' e⟩,λa z=>.inl z,λ_ z=>z,λ_ z=>.inl z⟩⟩
 show⟨⟨λa o' e z=>d a o' (b.same a o' e z),λa z=>⟨(b.L5 a z).1,let ⟨o',q⟩:=(b.L5 a z).2;⟨o',d a o' q⟩⟩,b.par,λa z=>⟨(b.io a z).1,let ⟨o',q⟩:=(b.io a z).2;⟨o',d a o' q⟩⟩,b.len,λi k u e=>?_,b.inj,b.dd.hs (b.mv nx.toNs) λj a z=>⟨(b.root (.inr ⟨j,z⟩)).1,λo' e=>d a o' e⟩⟩,nx⟩;have⟨v,l,f⟩:=b.sl i k u e;show⟨v,l,f.mv (b.mv nx.toNs) (b.OC nx.toNs) λhk r m=>?_⟩;obtain⟨s,g,n,_⟩:=f.rt hk;rw[m]at g;cases g;show⟨n,λo' e=>d r o' e⟩
def Ok.grow(b:Ok C c)(hs:qm c.H H')(g:∀a,S' a->c.S a\/(c.H a=b6/\∃o,H' a=a5 o))(p:∀a,c.S a->S' a):Ok C {c with H:=H',S:=S' }/\Nx c {c with H:=H',S:=S' }:=by
 have nx:Nx c {c with H:=H',S:=S' }:=⟨⟨λa o' e _=>hs a o' e,λa o' e=>⟨o',hs a o' e⟩,λa z=>.inl z,p,λa z=>(g a z).imp id λq=>.inr q.1⟩⟩
 show⟨⟨λa o' e z=>hs a o' (b.same a o' e z),λa z=>?_,b.par,λa z=>⟨(b.io a z).1,let ⟨o',q⟩:=(b.io a z).2;⟨o',hs a o' q⟩⟩,b.len,λi k u e=>?_,b.inj,b.dd.hs (b.mv nx.toNs) λj a z=>⟨λd=>?_,λo' e=>hs a o' e⟩⟩,nx⟩
 rotate_left 2
 .obtain⟨f,_,_,o,h,_⟩:=b.root (.inr ⟨j,z⟩);rcases g a d with d|⟨d,_⟩
  .show f d
  .rw[h]at d;cases d
 .rcases g a z with q|⟨f,l⟩
  .show⟨(b.L5 a q).1,let ⟨o',q⟩:=(b.L5 a q).2;⟨o',hs a o' q⟩⟩
  .show⟨(b.kl f).1,l⟩
 .have⟨v,s,m⟩:=b.sl i k u e;show⟨v,s,m.mv (b.mv nx.toNs) (b.OC nx.toNs) λhk r t=>?_⟩;have⟨w,n,f,l,x,h⟩:=m.rt hk;rw[t]at n;cases n;obtain⟨o,ho,_⟩:=h.some;show⟨λz=>?_,λo' e=>hs r o' e⟩;rcases g r z with z|⟨z,_⟩
  .show f z
  .rw[z]at ho;cases ho
def aN(C:Ct)(a c:Cf):Kd->U->V->Prop
 |.own,u,v=>∃r,v=.ref r/\a.H r=b6/\¬c.S r/\¬c.R r/\cW C c.S c.H r u
 |.loc,u,v=>Rep C c.S c.H u v
 |.any,u,v=>Rep C (PS C c.S) c.H u v
 |.bor j,u,v=>(∃k:Kd,k.root=b8/\c.st[j]?=a5 (a5 (k,u)))/\c.σ[j]?=a5 (a5 v)
 |.io,_,_=>False
 |.J6,_,_=>False
def fZ(C:Ct)(a c:Cf):Kd->U->V->Prop
 |.own,u,v=>∃r,v=.ref r/\a.H r=b6/\¬c.S r/\¬c.R r/\cW C c.S c.H r u
 |.loc,u,v=>Rep C c.S c.H u v
 |.any,u,v=>Rep C (PS C c.S) c.H u v
 |.bor j,u,v=>c.σ[j]?=a5 (a5 v)
 |.io,_,_=>False
 |.J6,_,_=>False
def aN.w(h:aN C a c k u v):fZ C a c k u v:=by
 cases k with
 |bor j=>show h.2
 |_=>show h
def fZ.W2(a:Ok C c)(n:Ns c b)(g:∀j,k=.bor j->b.σ[j]?=c.σ[j]?)(h:fZ C i c k u v):fZ C i b k u v:=by
 cases k with
 |own =>
  have⟨r,e,l,m,d,f⟩:=h;obtain⟨o,ho,_⟩:=f.some;show⟨r,e,l,λz=>?_,λz=>?_,f.mv (a.mv n) λo q=>n.keep r o q d⟩
  .rcases n.new r z with z|z|z
   .show m z
   .show d z
   .rw[z]at ho;cases ho
  .rcases n.roots r z with z|z
   .show d z
   .rw[z]at ho;cases ho
 |loc=>show Rep.mv (a.mv n) h
 |any=>show Rep.mv (a.OC n) h
 |bor j=>change b.σ[j]?=_;rw[g j rfl];show h
 |_=>show h
def fZ.on(b:Ok C c)(n:Ns c a)(d:a.σ=c.σ)(h:fZ C e c k u v):fZ C e a k u v:=h.W2 b n λj _=>by rw[d]
def fZ.from(n:Ns a b)(h:fZ C b c k u v):fZ C a c k u v:=by
 cases k with
 |own=>have⟨r,e,d,f⟩:=h;show⟨r,e,n.none d,f⟩
 |_=>show h
def aN.from(n:Ns a b)(h:aN C b c k u v):aN C a c k u v:=by
 cases k with
 |own=>have⟨r,e,d,f⟩:=h;show⟨r,e,n.none d,f⟩
 |_=>show h
def SK(C:Ct)(c:Cf):Kd->ez->Prop
 |.any=>PS C c.S
 |_=>c.S
abbrev kE:Kd->Kd
 |.any=>.any
 |_=>.loc
def Ok.rootOf(b:Ok C c){j:Nat}(h:∃k:Kd,k.root=b8/\c.st[j]?=a5 (a5 (k,u)))(e:c.σ[j]?=a5 (a5 v)):∃r,v=.ref r/\¬c.S r/\¬C.MM r/\(C.H₀ r=b6\/C.IO r)/\cW C c.S c.H r u:=by
 have⟨k,hk,h⟩:=h;have⟨f,a,d⟩:=b.sl j _ _ h;rw[e]at a;cases a;show d.rt hk
def aN.list(f:Ok C c)(h:aN C g c k (.lst us) v):∃a vs,v=.ref a/\Kz C.K c.H a vs/\ak C (SK C c k) c.H us vs:=by
 cases k with
 |own=>obtain⟨r,e,_,_,_,vs,b,d⟩:=h;show⟨r,vs,e,Kz.of b,d⟩
 |bor j=>obtain⟨r,e,_,_,_,vs,b,d⟩:=f.rootOf h.1 h.2;show⟨r,vs,e,Kz.of b,d⟩
 |io=>show h.elim
 |J6=>show h.elim
 |_=>have⟨a,vs,e,b,d⟩:=h;show⟨a,vs,e,b.sq,d⟩
def aN.tuple(b:Ok C c)(h:aN C g c k (.tup us) v):∃a vs,v=.ref a/\KN C.K c.H a vs/\ak C (SK C c k) c.H us vs:=by
 cases k with
 |own=>obtain⟨r,e,_,_,_,h⟩:=h;show h.elim
 |bor j=>obtain⟨r,e,_,_,_,h⟩:=b.rootOf h.1 h.2;show h.elim
 |io=>show h.elim
 |J6=>show h.elim
 |_=>have⟨a,vs,e,d,f⟩:=h;show⟨a,vs,e,d,f⟩
def aN.flat(b:Ok C c)(a:Kw u=b8)(h:aN C d c k u v):Rep C c.S c.H u v:=by
 cases k with
 |own=>obtain⟨r,e,_,_,_,h⟩:=h;cases u<;>simp[Kw]at a<;>show h.elim
 |loc=>show h
 |any=>show Rep.Kw a h
 |bor j=>obtain⟨r,e,_,_,_,h⟩:=b.rootOf h.1 h.2;cases u<;>simp[Kw]at a<;>show h.elim
 |_=>show h.elim
def aN.int(a:Ok C c)(h:aN C b c k (.int i) v):v=.int i:=h.flat a rfl
def aN.str(a:Ok C c)(h:aN C b c k (.str x) v):v=.str x:=h.flat a rfl
def aN.bl(a:Ok C c)(h:aN C d c k (.bl b) v):v=.bl b:=h.flat a rfl
def aN.Kb(a:Ok C c)(h:aN C b c k .Kb v):v=.Kb:=h.flat a rfl
def aN.item(h:Rep C (SK C c k) c.H u v):aN C a c (kE k) u v:=by
 cases k<;>show h
abbrev L6(H:Hp):ez->Prop:=λa=>∃o,H a=a5 o
def Ok.zf(b:Ok C c):∀a,c.S a->L6 c.H a:=λa h=>(b.L5 a h).2
def Ok.HP(b:Ok C c):∀a,PS C c.S a->L6 c.H a:=λa h=>by
 rcases h with h|h
 .obtain⟨⟨o,e⟩,n⟩:=b.par a h;show⟨o,b.same a o e n⟩
 .show b.zf a h
def aN.read(a:Ok C c)(h:aN C d c k u v):Rep C (L6 c.H) c.H u v:=by
 cases k with
 |own =>
  obtain⟨r,e,_,_,_,b⟩:=h;rw[e];obtain⟨o,ho,_⟩:=b.some;show b.rep a.zf ⟨o,ho⟩
 |loc=>show Rep.mv (.up a.zf) h
 |any=>show Rep.mv (.up a.HP) h
 |bor j =>
  obtain⟨r,e,_,_,_,b⟩:=a.rootOf h.1 h.2;rw[e];obtain⟨o,ho,_⟩:=b.some;show b.rep a.zf ⟨o,ho⟩
 |_=>show h.elim
def Ok.newList(a:Ok C c)(n:Nx b c)(h:c.H p=b6)(e:ak C c.S c.H us vs):
  Ok C {c with H:=upd c.H p (.lst vs)}/\Nx b {c with H:=upd c.H p (.lst vs)}/\aN C b {c with H:=upd c.H p (.lst vs)} .own (.lst us) (.ref p):=by
 have⟨f,d⟩:=a.lay (o:=.lst vs) h;have⟨j,g,k,l,i⟩:=a.kl h;show⟨f,n.trans d,p,rfl,n.none h,g,i,vs,az,e.mv (a.mv d.toNs)⟩
def Ok.FG(a:Ok C c)(n:Nx b c)(h:c.H p=b6)(e:ak C c.S c.H us vs):
  Ok C {c with H:=upd c.H p (.tup vs)}/\Nx b {c with H:=upd c.H p (.tup vs)}/\aN C b {c with H:=upd c.H p (.tup vs)} .loc (.tup us) (.ref p):=by
 have⟨f,d⟩:=a.lay (o:=.tup vs) h;show⟨f,n.trans d,p,vs,rfl,KN.of az,e.mv (a.mv d.toNs)⟩
end
inductive Ex(α:Type) where|ok (a:α)|exc (c:Str)
abbrev M(α:Type):=ay->Option (Ex α×ay)
namespace M
abbrev pure(a:α):M α:=λst=>a5 (.ok a,st)
abbrev fail:M α:=λ_=>b6
abbrev bind(m:M α)(f:α->M β):M β:=λst=>match m st with
 |none=>b6
 |some (.ok a,st')=>f a st'
 |some (.exc c,st')=>a5 (.exc c,st')
abbrev Kp(o:Option α):M α:=λst=>match o with
 |none=>b6
 |some a=>a5 (.ok a,st)
end M
noncomputable instance:Monad M:={pure:=M.pure,bind:=M.bind}
abbrev W{α:Type}(m:M α)(st:ay)(Q:α->ay->Prop):Prop:=∃a st',m st=a5 (.ok a,st')/\Q a st'
section
def aq:W (pure a) st Q↔Q a st:=by
 constructor
 .rintro⟨b,st',e,h⟩;cases e;show h
 .intro h;show⟨a,st,rfl,h⟩
def ai:W (m >>= f) st Q↔W m st λa st'=>W (f a) st' Q:=by
 constructor
 .rintro⟨b,st',e,h⟩;have d:M.bind m f st=a5 (.ok b,st'):=e;unfold M.bind at d;cases q:m st with
  |none=>rw[q]at d;cases d
  |some r =>
   have⟨r,s1⟩:=r;rw[q]at d;cases r with
   |ok a=>show⟨a,s1,q,b,st',d,h⟩
   |exc c=>cases d
 .rintro⟨a,s1,q,b,st',e,h⟩;show⟨b,st',?_,h⟩;change M.bind m f st=_;unfold M.bind;rw[q];show e
def bJ:W (M.Kp o) st Q↔∃a,o=a5 a/\Q a st:=by
 cases o with
 |none=>show⟨λ⟨_,_,e,_⟩=>(by cases e),λ⟨_,e,_⟩=>(by cases e)⟩
 |some a=>show⟨λ⟨_,_,e,h⟩=>(by cases e;show⟨a,rfl,h⟩),λ⟨_,e,h⟩=>(by cases e;show⟨a,st,rfl,h⟩)⟩
def bu:W (M.fail:M α) st Q↔False:=⟨λ⟨_,_,e,_⟩=>(by cases e),Nv⟩
def W.mono(h:W m st Q)(i:∀a s,Q a s->Q' a s):W m st Q':=let ⟨a,s,e,q⟩:=h;⟨a,s,e,i a s q⟩
end
inductive SX where|add|sub|mul|PU|mod|pow
deriving DecidableEq
inductive RH where|eq|ne|lt|le|gt|ge|isin|Ki|is|Vh
deriving DecidableEq
inductive Bf where|len|sorted|list|tuple|str|int|repr|max|min|all|any
 |dict
 |sum
deriving DecidableEq
inductive B2 where|NR|LZ|sset|mL
deriving DecidableEq
inductive Mf where|split|join|partition|endswith
deriving DecidableEq
inductive Zp where|str|list|tuple|int|bool
deriving DecidableEq
inductive Ik where|seq|LM|OD|OE|zip|rev
 |QD
deriving DecidableEq
inductive E where
 |var (i:Nat)
 |cst (u:U)
 |QE (x:Str) (u:U)
 |bin (op:SX) (a b:E)
 |cmp (op:RH) (a b:E)
 |NT (o1 o2:RH) (a b c:E)
 |and (es:List E)|or (es:List E)|not (a:E)
 |ite (c a b:E)
 |tup (es:List E)|lst (es:List E)|L0 (r:Bool)
 |idx (a b:E)
 |NU (a:E) (lo hi:List E)
 |bi (f:Bf) (es:List E)
 |OF (f:B2) (es:List E)
 |O8 (m:Mf) (a:E) (es:List E)
 |call (f:Str) (es:List E)
 |comp (k:Nat) (t:Bool) (ik:Ik) (src:List E) (cond:List E) (e:E)
 |neg (a:E)|bad|SY (a:E) (T:Zp)|fst (es:List E)|inD (neg:Bool) (a:E) (i:Nat)|QF (i:Nat)|MN (i:Nat) (k d:E)|QG (i:Nat)|PV (ln:Bool) (a b:E)
 |J9 (f:Str) (es:List E) (is:List Nat)
 |pop (i:Nat)|MO (i:Nat) (e:E)
 |Lz (a:E) (D:Str) (tb:List (Str×Bool))|OG (ix:Bool) (i:Nat) (b:Bool)
inductive S where
 |set (i:Nat) (e:E)
 |OH (is:List Nat) (e:E)
 |put (i:Nat) (k v:E)
 |app (i:Nat) (e:E)|ext (i:Nat) (e:E)|bad|newD (i:Nat)|putD (i:Nat) (k v:E)|Mr (i:Nat) (k v:E)|aug (sub:Bool) (i:Nat) (k v:E)|S3 (i:Nat)
 |exp (e:E)
 |ret (e:E)|Nk
 |ite (c:E) (a b:List S)
 |Kt (t:Bool) (is:List Nat) (ik:Ik) (src:List E) (body:List S)
 |Og (c:E) (body:List S)
 |brk|cnt|S4
 |Nr (is:List Nat)
 |NV (c:Str) (e:E)
 |NW (f:Str) (es:List E)|Oh (i:Nat) (c:List E) (f:Str) (es:List E) (g:Str) (LX:List E) (x:Str) (cs:List Str) (j k:Nat)
abbrev isAny:Kd->Bool
 |.any=>b8
 |_=>cc
abbrev d_(k:Kd)(xs:List U):Bool:=!isAny k||cm xs
abbrev kT(k k':Kd):Kd:=if isAny k||isAny k' then .any else .loc
abbrev cut{α:Type}(xs:List α)(lo a:Option Int):List α:=(xs.drop (HT.LN xs.length 0 lo)).take (HT.LN xs.length xs.length a - HT.LN xs.length 0 lo)
abbrev zg:Kd×U->Kd×U->Option (Kd×U)
 |(_,.int i),(_,.int j)=>a5 (.loc,.int (i+j))
 |(_,.str x),(_,.str y)=>if x.length+y.length<=cK then a5 (.loc,.str (x++y)) else b6
 |(k,.lst xs),(k',.lst a)=>if xs.length+a.length<=cK/\d_ k xs=b8/\d_ k' a=b8 then a5 (.own,.lst (xs++a)) else b6
 |(k,.tup xs),(k',.tup a)=>if xs.length+a.length<=cK then a5 (kT k k',.tup (xs++a)) else b6
 |_,_=>b6
abbrev sJ(f:Int->Int->Option Int):U->U->Option (Kd×U)
 |.int i,.int j=>(f i j).map λn=>(.loc,.int n)
 |_,_=>b6
abbrev Cj(i j:Int):Option Int:=if ((-(2 ^ 64)<i/\i<2 ^ 64)\/(-(2 ^ 64)<j/\j<2 ^ 64)) then a5 (i * j) else b6
abbrev Cm(i j:Int):Option Int:=if 0<j/\j<1073741824 then a5 (i / j) else b6
abbrev Cn(i j:Int):Option Int:=if 0<j then a5 (i % j) else b6
abbrev Co(i j:Int):Option Int:=if 0<=j/\j<=1000000/\i.natAbs<2 ^ 64 then a5 (i ^ j.toNat) else b6
abbrev MP(a:SX)(x y:Kd×U):Option (Kd×U):=match a with
 |.add=>zg x y
 |.sub=>sJ (λi j=>a5 (i - j)) x.2 y.2
 |.mul=>sJ Cj x.2 y.2
 |.PU=>sJ Cm x.2 y.2
 |.mod=>sJ Cn x.2 y.2
 |.pow=>sJ Co x.2 y.2
mutual
noncomputable def K3:Nat->U->Bool
 |_,.J8 _ _=>cc
 |_,.exc _=>cc
 |0,.tup _=>cc
 |0,.lst _=>cc
 |n+1,.tup xs=>dG n xs
 |n+1,.lst xs=>dG n xs
 |_,.Kb=>b8|_,.bl _=>b8|_,.int _=>b8|_,.str _=>b8
noncomputable def dG:Nat->List U->Bool
 |_,[]=>b8
 |n,u::us=>K3 n u&&dG n us
end
mutual
noncomputable def bR:U->U->Bool
 |.Kb,.Kb=>b8
 |.bl a,.bl b=>a==b
 |.bl a,.int b=>(if a then 1 else 0)==b
 |.int a,.bl b=>a==(if b then 1 else 0)
 |.int a,.int b=>a==b
 |.str a,.str b=>a==b
 |.tup xs,.tup c=>cA xs c
 |.lst xs,.lst c=>cA xs c
 |_,_=>cc
noncomputable def cA:List U->List U->Bool
 |[],[]=>b8
 |u::us,w::ws=>bR u w&&cA us ws
 |_,_=>cc
end
abbrev PX(x:U)(a:List U):Option Bool:=if K3 50 x=b8/\dG 50 a=b8 then a5 (a.any λy=>bR y x) else b6
abbrev strsOf:List U->Option (List Str)
 |[]=>a5 []
 |.str x::us=>(strsOf us).map (x::·)
 |_::_=>b6
abbrev zh:U->U->Option Bool
 |x,.lst a=>PX x a
 |x,.tup a=>PX x a
 |.str x,.J8 ks _=>a5 (c4 (x∈ks))
 |_,_=>b6
abbrev cq:List Str->List U->Str->Option U
 |y::ks,u::us,x=>if y=x then a5 u else cq ks us x
 |_,_,_=>b6
abbrev dput(ks:List Str)(us:List U)(x:Str)(u:U):List Str×List U :=
 if x∈ks then(ks,(ks.zip us).map λp=>if p.1=x then u else p.2) else(ks++[x],us++[u])
abbrev lB:U->Bool
 |.Kb=>b8
 |_=>cc
abbrev xx(f:Int->Int->Bool):U->U->Option Bool
 |.int i,.int j=>a5 (f i j)
 |_,_=>b6
abbrev cB:RH->U->U->Option Bool
 |.eq,a,b=>if K3 50 a=b8/\K3 50 b=b8 then a5 (bR a b) else b6
 |.ne,a,b=>if K3 50 a=b8/\K3 50 b=b8 then a5 (!bR a b) else b6
 |.lt,a,b=>xx (λi j=>c4 (i<j)) a b
 |.le,a,b=>xx (λi j=>c4 (i<=j)) a b
 |.gt,a,b=>xx (λi j=>c4 (j<i)) a b
 |.ge,a,b=>xx (λi j=>c4 (j<=i)) a b
 |.isin,a,b=>zh a b
 |.Ki,a,b=>(zh a b).map (!·)
 |.is,a,b=>if lB b=b8 then a5 (lB a) else b6
 |_,_,_=>b6
abbrev gU:List U->Option (List Bool)
 |[]=>a5 []
 |.bl x::us=>(gU us).map (x::·)
 |_::_=>b6
abbrev gI:Kd×U->U->Option (Kd×U)
 |(k,.lst xs),.int i=>(K8 xs i).map λu=>(kE k,u)
 |(k,.tup xs),.int i=>(K8 xs i).map λu=>(kE k,u)
 |(_,.str x),.int i=>if x.length<=cK then(K8 x.cps.toList i).map λc=>(.loc,.str ⟨#[c]⟩) else b6
 |(k,.J8 ks us),.str x=>(cq ks us x).map λu=>(kE k,u)
 |_,_=>b6
abbrev lC:Kd×U->Option Int->Option Int->Option (Kd×U)
 |(k,.lst xs),lo,a=>if d_ k xs=b8 then a5 (.own,.lst (cut xs lo a)) else b6
 |(_,.str x),lo,a=>if x.length<=cK then a5 (.loc,.str (PySem.StrLaws.sliceText x lo a)) else b6
 |_,_,_=>b6
abbrev FH:U->Option Nat
 |.lst xs=>a5 xs.length
 |.tup xs=>a5 xs.length
 |.str x=>if x.length<=cK then a5 x.length else b6
 |_=>b6
abbrev gJ{β:Type}(f:Kd×U->Option β):List (Kd×U)->Option β
 |[x]=>f x
 |_=>b6
abbrev intsOf:List U->Option (List Int)
 |[]=>a5 []
 |.int x::us=>(intsOf us).map (x::·)
 |_::_=>b6
abbrev nL:List U->Option (List Str)
 |[]=>a5 []
 |.tup [.str x,.int _]::us=>(nL us).map (x::·)
 |_::_=>b6
abbrev Cp(k:Kd)(xs:List U):Option (Kd×U):=(nL xs).bind λks=>if ks.length<64/\ks.Nodup/\d_ k xs=b8 then a5 (.own,.lst ((eV ks).map λi=>xs.getD i .Kb)) else b6
abbrev xy(k:Kd)(xs:List U):Option (Kd×U):=match strsOf xs with
 |some ss=>if ss.length<64 then a5 (.own,.lst ((aU ss).map .str)) else b6
 |none=>Cp k xs
abbrev FI:Kd×U->Option (Kd×U)
 |(k,.lst xs)=>xy k xs
 |(_,.J8 ks _)=>if ks.length<64 then a5 (.own,.lst ((aU ks).map .str)) else b6
 |(_,.tup xs)=>(strsOf xs).bind λss=>if ss.length<64 then a5 (.own,.lst ((aU ss).map .str)) else b6
 |_=>b6
abbrev FJ:Kd×U->Option (Kd×U)
 |(k,.lst xs)=>a5 (kE k,.tup xs)
 |(k,.tup xs)=>a5 (kE k,.tup xs)
 |_=>b6
abbrev Cq:Kd×U->Option (Kd×U)
 |(_,.int i)=>if i.natAbs.log2<1920 then a5 (.loc,.str (Sq i)) else b6
 |_=>b6
abbrev FK:Kd×U->Option (Kd×U)
 |(_,.lst xs)=>(gU xs).map λbs=>(.loc,.bl (bs.all id))
 |_=>b6
abbrev QH:U->Bool
 |.str _=>b8
 |.int _=>b8
 |_=>cc
abbrev lD:List U->Option (List (Str×U))
 |[]=>a5 []
 |.tup [.str x,y]::us=>if QH y=b8 then(lD us).map ((x,y)::·) else b6
 |_::_=>b6
abbrev FL:Kd×U->Option (Kd×U)
 |(_,.lst xs)=>(lD xs).bind λps=>if (ps.map (·.1)).Nodup then a5 (.own,.J8 (ps.map (·.1)) (ps.map (·.2))) else b6
 |_=>b6
abbrev FN:Kd×U->Option (Kd×U)
 |(_,.lst xs)=>(intsOf xs).map λns=>(.loc,.int ns.sum)
 |_=>b6
abbrev Md(f:Bf)(rs:List (Kd×U)):Option (Kd×U):=match f with
 |.len=>gJ (λx=>(FH x.2).map λ(n:Nat)=>(Kd.loc,U.int (n:Int))) rs
 |.sorted=>gJ FI rs
 |.tuple=>gJ FJ rs
 |.str=>gJ Cq rs
 |.all=>gJ FK rs
 |.dict=>gJ FL rs
 |.sum=>gJ FN rs
 |_=>b6
abbrev iR:U->Option (List Str)
 |.lst xs=>(strsOf xs).bind λss=>if ss.length+1<y1 then a5 (aJ ss) else b6
 |.tup xs=>(strsOf xs).bind λss=>if ss.length+1<y1 then a5 (aJ ss) else b6
 |_=>b6
abbrev FO:Kd×U->Option (Kd×U)
 |(k,.lst xs)=>if d_ k xs=b8 then a5 (.own,.lst xs.reverse) else b6
 |_=>b6
abbrev qN(f:B2)(rs:List (Kd×U)):Option (Kd×U):=match f with
 |.NR=>b6
 |.LZ=>gJ FO rs
 |.sset=>gJ (λx=>(iR x.2).bind λss=>if ss.length<64 then a5 (.own,.lst ((aU ss).map .str)) else b6) rs
 |.mL=>b6
abbrev mT:Mf->U->List (Kd×U)->Option (Kd×U)
 |.join,.str a,[(_,.lst xs)]=>(strsOf xs).bind λss=>if ĳ a ss=b8 then a5 (.loc,.str (VA a ss)) else b6
 |_,_,_=>b6
abbrev JT:Kd×U->Option (List (Kd×U))
 |(k,.lst xs)=>a5 (xs.map λu=>(kE k,u))
 |(k,.tup xs)=>a5 (xs.map λu=>(kE k,u))
 |_=>b6
abbrev zi:Kd×U->Option (List (Kd×U))
 |(_,.int n)=>if n<2 ^ 62/\-(2 ^ 62)<n then a5 ((gs n.toNat).map λi:Nat=>(Kd.loc,U.int (0+(i:Int)))) else b6
 |_=>b6
abbrev FP:List (Kd×U)->Option (List (Kd×U))
 |[(_,.int lo),(_,.int a)]=>if a<2 ^ 62/\-(2 ^ 62)<lo/\lo<2 ^ 62/\-(2 ^ 62)<a then a5 ((gs (a - lo).toNat).map λi:Nat=>(Kd.loc,U.int (lo+(i:Int)))) else b6
 |_=>b6
abbrev FQ:Kd×U->Option (List (Kd×U))
 |(k,.lst xs)=>a5 (xs.zipIdx.map λp=>(kE k,.tup [.int p.2,p.1]))
 |(k,.tup xs)=>a5 (xs.zipIdx.map λp=>(kE k,.tup [.int p.2,p.1]))
 |_=>b6
abbrev sM(d:List Str×List U):List (Kd×U):=(d.1.zip d.2).map λp=>(Kd.loc,U.tup [.str p.1,p.2])
abbrev FR:Kd×U->Option (List (Kd×U))
 |(.own,.J8 ks us)=>a5 (sM (ks,us))
 |_=>b6
abbrev Mg(a:Ik)(rs:List (Kd×U)):Option (List (Kd×U)):=match a with
 |.seq=>gJ JT rs
 |.LM=>gJ zi rs
 |.OD=>FP rs
 |.OE=>gJ FQ rs
 |.QD=>gJ FR rs
 |_=>b6
abbrev Cr(ps:List (Str×Int)):List (Str×Int):=(eV (ps.map (·.1))).map λi=>ps.getD i (nH,0)
abbrev xA(p:Str×Int):U:=.tup [.str p.1,.int p.2]
abbrev zj:U->Option (Kd×U)
 |.J8 ks us=>(intsOf us).bind λns=>if ks.length<64/\ks.Nodup/\ks.length=ns.length then a5 (.own,.lst ((Cr (ks.zip ns)).map xA)) else b6
 |_=>b6
abbrev xB(ln:Bool)(a b:List Str):Option (Kd×U):=if a.length<64/\b.length<64 then a5 (if ln=b8 then(.loc,.int ((a.filter λx=>c4 (x∉b)).length:Nat)) else(.own,.lst ((aU (a.filter λx=>c4 (x∉b))).map .str))) else b6
abbrev zk:U->Option Bool
 |.bl b=>a5 b
 |.lst xs=>a5 !xs.isEmpty
 |.tup xs=>a5 !xs.isEmpty
 |.str x=>if x.length<=cK then a5 ((x.length:Int) != 0) else b6
 |_=>b6
abbrev lift:Kd×U->M U
 |(.own,u)=>pure u
 |(.loc,u)=>pure u
 |(.any,u)=>if Kw u=b8 then pure u else M.fail
 |(.bor j,_)=>λst=>match st[j]? with
  |some (a5 (.own,u))=>a5 (.ok u,st.set j (a5 (.loc,u)))
  |_=>b6
 |(.io,_)=>M.fail
 |(.J6,_)=>M.fail
abbrev cX:List (Kd×U)->M (List U)
 |[]=>pure []
 |r::rs=>do let u <-lift r;let us <-cX rs;pure (u::us)
abbrev eL(i:Nat):Kd×U->M Unit
 |(.bor j,_)=>λst=>match st[j]? with
  |some (a5 (.own,u))=>a5 (.ok (),(st.set j (a5 (.loc,u))).set i (a5 (.loc,u)))
  |_=>b6
 |(.io,_)=>M.fail
 |(.J6,_)=>M.fail
 |(k,u)=>λst=>a5 (.ok (),st.set i (a5 (k,u)))
def bo:List (Kd×U)->ay->Prop
 |[],_=>True
 |(.bor j,u)::rs,st=>(∃k:Kd,k.root=b8/\st[j]?=a5 (a5 (k,u)))/\bo rs st
 |_::rs,st=>bo rs st
open Classical in
abbrev aF(rs:List (Kd×U)):M Unit:=λst=>if bo rs st then a5 (.ok (),st) else b6
@[reducible]def Tab:=Str->List U->Option (Ex (Kd×U))
abbrev lE(Γ:Tab)(f:Str)(us:List U):M (Kd×U):=λst=>match Γ f us with
 |some (.ok (.any,_))=>b6
 |none=>b6
 |some r=>a5 (r,st)
abbrev ig(rs:List (Kd×U))(p:Nat):Option Nat:=match rs[p]? with
 |some (.bor j,.lst us)=>if cm us=b8 then a5 j else b6
 |_=>b6
abbrev qO(a:List (Option Nat)):Kd×U->Bool
 |(.bor j,_)=>c4 (a5 j∉a)
 |_=>b8
abbrev qQ(rs:List (Kd×U))(is:List Nat):Bool:=is.all (λp=>(ig rs p).isSome)&&c4 ((is.map (ig rs)).Nodup)&&(gs rs.length).all λq=>c4 (q∈is)||qO (is.map (ig rs)) (rs.getD q (.loc,.Kb))
abbrev gV(rs:List (Kd×U)):List Nat->List U->ay->Option ay
 |[],[],st=>a5 st
 |p::is,w::ws,st=>match ig rs p with
  |some j=>match w,st[j]? with
   |.lst us,a5 (a5 (k,_))=>gV rs is ws (st.set j (a5 (k,.lst us)))
   |_,_=>b6
  |none=>b6
 |_,_,_=>b6
abbrev Vi:Kd×U->Option (Kd×U×List U)
 |(.own,.tup (u::ws))=>a5 (.own,u,ws)
 |(.loc,.tup (u::ws))=>a5 (.loc,u,ws)
 |_=>b6
abbrev eh(st:ay):Kd×U->Kd×U
 |(.bor j,u)=>(.bor j,match st[j]? with|some (a5 (k,u'))=>if k.root=b8 then u' else u|_=>u)
 |r=>r
abbrev Cs(rs:List (Kd×U)):M (List (Kd×U)):=λst=>a5 (.ok (rs.map (eh st)),st)
abbrev qR(Γ:Tab)(f:Str)(rs:List (Kd×U))(is:List Nat):M (Kd×U):=λst=>match Γ f (rs.map (·.2)) with
 |some (.ok r)=>match Vi r with
  |some (k,u,ws)=>if qQ rs is=b8 then(match gV rs is ws st with|some st'=>a5 (.ok (k,u),st')|none=>b6) else b6
  |none=>b6
 |_=>b6
abbrev zl(i:Nat):M (Kd×U):=λst=>match st[i]? with
 |some (a5 (k,.lst us))=>if k.root=b8 then(match us[us.length - 1]? with|some u=>a5 (.ok (.loc,u),st.set i (a5 (k,.lst us.dropLast)))|none=>b6) else b6
 |_=>b6
abbrev xC(i:Nat):U->M (Kd×U)
 |.int j=>λst=>match st[i]? with
  |some (a5 (k,.lst us))=>if k.root=b8/\0<=j/\j<1000000 then(match us[j.toNat]? with|some u=>a5 (.ok (.loc,u),st.set i (a5 (k,.lst (us.eraseIdx j.toNat))))|none=>b6) else b6
  |_=>b6
 |_=>M.fail
abbrev dn(i:Nat):M (Kd×U):=λst=>match st[i]? with
 |some (a5 (.J6,_))=>b6
 |some (a5 (k,u))=>a5 (.ok (if k.root=b8 then .bor i else k,u),st)
 |_=>b6
abbrev iS(i:Nat):M (List Str×List U):=λst=>match st[i]? with
 |some (a5 (.J6,.J8 ks us))=>a5 (.ok (ks,us),st)
 |_=>b6
abbrev km(x:Kd×U):M Str:=match x.2 with
 |.str y=>pure y
 |_=>M.fail
abbrev Vj(neg:Bool)(y:Str)(ks:List Str):Bool:=if neg=b8 then !c4 (y∈ks) else c4 (y∈ks)
abbrev zm(i:Nat):M (Kd×U):=λst=>match st[i]? with
 |some (a5 (.J6,u))=>a5 (.ok (.bor i,u),st.set i (a5 (.own,u)))
 |_=>dn i st
abbrev Ea(i:Nat):M Unit:=λst=>a5 (.ok (),st.set i (a5 (.J6,.J8 [] [])))
abbrev lF(i:Nat)(y:Str):Kd×U->M Unit
 |(.own,.lst us)=>λst=>match st[i]? with
  |some (a5 (.J6,.J8 ks vs))=>if y∉ks/\ks.length<cK then a5 (.ok (),st.set i (a5 (.J6,.J8 (ks++[y]) (vs++[.lst us])))) else b6
  |_=>b6
 |_=>M.fail
abbrev kq:List Str->List U->Str->U->List U
 |k::ks,v::vs,y,u=>if k=y then u::vs else v::kq ks vs y u
 |_,vs,_,_=>vs
abbrev lG(i:Nat)(y:Str)(u:U):M Unit:=λst=>match st[i]? with
 |some (a5 (.J6,.J8 ks vs))=>match cq ks vs y with
  |some (.lst xs)=>if xs.length<cK then a5 (.ok (),st.set i (a5 (.J6,.J8 ks (kq ks vs y (.lst (xs++[u])))))) else b6
  |_=>b6
 |_=>b6
abbrev Vk:U->M Unit
 |.J8 _ _=>pure ()
 |_=>M.fail
abbrev Cu(x:Kd×U)(y:Str)(u:U):Option (Kd×U):=match x with
 |(k,.J8 ks us)=>a5 (match cq ks us y with|some v=>(kE k,v)|none=>(.loc,u))
 |_=>b6
abbrev qS(i:Nat):M (List U):=λst=>match st[i]? with
 |some (a5 (k,.lst us))=>if k.root=b8 then a5 (.ok us,st) else b6
 |_=>b6
abbrev xD(x:Kd×U):M Int:=match x.2 with
 |.int j=>pure j
 |_=>M.fail
abbrev qT(us:List U)(j:Int):Option Int:=if 0<=j then(match us[j.toNat]? with|some (.int o)=>a5 o|_=>b6) else b6
abbrev xE(sub:Bool)(o w:Int):Int:=if sub=b8 then o - w else o+w
abbrev JU:U->Option U
 |.lst us=>a5 (.lst us.reverse)
 |_=>b6
abbrev sets:List Nat->List (Kd×U)->M Unit
 |[],[]=>pure ()
 |i::is,r::rs=>do eL i r;sets is rs
 |_,_=>M.fail
abbrev dN(t:Bool)(is:List Nat)(r:Kd×U):M Unit:=match t,is,r with
 |false,[i],r=>eL i r
 |true,is,(k,.tup xs)=>sets is (xs.map λu=>(kE k,u))
 |_,_,_=>M.fail
abbrev inScope{α:Type}(k:Nat)(m:M α):M α:=λst=>match m (i8 k b6++st) with
 |none=>b6
 |some (r,st')=>a5 (r,st'.drop k)
abbrev bW(k:Nat)(t:Bool)(cond:M Bool)(elt:M (Kd×U))(src:List (Kd×U)):List (Kd×U)->List U->M (List U)
 |[],acc=>do aF src;pure acc
 |x::xs,acc=>do
  aF src
  let r <-inScope k (dN t (gs k) x >>= λ_=>cond >>= λb=>if b=b8 then(elt >>= λr=>lift r >>= λu=>pure (a5 u)) else pure b6)
  match r with
  |some u=>if acc.length<cK then bW k t cond elt src xs (acc++[u]) else M.fail
  |none=>bW k t cond elt src xs acc
abbrev qU:U->Str->Option Str
 |.str y,out=>if y.length<=cK/\(out++y).length<=cK then a5 (out++y) else b6
 |.int i,out=>if i.natAbs.log2<1920/\(out++(Sq i:Str)).length<=cK then a5 (out++(Sq i:Str)) else b6
 |_,_=>b6
abbrev JV:Kd×U->Option (Kd×U)
 |(_,.int i)=>a5 (.loc,.int (-i))
 |_=>b6
abbrev FT(x:Kd×U):M (Option Int):=match x.2 with
 |.int i=>pure (a5 i)
 |_=>M.fail
abbrev OI:U->M Unit
 |.lst _=>pure ()
 |_=>M.fail
section
variable(Γ:Tab)
abbrev sN(a:Bool)(i:Nat)(b:Bool):M (Kd×U):=λst=>match st[i]? with
 |some (a5 (k,.lst us))=>if k.root=b8 then(match gU us with
  |some bs=>if a=b8 then(if b∈bs then a5 (.ok (.loc,.int (bs.idxOf b:Nat)),st) else b6) else a5 (.ok (.loc,.int (bs.count b:Nat)),st)
  |none=>b6) else b6
 |_=>b6
abbrev eM(a:List (Str×Bool)):U->Option Bool
 |.exc c=>a.lookup c
 |_=>b6
mutual
noncomputable def ev:E->M (Kd×U)
 |.var i=>dn i
 |.cst u=>pure (.loc,u)
 |.QE _ u=>pure (.loc,u)
 |.bin g a b=>do
  let x <-ev a
  let y <-ev b
  aF [x,y]
  M.Kp (MP g x y)
 |.cmp g a b=>do
  let x <-ev a
  let y <-ev b
  aF [x,y]
  let c <-M.Kp (cB g x.2 y.2)
  pure (.loc,.bl c)
 |.NT _ _ _ _ _=>M.fail
 |.and es=>iT es
 |.or _=>M.fail
 |.not a=>do
  let x <-ev a
  match x.2 with
  |.bl c=>pure (.loc,.bl !c)
  |_=>M.fail
 |.ite c a b=>do
  let p <-Kr c
  if p=b8 then ev a else ev b
 |.tup es=>do
  let rs <-bp es
  aF rs
  let us <-cX rs
  if us.length<=cK then pure (.loc,.tup us) else M.fail
 |.lst es=>do
  let rs <-bp es
  aF rs
  let us <-cX rs
  if us.length<=cK then pure (.own,.lst us) else M.fail
 |.L0 r=>pure (.own,.J8 [] [])
 |.idx a b=>do
  let x <-ev a
  let y <-ev b
  aF [x,y]
  M.Kp (gI x y.2)
 |.NU a lo j=>do
  let x <-ev a
  let l <-PY lo
  let h <-PY j
  aF [x]
  M.Kp (lC x l h)
 |.bi f es=>do
  let rs <-bp es
  aF rs
  M.Kp (Md f rs)
 |.OF f es=>do
  let rs <-bp es
  aF rs
  M.Kp (qN f rs)
 |.O8 m a es=>do
  let x <-ev a
  let rs <-bp es
  aF (x::rs)
  M.Kp (mT m x.2 rs)
 |.call f es=>do
  let rs <-bp es
  aF rs
  lE Γ f (rs.map (·.2))
 |.comp k t n src cond e=>do
  let rs <-bp src
  aF rs
  let xs <-M.Kp (Mg n rs)
  let us <-bW k t (bb cond) (ev e) rs xs []
  pure (.own,.lst us)
 |.neg a=>do
  let x <-ev a
  M.Kp (JV x)
 |.bad=>M.fail
 |.inD _ _ _=>M.fail
 |.QF i=>zm i
 |.MN i k d=>do
  let x <-dn i
  Vk x.2
  let y <-ev k
  let y <-km y
  let z <-ev d
  let u <-lift z
  let x <-dn i
  M.Kp (Cu x y u)
 |.QG i=>do
  let x <-dn i
  M.Kp (zj x.2)
 |.J9 f es is=>do
  let rs <-(bp es >>= Cs)
  aF rs
  qR Γ f rs is
 |.Lz a _ o=>do
  let x <-ev a
  let b <-M.Kp (eM o x.2)
  pure (.loc,.bl b)
 |.OG q i b=>sN q i b
 |.pop i=>zl i
 |.MO i e=>do
  let x <-dn i
  OI x.2
  let y <-ev e
  xC i y.2
 |.PV ln a b=>do
  let x <-ev a
  let v <-M.Kp (iR x.2)
  let y <-ev b
  let w <-M.Kp (iR y.2)
  M.Kp (xB ln v w)
 |.fst es=>do
  let s <-OJ es nH
  pure (.loc,.str s)
 |.SY a T=>M.fail
noncomputable def OJ:List E->Str->M Str
 |[],out=>pure out
 |e::es,out=>do
  let x <-ev e
  let y <-M.Kp (qU x.2 out)
  OJ es y
noncomputable def bp:List E->M (List (Kd×U))
 |[]=>pure []
 |e::es=>do let r <-ev e;let rs <-bp es;pure (r::rs)
noncomputable def PY:List E->M (Option Int)
 |[]=>pure b6
 |[e]=>do let x <-ev e;FT x
 |_=>M.fail
noncomputable def iT:List E->M (Kd×U)
 |[]=>M.fail
 |[e]=>ev e
 |e::es=>do
  let x <-ev e
  match x.2 with
  |.bl b8=>iT es
  |.bl cc=>pure (.loc,.bl cc)
  |_=>M.fail
noncomputable def Kr:E->M Bool
 |.and es=>bb es
 |.or es=>f9 es
 |.not a=>do let b <-Kr a;pure !b
 |.cmp e a b=>do
  let x <-ev a
  let y <-ev b
  aF [x,y]
  M.Kp (cB e x.2 y.2)
 |.var i=>do let x <-dn i;M.Kp (zk x.2)
 |.bi f es=>do
  let rs <-bp es
  aF rs
  let r <-M.Kp (Md f rs)
  M.Kp (zk r.2)
 |.call f es=>do
  let rs <-bp es
  aF rs
  let r <-lE Γ f (rs.map (·.2))
  M.Kp (zk r.2)
 |.NT g o2 a b c=>do
  let x <-ev a
  let y <-ev b
  aF [x,y]
  let p <-M.Kp (cB g x.2 y.2)
  if p=b8 then do
   let z <-ev c
   aF [y,z]
   M.Kp (cB o2 y.2 z.2)
  else pure cc
 |.inD neg a i=>do
  let x <-ev a
  let y <-km x
  let d <-iS i
  pure (Vj neg y d.1)
 |.Lz a _ h=>do
  let x <-ev a
  M.Kp (eM h x.2)
 |_=>M.fail
noncomputable def bb:List E->M Bool
 |[]=>pure b8
 |[e]=>Kr e
 |e::es=>do let b <-Kr e;if b=b8 then bb es else pure cc
noncomputable def f9:List E->M Bool
 |[]=>pure cc
 |[e]=>Kr e
 |e::es=>do let b <-Kr e;if b=b8 then pure b8 else f9 es
end
inductive Fl where|nx|rt (k:Kd) (u:U)|bk|ct
abbrev retS:Kd×U->M Fl
 |(.own,u)=>pure (.rt .own u)
 |(.loc,u)=>pure (.rt .loc u)
 |(.any,u)=>if Kw u=b8 then pure (.rt .loc u) else pure (.rt .any u)
 |(.bor j,_)=>λst=>match st[j]? with
  |some (a5 (.own,u))=>a5 (.ok (.rt .own u),st.set j b6)
  |_=>b6
 |(.io,_)=>M.fail
 |(.J6,_)=>M.fail
abbrev forM(t:Bool)(is:List Nat)(body:M Fl)(src:List (Kd×U)):List (Kd×U)->M Fl
 |[]=>do aF src;pure .nx
 |x::xs=>do
  aF src
  dN t is x
  let f <-body
  match f with
  |.nx=>forM t is body src xs
  |.ct=>forM t is body src xs
  |.bk=>pure .nx
  |.rt k u=>pure (.rt k u)
abbrev fL(c:M Bool)(body:M Fl):Nat->M Fl
 |0=>M.fail
 |n+1=>do
  let b <-c
  if b=b8 then do
   let f <-body
   match f with
   |.nx=>fL c body n
   |.ct=>fL c body n
   |.bk=>pure .nx
   |.rt k u=>pure (.rt k u)
  else pure .nx
abbrev cI(Γ:Tab)(f:Str)(us:List U):M (Sum (Kd×U) Str):=λst=>match Γ f us with
 |some (.ok (.own,u))=>a5 (.ok (.inl (.own,u)),st)
 |some (.ok (.loc,u))=>a5 (.ok (.inl (.loc,u)),st)
 |some (.exc c)=>a5 (.ok (.inr c),st)
 |_=>b6
abbrev Cv:Sum (Kd×U) Str->M Fl
 |.inl _=>pure .nx
 |.inr c=>pure (.rt .io (.str c))
abbrev ku(a:List Str)(i j k:Nat):Sum (Kd×U) Str->M Fl
 |.inl r=>do eL i r;pure .nx
 |.inr c=>λst=>match st[j]? with
  |some b6=>if k≠j/\c∈a then(eL k (.loc,.exc c) >>= λ_=>pure .nx) st else b6
  |_=>b6
abbrev modS(i:Nat)(f:U->Option U):M Unit:=λst=>match st[i]? with
 |some (a5 (k,u))=>if k.root=b8 then match f u with
   |some u'=>a5 (.ok (),st.set i (a5 (k,u')))
   |none=>b6
  else b6
 |_=>b6
abbrev zo(u:U):U->Option U
 |.lst xs=>if xs.length<cK then a5 (.lst (xs++[u])) else b6
 |_=>b6
abbrev lH:Kd×U->U->Option U
 |(k,.lst a),.lst xs=>if xs.length+a.length<=cK/\d_ k a=b8 then a5 (.lst (xs++a)) else b6
 |(k,.tup a),.lst xs=>if xs.length+a.length<=cK/\d_ k a=b8 then a5 (.lst (xs++a)) else b6
 |_,_=>b6
abbrev dH(x u:U):U->Option U
 |.J8 ks vs=>match x with
  |.str y=>if ks.length<cK then a5 (.J8 (dput ks vs y u).1 (dput ks vs y u).2) else b6
  |_=>b6
 |.lst xs=>match x with
  |.int i=>(ND xs.length i).map λj=>.lst (xs.set j u)
  |_=>b6
 |_=>b6
abbrev vd:List U->U->Option U
 |[u,x]=>dH x u
 |_=>λ_=>b6
abbrev fuel:Nat:=1000000000000
mutual
noncomputable def QI:S->Nat->Bool
 |.set i _,j=>c4 (j≠i)
 |.OH is _,j=>c4 (j∉is)
 |.ite _ a b,j=>L7 a j&&L7 b j
 |.Kt _ is _ _ body,j=>c4 (j∉is)&&L7 body j
 |.Og _ body,j=>L7 body j
 |.put _ _ _,_=>b8
 |.app _ _,_=>b8
 |.ext _ _,_=>b8
 |.bad,_=>b8
 |.newD i,j=>c4 (j≠i)
 |.putD _ _ _,_=>b8
 |.Mr _ _ _,_=>b8
 |.aug _ _ _ _,_=>b8
 |.S3 _,_=>b8
 |.exp _,_=>b8
 |.ret _,_=>b8
 |.Nk,_=>b8
 |.brk,_=>b8
 |.cnt,_=>b8
 |.S4,_=>b8
 |.Nr _,_=>b8
 |.NV _ _,_=>b8
 |.NW _ _,_=>b8
 |.Oh i _ _ _ _ _ _ _ j k,n=>c4 (n≠i)&&c4 (n≠k)&&c4 (n≠j)
noncomputable def L7:List S->Nat->Bool
 |[],_=>b8
 |s::ss,j=>QI s j&&L7 ss j
end
abbrev vf(rs:List (Kd×U))(is:List Nat)(body:List S):Bool:=rs.all λr=>match r.1 with
 |.bor j=>c4 (j∉is)&&L7 body j
 |_=>b8
mutual
noncomputable def exec:S->M Fl
 |.set i e=>do let r <-ev Γ e;eL i r;pure .nx
 |.OH is e=>do let r <-ev Γ e;dN b8 is r;pure .nx
 |.put i k v=>do
  let r <-ev Γ v
  let _ <-dn i
  let x <-ev Γ k
  let us <-cX [r,x]
  modS i (vd us)
  pure .nx
 |.app i e=>do
  let x <-dn i
  OI x.2
  let r <-ev Γ e
  let u <-lift r
  modS i (zo u)
  pure .nx
 |.ext i e=>do
  let x <-dn i
  OI x.2
  let r <-ev Γ e
  modS i (lH r)
  pure .nx
 |.bad=>M.fail
 |.newD i=>do Ea i;pure .nx
 |.putD i k v=>do
  let r <-ev Γ v
  let d <-iS i
  let x <-ev Γ k
  let y <-km x
  lF i y r
  pure .nx
 |.Mr i k v=>do
  let _ <-iS i
  let x <-ev Γ k
  let y <-km x
  let d <-iS i
  if y∈d.1 then do
   let r <-ev Γ v
   let u <-lift r
   lG i y u
   pure .nx
  else M.fail
 |.aug sub i k v=>do
  let _ <-qS i
  let y <-ev Γ k
  let j <-xD y
  let us <-qS i
  let o <-M.Kp (qT us j)
  let z <-ev Γ v
  let w <-xD z
  modS i (dH (.int j) (.int (xE sub o w)))
  pure .nx
 |.S3 i=>do
  modS i JU
  pure .nx
 |.exp e=>do let _ <-ev Γ e;pure .nx
 |.ret e=>do let r <-ev Γ e;retS r
 |.Nk=>pure (.rt .loc .Kb)
 |.ite c a b=>do let p <-Kr Γ c;if p=b8 then execs a else execs b
 |.Kt t is h src body=>do
  let rs <-bp Γ src
  aF rs
  let xs <-M.Kp (Mg h rs)
  if vf rs is body=b8 then forM t is (execs body) rs xs else M.fail
 |.Og c body=>fL (Kr Γ c) (execs body) fuel
 |.brk=>pure .bk
 |.cnt=>pure .ct
 |.S4=>pure .nx
 |.Nr _=>M.fail
 |.NV c e=>do let _ <-ev Γ e;pure (.rt .io (.str c))
 |.NW f es=>do
  let r <-(bp Γ es >>= λrs=>aF rs >>= λ_=>cI Γ f (rs.map (·.2)))
  Cv r
 |.Oh i c f es g l _ m j k=>do
  let r <-(match c with
   |[c]=>Kr Γ c >>= λp=>if p=b8 then(bp Γ es >>= λrs=>aF rs >>= λ_=>cI Γ f (rs.map (·.2))) else(bp Γ l >>= λrs=>aF rs >>= λ_=>cI Γ g (rs.map (·.2)))
   |_=>bp Γ es >>= λrs=>aF rs >>= λ_=>cI Γ f (rs.map (·.2)))
  ku m i j k r
noncomputable def execs:List S->M Fl
 |[]=>pure .nx
 |s::ss=>do
  let f <-exec s
  match f with
  |.nx=>execs ss
  |f=>pure f
end
end
structure Fn where
 name:Str
 np:Nat
 ns:Nat
 body:List S
abbrev start(us:List U)(n:Nat):ay:=us.map (λu=>a5 (if Kw u=b8 then Kd.loc else Kd.any,u))++i8 (n - us.length) b6
abbrev bY(Γ:Tab)(fn:Fn)(us:List U):Option (Ex (Kd×U)):=if us.length=fn.np then match execs Γ fn.body (start us fn.ns) with
  |some (.ok (.rt .own u),_)=>a5 (.ok (.own,u))
  |some (.ok (.rt .loc u),_)=>a5 (.ok (.loc,u))
  |some (.ok (.rt .any u),_)=>a5 (.ok (.any,u))
  |some (.ok .nx,_)=>a5 (.ok (.loc,.Kb))
  |some (.ok (.rt .io (.str c)),_)=>a5 (.exc c)
  |_=>b6
 else b6
abbrev cY(is:List Nat)(us:List U)(n:Nat):ay:=(us.zipIdx.map λp=>a5 (if p.2∈is then Kd.io else if Kw p.1=b8 then Kd.loc else Kd.any,p.1))++i8 (n - us.length) b6
abbrev PZ:List Nat->ay->Option (List U)
 |[],_=>a5 []
 |i::is,st=>match st[i]? with
  |some (a5 (.io,u))=>(PZ is st).map (u::·)
  |_=>b6
abbrev S5:Fl->Option (Kd×U)
 |.rt .own u=>a5 (.own,u)
 |.rt .loc u=>a5 (.loc,u)
 |.nx=>a5 (.loc,.Kb)
 |_=>b6
abbrev gK(Γ:Tab)(fn:Fn)(is:List Nat)(body:List S)(us:List U):Option (Ex (Kd×U)):=if us.length=fn.np then match execs Γ body (cY is us fn.ns) with
  |some (.ok f,st)=>(S5 f).bind λr=>(PZ is st).map λws=>.ok (r.1,.tup (r.2::ws))
  |_=>b6
 else b6
abbrev Fn.io(fn:Fn):Option (List Nat×List S):=match fn.body with
 |.Nr is::body=>a5 (is,body)
 |_=>b6
abbrev jw(Γ:Tab)(fn:Fn)(us:List U):Option (Ex (Kd×U)):=match fn.io with
 |some (is,body)=>gK Γ fn is body us
 |none=>bY Γ fn us
abbrev Kl(P:List Fn):Nat->Tab
 |0=>λ_ _=>b6
 |d+1=>λf us=>match P.find? λfn=>c4 (fn.name=f) with
  |some fn=>jw (Kl P d) fn us
  |none=>b6
end TM
namespace TM
open PySem L2
section
variable{X:Cx}{pins:List (ez×Obj)}{σ:St}{H:Hp}{s:eH}{C:Ct}{S:ez->Prop}
def vg(I:Inv X pins σ H s)(h:Kz X.K H a vs):∃its:List dV,Vals vs its/\s.heap.IsList a its.toArray/\vs.length<=cK:=by
 have⟨its,r,p,z⟩:=I.list h;show⟨its,r,p.isList,z⟩
inductive KY(s:eH):Nat->U->dV->Prop where
 |Kb {n:Nat}:KY s n .Kb .none
 |bl {n:Nat} {b:Bool}:KY s n (.bl b) (.bool b)
 |int {n:Nat} {i:Int} {t:Tok}:KY s n (.int i) (.int i t)
 |str {n:Nat} {y:Str} {t:Tok}:KY s n (.str y) (.str y t)
 |tup {n:Nat} {us:List U} {its:List dV} {a:ez}:us.length=its.length->(∀j (hj:j<its.length),KY s n (us.getD j .Kb) its[j])->cA us us=b8->s.heap.IsTuple a its.toArray->KY s (n+1) (.tup us) (.ref a)
 |lst {n:Nat} {us:List U} {its:List dV} {a:ez}:us.length=its.length->(∀j (hj:j<its.length),KY s n (us.getD j .Kb) its[j])->cA us us=b8->s.heap.IsList a its.toArray->KY s (n+1) (.lst us) (.ref a)
def KY.self(h:KY s n u x):bR u u=b8:=by
 cases h<;>first|assumption|simp[bR]
theorem KY.xF(f:∀u v x,K3 n u=b8->Rep C S H u v->RelV v x->KY s n u x):∀{us:List U}{vs:List V}{its:List dV},dG n us=b8->ak C S H us vs->Vals vs its->us.length=its.length/\(∀j (a:j<its.length),KY s n (us.getD j .Kb) its[j])/\cA us us=b8
 |[],_,_,_,h,r=>by cases h;cases r;show⟨rfl,λj a=>(nomatch a),rfl⟩
 |u::us,_,_,e,h,r=>by
  have⟨v,vs,rfl,b,d⟩:=h;simp only[dG,cb]at e;cases r with
  |cons c g =>
   have⟨l,k,y⟩:=KY.xF f e.2 d g;show⟨by simp[l],λj a=>?_,by rw[cA,(f _ _ _ e.1 b c).self,y];rfl⟩;cases j with
   |zero=>show f _ _ _ e.1 b c
   |succ j=>show k j (by simpa using a)
def KY.of(I:Inv X pins σ H s)(d:C.K=X.K):∀(n:Nat) (u:U) (v:V) (x:dV),K3 n u=b8->Rep C S H u v->RelV v x->KY s n u x:=by
 intro n;induction n with
 |zero=>intro u v x e h r;cases u<;>first|(simp[K3]at e;done)|(simp only[Rep]at h;subst h;first|(cases r;constructor)|(have⟨t,rfl⟩:=r;constructor))
 |succ n f =>
  intro u v x e h r;cases u with
  |tup us =>
   have⟨a,vs,rfl,b,c⟩:=h;cases r;obtain⟨its,rv,p,_⟩:=I.tuple (d▸b);have⟨l,k,y⟩:=KY.xF f (by simpa[K3] using e) c rv;show .tup l k y p
  |lst us =>
   have⟨a,vs,rfl,b,c⟩:=h;cases r;obtain⟨its,rv,p,_⟩:=vg I (d▸b.sq);have⟨l,k,y⟩:=KY.xF f (by simpa[K3] using e) c rv;show .lst l k y p
  |_=>first|(simp[K3]at e;done)|(simp only[Rep]at h;subst h;first|(cases r;constructor)|(have⟨t,rfl⟩:=r;constructor))
def KY.inj:∀{n:Nat}{u w:U}{x:dV},KY s n u x->KY s n w x->u=w:=by
 intro n;induction n with
 |zero=>intro u w x h h';cases h<;>cases h'<;>rfl
 |succ n q =>
  have go:∀{us ws:List U} {its its':List dV} {a:ez} {o o':Obj} {m g:Nat},us.length=its.length->(∀j (r:j<its.length),KY s n (us.getD j .Kb) its[j])->ws.length=its'.length->(∀j (r:j<its'.length),KY s n (ws.getD j .Kb) its'[j])->s.heap.get? a=a5 o->o.data=.seq its.toArray m->s.heap.get? a=a5 o'->o'.data=.seq its'.toArray g->us=ws:=by
   intro us ws its its' a o o' m g l k c k' e d f d';rw[e]at f;cases f;rw[d]at d';injection d' with t _
   have:its=its':=by simpa using Δ Zv t
   subst this;show LF ⋯ λj v z=>?_;have:=q (k j ⋯) (k' j ⋯);simpa[v,z] using this
  intro u w x h h';cases h with
  |tup l k y p =>
   cases h' with
   |tup c k' i b=>obtain⟨o,e,_,m,d⟩:=p;obtain⟨o',f,_,g,d'⟩:=b;rw[go l k c k' e d f d']
   |lst c k' i b=>show absurd rfl (Zq b p)
  |lst l k y p =>
   cases h' with
   |lst c k' i b=>obtain⟨o,e,_,m,d⟩:=p;obtain⟨o',f,_,g,d'⟩:=b;rw[go l k c k' e d f d']
   |tup c k' i b=>show absurd rfl (Zq p b)
  |_=>cases h';rfl
theorem jx:∀{us ws:List U},us.length≠ws.length->cA us ws=cc
 |[],[],h=>absurd rfl h
 |[],_::_,_=>rfl
 |_::_,[],_=>rfl
 |u::us,w::ws,h=>by
  rw[cA,jx (us:=us) (ws:=ws) (λe=>h (by simp[e])),QU]
theorem f_:∀{us ws:List U},us.length=ws.length->cA us ws=(gs us.length).all λj=>bR (us.getD j .Kb) (ws.getD j .Kb)
 |[],[],_=>rfl
 |[],_::_,h=>by simp at h
 |_::_,[],h=>by simp at h
 |u::us,w::ws,h=>by
  have h':us.length=ws.length:=by simpa using h
  rw[cA,f_ h',kj,List.range_succ_eq_map,Ĺ,Ō];rfl
def HQ{its its':List dV}(b:us.length=its.length)(c:ws.length=its'.length):cA us ws=((gs (min its.toArray.size its'.toArray.size)).all (λj=>bR (us.getD j .Kb) (ws.getD j .Kb))&&its.toArray.size==its'.toArray.size):=by
 simp only[hQ];by_cases a:us.length=ws.length
 .rw[f_ a,show min its.length its'.length=us.length by lia,show(its.length==its'.length)=b8 by simp;lia,V_]
 .rw[jx a,show(its.length==its'.length)=cc by simp;lia,QU]
def vh(b:KY s n u y)(h:Ý A s y x k)(hs:y=x->k=b8):UJ A s y x k:=λprog w E Q a=>by
 unfold eqBool;show ra ?_;show wpAny_ite_split (λc=>?_) (λ_=>?_)
 .rw[hs (eq_of_beq c)]at a;show bD (Oo (df a))
 .cases b<;>show bD (h prog w E _ (MJ a))
def Vl(q:∀m,m+1=n->∀{u w:U}{x f:dV}{A:N7},KY s m u x->KY s m w f->A.units+m<L8->UJ A s x f (bR u w))(h:KY s n u x)(h':KY s n w f)(t:A.units+n<L8):Ý A s x f (bR u w)/\Ĳ A s x f (!bR u w):=by
 have a:A.units<L8:=by lia
 have go:∀{m:Nat} {us ws:List U} {its its':List dV},m+1=n->(∀j (r:j<its.length),KY s m (us.getD j .Kb) its[j])->(∀j (r:j<its'.length),KY s m (ws.getD j .Kb) its'[j])->∀j (g:j<its.toArray.size) (i:j<its'.toArray.size),UJ A.in1 s its.toArray[j] its'.toArray[j] (bR (us.getD j .Kb) (ws.getD j .Kb)):=λ{m us ws its its'} e k k' j g i=>q m e (k j g) (k' j i) (by change A.units+1+m < _;lia);cases h with
 |Kb =>
  cases h' with
  |Kb=>show⟨.none_none,.none_none⟩
  |bl=>show⟨.none_bool _,.none_bool _⟩
  |int=>show⟨.none_int _ _,.none_int _ _⟩
  |str=>show⟨.none_str _ _,.none_str _ _⟩
  |tup c k' d b=>show⟨.none_tuple b a,.none_tuple b a⟩
  |lst c k' d b=>show⟨.none_list b a,.none_list b a⟩
 |bl =>
  cases h' with
  |Kb=>show⟨.bool_none _,.bool_none _⟩
  |bl=>show⟨.bool_bool _ _,.bool_bool _ _⟩
  |int=>show⟨.bool_int _ _ _,.bool_int _ _ _⟩
  |str=>show⟨.bool_str _ _ _,.bool_str _ _ _⟩
  |tup c k' d b=>show⟨.bool_tuple _ b a,.bool_tuple _ b a⟩
  |lst c k' d b=>show⟨.bool_list _ b a,.bool_list _ b a⟩
 |int =>
  cases h' with
  |Kb=>show⟨.int_none _ _,.int_none _ _⟩
  |bl=>show⟨.int_bool _ _ _,.int_bool _ _ _⟩
  |int=>show⟨.int_int _ _ _ _,.int_int _ _ _ _⟩
  |str=>show⟨.int_str _ _ _ _,.int_str _ _ _ _⟩
  |tup c k' d b=>show⟨.int_tuple _ _ b a,.int_tuple _ _ b a⟩
  |lst c k' d b=>show⟨.int_list _ _ b a,.int_list _ _ b a⟩
 |str =>
  cases h' with
  |Kb=>show⟨.str_none _ _,.str_none _ _⟩
  |bl=>show⟨.str_bool _ _ _,.str_bool _ _ _⟩
  |int=>show⟨.str_int _ _ _ _,.str_int _ _ _ _⟩
  |str=>show⟨.str_str _ _ _ _,.str_str _ _ _ _⟩
  |tup c k' d b=>show⟨.str_tuple _ _ b a,.str_tuple _ _ b a⟩
  |lst c k' d b=>show⟨.str_list _ _ b a,.str_list _ _ b a⟩
 |tup l k y p =>
  cases h' with
  |Kb=>show⟨.tuple_none p a,.tuple_none p a⟩
  |bl=>show⟨.tuple_bool _ p a,.tuple_bool _ p a⟩
  |int=>show⟨.tuple_int _ _ p a,.tuple_int _ _ p a⟩
  |str=>show⟨.tuple_str _ _ p a,.tuple_str _ _ p a⟩
  |tup c k' d b=>rw[show bR (.tup _) (.tup _)=_ from HQ l c];show⟨.tuples p b a (go rfl k k'),.tuples p b a (go rfl k k')⟩
  |lst c k' d b=>show⟨.tuple_list p b a,.tuple_list p b a⟩
 |lst l k y p =>
  cases h' with
  |Kb=>show⟨.list_none p a,.list_none p a⟩
  |bl=>show⟨.list_bool _ p a,.list_bool _ p a⟩
  |int=>show⟨.list_int _ _ p a,.list_int _ _ p a⟩
  |str=>show⟨.list_str _ _ p a,.list_str _ _ p a⟩
  |tup c k' d b=>show⟨.list_tuple p b a,.list_tuple p b a⟩
  |lst c k' d b =>
   rename_i us _ _ ws _ _;by_cases o:us.length=ws.length
   .rw[show bR (.lst us) (.lst ws)=_ from f_ o,l,<-hQ];show⟨.lists p b (by simp;lia) a (go rfl k k'),.lists p b (by simp;lia) a (go rfl k k')⟩
   .rw[show bR (.lst us) (.lst ws)=cc from jx o];show⟨.lists_lengths p b (by simp;lia) a,.lists_lengths p b (by simp;lia) a⟩
def HR:∀{n:Nat}{u w:U}{x a:dV}{A:N7},KY s n u x->KY s n w a->A.units+n<L8->UJ A s x a (bR u w):=by
 intro n;induction n with
 |zero=>intro u w x a A h h' b;show vh h (Vl (λm e=>by cases e) h h' b).1 λe=>by subst e;rw[h.inj h'];show h'.self
 |succ n c=>intro u w x a A h h' b;show vh h (Vl (λm e=>by cases e;show c) h h' b).1 λe=>by subst e;rw[h.inj h'];show h'.self
def HS(h:KY s n u x)(h':KY s n w a)(b:A.units+n<L8):Ý A s x a (bR u w)/\Ĳ A s x a (!bR u w):=Vl (λm e=>by cases e;show HR) h h' b
end
end TM
namespace TM
open PySem L2 PyProof.Rows
abbrev Ka(C:Ct)(m:M (Kd×U)):TE:=λσ H Q=>∃a:Cf,a.σ=σ/\a.H=H/\Ok C a/\W m a.st λr st'=>∀c v,c.σ=σ->c.st=st'->Ok C c->Nx a c->aN C a c r.1 r.2 v->Q v c.H
abbrev LA(C:Ct)(m:M Bool):TT:=λσ H Q=>∃a:Cf,a.σ=σ/\a.H=H/\Ok C a/\W m a.st λb st'=>∀c,c.σ=σ->c.st=st'->Ok C c->Nx a c->Q b c.H
def cJ(C:Ct)(a c:Cf):List (Kd×U)->List V->Prop
 |[],vs=>vs=[]
 |r::rs,vs=>∃v t,vs=v::t/\fZ C a c r.1 r.2 v/\cJ C a c rs t/\(r.1=.own->∀(i:Nat) b d,rs[i]?=a5 b->t[i]?=a5 d->b.1=.own->d≠v)
abbrev LB(C:Ct)(m:M (List (Kd×U))):TA:=λσ H Q=>∃a:Cf,a.σ=σ/\a.H=H/\Ok C a/\W m a.st λrs st'=>∀c vs,c.σ=σ->c.st=st'->Ok C c->Nx a c->cJ C a c rs vs->Q vs c.H
section
def PE.weak(h:PE X e t)(i:∀σ H Q,t' σ H Q->t σ H Q):PE X e t':=λa s σ H Q I q=>h a s σ H Q I (i σ H Q q)
def PT.weak(h:PT X e t)(i:∀σ H Q,t' σ H Q->t σ H Q):PT X e t':=λa s σ H Q I q=>h a s σ H Q I (i σ H Q q)
def cn{st:ay}:W (aF rs) st Q↔bo rs st/\Q () st:=by
 constructor
 .rintro⟨a,st',e,h⟩;unfold aF at e;split at e
  .cases e;show⟨by assumption,h⟩
  .cases e
 .rintro⟨b,c⟩;show⟨(),st,by unfold aF;rw[Ž b],c⟩
def eY{st:ay}:bo (r::rs) st↔bo [r] st/\bo rs st:=by
 have⟨k,u⟩:=r;cases k<;>simp[bo]
def fZ.t(h:fZ C a c k u v)(s:bo [(k,u)] c.st):aN C a c k u v:=by
 cases k with
 |bor j=>show⟨s.1,h⟩
 |_=>show h
structure RJ(C:Ct)(c0 c:Cf)(x y:Kd×U)(vx vy:V):Prop where
 hσ:c.σ=c0.σ
 ok:Ok C c
 nx:Nx c0 c
 rx:aN C c0 c x.1 x.2 vx
 ry:aN C c0 c y.1 y.2 vy
 ne:x.1=.own->y.1=.own->vy≠vx
def pv(h:fZ C j b k u v)(h':fZ C b c k' u' d):k=.own->k'=.own->d≠v:=by
 rintro rfl rfl e;obtain⟨r,f,_,_,_,g⟩:=h;obtain⟨l,i,a,_⟩:=h';obtain⟨o,ho,_⟩:=g.some;subst f;rw[i]at e;cases e;rw[ho]at a;cases a
def two{k:Kd×U->Kd×U->M β}{Post:β->ay->Prop}{f:dV->dV->Sem α}{Q':dV->dV->α->eH->Prop}(O:PE X a (Ka C Q))(T:PE X b (Ka C B))(I:Inv X e d.σ d.H s)(Y:Ok C d)
  (h:W (Q >>= λx=>B >>= λy=>aF [x,y] >>= λ_=>k x y) d.st Post)
  (hf:∀x y c i l v u s2,RJ C d c x y i l->Inv X e c.σ c.H s2->RelV i v->RelV l u->W (k x y) c.st Post->d4 (fS X.prog X.w) X.A (f v u) (Q' v u) X.xe s2) :
  d4 (fS X.prog X.w) X.A (t6 a X.env) (λv s₁=>d4 (fS X.prog X.w) X.A (t6 b X.env) (λu s₂=>d4 (fS X.prog X.w) X.A (f v u) (Q' v u) X.xe s₂) X.xe s₁) X.xe s:=by
 rw[ai]at h;show Kc (O e s d.σ d.H (λi D=>∃x g,g.H=D/\g.σ=d.σ/\Ok C g/\Nx d g/\aN C d g x.1 x.2 i/\W (B >>= λy=>aF [x,y] >>= λ_=>k x y) g.st Post) I ⟨d,rfl,rfl,Y,h.mono λx st1 o g i p e2 q r z=>⟨x,g,rfl,p,q,r,z,by rw[e2];show o⟩⟩) ?_;rintro v s1 ⟨i,D,I1,rv,x,g,rfl,p,q,r,z,o⟩;rw[ai]at o;show Kc (T e s1 d.σ g.H (λl G=>∃y j,j.H=G/\RJ C d j x y i l/\W (k x y) j.st Post) I1 ⟨g,p,rfl,q,o.mono λy st2 m j l J e4 Ks L N=>?_⟩) ?_
 .rw[ai,cn]at m;subst e4;rw[eY]at m;show⟨y,j,rfl,⟨J,Ks,r.trans L,(z.w.on q L (J.trans p.symm)).t m.1.1,(N.from r),pv z.w N.w⟩,m.2⟩
 .rintro u s2 ⟨l,G,I2,ru,y,j,rfl,n,m⟩;have hs:j.σ=d.σ:=n.hσ;show hf x y j i l v u s2 n (by rw[hs];show I2) rv ru m
structure M5(C:Ct)(c0 c:Cf)(x:Kd×U)(vx:V):Prop where
 hσ:c.σ=c0.σ
 ok:Ok C c
 nx:Nx c0 c
 rx:aN C c0 c x.1 x.2 vx
def one{k:Kd×U->M β}{Post:β->ay->Prop}{f:dV->Sem α}{Q':α->eH->Prop}(m:PE X a (Ka C n))(I:Inv X b d.σ d.H s)(o:Ok C d)
  (h:W (n >>= λx=>k x) d.st Post)
  (p:∀x c e v s2,M5 C d c x e->Inv X b c.σ c.H s2->RelV e v->W (k x) c.st Post->d4 (fS X.prog X.w) X.A (f v) Q' X.xe s2) :
  d4 (fS X.prog X.w) X.A (t6 a X.env) (λv q=>d4 (fS X.prog X.w) X.A (f v) Q' X.xe q) X.xe s:=by
 rw[ai]at h;show Kc (m b s d.σ d.H (λe j=>∃x g,g.H=j/\M5 C d g x e/\W (k x) g.st Post) I ⟨d,rfl,rfl,o,h.mono λx st1 i g e r t u y z=>⟨x,g,rfl,⟨r,u,y,z⟩,by rw[t];show i⟩⟩) ?_;rintro v s1 ⟨e,j,B,rv,x,g,rfl,l,i⟩;show p x g e v s1 l (by rw[l.hσ];show B) rv i
abbrev bZ(C:Ct)(a:Cf)(Q:VK)(r:Kd×U)(st':ay):Prop:=∀c v,c.σ=a.σ->c.st=st'->Ok C c->Nx a c->aN C a c r.1 r.2 v->Q v c.H
section
def bZ.flat(h:bZ C a Q (.loc,u) c.st)(b:c.σ=a.σ)(d:Ok C c)(n:Nx a c)(r:Rep C c.S c.H u v):Q v c.H:=h c v b rfl d n r
def bZ.list(h:bZ C a Q (.own,.lst us) c.st)(b:c.σ=a.σ)(d:Ok C c)(n:Nx a c)(r:ak C c.S c.H us vs)(p:ez)(e:c.H p=b6):Q (.ref p) (upd c.H p (.lst vs)):=by
 have⟨f,g,i⟩:=d.newList n e r;show h {c with H:=upd c.H p (.lst vs)} _ b rfl f g i
def bZ.tup(h:bZ C a Q (.loc,.tup us) c.st)(b:c.σ=a.σ)(d:Ok C c)(n:Nx a c)(r:ak C c.S c.H us vs)(p:ez)(e:c.H p=b6):Q (.ref p) (upd c.H p (.tup vs)):=by
 have⟨f,g,i⟩:=d.FG n e r;show h {c with H:=upd c.H p (.tup vs)} _ b rfl f g i
def bZ.tupK(h:bZ C d Q (kE k,.tup us) c.st)(e:c.σ=d.σ)(a:Ok C c)(n:Nx d c)(r:ak C (SK C c k) c.H us vs)(p:ez)(f:c.H p=b6):Q (.ref p) (upd c.H p (.tup vs)):=by
 have⟨g,b⟩:=a.lay (o:=.tup vs) f;show h {c with H:=upd c.H p (.tup vs)} _ e rfl g (n.trans b) (aN.item ?_);cases k<;>show⟨p,vs,rfl,KN.of az,by first|show r.mv (a.OC b)|show r.mv (a.mv b)⟩
def dO(h:d_ k us=b8)(r:ak C (SK C c k) c.H us vs):ak C c.S c.H us vs:=by
 cases k with
 |any=>show r.Kw (by simpa[d_,isAny] using h)
 |_=>show r
end
def FU(k k':Kd):∀a,SK C c k a->SK C c (kT k k') a:=by
 intro a h;cases k<;>cases k'<;>first|show h|show .inr h
def Cw(k k':Kd):∀a,SK C c k' a->SK C c (kT k k') a:=by
 intro a h;cases k<;>cases k'<;>first|show h|show .inr h
def HU(k k':Kd):kE (kT k k')=kT k k':=by cases k<;>cases k'<;>rfl
def Cy:Ma X (Po .Add) (λx y H Q=>∃l b xs zs,x=.ref l/\y=.ref b/\Kz X.K H l xs/\Kz X.K H b zs/\xs.length+zs.length<=cK/\∀p,H p=b6->Q (.ref p) (upd H p (.lst (xs++zs)))):=by
 intro d s σ H x y v u Q I k m h;have⟨l,b,xs,zs,rfl,rfl,o,t,hz,q⟩:=h;cases k;cases m;have⟨its,r,pl,z⟩:=I.list o;have⟨c,e,w,J⟩:=I.list t;have hl:=r.length;have NH:=e.length;obtain⟨⟨cls,dd,data,A⟩,ho,f,n,g⟩:=pl.isList;obtain⟨⟨L,B,data2,C⟩,i,j,D,a⟩:=w.isList;simp only at f g j a;subst f g j a;show XW ⟨_,ho,rfl⟩ ⟨_,i,rfl⟩ noFill_list_add seq_list_add PySem.F.slot_list_add PySem.F.entry_list_add (PySem.F.args_list_add_2 _ _)
   (list_addW l b its.toArray c.toArray n D dd B A C (by rw[hQ,hQ];lia)) ⟨ho,i,?_⟩
 have G:its.toArray++c.toArray=(its++c).toArray:=by simp
 rw[G];show⟨.ref _,_,I.JL (t':=s.toks) (r.append e) (by rw[hH];lia),rfl,q _ I.fresh⟩
end
section
variable{X:Cx}{C:Ct}{pins:List (ez×Obj)}{s:eH}{c0 c:Cf}{Q:VK}
def zp:Ma X (Po .Add) (λx y H Q=>∃a b e,x=.ref a/\y=.ref b/\KN X.K H a []/\KN X.K H b e/\Q (.ref b) H):=by
 intro pins s σ H x y v u Q I k l h;have⟨a,b,e,rfl,rfl,m,o,q⟩:=h;cases k;cases l;obtain⟨its,p,r,_⟩:=I.tuple m;obtain⟨t,D,p2,_⟩:=I.tuple o;cases p;obtain⟨⟨cls,dd,data,w⟩,ho,f,n,g⟩:=id r;obtain⟨⟨G,z,data2,A⟩,i,j,B,d⟩:=id p2;simp only at f g j d;subst f g j d;show XW ⟨_,ho,rfl⟩ ⟨_,i,rfl⟩ YQ Ü PySem.F.slot_tuple_add PySem.F.entry_tuple_add (PySem.F.args_tuple_add_2 _ _)
   (tuple_addW0 a b _ t.toArray n B dd z w A (by rfl)) ⟨ho,i,.ref b,H,I,rfl,q⟩
abbrev SX.op:SX->đ
 |.add=>.Add|.sub=>.Sub|.mul=>.Mult|.PU=>.FloorDiv|.mod=>.Mod|.pow=>.Pow
def eZ(h:sJ f a b=a5 r):∃i j o,a=.int i/\b=.int j/\f i j=a5 o/\r=(.loc,.int o):=by
 unfold sJ at h;split at h
 .rw[d5]at h;have⟨o,e,rfl⟩:=h;show⟨_,_,o,rfl,rfl,e,rfl⟩
 .cases h
def FV(T:C.K=X.K)(t:RJ C c0 c x y g l)(I:Inv X pins c.σ c.H s)(z:RelV g v)(B:RelV l u)(h:MP op x y=a5 r)(q:bZ C c0 Q r c.st):
  d4 (fS X.prog X.w) X.A (Po op.op v u) (EP X pins c.σ Q) X.xe s:=by
 obtain⟨m,d,n,D,ty,_⟩:=t;cases op with
 |add =>
  have h:zg x y=a5 r:=h;unfold zg at h;split at h
  .have ex:=D.int d;have e:=ty.int d;cases h;show bV pins s c.σ c.H g l v u Q I z B ⟨_,_,ex,e,q.flat m d n rfl⟩
  .have ex:=D.str d;have e:=ty.str d;split at h
   .cases h;show se pins s c.σ c.H g l v u Q I z B ⟨_,_,ex,e,by assumption,q.flat m d n rfl⟩
   .cases h
  .have⟨a,vs,ex,N,G⟩:=D.list d;have⟨b,ws,e,O,J⟩:=ty.list d;split at h
   .rename_i L;cases h;show Cy pins s c.σ c.H g l v u Q I z B ⟨a,b,vs,ws,ex,e,T▸N,T▸O,by rw[<-G.len,<-J.len];show L.1,λp Y=>q.list m d n ((dO L.2.1 G).append (dO L.2.2 J)) p Y⟩
   .cases h
  .rename_i k xs k' ys _ _;have⟨a,vs,ex,N,G⟩:=D.tuple d;have⟨b,ws,e,O,J⟩:=ty.tuple d;have Nl:=N;have Qq:=O;rw[T]at Nl Qq;split at h
   .rename_i L;cases h;have m1:ak C (SK C c (kT k k')) c.H xs vs:=G.mv (.up (FU k k'));have m2:ak C (SK C c (kT k k')) c.H ys ws:=J.mv (.up (Cw k k'));have q':bZ C c0 Q (kE (kT k k'),.tup (xs++ys)) c.st:=by rw[HU];show q
    by_cases e1:vs=[]
    .subst e1;show zp pins s c.σ c.H g l v u Q I z B ⟨a,b,ws,ex,e,Nl,Qq,?_⟩;show q' c (.ref b) m rfl d n (aN.item ⟨b,ws,rfl,O,?_⟩);have:xs=[]:=by have:=m1.len;simpa using this
     rw[this];show m2
    .show BW pins s c.σ c.H g l v u Q I z B ⟨a,b,vs,ws,ex,e,Nl,Qq,e1,by rw[<-G.len,<-J.len];show L,λe2=>?_,λ_ p Y=>q'.tupK m d n (m1.append m2) p Y⟩;subst e2;show q' c (.ref a) m rfl d n (aN.item ⟨a,vs,rfl,N,?_⟩);have:ys=[]:=by have:=m2.len;simpa using this
     rw[this,ro];show m1
   .cases h
  .cases h
 |sub =>
  have⟨i,j,o,ex,e,f,rfl⟩:=eZ h;have ex:=(ex▸D).int d;have e:=(e▸ty).int d;cases f;show kS pins s c.σ c.H g l v u Q I z B ⟨_,_,ex,e,q.flat m d n rfl⟩
 |mul =>
  have⟨i,j,o,ex,e,f,rfl⟩:=eZ h;have ex:=(ex▸D).int d;have e:=(e▸ty).int d;unfold Cj at f;split at f
  .cases f;show kU pins s c.σ c.H g l v u Q I z B ⟨_,_,ex,e,by assumption,q.flat m d n rfl⟩
  .cases f
 |PU =>
  have⟨i,j,o,ex,e,f,rfl⟩:=eZ h;have ex:=(ex▸D).int d;have e:=(e▸ty).int d;unfold Cm at f;split at f
  .cases f;show BP pins s c.σ c.H g l v u Q I z B ⟨_,_,ex,e,by assumption,q.flat m d n rfl⟩
  .cases f
 |mod =>
  have⟨i,j,o,ex,e,f,rfl⟩:=eZ h;have ex:=(ex▸D).int d;have e:=(e▸ty).int d;unfold Cn at f;split at f
  .cases f;show eF pins s c.σ c.H g l v u Q I z B ⟨_,_,ex,e,by assumption,q.flat m d n rfl⟩
  .cases f
 |pow =>
  have⟨i,j,o,ex,e,f,rfl⟩:=eZ h;have ex:=(ex▸D).int d;have e:=(e▸ty).int d;unfold Co at f;split at f
  .cases f;show oH pins s c.σ c.H g l v u Q I z B ⟨_,_,ex,e,by assumption,q.flat m d n rfl⟩
  .cases f
def Cz(d:C.K=X.K)(f:PE X a (Ka C g))(i:PE X b (Ka C j)):PE X (.BinOp a k.op b pos) (Ka C (g >>= λx=>j >>= λy=>aF [x,y] >>= λ_=>M.Kp (MP k x y))):=by
 rintro pins s σ H Q I ⟨c0,rfl,rfl,l,h⟩;show wpAny_BinOp (two f i I l h λx y c p A v u s2 t m n o w=>?_);have⟨r,e,q⟩:=bJ.mp w;show Kc (FV d t m n o e q) λ_ _ z=>by rw[t.hσ]at z;show z
abbrev RH.op:RH->CmpOp
 |.eq=>.Eq|.ne=>.NotEq|.lt=>.Lt|.le=>.LtE|.gt=>.Gt|.ge=>.GtE|.isin=>.In|.Ki=>.NotIn|.is=>.Is|.Vh=>.IsNot
def HV{neg:Bool}(I:Inv X pins c.σ c.H s)(i:C.K=X.K)(L:X.A.units+60<L8){S:ez->Prop}(n:Rep C S c.H x m)(o:RelV m v)(r:ak C S c.H g vs)
  (ha:Kz C.K c.H a vs\/KN C.K c.H a vs) (t:K3 50 x=b8) (u:dG 50 g=b8) {Q:dV->eH->Prop} (q:Q (.bool (if neg then !(g.any λy=>bR y x) else g.any λy=>bR y x)) s) :
  d4 (fS X.prog X.w) X.A (OT (if neg then .NotIn else .In) v (.ref a)) Q X.xe s:=by
 have z:=KY.of I i 50 x m v t n o;have go:∀its:List dV,Vals vs its->∃e:dV->Bool,(∀y,y∈its.toArray->UJ X.A.in1 s y v (e y))/\its.toArray.any e=g.any λy=>bR y x:=by
  intro its rv;obtain⟨l,k,_⟩:=KY.xF (KY.of I i 50) u r rv
  classical
  have q:∀j (b:j<its.length),c4 (∃w,KY s 50 w its[j]/\bR w x=b8)=bR (g.getD j .Kb) x:=λj b=>by
   rw[KX,decide_eq_true_iff];show⟨λ⟨w,d,f⟩=>by rw[<-d.inj (k j b)];show f,λh=>⟨_,k j b,h⟩⟩
  show⟨λy=>c4 (∃w,KY s 50 w y/\bR w x=b8),λy B=>?_,?_⟩
  .have⟨j,b,e⟩:=Sd (show y∈its by simpa using B);subst e;change UJ _ _ _ _ (decide _);rw[q j b];show HR (k j b) z (by change X.A.units+1+50 < _;lia)
  .rw[KX];simp only[List.any_toArray,Pa];constructor
   .rintro⟨y,D,h⟩;have⟨j,b,rfl⟩:=Sd D;rw[q j b]at h;show⟨_,Lx (l▸b),by simpa[l▸b] using h⟩
   .rintro⟨w,G,J⟩;have⟨j,b,rfl⟩:=Sd G;show⟨_,Lx (l▸b),by rw[q j (l▸b)];simpa[b] using J⟩
 rcases ha with ha|ha
 .obtain⟨its,rv,p,_⟩:=vg I (i▸ha);have⟨e,d,f⟩:=go its rv;cases neg with
  |false=>show SeqAt.in_listAt e p d (by rw[f];show q)
  |true=>show SeqAt.notIn_listAt e p d (by rw[f];show q)
 .rw[i]at ha;obtain⟨its,rv,p,_⟩:=I.tuple ha;have⟨e,d,f⟩:=go its rv;cases neg with
  |false=>show SeqAt.in_tupleAt e p d (by rw[f];show q)
  |true=>show SeqAt.notIn_tupleAt e p d (by rw[f];show q)
end
section
theorem cM:∀{us:List U}{ss:List Str},strsOf us=a5 ss->us=ss.map .str
 |[],ss,h=>by cases h;rfl
 |.str x::us,ss,h=>by
  simp only[strsOf,d5]at h;have⟨t,a,rfl⟩:=h;rw[cM a];rfl
 |.Kb::_,_,h=>by cases h
 |.bl _::_,_,h=>by cases h
 |.int _::_,_,h=>by cases h
 |.tup _::_,_,h=>by cases h
 |.lst _::_,_,h=>by cases h
 |.J8 _ _::_,_,h=>by cases h
theorem gb:∀{us:List U}{ns:List Int},intsOf us=a5 ns->us=ns.map .int
 |[],ns,h=>by cases h;rfl
 |u::us,ns,h=>by
  cases u<;>first|(cases h;done)|skip
  rename_i x;have h':(intsOf us).map (x::·)=a5 ns:=h;rw[d5]at h';have⟨ms,e,rfl⟩:=h';rw[gb e];rfl
theorem ak.ints{S:ez->Prop}:∀{ns:List Int}{vs:List V},ak C S H (ns.map .int) vs->vs=ns.map V.int
 |[],vs,h=>h
 |n::ns,vs,h=>by
  have⟨v,r,rfl,a,b⟩:=h;rw[ak.ints b];have:v=.int n:=a;rw[this];rfl
theorem lI:∀{us:List U}{ss:List Bool},gU us=a5 ss->us=ss.map .bl
 |[],ss,h=>by cases h;rfl
 |.bl x::us,ss,h=>by
  simp only[gU,d5]at h;have⟨t,a,rfl⟩:=h;rw[lI a];rfl
 |.Kb::_,_,h=>by cases h
 |.str _::_,_,h=>by cases h
 |.int _::_,_,h=>by cases h
 |.tup _::_,_,h=>by cases h
 |.lst _::_,_,h=>by cases h
 |.J8 _ _::_,_,h=>by cases h
theorem ak.W4{S:ez->Prop}:∀{xs:List Bool}{vs:List V},ak C S H (xs.map .bl) vs->vs=xs.map V.bl
 |[],vs,h=>h
 |x::xs,vs,h=>by
  have⟨v,r,rfl,a,b⟩:=h;rw[ak.W4 b];have:v=.bl x:=a;rw[this];rfl
abbrev FW(X:Cx)(a:List (ez×Obj))(c:Cf)(b:Bool)(v:dV)(s':eH):Prop:=v=.bool b/\Inv X a c.σ c.H s'
def iU(o:Ma X f r)(I:Inv X a c.σ c.H s)(g:RelV d v)(i:RelV e u)(h:r d e c.H λx H'=>x=.bl b/\H'=c.H):
  d4 (fS X.prog X.w) X.A (f v u) (FW X a c b) X.xe s :=
 Kc (o a s c.σ c.H d e v u _ I g i h) λw s' j=>by
  have⟨z,H',k,r,l,m⟩:=j;subst l m;show⟨r,k⟩
def aN.dict(g:Ok C c)(h:aN C i c k (.J8 ks us) v):∃a kvs,v=.ref a/\c.H a=a5 (.dK kvs)/\kvs.map (·.1)=ks.map l0/\ak C (SK C c k) c.H us (kvs.map (·.2)):=by
 cases k with
 |own=>obtain⟨r,e,_,_,_,kvs,b,d,f⟩:=h;show⟨r,kvs,e,b,d,f⟩
 |bor j=>obtain⟨r,e,_,_,_,kvs,b,d,f⟩:=g.rootOf h.1 h.2;show⟨r,kvs,e,b,d,f⟩
 |io=>show h.elim
 |J6=>show h.elim
 |_=>obtain⟨a,e,_,kvs,b,d,f⟩:=h;show⟨a,kvs,e,b,d,f⟩
theorem da{S:ez->Prop}:∀{ks:List Str}{us:List U}{kvs:List (Key×V)},kvs.map (·.1)=ks.map l0->ak C S H us (kvs.map (·.2)) ->
  (∀u,cq ks us x=a5 u->∃v,dB kvs (l0 x)=a5 v/\Rep C S H u v)/\(dB kvs (l0 x)).isSome=c4 (x∈ks)
 |[],us,kvs,a,b=>by
  have:kvs=[]:=by simpa using a
  subst this;show⟨λu h=>by cases us<;>simp[cq]at h,by simp[dB]⟩
 |k::ks,us,[],a,b=>by simp at a
 |k::ks,[],p::kvs,a,b=>by simp[ak]at b
 |k::ks,j::us,p::kvs,a,b=>by
  have⟨v,r,e,d,f⟩:=b;rw[d3]at e;cases e;rw[d3,d3,Rx]at a;have⟨g,i⟩:=da (x:=x) a.2 f;by_cases hk:k=x
  .subst hk;show⟨λu h=>?_,?_⟩
   .simp[cq]at h;subst h;show⟨p.2,eO a.1,d⟩
   .rw[eO a.1];simp
  .have c:¬p.1=l0 x:=by rw[a.1];intro z;show hk (WC z)
   show⟨λu h=>?_,?_⟩
   .simp[cq,hk]at h;have⟨v,e,q⟩:=g u h;show⟨v,by rw[eQ c];show e,q⟩
   .rw[eQ c,i];simp[qP hk]
def Rep.lB{S:ez->Prop}(h:Rep C S H u v):c4 (v=.Kb)=lB u:=by
 cases u with
 |Kb=>have:v=.Kb:=h;subst this;rfl
 |bl b=>have:v=.bl b:=h;subst this;rfl
 |int b=>have:v=.int b:=h;subst this;rfl
 |str b=>have:v=.str b:=h;subst this;rfl
 |J8 ks us=>obtain⟨a,rfl,_⟩:=h;rfl
 |exc c=>obtain⟨a,rfl,_⟩:=h;rfl
 |_=>obtain⟨a,vs,rfl,_⟩:=h;rfl
def gv{c:Bool}(h:xx f a b=a5 c):∃i j,a=.int i/\b=.int j/\f i j=c:=by
 unfold xx at h;split at h
 .cases h;show⟨_,_,rfl,rfl,rfl⟩
 .cases h
def zq(hP:C.P=X.prog)(hw:C.w=X.w)(p:C.K=X.K)(O:X.A.units+60<L8)(t:RJ C c0 c x y Q vy)(I:Inv X m c.σ c.H s)(f:RelV Q v)(g:RelV vy u)(h:cB T x.2 y.2=a5 b):
  d4 (fS X.prog X.w) X.A (OT T.op v u) (FW X m c b) X.xe s:=by
 obtain⟨hσ,d,n,l,ty,_⟩:=t;have⟨kx,D⟩:=x;have⟨ky,q⟩:=y
 dsimp only at h l ty
 have G:∀neg:Bool,∀B,zh D q=a5 B->d4 (fS X.prog X.w) X.A (OT (if neg then .NotIn else .In) v u) (FW X m c (if neg then !B else B)) X.xe s:=by
  intro neg B h;have L:=l.read d;have Y:=ty.read d;unfold zh at h;split at h
  .have⟨a,vs,rfl,o,J⟩:=Y;cases g;unfold PX at h;split at h
   .rename_i e;cases h;show HV I p O L f J (.inl o.sq) e.1 e.2 ⟨by cases neg<;>rfl,I⟩
   .cases h
  .have⟨a,vs,rfl,o,J⟩:=Y;cases g;unfold PX at h;split at h
   .rename_i e;cases h;show HV I p O L f J (.inr o) e.1 e.2 ⟨by cases neg<;>rfl,I⟩
   .cases h
  .cases h;have ex:Q=_:=L;have⟨a,kvs,rfl,o,J,h3⟩:=ty.dict d;cases g;subst ex;have hs:=λz:Str=>(da (x:=z) J h3).2;cases neg with
   |false=>show HH ⋯ I (eG.k (k:=l0 _) o) f λs' N=>⟨by rw[hs];rfl,N⟩
   |true=>show uM ⋯ I (eG.k (k:=l0 _) o) f λs' N=>⟨by rw[hs];rfl,N⟩
  .cases h
 have W5:∀{r:Bool},(if K3 50 D=b8/\K3 50 q=b8 then a5 r else b6)=a5 b->(K3 50 D=b8/\K3 50 q=b8)/\r=b:=λh=>by
  split at h
  .rename_i e;cases h;show⟨e,rfl⟩
  .cases h
 cases T with
 |eq =>
  have⟨e,rfl⟩:=W5 h;show(HS (n:=50) (.of I p _ _ _ _ e.1 (l.read d) f) (.of I p _ _ _ _ e.2 (ty.read d) g) ⋯).1 _ _ _ _ ⟨rfl,I⟩
 |ne =>
  have⟨e,rfl⟩:=W5 h;show(HS (n:=50) (.of I p _ _ _ _ e.1 (l.read d) f) (.of I p _ _ _ _ e.2 (ty.read d) g) ⋯).2 _ _ _ _ ⟨rfl,I⟩
 |lt=>have⟨i,j,rfl,rfl,rfl⟩:=gv h;show iU Hu I f g ⟨_,_,l.int d,ty.int d,rfl,rfl⟩
 |le=>have⟨i,j,rfl,rfl,rfl⟩:=gv h;show iU Hv I f g ⟨_,_,l.int d,ty.int d,rfl,rfl⟩
 |gt=>have⟨i,j,rfl,rfl,rfl⟩:=gv h;show iU Hw I f g ⟨_,_,l.int d,ty.int d,rfl,rfl⟩
 |ge=>have⟨i,j,rfl,rfl,rfl⟩:=gv h;show iU Hx I f g ⟨_,_,l.int d,ty.int d,rfl,rfl⟩
 |isin=>show G cc b h
 |Ki =>
  have⟨B,o,rfl⟩:=d5.mp (show(zh D q).map (!·)=a5 b from h);show G b8 B o
 |is =>
  have h:(if lB q=b8 then a5 (lB D) else b6)=a5 b:=h;split at h
  .rename_i hn;cases h;cases q with
   |Kb=>show iU E5 I f g ⟨ty.Kb d,by rw[(l.read d).lB],rfl⟩
   |_=>cases hn
  .cases h
 |_=>cases h
def CA(g:C.P=X.prog)(i:C.w=X.w)(j:C.K=X.K)(k:X.A.units+60<L8)(l:PE X a (Ka C m))(n:PE X b (Ka C o))(p:Sn d.op b=cc):
  PE X (.Compare a [d.op] [b] pos) (Ka C (m >>= λx=>o >>= λy=>aF [x,y] >>= λ_=>M.Kp (cB d x.2 y.2) >>= λc=>pure (.loc,.bl c))):=by
 rintro f s σ H Q I ⟨O,rfl,rfl,B,h⟩;show wpAny_Compare1 (two l n I B h λx y c T Y v u s2 t D G J w=>?_) p;rw[ai]at w;have⟨r,e,q⟩:=bJ.mp w;rw[aq]at q;show Kc (zq g i j k t D G J e) λz s' L=>?_;have⟨e,N⟩:=L;subst e;show⟨.bl r,c.H,by rw[<-t.hσ];show N,rfl,q c (.bl r) t.hσ rfl t.ok t.nx rfl⟩
def CB(i:C.P=X.prog)(j:C.w=X.w)(k:C.K=X.K)(l:X.A.units+60<L8)(m:PE X a (Ka C n))(o:PE X b (Ka C p))(B:Sn g.op b=cc):
  PT X (.Compare a [g.op] [b] pos) (LA C (n >>= λx=>p >>= λy=>aF [x,y] >>= λ_=>M.Kp (cB g x.2 y.2))):=by
 rintro d s σ H Q I ⟨D,rfl,rfl,G,h⟩;show Ă (two (f:=λv u=>OT g.op v u) (Q':=λ_ _ c s=>d4 (fS X.prog X.w) X.A (ŧ c) (TP X d D.σ Q) X.xe s) m o I G h λx y c Y vy v u s2 t J L N w=>?_) B;have⟨r,e,q⟩:=bJ.mp w;show Kc (zq i j k l t J L N e) λz s' O=>?_;have⟨e,T⟩:=O;subst e;show MJ ⟨c.H,by rw[<-t.hσ];show T,q c t.hσ rfl t.ok t.nx⟩
end
section
abbrev HW(C:Ct)(a:Cf)(Q:Bool->Hp->Prop)(b:Bool)(st':ay):Prop:=∀c,c.σ=a.σ->c.st=st'->Ok C c->Nx a c->Q b c.H
def sO(c:a.σ=b.σ)(d:Ok C a)(n:Nx b a)(h:W m a.st (bZ C b Q)):Ka C m b.σ a.H Q :=
 ⟨a,c,rfl,d,h.mono λr st e f v g i j k l=>e f v g i j (n.trans k) (l.from n)⟩
def zr(c:a.σ=b.σ)(d:Ok C a)(n:Nx b a)(h:W m a.st (HW C b Q)):LA C m b.σ a.H Q :=
 ⟨a,c,rfl,d,h.mono λr st e f g i j k=>e f g i j (n.trans k)⟩
def aV(b:Ok C a)(h:W (d >>= k) a.st Post)
  (hz:∀x c v,M5 C a c x v->W (k x) c.st Post->Z v c.H):Ka C d a.σ a.H Z:=by
 rw[ai]at h;show⟨a,rfl,rfl,b,h.mono λx st1 e f g i j l m n=>hz x f g ⟨i,l,m,n⟩ (by rw[j];show e)⟩
def dP(d:Ok C a)(h:W (e >>= k) a.st Post)
  (hz:∀b c,c.σ=a.σ->Ok C c->Nx a c->W (k b) c.st Post->Z b c.H):LA C e a.σ a.H Z:=by
 rw[ai]at h;show⟨a,rfl,rfl,d,h.mono λx st1 f g i j l m=>hz x g i l m (by rw[j];show f)⟩
abbrev HX(m:M (Kd×U))(x:Kd×U):M (Kd×U):=match x.2 with
 |.bl b8=>m
 |.bl cc=>pure (.loc,.bl cc)
 |_=>M.fail
abbrev HY(x:Kd×U):M (Kd×U):=match x.2 with
 |.bl c=>pure (.loc,.bl !c)
 |_=>M.fail
def snd_and(g:PE X a (Ka C i))(j:PE X (.BoolOp .And (b::rest) pos) (Ka C l)):PE X (.BoolOp .And (a::b::rest) pos) (Ka C (i >>= HX l)):=by
 show PE.weak (ER g j) ?_;rintro σ H Q ⟨o,rfl,rfl,m,h⟩;show aV m h λx c v t w=>?_;have⟨k,u⟩:=x;have⟨f,d,n,r⟩:=t;unfold HX at w;split at w
 .rename_i e
  dsimp only at e r
  subst e;show⟨b8,r.bl d,by rw[Ž rfl];show sO f d n w⟩
 .rename_i e
  dsimp only at e r
  subst e;rw[aq]at w;show⟨cc,r.bl d,by rw[ž js];show w c (.bl cc) f rfl d n rfl⟩
 .show(bu.mp w).elim
def CC(d:PE X a (Ka C f)):PE X (.UnaryOp .Not a pos) (Ka C (f >>= HY)):=by
 show PE.weak (ES d) ?_;rintro σ H Q ⟨j,rfl,rfl,g,h⟩;show aV g h λx c v t w=>?_;have⟨k,u⟩:=x;have⟨i,b,n,r⟩:=t;unfold HY at w;split at w
 .rename_i e
  dsimp only at e r
  subst e;rw[aq]at w;show⟨_,r.bl b,w c (.bl _) i rfl b n rfl⟩
 .show(bu.mp w).elim
def CD(g:PT X d (LA C i))(j:PE X a (Ka C k))(l:PE X b (Ka C m)):PE X (.IfExp d a b pos) (Ka C (i >>= λp=>if p=b8 then k else m)):=by
 show PE.weak (ym g j l) ?_;rintro σ H Q ⟨q,rfl,rfl,o,h⟩;show dP o h λp c e f n w=>?_;cases p with
 |true=>rw[Ž rfl]at w ⊢;show sO e f n w
 |false=>rw[ž js]at w ⊢;show sO e f n w
def CF(d:PT X a (LA C e)):PT X (.UnaryOp .Not a pos) (LA C (e >>= λb=>pure !b)):=by
 show PT.weak (EN d) ?_;rintro σ H Q ⟨j,rfl,rfl,f,h⟩;show dP f h λp c g i n w=>?_;rw[aq]at w;show w c g rfl i n
def CG(i:PT X a (LA C j))(k:PW X (.BoolOp .And (b::rest) pos) (LA C l)):PW X (.BoolOp .And (a::b::rest) pos) (LA C (j >>= λp=>if p=b8 then l else pure cc)):=by
 have m:=EM i k;rintro o d s σ H Q I ⟨e,rfl,rfl,q,h⟩;show m o d s e.σ e.H Q I (dP q h λp c f g n w=>?_);cases p with
 |true=>rw[Ž rfl]at w ⊢;show zr f g n w
 |false=>rw[ž js]at w ⊢;rw[aq]at w;show w c f rfl g n
def FX(i:PT X a (LA C j))(k:PW X (.BoolOp .Or (b::rest) pos) (LA C l)):PW X (.BoolOp .Or (a::b::rest) pos) (LA C (j >>= λp=>if p=b8 then pure b8 else l)):=by
 have m:=Hf i k;rintro o d s σ H Q I ⟨e,rfl,rfl,q,h⟩;show m o d s e.σ e.H Q I (dP q h λp c f g n w=>?_);cases p with
 |true=>rw[Ž rfl]at w ⊢;rw[aq]at w;show w c f rfl g n
 |false=>rw[ž js]at w ⊢;show zr f g n w
def vi{us:List α}{vs:List β}(h:us.length=vs.length):(!us.isEmpty)=!vs.isEmpty:=by
 cases us<;>cases vs<;>simp_all
def kI(j:PE X a (Ka C l))(i:C.K=X.K)(m:∀b,isTrue a X.env b=(do let v <-b;Zw a.pos;MT [v] (ŧ v))):PT X a (LA C (l >>= λx=>M.Kp (zk x.2))):=by
 show PT.weak (yt j m) ?_;rintro σ H Q ⟨y,rfl,rfl,o,h⟩;show aV o h λx c v t w=>?_;have⟨k,u⟩:=x;have⟨s,d,n,r⟩:=t;have⟨p,e,q⟩:=bJ.mp w
 dsimp only at e r
 show⟨p,?_,q c s rfl d n⟩;unfold zk at e;split at e
 .cases e;rw[r.bl d];rfl
 .cases e;have⟨a,vs,rfl,f,g⟩:=r.list d;show .inl ⟨vs,i▸f,vi g.len⟩
 .cases e;have⟨a,vs,rfl,f,g⟩:=r.tuple d;rw[i]at f;show .inr (.inl ⟨vs,f,vi g.len⟩)
 .split at e
  .cases e;rw[r.str d];show⟨by assumption,rfl⟩
  .cases e
 .cases e
end
section
def cJ.from(n:Nx a b):cJ C b c rs vs->cJ C a c rs vs:=by
 intro h;induction rs generalizing vs with
 |nil=>show h
 |cons r rs d=>have⟨v,t,e,f,g,i⟩:=h;show⟨v,t,e,f.from n,d g,i⟩
def cJ.get{i:Nat}(h:cJ C b c rs vs)(e:rs[i]?=a5 r)(a:vs[i]?=a5 v):fZ C b c r.1 r.2 v:=by
 induction rs generalizing vs i with
 |nil=>simp at e
 |cons j rs d =>
  have⟨k,t,rfl,f,g,l⟩:=h;cases i with
  |zero=>simp at e a;subst e a;show f
  |succ i=>show d g (by simpa using e) (by simpa using a)
def CH:PA X [] (LB C (pure [])):=by
 rintro pos a s σ H Q I ⟨b,rfl,rfl,c,h⟩;rw[aq]at h;show fP pos a s b.σ b.H Q I (h b [] rfl rfl c (Nx.refl b) rfl)
def zt(j:PE X e (Ka C m))(k:PA X es (LB C ms))(hs:i2 (e::es) X.env=(cc,t6 e X.env)::i2 es X.env):PA X (e::es) (LB C (m >>= λr=>ms >>= λrs=>pure (r::rs))):=by
 rintro pos a s σ H Q I ⟨b,rfl,rfl,l,h⟩;show dA j k hs pos a s b.σ b.H Q I (aV l h λr n v t w=>?_);rw[ai]at w;show⟨n,t.hσ,rfl,t.ok,w.mono λrs st2 c o vs d p q f g=>?_⟩;rw[aq]at c;show c o (v::vs) d p q (t.nx.trans f) ⟨v,vs,rfl,t.rx.w.on t.ok f (d.trans t.hσ.symm),g.from t.nx,λhk i z A u x y=>?_⟩;show pv t.rx.w (g.get u x) hk y
structure Ms(C:Ct)(c0 c:Cf)(rs:List (Kd×U))(vs:List V):Prop where
 hσ:c.σ=c0.σ
 ok:Ok C c
 nx:Nx c0 c
 rep:cJ C c0 c rs vs
 OK:bo rs c.st
def args{k:List (Kd×U)->M β}{Post:β->ay->Prop}(g:PA X es (LB C ms))(I:Inv X a b.σ b.H s)(i:Ok C b)(h:W (ms >>= λrs=>aF rs >>= λ_=>k rs) b.st Post)(pos:Pos):
  d4 (fS X.prog X.w) X.A (ŀ (zy pos (i2 es X.env))) (λus s1=>∃rs c vs,Ms C b c rs vs/\Inv X a c.σ c.H s1/\Vals vs us/\W (k rs) c.st Post) X.xe s:=by
 rw[ai]at h;show Kc (g pos a s b.σ b.H (λvs f=>∃rs c,c.H=f/\Ms C b c rs vs/\W (k rs) c.st Post) I ⟨b,rfl,rfl,i,h.mono λrs st1 d e vs j l m n o=>?_⟩) ?_
 .rw[ai,cn]at d;subst l;show⟨rs,e,rfl,⟨j,m,n,o,d.1⟩,d.2⟩
 .rintro us s1 ⟨vs,f,p,rv,rs,e,rfl,t,w⟩;show⟨rs,e,vs,t,by rw[t.hσ];show p,rv,w⟩
def Ms.one(t:Ms C a c [r] vs):∃v,vs=[v]/\aN C a c r.1 r.2 v:=by
 obtain⟨v,t',rfl,b,d,_⟩:=t.rep;cases d;show⟨v,rfl,b.t t.OK⟩
def Ms.two(t:Ms C b c [r,d] vs):∃v a,vs=[v,a]/\aN C b c r.1 r.2 v/\aN C b c d.1 d.2 a:=by
 obtain⟨v,t',rfl,e,⟨a,f,rfl,g,h,_⟩,_⟩:=t.rep;cases h;have hs:=eY.mp t.OK;show⟨v,a,rfl,e.t hs.1,g.t hs.2⟩
def Ok.share(b:Ok C c)(g:C.H₀ r=b6)(h:∃o,c.H r=a5 o)(hl:st'.length=c.st.length)
  (d:∀(i:Nat) k u,st'[i]?=a5 (a5 (k,u))->(∃v,c.σ[i]?=a5 (a5 v)/\fY C (λa=>c.S a\/a=r) c.H k u v)/\(k.root=b8->c.st[i]?=a5 (a5 (k,u)))) (l:Nj C {c with S:=λa=>c.S a\/a=r,st:=st' }) :
  Ok C {c with S:=λa=>c.S a\/a=r,st:=st' }:=by
 show⟨b.same,λa z=>?_,b.par,b.io,by rw[show({c with S:=λa=>c.S a\/a=r,st:=st' }:Cf).st.length=st'.length from rfl,hl];show b.len,λi k u e=>(d i k u e).1,λi j k k' u u' m hk f n p q s=>?_,l⟩
 .rcases z with z|rfl
  .show b.L5 a z
  .show⟨g,h⟩
 .show b.inj i j k k' u u' m hk f ((d i k u n).2 hk) ((d j k' u' p).2 f) q s
def Ok.FY(s:Ok C d)(b:Ok C c)(n:Nx d c)(f:d.H r=b6)(g:¬c.R r)(t:cW C c.S c.H r u):
  Ok C {c with S:=λa=>c.S a\/a=r}/\Nx d {c with S:=λa=>c.S a\/a=r}:=by
 obtain⟨o,ho,_⟩:=t.some;show⟨b.share (st':=c.st) (s.kl f).1 ⟨o,ho⟩ rfl (λi k u e=>⟨?_,λ_=>e⟩) (b.dd.hs (.up λa=>.inl) λj a z=>⟨λq=>q.elim (b.root (.inr ⟨j,z⟩)).1 λe=>g (.inr ⟨j,e▸z⟩),λo q=>q⟩),⟨⟨n.keep,n.there,n.roots,λa z=>.inl (n.sub a z),λa z=>?_⟩⟩⟩
 .have⟨v,h,l⟩:=b.sl i k u e;have w:Mv c.S c.H (λa=>c.S a\/a=r) c.H:=.up λa=>.inl;show⟨v,h,l.mv w (.up λa z=>z.imp id .inl) λhk y m=>⟨?_,λo q=>q⟩⟩;obtain⟨A,p,x,_⟩:=l.rt hk;rw[m]at p;cases p;rintro(z|rfl)
  .show x z
  .show g (.inl ⟨i,k,u,hk,e,by rw[h,m]⟩)
 .rcases z with z|rfl
  .show n.new a z
  .show .inr (.inr f)
def Ok.zu(d:Ok C c)(n:Nx D c)(g:c.st[j]?=a5 (a5 (.own,u)))(h:c.σ[j]?=a5 (a5 (.ref r))):
  Ok C {c with S:=λa=>c.S a\/a=r,st:=c.st.set j (a5 (.loc,u))}/\Nx D {c with S:=λa=>c.S a\/a=r,st:=c.st.set j (a5 (.loc,u))}/\Rep C (λa=>c.S a\/a=r) c.H u (.ref r):=by
 have⟨T,f,l,m,Y,q2,G,x⟩:=d.sl j _ _ g;rw[h]at f;cases f;cases m;have y:Rep C (λa=>c.S a\/a=r) c.H u (.ref r):=x.rep (λa=>.inl) (.inr rfl);obtain⟨o,ho,_⟩:=x.some;have s:j<c.st.length:=(dt.mp g).1;have t:∀(i:Nat) k u',(c.st.set j (a5 (.loc,u)))[i]?=a5 (a5 (k,u'))->i≠j->c.st[i]?=a5 (a5 (k,u')):=λi k u' e ne=>by rw[i1 (qP ne)]at e;show e
 have I:c.R1 r:=⟨j,.own,u,rfl,g,h⟩
 have A:∀(i:Nat) (u':U),(c.st.set j (a5 (.loc,u)))[i]?=a5 (a5 (.J6,u'))->c.st[i]?=a5 (a5 (.J6,u')):=λi u' e=>by
  by_cases b:i=j
  .subst b;rw[fR s]at e;cases e
  .show t i .J6 u' e b
 have b1:∀a,({c with S:=λa=>c.S a\/a=r,st:=c.st.set j (a5 (.loc,u))}:Cf).R1 a->c.R1 a:=λa J=>by
  have⟨i,k,u',hk,e,L⟩:=J;by_cases b:i=j
  .subst b;rw[fR s]at e;cases e;cases hk
  .show⟨i,k,u',hk,t i k u' e b,L⟩
 have N:Nj C {c with S:=λa=>c.S a\/a=r,st:=c.st.set j (a5 (.loc,u))}:=d.dd.of rfl (λi u' e=>⟨A i u' e,rfl⟩) (λa z=>.inl (b1 a z)) (.up λa=>.inl) λi a z=>⟨λq=>q.elim (d.root (.inr ⟨i,z⟩)).1 λe=>d.dd.d1 i a z (e▸I),λo q=>q⟩
 show⟨d.share (st':=c.st.set j (a5 (.loc,u))) G ⟨o,ho⟩ (by simp) (λi k u' e=>?_) N,⟨⟨n.keep,n.there,λa z=>?_,λa z=>.inl (n.sub a z),λa z=>?_⟩⟩,y⟩
 .by_cases b:i=j
  .subst b;rw[fR s]at e;cases e;show⟨⟨.ref r,h,y⟩,λz=>nomatch z⟩
  .have w:=t i k u' e b;have⟨v,f,p⟩:=d.sl i k u' w;show⟨⟨v,f,p.mv (.up λa=>.inl) (.up λa z=>z.imp id .inl) λhk l m=>⟨?_,λo q=>q⟩⟩,λ_=>w⟩;obtain⟨RL,B,O,_⟩:=p.rt hk;rw[m]at B;cases B;rintro(z|rfl)
   .show O z
   .show b (d.inj i j k .own u' u l hk rfl w g (by rw[f,m]) h)
 .rcases z with z|⟨i,u',l,f,p,Q⟩
  .show n.roots a (.inl (b1 a z))
  .show n.roots a (.inr ⟨i,u',l,A i u' f,p,Q⟩)
 .rcases z with z|rfl
  .show n.new a z
  .rcases n.roots a (.inl ⟨j,.own,u,rfl,g,h⟩) with z|z
   .show .inr (.inl z)
   .show .inr (.inr z)
def iV(B:Ok C l)(b:Ok C c)(n:Nx l c)(d:fZ C l c r.1 r.2 v)(h:W (lift r) c.st Post):
  ∃(S':ez->Prop) (st':ay) (u:U),(∀a,c.S a->S' a)/\Ok C {c with S:=S',st:=st' }/\Nx l {c with S:=S',st:=st' }/\Rep C S' c.H u v/\Post u st' /\
   (∀a,S' a->c.S a\/v=.ref a/\(r.1=.own\/c.R a))/\∀a,({c with S:=S',st:=st' }:Cf).R a->c.R a:=by
 have⟨k,u⟩:=r;cases k with
 |own =>
  rw[show lift (.own,u)=pure u from rfl,aq]at h;have⟨r,e,D,O,G,y⟩:=d;have⟨m,o⟩:=Ok.FY B b n D G y;show⟨_,c.st,u,λa=>.inl,m,o,by rw[e];show y.rep (λa=>.inl) (.inr rfl),h,λa z=>?_,λa z=>z⟩;rcases z with z|rfl
  .show .inl z
  .show .inr ⟨e,.inl rfl⟩
 |loc =>
  rw[show lift (.loc,u)=pure u from rfl,aq]at h;show⟨c.S,c.st,u,λa=>id,b,n,d,h,λa z=>.inl z,λa z=>z⟩
 |any =>
  rw[show lift (.any,u)=if Kw u=b8 then pure u else M.fail from rfl]at h;split at h
  .rw[aq]at h;show⟨c.S,c.st,u,λa=>id,b,n,Rep.Kw (by assumption) d,h,λa z=>.inl z,λa z=>z⟩
  .show(bu.mp h).elim
 |bor j =>
  have⟨x,st',e,I⟩:=h;rw[show lift (.bor j,u) c.st=match c.st[j]? with|some (a5 (.own,u))=>a5 (Ex.ok u,c.st.set j (a5 (.loc,u)))|_=>b6 from rfl]at e;split at e
  .rename_i w f;cases e;obtain⟨Q,A,r,J,_⟩:=b.sl j _ _ f;have p:c.σ[j]?=a5 (a5 v):=d;rw[p]at A;cases A;subst J;have⟨m,o,q⟩:=b.zu n f p;show⟨_,_,_,λa=>.inl,m,o,q,I,λa z=>?_,λa z=>?_⟩
   .rcases z with z|rfl
    .show .inl z
    .show .inr ⟨rfl,.inr (.inl ⟨j,.own,_,rfl,f,p⟩)⟩
   .rcases z with⟨i,k,u',hk,e,s⟩|⟨i,u',L,e,s,N⟩
    rotate_left 1
    .by_cases g:i=j
     .subst g;have t:i<c.st.length:=(dt.mp f).1;rw[fR t]at e;cases e
     .rw[i1 (qP g)]at e;show .inr ⟨i,u',L,e,s,N⟩
    by_cases g:i=j
    .subst g;have t:i<c.st.length:=(dt.mp f).1;rw[fR t]at e;cases e;cases hk
    .rw[i1 (qP g)]at e;show .inl ⟨i,k,u',hk,e,s⟩
  .cases e
 |_=>show d.elim
theorem iW:∀{rs:List (Kd×U)}{vs:List V}{c:Cf}{Post:List U->ay->Prop},Ok C b->Ok C c->Nx b c->cJ C b c rs vs->W (cX rs) c.st Post ->
  ∃(S':ez->Prop) (st':ay) (us:List U),(∀a,c.S a->S' a)/\Ok C {c with S:=S',st:=st' }/\Nx b {c with S:=S',st:=st' }/\ak C S' c.H us vs/\Post us st'
 |[],vs,c,Post,m,p,n,s,h=>by
  rw[show cX []=pure [] from rfl,aq]at h;show⟨c.S,c.st,[],λa=>id,p,n,s,h⟩
 |r::rs,vs,c,Post,m,p,n,s,h=>by
  have⟨v,t,rfl,J,L,N⟩:=s;rw[show cX (r::rs)=lift r >>= λu=>cX rs >>= λus=>pure (u::us) from rfl,ai]at h;have⟨S1,st1,u,s1,O,Q,d,x,T,Y⟩:=iV m p n J h;rw[ai]at x;have RM:cJ C b {c with S:=S1,st:=st1} rs t:=by
   clear h x;have y:∀(l:List (Kd×U)) (w:List V),cJ C b c l w->(r.1=.own->∀(i:Nat) g j,l[i]?=a5 g->w[i]?=a5 j->g.1=.own->j≠v)->cJ C b {c with S:=S1,st:=st1} l w:=by
    intro l;induction l with
    |nil=>intro w q _;show q
    |cons r2 l ih =>
     intro w q A;have⟨B,D,rfl,k,q2,q3⟩:=q;show⟨B,D,rfl,?_,ih D q2 (λhk i g j e1 e2 Kx=>A hk (i+1) g j (by simpa using e1) (by simpa using e2) Kx),q3⟩;have⟨k2,u2⟩:=r2;cases k2 with
     |own =>
      have⟨a,e,p1,p2,G,p4⟩:=k;show⟨a,e,p1,λz=>?_,λz=>G (Y a z),p4.mv (.up s1) λo q=>q⟩;rcases T a z with z|⟨z,z'|z'⟩
      .show p2 z
      .show A z' 0 _ B rfl rfl rfl (e.trans z.symm)
      .show G z'
     |loc=>show Rep.mv (.up s1) k
     |any=>show Rep.mv (.up λa z=>z.imp id (s1 a)) k
     |_=>show k
   show y rs t L N
  have⟨S2,st2,us,s2,Ks,n2,f,I⟩:=iW (c:={c with S:=S1,st:=st1}) m O Q RM x;rw[aq]at I;show⟨S2,st2,u::us,λa z=>s2 a (s1 a z),Ks,n2,⟨v,t,rfl,d.mv (.up s2),f⟩,I⟩
def CI(j:PA X es (LB C ms)):PE X (.Tuple es q pos) (Ka C (ms >>= λrs=>aF rs >>= λ_=>cX rs >>= λus=>if us.length<=cK then pure (.loc,.tup us) else M.fail)):=by
 rintro a s σ H Q I ⟨k,rfl,rfl,g,h⟩;show wpAny_Tuple_spliced (Kc (args j I g h pos) λus s1 l=>?_);have⟨rs,c,vs,t,i,rv,w⟩:=l;rw[ai]at w;have⟨S',st',ws,r,m,n,d,f⟩:=iW g t.ok t.nx t.rep w;split at f
 .rename_i hz;rw[aq]at f;have hl:vs.length<=cK:=by rw[<-d.len];show hz
  show⟨by rw[<-rv.length];show hl,?_⟩;have o:c.H s1.heap.objs.size=b6:=i.J_.fresh (i0 _);have p:Inv X a k.σ c.H s1:=by rw[<-t.hσ];show i
  show⟨.ref s1.heap.objs.size,upd c.H s1.heap.objs.size (.tup vs),p.laid (t':=s1.toks) (λb u e=>cL _ e) (i0 _) ⟨hl,us,rv,û _ _⟩,rfl,?_⟩;show bZ.tup (c:={c with S:=S',st:=st' }) f t.hσ m n d _ o
 .show(bu.mp f).elim
def CJ(j:PA X es (LB C ms)):PE X (.List es pos) (Ka C (ms >>= λrs=>aF rs >>= λ_=>cX rs >>= λus=>if us.length<=cK then pure (.own,.lst us) else M.fail)):=by
 rintro a s σ H Q I ⟨k,rfl,rfl,g,h⟩;show wpAny_List_spliced (Kc (args j I g h pos) λus s1 l=>?_);have⟨rs,c,vs,t,i,rv,w⟩:=l;rw[ai]at w;have⟨S',st',ws,q,m,n,d,f⟩:=iW g t.ok t.nx t.rep w;split at f
 .rename_i hz;rw[aq]at f;have hl:vs.length<=cK:=by rw[<-d.len];show hz
  show⟨by rw[<-rv.length];show hl,?_⟩;have o:c.H s1.heap.objs.size=b6:=i.J_.fresh (i0 _);have p:Inv X a k.σ c.H s1:=by rw[<-t.hσ];show i
  show⟨.ref s1.heap.objs.size,upd c.H s1.heap.objs.size (.lst vs),p.laid (t':=s1.toks) (λb u e=>cL _ e) (i0 _) ⟨hl,us,0,rv,fx _ rfl⟩,rfl,?_⟩;show bZ.list (c:={c with S:=S',st:=st' }) f t.hσ m n d _ o
 .show(bu.mp f).elim
end
section
def pw(f:X.N[i]?=a5 x)(g:Ml X.env.scope x)(l:(x==("__debug__":Str))=cc)(m:(x==("__classdict__":Str))=cc):PE X (.Name x pos) (Ka C (dn i)):=by
 show PE.weak (bU f g l m) ?_;rintro σ H Q ⟨b,rfl,rfl,c,r,st',e,h⟩;unfold dn at e;split at e
 .cases e
 .rename_i k u n hs;cases e;have⟨v,d,a⟩:=c.sl i k u hs;show⟨v,d,h b v rfl rfl c (Nx.refl b) ?_⟩;by_cases hk:k.root=b8
  .rw[Ž hk];show⟨⟨k,hk,hs⟩,d⟩
  .rw[ž hk];cases k with
   |loc=>show a
   |any=>show a
   |bor j=>show a.elim
   |J6=>show(n rfl).elim
   |_=>show absurd rfl hk
 .cases e
def iX(h:PE X e (tC v))(r:∀S H,Rep C S H u v):PE X e (Ka C (pure (.loc,u))):=by
 show PE.weak h ?_;rintro σ H Q ⟨a,rfl,rfl,b,h⟩;rw[aq]at h;show h a v rfl rfl b (Nx.refl a) (r _ _)
def bZ.root(h:bZ C b Q (.own,u) c.st)(e:c.σ=b.σ)(d:Ok C c)(n:Nx b c)(p:ez)(a:c.H p=b6)(r:cW C c.S (upd c.H p o) p u):Q (.ref p) (upd c.H p o):=by
 have⟨f,g⟩:=d.lay (o:=o) a;have⟨k,i,l,m,j⟩:=d.kl a;show h {c with H:=upd c.H p o} _ e rfl f (n.trans g) ⟨p,rfl,n.none a,i,j,r⟩
def zv(d:C.P=X.prog)(e:C.w=X.w)(r:Bool):PE X (.Dict [] [] pos) (Ka C (pure (.own,.J8 [] []))):=by
 show PE.weak qo ?_;rintro σ H Q ⟨a,rfl,rfl,b,h⟩ p c;rw[aq]at h;show bZ.root h rfl b (Nx.refl a) p c ⟨[],az,rfl,rfl⟩
def ak.K8{S:ez->Prop}(h:ak C S H us vs)(e:K8 us i=a5 u):∃v,L2.K8 vs i=a5 v/\Rep C S H u v:=by
 unfold L2.K8 at e ⊢;rw[h.len]at e;cases q:ND vs.length i with
 |none=>rw[q]at e;cases e
 |some j =>
  rw[q]at e;show h.get e
def FZ(L:C.K=X.K)(hu:X.A.units+60<L8)(hs:oM b)(t:RJ C N c x y p z)(I:Inv X d c.σ c.H s)(B:RelV p v)(D:RelV z u)(h:gI x y.2=a5 r)(q:bZ C N Q r c.st):
  d4 (fS X.prog X.w) X.A (WY a b v u) (EP X d c.σ Q) X.xe s:=by
 obtain⟨G,f,n,J,ty,-⟩:=t;have⟨ky,uy⟩:=y
 dsimp only at h ty
 unfold gI at h;split at h
 .rename_i k xs i;rw[d5]at h;have⟨w,e,rfl⟩:=h;have⟨a',vs,ex,j,l⟩:=J.list f;have⟨vw,m,o⟩:=l.K8 e;show BX a b d s c.σ c.H p z v u Q I B D ⟨a',vs,i,vw,ex,ty.int f,L▸j,m,q c vw G rfl f n (aN.item o)⟩ (hs _ _)
 .rename_i k xs i;rw[d5]at h;have⟨w,e,rfl⟩:=h;have⟨a',vs,ex,j,l⟩:=J.tuple f;have⟨vw,m,o⟩:=l.K8 e;rw[L]at j;show oN a b d s c.σ c.H p z v u Q I B D ⟨a',vs,i,vw,ex,ty.int f,j,m,q c vw G rfl f n (aN.item o)⟩ (hs _ _)
 .split at h
  .rw[d5]at h;have⟨w,e,rfl⟩:=h;show jn a b d s c.σ c.H p z v u Q I B D ⟨_,_,w,J.str f,ty.int f,by assumption,e,q c _ G rfl f n rfl⟩ (hs _ _)
  .cases h
 .rename_i k ks us x;rw[d5]at h;have⟨w,e,rfl⟩:=h;have⟨a',kvs,ex,j,l,O⟩:=J.dict f;have⟨vw,m,o⟩:=(da (x:=x) l O).1 w e;have T:=ty.str f;subst ex T;cases B;have g:eG c.H a' (.str x) (a5 vw):=by rw[<-m];show eG.k (k:=l0 x) j
  show ŷ (ops:=[.ref a',u]) (jR I g) PySem.F.slot_dict_getitem.lookup (nq ⋯ I g D λw' s3 Y Mn=>⟨vw,c.H,Y,Mn,q c vw G rfl f n (aN.item o)⟩) (hs _ _)
 .cases h
def CK(f:C.K=X.K)(g:X.A.units+60<L8)(hs:oM b)(i:PE X a (Ka C j))(k:PE X b (Ka C l)):PE X (.Subscript a b pos) (Ka C (j >>= λx=>l >>= λy=>aF [x,y] >>= λ_=>M.Kp (gI x y.2))):=by
 rintro d s σ H Q I ⟨B,rfl,rfl,m,h⟩;show ĵ (two i k I m h λx y c D G v u s2 t n o p w=>?_);have⟨r,e,q⟩:=bJ.mp w;show Kc (FZ f g hs t n o p e q) λ_ _ z=>by rw[t.hσ]at z;show z
def ak.cut{S:ez->Prop}(h:ak C S H us vs)(lo a:Option Int):ak C S H (TM.cut us lo a) (wR vs lo a):=by
 unfold TM.cut wR;rw[h.len];show(h.drop _).take _
end
section
end
section
variable{X:Cx}{C:Ct}{pins:List (ez×Obj)}{s:eH}{c0 c c1:Cf}
variable{a b d e:mx}{es:List mx}{m ma mb md:M (Kd×U)}{ms:M (List (Kd×U))}{ta tb:M Bool}{pos p p2:Pos}
abbrev tO(C:Ct)(m:M (Option Int)):TO:=λσ H Q=>∃c0:Cf,c0.σ=σ/\c0.H=H/\Ok C c0/\W m c0.st λi st'=>∀c,c.σ=σ->c.st=st'->Ok C c->Nx c0 c->Q i c.H
def xG:PO X b6 (tO C (pure b6)):=by
 rintro pins s σ H Q I ⟨c0,rfl,rfl,f,h⟩;rw[aq]at h;show BU pins s c0.σ c0.H Q I (h c0 rfl rfl f (Nx.refl c0))
def xH(f:PE X a (Ka C ma)):PO X (a5 a) (tO C (ma >>= FT)):=by
 rintro pins s σ H Q I ⟨c0,rfl,rfl,g,h⟩;show BV f pins s c0.σ c0.H Q I (aV g h λx c v t w=>?_);have⟨k,u⟩:=x;unfold FT at w;split at w
 .rename_i i e
  dsimp only at e
  subst e;rw[aq]at w;show⟨i,t.rx.int t.ok,w c t.hσ rfl t.ok t.nx⟩
 .show(bu.mp w).elim
def F0{lo f:Option Int}(l:C.K=X.K)(i:c.σ=c0.σ)(g:Ok C c)(n:Nx c0 c)(j:aN C c0 c x.1 x.2 k)(h:lC x lo f=a5 r)(q:bZ C c0 Q r c.st):
  HE X.K k lo f c.H Q\/HJ k lo f c.H Q:=by
 unfold lC at h;split at h
 .split at h
  .rename_i o;cases h;have⟨a',vs,ex,t,u⟩:=j.list g;show .inl ⟨a',vs,ex,l▸t,λp v=>q.list i g n ((dO o u).cut lo f) p v⟩
  .cases h
 .split at h
  .cases h;show .inr ⟨_,j.str g,by assumption,q.flat i g n rfl⟩
  .cases h
 .cases h
def CL{lo g:Option mx}(n:C.K=X.K)(o:PE X a (Ka C ma))(hl:PO X lo (tO C ml))(u:PO X g (tO C y)):
  PE X (.Subscript a (.Slice lo g b6 p2) pos) (Ka C (ma >>= λx=>ml >>= λl=>y >>= λh=>aF [x] >>= λ_=>M.Kp (lC x l h))):=by
 show PE.weak (yw (OX.or BY Fo) o hl u) ?_;rintro σ H Q ⟨c0,rfl,rfl,z,h⟩;show aV z h λx c v t w=>?_;rw[ai]at w;show⟨c,t.hσ,rfl,t.ok,w.mono λl st2 i A B D G I=>?_⟩;subst D;rw[ai]at i;show⟨A,B,rfl,G,i.mono λT Y f J j L N O=>?_⟩;subst L;rw[ai,cn]at f;have⟨r,e,q⟩:=bJ.mp f.2;have k:Nx c J:=I.trans O;show F0 n j N (t.nx.trans k) ((t.rx.w.on t.ok k (j.trans t.hσ.symm)).t f.1) e q
end
section
variable{X:Cx}{C:Ct}{pins:List (ez×Obj)}{s:eH}{c0 c c1:Cf}
variable{a b d e:mx}{es:List mx}{m ma mb md:M (Kd×U)}{ms:M (List (Kd×U))}{ta tb:M Bool}{pos p p2:Pos}
abbrev Bf.val:Bf->dV
 |.len=>.builtin "len"|.sorted=>.builtin "sorted"|.repr=>.builtin "repr"|.max=>.builtin "max"|.min=>.builtin "min"|.all=>.builtin "all"|.any=>.builtin "any"
 |.list=>.type "list"|.tuple=>.type "tuple"|.str=>.type "str"|.int=>.type "int"
 |.dict=>.type "dict"
 |.sum=>.builtin "sum"
abbrev Bf.name:Bf->Str
 |.len=>"len"|.sorted=>"sorted"|.repr=>"repr"|.max=>"max"|.min=>"min"|.all=>"all"|.any=>"any"
 |.list=>"list"|.tuple=>"tuple"|.str=>"str"|.int=>"int"
 |.dict=>"dict"
 |.sum=>"sum"
def call_of(g:iG X f r)(I:Inv X pins c.σ c.H s)(rv:Vals vs us)(h:r vs c.H Q):d4 (fS X.prog X.w) X.A (Oz f us) (EP X pins c.σ Q) X.xe s:=g pins s c.σ c.H vs us Q I rv h
abbrev RO:U->V
 |.str x=>.str x
 |.int n=>.int n
 |_=>.ref 0
def CM{S:ez->Prop}(h:QH u=b8):Rep C S H u (RO u):=by
 cases u<;>first|rfl|cases h
theorem ak.W7{S:ez->Prop}:∀{ps:List (Str×U)},(∀p∈ps,QH p.2=b8)->ak C S H (ps.map (·.2)) (ps.map λp=>RO p.2)
 |[],_=>rfl
 |p::ps,h=>⟨_,_,rfl,CM (h p (by simp)),ak.W7 λq f=>h q (by simp[f])⟩
theorem ak.W8{S:ez->Prop}(k:C.K=X.K):∀{us:List U}{ps:List (Str×U)}{vs:List V},lD us=a5 ps->ak C S H us vs->(∀p∈ps,QH p.2=b8)/\∃as:List ez,vs=as.map V.ref/\as.length=ps.length/\∀(j:Nat) a p,as[j]?=a5 a->ps[j]?=a5 p->KN X.K H a [.str p.1,RO p.2]
 |[],ps,vs,e,h=>by
  cases e;cases h;show⟨by simp,[],rfl,rfl,by simp⟩
 |u::us,ps,vs,e,h=>by
  have⟨v,r,rfl,o,q⟩:=h;unfold lD at e;split at e
  .rename_i f;cases f
  .rename_i x y N f;cases f;split at e
   .rename_i l;rw[d5]at e;have⟨O,e,rfl⟩:=e;have⟨t,as,rfl,w,z⟩:=ak.W8 k e q;have⟨a,ws,rfl,n,A⟩:=o;have⟨Q,T,rfl,B,D⟩:=A;have⟨G,Y,rfl,I,J⟩:=D;cases B;cases J;have L:G=RO y:=by
     cases y<;>first|show I|cases l
    subst L;rw[k]at n;show⟨λp hp=>?_,a::as,rfl,by simp[w],λj b p g i=>?_⟩
    .rcases d6.mp hp with rfl|hp
     .show l
     .show t p hp
    .cases j with
     |zero=>simp at g i;subst g i;show n
     |succ j=>show z j b p (by simpa using g) (by simpa using i)
   .cases e
  .cases e
theorem ak.vj{S:ez->Prop}{f:α->U}{g:α->V}:∀{l:List α},(∀x∈l,Rep C S H (f x) (g x))->ak C S H (l.map f) (l.map g)
 |[],_=>rfl
 |x::l,h=>⟨g x,l.map g,rfl,h x (by simp),ak.vj λy i=>h y (by simp[i])⟩
theorem ak.W9{S:ez->Prop}(l:C.K=X.K):∀{us:List U}{ks:List Str}{vs:List V},nL us=a5 ks->ak C S H us vs->∃as:List ez,vs=as.map V.ref/\as.length=ks.length/\∀(j:Nat) a k,as[j]?=a5 a->ks[j]?=a5 k->∃b,KN X.K H a [.str k,.int b]
 |[],ks,vs,e,h=>by
  cases e;cases h;show⟨[],rfl,rfl,by simp⟩
 |u::us,ks,vs,e,h=>by
  have⟨v,r,rfl,o,q⟩:=h;unfold nL at e;split at e
  .rename_i f;cases f
  .rename_i x nn G f;cases f;rw[d5]at e;have⟨I,e,rfl⟩:=e;have⟨as,rfl,t,w⟩:=ak.W9 l e q;have⟨a,ws,rfl,n,y⟩:=o;have⟨J,L,rfl,z,A⟩:=y;have⟨N,O,rfl,B,D⟩:=A;cases z;cases D;cases B;rw[l]at n;show⟨a::as,rfl,by simp[t],λj c p g i=>?_⟩;cases j with
   |zero=>simp at g i;subst g i;show⟨_,n⟩
   |succ j=>show w j c p (by simpa using g) (by simpa using i)
  .cases e
def bK(h:gJ f rs=a5 r):∃x,rs=[x]/\f x=a5 r:=by
 unfold gJ at h;split at h
 .show⟨_,rfl,h⟩
 .cases h
def Eb(L:X.calm=b8)(B:C.K=X.K)(S6:X.A.guards=a5 [])(QJ:X.A.units+60<L8)(t:Ms C c0 c rs vs)(I:Inv X pins c.σ c.H s)(rv:Vals vs us)(h:Md f rs=a5 r)(q:bZ C c0 Q r c.st):
  d4 (fS X.prog X.w) X.A (Oz f.val us) (EP X pins c.σ Q) X.xe s:=by
 have z:=t.hσ;have g:=t.ok;have n:=t.nx;cases f with
 |len =>
  have⟨x,rfl,hz⟩:=bK (f:=λx=>(FH x.2).map λ(n:Nat)=>(Kd.loc,U.int (n:Int))) h;clear h;have h:=hz;clear hz;rw[d5]at h;have⟨k,e,rfl⟩:=h;have⟨v,rfl,y⟩:=t.one;have⟨kx,T⟩:=x;unfold FH at e;split at e
  .rename_i xs D;have D:T=.lst xs:=D;subst D;cases e;have⟨a',ws,ex,l,o⟩:=y.list g;rw[o.len]at q;show call_of iI I rv ⟨a',ws,by rw[ex],.inl (B▸l),q.flat z g n rfl⟩
  .rename_i xs D;have D:T=.tup xs:=D;subst D;cases e;have⟨a',ws,ex,l,o⟩:=y.tuple g;rw[B]at l;rw[o.len]at q;show call_of iI I rv ⟨a',ws,by rw[ex],.inr l,q.flat z g n rfl⟩
  .rename_i xs D;have D:T=.str xs:=D;subst D;split at e
   .cases e;show call_of oP I rv ⟨_,by rw[y.str g],by assumption,q.flat z g n rfl⟩
   .cases e
  .cases e
 |sorted =>
  have⟨x,rfl,hz⟩:=bK (f:=FI) h;clear h;have h:=hz;clear hz;have⟨v,rfl,y⟩:=t.one;unfold FI at h;split at h
  .have⟨a',ws,ex,l,o⟩:=y.list g;unfold xy at h;split at h
   .rename_i ss e;have J:=cM e;subst J;rw[ak.strs]at o;subst o;split at h
    .cases h;show call_of jU I rv ⟨a',ss,by rw[ex],.inl (B▸l),by assumption,λp G=>q.list z g n (ak.strs.mpr rfl) p G⟩
    .cases h
   .unfold Cp at h;have⟨ks,e,h⟩:=oT.mp h;split at h
    .rename_i hh;cases h;subst ex;have⟨u,rfl,Y⟩:=vals1 rv;cases Y;have⟨as,rfl,hl,ht⟩:=ak.W9 B e o;have N:=dO hh.2.2 o;show sF I (B▸l) hl ht hh.2.1 ⋯ λp G=>q.list z g n (ak.vj λi hi=>?_) p G;have LL:i<as.length:=by
      have:=rr.mp ((cj _).mem_iff.mp hi);lia
     have Zt:=N.len;rw[c2]at Zt;have⟨w,hw,ab⟩:=N.get (l' (show i < _ by lia));have e1:w=V.ref (as.getD i 0):=by
      have:(as.map V.ref)[i]?=a5 (V.ref (as.getD i 0)):=by simp[w6,LL]
      rw[this]at hw;cases hw;rfl
     rw[<-e1,<-Ø];show ab
    .cases h
  .obtain⟨a',kvs,ex,l,o,_⟩:=y.dict g;split at h
   .cases h;show call_of (jv L) I rv ⟨a',kvs,_,by rw[ex],l,o,by assumption,λp G=>q.list z g n (ak.strs.mpr rfl) p G⟩
   .cases h
  .rw[oT]at h;have⟨ss,e,h⟩:=h;have J:=cM e;subst J;have⟨a',ws,ex,l,o⟩:=y.tuple g;rw[B]at l;rw[ak.strs]at o;subst o;split at h
   .cases h;show call_of jU I rv ⟨a',ss,by rw[ex],.inr l,by assumption,λp G=>q.list z g n (ak.strs.mpr rfl) p G⟩
   .cases h
  .cases h
 |tuple =>
  have⟨x,rfl,hz⟩:=bK (f:=FJ) h;clear h;have h:=hz;clear hz;have⟨v,rfl,y⟩:=t.one;unfold FJ at h;split at h
  .have⟨a',ws,ex,l,o⟩:=y.list g;cases h;show call_of gO I rv ⟨a',ws,by rw[ex],.inl ⟨B▸l,λp G=>q.tupK z g n o p G⟩⟩
  .have⟨a',ws,ex,l,o⟩:=y.tuple g;have Nl:=l;rw[B]at Nl;cases h;show call_of gO I rv ⟨a',ws,by rw[ex],.inr ⟨Nl,q c (.ref a') z rfl g n (aN.item ⟨a',ws,rfl,l,o⟩)⟩⟩
  .cases h
 |str =>
  have⟨x,rfl,hz⟩:=bK (f:=Cq) h;clear h;have h:=hz;clear hz;have⟨v,rfl,y⟩:=t.one;unfold Cq at h;split at h
  .split at h
   .cases h;show call_of oI I rv ⟨_,by rw[y.int g],by assumption,q.flat z g n rfl⟩
   .cases h
  .cases h
 |all =>
  have⟨x,rfl,hz⟩:=bK (f:=FK) h;clear h;have h:=hz;clear hz;have⟨v,rfl,y⟩:=t.one;unfold FK at h;split at h
  .rw[d5]at h;have⟨bs,e,rfl⟩:=h;have J:=lI e;subst J;have⟨a',ws,ex,l,o⟩:=y.list g;have:=o.W4;subst this;show call_of (yI L) I rv ⟨a',bs,by rw[ex],B▸l,q.flat z g n rfl⟩
  .cases h
 |sum =>
  have⟨x,rfl,hz⟩:=bK (f:=FN) h;clear h;have h:=hz;clear hz;have⟨v,rfl,y⟩:=t.one;unfold FN at h;split at h
  .rw[d5]at h;have⟨ns,e,rfl⟩:=h;have J:=gb e;subst J;have⟨a',ws,ex,l,o⟩:=y.list g;have N:=ak.ints o;subst N;show call_of (y6 L) I rv ⟨a',ns,by rw[ex],B▸l,q.flat z g n rfl⟩
  .cases h
 |dict =>
  have⟨x,rfl,hz⟩:=bK (f:=FL) h;clear h;have h:=hz;clear hz;have⟨v,rfl,y⟩:=t.one;have⟨u,rfl,Y⟩:=vals1 rv;unfold FL at h;split at h
  .have⟨ps,e,h⟩:=oT.mp h;have⟨a',ws,ex,l,o⟩:=y.list g;subst ex;cases Y;have⟨hf,as,rfl,hl,ht⟩:=ak.W8 B e o;split at h
   .cases h;show Ci (ps:=ps.map λp=>(p.1,RO p.2)) L I (B▸l) (by rw[c2];show hl) (λj a p e1 O=>by
     rw[i7,d5]at O;have⟨p0,O,rfl⟩:=O;show ht j a p0 e1 O) (by rw[i9];assumption) λd hd=>q.root z g n d hd ⟨_,az,by rw[i9,i9,i9];rfl,by rw[i9,i9];show ak.W7 hf⟩
   .cases h
  .cases h
 |_=>cases h
def CN{id:String}(g:X.calm=b8)(i:C.K=X.K)(j:X.A.guards=a5 [])(k:X.A.units+60<L8)(l:f.val=.builtin id)(n:Gl X x)(o:X.mg x=b6)(u:u7 x=a5 (.builtin id))(v:x≠"__name__")(y:(x==("__debug__":Str))=cc)
  (B:PA X (e::es) (LB C ms)) (D:i2 (e::es) X.env=(cc,t6 e X.env)::i2 es X.env) (G:(zy pos (i2 es X.env)).any (·.1)=cc) :
  PE X (.Call (.Name x p) (e::es) [] pos) (Ka C (ms >>= λrs=>aF rs >>= λ_=>M.Kp (Md f rs))):=by
 rintro pins s σ H Q I ⟨c0,rfl,rfl,J,h⟩;show ti (c8 I n o u ?_ v y);show Vm (Kc (args B I J h pos) λus s1 ⟨rs,c,vs,t,L,rv,w⟩=>?_) D G;have⟨r,e,q⟩:=bJ.mp w;have z:=Eb g i j k t L rv e q;rw[l,t.hσ]at z;show z
def CO(g:X.calm=b8)(i:C.K=X.K)(j:X.A.guards=a5 [])(k:X.A.units+60<L8)(l:f.val=.type T)(n:Gl X x)(o:X.mg x=b6)(u:u7 x=a5 (.type T))(v:x≠"__name__")(y:(x==("__debug__":Str))=cc)
  (B:PA X (e::es) (LB C ms)) (D:i2 (e::es) X.env=(cc,t6 e X.env)::i2 es X.env) (G:(zy pos (i2 es X.env)).any (·.1)=cc) :
  PE X (.Call (.Name x p) (e::es) [] pos) (Ka C (ms >>= λrs=>aF rs >>= λ_=>M.Kp (Md f rs))):=by
 rintro pins s σ H Q I ⟨c0,rfl,rfl,J,h⟩;show ti (c8 I n o u ?_ v y);show Ko (Kc (args B I J h pos) λus s1 ⟨rs,c,vs,t,L,rv,w⟩=>?_) D G;have⟨r,e,q⟩:=bJ.mp w;have z:=Eb g i j k t L rv e q;rw[l,t.hσ]at z;show z
abbrev PJ(X:Cx)(out:Str)(es:List mx)(t:TE):Prop :=
 ∀(pins:List (ez×Obj)) (s:eH) (σ:L2.St) (H:Hp) (Q:VK),Inv X pins σ H s->t σ H Q->d4 (fS X.prog X.w) X.A (joinParts out (evalEach es X.env)) (EP X pins σ Q) X.xe s
def F5(hz:out.length<=cK):PJ X out [] (Ka C (pure (.loc,.str out))):=by
 rintro pins s σ H Q I ⟨c0,rfl,rfl,f,h⟩;rw[aq]at h;show joinParts_nil ⟨.str out,c0.H,I.tok _,⟨_,rfl⟩,h c0 (.str out) rfl rfl f (Nx.refl c0) rfl⟩ hz
def F6(f:PJ X (out++y) es (Ka C m))(hz:(out++y).length<=cK):PJ X out (.Constant (.str y) o p::es) (Ka C m):=by
 intro pins s σ H Q I h;show Ť (Ź (Kc (rX (X:=X) pins s σ H (λv H'=>v=.str y/\H'=H) I ⟨rfl,rfl⟩) λv s1 g=>?_));have⟨x,i,j,k,l,n⟩:=g;subst l n;have⟨t,rfl⟩:=k;show⟨hz,f pins s1 σ i Q j h⟩
def F7{g:Str->M (Kd×U)}(D:PE X a (Ka C ma))(G:∀y,y.length<=cK->PJ X y es (Ka C (g y))):PJ X out (.FormattedValue a (-1) b6 p::es) (Ka C (ma >>= λx=>M.Kp (qU x.2 out) >>= λy=>g y)):=by
 rintro pins s σ H Q I ⟨c0,rfl,rfl,J,h⟩;show Ť (Ź (FormattedValue_plain (Kc (D pins s c0.σ c0.H (λv H'=>∃x c y,M5 C c0 c x v/\c.H=H'/\qU x.2 out=a5 y/\W (g y) c.st (bZ C c0 Q)) I ?_) λv s1 ⟨o,H1,z,B,x,c,y,t,e,f,w⟩=>?_)))
 .show⟨c0,rfl,rfl,J,?_⟩;rw[ai]at h;show W.mono h λx st' w c v i hs L n r=>?_;subst hs;rw[ai]at w;have⟨y,e,w⟩:=bJ.mp w;show⟨x,c,y,⟨i,L,n,r⟩,rfl,e,w⟩
 .subst e;have⟨k,u⟩:=x;have⟨i,j,n,r⟩:=t
  dsimp only at f r
  have go:∀s2:eH,Inv X pins c0.σ c.H s2->y.length<=cK->d4 (fS X.prog X.w) X.A (joinParts y (evalEach es X.env)) (EP X pins c0.σ Q) X.xe s2:=λs2 N hz =>
   G y hz pins s2 c0.σ c.H Q N ⟨c,i,rfl,j,W.mono w λr' st' q O T Y h2 h3 h4 h5=>q O T Y h2 h3 (n.trans h4) (h5.from n)⟩
  unfold qU at f;split at f
  .split at f
   .rename_i hz;cases f;have ev:o=_:=r.str j;subst ev;have⟨l,rfl⟩:=B;show formatField_str (λt' l=>⟨hz.2,go _ (z.tok l) hz.2⟩) hz.1
   .cases f
  .split at f
   .rename_i hz;cases f;have ev:o=_:=r.int j;subst ev;have⟨l,rfl⟩:=B;show formatField_int_small hz.1 ⟨hz.2,go _ (z.tok _) hz.2⟩
   .cases f
  .cases f
def CP(h:PJ X nH (f::g::es) (Ka C m)):PE X (.JoinedStr (f::g::es) pos) (Ka C m):=λpins s σ H Q I q=>JoinedStr_many (h pins s σ H Q I q)
@[reducible]def OM(P:t8)(w:vl)(K:PySem.W.Frag)(H:Hp)(f:ez->Prop):Ct:=⟨P,w,K,H,f,λ_=>False,λ_ _=>False⟩
structure Back(C:Ct)(H H':Hp)(S':ez->Prop)(k:Kd)(u:U)(v:V):Prop where
 same:qm H H'
 new:∀a,S' a->H a=b6/\∃o,H' a=a5 o
 own:k=.own->∃r,v=.ref r/\H r=b6/\¬S' r/\cW C S' H' r u
 loc:k=.loc->Rep C S' H' u v
 any:k=.any->Rep C (PS C S') H' u v
abbrev spT(P:t8)(w:vl)(K:PySem.W.Frag)(F:List U->Option (Ex (Kd×U)))(g:Nat):Sp:=λvs H Q E=>vs.length=g/\∃us r f,F us=a5 r/\(∀a,f a->L6 H a)/\ak (OM P w K H f) f H us vs/\match r with
 |.ok (k,u)=>(k=.own\/k=.loc\/k=.any)/\∀v H' S',Back (OM P w K H f) H H' S' k u v->Q v H'
 |.exc c=>∀C H',PySem.W.nsIn K ko c=a5 (a5 (.ref C))->qm H H'->E (.ref C) b6 H'
def Ms.read(t:Ms C c0 c rs vs):ak C (L6 c.H) c.H (rs.map (·.2)) vs:=by
 have f:∀(l:List (Kd×U)) (w:List V),cJ C c0 c l w->bo l c.st->ak C (L6 c.H) c.H (l.map (·.2)) w:=by
  intro l;induction l with
  |nil=>intro w h _;show h
  |cons r l g =>
   intro w h hs;obtain⟨v,t',rfl,i,j,_⟩:=h;rw[eY]at hs;show⟨v,t',rfl,(i.t hs.1).read t.ok,g t' j hs.2⟩
 show f rs vs t.rep t.OK
def Back.here(hk:k=.own\/k=.loc)(i:c.σ=c0.σ)(f:Ok C c)(n:Nx c0 c)(q:j.Eqv C)(h:Back j c.H H' S' k u v)(w:bZ C c0 Q (k,u) c.st):Q v H':=by
 have⟨l,t⟩:=f.grow (S':=λa=>c.S a\/S' a) h.same (λa z=>z.imp id λz=>h.new a z) λa=>.inl;have x:=n.trans t;show w {c with H:=H',S:=λa=>c.S a\/S' a} v i rfl l x ?_;rcases hk with rfl|rfl
 .have⟨r,e,g,y,A⟩:=h.own rfl;have⟨G,B,I,J,D⟩:=f.kl g;show⟨r,e,n.none g,λz=>z.elim B y,D,(A.cg q).mv (.up λa=>.inr) λo q=>q⟩
 .show((h.loc rfl).cg q).mv (.up λa=>.inr)
def zw(o:C.P=X.prog)(x:C.w=X.w)(y:C.K=X.K)(L:Γ f=F)(hk:∀us k u,F us=a5 (.ok (k,u))->(k=.own\/k=.loc\/k=.any)/\us.length=B)
  (G:jm X.prog X.w X.K X.mg X.base (PN X.prog X.w) k fa N ps (spT X.prog X.w X.K F B)) (O:fJ k X.A) (T:Gl X f) (Y:X.mg f=a5 (.ref fa)) (PM:PySem.W.keepIn X.K (.ref fa)=b8) (j:Binds X.K N ps [])
  (Ni:(f==("__debug__":Str))=cc) (ha:PA X (e::es) (LB C ms)) (he:i2 (e::es) X.env=(cc,t6 e X.env)::i2 es X.env) (KD:(zy pos (i2 es X.env)).any (·.1)=cc) :
  PE X (.Call (.Name f p) (e::es) [] pos) (Ka C (ms >>= λrs=>aF rs >>= λ_=>lE Γ f (rs.map (·.2)))):=by
 rintro pins s σ H Q I ⟨c0,rfl,rfl,ok,h⟩;show ti (fg I T Y ?_ Ni);show PySem.W.callWith_K (h₀:=X.base) I.ok.mod.Qg PM (Kc (args ha I ok h pos) λus s1 ⟨rs,c,vs,t,D,rv,w⟩=>⟨D.Nz,?_⟩) he KD;have⟨r,st',g,q⟩:=w;unfold lE at g;rw[L]at g;cases i:F (rs.map (·.2)) with
 |none=>rw[i]at g;cases g
 |some r' =>
  rw[i]at g;split at g
  .cases g
  .rename_i z;cases z
  rename_i Zu e3;cases e3;cases g;have⟨l,u⟩:=r;have⟨k0,k2⟩:=hk _ _ _ i;have k1:l=.own\/l=.loc:=by
   rcases k0 with z|z|z
   .show .inl z
   .show .inr z
   .subst z;show(Zu u rfl).elim
  have n:C.Eqv (OM X.prog X.w X.K c.H (L6 c.H)):=⟨o,x,y⟩
  have MR:(OM X.prog X.w X.K c.H (L6 c.H)).Eqv C:=⟨o.symm,x.symm,y.symm⟩
  have J:=t.read;have LU:spT X.prog X.w X.K F B vs c.H (λv H'=>Q v H') E0:=⟨by rw[<-J.len];show k2,rs.map (·.2),.ok (l,u),L6 c.H,i,λ_ z=>z,J.cg n,k0,λv H' S' j=>j.here k1 t.hσ t.ok t.nx MR q⟩
  have z:=yu (Q:=Q) G O j .nil HM D rv (by rw[ro];show LU);rw[t.hσ]at z;show z
end
section
abbrev Mf.id:Mf->String
 |.split=>"str.split"|.join=>"str.join"|.partition=>"str.partition"|.endswith=>"str.endswith"
abbrev Mf.name:Mf->Str
 |.split=>"split"|.join=>"join"|.partition=>"partition"|.endswith=>"endswith"
def zx(h:mT f u rs=a5 r):∃x,u=.str x:=by
 unfold mT at h;split at h
 .show⟨_,rfl⟩
 .cases h
def F8(l:C.K=X.K)(t:Ms C b c (x::rs) (d::vs))(I:Inv X a c.σ c.H s)(m:RelV d v)(rv:Vals vs us)(h:mT f x.2 rs=a5 r)(q:bZ C b Q r c.st):
  d4 (fS X.prog X.w) X.A (Oz (.builtin f.id) (v::us)) (EP X a c.σ Q) X.xe s:=by
 have o:=t.hσ;have g:=t.ok;have n:=t.nx;have⟨p,u⟩:=x;have hs:=eY.mp t.OK;obtain⟨G,J,y,i,j,-⟩:=t.rep;cases y;have z:aN C b c p u d:=i.t hs.1;have one:∀{r:Kd×U},cJ C b c [r] vs->bo [r] c.st->∃v,vs=[v]/\aN C b c r.1 r.2 v:=λ{r} h s=>by
  obtain⟨v,t',rfl,i,j,_⟩:=h;cases j;show⟨v,rfl,i.t s⟩
 dsimp only at h
 unfold mT at h;split at h
 .rw[oT]at h;have⟨ss,e,h⟩:=h;have B:=cM e;subst B;have⟨w,rfl,ty⟩:=one j hs.2;have⟨a',ws,ex,D,k⟩:=ty.list g;rw[ak.strs]at k;subst k;split at h
  .cases h;show B7 a s c.σ c.H d [w] v us Q I m rv ⟨_,a',ss,z.str g,by rw[ex],l▸D,by assumption,q.flat o g n rfl⟩
  .cases h
 .cases h
def CQ(O:C.K=X.K)(slot:Slot "str" name f.id)(T:ī (.builtin f.id)=pure (.type "method_descriptor"))(ho:PE X o (Ka C m))(Y:PA X (e::es) (LB C ms))
  (Lm:Qd o name X.env (t6 o X.env)=t6 o X.env)
  (Ln:((zy g (i2 (e::es) X.env)).all (λx=>!x.1)&&(RC g (ML [] X.env)).all (λx=>x.1.isSome)
   && c4 ((e::es).length+([]:List O3).length+(if ([]:List O3).isEmpty then 0 else 1)<30))=b8)
  (Kh:(k.endLine==g.line)=b8) (hs:i2 (e::es) X.env=(cc,t6 e X.env)::i2 es X.env) (Lf:(zy g (i2 es X.env)).any (·.1)=cc) :
  PE X (.Call (.Attribute o name k) (e::es) [] g) (Ka C (m >>= λx=>ms >>= λrs=>aF (x::rs) >>= λ_=>M.Kp (mT f x.2 rs))):=by
 rintro a s σ H Q I ⟨b,rfl,rfl,ok,h⟩;show ê Lm Ln Kh rfl (Kc (ho a s b.σ b.H (λl y=>∃x d,d.H=y/\M5 C b d x l/\W (ms >>= λrs=>aF (x::rs) >>= λ_=>M.Kp (mT f x.2 rs)) d.st (bZ C b Q)) I (aV ok h λx c v t w=>⟨x,c,rfl,t,w⟩)) ?_);rintro v s1 ⟨l,y,A,B,x,d,rfl,t,w⟩;have P0:∃z,x.2=.str z:=by
  rw[ai]at w;obtain⟨rs,st2,_,w⟩:=w;rw[ai]at w;obtain⟨_,KS,_,w⟩:=w;obtain⟨r,e,_⟩:=bJ.mp w;show zx e
 have⟨z,hz⟩:=P0;have D:=t.rx;rw[hz]at D;have ev:=D.str t.ok;have ty:Sv X.K "str" l d.H:=by rw[ev];rfl
 have⟨h1,h2⟩:=oQ A B ty;show⟨"str",f.id,PySem.F.plainAttrs_str,slot,T,h1,h2,?_⟩;rw[ai]at w;have G:=Y g a s1 b.σ d.H (λvs J=>∃rs j,j.H=J/\Ms C b j (x::rs) (l::vs)/\W (M.Kp (mT f x.2 rs)) j.st (bZ C b Q)) A ⟨d,t.hσ,rfl,t.ok,w.mono λrs st2 p j vs L e4 Ks N n=>by
  rw[ai,cn]at p;subst e4;show⟨rs,j,rfl,⟨L,Ks,t.nx.trans N,⟨l,vs,rfl,t.rx.w.on t.ok N (L.trans t.hσ.symm),n.from t.nx,λhk i r' v' e5 e6 Kx=>pv t.rx.w (n.get e5 e6) hk Kx⟩,p.1⟩,p.2⟩⟩
 rw[hs]at G ⊢;show y4 (by change(cc||(zy g (i2 es X.env)).any (·.1))=cc;rw[Lf]<;>rfl) (Mm ?_);show Kc G ?_;rintro us s2 ⟨vs,J,I2,n,rs,j,rfl,u,w2⟩;have⟨r,e,q⟩:=bJ.mp w2;have z:=F8 O u (by rw[u.hσ];show I2) B n e q;rw[u.hσ]at z;show z
end
section
variable{X:Cx}{C:Ct}{pins:List (ez×Obj)}{s:eH}{c0 c c1:Cf}
variable{e:mx}{es:List mx}{ms:M (List (Kd×U))}{pos p p2 pos2:Pos}
abbrev B2.out:B2->dV
 |.NR=>.type "tuple"|.LZ=>.type "list"|.sset=>.builtin "sorted"|.mL=>.builtin "len"
abbrev B2.S7:B2->dV
 |.NR=>.type "reversed"|.LZ=>.type "reversed"|.sset=>.type "set"|.mL=>.type "set"
abbrev B2.pz:B2->Str
 |.NR=>"tuple"|.LZ=>"list"|.sset=>"sorted"|.mL=>"len"
abbrev B2.iY:B2->Str
 |.NR=>"reversed"|.LZ=>"reversed"|.sset=>"set"|.mL=>"set"
theorem ak.rev{S:ez->Prop}:∀{us:List U}{vs:List V},ak C S H us vs->ak C S H us.reverse vs.reverse
 |[],vs,h=>by cases h;show rfl
 |u::us,vs,h=>by
  have⟨v,r,rfl,a,b⟩:=h;rw[T8,T8];show(ak.rev b).append ⟨v,[],rfl,a,rfl⟩
def nM(i:C.K=X.K)(j:Ok C c)(l:aN C c0 c k u v)(h:iR u=a5 ss):∃a b,v=.ref a/\(Kz X.K c.H a (b.map V.str)\/KN X.K c.H a (b.map V.str))/\b.length+1<y1/\ss=aJ b:=by
 unfold iR at h;split at h
 .rw[oT]at h;have⟨b,e,h⟩:=h;have g:=cM e;subst g;have⟨a',ws,ex,f,d⟩:=l.list j;rw[ak.strs]at d;subst d;split at h
  .cases h;show⟨a',b,ex,.inl (i▸f),by assumption,rfl⟩
  .cases h
 .rw[oT]at h;have⟨b,e,h⟩:=h;have g:=cM e;subst g;have⟨a',ws,ex,f,d⟩:=l.tuple j;rw[ak.strs]at d;subst d;rw[i]at f;split at h
  .cases h;show⟨a',b,ex,.inr f,by assumption,rfl⟩
  .cases h
 .cases h
def F9(d:X.calm=b8)(k:C.K=X.K)(t:Ms C c0 c rs vs)(I:Inv X pins c.σ c.H s)(rv:Vals vs us)(h:qN f rs=a5 r)(q:bZ C c0 Q r c.st):
  d4 (fS X.prog X.w) X.A (Oz f.S7 us) (λv s1=>d4 (fS X.prog X.w) X.A (Oz f.out [v]) (EP X pins c.σ Q) X.xe s1) X.xe s:=by
 have m:=t.hσ;have a:=t.ok;have n:=t.nx;cases f with
 |LZ =>
  have⟨x,rfl,hz⟩:=bK (f:=FO) h;clear h;have h:=hz;clear hz;have⟨v,rfl,g⟩:=t.one;unfold FO at h;split at h
  .have⟨a',ws,ex,b,i⟩:=g.list a;rw[k]at b;subst ex;have⟨u,rfl,j⟩:=vals1 rv;cases j;split at h
   .cases h;show y0 d I b λl hl=>q.list m a n (dO (by assumption) i).rev l hl
   .cases h
  .cases h
 |sset =>
  have⟨x,rfl,hz⟩:=bK (f:=λx=>(iR x.2).bind λss=>if ss.length<64 then a5 (Kd.own,U.lst ((aU ss).map .str)) else b6) h;clear h;have h:=hz;clear hz;have⟨ss,e,h⟩:=oT.mp h;have⟨v,rfl,g⟩:=t.one;have⟨a',z,rfl,b,i,rfl⟩:=nM k a g e;have⟨u,rfl,j⟩:=vals1 rv;cases j;split at h
  .cases h;show pb d I b i λS h' B o y=>gT d y o (by assumption) λl hl=>q.list m a n (ak.strs.mpr rfl) l hl
  .cases h
 |_=>cases h
def vk:∀f:B2,u7 f.pz=a5 f.out/\u7 f.iY=a5 f.S7/\f.pz≠"__name__"/\f.iY≠"__name__"/\(f.pz==("__debug__":Str))=cc/\(f.iY==("__debug__":Str))=cc:=by
 intro f;cases f<;>show⟨by decide +kernel,by decide +kernel,by decide +kernel,by decide +kernel,by decide +kernel,by decide +kernel⟩
def F_(f:B2):∃T,f.S7=.type T:=by cases f<;>show⟨_,rfl⟩
def Ga(f:B2):(∃T,f.out=.type T)\/∃T,f.out=.builtin T:=by cases f<;>first|show .inl ⟨_,rfl⟩|show .inr ⟨_,rfl⟩
def vm{M:Model}{E:dV->eH->Prop}(h:d4 M A t (λv a=>d4 M A (Oz (.type T) [v]) Q E a) E s):d4 M A (callWith pos (.type T) [] [(cc,t)] []) Q E s :=
 PySem.callWith_type rfl (Mm (Nu (qb h (λ_ _ b=>Qi b) λ_ _ e=>e)))
def pA{M:Model}{E:dV->eH->Prop}(h:d4 M A t (λv a=>d4 M A (Oz (.builtin T) [v]) Q E a) E s):d4 M A (callWith pos (.builtin T) [] [(cc,t)] []) Q E s :=
 y4 rfl (Mm (Nu (qb h (λ_ _ b=>Qi b) λ_ _ e=>e)))
def zA(b:X.calm=b8)(d:C.K=X.K)(g:Gl X f.iY)(i:X.mg f.iY=b6)
  (j:PA X (e::es) (LB C ms)) (k:i2 (e::es) X.env=(cc,t6 e X.env)::i2 es X.env) (l:(zy pos2 (i2 es X.env)).any (·.1)=cc)
  (I:Inv X pins c0.σ c0.H s) (m:Ok C c0) (h:W (ms >>= λrs=>aF rs >>= λ_=>M.Kp (qN f rs)) c0.st (bZ C c0 Q)) :
  d4 (fS X.prog X.w) X.A (t6 (.Call (.Name f.iY p2) (e::es) [] pos2) X.env) (λv s1=>d4 (fS X.prog X.w) X.A (Oz f.out [v]) (EP X pins c0.σ Q) X.xe s1) X.xe s:=by
 have⟨b1,n,b3,b4,B,o⟩:=vk f;show ti (c8 I g i n ?_ b4 o);have a:d4 (fS X.prog X.w) X.A (ŀ (zy pos2 (i2 (e::es) X.env))) (λus s1=>d4 (fS X.prog X.w) X.A (Oz f.S7 us) (λv s1=>d4 (fS X.prog X.w) X.A (Oz f.out [v]) (EP X pins c0.σ Q) X.xe s1) X.xe s1) X.xe s :=
  Kc (args j I m h pos2) λus s1 u=>by
   have⟨rs,c,vs,t,x,rv,w⟩:=u;have⟨r,e,q⟩:=bJ.mp w;have z:=F9 b d t x rv e q;rw[t.hσ]at z;show z
 have⟨T,y⟩:=F_ f;rw[y]at a ⊢;show Ko a k l
def CS(d:X.calm=b8)(g:C.K=X.K)(i:Gl X f.pz)(j:X.mg f.pz=b6)(k:Gl X f.iY)(l:X.mg f.iY=b6)
  (m:PA X (e::es) (LB C ms)) (n:i2 (e::es) X.env=(cc,t6 e X.env)::i2 es X.env) (o:(zy pos2 (i2 es X.env)).any (·.1)=cc) :
  PE X (.Call (.Name f.pz p) [.Call (.Name f.iY p2) (e::es) [] pos2] [] pos) (Ka C (ms >>= λrs=>aF rs >>= λ_=>M.Kp (qN f rs))):=by
 rintro pins s σ H Q I ⟨c0,rfl,rfl,q,h⟩;have⟨b1,v,b3,b4,r,w⟩:=vk f;show ti (c8 I i j b1 ?_ b3 r);have a:=zA (p2:=p2) (pos2:=pos2) d g k l m n o I q h;have t:zy pos (i2 [.Call (.Name f.iY p2) (e::es) [] pos2] X.env)=[(cc,t6 (.Call (.Name f.iY p2) (e::es) [] pos2) X.env)]:=rfl;have u:RC pos (ML [] X.env)=[]:=rfl;rw[t,u];rcases Ga f with⟨T,b⟩|⟨T,b⟩
 .rw[b]at a ⊢;show vm a
 .rw[b]at a ⊢;show pA a
end
section
variable{X:Cx}{C:Ct}{pins:List (ez×Obj)}{s:eH}{c0 c c1:Cf}
variable{a b d e o tg:mx}{es:List mx}{m ma mb md:M (Kd×U)}{ms:M (List (Kd×U))}{ta tb:M Bool}{pos p p2 apos G':Pos}
abbrev lJ(rs:List (Kd×U))(c f:Cf):Prop:=∀j u,(Kd.bor j,u)∈rs->f.σ[j]?=c.σ[j]?
abbrev Walk(C:Ct)(c:Cf)(rs:List (Kd×U))(xs:List (Kd×U))(J:It):Prop:=∀f,Ok C f->Ns c f->lJ rs c f->bo rs f.st ->
 (∀(i:Nat) r,xs[i]?=a5 r->(r.1=.loc\/r.1=.any)/\J.go i f.H/\∀x H',J.Sr i f.H x H'->∃g:Cf,g.H=H'/\g.σ=f.σ/\g.st=f.st/\Ok C g/\Nx f g/\aN C f g r.1 r.2 x) /\
 ∀i:Nat,xs.length<=i->J.stop i f.H
abbrev Nt(C:Ct)(f:Ik)(ms:M (List (Kd×U))):TI:=λσ H R=>∃c0:Cf,c0.σ=σ/\c0.H=H/\Ok C c0/\W (ms >>= λrs=>aF rs >>= λ_=>M.Kp (Mg f rs) >>= λxs=>pure (rs,xs)) c0.st λq st' =>
 ∀c J,c.σ=σ->c.st=st'->Ok C c->Nx c0 c->bo q.1 c.st->Walk C c q.1 q.2 J->R J c.H
def aN.walk(g:Ok C c)(n:Ns c f)(i:lJ [r] c f)(hs:bo [r] f.st)(h:aN C c0 c r.1 r.2 v):aN C c0 f r.1 r.2 v :=
 (h.w.W2 g n λj e=>i j r.2 (by rw[<-e];simp)).t hs
def zB(k:Kd):kE k=.loc\/kE k=.any:=by cases k<;>simp[kE]
def xI(z:C.K=X.K)(A:Ok C c)(h:aN C c0 c k (.lst us) (.ref a')):Walk C c [(k,.lst us)] (us.map λu=>(kE k,u)) (TN X.K a'):=by
 intro l q n B hs;have h':=aN.walk (r:=(k,.lst us)) A n B hs h;have⟨H,vs,e,f,t⟩:=h'.list q;cases e;rw[z]at f;show⟨λi r w=>?_,λi D=>⟨vs,f,by rw[<-t.len];simpa using D⟩⟩;rw[i7,d5]at w;have⟨u,G,rfl⟩:=w;have⟨v,y,g⟩:=t.get G;show⟨zB k,⟨vs,v,f,y⟩,λx H' j=>?_⟩;have⟨e,j⟩:=j;subst e;have:=j vs f;rw[y]at this;cases this;show⟨l,rfl,rfl,rfl,q,Nx.refl l,aN.item g⟩
def sQ(z:C.K=X.K)(A:Ok C c)(h:aN C c0 c k (.tup us) (.ref a')):Walk C c [(k,.tup us)] (us.map λu=>(kE k,u)) (TQ X.K a'):=by
 intro l q n B hs;have h':=aN.walk (r:=(k,.tup us)) A n B hs h;have⟨H,vs,e,f,t⟩:=h'.tuple q;cases e;rw[z]at f;show⟨λi r w=>?_,λi D=>⟨vs,f,by rw[<-t.len];simpa using D⟩⟩;rw[i7,d5]at w;have⟨u,G,rfl⟩:=w;have⟨v,y,g⟩:=t.get G;show⟨zB k,⟨vs,v,f,y⟩,λx H' j=>?_⟩;have⟨e,j⟩:=j;subst e;have:=j vs f;rw[y]at this;cases this;show⟨l,rfl,rfl,rfl,q,Nx.refl l,aN.item g⟩
def lK{lo:Int}:Walk C c rs ((gs n).map λi:Nat=>(Kd.loc,U.int (lo+(i:Int)))) (QY lo n):=by
 intro h l nx t hs;show⟨λi r k=>?_,λi f=>by change n<=i;simpa using f⟩;rw[i7,d5]at k;have⟨j,g,rfl⟩:=k;have f:i<n:=by simpa using(dt.mp g).1
 rw[List.getElem?_range f]at g;cases g;show⟨.inl rfl,f,λy H' q=>?_⟩;have⟨e,rfl⟩:=q;subst e;show⟨h,rfl,rfl,rfl,l,Nx.refl h,rfl⟩
def Gb(i:C.K=X.K)(t:PE X a (Ka C ma)):PI X tg a (Nt C .seq (ma >>= λr=>pure [] >>= λrs=>pure (r::rs))):=by
 rintro pins s σ H R I ⟨c0,rfl,rfl,w,h⟩;rw[ai,ai]at h;have⟨r,st1,x,h⟩:=h;rw[ai,aq,aq,ai,cn,ai]at h;have⟨y,h⟩:=h;have⟨xs,j,h⟩:=bJ.mp h;rw[aq]at h;have⟨k,u⟩:=r;cases u with
 |lst us =>
  cases j;show BN t pins s c0.σ c0.H R I ⟨c0,rfl,rfl,w,_,st1,x,λc v l hs g n f=>?_⟩;have⟨a',vs,rfl,q,A⟩:=f.list g;subst hs;show⟨a',rfl,⟨vs,i▸q⟩,h c _ l rfl g n y (xI i g f)⟩
 |tup us =>
  cases j;show E1 t pins s c0.σ c0.H R I ⟨c0,rfl,rfl,w,_,st1,x,λc v l hs g n f=>?_⟩;have⟨a',vs,rfl,q,A⟩:=f.tuple g;subst hs;have z:=q;rw[i]at z;show⟨a',rfl,⟨vs,z⟩,h c _ l rfl g n y (sQ i g f)⟩
 |_=>cases j
def sR{k:List (Kd×U)->M β}{Post:β->ay->Prop}(g:Ok C c0)(h:W (ms >>= λrs=>aF rs >>= λ_=>k rs) c0.st Post)
  (hz:∀rs c vs,Ms C c0 c rs vs->W (k rs) c.st Post->Z vs c.H):LB C ms c0.σ c0.H Z:=by
 rw[ai]at h;show⟨c0,rfl,rfl,g,h.mono λrs st1 f c1 vs i j l n q=>?_⟩;rw[ai,cn]at f;subst j;show hz rs c1 vs ⟨i,l,n,q,f.1⟩ f.2
def CT(i:Gl X "range")(j:X.mg "range"=b6)(hs:i2 [a] X.env=[(cc,t6 a X.env)])(k:PA X [a] (LB C ms)):PI X tg (.Call (.Name "range" p) [a] [] pos) (Nt C .LM ms):=by
 rintro pins s σ H R I ⟨c0,rfl,rfl,l,h⟩;show wM i j k hs pins s c0.σ c0.H R I (sR l h λrs c vs t w=>?_);rw[ai]at w;have⟨xs,g,w⟩:=bJ.mp w;rw[aq]at w;have⟨x,rfl,hz⟩:=bK (f:=zi) g;clear g;have g:=hz;clear hz;have⟨v,rfl,n⟩:=t.one;unfold zi at g;split at g
 .split at g
  .rename_i q;cases g;show⟨_,by rw[n.int t.ok],⋯,⋯,w c _ t.hσ rfl t.ok t.nx t.OK lK⟩
  .cases g
 .cases g
def CU(g:Gl X "range")(i:X.mg "range"=b6)(hs:i2 [a,b] X.env=[(cc,t6 a X.env),(cc,t6 b X.env)])(j:i2 [b] X.env=[(cc,t6 b X.env)])(k:PA X [a,b] (LB C ms)):PI X tg (.Call (.Name "range" p) [a,b] [] pos) (Nt C .OD ms):=by
 rintro pins s σ H R I ⟨c0,rfl,rfl,l,h⟩;show wN g i k hs j pins s c0.σ c0.H R I (sR l h λrs c vs t w=>?_);rw[ai]at w;have⟨xs,f,w⟩:=bJ.mp w;rw[aq]at w;have f:FP rs=a5 xs:=f;unfold FP at f;split at f
 .split at f
  .rename_i q;cases f;have⟨v,r,rfl,n,ty⟩:=t.two;show⟨_,_,by rw[n.int t.ok,ty.int t.ok],⋯,w c _ t.hσ rfl t.ok t.nx t.OK lK⟩
  .cases f
 .cases f
def qV{k:Kd}{us:List U}{h:U}{a':ez}{w:Hp->List V->Prop}(G:∀f,Ok C f->Ns c f->lJ [(k,h)] c f->bo [(k,h)] f.st->∃vs,w f.H vs/\ak C (SK C f k) f.H us vs):Walk C c [(k,h)] (us.zipIdx.map λp=>(kE k,.tup [.int p.2,p.1])) (Qx w):=by
 intro f g n I hs;have⟨vs,j,y⟩:=G f g n I hs;show⟨λi r z=>?_,λi J=>⟨vs,j,by rw[<-y.len];simpa using J⟩⟩;rw[i7,d5]at z;have⟨p,A,rfl⟩:=z;rw[Vp,d5]at A;have⟨u,L,rfl⟩:=A;have⟨v,B,l⟩:=y.get L;show⟨zB k,⟨vs,v,j,B⟩,λx H' q=>?_⟩;have⟨p,N,rfl,q⟩:=q;have O:=q vs v j B;subst O;have⟨Q,t⟩:=g.lay (o:=.tup [.int i,v]) N;show⟨{f with H:=upd f.H p (.tup [.int i,v])},rfl,rfl,rfl,Q,t,aN.item ?_⟩;have D:ak C (SK C f k) f.H [.int ((0+i:Nat):Int),u] [.int (i:Int),v]:=by
  rw[Pf];show⟨_,_,rfl,rfl,_,_,rfl,l,rfl⟩
 cases k<;>show⟨p,_,rfl,KN.of az,by first|show D.mv (g.OC t)|show D.mv (g.mv t)⟩
def Ge{es:List mx}{z:Nat}{ps:Pos}(k:C.K=X.K)(A:Gl X "enumerate")(B:X.mg "enumerate"=b6)(hs:i2 [a] X.env=[(cc,t6 a X.env)])(D:PA X [a] (LB C ms)):PI X (.Tuple es z ps) (.Call (.Name "enumerate" p) [a] [] pos) (Nt C .OE ms):=by
 rintro pins s σ H R I ⟨c0,rfl,rfl,G,h⟩;show Cb A B D hs pins s c0.σ c0.H R I (sR G h λrs c vs t w=>?_);rw[ai]at w;have⟨xs,i,w⟩:=bJ.mp w;rw[aq]at w;have⟨x,rfl,hz⟩:=bK (f:=FQ) i;clear i;have i:=hz;clear hz;have⟨v,rfl,l⟩:=t.one;unfold FQ at i;split at i
 .cases i;have⟨a',ws,q,g,j⟩:=l.list t.ok;subst q;show⟨a',rfl,.inl ⟨⟨ws,k▸g⟩,w c _ t.hσ rfl t.ok t.nx t.OK ?_⟩⟩;show qV (a':=a') λJ r n u y=>?_;have⟨L,vs,e,g,j⟩:=(aN.walk t.ok n u y l).list r;cases e;show⟨vs,k▸g,j⟩
 .cases i;have⟨a',ws,q,g,j⟩:=l.tuple t.ok;subst q;rw[k]at g;show⟨a',rfl,.inr ⟨⟨ws,g⟩,w c _ t.hσ rfl t.ok t.nx t.OK ?_⟩⟩;show qV (a':=a') λJ r n u y=>?_;have⟨L,vs,e,g,j⟩:=(aN.walk t.ok n u y l).tuple r;cases e;rw[k]at g;show⟨vs,g,j⟩
 .cases i
def Ok.put(t:Ok C c)(n:Nx c0 c)(Q:i<c.σ.length)(hk:k=.own\/k=.loc\/k=.any)(LC:Ok C c0)(h:aN C c0 c k u v):
  Ok C {c with σ:=c.σ.set i (a5 v),st:=c.st.set i (a5 (k,u))}/\Nx c0 {c with σ:=c.σ.set i (a5 v),st:=c.st.set i (a5 (k,u))}:=by
 have T:i<c.st.length:=by rw[t.len];show Q
 have Y:∀(j:Nat) k' u',(c.st.set i (a5 (k,u)))[j]?=a5 (a5 (k',u'))->j≠i->c.st[j]?=a5 (a5 (k',u')):=λj k' u' e ne=>by rw[i1 (qP ne)]at e;show e
 have Mt:∀(j:Nat) B,(c.σ.set i (a5 v))[j]?=a5 (a5 B)->j≠i->c.σ[j]?=a5 (a5 B):=λj B e ne=>by rw[i1 (qP ne)]at e;show e
 have sl:fY C c.S c.H k u v:=by
  rcases hk with rfl|rfl|rfl
  .have⟨r,e,D,J,y,L⟩:=h;have⟨z0,z1,N,z3,z4⟩:=LC.kl D;show⟨r,e,J,N,z0,L⟩
  .show h
  .show h
 have P1:∀(j:Nat) k' u' r,k'.root=b8->(c.st.set i (a5 (k,u)))[j]?=a5 (a5 (k',u'))->(c.σ.set i (a5 v))[j]?=a5 (a5 (.ref r))->j=i/\k=.own/\v=.ref r\/j≠i/\c.st[j]?=a5 (a5 (k',u'))/\c.σ[j]?=a5 (a5 (.ref r)):=λj k' u' r G g l=>by
  by_cases f:j=i
  .subst f;rw[fR T]at g;rw[fR Q]at l;cases g;cases l;rcases hk with rfl|rfl|rfl
   .show .inl ⟨rfl,rfl,rfl⟩
   .cases G
   .cases G
  .show .inr ⟨f,Y j k' u' g f,Mt j _ l f⟩
 have dD:∀(j:Nat) (u':U),(c.st.set i (a5 (k,u)))[j]?=a5 (a5 (.J6,u'))->c.st[j]?=a5 (a5 (.J6,u'))/\(c.σ.set i (a5 v))[j]?=c.σ[j]?:=λj u' e=>by
  by_cases f:j=i
  .subst f;rw[fR T]at e;cases e;rcases hk with hk|hk|hk<;>cases hk
  .show⟨Y j .J6 u' e f,i1 (qP f)⟩
 have b1:∀a,({c with σ:=c.σ.set i (a5 v),st:=c.st.set i (a5 (k,u))}:Cf).R1 a->c.R1 a\/k=.own/\v=.ref a:=λa Ky=>by
  have⟨j,k',u',G,g,l⟩:=Ky;rcases P1 j k' u' a G g l with⟨O,w,x⟩|⟨O,w,x⟩
  .show .inr ⟨w,x⟩
  .show .inl ⟨j,k',u',G,w,x⟩
 have OL:Nj C {c with σ:=c.σ.set i (a5 v),st:=c.st.set i (a5 (k,u))}:=t.dd.of rfl dD (λa z=>(b1 a z).imp id λ⟨q1,q2⟩ j z'=>by
  subst q1;obtain⟨I,e,_,_,y,_⟩:=h;rw[q2]at e;cases e;show y (.inr ⟨j,z'⟩)) (.up λ_ z=>z) λj a z=>⟨(t.root (.inr ⟨j,z⟩)).1,λo q=>q⟩
 show⟨⟨t.same,t.L5,t.par,t.io,by simp[t.len],λj k' u' e=>?_,λj1 j2 k1 k2 u1 u2 r Vu RM g l e3 e4=>?_,OL⟩,⟨⟨n.keep,n.there,λa z=>?_,n.sub,n.new⟩⟩⟩
 .by_cases f:j=i
  .subst f;rw[fR T]at e;cases e;show⟨v,by rw[fR Q],sl⟩
  .have⟨B,g,l⟩:=t.sl j k' u' (Y j k' u' e f);show⟨B,by rw[i1 (qP f)];show g,l⟩
 .have z1:=P1 j1 k1 u1 r Vu g e3;have N:=P1 j2 k2 u2 r RM l e4;rcases z1 with⟨O,w,x⟩|⟨O,w,x⟩
  .rcases N with⟨b1,A,b3⟩|⟨b1,A,b3⟩
   .show O.trans b1.symm
   .subst w;have⟨I,e,D,J,y,L⟩:=h;rw[x]at e;cases e;show(y (.inl ⟨j2,k2,u2,RM,A,b3⟩)).elim
  .rcases N with⟨b1,A,b3⟩|⟨b1,A,b3⟩
   .subst A;have⟨I,e,D,J,y,L⟩:=h;rw[b3]at e;cases e;show(y (.inl ⟨j1,k1,u1,Vu,w,x⟩)).elim
   .show t.inj j1 j2 k1 k2 u1 u2 r Vu RM w A x b3
 .rcases z with z|⟨j,u',I,g,l,e3⟩
  .rcases b1 a z with z|⟨w,x⟩
   .show n.roots a (.inl z)
   .subst w;have⟨I,e,D,J,y,L⟩:=h;rw[x]at e;cases e;show .inr D
  .have⟨q1,q2⟩:=dD j u' g;show n.roots a (.inr ⟨j,u',I,q1,q2▸l,e3⟩)
def pB(z:Ok C c0)(q:Ok C c)(n:Nx c0 c)(A:i<c.σ.length)(t:aN C c0 c r.1 r.2 v)(h:W (eL i r) c.st Post):
  ∃y,y.σ=c.σ.set i (a5 v)/\y.H=c.H/\Ok C y/\Nx c0 y/\Post () y.st:=by
 have⟨k,u⟩:=r;cases k with
 |own =>
  have⟨x,st',e,f⟩:=h;cases e;have⟨g,l⟩:=q.put n A (.inl rfl) z t;show⟨{c with σ:=c.σ.set i (a5 v),st:=c.st.set i (a5 (.own,u))},rfl,rfl,g,l,f⟩
 |loc =>
  have⟨x,st',e,f⟩:=h;cases e;have⟨g,l⟩:=q.put n A (.inr (.inl rfl)) z t;show⟨{c with σ:=c.σ.set i (a5 v),st:=c.st.set i (a5 (.loc,u))},rfl,rfl,g,l,f⟩
 |any =>
  have⟨x,st',e,f⟩:=h;cases e;have⟨g,l⟩:=q.put n A (.inr (.inr rfl)) z t;show⟨{c with σ:=c.σ.set i (a5 v),st:=c.st.set i (a5 (.any,u))},rfl,rfl,g,l,f⟩
 |bor j =>
  have⟨x,st',e,f⟩:=h;rw[show eL i (.bor j,u) c.st=match c.st[j]? with|some (a5 (.own,u))=>a5 (Ex.ok (),(c.st.set j (a5 (.loc,u))).set i (a5 (.loc,u)))|_=>b6 from rfl]at e;split at e
  .rename_i w D;cases e;obtain⟨O,G,r,J,_⟩:=q.sl j _ _ D;have I:c.σ[j]?=a5 (a5 v):=t.2;rw[I]at G;cases G;subst J;have⟨L,N,B⟩:=q.zu n D I;have⟨g,l⟩:=Ok.put (c:={c with S:=λa=>c.S a\/a=r,st:=c.st.set j (a5 (.loc,w))}) L N (k:=.loc) (u:=w) (v:=.ref r) A (.inr (.inl rfl)) z B;show⟨{S:=λa=>c.S a\/a=r,H:=c.H,σ:=c.σ.set i (a5 (.ref r)),st:=(c.st.set j (a5 (.loc,w))).set i (a5 (.loc,w)),kid:=c.kid},rfl,rfl,g,l,f⟩
  .cases e
 |_=>show t.elim
end
section
def Ok.JW(B:Ok C g)(b:Ok C c)(n:Nx g c)(q:g.H r=b6)(f:¬c.S r)(s:¬c.R r)(D:∃o,c.H r=a5 o/\¬Tp o):
  Ok C {c with H:=upd c.H r o' }/\Nx g {c with H:=upd c.H r o' }:=by
 have⟨o,ho,G⟩:=D;obtain⟨I,_,J,qI,_⟩:=B.kl q;have L:¬PS C c.S r:=λz=>z.elim J f;have d:∀a o2,a≠r->c.H a=a5 o2->(upd c.H r o') a=a5 o2:=λa o2 ne e=>by rw[au ne];show e
 have l:∀S:ez->Prop,¬S r->Mv S c.H S (upd c.H r o'):=λS f=>⟨λa z=>z,λa m e N=>d a m (λz=>by subst z;rw[ho]at e;cases e;show G N) e,λa m z e=>d a m (λy=>by subst y;show f z) e⟩
 have O:∀{a:ez} {o2:HO},g.H a=a5 o2->a≠r:=λe z=>by subst z;rw[q]at e;cases e
 have p:∀a,(∃o2,c.H a=a5 o2)->∃o2,(upd c.H r o') a=a5 o2:=λa Q=>by
  have⟨o2,e⟩:=Q;by_cases t:a=r
  .subst t;show⟨o',az⟩
  .show⟨o2,d a o2 t e⟩
 show⟨⟨λa o2 e z=>d a o2 (λy=>by subst y;rw[I]at e;cases e) (b.same a o2 e z),λa z=>⟨(b.L5 a z).1,p a (b.L5 a z).2⟩,b.par,λa z=>⟨(b.io a z).1,p a (b.io a z).2⟩,b.len,λi k u e=>?_,b.inj,b.dd.hs (l _ f) λj a z=>⟨(b.root (.inr ⟨j,z⟩)).1,λo2 e=>d a o2 (λy=>by subst y;show s (.inr ⟨j,z⟩)) e⟩⟩,?_⟩
 .have⟨v,w,h⟩:=b.sl i k u e;show⟨v,w,h.mv (l _ f) (l _ L) λhk T x=>?_⟩;obtain⟨RL,A,Y,_⟩:=h.rt hk;rw[x]at A;cases A;show⟨Y,λo2 h=>d T o2 (λy=>by subst y;show s (.inl ⟨i,k,u,hk,e,by rw[w,x]⟩)) h⟩
 .show⟨⟨λa o2 e z=>d a o2 (O e) (n.keep a o2 e z),λa o2 e=>p a (n.there a o2 e),n.roots,n.sub,n.new⟩⟩
def zC(u:c.H r=a5 (.Lc o (.dK kvs)))(w:¬c.R r)(y:Ok C c)(hk:kvs.map (·.1)=ks.map l0)(z:ak C c.S c.H us (kvs.map (·.2))):Walk C c [(.own,.J8 ks us)] (sM (ks,us)) (Vb r o kvs):=by
 intro b k n N hs;have l:=n.keep r _ u w;have m:=z.mv (y.mv n);have O:kvs.length=ks.length:=by rw[<-c2 (f:=(·.1)),hk,c2]
 have Q:us.length=kvs.length:=by rw[m.len,c2]
 have T:(sM (ks,us)).length=kvs.length:=by
  unfold sM;rw[c2,Xk];change min ks.length us.length=_;lia
 show⟨λi q d=>?_,λi a=>⟨l,⋯⟩⟩;unfold sM at d;rw[i7,d5]at d;have⟨p,A,rfl⟩:=d;have⟨s,B⟩:=List.getElem?_zip_eq_some.mp A;have⟨v,e,g⟩:=m.get B;have a:i<kvs.length:=by
  have:i<ks.length:=(dt.mp s).1;lia
 have D:kvs[i]?=a5 (l0 p.1,v):=by
  rw[i7,l' a]at e;have h:(kvs.map (·.1))[i]?=(ks.map l0)[i]?:=by rw[hk]
  rw[i7,i7,l' a,s]at h;rw[l' a];simp only[UM,RS]at h e;rw[<-h,<-e]
 show⟨.inl rfl,⟨l,a⟩,λx H' j=>?_⟩;have⟨q,G,rfl,j⟩:=j;have I:=j _ _ D;subst I;have⟨J,t⟩:=k.lay (o:=.tup [kV (l0 p.1),v]) G;show⟨{b with H:=upd b.H q (.tup [kV (l0 p.1),v])},rfl,rfl,rfl,J,t,?_⟩;have L:ak C b.S b.H [.str p.1,p.2] [kV (l0 p.1),v]:=⟨_,_,rfl,rfl,_,_,rfl,g,rfl⟩
 show⟨q,_,rfl,KN.of az,L.mv (k.mv t)⟩
def Gf(t:Qd a "items" X.env (t6 a X.env)=t6 a X.env)(u:(b.endLine==w.line)=b8)(x:PE X a (Ka C A)):
  PI X (.Tuple es kx ps) (.Call (.Attribute a "items" b) [] [] w) (Nt C .QD (A >>= λr=>pure [] >>= λrs=>pure (r::rs))):=by
 rintro d s σ H R I ⟨g,rfl,rfl,k,h⟩;rw[ai,ai]at h;have⟨r,st1,B,h⟩:=h;rw[ai,aq,aq,ai,cn,ai]at h;have⟨D,h⟩:=h;have⟨xs,G,h⟩:=bJ.mp h;rw[aq]at h;have hz:FR r=a5 xs:=G;unfold FR at hz;split at hz
 rotate_left
 .cases hz
 rename_i ks us;cases hz;show xu x t u d s g.σ g.H R I ⟨g,rfl,rfl,k,_,st1,B,λc v J hs l n f=>?_⟩;obtain⟨a',L,N,m,p⟩:∃a',v=.ref a'/\g.H a'=b6/\¬c.S a'/\¬c.R a':=by
  obtain⟨r,i,O,Q,T,_⟩:=f;show⟨r,i,O,Q,T⟩
 have⟨a2,kvs,i,j,Y,h3⟩:=f.dict l;subst i;cases L;subst hs;show⟨a',kvs,rfl,j,λo=>?_⟩;have⟨q,n2⟩:=Ok.JW (o':=.Lc o (.dK kvs)) k l n N m p ⟨_,j,λz=>z⟩;show h {c with H:=upd c.H a' (.Lc o (.dK kvs))} _ J rfl q n2 D (zC (r:=a') (o:=o) (kvs:=kvs) az p q Y ?_);show ak.mv ⟨λa z=>z,λa ob e tp=>?_,λa ob z e=>?_⟩ h3
 .have:a≠a':=λy=>by subst y;rw[j]at e;cases e;show tp
  change upd c.H a' _ a=_;rw[au this];show e
 .have:a≠a':=λy=>by subst y;show m z
  change upd c.H a' _ a=_;rw[au this];show e
end
section
abbrev tG(C:Ct)(t:Bool)(is:List Nat):TG:=λv σ H Q=>∃b c r,c.σ=σ/\c.H=H/\Ok C b/\Ok C c/\Nx b c/\aN C b c r.1 r.2 v/\W (dN t is r) c.st λ_ st' =>
 ∀a,a.st=st'->Ok C a->Nx b a->(∀j,j∉is->a.σ[j]?=c.σ[j]?)->a.σ.length=c.σ.length->Q a.σ a.H
structure sU(X:Cx)(e:mx)(i:Nat):Prop where
 is:∃x pos,e=.Name x pos/\X.N[i]?=a5 x/\Loc X.env.scope x/\(X.fn x=b8\/X.env.scope.names.lookup x=a5 .local)
def Gg(g:X.N.Nodup)(h:sU X e i):PG X e (tG C cc [i]):=by
 have⟨x,pos,rfl,f,k,l⟩:=h.is;rintro a s σ H v u Q I rv ⟨G,c,r,rfl,rfl,m,o,n,b,w⟩;have p:i<c.σ.length:=by rw[I.len];show(dt.mp f).1
 have⟨t,d,y,A,B,q⟩:=pB (r:=r) m o n p b w;show uJ g f k l a s c.σ c.H v u Q I rv ?_;have z:=q t rfl A B (λj D=>by rw[d,i1 (by intro z;show D (by simp[z]))]) (by rw[d];simp);rw[d,y]at z;show z
abbrev Vv:List Nat->Ql
 |[]=>Hm
 |i::is=>D4 (uI i) (Vv is)
inductive fq(X:Cx):List mx->List Nat->Prop where
 |nil:fq X [] []
 |cons {e:mx} {es:List mx} {i:Nat} {is:List Nat} (h:sU X e i) (t:fq X es is):fq X (e::es) (i::is)
def xJ(a:X.N.Nodup)(h:fq X es is):QX X es (Vv is):=by
 induction h with
 |nil=>show BL
 |cons h t b =>
  have⟨x,pos,rfl,c,d,e⟩:=h.is;show yn (uJ a c d e) b rfl
def sV(h:fq X es is):(Q2 es X.env).length=is.length/\(Q2 es X.env).findIdx? (·.1)=b6:=by
 induction h with
 |nil=>show⟨rfl,rfl⟩
 |cons h t a =>
  have⟨x,pos,rfl,b,c,d⟩:=h.is;show⟨?_,?_⟩
  .change(_::_).length=_;simp[a.1]
  .change Zh _ (_::_)=b6;rw[List.findIdx?_cons,ž (by simp),a.2];rfl
theorem vn(hk:kE k=k)(h:Ok C g):∀{is:List Nat}{us:List U}{vs:List V}{c:Cf}{Post:Unit->ay->Prop}{Q:L2.St->Hp->Prop},Ok C c->Nx g c->(∀i∈is,i<c.σ.length)->ak C (SK C c k) c.H us vs->W (sets is (us.map λu=>(k,u))) c.st Post ->
  (∀b,Post () b.st->Ok C b->Nx g b->(∀j,j∉is->b.σ[j]?=c.σ[j]?)->b.σ.length=c.σ.length->Q b.σ b.H)->Vv is vs c.σ c.H Q
 |[],[],vs,c,Post,Q,ok,n,d,a,w,q=>by
  rw[show sets [] (YE (λu=>(k,u)) [])=pure () from rfl,aq]at w;show⟨a,q c w ok n (λ_ _=>rfl) rfl⟩
 |[],u::us,vs,c,Post,Q,ok,n,d,a,w,q=>(bu.mp w).elim
 |i::is,[],vs,c,Post,Q,ok,n,d,a,w,q=>(bu.mp w).elim
 |i::is,u::us,vs,c,Post,Q,ok,n,d,a,w,q=>by
  rw[show sets (i::is) (YE (λu=>(k,u)) (u::us))=eL i (k,u) >>= λ_=>sets is (us.map λu=>(k,u)) from rfl,ai]at w;have⟨v,r,rfl,l,m⟩:=a;have o:k=.own\/k=.loc\/k=.any:=by cases k<;>simp[kE]at hk<;>simp
  have D:k≠.own:=by cases k<;>simp[kE]at hk<;>simp
  have rt:aN C g c k u v:=by rw[<-hk];show aN.item l
  have⟨s,t⟩:=ok.put n (d i (by simp)) o h rt;have es:eL i (k,u)=λst=>a5 (.ok (),st.set i (a5 (k,u))):=by cases k<;>simp[kE]at hk<;>rfl
  obtain⟨_,st',e,x⟩:=w;rw[es]at e;cases e;show⟨v,r,rfl,vn (c:={c with σ:=c.σ.set i (a5 v),st:=c.st.set i (a5 (k,u))}) hk h s t (λj f=>by simpa using d j (by simp[f])) (by cases k<;>show m) x λb p y A B hl=>?_⟩;show q b p y A (λj f=>?_) (by rw[hl];simp);rw[B j (λz=>f (by simp[z])),i1 (λz=>f (by simp[z]))]
def HZ(m:X.calm=b8)(o:C.K=X.K)(q:X.N.Nodup)(h:fq X es is)(hl:∀i∈is,i<X.N.length):PG X (.Tuple es Y pos) (tG C b8 is):=by
 rintro a s σ H v u Q I rv ⟨c0,c,r,rfl,rfl,t,f,n,d,w⟩;have⟨y,z⟩:=sV h;show EV m (xJ q h) y z a s c.σ c.H v u Q I rv ?_;have⟨k,A⟩:=r;cases A with
 |tup us =>
  rw[show dN b8 is (k,.tup us)=sets is (us.map λu=>(kE k,u)) from by cases is<;>rfl]at w;have⟨a',vs,rfl,g,j⟩:=d.tuple f;rw[o]at g;have b:us.length=is.length:=by
   have e:∀(is:List Nat) (l:List (Kd×U)) (st:ay) (P:Unit->ay->Prop),W (sets is l) st P->l.length=is.length:=by
    intro is;induction is with
    |nil=>intro l st P w;cases l with
     |nil=>rfl
     |cons _ _=>show(bu.mp w).elim
    |cons i is B=>intro l st P w;cases l with
     |nil=>show(bu.mp w).elim
     |cons x l =>
      rw[show sets (i::is) (x::l)=eL i x >>= λ_=>sets is l from rfl,ai]at w;obtain⟨_,_,_,w⟩:=w;rw[kj,kj,B l _ _ w]
   simpa using e _ _ _ _ w
  show⟨a',vs,rfl,g,by rw[<-j.len,b],?_⟩;show vn (k:=kE k) (by cases k<;>rfl) t f n (λi D=>by rw[I.len];show hl i D) (by cases k<;>show j) w λG p J L O T=>p G rfl J L O T
 |_=>cases is<;>show(bu.mp w).elim
end
section
variable{X:Cx}{C:Ct}{pins:List (ez×Obj)}{s:eH}{c0 c c1:Cf}
variable{a b d e o tg iter elt:mx}{es ifs:List mx}{m ma mb md me:M (Kd×U)}{ms:M (List (Kd×U))}{ta tb tc:M Bool}{pos p p2 apos G':Pos}
def xK{m:M α}{st:ay}{Q:α->ay->Prop}:W (inScope k m) st Q↔W m (i8 k b6++st) λa st'=>Q a (st'.drop k):=by
 constructor
 .rintro⟨a,st',e,h⟩;unfold inScope at e;cases q:m (i8 k b6++st) with
  |none=>rw[q]at e;cases e
  |some r=>have⟨g,f⟩:=r;rw[q]at e;cases e;show⟨a,f,q,h⟩
 .rintro⟨a,st',e,h⟩;show⟨a,st'.drop k,by unfold inScope;rw[e],h⟩
abbrev Cf.ext(k:Nat)(c:Cf):Cf:={c with σ:=i8 k b6++c.σ,st:=i8 k b6++c.st,kid:=λj=>c.kid (j - k)}
abbrev Cf.cut(k:Nat)(c:Cf):Cf:={c with σ:=c.σ.drop k,st:=c.st.drop k,kid:=λj=>c.kid (k+j)}
def gw(h:(i8 k b6++l)[j]?=a5 (a5 x)):∃i,j=k+i/\l[i]?=a5 (a5 x):=by
 by_cases f:j<k
 .rw[t5 (by simpa using f)]at h;rw[KQ]at h;rw[Ž f]at h;cases h
 .show⟨j - k,⋯,?_⟩;rw[qs (by simp;lia)]at h;simpa using h
def ft:(i8 k b6++l)[k+i]?=l[i]?:=by
 rw[qs (by simp)];simp
def zD:(c.ext k).R1 r↔c.R1 r:=by
 constructor
 .rintro⟨j,g,u,h,l,f⟩;have⟨i,rfl,e⟩:=gw l;rw[Cf.ext,ft]at f;show⟨i,g,u,h,e,f⟩
 .rintro⟨i,g,u,h,l,f⟩;show⟨k+i,g,u,h,by rw[Cf.ext,ft];show l,by rw[Cf.ext,ft];show f⟩
def pC{a:ez}(h:(c.ext k).RD j a):∃i,j=k+i/\c.RD i a:=by
 have⟨u,r,l,f,g⟩:=h;have⟨i,rfl,e⟩:=gw l;rw[Cf.ext,ft]at f;show⟨i,rfl,u,r,e,f,?_⟩;have:(c.ext k).kid (k+i)=c.kid i:=by change c.kid (k+i - k)=_;rw[ZL]
 rw[this]at g;show g
def H9(h:(c.ext k).R r):c.R r:=by
 rcases h with h|⟨j,h⟩
 .show .inl (zD.mp h)
 .obtain⟨i,_,h⟩:=pC h;show .inr ⟨i,h⟩
def Ok.ext(k:Nat)(f:Ok C c):Ok C (c.ext k)/\Nx c (c.ext k):=by
 show⟨⟨f.same,f.L5,f.par,f.io,by simp[Cf.ext,f.len],λj A u e=>?_,λi j k1 k2 u u' r B D l g y z=>?_,⟨λj u r l g=>?_,λi j a n q=>?_,λj a n q=>?_⟩⟩,⟨⟨λ_ _ h _=>h,λ_ o h=>⟨o,h⟩,λa h=>.inl (H9 h),λ_ h=>h,λ_ h=>.inl h⟩⟩⟩
 .have⟨i,rfl,G⟩:=gw e;have⟨v,l,g⟩:=f.sl i A u G;show⟨v,by rw[Cf.ext,ft];show l,g⟩
 .have⟨t,rfl,H⟩:=gw l;have⟨w,rfl,I⟩:=gw g;rw[Cf.ext,ft]at y z;rw[f.inj t w k1 k2 u u' r B D H I y z]
 .have⟨i,rfl,e⟩:=gw l;rw[Cf.ext,ft]at g;have:(c.ext k).kid (k+i)=c.kid i:=by change c.kid (k+i - k)=_;rw[ZL]
  rw[this];show f.dd.kd i u r e g
 .have⟨t,rfl,x⟩:=pC n;have⟨w,rfl,J⟩:=pC q;rw[f.dd.dj t w a x J]
 .have⟨i,rfl,x⟩:=pC n;show f.dd.d1 i a x (zD.mp q)
def zE{a:ez}(h:(c.cut k).R1 a):c.R1 a:=by
 have⟨j,i,u,l,f,g⟩:=h;rw[Cf.cut,LY]at f g;show⟨k+j,i,u,l,f,g⟩
def pE{a:ez}(h:(c.cut k).RD j a):c.RD (k+j) a:=by
 have⟨u,r,f,g,i⟩:=h;rw[Cf.cut,LY]at f g;show⟨u,r,f,g,i⟩
def Ok.cut(k:Nat)(f:Ok C c):Ok C (c.cut k)/\Nx c (c.cut k):=by
 show⟨⟨f.same,f.L5,f.par,f.io,by simp[Cf.cut,f.len],λj x u e=>?_,λi j k1 k2 u u' r y A g l t w=>?_,⟨λj u r g l=>?_,λi j a n q=>?_,λj a n q=>f.dd.d1 _ a (pE n) (zE q)⟩⟩,⟨⟨λ_ _ h _=>h,λ_ o h=>⟨o,h⟩,λa h=>.inl (h.elim (λz=>.inl (zE z)) λ⟨j,z⟩=>.inr ⟨k+j,pE z⟩),λ_ h=>h,λ_ h=>.inl h⟩⟩⟩
 .rw[Cf.cut,LY]at e;have⟨v,g,l⟩:=f.sl _ x u e;show⟨v,by rw[Cf.cut,LY];show g,l⟩
 .rw[Cf.cut,LY]at g l t w;have:=f.inj _ _ k1 k2 u u' r y A g l t w;lia
 .rw[Cf.cut,LY]at g l;show f.dd.kd _ u r g l
 .have:=f.dd.dj _ _ a (pE n) (pE q);lia
def CV(h:∀j,j∉gs k->g[j]?=(i8 k b6++σ)[j]?)(hl:g.length=(i8 k (b6:Option V)++σ).length):∃f:L2.St,f.length=k/\g=f++σ:=by
 show⟨g.take k,by rw[tv,hl];simp,?_⟩;apply Ā;intro j;by_cases i:j<k
 .rw[t5 (by rw[tv,hl];simp;lia),List.getElem?_take,Ž i]
 .rw[h j (by simpa using i),qs (by simp;lia),qs (by rw[tv,hl];simp;lia)];congr 1
  rw[tv,hl];simp
def xM(e1:c1.σ=c0.σ)(Ke:Ok C c1)(n1:Nx c0 c1)(hw:Walk C c1 rs xs J)(h3:W (bW k t tc me rs xs []) c1.st λus st'=>W (pure (Kd.own,U.lst us)) st' (bZ C c0 Q)):
  uQ k J (tG C t (gs k)) (LA C tc) (Ka C me) Q c0.σ c1.H:=by
 show⟨λi m ys H=>∃c acc,c.H=H/\c.σ=c0.σ/\Ok C c/\Nx c1 c/\m=xs.length - i/\i<=xs.length/\ak C c.S c.H acc ys/\acc.length<=cK/\W (bW k t tc me rs (xs.drop i) acc) c.st λus st'=>W (pure (Kd.own,U.lst us)) st' (bZ C c0 Q),⟨xs.length,c1,[],rfl,e1,Ke,Nx.refl c1,by simp,kr _,rfl,kr _,by simpa using h3⟩,?_⟩;rintro i m ys H ⟨c,acc,rfl,D,q,y,rfl,hi,g,h,w⟩;show⟨by rw[<-g.len];show h,?_⟩;have f:lJ rs c1 c:=λj u _=>by rw[D,e1]
 by_cases G:i<xs.length
 .right
  rw[TL G]at w;rw[show bW k t tc me rs (xs[i]::xs.drop (i+1)) acc=aF rs >>= λ_=>inScope k (dN t (gs k) xs[i] >>= λ_=>tc >>= λb=>if b=b8 then(me >>= λr=>lift r >>= λu=>pure (a5 u)) else pure b6) >>= λr=>match r with|some u=>if acc.length<cK then bW k t tc me rs (xs.drop (i+1)) (acc++[u]) else M.fail|none=>bW k t tc me rs (xs.drop (i+1)) acc from rfl,ai,cn]at w;have⟨NY,w⟩:=w;obtain⟨I,_⟩:=hw c q y f NY;have⟨Vw,QL,Vx⟩:=I i xs[i] (by simp[G]);show⟨QL,λMb H'=>∃c acc,c.H=H'/\c.σ=c0.σ/\Ok C c/\Nx c1 c/\ak C c.S c.H acc Mb/\acc.length<=cK/\W (bW k t tc me rs (xs.drop (i+1)) acc) c.st λus st'=>W (pure (Kd.own,U.lst us)) st' (bZ C c0 Q),λMb H' ⟨c',K_,z1,z2,z3,z4,z5,z6,z7⟩=>⟨xs.length - (i+1),⋯,c',K_,z1,z2,z3,z4,rfl,G,z5,z6,z7⟩,λx H' hy=>?_⟩;have⟨l,rfl,e4,e5,Ks,n2,rt⟩:=Vx x H' hy;rw[ai,xK,ai]at w;have⟨S8,nx⟩:=Ks.ext k;have Zy:aN C (l.ext k) (l.ext k) xs[i].1 xs[i].2 x:=by
   rcases Vw with z|z
   .rw[z]at rt ⊢;show rt
   .rw[z]at rt ⊢;show rt
  have eσ:(l.ext k).σ=i8 k b6++c0.σ:=by rw[Cf.ext];change i8 k b6++l.σ=_;rw[e4,D]
  show⟨l.ext k,l.ext k,xs[i],eσ,rfl,S8,S8,Nx.refl _,Zy,?_⟩;have U_:(l.ext k).st=i8 k b6++c.st:=by rw[Cf.ext];change i8 k b6++l.st=_;rw[e5]
  rw[U_];show w.mono λ_ KS w3 c3 e6 MQ n3 RP QM=>?_;subst e6;rw[eσ]at RP QM;have⟨L,N,O⟩:=CV RP QM;show⟨L,N,O,?_⟩;have W_:Nx c c3:=(n2.trans nx).trans n3;rw[ai]at w3;show⟨c3,rfl,rfl,MQ,w3.mono λb Qr n B e7 e8 T n4=>?_⟩;subst e8;cases b with
  |false =>
   rw[ž js]at n ⊢;rw[aq]at n;have⟨Y,nk⟩:=T.cut k;have nn:Nx c (B.cut k):=(W_.trans n4).trans nk;show⟨B.cut k,acc,rfl,?_,Y,y.trans nn,g.mv (q.mv nn),h,n⟩;change B.σ.drop k=_;rw[e7,O,Xt N]
  |true =>
   rw[Ž rfl]at n ⊢;rw[ai]at n;show⟨B,e7,rfl,T,n.mono λr Nn w5 c5 v e9 Zz ZA n5 ZC=>?_⟩;subst Zz;rw[ai]at w5;obtain⟨S',st',u,sS,ZD,n6,Vz,A,_,_⟩:=iV T ZA n5 ZC.w w5;rw[aq]at A
   dsimp only at A
   split at A
   .rename_i hz;have⟨Y,nk⟩:=ZD.cut k;have nn:Nx c (Cf.cut k {c5 with S:=S',st:=st' }):=((W_.trans n4).trans n6).trans nk;show⟨Cf.cut k {c5 with S:=S',st:=st' },acc++[u],rfl,?_,Y,y.trans nn,(g.mv (q.mv nn)).snoc Vz,by rw[hH];show hz,A⟩;change c5.σ.drop k=_;rw[e9,O,Xt N]
   .show(bu.mp A).elim
 .left
  have LL:i=xs.length:=by lia
  subst LL;rw[ĉ,show bW k t tc me rs [] acc=aF rs >>= λ_=>pure acc from rfl,ai,cn,aq,aq]at w;obtain⟨_,I⟩:=hw c q y f w.1;show⟨I _ (i0 _),λp hp=>bZ.list w.2 D q (n1.trans y) g p hp⟩
def nN(l:Ok C c0)
  (h:W (ms >>= λrs=>aF rs >>= λ_=>M.Kp (Mg n rs) >>= λxs=>bW k t tc me rs xs [] >>= λus=>pure (Kd.own,U.lst us)) c0.st (bZ C c0 Q)) :
  yG k (Nt C n ms) (tG C t (gs k)) (LA C tc) (Ka C me) c0.σ c0.H Q:=by
 rw[ai]at h;show⟨c0,rfl,rfl,l,?_⟩;rw[ai];show h.mono λrs st1 f=>?_;rw[ai,cn]at f ⊢;show⟨f.1,?_⟩;have g:=f.2;rw[ai]at g ⊢;show g.mono λxs st2 i=>?_;rw[aq];intro c1 J q r u v w j;rw[ai]at i;subst r
 dsimp only at w j
 show xM q u v j i
def zF(S:eJ X N own scope)(f:X.calm=b8)(g:PI X tg iter (Nt C i ms))
  (j:∀D s H ex,PG (Lo X N scope D s H ex) tg (tG C t (gs own.length))) (k:∀D s H ex,Ot (Lo X N scope D s H ex) ifs (LA C tc)) (l:∀D s H ex,PE (Lo X N scope D s H ex) elt (Ka C me))
  (hs:∀x,MV iter X.env x=pure x) :
  PE X (.ListComp elt [⟨tg,iter,ifs,0⟩] scope pos) (Ka C (ms >>= λrs=>aF rs >>= λ_=>M.Kp (Mg i rs) >>= λxs=>bW own.length t tc me rs xs [] >>= λus=>pure (.own,.lst us))):=by
 show PE.weak (B5 S f g j k l hs) ?_;rintro σ H Q ⟨c0,rfl,rfl,n,h⟩;show nN n h
end
section
variable{a b d e o tg iter elt:mx}{es ifs:List mx}{m ma mb md me:M (Kd×U)}{ms:M (List (Kd×U))}{ta tb tc:M Bool}{pos p p2 apos G':Pos}{st:Nd}{rest body:List Nd}{f g mm:M Fl}{ns Lw:Nat->Bool}
def Gh(C:Ct)(c:Cf):Kd->U->V->Prop
 |.own,u,v=>∃r,v=.ref r/\C.H₀ r=b6/\¬c.S r/\¬c.R r/\cW C c.S c.H r u
 |.loc,u,v=>Rep C c.S c.H u v
 |.any,u,v=>Rep C (PS C c.S) c.H u v
 |_,_,_=>False
def JX(C:Ct)(Q:VK)(c:Cf):Kd->U->Prop
 |.io,u=>C.xw u c.H
 |k,u=>∀v,Gh C c k u v->Q v c.H
abbrev Fin(C:Ct)(D:Ends)(f:Fl)(c:Cf):Prop:=match f with
 |.nx=>D.nx c.σ c.H
 |.bk=>D.bk c.σ c.H
 |.ct=>D.ct c.σ c.H
 |.rt k u=>JX C D.rt c k u
abbrev Kept(ns:Nat->Bool)(c h:Cf):Prop:=(∀j,ns j=b8->h.σ[j]?=c.σ[j]?)/\h.σ.length=c.σ.length
def Kept.refl:Kept ns c c:=⟨λ_ _=>rfl,rfl⟩
def Kept.trans(h:Kept ns c i)(h':Kept ns i k):Kept ns c k:=⟨λj z=>(h'.1 j z).trans (h.1 j z),h'.2.trans h.2⟩
def Kept.le(i:∀j,Lw j=b8->ns j=b8)(h:Kept ns c k):Kept Lw c k:=⟨λj z=>h.1 j (i j z),h.2⟩
def Kept.of(h:i.σ=c.σ):Kept ns c i:=⟨λj z=>by rw[h],by rw[h]⟩
abbrev fG(C:Ct)(h:Cf)(ns:Nat->Bool)(D:Ends)(f:Fl)(st':ay):Prop:=∀c,c.st=st'->Ok C c->Ns h c->Kept ns h c->Fin C D f c
abbrev K4(C:Ct)(ns:Nat->Bool)(m:M Fl):TS:=λD σ H=>∃c:Cf,c.σ=σ/\c.H=H/\Ok C c/\W m c.st (fG C c ns D)
def sW(j:Ok C c)(n:Ns i c)(k:Kept ns i c)(h:W mm c.st (fG C i ns D)):K4 C ns mm D c.σ c.H :=
 ⟨c,rfl,rfl,j,h.mono λf st l q e r s k2=>l q e r (n.trans s) (k.trans k2)⟩
def PS.weak(h:L2.PS X st t)(i:∀D σ H,t' D σ H->t D σ H):L2.PS X st t':=λc s σ H D I q=>h c s σ H D I (i D σ H q)
def Lu.weak(h:Lu X rest t)(i:∀D σ H,t' D σ H->t D σ H):Lu X rest t':=λc s σ H D I q=>h c s σ H D I (i D σ H q)
def pF(i:∀j,Lw j=b8->ns j=b8)(h:K4 C Lw mm D σ H):K4 C ns mm D σ H :=
 let ⟨c,k,l,n,w⟩:=h;⟨c,k,l,n,w.mono λf st q r e s t k2=>q r e s t (k2.le i)⟩
def H_:Lu X [] (K4 C ns (pure .nx)):=by
 show Lu.weak uH ?_;rintro D σ H ⟨c,rfl,rfl,i,h⟩;rw[aq]at h;show h c rfl i (Ns.refl c) Kept.refl
abbrev CW(m:M Fl)(f:Fl):M Fl:=match f with
 |.nx=>m
 |f=>pure f
def Gi(l:L2.PS X st (K4 C ns f))(n:Lu X rest (K4 C ns g)):Lu X (st::rest) (K4 C ns (f >>= CW g)):=by
 show Lu.weak (qg l n) ?_;rintro D σ H ⟨q,rfl,rfl,r,h⟩;rw[ai]at h;show⟨q,rfl,rfl,r,h.mono λs st1 w j e c i k1=>?_⟩;subst e;cases s with
 |nx=>show sW c i k1 w
 |bk=>rw[show CW g .bk=pure .bk from rfl,aq]at w;show w j rfl c i k1
 |ct=>rw[show CW g .ct=pure .ct from rfl,aq]at w;show w j rfl c i k1
 |rt k u=>rw[show CW g (.rt k u)=pure (.rt k u) from rfl,aq]at w;show w j rfl c i k1
def Ia(i:PE X a (Ka C ma))(hs:PD a b6 pos.line X.env=pure cc):L2.PS X (.Expr a pos) (K4 C ns (ma >>= λ_=>pure .nx)):=by
 show PS.weak (kD i hs) ?_;rintro D σ H ⟨k,rfl,rfl,j,h⟩;show aV j h λx c v t w=>?_;rw[aq]at w;have:=w c rfl t.ok t.nx (Kept.of t.hσ);rw[<-t.hσ];show this
def Gj:L2.PS X (.Return b6 pos) (K4 C ns (pure (.rt .loc .Kb))):=by
 show PS.weak BK ?_;rintro D σ H ⟨c,rfl,rfl,i,h⟩;rw[aq]at h;show h c rfl i (Ns.refl c) Kept.refl .Kb rfl
def zG(ok:Ok C J)(t:M5 C J c x v)(w:W (retS x) c.st (fG C J ns D)):D.rt v c.H:=by
 have⟨k,u⟩:=x;have⟨B,h,n,r⟩:=t;cases k with
 |own =>
  rw[show retS (.own,u)=pure (.rt .own u) from rfl,aq]at w;have⟨A,e,h1,h2,h3,h4⟩:=r;show w c rfl h n (Kept.of B) v ⟨A,e,(ok.kl h1).1,h2,h3,h4⟩
 |loc =>
  rw[show retS (.loc,u)=pure (.rt .loc u) from rfl,aq]at w;show w c rfl h n (Kept.of B) v r
 |any =>
  rw[show retS (.any,u)=if Kw u=b8 then pure (.rt .loc u) else pure (.rt .any u) from rfl]at w;split at w
  .rw[aq]at w;show w c rfl h n (Kept.of B) v (Rep.Kw (by assumption) r)
  .rw[aq]at w;show w c rfl h n (Kept.of B) v r
 |bor j =>
  have⟨fl,st',e,w⟩:=w;rw[show retS (.bor j,u) c.st=match c.st[j]? with|some (a5 (.own,u))=>a5 (Ex.ok (Fl.rt .own u),c.st.set j b6)|_=>b6 from rfl]at e;split at e
  .rename_i u' I;cases e;have NX:j<c.st.length:=(dt.mp I).1;have y:∀(i:Nat) k u',(c.st.set j b6)[i]?=a5 (a5 (k,u'))->i≠j/\c.st[i]?=a5 (a5 (k,u')):=λi k u' e=>by
    by_cases L:i=j
    .subst L;rw[fR NX]at e;cases e
    .rw[i1 (qP L)]at e;show⟨L,e⟩
   have⟨v',l,A,er,q1,q2,q3,q4⟩:=h.sl j _ _ I;have N:c.σ[j]?=a5 (a5 v):=r.2;rw[N]at l;cases l;subst er;have Q:∀a,({c with st:=c.st.set j b6}:Cf).R1 a->c.R1 a:=λa ⟨i,k,u2,hk,l,s⟩=>⟨i,k,u2,hk,(y i k u2 l).2,s⟩
   have hR:∀a,({c with st:=c.st.set j b6}:Cf).R a->c.R a:=λa z=>z.elim (λz=>.inl (Q a z)) λ⟨i,u2,O,l,s,G⟩=>.inr ⟨i,u2,O,(y i .J6 u2 l).2,s,G⟩;have OL:Nj C {c with st:=c.st.set j b6}:=h.dd.of rfl (λi u2 e=>⟨(y i .J6 u2 e).2,rfl⟩) (λa z=>.inl (Q a z)) (.up λ_ z=>z) λi a z=>⟨(h.root (.inr ⟨i,z⟩)).1,λo q=>q⟩
   have ZE:Ok C {c with st:=c.st.set j b6}:=⟨h.same,h.L5,h.par,h.io,by simp[h.len],λi k u2 e=>h.sl i k u2 (y i k u2 e).2,λi T k k' Y u2 r hk Kx l s G e4=>h.inj i T k k' Y u2 r hk Kx (y i k Y l).2 (y T k' u2 s).2 G e4,OL⟩
   have nn:Ns J {c with st:=c.st.set j b6}:=⟨n.keep,n.there,λa z=>n.roots a (hR a z),n.sub,n.new⟩
   show w {c with st:=c.st.set j b6} rfl ZE nn (Kept.of B) (.ref A) ⟨A,rfl,q3,q1,λz=>?_,q4⟩
   .rcases z with⟨i,k,u2,hk,l,s⟩|⟨i,u2,O,l,s,G⟩
    .have⟨ne,Lb⟩:=y i k u2 l;show ne (h.inj i j k .own u2 _ A hk rfl Lb I s N)
    .show h.dd.d1 i A ⟨u2,O,(y i .J6 u2 l).2,s,G⟩ ⟨j,.own,_,rfl,I,N⟩
  .cases e
 |_=>show r.elim
def Ib(j:PE X a (Ka C ma)):L2.PS X (.Return (a5 a) pos) (K4 C ns (ma >>= retS)):=by
 show PS.weak (ET j) ?_;rintro D σ H ⟨k,rfl,rfl,i,h⟩;show aV i h λx c v t w=>zG i t w
end
section
def lL(f:∀j,ns j=b8->j≠i)(g:Ok C a)(t:M5 C a c r v)(h:i<c.σ.length)(w:W (eL i r >>= λ_=>(pure .nx:M Fl)) c.st (fG C a ns D)):D.nx (a.σ.set i (a5 v)) c.H:=by
 rw[ai]at w;have⟨b,d,k,l,m,q⟩:=pB (r:=r) g t.ok t.nx h t.rx w;rw[aq]at q;have z:=q b rfl l m ⟨λj n=>by rw[d,t.hσ,i1 (qP (f j n))],by rw[d,t.hσ];simp⟩;have e:D.nx b.σ b.H:=z;rw[d,k,t.hσ]at e;show e
def Ec(g:∀j,ns j=b8->j≠i)(k:X.N.Nodup)(e:X.N[i]?=a5 x)(l:Loc X.env.scope x)(m:X.fn x=b8\/X.env.scope.names.lookup x=a5 .local)(n:PE X a (Ka C o))
  (hs:PD a (a5 (.Name x pos')) pos.line X.env=pure cc):L2.PS X (.Assign [.Name x pos'] a pos) (K4 C ns (o >>= λr=>eL i r >>= λ_=>pure .nx)):=by
 rintro b s σ H D I ⟨d,rfl,rfl,f,h⟩;have p:i<d.σ.length:=by rw[I.len];show(dt.mp e).1
 show rZ k e l n hs m b s d.σ d.H D I (aV f h λr c v t w=>lL g f t (by rw[t.hσ];show p) w)
def Gk(m:∀j,ns j=b8->j≠i)(S:eJ X N own scope)(o:X.calm=b8)(p:X.N.Nodup)(g:X.N[i]?=a5 y)(q:X.env.scope.names.lookup y=a5 .local)
  (u:PI X e a (Nt C z ms)) (A:∀D s H ex,PG (Lo X N scope D s H ex) e (tG C t (gs own.length))) (B:∀D s H ex,Ot (Lo X N scope D s H ex) b (LA C G)) (J:∀D s H ex,PE (Lo X N scope D s H ex) elt (Ka C L))
  (O:PD (.ListComp elt [⟨e,a,b,0⟩] scope pos) (a5 (.Name y Q)) T.line X.env=pure b8) (hs:∀x,MV a X.env x=pure x) :
  L2.PS X (.Assign [.Name y Q] (.ListComp elt [⟨e,a,b,0⟩] scope pos) T)
   (K4 C ns ((ms >>= λrs=>aF rs >>= λ_=>M.Kp (Mg z rs) >>= λxs=>bW own.length t G L rs xs [] >>= λus=>pure (.own,.lst us)) >>= λr=>eL i r >>= λ_=>pure .nx)):=by
 rintro d s σ H D I ⟨f,rfl,rfl,k,h⟩;have Y:i<f.σ.length:=by rw[I.len];show(dt.mp g).1
 show B6 S o p g q u A B J O hs d s f.σ f.H D I ?_;rw[ai]at h;show nN k (h.mono λr st1 w c v l e2 Kq n rt=>?_);subst e2;show lL m k ⟨l,Kq,n,rt⟩ (by rw[l];show Y) w
def Gm(g:∀j,ns j=b8->j∉is)(i:PE X a (Ka C k))(l:PG X b (tG C b8 is))(hs:Si [b] a pos.line X.env=pure cc)(m:WW [b] a X.env=pure b6)(n:(Q2 [b] X.env).map (·.2)=[Ug b X.env]):
  L2.PS X (.Assign [b] a pos) (K4 C ns (k >>= λr=>dN b8 is r >>= λ_=>pure .nx)):=by
 show PS.weak (rY i l hs m n) ?_;rintro D σ H ⟨o,rfl,rfl,d,h⟩;show aV d h λr c v t w=>?_;rw[ai]at w;show⟨o,c,r,t.hσ,rfl,d,t.ok,t.nx,t.rx,w.mono λ_ st1 f p e q s u hl=>?_⟩;subst e;rw[aq]at f;show f p rfl q s ⟨λj x=>by rw[u j (g j x),t.hσ],by rw[hl,t.hσ]⟩
def Ic(i:PT X a (LA C j))(k:Lu X ca (K4 C ns f))(l:Lu X m (K4 C ns g)):L2.PS X (.If a ca m pos) (K4 C ns (j >>= λp=>if p=b8 then f else g)):=by
 show PS.weak (Hl i k l) ?_;rintro D σ H ⟨o,rfl,rfl,q,h⟩;show dP q h λp c b d n w=>?_;have e:o.σ=c.σ:=b.symm;rw[e];cases p with
 |true=>rw[Ž rfl]at w ⊢;show sW d n (Kept.of b) w
 |false=>rw[ž js]at w ⊢;show sW d n (Kept.of b) w
def Ie(L:YX (fS X.prog X.w) X.A X.env X.xe)(N:PT X a (LA C g))(O:Lu X body (K4 C ns f)):L2.PS X (.While a body [] pos) (K4 C ns (fL g f n)):=by
 show PS.weak (yp L N O) ?_;rintro D σ H ⟨d,rfl,rfl,Q,h⟩;show⟨λm t H'=>∃c,c.H=H'/\c.σ=t/\Ok C c/\Ns d c/\Kept ns d c/\W (fL g f m) c.st (fG C d ns D),⟨n,d,rfl,rfl,Q,Ns.refl d,Kept.refl,h⟩,?_⟩;rintro m t H' ⟨c,rfl,rfl,T,v,x,w⟩;cases m with
 |zero=>show(bu.mp w).elim
 |succ m =>
  rw[show fL g f (m+1)=g >>= λb=>if b=b8 then(f >>= λf'=>match f' with|.nx=>fL g f m|.ct=>fL g f m|.bk=>pure .nx|.rt k u=>pure (.rt k u)) else pure .nx from rfl]at w;show dP T w λp l y B G i=>?_;have k2:Kept ns c l:=Kept.of y;rw[<-y];cases p with
  |false =>
   rw[ž js]at i ⊢;rw[aq]at i;show i l rfl B (v.trans G) (x.trans k2)
  |true =>
   rw[Ž rfl]at i ⊢;show⟨λI J=>∃c,c.H=J/\c.σ=I/\Ok C c/\Ns d c/\Kept ns d c/\W (fL g f m) c.st (fG C d ns D),λI J z=>⟨m,Ph m,z⟩,?_⟩;rw[ai]at i;show⟨l,rfl,rfl,B,i.mono λY KS j o e q n3 k3=>?_⟩;subst e;have r:=(v.trans G).trans n3;have s:=(x.trans k2).trans k3;cases Y with
   |nx=>show⟨o,rfl,rfl,q,r,s,j⟩
   |ct=>show⟨o,rfl,rfl,q,r,s,j⟩
   |_=>rw[aq]at j;show j o rfl q r s
def Ig(hp:YX (fS X.prog X.w) X.A X.env X.xe)(hc:X.calm=b8)(hi:PI X tg a (Nt C ik ms))(hg:PG X tg (tG C t is))(hb:Lu X body (K4 C (L7 s) f))(hs:∀x,MV a X.env x=pure x)
  (Li:∀j,ns j=b8->j∉is/\L7 s j=b8) :
  L2.PS X (.For tg a body [] pos) (K4 C ns (ms >>= λrs=>aF rs >>= λ_=>M.Kp (Mg ik rs) >>= λxs=>if vf rs is s=b8 then forM t is f rs xs else M.fail)):=by
 show PS.weak (E2 hp hc hi hg hb hs) ?_;rintro D σ H ⟨d,rfl,rfl,ok,h⟩;rw[ai]at h;show⟨d,rfl,rfl,ok,?_⟩;rw[ai];show h.mono λrs st1 v=>?_;rw[ai,cn]at v ⊢;show⟨v.1,?_⟩;have h2:=v.2;rw[ai]at h2 ⊢;show h2.mono λxs st2 y=>?_;rw[aq];intro b J e1 e2 Ke n1 Kf B;subst e2
 dsimp only at Kf B
 split at y
 .rename_i P4;have VC:∀j u,(Kd.bor j,u)∈rs->j∉is/\L7 s j=b8:=λj u o=>by
   have:=i6.mp P4 _ o;simpa using this
  show⟨λi m l H'=>∃c,c.H=H'/\c.σ=l/\Ok C c/\Ns b c/\Kept ns d c/\lJ rs b c/\m=xs.length - i/\i<=xs.length/\W (forM t is f rs (xs.drop i)) c.st (fG C d ns D),
   ⟨xs.length,b,rfl,e1,Ke,Ns.refl b,Kept.of e1,λ_ _ _=>rfl,by simp,kr _,by simpa using y⟩,?_⟩
  rintro i m l H' ⟨c,rfl,rfl,G,p,kc,I,rfl,LL,w⟩;by_cases L:i<xs.length
  .right
   rw[TL L,show forM t is f rs (xs[i]::xs.drop (i+1))=aF rs >>= λ_=>dN t is xs[i] >>= λ_=>f >>= λf'=>match f' with|.nx=>forM t is f rs (xs.drop (i+1))|.ct=>forM t is f rs (xs.drop (i+1))|.bk=>pure .nx|.rt k u=>pure (.rt k u) from rfl,ai,cn]at w;have⟨NY,w⟩:=w;obtain⟨N,_⟩:=B c G p I NY;have⟨Vw,QL,Vx⟩:=N i xs[i] (by simp[L]);show⟨QL,λl H'=>∃c,c.H=H'/\c.σ=l/\Ok C c/\Ns b c/\Kept ns d c/\lJ rs b c/\W (forM t is f rs (xs.drop (i+1))) c.st (fG C d ns D),λl H' ⟨c',z1,z2,z3,z4,z5,z6,z7⟩=>⟨xs.length - (i+1),⋯,c',z1,z2,z3,z4,z5,z6,rfl,L,z7⟩,λx H' hy=>?_⟩;have⟨n,rfl,q,e5,Ks,n2,rt⟩:=Vx x H' hy;rw[ai]at w;have ZF:aN C n n xs[i].1 xs[i].2 x:=by
    rcases Vw with z|z
    .rw[z]at rt ⊢;show rt
    .rw[z]at rt ⊢;show rt
   show⟨n,n,xs[i],q,rfl,Ks,Ks,Nx.refl n,ZF,?_⟩;rw[e5];show w.mono λ_ KS w3 c3 e6 MQ n3 Xb QM=>?_;subst e6;rw[ai]at w3;show⟨c3,rfl,rfl,MQ,w3.mono λfl Qr r g e O n4 Q=>?_⟩;subst e;have T:Ns b g:=((p.trans n2.toNs).trans n3.toNs).trans n4;have Y:Kept ns d g:=by
    show kc.trans ⟨λj hj=>?_,by rw[Q.2,QM,q]⟩;have⟨j1,j2⟩:=Li j hj;rw[Q.1 j j2,Xb j j1,q]
   have Xc:lJ rs b g:=λj u o=>by
    have⟨j1,j2⟩:=VC j u o;rw[Q.1 j j2,Xb j j1,q];show I j u o
   cases fl with
   |nx=>show⟨g,rfl,rfl,O,T,Y,Xc,r⟩
   |ct=>show⟨g,rfl,rfl,O,T,Y,Xc,r⟩
   |_=>rw[aq]at r;show r g rfl O (n1.toNs.trans T) Y
  .left
   have ZG:i=xs.length:=by lia
   subst ZG;rw[ĉ,show forM t is f rs []=aF rs >>= λ_=>pure .nx from rfl,ai,cn,aq]at w;obtain⟨_,N⟩:=B c G p I w.1;show⟨N _ (i0 _),w.2 c rfl G (n1.toNs.trans p) kc⟩
 .show(bu.mp y).elim
end
section
def Ok.mod(b:Ok C c)(n:Ns c0 c)(hk:k.root=b8)(y:c.st[i]?=a5 (a5 (k,u)))(D:c.σ[i]?=a5 (a5 (.ref r)))(K2:∀a,a≠r->H' a=c.H a)(hr:∃o,H' r=a5 o)
  (new:Mv c.S c.H c.S H'->cW C c.S H' r u'):Ok C {c with H:=H',st:=c.st.set i (a5 (k,u'))}/\Ns c0 {c with H:=H',st:=c.st.set i (a5 (k,u'))}:=by
 have MC:c.R1 r:=⟨i,k,u,hk,y,D⟩
 have hR:c.R r:=.inl MC;have⟨I,q2,q3,o,ho,P5⟩:=b.root hR;have J:i<c.st.length:=(dt.mp y).1;have m:∀{a:ez} {o':HO},a≠r->c.H a=a5 o'->H' a=a5 o':=λne e=>by rw[K2 _ ne];show e
 have G:Mv c.S c.H c.S H':=⟨λ_ z=>z,λa o' e t=>m (λz=>by subst z;rw[ho]at e;cases e;show P5 t) e,λa o' z e=>m (λd=>I (d▸z)) e⟩
 have OC:Mv (PS C c.S) c.H (PS C c.S) H':=⟨λ_ z=>z,G.QC,λa o' z e=>m (λd=>by subst d;show z.elim q2 I) e⟩
 have L:∀(j:Nat) k' w,(c.st.set i (a5 (k,u')))[j]?=a5 (a5 (k',w))->j≠i->c.st[j]?=a5 (a5 (k',w)):=λj k' w e ne=>by rw[i1 (qP ne)]at e;show e
 have f:∀(j:Nat) k' w,k'.root=b8->(c.st.set i (a5 (k,u')))[j]?=a5 (a5 (k',w))->∃N,c.st[j]?=a5 (a5 (k',N)):=λj k' w _ e=>by
  by_cases p:j=i
  .subst p;rw[fR J]at e;cases e;show⟨u,y⟩
  .show⟨w,L j k' w e p⟩
 have b1:∀a,({c with H:=H',st:=c.st.set i (a5 (k,u'))}:Cf).R1 a->c.R1 a:=λa Ky=>by
  have⟨j,k',w,g,h,l⟩:=Ky;have⟨N,O⟩:=f j k' w g h;show⟨j,k',N,g,O,l⟩
 have dD:∀(j:Nat) (w:U),(c.st.set i (a5 (k,u')))[j]?=a5 (a5 (.J6,w))->c.st[j]?=a5 (a5 (.J6,w)):=λj w e=>by
  by_cases p:j=i
  .subst p;rw[fR J]at e;cases e;cases hk
  .show L j .J6 w e p
 have OL:Nj C {c with H:=H',st:=c.st.set i (a5 (k,u'))}:=b.dd.of rfl (λj w e=>⟨dD j w e,rfl⟩) (λa z=>.inl (b1 a z)) G λj a z=>⟨(b.root (.inr ⟨j,z⟩)).1,λo' e=>m (λd=>b.dd.d1 j a z (d▸MC)) e⟩
 show⟨⟨λa o' e z=>?_,λa z=>?_,b.par,λa z=>?_,by simp[b.len],λj k' w e=>?_,λj1 j2 k1 k2 w1 w2 q g s h l Q e4=>?_,OL⟩,n.trans ⟨λa o' e z=>m (λd=>z (d▸hR)) e,λa o' e=>?_,λa z=>?_,λ_ z=>z,λ_ z=>.inl z⟩⟩
 .have g:=b.same a o' e z;show m (λd=>?_) g;subst d;rcases q3 with q3|q3
  .rw[e]at q3;cases q3
  .show z q3
 .have⟨g,o',s⟩:=b.L5 a z;show⟨g,o',m (λd=>I (d▸z)) s⟩
 .have⟨g,o',s⟩:=b.io a z;show⟨g,?_⟩;by_cases A:a=r
  .subst A;show hr
  .show⟨o',m A s⟩
 .by_cases p:j=i
  .subst p;rw[fR J]at e;cases e;have⟨v,h,l⟩:=b.sl j _ _ y;rw[D]at h;cases h;show⟨.ref r,D,?_⟩;have nr:=new G;cases k with
   |own=>obtain⟨q,x,B,T,Y,_⟩:=l;cases x;show⟨r,rfl,B,T,Y,nr⟩
   |io=>obtain⟨q,x,B,T,Y,_⟩:=l;cases x;show⟨r,rfl,B,T,Y,nr⟩
   |_=>cases hk
  .have e0:=L j k' w e p;have⟨v,h,l⟩:=b.sl j k' w e0;show⟨v,h,l.mv G OC λKx q x=>?_⟩;obtain⟨RL,LQ,B,_⟩:=l.rt Kx;rw[x]at LQ;cases LQ;show⟨B,λo' e=>m (λz=>?_) e⟩;subst z;show p (b.inj j i k' k w u q Kx hk e0 y (by rw[h,x]) D)
 .have⟨S9,O⟩:=f j1 k1 w1 g h;have⟨Xd,a2⟩:=f j2 k2 w2 s l;show b.inj j1 j2 k1 k2 S9 Xd q g s O a2 Q e4
 .by_cases A:a=r
  .subst A;show hr
  .show⟨o',m A e⟩
 .rcases z with z|⟨j,w,q,h,l,Q⟩
  .show .inl (.inl (b1 a z))
  .show .inl (.inr ⟨j,w,q,dD j w h,l,Q⟩)
def gy{f:U->Option U}{st:ay}(h:W (modS i f) st Q):∃k u u',k.root=b8/\st[i]?=a5 (a5 (k,u))/\f u=a5 u'/\Q () (st.set i (a5 (k,u'))):=by
 obtain⟨_,st',e,q⟩:=h;unfold modS at e;split at e
 .rename_i k u hs;split at e
  .rename_i hk;cases a:f u with
   |none=>rw[a]at e;cases e
   |some u'=>rw[a]at e;cases e;show⟨k,u,u',hk,hs,a,q⟩
  .cases e
 .cases e
def dc{st:ay}(h:W (dn i) st Q):∃k u,k≠.J6/\st[i]?=a5 (a5 (k,u))/\Q (if k.root=b8 then .bor i else k,u) st:=by
 have⟨r,st',e,q⟩:=h;unfold dn at e;split at e
 .cases e
 .rename_i k u a hs;cases e;show⟨k,u,λz=>a z,hs,q⟩
 .cases e
def Ih(Y:C.K=X.K)(hN:X.N[i]?=a5 x)(hv:Ml X.env.scope x)(hd:(x==("__debug__":Str))=cc)(KI:(x==("__classdict__":Str))=cc)(ha:PE X a (Ka C ma))
  (Ln:((zy g (i2 [a] X.env)).all (λx=>!x.1)&&(RC g (ML [] X.env)).all (λx=>x.1.isSome)
   && c4 ([a].length+([]:List O3).length+(if ([]:List O3).isEmpty then 0 else 1)<30))=b8)
  (Kh:(b.endLine==g.line)=b8) (o:i2 [a] X.env=[(cc,t6 a X.env)]) :
  L2.PS X (.Expr (.Call (.Attribute (.Name x px) "append" b) [a] [] g) pos) (K4 C ns (dn i >>= λx=>OI x.2 >>= λ_=>ma >>= λr=>lift r >>= λu=>modS i (zo u) >>= λ_=>pure .nx)):=by
 show PS.weak (kD (m9 PySem.F.plainAttrs_list PySem.F.slot_list_append PySem.F.type_list_append ng (bU hN hv hd KI) (dA ha fP o) rfl Ln Kh o rfl)) ?_;rintro D σ H ⟨p,rfl,rfl,f,h⟩;rw[ai]at h;have⟨k0,s,Nm,y,h⟩:=dc h;have⟨A,l,m⟩:=f.sl i k0 s y;show⟨A,l,?_⟩;cases s with
 |lst B =>
  rw[ai,show OI (U.lst B)=pure () from rfl,aq]at h;have RQ:aN C p p (if k0.root=b8 then .bor i else k0) (.lst B) A:=by
   by_cases hk:k0.root=b8
   .rw[Ž hk];show⟨⟨k0,hk,y⟩,l⟩
   .rw[ž hk];cases k0 with
    |loc=>show m
    |any=>show m
    |bor j=>show m.elim
    |J6=>show(Nm rfl).elim
    |_=>show absurd rfl hk
  obtain⟨a0,QK,n,Qo,_⟩:=RQ.list f;show⟨by rw[n];show .inl ⟨rfl,QK,Y▸Qo⟩,?_⟩;show aV f h λr c v t w=>?_;rw[ai]at w;obtain⟨S',st',u,sS,G,n1,d,I,_,_⟩:=iV f t.ok t.nx t.rx.w w;rw[ai]at I;have⟨k,u1,u2,hk,hs,e,q⟩:=gy I;have J:c.σ[i]?=a5 (a5 (.ref a0)):=by rw[t.hσ,l,n]
  cases u1 with
  |lst L =>
   simp only[zo]at e;split at e
   .rename_i hz;cases e;have⟨v',e1,e2⟩:=G.sl i k (.lst L) hs;have O:c.σ[i]?=a5 (a5 v'):=e1;rw[J]at O;cases O;obtain⟨r',er,_,_,_,ws,hw,Q⟩:=e2.rt hk;cases er;have S_:c.H a0=a5 (.lst ws):=hw;show⟨a0,ws,v,n,rfl,S_,by rw[<-Q.len];show hz,?_⟩;rw[aq]at q;have⟨Ks,n2⟩:=Ok.mod (c:={c with S:=S',st:=st' }) (H':=upd c.H a0 (.lst (ws++[v]))) (u':=.lst (L++[u])) G n1.toNs hk hs J (λa ne=>au ne) ⟨_,az⟩ λT=>⟨ws++[v],az,(Q.mv T).snoc (d.mv T)⟩
    have z:=q _ rfl Ks n2 (Kept.of t.hσ);rw[<-t.hσ];show z
   .cases e
  |_=>cases e
 |_=>rw[ai]at h;show(bu.mp h).elim
def Ii(y:C.K=X.K)(hN:X.N[i]?=a5 x)(hv:Ml X.env.scope x)(hd:(x==("__debug__":Str))=cc)(KI:(x==("__classdict__":Str))=cc)(ha:PE X a (Ka C ma))
  (Ln:((zy g (i2 [a] X.env)).all (λx=>!x.1)&&(RC g (ML [] X.env)).all (λx=>x.1.isSome)
   && c4 ([a].length+([]:List O3).length+(if ([]:List O3).isEmpty then 0 else 1)<30))=b8)
  (Kh:(f.endLine==g.line)=b8) (A:i2 [a] X.env=[(cc,t6 a X.env)]) :
  L2.PS X (.Expr (.Call (.Attribute (.Name x px) "extend" f) [a] [] g) pos) (K4 C ns (dn i >>= λx=>OI x.2 >>= λ_=>ma >>= λr=>modS i (lH r) >>= λ_=>pure .nx)):=by
 show PS.weak (kD (m9 PySem.F.plainAttrs_list PySem.F.slot_list_extend PySem.F.type_list_extend sD (bU hN hv hd KI) (dA ha fP A) rfl Ln Kh A rfl)) ?_;rintro D σ H ⟨B,rfl,rfl,l,h⟩;rw[ai]at h;have⟨k0,G,Nm,I,h⟩:=dc h;have⟨J,m,n⟩:=l.sl i k0 G I;show⟨J,m,?_⟩;cases G with
 |lst L =>
  rw[ai,show OI (U.lst L)=pure () from rfl,aq]at h;have RQ:aN C B B (if k0.root=b8 then .bor i else k0) (.lst L) J:=by
   by_cases hk:k0.root=b8
   .rw[Ž hk];show⟨⟨k0,hk,I⟩,m⟩
   .rw[ž hk];cases k0 with
    |loc=>show n
    |any=>show n
    |bor j=>show n.elim
    |J6=>show(Nm rfl).elim
    |_=>show absurd rfl hk
  obtain⟨a0,QK,o,Qo,_⟩:=RQ.list l;show⟨by rw[o];show .inl ⟨rfl,QK,y▸Qo⟩,?_⟩;show aV l h λr c v t w=>?_;rw[ai]at w;have⟨k,p,u2,hk,hs,d,q⟩:=gy w;have O:c.σ[i]?=a5 (a5 (.ref a0)):=by rw[t.hσ,m,o]
  have⟨rk,ru⟩:=r;have key:∃e zs b vs,p=.lst e/\v=.ref b/\(Kz C.K c.H b vs\/KN C.K c.H b vs)/\ak C c.S c.H zs vs/\e.length+zs.length<=cK/\u2=.lst (e++zs):=by
   cases ru with
   |lst zs =>
    cases p with
    |lst e =>
     simp only[lH]at d;split at d
     .rename_i hz;cases d;have⟨b,vs,ev,s,u⟩:=t.rx.list t.ok;show⟨_,_,b,vs,rfl,ev,.inl s,dO hz.2 u,hz.1,rfl⟩
     .cases d
    |_=>simp[lH]at d
   |tup zs =>
    cases p with
    |lst e =>
     simp only[lH]at d;split at d
     .rename_i hz;cases d;have⟨b,vs,ev,s,u⟩:=t.rx.tuple t.ok;show⟨_,_,b,vs,rfl,ev,.inr s,dO hz.2 u,hz.1,rfl⟩
     .cases d
    |_=>simp[lH]at d
   |_=>simp[lH]at d
  have⟨e,zs,b,vs,rfl,rfl,hB,hz,hl,rfl⟩:=key;have⟨v',Q,e2⟩:=t.ok.sl i k (.lst e) hs;rw[O]at Q;cases Q;obtain⟨r',er,_,_,_,ws,hw,T⟩:=e2.rt hk;cases er;show⟨a0,b,ws,vs,o,rfl,hw,y▸hB,by rw[<-T.len,<-hz.len];show hl,?_⟩;rw[aq]at q;have⟨Ks,n2⟩:=Ok.mod (c:=c) (H':=upd c.H a0 (.lst (ws++vs))) (u':=.lst (e++zs)) t.ok t.nx.toNs hk hs O (λa ne=>au ne) ⟨_,az⟩ λY=>⟨ws++vs,az,(T.mv Y).append (hz.mv Y)⟩
  have z:=q _ rfl Ks n2 (Kept.of t.hσ);rw[<-t.hσ];show z
 |_=>rw[ai]at h;show(bu.mp h).elim
def oG.or(h:oG X t)(h':oG X t'):oG X (λo i v H Q=>t o i v H Q\/t' o i v H Q):=λa s σ H o i v b c u Q I d e f q =>
 q.elim (h a s σ H o i v b c u Q I d e f) (h' a s σ H o i v b c u Q I d e f)
def set_dict(c:X.A.units+1<L8):oG X (λo i v H Q=>∃a H',o=.ref a/\wX H a i v H'/\Q H'):=by
 rintro b s σ H o i v h j u Q I d e rv ⟨a,H',rfl,g,q⟩;cases d;show wY c I g e rv λs' f=>⟨H',f,q⟩
def zH{S:ez->Prop}{kvs:List (Key×V)}(a:kvs.map (·.1)=ks.map l0)(c:ak C S H us (kvs.map (·.2)))(d:Rep C S H u v):
  (putK kvs (l0 y) v).map (·.1)=(dput ks us y u).1.map l0/\ak C S H (dput ks us y u).2 ((putK kvs (l0 y) v).map (·.2)):=by
 have e:(kvs.any λkv=>c4 (kv.1=(l0 y:Key)))=c4 (y∈ks):=by
  rw[iJ];show(da (x:=y) a c).2
 unfold putK dput;rw[e];by_cases b:y∈ks
 .rw[Ž (by simpa using b),Ž b];constructor
  .rw[i9];rw[<-a];apply tr;intro p _;change(if p.1=l0 y then(p.1,v) else p).1=p.1;split<;>rfl
  .clear e b;induction kvs generalizing ks us with
   |nil =>
    have:ks=[]:=by simpa using a.symm
    subst this;simp[ak]
   |cons p kvs g =>
    cases ks with
    |nil=>simp at a
    |cons k ks =>
     cases us with
     |nil=>simp[ak]at c
     |cons j us =>
      rw[d3,d3,Rx]at a;have⟨l,m,f,h,i⟩:=c;rw[d3]at f;cases f;rw[d3,PQ,d3,d3];show⟨_,_,rfl,?_,g a.2 i⟩;by_cases hk:k=y
      .rw[Ž (by show hk),Ž (by rw[a.1,hk])];show d
      .rw[ž (by show hk),ž (by rw[a.1];intro z;show hk (WC z))];show h
 .rw[ž (by simpa using b),ž b];show⟨by rw[ki,a,ki];rfl,by rw[ki];show c.snoc d⟩
def Ij(hP:C.P=X.prog)(hw:C.w=X.w)(hK:C.K=X.K)(hu:X.A.units+60<L8)(hN:X.N[i]?=a5 x)(hv:Ml X.env.scope x)(hd:(x==("__debug__":Str))=cc)(KI:(x==("__classdict__":Str))=cc)
  (ha:PE X a (Ka C ma)) (hb:PE X b (Ka C mb)) (hs:Si [.Subscript (.Name x B) b p] a pos.line X.env=pure cc) (VF:WW [.Subscript (.Name x B) b p] a X.env=pure b6)
  (O:∀v,Ug (.Subscript (.Name x B) b p) X.env v=(do
   let G <-MT [v] (t6 (.Name x B) X.env)
   let Q <-MT [v,G] (t6 b X.env)
   Zw p
   MT [v,G,Q] (Vr G Q v)
   XQ [v,G,Q] [])) :
  L2.PS X (.Assign [.Subscript (.Name x B) b p] a pos) (K4 C ns (ma >>= λr=>dn i >>= λ_=>mb >>= λx=>cX [r,x] >>= λus=>modS i (vd us) >>= λ_=>pure .nx)):=by
 show PS.weak (rY ha (yo (bU hN hv hd KI) hb (oG.or set_list (set_dict (X:=X) ⋯)) O) hs VF rfl) ?_;rintro D σ H ⟨c0,rfl,rfl,ok,h⟩;show aV ok h λr c v t w=>?_;rw[ai]at w;have⟨k0,u0,Nm,LH,w⟩:=dc w;have⟨v0,e0,M6⟩:=t.ok.sl i k0 u0 LH;show⟨v0,by rw[<-t.hσ];show e0,?_⟩;rw[ai]at w;show⟨c,t.hσ,rfl,t.ok,w.mono λy st2 w2 f m I e4 Ks n2 r2=>?_⟩;subst e4;rw[ai]at w2;have VG:=t.nx.trans n2;have T:cJ C c0 f [r,y] [v,m]:=⟨v,[m],rfl,t.rx.w.on t.ok n2 (I.trans t.hσ.symm),⟨m,[],rfl,(r2.w).from t.nx,rfl,λ_ i r' Y e _=>by simp at e⟩,λhk i r' Y e5 e6 Kx=>by
  cases i with
  |zero=>simp at e5 e6;subst e5 e6;show pv t.rx.w r2.w hk Kx
  |succ i=>simp at e5⟩
 have⟨S',st',us,sS,Ke,n1,g,w1⟩:=iW ok Ks VG T w2;rw[ai]at w1;have⟨k,J,u2,hk,Mc,d,q⟩:=gy w1;rw[aq]at q;have hσ:f.σ[i]?=a5 (a5 v0):=by rw[I,<-t.hσ];show e0
 have⟨Y,e1,e2⟩:=Ke.sl i k J Mc;have Lb:f.σ[i]?=a5 (a5 Y):=e1;rw[hσ]at Lb;cases Lb;have⟨a0,er,z1,z2,z3,l⟩:=e2.rt hk;subst er;have ZH:({f with S:=S',st:=st' }:Cf).σ[i]?=a5 (a5 (.ref a0)):=hσ;obtain⟨S9,ws,ew,Xe,Xd,ab,ac,Xf,ZI⟩:∃u ws,us=[u,ws]/\Rep C S' f.H u v/\∃(_:Unit) (_:Unit),True/\Rep C S' f.H ws m/\True:=by
  cases us with
  |nil=>simp[ak]at g
  |cons u us =>
   obtain⟨_,_,e,q1,q2⟩:=g;cases e;cases us with
   |nil=>simp[ak]at q2
   |cons u' us =>
    obtain⟨_,_,e,q3,q4⟩:=q2;cases e;cases us with
    |nil=>show⟨u,u',rfl,q1,(),(),trivial,q3,trivial⟩
    |cons _ _=>obtain⟨_,_,e,_⟩:=q4;cases e
 subst ew;rw[show vd [S9,ws] J=dH ws S9 J from rfl]at d;have n:∀{H':Hp} ,(∀a,a≠a0->H' a=f.H a)->(∃o,H' a0=a5 o)->(Mv S' f.H S' H'->cW C S' H' a0 u2)->D.nx c0.σ H':=λ{H'} K2 hr new=>by
  have⟨MQ,n3⟩:=Ok.mod (c:={f with S:=S',st:=st' }) (H':=H') (u':=u2) Ke n1.toNs hk Mc ZH K2 hr new;have z:=q _ rfl MQ n3 (Kept.of I);rw[<-I];show z
 cases J with
 |lst xs =>
  cases ws with
  |int j =>
   simp only[dH,d5]at d;have⟨j',hj,rfl⟩:=d;have⟨vs,h1,s⟩:=l;have ey:m=.int j:=Xf;show .inl ⟨a0,vs,j,j',rfl,ey,h1,by rw[<-s.len];show hj,?_⟩;show n (λa ne=>au ne) ⟨_,az⟩ λL=>⟨vs.set j' v,az,(s.mv L).set j' (Xe.mv L)⟩
  |_=>simp[dH]at d
 |J8 ks vs =>
  cases ws with
  |str y' =>
   simp only[dH]at d;split at d
   .rename_i hz;cases d;have⟨kvs,h1,s,h3⟩:=l;have ey:m=.str y':=Xf;subst ey;have hl:kvs.length=ks.length:=by have:=Δ Lp s;simpa using this
    show .inr ⟨a0,_,rfl,wX.k (k:=l0 y') h1 (by rw[hl];show hz),?_⟩;show n (λa ne=>au ne) ⟨_,az⟩ λL=>?_;have⟨g1,g2⟩:=zH (y:=y') s h3 Xe;show⟨_,az,g1,g2.mv L⟩
   .cases d
  |_=>simp[dH]at d
 |_=>simp[dH]at d
def Ok.slot(d:Ok C c)(e:k≠.J6)(hs:c.st[i]?=a5 (a5 (k,u))):∃v,c.σ[i]?=a5 (a5 v)/\aN C c c (if k.root=b8 then .bor i else k) u v:=by
 have⟨f,b,a⟩:=d.sl i k u hs;show⟨f,b,?_⟩;by_cases hk:k.root=b8
 .rw[Ž hk];show⟨⟨k,hk,hs⟩,b⟩
 .rw[ž hk];cases k with
  |loc=>show a
  |any=>show a
  |bor j=>show a.elim
  |J6=>show(e rfl).elim
  |_=>show absurd rfl hk
end
end TM
namespace TM
open PySem L2 PyProof.Rows PySem.W
section
def Il(d:X.calm=b8)(f:Gl X x)(g:X.mg x=a5 (.ref c))(i:(x==("__debug__":Str))=cc)(j:excIn X.K c QB "ValueError.__new__"=b8)(k:PE X a (Ka C l))(m:i2 [a] X.env=[(cc,t6 a X.env)])
  (n:∀H',C.xw (.str x) H'->∀b σ s e s',Inv X b σ H' s->bQ X.prog X.w X.stack H' s e c b6 .none H' s'->X.xe (.ref e) s'):L2.PS X (.Raise (a5 (.Call (.Name x p) [a] [] r)) b6 pos) (K4 C ns (l >>= λ_=>pure (.rt .io (.str x)))):=by
 show PS.weak (zd d f g i j k m) ?_;rintro D σ H ⟨u,rfl,rfl,o,h⟩;show aV o h λx q v t w=>?_;rw[aq]at w;show λb s e s' I F=>n _ (w q rfl t.ok t.nx (Kept.of t.hσ)) b _ s e s' I F
def Ok.kill(b:Ok C c)(n:c.st[j]?=a5 b6):Ok C {c with σ:=c.σ.set j b6}/\Nx c {c with σ:=c.σ.set j b6}:=by
 have ne:∀(i:Nat) (r:Kd×U),c.st[i]?=a5 (a5 r)->(c.σ.set j b6)[i]?=c.σ[i]?:=λi r e=>i1 λz=>by subst z;rw[n]at e;cases e
 have l:∀a,({c with σ:=c.σ.set j b6}:Cf).R1 a->c.R1 a:=λa ⟨i,k,u,hk,d,f⟩=>⟨i,k,u,hk,d,(ne i _ d)▸f⟩
 have p:Nj C {c with σ:=c.σ.set j b6}:=b.dd.of rfl (λi u e=>⟨e,ne i _ e⟩) (λa z=>.inl (l a z)) (.up λ_ z=>z) λi a z=>⟨(b.root (.inr ⟨i,z⟩)).1,λo q=>q⟩
 show⟨⟨b.same,b.L5,b.par,b.io,by simp[b.len],λi k u e=>?_,λi m k k' u u' r hk s d f g t=>?_,p⟩,⟨λ_ _ h _=>h,λ_ o h=>⟨o,h⟩,λa z=>.inl ?_,λ_ h=>h,λ_ h=>.inl h⟩⟩
 .have⟨v,q,z⟩:=b.sl i k u e;show⟨v,(ne i _ e).trans q,z⟩
 .show b.inj i m k k' u u' r hk s d f ((ne i _ d)▸g) ((ne m _ f)▸t)
 .show z.imp (l a) λ⟨i,u,r,d,f,g⟩=>⟨i,u,r,d,(ne i _ d)▸f,g⟩
end
end TM
namespace TM
open PySem L2 PyProof.Rows
section
def Ok.Im(d:Ok C c)(n:Ns O c)(Q:c.st[i]?=a5 (a5 (.J6,u)))(B:c.σ[i]?=a5 (a5 (.ref r)))(K2:∀a,¬c.RD i a->H' a=c.H a)(T:∀a o,c.H a=a5 o->∃o',H' a=a5 o')
  (new:Mv c.S c.H c.S H'->cp C c.S H' r as' u') (Y:∀a∈as',a∈c.kid i\/(¬c.R a/\O.H a=b6)) :
  Ok C {c with H:=H',st:=c.st.set i (a5 (.J6,u')),kid:=λj=>if j=i then as' else c.kid j}/\Ns O {c with H:=H',st:=c.st.set i (a5 (.J6,u')),kid:=λj=>if j=i then as' else c.kid j}:=by
 have Lk:i<c.st.length:=(dt.mp Q).1;have rt:∀{a},c.RD i a->¬c.S a/\¬C.MM a/\(C.H₀ a=b6\/C.IO a)/\∃o,c.H a=a5 o/\¬Tp o:=λz=>d.root (.inr ⟨i,z⟩);have h0:∀{a},c.RD i a->C.H₀ a=b6:=λ⟨u1,r1,g,b,e3⟩=>(cp.fr (d.dd.kd i u1 r1 g b) _ (d6.mpr e3)).2.2;have q:∀{a:ez} {o:HO},¬c.RD i a->c.H a=a5 o->H' a=a5 o:=λz e=>by rw[K2 _ z];show e
 have N:Mv c.S c.H c.S H':=⟨λ_ z=>z,λa o e t=>q (λz=>by
  obtain⟨_,_,_,o',l,nt⟩:=rt z;rw[e]at l;cases l;show nt t) e,λa o z e=>q (λm=>(rt m).1 z) e⟩
 have OC:Mv (PS C c.S) c.H (PS C c.S) H':=⟨λ_ z=>z,N.QC,λa o z e=>q (λm=>z.elim (rt m).2.1 (rt m).1) e⟩
 have D:∀(j:Nat) k w,(c.st.set i (a5 (.J6,u')))[j]?=a5 (a5 (k,w))->j≠i->c.st[j]?=a5 (a5 (k,w)):=λj k w e ne=>by rw[i1 (qP ne)]at e;show e
 have P6:∀(j:Nat) k w,k.root=b8->(c.st.set i (a5 (.J6,u')))[j]?=a5 (a5 (k,w))->c.st[j]?=a5 (a5 (k,w)):=λj k w hk e=>by
  by_cases f:j=i
  .subst f;rw[fR Lk]at e;cases e;cases hk
  .show D j k w e f
 have b1:∀a,({c with H:=H',st:=c.st.set i (a5 (.J6,u')),kid:=λj=>if j=i then as' else c.kid j}:Cf).R1 a->c.R1 a:=λa ⟨j,k,w,hk,g,b⟩=>⟨j,k,w,hk,P6 j k w hk g,b⟩
 have G:∀j a,({c with H:=H',st:=c.st.set i (a5 (.J6,u')),kid:=λj=>if j=i then as' else c.kid j}:Cf).RD j a->c.RD j a\/(j=i/\¬c.R a/\O.H a=b6):=λj a Ky=>by
  have⟨w,h,g,b,e3⟩:=Ky;by_cases f:j=i
  .subst f;have I:c.σ[j]?=a5 (a5 (.ref h)):=b;rw[B]at I;cases I;rcases e3 with rfl|e3
   .show .inl ⟨u,_,Q,B,.inl rfl⟩
   .have M4:a∈as':=by simpa using e3
    rcases Y a M4 with z|z
    .show .inl ⟨u,_,Q,B,.inr z⟩
    .show .inr ⟨rfl,z⟩
  .have M4:a=h\/a∈c.kid j:=by simpa[f] using e3
   show .inl ⟨w,h,D j _ w g f,b,M4⟩
 show⟨⟨λa o e z=>q (λm=>by rw[h0 m]at e;cases e) (d.same a o e z),λa z=>?_,d.par,λa z=>?_,by simp[d.len],λj k w e=>?_,λx s k1 k2 w1 w2 h h1 h2 g b e3 e4=>d.inj x s k1 k2 w1 w2 h h1 h2 (P6 x k1 w1 h1 g) (P6 s k2 w2 h2 b) e3 e4,⟨λj w h g b=>?_,λx s a J L=>?_,λj a J L=>?_⟩⟩,⟨λa o e z=>?_,λa o e=>?_,λa z=>?_,n.sub,n.new⟩⟩
 .have⟨q1,o,q2⟩:=d.L5 a z;show⟨q1,T a o q2⟩
 .have⟨q1,o,q2⟩:=d.io a z;show⟨q1,T a o q2⟩
 .by_cases f:j=i
  .subst f;rw[fR Lk]at e;cases e;show⟨.ref r,B,r,rfl⟩
  .have⟨v,g,b⟩:=d.sl j k w (D j k w e f);show⟨v,g,b.mv N OC λhk h er=>?_⟩;obtain⟨RL,LQ,J,_⟩:=b.rt hk;rw[er]at LQ;cases LQ;show⟨J,λo l=>q (λz=>d.dd.d1 i h z ⟨j,k,w,hk,D j k w e f,by rw[g,er]⟩) l⟩
 .by_cases f:j=i
  .subst f;rw[fR Lk]at g;cases g;have I:c.σ[j]?=a5 (a5 (.ref h)):=b;rw[B]at I;cases I;have z:=new N;simpa using z
  .have Lb:=D j _ w g f;have Kx:(if j=i then as' else c.kid j)=c.kid j:=ž f;change cp C c.S H' h (if j=i then as' else c.kid j) w;rw[Kx];show cp.mv N (λa ha=>⟨(d.root (.inr ⟨j,w,h,Lb,b,d6.mp ha⟩)).1,λo l=>q (λz=>f (d.dd.dj j i a ⟨w,h,Lb,b,d6.mp ha⟩ z)) l⟩) (d.dd.kd j w h Lb b)
 .rcases G x a J with p|⟨rfl,p,_⟩
  .rcases G s a L with A|⟨rfl,A,_⟩
   .show d.dd.dj x s a p A
   .show(A (.inr ⟨x,p⟩)).elim
  .rcases G s a L with A|⟨rfl,A,_⟩
   .show(p (.inr ⟨s,A⟩)).elim
   .rfl
 .rcases G j a J with p|⟨rfl,p,_⟩
  .show d.dd.d1 j a p (b1 a L)
  .show p (.inl (b1 a L))
 .show q (λm=>by
   rcases n.roots a (.inr ⟨i,m⟩) with y|y
   .show z y
   .rw[e]at y;cases y) (n.keep a o e z)
 .have⟨o',l⟩:=n.there a o e;show T a o' l
 .rcases z with z|⟨j,z⟩
  .show n.roots a (.inl (b1 a z))
  .rcases G j a z with y|⟨_,_,y⟩
   .show n.roots a (.inr ⟨j,y⟩)
   .show .inr y
def Ok.newD(l:Ok C c)(B:c.H p=b6)(u:i<c.σ.length):
  Ok C {c with H:=upd c.H p (.dK []),σ:=c.σ.set i (a5 (.ref p)),st:=c.st.set i (a5 (.J6,.J8 [] [])),kid:=λj=>if j=i then [] else c.kid j}/\Ns c {c with H:=upd c.H p (.dK []),σ:=c.σ.set i (a5 (.ref p)),st:=c.st.set i (a5 (.J6,.J8 [] [])),kid:=λj=>if j=i then [] else c.kid j}:=by
 have⟨n,Q⟩:=l.lay (o:=.dK []) B;have⟨q1,q2,q3,q4,D⟩:=l.kl B;have G:i<c.st.length:=by rw[l.len];show u
 have x:∀(j:Nat) k w,(c.st.set i (a5 (.J6,.J8 [] [])))[j]?=a5 (a5 (k,w))->j≠i->c.st[j]?=a5 (a5 (k,w)):=λj k w e ne=>by rw[i1 (qP ne)]at e;show e
 have q:∀(j:Nat),j≠i->(c.σ.set i (a5 (.ref p)))[j]?=c.σ[j]?:=λj ne=>i1 (qP ne);have I:∀(j:Nat) k w,k.root=b8->(c.st.set i (a5 (.J6,.J8 [] [])))[j]?=a5 (a5 (k,w))->j≠i/\c.st[j]?=a5 (a5 (k,w)):=λj k w hk e=>by
  by_cases b:j=i
  .subst b;rw[fR G]at e;cases e;cases hk
  .show⟨b,x j k w e b⟩
 have b1:∀a,({c with H:=upd c.H p (.dK []),σ:=c.σ.set i (a5 (.ref p)),st:=c.st.set i (a5 (.J6,.J8 [] [])),kid:=λj=>if j=i then [] else c.kid j}:Cf).R1 a->c.R1 a:=λa J=>by
  have⟨j,k,w,hk,d,f⟩:=J;have⟨b,L⟩:=I j k w hk d;show⟨j,k,w,hk,L,by rw[<-q j b];show f⟩
 have r:∀j a,({c with H:=upd c.H p (.dK []),σ:=c.σ.set i (a5 (.ref p)),st:=c.st.set i (a5 (.J6,.J8 [] [])),kid:=λj=>if j=i then [] else c.kid j}:Cf).RD j a->(j≠i/\c.RD j a)\/(j=i/\a=p):=λj a J=>by
  have⟨w,g,d,f,e3⟩:=J;by_cases b:j=i
  .subst b;have s:(c.σ.set j (a5 (.ref p)))[j]?=a5 (a5 (.ref g)):=f;rw[fR u]at s;cases s;rcases e3 with rfl|e3
   .show .inr ⟨rfl,rfl⟩
   .simp at e3
  .have M4:a=g\/a∈c.kid j:=by simpa[b] using e3
   show .inl ⟨b,w,g,x j _ w d b,by rw[<-q j b];show f,M4⟩
 show⟨⟨n.same,n.L5,n.par,n.io,by simp[l.len],λj k w e=>?_,λm h k1 k2 T Y g h1 h2 d f e3 e4=>?_,⟨λj w g d f=>?_,λm h a N t=>?_,λj a N t=>?_⟩⟩,⟨Q.keep,Q.there,λa z=>?_,λ_ z=>z,λ_ z=>.inl z⟩⟩
 .by_cases b:j=i
  .subst b;rw[fR G]at e;cases e;show⟨.ref p,fR u,p,rfl⟩
  .have⟨v,d,f⟩:=n.sl j k w (x j k w e b);show⟨v,(q j b).trans d,f⟩
 .have⟨Of,a1⟩:=I m k1 T h1 d;have⟨NP,a2⟩:=I h k2 Y h2 f;show l.inj m h k1 k2 T Y g h1 h2 a1 a2 ((q m Of).symm.trans e3) ((q h NP).symm.trans e4)
 .by_cases b:j=i
  .subst b;rw[fR G]at d;cases d;have s:(c.σ.set j (a5 (.ref p)))[j]?=a5 (a5 (.ref g)):=f;rw[fR u]at s;cases s;change cp C c.S (upd c.H p (.dK [])) p (if j=j then [] else c.kid j) (.J8 [] []);rw[Ž rfl];show⟨[],az,rfl,rfl,by simp,λa ha=>by rw[i3.mp ha];show⟨q2,q3,q1⟩,rfl⟩
  .have L:=x j _ w d b;have z:=n.dd.kd j w g L ((q j b).symm.trans f);change cp C c.S (upd c.H p (.dK [])) g (if j=i then [] else c.kid j) w;rw[ž b];show z
 .rcases r m a N with⟨_,A⟩|⟨rfl,rfl⟩
  .rcases r h a t with⟨_,O⟩|⟨rfl,rfl⟩
   .show l.dd.dj m h a A O
   .show(D (.inr ⟨m,A⟩)).elim
  .rcases r h a t with⟨_,O⟩|⟨rfl,_⟩
   .show(D (.inr ⟨h,O⟩)).elim
   .rfl
 .rcases r j a N with⟨_,A⟩|⟨rfl,rfl⟩
  .show l.dd.d1 j a A (b1 a t)
  .show D (.inl (b1 a t))
 .rcases z with z|⟨j,z⟩
  .show .inl (.inl (b1 a z))
  .rcases r j a z with⟨_,y⟩|⟨_,rfl⟩
   .show .inl (.inr ⟨j,y⟩)
   .show .inr B
end
section
theorem du.rep{S S':ez->Prop}(hs:∀a,S a->S' a):∀{us:List U}{as:List ez},(∀a∈as,S' a)->du C S H us as->ak C S' H us (as.map V.ref)
 |[],as,_,h=>by cases h;show rfl
 |u::us,as,c,h=>by
  have⟨a,as',i,vs,rfl,rfl,d,e,f⟩:=h;show⟨.ref a,as'.map V.ref,rfl,⟨a,vs,rfl,.inl ⟨c a (by simp),.inl d⟩,e.mv (.up hs)⟩,du.rep hs (λb g=>c b (by simp[g])) f⟩
def Ok.JY(b:Ok C c)(n:Nx c0 c)(Q:c.st[i]?=a5 (a5 (.J6,u)))(s:c.σ[i]?=a5 (a5 (.ref r))):
  Ok C {c with S:=λa=>c.S a\/a∈c.kid i,st:=c.st.set i (a5 (.own,u))}/\Nx c0 {c with S:=λa=>c.S a\/a∈c.kid i,st:=c.st.set i (a5 (.own,u))}:=by
 have T:i<c.st.length:=(dt.mp Q).1;have B:=b.dd.kd i u r Q s;have fr:=cp.fr B;have mem:∀a,(a=r\/a∈c.kid i)->c.RD i a:=λa z=>⟨u,r,Q,s,z⟩
 have up:Mv c.S c.H (λa=>c.S a\/a∈c.kid i) c.H:=.up λa=>.inl;have ZJ:Mv (PS C c.S) c.H (PS C λa=>c.S a\/a∈c.kid i) c.H:=.up λa z=>z.imp id .inl;have Ta:r∉c.kid i/\cW C (λa=>c.S a\/a∈c.kid i) c.H r u:=by
  cases u<;>first|show B.elim|skip
  have⟨kvs,D,G,h3,h4,h5,h6⟩:=B;show⟨(mN.mp h4).1,kvs,D,G,?_⟩;rw[h3];show h6.rep (λa=>.inl) λa I=>.inr I
 have p:∀(j:Nat) k w,(c.st.set i (a5 (.own,u)))[j]?=a5 (a5 (k,w))->j≠i->c.st[j]?=a5 (a5 (k,w)):=λj k w e ne=>by rw[i1 (qP ne)]at e;show e
 have b1:∀a,({c with S:=λa=>c.S a\/a∈c.kid i,st:=c.st.set i (a5 (.own,u))}:Cf).R1 a->c.R1 a\/a=r:=λa Y=>by
  have⟨j,k,w,hk,f,g⟩:=Y;by_cases d:j=i
  .subst d;have LV:c.σ[j]?=a5 (a5 (.ref a)):=g;rw[s]at LV;cases LV;show .inr rfl
  .show .inl ⟨j,k,w,hk,p j k w f d,g⟩
 have J:∀j a,({c with S:=λa=>c.S a\/a∈c.kid i,st:=c.st.set i (a5 (.own,u))}:Cf).RD j a->j≠i/\c.RD j a:=λj a Y=>by
  have⟨w,h,f,g,t⟩:=Y;by_cases d:j=i
  .subst d;rw[fR T]at f;cases f
  .show⟨d,w,h,p j _ w f d,g,t⟩
 show⟨⟨b.same,λa z=>?_,b.par,b.io,by simp[b.len],λj k w e=>?_,λm l k1 k2 L N h D G f g t e4=>?_,⟨λj w h f g=>?_,λm l a x z2=>b.dd.dj m l a (J m a x).2 (J l a z2).2,λj a x z2=>?_⟩⟩,⟨⟨n.keep,n.there,λa z=>?_,λa z=>.inl (n.sub a z),λa z=>?_⟩⟩⟩
 .rcases z with z|z
  .show b.L5 a z
  .obtain⟨o,ho,_⟩:=cp.there B a (mf _ z);show⟨(fr a (mf _ z)).2.2,o,ho⟩
 .by_cases d:j=i
  .subst d;rw[fR T]at e;cases e;have⟨q1,q2,q3⟩:=fr r (nc ..);show⟨.ref r,s,r,rfl,λz=>z.elim q1 Ta.1,q2,q3,Ta.2⟩
  .have⟨v,f,g⟩:=b.sl j k w (p j k w e d);show⟨v,f,g.mv up ZJ λhk h er=>?_⟩;obtain⟨RL,LQ,x,_⟩:=g.rt hk;rw[er]at LQ;cases LQ;show⟨λz=>z.elim x λz=>b.dd.d1 i h (mem h (.inr z)) ⟨j,k,w,hk,p j k w e d,by rw[f,er]⟩,λo q=>q⟩
 .by_cases O:m=i
  .by_cases A:l=i
   .rw[O,A]
   .subst O;have M4:c.σ[m]?=a5 (a5 (.ref h)):=t;rw[s]at M4;cases M4;show(b.dd.d1 m r (mem r (.inl rfl)) ⟨l,k2,N,G,p l k2 N g A,e4⟩).elim
  .by_cases A:l=i
   .subst A;have Xg:c.σ[l]?=a5 (a5 (.ref h)):=e4;rw[s]at Xg;cases Xg;show(b.dd.d1 l r (mem r (.inl rfl)) ⟨m,k1,L,D,p m k1 L f O,t⟩).elim
   .show b.inj m l k1 k2 L N h D G (p m k1 L f O) (p l k2 N g A) t e4
 .by_cases d:j=i
  .subst d;rw[fR T]at f;cases f
  .have Lb:=p j _ w f d;show cp.mv up (λa I=>⟨λz=>z.elim (b.root (.inr ⟨j,w,h,Lb,g,d6.mp I⟩)).1 λz=>d (b.dd.dj j i a ⟨w,h,Lb,g,d6.mp I⟩ (mem a (.inr z))),λo q=>q⟩) (b.dd.kd j w h Lb g)
 .have⟨d,y⟩:=J j a x;rcases b1 a z2 with z|z
  .show b.dd.d1 j a y z
  .subst z;show d (b.dd.dj j i a y (mem a (.inl rfl)))
 .rcases z with z|⟨j,z⟩
  .rcases b1 a z with z|rfl
   .show n.roots a (.inl z)
   .show n.roots a (.inr ⟨i,mem a (.inl rfl)⟩)
  .show n.roots a (.inr ⟨j,(J j a z).2⟩)
 .rcases z with z|z
  .show n.new a z
  .rcases n.roots a (.inr ⟨i,mem a (.inr z)⟩) with y|y
   .show .inr (.inl y)
   .show .inr (.inr y)
def CY(g:X.N[i]?=a5 x)(j:Ml X.env.scope x)(k:(x==("__debug__":Str))=cc)(l:(x==("__classdict__":Str))=cc):PE X (.Name x pos) (Ka C (zm i)):=by
 have n:=pw (C:=C) (pos:=pos) g j k l;rintro c s σ H Q I ⟨b,rfl,rfl,d,r,st',e,h⟩;unfold zm at e;split at e
 .rename_i u hs;cases e;have⟨v,f,m,rfl⟩:=d.sl i _ _ hs;have⟨o,p⟩:=d.JY (Nx.refl b) hs f;have q:i<b.st.length:=(dt.mp hs).1;show bU g j k l c s b.σ b.H Q I ⟨.ref m,f,h {b with S:=λa=>b.S a\/a∈b.kid i,st:=b.st.set i (a5 (.own,u))} (.ref m) rfl rfl o p ⟨⟨.own,rfl,fR q⟩,f⟩⟩
 .show n c s b.σ b.H Q I ⟨b,rfl,rfl,d,r,st',e,h⟩
end
section
def gz{st:ay}(h:W (iS i) st Q):∃ks us,st[i]?=a5 (a5 (.J6,.J8 ks us))/\Q (ks,us) st:=by
 have⟨r,st',e,q⟩:=h;unfold iS at e;split at e
 .rename_i ks us hs;cases e;show⟨ks,us,hs,q⟩
 .cases e
def gA{st:ay}(h:W (km x) st Q):∃y,x.2=.str y/\Q y st:=by
 unfold km at h;split at h
 .rename_i y e;rw[aq]at h;show⟨y,e,h⟩
 .show(bu.mp h).elim
def Ok.J8(d:Ok C c)(f:c.st[i]?=a5 (a5 (.J6,.J8 ks us))):∃(r:ez) (kvs:List (Key×V)),c.σ[i]?=a5 (a5 (.ref r))/\c.H r=a5 (.dK kvs)/\kvs.map (·.1)=ks.map l0/\kvs.map (·.2)=(c.kid i).map V.ref /\
  (r::c.kid i).Nodup/\du C c.S c.H us (c.kid i)/\(∀y:Str,(dB kvs (l0 y)).isSome=c4 (y∈ks))/\∀(y:Str) (u:U),cq ks us y=a5 u->∃v,dB kvs (l0 y)=a5 v/\Rep C (λa=>c.S a\/a∈c.kid i) c.H u v:=by
 have⟨v,e,r,rfl⟩:=d.sl i _ _ f;have⟨kvs,k,b,g,l,n,h⟩:=d.dd.kd i _ r f e;have j:ak C (λa=>c.S a\/a∈c.kid i) c.H us (kvs.map (·.2)):=by rw[g];show h.rep (λa=>.inl) λa m=>.inr m
 show⟨r,kvs,e,k,b,g,l,h,λy=>(da (x:=y) b j).2,λy=>(da (x:=y) b j).1⟩
def qW{k:Str->List Str×List U->M β}{Post:β->ay->Prop}{Z:V->V->Hp->Prop}(m:Ok C a)(h:W (o >>= λx=>km x >>= λy=>iS i >>= λd=>k y d) a.st Post)
  (hz:∀(c:Cf) (y:Str) (ks:List Str) (us:List U) (r:ez) (kvs:List (Key×V)),c.σ=a.σ->Ok C c->Nx a c->c.H r=a5 (.dK kvs)->(dB kvs (l0 y)).isSome=c4 (y∈ks)->W (k y (ks,us)) c.st Post->Z (.str y) (.ref r) c.H) :
  Ka C o a.σ a.H λv p=>∃f,a.σ[i]?=a5 (a5 f)/\Z v f p:=by
 show⟨a,rfl,rfl,m,?_⟩;rw[ai]at h;show W.mono h λx st' w c v g hs b n r=>?_;subst hs;have⟨u,z⟩:=x;rw[ai]at w;have⟨y,e,j⟩:=gA w;clear w
 dsimp only at e r
 subst e;have ev:v=.str y:=r.str b;subst ev;rw[ai]at j;have⟨ks,us,hs,w⟩:=gz j;obtain⟨l,kvs,q,s,_,_,_,_,t,_⟩:=b.J8 hs;show⟨.ref l,by rw[<-g];show q,hz c y ks us l kvs g b n s (t y) w⟩
abbrev Gn(neg:Bool):CmpOp:=if neg=b8 then .NotIn else .In
def Gp(d:∀j,ns j=b8->j≠i)(f:X.N.Nodup)(c:X.N[i]?=a5 x)(g:Loc X.env.scope x)(k:X.fn x=b8\/X.env.scope.names.lookup x=a5 .local)
  (hs:PD (.Dict [] [] p) (a5 (.Name x pos')) pos.line X.env=pure cc):L2.PS X (.Assign [.Name x pos'] (.Dict [] [] p) pos) (K4 C ns (Ea i >>= λ_=>pure .nx)):=by
 rintro a s σ H D I ⟨b,rfl,rfl,l,h⟩;have m:i<b.σ.length:=by rw[I.len];show(dt.mp c).1
 show rZ f c g qo hs k a s b.σ b.H D I λq n=>?_;have⟨o,r⟩:=l.newD n m;rw[ai]at h;obtain⟨_,st',e,w⟩:=h;cases e;rw[aq]at w;show w _ rfl o r ⟨λj t=>i1 (qP (d j t)),by simp⟩
end
section
def CZ(J:X.A.units+60<L8)(q:X.N[i]?=a5 x)(t:Ml X.env.scope x)(u:(x==("__debug__":Str))=cc)(v:(x==("__classdict__":Str))=cc)(z:PE X a (Ka C G))(B:Sn (Gn neg) (.Name x p2)=cc):
  PT X (.Compare a [Gn neg] [.Name x p2] pos) (LA C (G >>= λx=>km x >>= λy=>iS i >>= λd=>pure (Vj neg y d.1))):=by
 rintro e s σ H Q I ⟨g,rfl,rfl,D,h⟩;cases neg with
 |false =>
  show yl (Fg ⋯ z (bU q t u v)) B e s g.σ g.H Q I (qW (Z:=λy x f=>∃a o,x=V.ref a/\eG f a y o/\∃b,V.bl o.isSome=.bl b/\Q b f) D h λc y ks us r kvs j l n m p w=>?_);rw[aq]at w;show⟨r,_,rfl,eG.k (k:=l0 y) m,?_⟩;rw[p];show⟨_,rfl,w c j rfl l n⟩
 |true =>
  show yl (wZ ⋯ z (bU q t u v)) B e s g.σ g.H Q I (qW (Z:=λy x f=>∃a o,x=V.ref a/\eG f a y o/\∃b,V.bl (!o.isSome)=.bl b/\Q b f) D h λc y ks us r kvs j l n m p w=>?_);rw[aq]at w;show⟨r,_,rfl,eG.k (k:=l0 y) m,?_⟩;rw[p];show⟨_,rfl,w c j rfl l n⟩
theorem du.snoc{S:ez->Prop}{a:ez}(b:H a=a5 (.lst vs))(c:ak C S H d vs):∀{us:List U}{as:List ez},du C S H us as->du C S H (us++[.lst d]) (as++[a])
 |[],as,h=>by cases h;show⟨a,[],d,vs,rfl,rfl,b,c,rfl⟩
 |u::us,as,h=>by
  have⟨a',as',f,g,rfl,e,i,j,k⟩:=h;show⟨a',as'++[a],f,g,rfl,e,i,j,du.snoc b c k⟩
def sX{st:ay}(h:W (lF i y r) st Q):∃us ks vs,r=(.own,.lst us)/\st[i]?=a5 (a5 (.J6,.J8 ks vs))/\y∉ks/\ks.length<cK/\Q () (st.set i (a5 (.J6,.J8 (ks++[y]) (vs++[.lst us])))):=by
 have⟨k,u⟩:=r;cases k<;>cases u<;>first|show(bu.mp h).elim|skip
 rename_i us;obtain⟨_,st',e,q⟩:=h;unfold lF at e
 dsimp only at e
 split at e
 .rename_i ks vs hs;split at e
  .rename_i hz;cases e;show⟨us,ks,vs,rfl,hs,hz.1,hz.2,q⟩
  .cases e
 .cases e
def Gq{i:Nat}{x:Str}{j:Pos}(hu:X.A.units+60<L8)(hN:X.N[i]?=a5 x)(hv:Ml X.env.scope x)(hd:(x==("__debug__":Str))=cc)(KI:(x==("__classdict__":Str))=cc)
  (ha:PE X a (Ka C ma)) (B:PE X b (Ka C mb)) (hs:Si [.Subscript (.Name x j) b p] a pos.line X.env=pure cc) (VF:WW [.Subscript (.Name x j) b p] a X.env=pure b6)
  (G:∀v,Ug (.Subscript (.Name x j) b p) X.env v=(do
   let n <-MT [v] (t6 (.Name x j) X.env)
   let I <-MT [v,n] (t6 b X.env)
   Zw p
   MT [v,n,I] (Vr n I v)
   XQ [v,n,I] [])) :
  L2.PS X (.Assign [.Subscript (.Name x j) b p] a pos) (K4 C ns (ma >>= λr=>iS i >>= λ_=>mb >>= λx=>km x >>= λy=>lF i y r >>= λ_=>pure .nx)):=by
 show PS.weak (rY ha (yo (bU hN hv hd KI) B (set_dict (X:=X) ⋯) G) hs VF rfl) ?_;rintro D σ H ⟨c0,rfl,rfl,O,h⟩;show aV O h λr c v t w=>?_;rw[ai]at w;have⟨Tb,us0,LH,w⟩:=gz w;obtain⟨Q,P7,T,g0,_⟩:=t.ok.J8 LH;show⟨.ref Q,by rw[<-t.hσ];show T,?_⟩;rw[ai]at w;show⟨c,t.hσ,rfl,t.ok,w.mono λy st2 Y J vy s e4 u n2 r2=>?_⟩;subst e4;rw[ai]at Y;have⟨ky,uy⟩:=y;have⟨y,ey,w3⟩:=gA Y
 dsimp only at ey r2
 subst ey;have ev:vy=.str y:=r2.str u;subst ev;rw[ai]at w3;have⟨us,ks,vs,L,g,SH,l,q⟩:=sX w3;subst L;rw[aq]at q;obtain⟨m,kvs,d,g1,g2,g3,g4,g5,g6,_⟩:=u.J8 g;have L:m=Q:=by rw[s,<-t.hσ,T]at d;cases d;rfl
 subst L;have⟨f,rfl,k1,k2,k3,KG,k4,k5⟩:=t.rx.w.on t.ok n2.toNs (s.trans t.hσ.symm);have VG:=t.nx.trans n2;have hl:kvs.length=ks.length:=by have:=Δ Lp g2;simpa using this
 have N0:dB kvs (l0 y)=b6:=by
  have:=g6 y;rw[ſ SH]at this;cases hq:dB kvs (l0 y) with
  |none=>rfl
  |some _=>rw[hq]at this;cases this
 show⟨m,_,rfl,wX.k (k:=l0 y) g1 (by rw[hl];show l),?_⟩;rw[yA _ N0];have Ta:f∉J.kid i:=λz=>k3 (.inr ⟨i,_,_,g,d,.inr z⟩);have Xh:f≠m:=λz=>k3 (.inr ⟨i,_,_,g,d,.inl z⟩);have rd:=u.dd.kd i _ _ g d;have fr:=cp.fr rd;have⟨MQ,n3⟩:=Ok.Im (H':=upd J.H m (.dK (kvs++[(l0 y,.ref f)]))) (u':=.J8 (ks++[y]) (vs++[.lst us])) (as':=J.kid i++[f]) u VG.toNs g d
  (λa ne=>au λz=>ne ⟨_,_,g,d,.inl z⟩) (λa o e=>by
   by_cases hz:a=m
   .subst hz;show⟨_,az⟩
   .rw[au hz];show⟨o,e⟩)
  (λmv=>by
   show⟨_,az,by rw[ki,g2,ki];rfl,by rw[ki,g3,ki];rfl,?_,λa ha=>?_,?_⟩
   .rw[<-Ċ,ri];show⟨g4,by simp,λa ha b B=>by
     have:b=f:=by simpa using B
     subst this;rintro rfl;rcases d6.mp ha with z|z
     .show Xh z
     .show Ta z⟩
   .rw[<-Ċ]at ha;rcases ke.mp ha with ha|ha
    .show fr a ha
    .have:a=f:=by simpa using ha
     subst this;obtain⟨z1,_,z3,_⟩:=O.kl k1;show⟨k2,z3,z1⟩
   .show du.snoc (by rw[au Xh];show k4) (k5.mv mv) (du.mv mv (λa ha o e=>by
     rw[au (λz=>(mN.mp g4).1 (by rw[<-z];show ha))];show e) g5))
  (λa ha=>by
   rcases ke.mp ha with ha|ha
   .show .inl ha
   .have:a=f:=by simpa using ha
    subst this;show .inr ⟨k3,k1⟩)
 have z:=q _ rfl MQ n3 (Kept.of s);rw[<-s];show z
theorem du.at{S:ez->Prop}:∀{ks:List Str}{us:List U}{as:List ez}{kvs:List (Key×V)}{u:U},kvs.map (·.1)=ks.map l0->kvs.map (·.2)=as.map V.ref->as.Nodup->du C S H us as->cq ks us y=a5 u ->
  ∃a ws f,dB kvs (l0 y)=a5 (.ref a)/\a∈as/\u=.lst f/\H a=a5 (.lst ws)/\ak C S H f ws/\∀(H':Hp) (c:List U) (d:List V),Mv S H S H'->H' a=a5 (.lst d)->ak C S H' c d->(∀b∈as,b≠a->H' b=H b)->du C S H' (kq ks us y (.lst c)) as
 |[],us,as,kvs,u,_,_,_,_,h=>by cases us<;>cases h
 |k::ks,[],as,kvs,u,_,_,_,_,h=>by cases h
 |k::ks,Q::us,as,kvs,u,g,q,i,hk,h=>by
  have⟨a,as',f,ws,rfl,rfl,t,v,w⟩:=hk;cases kvs with
  |nil=>simp at g
  |cons p kvs =>
   rw[d3,d3,Rx]at g q;rw[mN]at i;by_cases j:k=y
   .subst j;simp only[cq,if_true]at h;cases h;show⟨a,ws,f,by rw[eO g.1,q.1],by simp,rfl,t,v,λH' c d l r s m=>?_⟩;simp only[kq,if_true];show⟨a,as',c,d,rfl,rfl,r,s,du.mv l (λb n o e=>by rw[m b (by simp[n]) (λz=>i.1 (z▸n))];show e) w⟩
   .simp only[cq,ž j]at h;have⟨x,B,D,G,A,I,J,L,N⟩:=du.at g.2 q.2 i.2 w h;show⟨x,B,D,?_,by simp[A],I,J,L,λH' c d l r s m=>?_⟩
    .rw[eQ (by rw[g.1];intro z;show j (WC z))];show G
    .simp only[kq,ž j];have O:a≠x:=λz=>i.1 (z▸A);show⟨a,as',f,ws,rfl,rfl,by rw[m a (by simp) O];show t,v.mv l,N H' c d l r s λb n=>m b (by simp[n])⟩
def sY{st:ay}(h:W (lG i y u) st Q):∃ks vs xs,st[i]?=a5 (a5 (.J6,.J8 ks vs))/\cq ks vs y=a5 (.lst xs)/\xs.length<cK/\Q () (st.set i (a5 (.J6,.J8 ks (kq ks vs y (.lst (xs++[u])))))):=by
 obtain⟨_,st',e,q⟩:=h;unfold lG at e;split at e
 .rename_i ks vs hs;split at e
  .rename_i xs a;split at e
   .rename_i hz;cases e;show⟨ks,vs,xs,hs,a,hz,q⟩
   .cases e
  .cases e
 .cases e
abbrev xN(C:Ct)(m:M (Kd×U)):TE:=λσ H Q=>∃b:Cf,b.σ=σ/\b.H=H/\Ok C b/\W m b.st λr st'=>∀c v,c.σ=σ->c.st=st'->Ok C c->Nx b c->(∀a o,b.H a=a5 o->c.H a=a5 o)->aN C b c r.1 r.2 v->Q v c.H
def nO(d:Ok C b)(h:W (e >>= k) b.st Post)
  (hz:∀x c v,M5 C b c x v->(∀a o,b.H a=a5 o->c.H a=a5 o)->W (k x) c.st Post->Z v c.H):xN C e b.σ b.H Z:=by
 rw[ai]at h;show⟨b,rfl,rfl,d,h.mono λx st1 f g i j l m n p q=>hz x g i ⟨j,m,n,q⟩ p (by rw[l];show f)⟩
def zI(f:X.N[i]?=a5 x)(g:Ml X.env.scope x)(l:(x==("__debug__":Str))=cc)(m:(x==("__classdict__":Str))=cc):PE X (.Name x pos) (xN C (dn i)):=by
 show PE.weak (bU f g l m) ?_;rintro σ H Q ⟨b,rfl,rfl,c,r,st',e,h⟩;unfold dn at e;split at e
 .cases e
 .rename_i k u n hs;cases e;have⟨v,d,a⟩:=c.sl i k u hs;show⟨v,d,h b v rfl rfl c (Nx.refl b) (λ_ _ z=>z) ?_⟩;by_cases hk:k.root=b8
  .rw[Ž hk];show⟨⟨k,hk,hs⟩,d⟩
  .rw[ž hk];cases k with
   |loc=>show a
   |any=>show a
   |bor j=>show a.elim
   |J6=>show(n rfl).elim
   |_=>show absurd rfl hk
 .cases e
def iZ(h:PE X e (tC v))(r:∀S H,Rep C S H u v):PE X e (xN C (pure (.loc,u))):=by
 show PE.weak h ?_;rintro σ H Q ⟨a,rfl,rfl,b,h⟩;rw[aq]at h;show h a v rfl rfl b (Nx.refl a) (λ_ _ z=>z) (r _ _)
def Gr(hK:C.K=X.K)(hu:X.A.units+60<L8)(hN:X.N[i]?=a5 x)(hv:Ml X.env.scope x)(hd:(x==("__debug__":Str))=cc)(KI:(x==("__classdict__":Str))=cc)(G:PE X a (xN C ma))(hb:PE X b (Ka C mb))(Tc:Ff b)
  (Ln:((zy I (i2 [a] X.env)).all (λx=>!x.1)&&(RC I (ML [] X.env)).all (λx=>x.1.isSome)
   && c4 ([a].length+([]:List O3).length+(if ([]:List O3).isEmpty then 0 else 1)<30))=b8)
  (Kh:(j.endLine==I.line)=b8) (Kf:i2 [a] X.env=[(cc,t6 a X.env)]) :
  L2.PS X (.Expr (.Call (.Attribute (.Subscript (.Name x px) b p) "append" j) [a] [] I) pos) (K4 C ns (iS i >>= λ_=>mb >>= λx=>km x >>= λy=>iS i >>= λd=>if y∈d.1 then(ma >>= λr=>lift r >>= λu=>lG i y u >>= λ_=>pure .nx) else M.fail)):=by
 show PS.weak (kD (m9 PySem.F.plainAttrs_list PySem.F.slot_list_append PySem.F.type_list_append ng (B4 ⋯ (bU hN hv hd KI) hb Tc) (dA G fP Kf) rfl Ln Kh Kf rfl)) ?_;rintro D σ H ⟨c0,rfl,rfl,ok,h⟩;rw[ai]at h;have⟨Tb,us0,LH,h⟩:=gz h;obtain⟨r0,P7,J,g0,_⟩:=ok.J8 LH;show⟨.ref r0,J,?_⟩;show aV ok h λry c vy t w=>?_;rw[ai]at w;have⟨ky,uy⟩:=ry;have⟨y,ey,w1⟩:=gA w
 dsimp only at ey
 subst ey;have ev:vy=.str y:=t.rx.str t.ok;subst ev;rw[ai]at w1;have⟨ks,us,hs,l⟩:=gz w1
 dsimp only at l
 by_cases L:y∈ks
 case neg=>rw[ž L]at l;show(bu.mp l).elim
 rw[Ž L]at l;obtain⟨O,kvs,f1,g1,g2,g3,g4,g5,g6,_⟩:=t.ok.J8 hs;have Q:O=r0:=by rw[t.hσ,J]at f1;cases f1;rfl
 subst Q;have O9:=g6 y;rw[Α L]at O9;have⟨v0,n⟩:=TF.mp O9;have LO:v0∈(c.kid i).map V.ref:=by
  rw[<-g3];unfold dB at n;have⟨q,hq,rfl⟩:=d5.mp n;show R' (List.mem_of_find?_eq_some hq)
 have⟨f,ZM,rfl⟩:=lz.mp LO;have⟨ZN,VJ⟩:=g5.mem ZM;show⟨O,.ref f,rfl,by rw[<-n];show eG.k (k:=l0 y) g1,Or.inl ⟨rfl,ZN,.inl (.inl VJ)⟩,?_⟩;rw[<-t.hσ];show nO t.ok l λr g v t' xF w3=>?_;rw[ai]at w3;obtain⟨S',st',u,sS,T,n1,m,w4,_,_⟩:=iV t.ok t'.ok t'.nx t'.rx.w w3;rw[ai]at w4;have⟨MS,KG,xs,s,hx,hz,q⟩:=sY w4;rw[aq]at q;obtain⟨B,Y,k1,k2,k3,k4,k5,k6,_,_⟩:=T.J8 s;have Xi:g.σ[i]?=a5 (a5 (.ref B)):=k1;have Q:B=O:=by rw[t'.hσ,t.hσ,J]at Xi;cases Xi;rfl
 subst Q;have ZO:g.H B=a5 (.dK Y):=k2;have VL:Y=kvs:=by have:=xF _ _ g1;rw[ZO]at this;cases this;rfl
 subst VL;have nd:=(mN.mp k5).2;have⟨a2,ws,ys,l1,l2,l3,l4,l5,l6⟩:=du.at k3 k4 nd k6 hx;cases l3;rw[n]at l1;cases l1;have ZP:g.H f=a5 (.lst ws):=l4;show⟨f,ws,v,rfl,rfl,ZP,by rw[<-l5.len];show hz,?_⟩;have K2:f≠B:=λz=>(mN.mp k5).1 (z▸l2);have⟨Ks,n2⟩:=Ok.Im (c:={g with S:=S',st:=st' }) (H':=upd g.H f (.lst (ws++[v]))) (u':=.J8 MS (kq MS KG y (.lst (xs++[u])))) (as':=g.kid i) T (t.nx.trans n1).toNs s k1
  (λa ne=>au λz=>ne ⟨_,_,s,k1,.inr (z▸l2)⟩) (λa o e=>by
   by_cases hz:a=f
   .subst hz;show⟨_,az⟩
   .rw[au hz];show⟨o,e⟩)
  (λmv=>⟨Y,by rw[au (qP K2)];show k2,k3,k4,k5,cp.fr (T.dd.kd i _ _ s k1),l6 _ _ _ mv az ((l5.mv mv).snoc (m.mv mv)) λb _ ne=>au ne⟩)
  (λa G=>.inl G)
 have z:=q _ rfl Ks n2 (Kept.of (t'.hσ.trans t.hσ));rw[<-t'.hσ];show z
end
section
def zJ{st:ay}(h:W (Vk u) st Q):∃ks us,u=.J8 ks us/\Q () st:=by
 cases u<;>first|show(bu.mp h).elim|skip
 show⟨_,_,rfl,aq.mp h⟩
def nP{st:ay}(h:W (xD x) st Q):∃j,x.2=.int j/\Q j st:=by
 unfold xD at h;split at h
 .rename_i y e;rw[aq]at h;show⟨y,e,h⟩
 .show(bu.mp h).elim
def nQ{st:ay}(h:W (qS i) st Q):∃k us,k.root=b8/\st[i]?=a5 (a5 (k,.lst us))/\Q us st:=by
 have⟨r,st',e,q⟩:=h;unfold qS at e;split at e
 .rename_i k us hs;split at e
  .rename_i hk;cases e;show⟨k,_,hk,hs,q⟩
  .cases e
 .cases e
theorem qX:∀{ks:List Str}{us:List U},y∈ks->ks.length=us.length->cq ks us y=b6->False
 |[],us,h,_,_=>by cases h
 |k::ks,[],_,h,_=>by simp at h
 |k::ks,u::us,h,hl,e=>by
  by_cases hk:k=y
  .simp[cq,hk]at e
  .simp only[cq,ž hk]at e;rcases d6.mp h with h|h
   .show hk h.symm
   .show qX h (by simpa using hl) e
def zK{i:Nat}{x:Str}{G:Pos}(hu:X.A.units+60<L8)(hN:X.N[i]?=a5 x)(hv:Ml X.env.scope x)(hd:(x==("__debug__":Str))=cc)(KI:(x==("__classdict__":Str))=cc)
  (ha:PE X a (Ka C ma)) (hb:PE X b (Ka C mb)) (hm:M2 X (.Name x G) "get" e a b G') :
  PE X (.Call (.Attribute (.Name x G) "get" e) [a,b] [] G') (Ka C (dn i >>= λx=>Vk x.2 >>= λ_=>ma >>= λy=>km y >>= λy=>mb >>= λz=>lift z >>= λu=>dn i >>= λx=>M.Kp (Cu x y u))):=by
 rintro f s σ H Q I ⟨p,rfl,rfl,B,h⟩;show yD ⋯ (bU hN hv hd KI) ha hb hm f s p.σ p.H Q I ?_;rw[ai]at h;have⟨k0,u0,VM,LH,h⟩:=dc h;have⟨v0,J,t0⟩:=B.slot VM LH;rw[ai]at h;have⟨Tb,us0,L,h'⟩:=zJ h
 dsimp only at L
 subst L;obtain⟨a0,P7,rfl,g0,_⟩:=t0.dict B;show⟨.ref a0,J,a0,rfl,.inl ⟨P7,.inl g0⟩,?_⟩;show aV B h' λry c vy t w=>?_;rw[ai]at w;have⟨ky,uy⟩:=ry;have⟨y,O,w1⟩:=gA w
 dsimp only at O
 subst O;have ev:vy=.str y:=t.rx.str t.ok;subst ev;rw[<-t.hσ];show aV t.ok w1 λz g vz j T=>?_;rw[ai]at T;obtain⟨S',st',u,sS,D,n1,l,Y,_,_⟩:=iV t.ok j.ok j.nx j.rx.w T;rw[ai]at Y;have⟨k,u1,ZQ,Mc,w5⟩:=dc Y;have⟨r,d,q⟩:=bJ.mp w5;have⟨v1,e1,t1⟩:=D.slot ZQ Mc;have Lb:g.σ[i]?=a5 (a5 v1):=e1;rw[j.hσ,t.hσ,J]at Lb;cases Lb;cases u1<;>first|(simp only[Cu]at d;cases d;done)|skip
 rename_i ks us;have⟨a1,kvs,ea,g1,g2,g3⟩:=t1.dict D;cases ea;have Te:g.H a0=a5 (.dK kvs):=g1;show⟨_,eG.k (k:=l0 y) Te,?_⟩;simp only[Cu]at d;have⟨l1,l2⟩:=da (x:=y) g2 g3;have m:∀v:V,aN C p {g with S:=S',st:=st' } r.1 r.2 v->Q v g.H:=λv z=>q {g with S:=S',st:=st' } v (j.hσ.trans t.hσ) rfl D (t.nx.trans n1) z;cases o:cq ks us y with
 |some w =>
  rw[o]at d;cases d;have⟨v,ev,rv⟩:=l1 w o;rw[ev];show m v ?_;show aN.item (k:=if k.root=b8 then .bor i else k) rv
 |none =>
  rw[o]at d;cases d;have N0:dB kvs (l0 y)=b6:=by
   cases hq:dB kvs (l0 y) with
   |none=>rfl
   |some v =>
    exfalso
    rw[hq]at l2;have hy:y∈ks:=by simpa using l2.symm
    have n:ks.length=us.length:=by have h1:=Δ Lp g2;have h2:=g3.len;simp at h1 h2;lia
    show qX hy n o
  rw[N0];show m vz l
def zL:Ho X (λo i H Q=>∃p xs j v,o=.ref p/\i=.int j/\H p=a5 (.lst xs)/\0<=j/\xs[j.toNat]?=a5 v/\Q v H):=by
 rintro a s σ H o i k l Q I c d ⟨p,xs,j,v,rfl,rfl,e,f,b,q⟩;cases c;have⟨t,rfl⟩:=d;have⟨its,r,pl,hz⟩:=I.list (.inl (.inl e));have⟨w,g,h⟩:=r.get b;have hl:=r.length;have m:=fO;have n:=(dt.mp b).1;show wpAny_getItem_list pl.isList f ⋯ (by simpa using g) ⟨v,H,I,h,q⟩
def C2:So X (if sub=b8 then .Sub else .Add) (TK (xE sub)):=by
 cases sub with
 |true=>show EY
 |false=>show EX
def Io(hN:X.N[i]?=a5 x)(hv:Ml X.env.scope x)(hd:(x==("__debug__":Str))=cc)(KI:(x==("__classdict__":Str))=cc)
  (ha:PE X a (xN C ma)) (hb:PE X b (Ka C mb))
  (m:∀e f new,Ű b e f new=(do MT [new,e,f] (Vr e f new);XQ [new,e,f] [];pure .next)) :
  L2.PS X (.AugAssign (.Subscript (.Name x px) b p) (if sub=b8 then .Sub else .Add) a pos) (K4 C ns (qS i >>= λ_=>mb >>= λy=>xD y >>= λj=>qS i >>= λus=>M.Kp (qT us j) >>= λo=>ma >>= λz=>xD z >>= λw=>modS i (dH (.int j) (.int (xE sub o w))) >>= λ_=>pure .nx)):=by
 show PS.weak (BM (bU hN hv hd KI) hb zL ha C2 set_list m) ?_;rintro D σ H ⟨c0,rfl,rfl,u,h⟩;rw[ai]at h;have⟨k0,us0,LD,LH,h⟩:=nQ h;have⟨v0,n,M6⟩:=u.sl i _ _ LH;obtain⟨a0,rfl,_,_,_,_⟩:=M6.rt LD;show⟨.ref a0,n,?_⟩;show aV u h λry c vy t w=>?_;rw[ai]at w;have⟨ky,uy⟩:=ry;have⟨j,v,A⟩:=nP w
 dsimp only at v
 subst v;have ev:vy=.int j:=t.rx.int t.ok;subst ev;rw[ai]at A;have⟨k1,RT,Ry,Mc,B⟩:=nQ A;rw[ai]at B;have⟨o,ho,w3⟩:=bJ.mp B;have⟨v1,G,ZR⟩:=t.ok.sl i _ _ Mc;obtain⟨a1,rfl,_,_,_,RU⟩:=ZR.rt Ry;rw[t.hσ,n]at G;cases G;have⟨vs,I,g2⟩:=RU;unfold qT at ho;split at ho
 case isFalse=>cases ho
 rename_i Rn;split at ho
 case h_2=>cases ho
 rename_i o' VN;cases ho;have⟨vo,ZS,ZT⟩:=g2.get VN;have ZU:vo=.int o:=ZT;subst ZU;show⟨a0,vs,j,_,rfl,rfl,I,Rn,ZS,?_⟩;rw[<-t.hσ];show nO t.ok w3 λz r vz d all2 J=>?_;rw[ai]at J;have⟨kz,uz⟩:=z;have⟨w,L,O⟩:=nP J
 dsimp only at L
 subst L;have ev:vz=.int w:=d.rx.int d.ok;subst ev;show⟨o,w,rfl,rfl,?_⟩;rw[ai]at O;have⟨k,u1,u2,hk,Q,g,q⟩:=gy O;rw[aq]at q;have⟨v2,s,OV⟩:=d.ok.sl i _ _ Q;obtain⟨a2,rfl,_,_,_,RV⟩:=OV.rt hk;have ZV:=s;rw[d.hσ,t.hσ,n]at s;cases s;have T:r.H a0=a5 (.lst vs):=all2 _ _ I;cases u1 with
 |lst xs =>
  simp only[dH,d5]at g;have⟨l,MW,rfl⟩:=g;have⟨ab,Y,l2⟩:=RV;rw[T]at Y;cases Y;show⟨a0,vs,j,l,rfl,rfl,T,by rw[<-l2.len];show MW,?_⟩;have⟨MQ,n3⟩:=Ok.mod (c:=r) (H':=upd r.H a0 (.lst (vs.set l (.int (xE sub o w))))) (u':=.lst (xs.set l (.int (xE sub o w)))) d.ok (t.nx.trans d.nx).toNs hk Q ZV (λa ne=>au ne) ⟨_,az⟩ λmv=>⟨_,az,(l2.mv mv).set l rfl⟩
  have z:=q _ rfl MQ n3 (Kept.of (d.hσ.trans t.hσ));rw[<-d.hσ];show z
 |J8 ks vs=>simp[dH]at g
 |_=>simp[dH]at g
end
section
def C3{ks:List Str}(c:kvs.map (·.1)=ks.map l0)(d:kvs.map (·.2)=ns.map V.int):kvs=(ks.zip ns).map λp=>((l0 p.1:Key),V.int p.2):=by
 induction kvs generalizing ks ns with
 |nil =>
  cases ks with
  |nil=>rfl
  |cons _ _=>cases c
 |cons kv kvs e =>
  cases ks with
  |nil=>cases c
  |cons k ks =>
   cases ns with
   |nil=>cases d
   |cons n ns =>
    have⟨a,b⟩:=kv;simp only[d3,Rx]at c d;have⟨rfl,c⟩:=c;have⟨rfl,d⟩:=d;rw[e c d];rfl
theorem ak.of_map{S:ez->Prop}{f:α->U}{g:α->V}:∀{l:List α},(∀x∈l,Rep C S H (f x) (g x))->ak C S H (l.map f) (l.map g)
 |[],_=>rfl
 |x::l,h=>⟨g x,l.map g,rfl,h x (by simp),ak.of_map λy a=>h y (by simp[a])⟩
def C4(hc:X.calm=b8)(hK:C.K=X.K)(hg:Gl X "sorted")(hm:X.mg "sorted"=b6)(hN:X.N[i]?=a5 x)(hv:Ml X.env.scope x)(hd:(x==("__debug__":Str))=cc)(KI:(x==("__classdict__":Str))=cc)(Kh:(b.endLine==m.line)=b8):
  PE X (.Call (.Name "sorted" p) [.Call (.Attribute (.Name x q) "items" b) [] [] m] [] pos) (Ka C (dn i >>= λx=>M.Kp (zj x.2))):=by
 rintro g s σ H Q I ⟨c,rfl,rfl,n,h⟩;show ti (c8 I hg hm (show u7 "sorted"=a5 (.builtin "sorted") by decide +kernel) ?_ (by decide +kernel) (by decide +kernel));rw[ai]at h;have⟨k0,u0,VM,LH,h⟩:=dc h;have⟨v0,e0,t0⟩:=n.slot VM LH;have⟨r,f,l⟩:=bJ.mp h
 dsimp only at f
 unfold zj at f;split at f
 rotate_left
 .cases f
 rename_i ks us;rw[oT]at f;have⟨ns,en,f⟩:=f;split at f
 rotate_left
 .cases f
 rename_i VO;cases f;have⟨Mp,Kk,B⟩:=VO;have⟨d,kvs,rfl,D,LD,G⟩:=t0.dict n;rw[gb en]at G;have VL:=C3 LD (ak.ints G);subst VL;have ek:((ks.zip ns).map (·.1))=ks:=Ĉ ⋯;have k:d4 (fS X.prog X.w) X.A (t6 (.Call (.Attribute (.Name x q) "items" b) [] [] m) X.env) (λv s1=>d4 (fS X.prog X.w) X.A (Oz (.builtin "sorted") [v]) (EP X g c.σ Q) X.xe s1) X.xe s:=by
  show U9 rfl Kh (Kc (bU hN hv hd KI g s c.σ c.H (λv J=>v=.ref d/\J=c.H) I ⟨_,e0,rfl,rfl⟩) λv s1 VP=>?_);have⟨x1,J,O,r1,z1,z2⟩:=VP;subst z1 z2;cases(show v=hU d from r1);have⟨h1,h2⟩:=oQ (T:="dict") O (x:=.ref d) rfl (.inr (.inr (.inl ⟨rfl,.inl ⟨_,D⟩⟩)));show⟨"dict","dict.items",PySem.F.plainAttrs_dict,PySem.F.slot_dict_items,PySem.F.type_dict_items,h1,h2,y4 rfl (PySem.evalArgs_none (pf hc O D (by rw[ek];show Kk) (by rw[Xk];lia) λas L hl nd Y hL=>?_))⟩;have t:c.H L=b6:=Y L (by simp);have ZW:(as.zip ((ks.zip ns).map Oe)).map (·.1)=as:=Ĉ (by rw[c2];lia);have ZX:∀p∈as.zip ((ks.zip ns).map Oe),p.1∈as:=λp u=>(R0 u).1;have same:qm c.H (upd (kh c.H (as.zip ((ks.zip ns).map Oe))) L (.lst ((eV ((ks.zip ns).map (·.1))).map λi=>V.ref (as.getD i 0)))):=λa o e=>by
   have n1:a≠L:=λy=>by rw[y,t]at e;cases e
   rw[au n1,lA λp u y=>?_]
   .show e
   .have:=Y p.1 (by simp[ZX p u]);rw[y,e]at this;cases this
  have⟨Km,n'⟩:=n.grow (S':=c.S) same (λa z=>.inl z) λa z=>z;have⟨q1,q2,q3,q4,q5⟩:=n.kl t;show l {c with H:=upd (kh c.H (as.zip ((ks.zip ns).map Oe))) L (.lst ((eV ((ks.zip ns).map (·.1))).map λi=>V.ref (as.getD i 0))),S:=c.S} _ rfl rfl Km n' ⟨L,rfl,t,q2,q5,_,az,?_⟩;change ak C c.S _ ((Cr (ks.zip ns)).map xA) _;unfold Cr;rw[i9];show ak.of_map λj hj=>?_;have MW:j<(ks.zip ns).length:=by
   have:=rr.mp ((cj _).mem_iff.mp hj);rw[c2]at this;show this
  have U5:j<as.length:=by lia
  have e1:(ks.zip ns).getD j (nH,0)=(ks.zip ns)[j]:=(Ø _).symm;have e2:as.getD j 0=as[j]:=by simp[w6,U5]
  change Rep C c.S _ (xA ((ks.zip ns).getD j (nH,0))) (V.ref (as.getD j 0));rw[e1,e2];show⟨as[j],Oe (ks.zip ns)[j],rfl,KN.of ?_,⟨_,_,rfl,rfl,_,_,rfl,rfl,rfl⟩⟩;have K2:as[j]≠L:=λy=>hL (by rw[<-y];simp);show(au K2).trans (u_ (by rw[ZW];show nd) (vs:=Oe (ks.zip ns)[j]) ?_);show Vn.mpr ⟨j,by rw[Xk,c2];lia,?_⟩;rw[List.getElem_zip,W3]
 have eb:zy pos (i2 [.Call (.Attribute (.Name x q) "items" b) [] [] m] X.env)=[(cc,t6 (.Call (.Attribute (.Name x q) "items" b) [] [] m) X.env)]:=rfl;have ZY:RC pos (ML [] X.env)=[]:=rfl;rw[eb,ZY];show pA k
end
section
def vp(g:X.calm=b8)(i:C.K=X.K)(j:Gl X "set")(m:X.mg "set"=b6)(n:PE X a (Ka C r))(hs:i2 [a] X.env=[(cc,t6 a X.env)])(I:Inv X b d.σ d.H s)(u:Ok C d)
  (h:W (r >>= λx=>M.Kp (iR x.2) >>= k) d.st Post)
  (y:∀(S:ez) (o:Obj) (s1:eH) (D:List Str) (c:Cf),c.σ=d.σ->Ok C c->Nx d c->s1.heap.get? S=a5 o->aR X.prog X.w s1.heap S (aH X.w) D->Inv X ((S,o)::b) c.σ c.H s1->W (k D) c.st Post->(∀q∈b,q.1≠S)->Q (.ref S) s1) :
  d4 (fS X.prog X.w) X.A (t6 (.Call (.Name "set" p) [a] [] pos) X.env) Q X.xe s:=by
 show ti (c8 I j m (show u7 "set"=a5 (.type "set") by decide +kernel) ?_ (by decide +kernel) (by decide +kernel));have B:zy pos (i2 [a] X.env)=[(cc,t6 a X.env)]:=by rw[hs];rfl
 have G:RC pos (ML [] X.env)=[]:=rfl;rw[B,G];show vm (one n I u h λx c vx v s2 t f rv w=>?_);rw[ai]at w;have⟨D,e,w⟩:=bJ.mp w;have⟨l,ys,rfl,J,L,rfl⟩:=nM i t.ok t.rx e;cases rv;show sy g f J L λS o s1 hsz N O T=>y S o s1 _ c t.hσ t.ok t.nx N O T w λq Y z=>by
  have:=et (f.pin q (nC _ Y)).1;rw[z]at this;show absurd (i5 this hsz) (t4 _)
def C5(n:X.calm=b8)(G:C.K=X.K)(J:Gl X (if ln=b8 then "len" else "sorted"))(L:X.mg (if ln=b8 then "len" else "sorted")=b6)(N:Gl X "set")(O:X.mg "set"=b6)(ha:PE X a (Ka C ma))(hb:PE X b (Ka C mb))(ZZ:i2 [a] X.env=[(cc,t6 a X.env)])(Nc:i2 [b] X.env=[(cc,t6 b X.env)]):
  PE X (.Call (.Name (if ln=b8 then "len" else "sorted") p) [.BinOp (.Call (.Name "set" t) [a] [] u) .Sub (.Call (.Name "set" p2) [b] [] pos2) d] [] pos)
   (Ka C (ma >>= λx=>M.Kp (iR x.2) >>= λd1=>mb >>= λy=>M.Kp (iR y.2) >>= λd2=>M.Kp (xB ln d1 d2))):=by
 rintro f s σ H Q I ⟨z,rfl,rfl,ok,h⟩;have g:d4 (fS X.prog X.w) X.A (t6 (.BinOp (.Call (.Name "set" t) [a] [] u) .Sub (.Call (.Name "set" p2) [b] [] pos2) d) X.env) (λv s1=>d4 (fS X.prog X.w) X.A (Oz (.builtin (if ln=b8 then "len" else "sorted")) [v]) (EP X f z.σ Q) X.xe s1) X.xe s:=by
  show wpAny_BinOp (vp n G N O ha ZZ I ok h λS1 T s1 D1 c1 Z0 Ke Z1 Ob NK I1 w1 Qs=>?_);show vp n G N O hb Nc I1 Ke w1 λS2 o2 s2 D2 j Z2 Y Z3 Qt Qu B w2 Qp=>?_;have⟨r,m,k⟩:=bJ.mp w2;have VQ:=(B.pin (S1,T) (nC _ (by simp))).1;have VR:aR X.prog X.w s2.heap S1 (aH X.w) D1:=NK.at λo e=>by rw[Ob]at e;cases e;show VQ
  have K2:S1≠S2:=Qp (S1,T) (by simp);have nx:Nx z j:=Z1.trans Z3;have D:j.σ=z.σ:=Z2.trans Z0;have I3:Inv X f j.σ j.H s2:=B.ei λq hq=>B.pin q (nC _ (by simp[hq]));unfold xB at m;split at m
  rotate_left
  .cases m
  rename_i i;show L2.Ca K2 VR Qu i.1 i.2 λh' hk hR=>?_;have I4:Inv X f j.σ j.H {s2 with heap:=h' }:=I3.kept (t':=s2.toks) hk;rw[<-D];cases ln with
  |true =>
   cases m;show su I4 hR (bZ.flat (c:=j) k D Y nx rfl)
  |false =>
   cases m;show gT n I4 hR (ý (vr _ _) i.1) λl hl=>bZ.list (c:=j) k D Y nx (ak.strs.mpr rfl) l hl
 have eb:zy pos (i2 [.BinOp (.Call (.Name "set" t) [a] [] u) .Sub (.Call (.Name "set" p2) [b] [] pos2) d] X.env)=[(cc,t6 (.BinOp (.Call (.Name "set" t) [a] [] u) .Sub (.Call (.Name "set" p2) [b] [] pos2) d) X.env)]:=rfl;have ek:RC pos (ML [] X.env)=[]:=rfl;cases ln with
 |true =>
  show ti (c8 I J L (show u7 "len"=a5 (.builtin "len") by decide +kernel) ?_ (by decide +kernel) (by decide +kernel));rw[eb,ek];show pA g
 |false =>
  show ti (c8 I J L (show u7 "sorted"=a5 (.builtin "sorted") by decide +kernel) ?_ (by decide +kernel) (by decide +kernel));rw[eb,ek];show pA g
end
section
variable{X:Cx}{C:Ct}{a:mx}{ma:M (Kd×U)}{apos G':Pos}{i:Nat}{x:Str}{px:Pos}
def Ok.zM(b:Ok C c)(hk:k.root=b8)(hs:c.st[i]?=a5 (a5 (k,.lst us))):∃a vs,c.σ[i]?=a5 (a5 (.ref a))/\c.H a=a5 (.lst vs)/\ak C c.S c.H us vs:=by
 have⟨v,d,e⟩:=b.sl i k _ hs;obtain⟨r,rfl,_,_,_,vs,f,g⟩:=e.rt hk;show⟨r,vs,d,f,g⟩
theorem ak.eraseIdx{S:ez->Prop}:∀{us:List U}{vs:List V} (n:Nat),ak C S H us vs->ak C S H (us.eraseIdx n) (vs.eraseIdx n)
 |[],_,n,h=>by cases h;simp[ak]
 |u::us,vs,0,h=>by
  have⟨v,r,rfl,c,b⟩:=h;show b
 |u::us,vs,n+1,h=>by
  have⟨v,r,rfl,c,b⟩:=h;show⟨v,_,rfl,c,b.eraseIdx n⟩
def Ok.out(f:Ok C c)(n:Nx g c)(l:c.σ=g.σ)(hk:k.root=b8)(hs:c.st[i]?=a5 (a5 (k,.lst us)))(h:c.σ[i]?=a5 (a5 (.ref r)))(m:ak C c.S c.H d b)(p:Rep C c.S c.H u v)(w:bZ C g Q (.loc,u) (c.st.set i (a5 (k,.lst d)))):Q v (upd c.H r (.lst b)):=by
 have q:Mv c.S c.H c.S (upd c.H r (.lst b)):=by
  have⟨N,j,s⟩:=f.sl i k _ hs;rw[h]at j;cases j;obtain⟨O,y,A,_,_,B⟩:=s.rt hk;cases y;have⟨o,ho,D⟩:=B.some;show⟨λ_ z=>z,λa o' e t=>by rw[au (λz=>by subst z;rw[ho]at e;cases e;show D t)];show e,λa o' z e=>by rw[au (λG=>by subst G;show A z)];show e⟩
 have⟨I,J⟩:=f.mod (H':=upd c.H r (.lst b)) (u':=.lst d) n.toNs hk hs h (λa ne=>au ne) ⟨_,az⟩ λL=>⟨b,az,m.mv L⟩
 show w {c with H:=upd c.H r (.lst b),st:=c.st.set i (a5 (k,.lst d))} v l rfl I ⟨J⟩ (p.mv q)
def C6(g:X.N[i]?=a5 x)(j:Ml X.env.scope x)(l:(x==("__debug__":Str))=cc)(m:(x==("__classdict__":Str))=cc)(n:(apos.endLine==G'.line)=b8)(o:C.K=X.K):
  PE X (.Call (.Attribute (.Name x px) "pop" apos) [] [] G') (Ka C (zl i)):=by
 show PE.weak (E8 PySem.F.plainAttrs_list PySem.F.slot_list_pop PySem.F.type_list_pop E9 (bU g j l m) rfl n) ?_;rintro σ H Q ⟨q,rfl,rfl,c,h⟩;have⟨r,st',e,w⟩:=h;unfold zl at e;split at e
 .rename_i k us hs;split at e
  .rename_i hk;split at e
   .rename_i u s;cases e;have⟨p,vs,d,f,b⟩:=c.zM hk hs;have⟨v,t,y⟩:=b.get s;have hl:=b.len;show⟨_,d,.inl ⟨rfl,vs,o▸Kz.of f⟩,p,vs,v,rfl,rfl,f,by rw[<-hl];show t,?_⟩;show c.out (Nx.refl q) rfl hk hs d ?_ y w;rw[Ð,Ð,hl];show b.take _
   .cases e
  .cases e
 .cases e
def Ip(b:0<=j)(h:j.toNat<n):YO j n=a5 j.toNat:=by
 simp only[YO];rw[ž (show ¬j<0 by lia),Ž (by rw[cb,ż,ż];lia)]
def xO{st:ay}(h:W (xC i u) st Q):∃(j:Int) (k:Kd) (us:List U) (y:U),u=.int j/\k.root=b8/\0<=j/\j<1000000/\st[i]?=a5 (a5 (k,.lst us))/\us[j.toNat]?=a5 y/\Q (.loc,y) (st.set i (a5 (k,.lst (us.eraseIdx j.toNat)))):=by
 have⟨r,st',e,w⟩:=h;cases u with
 |int j =>
  unfold xC at e
  dsimp only at e
  split at e
  .rename_i k us hs;split at e
   .rename_i hk;split at e
    .rename_i y b;cases e;show⟨j,k,us,y,rfl,hk.1,hk.2.1,hk.2.2,hs,b,w⟩
    .cases e
   .cases e
  .cases e
 |_=>cases e
def zN(o:C.K=X.K)(q:X.N[i]?=a5 x)(s:Ml X.env.scope x)(u:(x==("__debug__":Str))=cc)(A:(x==("__classdict__":Str))=cc)(B:PE X a (Ka C ma))
  (D:((zy G' (i2 [a] X.env)).all (λx=>!x.1)&&(RC G' (ML [] X.env)).all (λx=>x.1.isSome)
   && c4 ([a].length+([]:List O3).length+(if ([]:List O3).isEmpty then 0 else 1)<30))=b8)
  (G:(apos.endLine==G'.line)=b8) (e:i2 [a] X.env=[(cc,t6 a X.env)]) :
  PE X (.Call (.Attribute (.Name x px) "pop" apos) [a] [] G') (Ka C (dn i >>= λx=>OI x.2 >>= λ_=>ma >>= λy=>xC i y.2)):=by
 show PE.weak (m9 PySem.F.plainAttrs_list PySem.F.slot_list_pop PySem.F.type_list_pop yy (bU q s u A) (dA B fP e) rfl D G e rfl) ?_;rintro σ H Q ⟨c0,rfl,rfl,b,h⟩;rw[ai]at h;have⟨k0,I,J,L,h⟩:=dc h;have⟨O,f,T⟩:=b.slot J L;show⟨O,f,?_⟩;cases I with
 |lst Y =>
  rw[ai,show OI (U.lst Y)=pure () from rfl,aq]at h;obtain⟨a0,QK,d,Qo,_⟩:=T.list b;show⟨by rw[d];show .inl ⟨rfl,QK,o▸Qo⟩,?_⟩;show aV b h λr c v t w=>?_;have⟨j,k,us,y,ej,hk,j0,j1,hs,hu,w⟩:=xO w;have⟨p,vs,g,h2,l⟩:=t.ok.zM hk hs;have hp:p=a0:=by
   have:=g;rw[t.hσ,f,d]at this;cases this;rfl
  subst hp;have⟨z,m,g2⟩:=l.get hu;have NX:j.toNat<vs.length:=(dt.mp m).1;have n:=t.rx;rw[ej]at n;have ev:=n.int t.ok;show⟨p,vs,j,j.toNat,z,d,by rw[ev],h2,U2 (by decide) j0,Int.lt_trans j1 (by decide),Ip j0 NX,m,t.ok.out t.nx t.hσ hk hs g (l.eraseIdx _) g2 w⟩
 |_=>rw[ai]at h;show(bu.mp h).elim
end
end TM
namespace TM
open PySem L2 PyProof.Rows PySem.W
section
variable{X:Cx}{C:Ct}{pins:List (ez×Obj)}{s:eH}{c0 c c1:Cf}
variable{a b tt:mx}{e:mx}{es:List mx}{ms:M (List (Kd×U))}{ns:Nat->Bool}
abbrev QN(X:Cx)(C:Ct)(pins:List (ez×Obj))(c0:Cf)(Post:Str->ay->Prop)(v:dV)(s':eH):Prop :=
 ∃(c:Cf) (s1:eH) (d T f:ez) (H':Hp) (cl:Str),v=.ref d/\c.σ=c0.σ/\Ok C c/\Nx c0 c/\Inv X pins c0.σ c.H s1/\bQ X.prog X.w X.stack c.H s1 d f (a5 T) .none H' s'/\qm c.H H'/\nsIn X.K ko cl=a5 (a5 (.ref f))/\Post cl c.st
abbrev PR(X:Cx)(C:Ct)(e:mx)(m:M (Sum (Kd×U) Str)):Prop:=∀(pins:List (ez×Obj)) (s:eH) (c0:Cf) (Post:Sum (Kd×U) Str->ay->Prop),Inv X pins c0.σ c0.H s->Ok C c0->W m c0.st Post ->
 d4 (fS X.prog X.w) X.A (t6 e X.env) (λu s2=>∃r c v,M5 C c0 c r v/\Inv X pins c0.σ c.H s2/\RelV v u/\Post (.inl r) c.st) (QN X C pins c0 λcl st=>Post (.inr cl) st) s
def Gu
  (Y:C.P=X.prog) (hw:C.w=X.w) (hK:C.K=X.K) (hF:Γ f=F) (hk:∀us k u,F us=a5 (.ok (k,u))->(k=.own\/k=.loc\/k=.any)/\us.length=n) (Kx:∀us c,F us=a5 (.exc c)->us.length=n)
  (G:jm X.prog X.w X.K X.mg X.base (PN X.prog X.w) kd fa fd ps (spT X.prog X.w X.K F n)) (hr:fJ kd X.A) (hg:Gl X f) (hm:X.mg f=a5 (.ref fa)) (PM:PySem.W.keepIn X.K (.ref fa)=b8) (o:Binds X.K fd ps []) (Ni:(f==("__debug__":Str))=cc)
  (ha:PA X.MU (e::es) (LB C ms)) (he:i2 (e::es) X.env=(cc,t6 e X.env)::i2 es X.env) (KD:(zy p3 (i2 es X.env)).any (·.1)=cc) :
  PR X C (.Call (.Name f p2) (e::es) [] p3) (ms >>= λrs=>aF rs >>= λ_=>cI Γ f (rs.map (·.2))):=by
 intro pins s c0 Post I ok h;show ti (fg I hg hm ?_ Ni);show PySem.W.callWith_K (h₀:=X.base) I.ok.mod.Qg PM (qb (args (X:=X.MU) ha (I.kf _) ok h p3) (λus s1 z=>?_) λ_ _ z=>z.elim) he KD;have⟨rs,c,vs,t,l,rv,w⟩:=z;have l:=l.fN;show⟨l.Nz,?_⟩;have m:C.Eqv (OM X.prog X.w X.K c.H (L6 c.H)):=⟨Y,hw,hK⟩
 have MR:(OM X.prog X.w X.K c.H (L6 c.H)).Eqv C:=⟨Y.symm,hw.symm,hK.symm⟩
 have p:=t.read;have i:∀(k1:Kd) (u:U),F (rs.map (·.2))=a5 (.ok (k1,u))->k1=.own\/k1=.loc->Post (.inl (k1,u)) c.st ->
   d4 (fS X.prog X.w) X.A (Oz (.ref fa) us) (λu s2=>∃r c v,M5 C c0 c r v/\Inv X pins c0.σ c.H s2/\RelV v u/\Post (.inl r) c.st) (QN X C pins c0 λcl st=>Post (.inr cl) st) s1:=λk1 u g Ry q=>by
  have⟨k0,k2⟩:=hk _ _ _ g;have x:spT X.prog X.w X.K F n vs c.H (λv H'=>∃d,M5 C c0 d (k1,u) v/\d.H=H'/\d.st=c.st) E0:=⟨by rw[<-p.len];show k2,rs.map (·.2),.ok (k1,u),L6 c.H,g,λ_ z=>z,p.cg m,k0,λv H' S' o=>o.here (Q:=λv H'=>∃d,M5 C c0 d (k1,u) v/\d.H=H'/\d.st=c.st) Ry t.hσ t.ok t.nx MR λd v2 y B Ks n2 D=>⟨d,⟨y,Ks,n2,D⟩,rfl,B⟩⟩
  show qb (vc (EE:=QN X C pins c0 λcl st=>Post (.inr cl) st) G hr o l rv x λ_ _ ⟨_,_,_,_,_,_,z⟩=>z.elim) (λv s2 ⟨v',H2,I2,D,d,t2,J,L⟩=>?_) λ_ _ z=>z;rw[t.hσ]at I2;subst J;show⟨_,d,v',t2,I2,D,L▸q⟩
 obtain⟨r,st',j,q⟩:∃r st',cI Γ f (rs.map (·.2)) c.st=a5 (.ok r,st')/\Post r st':=w;unfold cI at j;rw[hF]at j;split at j
 .rename_i u g;cases j;show i _ u g (.inl rfl) q
 .rename_i u g;cases j;show i _ u g (.inr rfl) q
 .rename_i cl g;cases j;have x:spT X.prog X.w X.K F n vs c.H (λ_ _=>False) (λv _ H'=>(∃N,v=.ref N/\nsIn X.K ko cl=a5 (a5 (.ref N)))/\qm c.H H'):=⟨by rw[<-p.len];show Kx _ _ g,rs.map (·.2),.exc _,L6 c.H,g,λ_ z=>z,p.cg m,λO H1 h1 h2=>⟨⟨O,rfl,h1⟩,h2⟩⟩
  show qb (vc (EE:=QN X C pins c0 λcl st=>Post (.inr cl) st) G hr o l rv x λv s' ⟨ea,O,T,H',y,F',⟨N,B,J⟩,L⟩=>?_) (λv s2 ⟨_,_,_,_,z⟩=>z.elim) λ_ _ z=>z;cases B;show⟨c,s1,ea,T,O,H',cl,y,t.hσ,t.ok,t.nx,by rw[<-t.hσ];show l,F',L,J,q⟩
 .cases j
def Iq(x:PT X.MU tt (LA C y))(B:PR X C a k)(D:PR X C b l):PR X C (.IfExp tt a b pos) (y >>= λp=>if p=b8 then k else l):=by
 intro pins s c0 Post I G h;show wpAny_IfExp (qb (x pins s c0.σ c0.H (λp o=>∃c,c.H=o/\c.σ=c0.σ/\Ok C c/\Nx c0 c/\W (if p=b8 then k else l) c.st Post) (I.kf _) (dP G h λp c e i n w=>⟨c,rfl,e,i,n,w⟩)) (λp s1 ⟨o,g,c,J,d,i,n,w⟩=>?_) λ_ _ z=>z.elim);subst J;have g:=g.fN;rw[<-d]at g;have f:∀{e:mx} {m:M (Sum (Kd×U) Str)},PR X C e m->W m c.st Post->d4 (fS X.prog X.w) X.A (t6 e X.env) (λu s2=>∃r c v,M5 C c0 c r v/\Inv X pins c0.σ c.H s2/\RelV v u/\Post (.inl r) c.st) (QN X C pins c0 λcl st=>Post (.inr cl) st) s1:=λ{e m} L w=>by
  show qb (L pins s1 c Post g i w) (λu s2 ⟨r,j,v,t,N,rv,q⟩=>?_) λv s2 z=>?_
  .show⟨r,j,v,⟨t.hσ.trans d,t.ok,n.trans t.nx,t.rx.from n⟩,by rw[<-d];show N,rv,q⟩
  .have⟨j,s3,O,T,Q,H',cl,Y,hσ,Kq,n0,I3,F,hs,hn,q⟩:=z;show⟨j,s3,O,T,Q,H',cl,Y,hσ.trans d,Kq,n.trans n0,by rw[<-d];show I3,F,hs,hn,q⟩
 cases p with
 |true=>rw[Ž rfl]at w;show f B w
 |false=>rw[ž js]at w;show f D w
def Ir(f:PR X C a m)(hs:PD a b6 pos.line X.env=pure cc)
  (g:∀c H',C.xw (.str c) H'->∀d T H pins σ s e s',nsIn X.K ko c=a5 (a5 (.ref d))->Inv X pins σ H s->bQ X.prog X.w X.stack H s e d T .none H' s'->X.xe (.ref e) s'):L2.PS X (.Expr a pos) (K4 C ns (m >>= Cv)):=by
 rintro pins s σ H D I ⟨c0,rfl,rfl,i,h⟩;rw[ai]at h;show Ŧ (qb (f pins s c0 _ I i h) (λu s2 ⟨r,c,v,t,j,rv,q⟩=>?_) λv s2 z=>?_) I.quiet hs
 .rw[show Cv (.inl r)=pure .nx from rfl,aq]at q;have z:D.nx c.σ c.H:=q c rfl t.ok t.nx (Kept.of t.hσ);rw[t.hσ]at z;show⟨c0.σ,c.H,j,z⟩
 .have⟨c,s1,k,T,l,H',cl,rfl,n,o,p,x,F,hs,y,q⟩:=z;rw[show Cv (.inr cl)=pure (.rt .io (.str cl)) from rfl,aq]at q;have⟨A,B⟩:=o.grow (H':=H') (S':=c.S) hs (λa z=>.inl z) λa z=>z;show g cl H' (q {c with H:=H' } rfl A (p.trans B) (Kept.of n)) l _ c.H pins _ s1 k s2 y x F
def zO(l:∀m,ns m=b8->m≠k/\m≠j)(x:C.K=X.K)(y:Ok C c0)(A:Ok C c)(n:Nx c0 c)(f:c.σ=c0.σ)(B:k<c.σ.length)(hs:qm c.H H')(p:H' d=b6)(G:oe.cls=.ref t)(I:nsIn X.K ko cl=a5 (a5 (.ref t)))(v:V)
  (w:W (ku cs i j k (.inr cl)) c.st (fG C c0 ns D)):D.nx (((c0.σ.set j (a5 v)).set k (a5 (.ref d))).set j b6) (upd H' d (.Lc oe (.ext λ_=>True))):=by
 have⟨r,st',e,q⟩:=w;unfold ku at e
 dsimp only at e
 split at e
 .rename_i J;split at e
  case isFalse=>cases e
  rename_i L;have N:c.H d=b6:=by
   cases z:c.H d with
   |none=>rfl
   |some o=>rw[hs d o z]at p;cases p
  have⟨O,Q⟩:=A.kill J;have⟨T,Y⟩:=O.grow (H':=upd H' d (.Lc oe (.ext λ_=>True))) (S':=c.S) (λa o z=>by
   rw[au (bt z N)];show hs a o z) (λa z=>.inl z) λa z=>z
  have⟨g,h,e2,Km,n',w'⟩:=pB (r:=(.loc,.exc cl)) (v:=.ref d) (i:=k) y T ((n.trans Q).trans Y) (by simpa using B)
   (show Rep C c.S _ _ _ from⟨d,rfl,oe,t,az,G,x▸I⟩) (Post:=λ_ LG=>fG C c0 ns D .nx LG) (by
    have z:W (eL k (.loc,.exc cl) >>= λ_=>(pure .nx:M Fl)) c.st (fG C c0 ns D):=⟨r,st',e,q⟩
    rw[ai]at z;show z.mono λ_ st z=>aq.mp z)
  have es:(((c0.σ.set j (a5 v)).set k (a5 (.ref d))).set j b6)=(c0.σ.set j b6).set k (a5 (.ref d)):=by
   rw[List.set_comm _ _ L.1,List.set_set]
  have z:D.nx g.σ g.H:=w' g rfl Km n' ⟨λm u=>by
   rw[h];change((c.σ.set j b6).set k _)[m]?=_;rw[i1 (qP (l m u).1),i1 (qP (l m u).2),f],by rw[h];simp[f]⟩
  rw[h,e2]at z;rw[es,<-f];show z
 .cases e
def Iu(Li:∀m,ns m=b8->m≠i/\m≠k/\m≠j)(J:X.N.Nodup)(hi:X.N[i]?=a5 y)(hy:Loc X.env.scope y)(Z6:X.fn y=b8)(L:X.N[j]?=a5 n)(O:X.env.scope.names.lookup n=a5 .local)
  (hk:X.N[k]?=a5 z) (hz:Loc X.env.scope z) (Z7:X.fn z=b8) (hK:C.K=X.K) (hr:PR X C a m) (Oa:PD a (a5 (.Name y p1)) p4.line X.env=pure cc) (G:X.stack=X.env::X.outer/\X.env.frame=a5 X.env.locals) (hx:X.ex=[]) (Z8:Gl X x) (Z9:X.mg x=a5 (.ref Dc)) (Z_:(x==("__debug__":Str))=cc)
  (Z':∀cl∈cs,∀l,nsIn X.K ko cl=a5 (a5 (.ref l))->exmOne X.K (.ref l) (.ref Dc)=a5 b8) (Kk:(n==("__debug__":Str))=cc) (ab:(n==("__classdict__":Str))=cc) :
  L2.PS X (.Try [.Assign [.Name y p1] a p4] [.ExceptHandler (a5 (.Name x p5)) (a5 n) [.Assign [.Name z p6] (.Name n p9) Xn] al] [] [] pos) (K4 C ns (m >>= ku cs i j k)):=by
 rintro pins s σ H D' I ⟨c0,rfl,rfl,ok,h⟩;have Lk:i<c0.σ.length:=by rw[I.len];show(dt.mp hi).1
 have PK:k<c0.σ.length:=by rw[I.len];show(dt.mp hk).1
 rw[ai]at h;show wpAny_Try_except (qb (Q:=λf s1=>f=Flow.next/\SP X pins D' .next s1) (E:=QN X C pins c0 λcl st=>W (ku cs i j k (.inr cl)) st (fG C c0 ns D')) ?_ (λf s1 z=>?_) λv s1 z=>?_)
 .show ő (Ŀ (qb (hr pins s c0 _ I ok h) (λu s2 ⟨r,c,v,t,I2,rv,q⟩=>?_) λ_ _ z=>z) Oa);show iE I2 J hi hy rv (λs3 Y=>Ts ⟨rfl,_,c.H,Y,lL (λm z=>(Li m z).1) ok t (by rw[t.hσ];show Lk) q⟩) (.inl Z6)
 .have⟨rfl,z⟩:=z;show Ts z
 .have⟨c,s0,d,T,l,H',cl,rfl,hσ,Kq,n0,B,F1,hs,M0,w⟩:=z;have LO:cl∈cs:=by
   obtain⟨r,st',e,_⟩:=w;unfold ku at e
   dsimp only at e
   split at e
   .split at e
    case isFalse=>cases e
    rename_i q;show q.2
   .cases e
  have ac:=Z' cl LO l M0;have Nh:s0.heap.FunFrames X.base (X.env::X.outer):=by rw[<-G.1];show B.stack
  have MZ:∀b∈KW (X.env::X.outer),c.H b=b6:=by rw[<-G.1];show B.kC
  have hA:X.A.frames=a5 (X.env::X.outer):=by rw[<-G.1];show B.ok.frames
  rw[G.1]at F1;show F1.note hA G.2 Nh MZ λT2 s2 F2=>F2.land Nh MZ λT3 s3 F3=>?_;have ag:∀{T:Option ez} {D:dV} {s':eH},bQ X.prog X.w (X.env::X.outer) c.H s0 d l T D H' s'->Inv X pins c0.σ H' s':=λ{T D s'} F=>B.D3 (ch:=[]) F.os (by rw[G.1];show F.un) F.J_ F.bare λb z=>nomatch z
  have g:∀b o,s0.heap.get? b=a5 o->b≠d:=λb o q z=>by rw[z,F1.new]at q;cases q
  have Qw:d≠X.env.locals/\d∉X.fs:=by
   obtain⟨m,⟨o,_,_,ho,_⟩,_⟩:=B.loc;show⟨qP (g _ o ho),λz=>?_⟩;obtain⟨_,o,q,_⟩:=Nh.mem (P2.mpr (by
    have⟨env,h1,h2⟩:=P2.mp z;show⟨env,mf _ h1,h2⟩))
   show g _ o q rfl
  have NQ:∀{T:Option ez} {D:dV} {s':eH} (E:dV->eH->Prop),bQ X.prog X.w (X.env::X.outer) c.H s0 d l T D H' s'->∃oe,s'.heap.get? d=a5 oe/\oe.cls=.ref l/\Inv (X.NQ d oe E) pins c0.σ H' s':=λ{T D s'} E F=>by
   obtain⟨a0,oe,vs,h1,h2,h3,_⟩:=F.exc;show⟨oe,h1,h2,(ag F).NQ h1 F.he Qw.1 Qw.2 λv z=>by rw[h3]at z;cases z⟩
  show wpAny_handleBy_cons (codeAny_handlers_test ?_) λz=>nomatch z
  have⟨am,g1,g2,Y⟩:=NQ (Vt (fS X.prog X.w) (X.A.mark (a5 (.ref d))) X.env λx s'=>cameBackBy (fS X.prog X.w) X.A X.env X.xe x s') F3;show fg Y Z8 Z9 ?_ Z_;have LT:Ņ (fS X.prog X.w) s3.heap (ī (.ref d)) (.ref l):=by
   show(ŵ g1).andThen ?_;rw[g2];show .now
  show(exm_one Y.Nz LT ac).here (codeAny_handlers_suite_as ?_);show F3.land Nh MZ λT4 s4 F4=>?_;have⟨Tf,g3,g4,I4⟩:=NQ (λ_ _=>False) F4;show iE (X:=X.NQ d Tf λ_ _=>False) I4 J L (.inl O) (v:=.ref d) rfl (λs5 I5=>?_) (.inr O);have pt:=rZ (X:=X.NQ d Tf λ_ _=>False) (pos:=Xn) (pos':=p6) J hk hz (bU (pos:=p9) L (.inl O) Kk ab) rfl (.inl Z7);show qb ((qg pt uH) pins s5 _ H' {nx:=λσ H=>σ=(c0.σ.set j (a5 (.ref d))).set k (a5 (.ref d))/\H=H',rt:=λ_ _=>False} I5 ?_) (λD s6 z=>?_) λ_ _ z=>z.elim
  .show⟨.ref d,fR (by rw[I.len];show(dt.mp L).1),rfl,rfl⟩
  .cases D with
   |next =>
    obtain⟨_,_,I6,rfl,rfl⟩:=z;show Inv.gone (X:=X.NQ d Tf λ_ _=>False) I6 J L O λs7 I7=>?_;have g7:=(I7.pin (d,Tf) nc).1;show⟨_,_,(I7.JR I.ok).HN g7 F4.he ?_ Qw.1 (λx c q=>?_) (λp hp=>?_),zO (X:=X) (λm z=>(Li m z).2) hK ok Kq n0 hσ (by rw[hσ];show PK) hs F4.he g4 M0 _ w⟩
    .cases q:X.s₀.heap.get? d with
     |none=>rfl
     |some o =>
      have⟨o',q'⟩:=B.base.there d o q (by rw[hx];show λz=>nomatch z);show absurd rfl (g d o' q')
    .obtain⟨v,o,q,_⟩:=B.cell x c q;show g c o q
    .show g p.1 p.2 (B.pin p hp).1
   |ret v=>obtain⟨_,_,_,_,_,z⟩:=z;show z.elim
   |_=>obtain⟨_,_,_,z⟩:=z;show z.elim
def vq(y:C.K=X.K)(A:Gl X "isinstance")(B:X.mg "isinstance"=b6)(G:PE X a (Ka C J))(L:PE X D (tC vD))(N:∀u,RelV vD u->u=dv)(hs:i2 [a,D] X.env=(cc,t6 a X.env)::i2 [D] X.env)(O:i2 [D] X.env=(cc,t6 D X.env)::i2 [] X.env)(T:(zy l (i2 [D] X.env)).any (·.1)=cc)
  (Y:∀q∈g,∀d,nsIn X.K ko q.1=a5 (a5 (.ref d))->fX X.K d=b8/\kitOne X.K (.ref d) dv=a5 q.2) :
  PE X (.Call (.Name "isinstance" p) [a,D] [] l) (Ka C (J >>= λx=>M.Kp (eM g x.2) >>= λb=>pure (.loc,.bl b))):=by
 rintro pins s σ H Q I ⟨c0,rfl,rfl,ok,h⟩;show ti (c8 I A B (show u7 "isinstance"=a5 (.builtin "isinstance") by decide +kernel) ?_ (by decide +kernel) (by decide +kernel));show Vm (Kc (dA G (dA L fP O) hs l pins s c0.σ c0.H (λvs H'=>∃x c v b,M5 C c0 c x v/\c.H=H'/\vs=[v,vD]/\eM g x.2=a5 b/\bZ C c0 Q (.loc,.bl b) c.st) I ?_) λus s1 ⟨vs,H1,i,r1,x,c,v,b,t,e,e2,f,w⟩=>?_) hs T
 .show aV ok h λx c v t w=>?_;rw[ai]at w;have⟨b,e,w⟩:=bJ.mp w;rw[aq]at w;show⟨x,c,v,b,t,rfl,rfl,e,w⟩
 .subst e e2;have⟨u1,u2,rfl,j,k⟩:=vals2 r1;obtain rfl:=N _ k;have⟨kx,ux⟩:=x;unfold eM at f;split at f
  .rename_i cl m
   dsimp only at m
   subst m;have⟨a,ea,o,d,h1,h2,n⟩:=t.rx.read t.ok;subst ea;cases j;rw[y]at n;obtain⟨q,hq,r⟩:∃q∈g,q=(cl,b):=⟨_,PySem.mem_of_lookup f,rfl⟩
   have⟨k1,k2⟩:=Y _ hq d (by rw[r];show n);rw[r]at k2;show kia_one (ze k1) i.Nz ⟨o,(i.J_ a _ h1).1,h2⟩ k2 (λz=>nomatch z) λtk=>?_;show⟨.bl b,c.H,i.tok tk,rfl,w c (.bl b) t.hσ rfl t.ok t.nx rfl⟩
  .cases f
theorem qY{S:ez->Prop}:∀{us:List U}{vs:List V}{bs:List Bool},ak C S H us vs->gU us=a5 bs->vs=bs.map V.bl
 |[],vs,bs,h,e=>by cases e;show h
 |.bl b::us,vs,bs,h,e=>by
  have⟨v,r,rfl,d,f⟩:=h;rw[gU,d5]at e;have⟨g,e,rfl⟩:=e;rw[show v=V.bl b from d,qY f e];rfl
 |.Kb::_,_,_,_,e=>nomatch e
 |.int _::_,_,_,_,e=>nomatch e
 |.str _::_,_,_,_,e=>nomatch e
 |.tup _::_,_,_,_,e=>nomatch e
 |.lst _::_,_,_,_,e=>nomatch e
 |.J8 _ _::_,_,_,_,e=>nomatch e
 |.exc _::_,_,_,_,e=>nomatch e
abbrev Iv:Bool->Str
 |true=>"index"
 |false=>"count"
def C7{d b:Bool}(I:C.K=X.K)(y:X.N[i]?=a5 x)(z:Ml X.env.scope x)(A:(x==("__debug__":Str))=cc)(B:(x==("__classdict__":Str))=cc)(D:(g.endLine==J.line)=b8):
  PE X (.Call (.Attribute (.Name x px) (Iv d) g) [.Constant (.bool b) q p2] [] J) (Ka C (sN d i b)):=by
 have go:∀(σ:L2.St) (H:Hp) (Q:VK),Ka C (sN d i b) σ H Q->∃(p:ez) (bs:List Bool),σ[i]?=a5 (a5 (.ref p))/\Kz X.K H p (bs.map V.bl)/\H p=a5 (.lst (bs.map V.bl))/\(d=b8->b∈bs/\Q (.int (bs.idxOf b:Nat)) H)/\(d=cc->Q (.int (bs.count b:Nat)) H):=by
  rintro σ H Q ⟨c0,rfl,rfl,n,h⟩;have⟨r,st',e,w⟩:=h;unfold sN at e;split at e
  .rename_i k us hs;split at e
   .rename_i hk;split at e
    .rename_i bs o;have⟨p,vs,j,f,l⟩:=n.zM hk hs;have t:=qY l o;subst t;show⟨p,bs,j,I▸Kz.of f,f,λu=>?_,λu=>?_⟩
     .subst u;rw[Ž rfl]at e;split at e
      .rename_i v;cases e;show⟨v,w c0 _ rfl rfl n (Nx.refl c0) rfl⟩
      .cases e
     .subst u;rw[ž js]at e;cases e;show w c0 _ rfl rfl n (Nx.refl c0) rfl
    .cases e
   .cases e
  .cases e
 cases d with
 |false =>
  show PE.weak (m9 PySem.F.plainAttrs_list PySem.F.slot_list_count PySem.F.type_list_count zb (bU y z A B) (dA (uG (b:=b)) fP rfl) rfl rfl D rfl rfl) ?_;intro σ H Q h;obtain⟨p,bs,j,f,l,_,L⟩:=go σ H Q h;show⟨_,j,.inl ⟨rfl,_,f⟩,p,bs,b,rfl,rfl,l,L rfl⟩
 |true =>
  show PE.weak (m9 PySem.F.plainAttrs_list PySem.F.slot_list_index PySem.F.type_list_index zc (bU y z A B) (dA (uG (b:=b)) fP rfl) rfl rfl D rfl rfl) ?_;intro σ H Q h;obtain⟨p,bs,j,f,l,O,_⟩:=go σ H Q h;have⟨v,T⟩:=O rfl;have G:=List.idxOf_lt_length_of_mem v;show⟨_,j,.inl ⟨rfl,_,f⟩,p,bs,b,bs.idxOf b,rfl,rfl,l,?_,λm Y hh=>?_,T⟩
  .rw[l' G,List.getElem_idxOf G]
  .have:=List.not_of_lt_findIdx (p:=(·==b)) (xs:=bs) Y;have⟨h6,h7⟩:=dt.mp hh;rw[h7]at this;simp at this
end
end TM
namespace TM
open PySem L2 PyProof.Rows
@[reducible]def N1(P:t8)(w:vl)(K:PySem.W.Frag)(H:Hp)(a IO:ez->Prop):Ct:=⟨P,w,K,H,a,IO,λ_ _=>False⟩
structure Ed(C:Ct)(H H':Hp)(S':ez->Prop)(is:List Nat)(vs:List V)(ws:List U)(k:Kd)(u:U)(v:V):Prop where
 same:∀a o,H a=a5 o->¬C.IO a->H' a=a5 o
 new:∀a,S' a->H a=b6/\∃o,H' a=a5 o
 own:k=.own->∃r,v=.ref r/\H r=b6/\¬S' r/\cW C S' H' r u
 loc:k=.loc->Rep C S' H' u v
 len:ws.length=is.length
 Mh:∀(n i:Nat) (r:ez) (w:U),is[n]?=a5 i->vs[i]?=a5 (.ref r)->ws[n]?=a5 w->cW C S' H' r w
structure Gv(C:Ct)(H:Hp)(is:List Nat)(us:List U)(vs:List V):Prop where
 len:us.length=vs.length
 par:∀a,C.MM a->L6 H a/\¬C.IO a
 Xo:∀a,C.IO a->L6 H a
 io:∀(i:Nat) (u:U),i∈is->us[i]?=a5 u->∃r,vs[i]?=a5 (.ref r)/\C.IO r/\cW C (λ_=>False) H r u
 any:∀(i:Nat) (u:U),i∉is->us[i]?=a5 u->∃v,vs[i]?=a5 v/\Rep C C.MM H u v
 inj:∀(i j:Nat) (r:ez),i∈is->j∈is->vs[i]?=a5 (.ref r)->vs[j]?=a5 (.ref r)->i=j
 Mh:∀a,C.IO a->∃i∈is,vs[i]?=a5 (.ref a)
abbrev Tg(P:t8)(w:vl)(K:PySem.W.Frag)(F:List U->Option (Ex (Kd×U)))(b:Nat)(is:List Nat):Sp:=λvs H Q _=>vs.length=b/\∃us k u ws a IO,F us=a5 (.ok (k,.tup (u::ws)))/\(k=.own\/k=.loc)/\Gv (N1 P w K H a IO) H is us vs /\
 ∀v H' S',Ed (N1 P w K H a IO) H H' S' is vs ws k u v->Q v H'
theorem map_inj:∀{l:List α},(l.map f).Nodup->∀x∈l,∀y∈l,f x=f y->x=y
 |[],_,_,h,_,_,_=>by cases h
 |a::l,h,x,g,y,c,e=>by
  rw[d3,mN]at h;rcases d6.mp g with d|h1
  .rcases d6.mp c with b|h2
   .rw[d,b]
   .show absurd (lz.mpr ⟨y,h2,by rw[<-e,d]⟩) h.1
  .rcases d6.mp c with b|h2
   .show absurd (lz.mpr ⟨x,h1,by rw[e,b]⟩) h.1
   .show map_inj h.2 x h1 y h2 e
section
def xP(h:ig rs p=a5 j):∃us,rs[p]?=a5 (.bor j,.lst us)/\cm us=b8:=by
 unfold ig at h;split at h
 .split at h
  .cases h;show⟨_,by assumption,by assumption⟩
  .cases h
 .cases h
def Ms.Xp(t:Ms C d c rs vs){i:Nat}(h:rs[i]?=a5 r):∃v,vs[i]?=a5 v/\aN C d c r.1 r.2 v:=by
 have f:∀(l:List (Kd×U)) (w:List V),cJ C d c l w->bo l c.st->∀(i:Nat) (r:Kd×U),l[i]?=a5 r->∃v,w[i]?=a5 v/\aN C d c r.1 r.2 v:=by
  intro l;induction l with
  |nil=>intro w _ _ i r e;simp at e
  |cons x l g =>
   intro w h hs i r e;obtain⟨v,t',rfl,j,k,_⟩:=h;rw[eY]at hs;cases i with
   |zero=>simp at e;subst e;show⟨v,rfl,j.t hs.1⟩
   |succ i=>have⟨m,a,b⟩:=g t' k hs.2 i r (by simpa using e);show⟨m,by simpa using a,b⟩
 show f rs vs t.rep t.OK i r h
def Ms.len(t:Ms C a c rs vs):rs.length=vs.length:=by
 have:=t.read.len;rw[c2]at this;show this
theorem vt(q:C'.Eqv C){vs:List V}(hs:∀a,S' a->S1 a){IO:ez->Prop}(O:∀a,S' a->¬IO a)(y:∀a o,IO a->H' a=a5 o->¬Tp o):
  ∀(ps:List Nat) (ws:List U) (c:Cf) (st':ay),Ok C c->Ns c1 c->c.S=S1->gV rs ps ws c.st=a5 st'->(ps.map (ig rs)).Nodup->(∀p∈ps,∀a,vs[p]?=a5 (.ref a)->IO a) ->
  (∀p∈ps,∀j,ig rs p=a5 j->∃k u r,k.root=b8/\c.st[j]?=a5 (a5 (k,u))/\c.σ[j]?=a5 (a5 (.ref r))/\vs[p]?=a5 (.ref r)) ->
  (∀(n p:Nat) (r:ez) (w:U),ps[n]?=a5 p->vs[p]?=a5 (.ref r)->ws[n]?=a5 w->cW C' S' H' r w)->(∀a,(∀p∈ps,vs[p]?≠a5 (.ref a))->c.H a=H' a)->(∀a,¬IO a->c.H a=H' a) ->
  ∃g:Cf,Ok C g/\Ns c1 g/\g.σ=c.σ/\g.S=S1/\g.st=st'/\g.H=H'/\g.kid=c.kid/\∀(j:Nat) (k:Kd) (u:U),g.st[j]?=a5 (a5 (k,u))->∃A,c.st[j]?=a5 (a5 (k,A))
 |[],ws,c,st',B,n,x,e,_,_,_,_,D,_=>by
  cases ws with
  |nil=>cases e;show⟨c,B,n,rfl,x,rfl,funext λa=>D a λp hp=>(by cases hp),rfl,λj k u e=>⟨u,e⟩⟩
  |cons _ _=>cases e
 |p::ps,ws,c,st',B,n,x,e,G,Q,T,rt,D,I=>by
  cases ws with
  |nil=>cases e
  |cons w ws =>
   simp only[gV]at e;split at e
   .rename_i j Y;split at e
    .rename_i us k0 ab Kf;have⟨k,u,r,hk,s,e2,J⟩:=T p (by simp) j Y;rw[Kf]at s;cases s;have s:=Kf;have hr:=rt 0 p r _ rfl J rfl;have⟨xs,g1,g2⟩:=hr;have L:IO r:=Q p (by simp) r J;rw[d3,mN]at G;have⟨Km,n'⟩:=B.mod (H':=upd c.H r (.lst xs)) (u':=.lst us) n hk s e2 (λa ne=>au ne) ⟨_,az⟩ (λ_=>⟨xs,az,by
      show(g2.cg q).mv ⟨λa z=>by rw[x];show hs a z,λa o h tp=>?_,λa o z h=>?_⟩
      .by_cases l:a=r
       .subst l;show absurd tp (y a o L h)
       .rw[au l];by_cases v:IO a
        .show absurd tp (y a o v h)
        .rw[I a v];show h
      .have v:=O a z;have l:a≠r:=λe=>v (e▸L);rw[au l,I a v];show h⟩)
     have Lk:j<c.st.length:=(dt.mp s).1;have A1:∀f∈ps,∀t,ig rs f=a5 t->∃k u r,Kd.root k=b8/\(c.st.set j (a5 (k0,.lst us)))[t]?=a5 (a5 (k,u))/\c.σ[t]?=a5 (a5 (.ref r))/\vs[f]?=a5 (.ref r):=λf hp t MW=>by
      have⟨k',u',N,a1,a2,a3,a4⟩:=T f (by simp[hp]) t MW;have ne:j≠t:=λz=>G.1 (lz.mpr ⟨f,hp,by rw[MW,Y,z]⟩);show⟨k',u',N,a1,by rw[i1 ne];show a2,a3,a4⟩
     have A2:∀a,(∀f∈ps,vs[f]?≠a5 (.ref a))->upd c.H r (.lst xs) a=H' a:=λa l=>by
      by_cases h:a=r
      .subst h;rw[az,g1]
      .rw[au h];show D a λf hp z=>?_;rcases d6.mp hp with rfl|hp
       .rw[J]at z;cases z;show h rfl
       .show l f hp z
     have A3:∀a,¬IO a->upd c.H r (.lst xs) a=H' a:=λa l=>by
      have ne:a≠r:=λz=>l (by rw[z];show L);rw[au ne];show I a l
     have⟨g,f1,f2,f3,f4,f5,f6,f7,f8⟩:=vt q hs O y ps ws {c with H:=upd c.H r (.lst xs),st:=c.st.set j (a5 (k0,.lst us))} st' Km n' x e G.2 (λf hp=>Q f (by simp[hp])) A1 (λm f N w' a b d=>rt (m+1) f N w' (by simpa using a) b (by simpa using d)) A2 A3;show⟨g,f1,f2,f3,f4,f5,f6,f7,λi k' u' z=>?_⟩;have⟨A,z⟩:=f8 i k' u' z;by_cases hi:i=j
     .subst hi;have z:(c.st.set i (a5 (k0,.lst us)))[i]?=_:=z;rw[fR Lk]at z;cases z;show⟨_,s⟩
     .have z:(c.st.set j (a5 (k0,.lst us)))[i]?=_:=z;rw[i1 (qP hi)]at z;show⟨A,z⟩
    .cases e
   .cases e
end
section
def C8(st:ay)(r:Kd×U):(eh st r).1=r.1:=by
 unfold eh;split<;>rfl
theorem cJ.Xq{st:ay}:∀{rs:List (Kd×U)}{vs:List V},cJ C d c rs vs->cJ C d c (rs.map (eh st)) vs
 |[],_,h=>h
 |r::rs,vs,h=>by
  have⟨v,t,rfl,e,f,g⟩:=h;show⟨v,t,rfl,?_,cJ.Xq f,λhk i n j a l b=>?_⟩
  .have⟨k,u⟩:=r;cases k<;>show e
  .rw[i7,d5]at a;have⟨m,a,rfl⟩:=a;rw[C8]at hk b;show g hk i m j a l b
def C9(h:PA X es (LB C ms)):PA X es (LB C (ms >>= Cs)):=by
 rintro pos a s σ H Q I ⟨b,rfl,rfl,d,w⟩;show h pos a s b.σ b.H Q I ⟨b,rfl,rfl,d,?_⟩;rw[ai]at w;show w.mono λrs st f c vs g i j n r=>?_;have⟨k,st',e,q⟩:=f;cases e;show q c vs g i j n r.Xq
def zP(h:Vi r=a5 (k,u,ws)):r=(k,.tup (u::ws))/\(k=.own\/k=.loc):=by
 unfold Vi at h;split at h
 .cases h;show⟨rfl,.inl rfl⟩
 .cases h;show⟨rfl,.inr rfl⟩
 .cases h
def zQ(hP:C.P=X.prog)(hw:C.w=X.w)(hK:C.K=X.K)(hF:Γ f=F)(hk:∀us r,F us=a5 (.ok r)->us.length=np)
  (G:jm X.prog X.w X.K X.mg X.base Pt k fa fd ps (Tg X.prog X.w X.K F np is)) (hr:fJ k X.A) (hg:Gl X f) (hm:X.mg f=a5 (.ref fa)) (PM:PySem.W.keepIn X.K (.ref fa)=b8) (B:Binds X.K fd ps [])
  (Ni:(f==("__debug__":Str))=cc) (ha:PA X (e::es) (LB C ms)) (he:i2 (e::es) X.env=(cc,t6 e X.env)::i2 es X.env) (KD:(zy pos (i2 es X.env)).any (·.1)=cc) :
  PE X (.Call (.Name f p) (e::es) [] pos) (Ka C (ms >>= λrs=>aF rs >>= λ_=>qR Γ f rs is)):=by
 rintro al s σ H Q I ⟨c0,rfl,rfl,ok,h⟩;show ti (fg I hg hm ?_ Ni);show PySem.W.callWith_K (h₀:=X.base) I.ok.mod.Qg PM (Kc (args ha I ok h pos) λus s1 ⟨rs,c,vs,t,I1,rv,w⟩=>⟨I1.Nz,?_⟩) he KD;have⟨r,st',D,q⟩:=w;unfold qR at D;rw[hF]at D;split at D
 .rename_i r0 e2;split at D
  .rename_i kd u ws eu;split at D
   .rename_i Lq;split at D
    .rename_i st2 VW;cases D;have⟨rfl,k1⟩:=zP eu;have k2:=hk _ _ e2;unfold qQ at Lq;simp only[cb,i6,ż,KR,rr]at Lq;obtain⟨⟨h1,h2⟩,h3⟩:=Lq;have Y:∀p∈is,∃j xs k r,ig rs p=a5 j/\rs[p]?=a5 (.bor j,.lst xs)/\cm xs=b8/\Kd.root k=b8/\c.st[j]?=a5 (a5 (k,.lst xs))/\c.σ[j]?=a5 (a5 (.ref r))/\vs[p]?=a5 (.ref r)/\¬c.S r/\¬C.MM r/\cW C c.S c.H r (.lst xs):=λp L=>by
      have⟨j,T⟩:=TF.mp (h1 p L);have⟨xs,a1,a2⟩:=xP T;have⟨v,b1,l⟩:=t.Xp a1;obtain⟨r,rfl,d1,d2,_,N⟩:=t.ok.rootOf l.1 l.2;have⟨k,m,x⟩:=l.1;show⟨j,xs,k,r,T,a1,a2,m,x,l.2,b1,d1,d2,N⟩
     let IO:ez->Prop:=λa=>∃p∈is,vs[p]?=a5 (.ref a);have RX:∀a,IO a->c.R a/\¬c.S a/\¬C.MM a/\L6 c.H a:=λa Ky=>by
      have⟨p,L,e⟩:=Ky;obtain⟨j,xs,k,r,_,_,_,m,x,y,J,g5,g6,g7⟩:=Y p L;rw[e]at J;cases J;obtain⟨o,ho,_⟩:=g7.some;show⟨.inl ⟨j,k,_,m,x,y⟩,g5,g6,o,ho⟩
     let Pr:ez->Prop:=λa=>L6 c.H a/\¬IO a;have ab:C.Eqv (N1 X.prog X.w X.K c.H Pr IO):=⟨hP,hw,hK⟩
     have MR:(N1 X.prog X.w X.K c.H Pr IO).Eqv C:=⟨hP.symm,hw.symm,hK.symm⟩
     have sP:∀a,c.S a->Pr a:=λa z=>⟨t.ok.zf a z,λz'=>(RX a z').2.1 z⟩
     have gi:∀{i:Nat} {u:U},(rs.map (·.2))[i]?=a5 u->∃k,rs[i]?=a5 (k,u):=λ{i u} e=>by
      rw[i7,d5]at e;obtain⟨⟨k,u'⟩,e,rfl⟩:=e;show⟨k,e⟩
     have ac:Gv (N1 X.prog X.w X.K c.H Pr IO) c.H is (rs.map (·.2)) vs:=by
      show⟨by rw[c2];show t.len,λa z=>z,λa z=>(RX a z).2.2.2,λi u O e=>?_,λi u O e=>?_,λi j r O T e3 e4=>?_,λa z=>z⟩
      .obtain⟨j,xs,k,r,_,g0,gm,m,x,y,J,g5,g6,zs,g7,g8⟩:=Y i O;have⟨k',e⟩:=gi e;rw[g0]at e;cases e;show⟨r,J,⟨i,O,J⟩,zs,g7,(ak.Kw gm g8).cg ab⟩
      .have⟨k',e⟩:=gi e;have⟨v,b1,l⟩:=t.Xp e;show⟨v,b1,?_⟩;have Lk:i<rs.length:=(dt.mp e).1;have QO:=(h3 i Lk).resolve_left O;rw[YF,e]at QO;show Rep.cg ab (u:=u) ?_;cases k' with
       |own =>
        obtain⟨r,rfl,_,d1,d2,N⟩:=l;obtain⟨o,ho,_⟩:=N.some;show N.rep sP ⟨⟨o,ho⟩,λz=>d2 (RX r z).1⟩
       |loc=>show Rep.mv (.up sP) l
       |any=>show Rep.mv (.up λa z=>z.elim (λz=>⟨t.ok.HP a (.inl z),λz'=>(RX a z').2.2.1 z⟩) (sP a)) l
       |bor j =>
        obtain⟨r,rfl,d1,d2,_,N⟩:=t.ok.rootOf l.1 l.2;obtain⟨o,ho,_⟩:=N.some;show N.rep sP ⟨⟨o,ho⟩,λ⟨p',Xr,e'⟩=>?_⟩;obtain⟨j',xs,k2,r2,g,_,_,m,x,y,J,_⟩:=Y p' Xr;rw[e']at J;cases J;have⟨k3,z1,z2⟩:=l.1;have:=t.ok.inj j j' k3 k2 _ _ r z1 m z2 x l.2 y;subst this;have:a5 j∉is.map (ig rs):=by simpa[qO] using QO
        show this (lz.mpr ⟨p',Xr,g⟩)
       |_=>show l.elim
      .obtain⟨j1,_,k1,r1,a0,_,_,a1,a2,a3,a4,_⟩:=Y i O;obtain⟨j2,_,k2,r2,b0,_,_,b1,l,b3,b4,_⟩:=Y j T;rw[e3]at a4;cases a4;rw[e4]at b4;cases b4;have:=t.ok.inj j1 j2 k1 k2 _ _ r a1 b1 a2 l a3 b3;subst this;show map_inj h2 i O j T (by rw[a0,b0])
     have LU:Tg X.prog X.w X.K F np is vs c.H (λv H'=>Q v H') E0:=⟨by rw[<-t.len,<-k2,c2],rs.map (·.2),kd,u,ws,Pr,IO,e2,k1,ac,λv H' S' B=>by
      classical
      let H1:Hp:=λa=>if IO a then c.H a else H' a
      have Th:∀a,¬IO a->H1 a=H' a:=λa z=>ž z;have RW:∀a,S' a->¬IO a:=λa z z'=>by
       have⟨o,ho⟩:=(RX a z').2.2.2;rw[(B.new a z).1]at ho;cases ho
      have RY:qm c.H H1:=λa o e=>by
       by_cases z:IO a
       .change(if IO a then _ else _)=_;rw[Ž z];show e
       .rw[Th a z];show B.same a o e z
      have⟨Ke,n1⟩:=t.ok.grow (H':=H1) (S':=λa=>c.S a\/S' a) RY (λa z=>z.imp id λz=>⟨(B.new a z).1,by rw[Th a (RW a z)];show(B.new a z).2⟩) λa=>.inl;have RZ:∀(n i:Nat) (r:ez),is[n]?=a5 i->vs[i]?=a5 (.ref r)->∃w,ws[n]?=a5 w/\cW (N1 X.prog X.w X.K c.H Pr IO) S' H' r w:=λn i r a b=>by
       have hn:n<ws.length:=by rw[B.len];show(dt.mp a).1
       show⟨_,l' hn,B.Mh n i r _ a b (l' hn)⟩
      have⟨cf,f1,f2,f3,f4,f5,f6,f7,f8⟩:=vt (C:=C) MR (rs:=rs) (vs:=vs) (H':=H') (S':=S') (S1:=λa=>c.S a\/S' a) (λa=>.inr) (IO:=IO) RW (λa o ⟨i,O,z⟩ e=>by
        have⟨n,hn⟩:=List.getElem?_of_mem O;obtain⟨w,_,g⟩:=RZ n i a hn z;have⟨o',m,x⟩:=g.some;rw[e]at m;cases m;show x) is ws {c with H:=H1,S:=λa=>c.S a\/S' a} st' Ke n1.toNs rfl VW h2 (λp L a z=>⟨p,L,z⟩) (λp L j T=>by
        obtain⟨j',xs,k,r,g0,_,_,m,x,y,J,_⟩:=Y p L;rw[T]at g0;cases g0;show⟨k,_,r,m,x,y,J⟩) (λn i r w a b d=>B.Mh n i r w a b d) (λa ha=>Th a λ⟨p,L,z⟩=>ha p L z) Th
      subst f6;have ag:∀a,cf.R a->c.R a:=λa z=>by
       rcases z with⟨j,k,u,m,x,y⟩|⟨j,u,r,m,x,y⟩
       .have⟨u0,g⟩:=f8 j k u x;rw[f3]at y;show .inl ⟨j,k,u0,m,g,y⟩
       .have⟨u0,g⟩:=f8 j .J6 u m;rw[f3]at x;rw[f7]at y;show .inr ⟨j,u0,r,g,x,y⟩
      show q cf v (f3.trans t.hσ) f5 f1 ⟨t.nx.toNs.trans f2⟩ ?_;rcases k1 with rfl|rfl
      .have⟨r,rfl,d1,d2,N⟩:=B.own rfl;obtain⟨_,z1,_,_,z4⟩:=t.ok.kl d1;show⟨r,rfl,t.nx.none d1,by rw[f4];show λz=>z.elim z1 d2,λz=>z4 (ag r z),(N.cg MR).mv (.up λa z=>by rw[f4];show .inr z) λo q=>q⟩
      .show((B.loc rfl).cg MR).mv (.up λa z=>by rw[f4];show .inr z)⟩
     have z:=yu (Q:=Q) G hr B .nil HF I1 rv (by rw[ro];show LU);rw[t.hσ]at z;show z
    .cases D
   .cases D
  .cases D
 .cases D
end
structure Ck where
 fns:List Str
 gl:List (Str×U)
 Mh:List (Str×List Nat)
 xc:List Str
 xd:List (Str×Str)
 xi:List (Str×Str×Bool)
 xe:List (Str×Str)
abbrev lM:U->U->Bool
 |.int i,.int j=>c4 (i=j)
 |.str x,.str y=>c4 (x=y)
 |.bl a,.bl b=>a==b
 |.Kb,.Kb=>b8
 |_,_=>cc
def bT(h:lM u v=b8):u=v:=by
 cases u<;>cases v<;>simp[lM]at h<;>subst_vars<;>rfl
abbrev noStar:mx->Bool
 |.Starred _ _=>cc
 |_=>b8
abbrev eC:mx->Bool
 |.Slice _ _ _ _=>cc
 |_=>b8
abbrev sZ:mx->Bool
 |.Set _ _ _=>cc
 |_=>b8
abbrev pG:mx->Bool
 |.Call (.Name _ _) [] [] _=>cc
 |_=>b8
abbrev cZ:mx->Bool
 |.ListComp _ _ _ _=>cc
 |.SetComp _ _ _ _=>cc
 |.DictComp _ _ _ _ _=>cc
 |_=>b8
abbrev Gw:mx->Bool
 |.Tuple _ _ _=>cc
 |_=>b8
abbrev LJ(a:M3)(x:Str):Bool:=c4 (a.names.lookup x=a5 .globalImplicit)
abbrev gL(a:M3)(x:Str):Bool:=c4 (a.names.lookup x=a5 .local)||decide (a.names.lookup x=a5 .cell)||decide (a.names.lookup x=a5 .free)
abbrev lN(a:M3)(x:Str):Bool:=c4 (a.names.lookup x=a5 .local)||decide (a.names.lookup x=a5 .cell)
abbrev Iw(a:M3)(x:Str):Bool:=c4 (a.names.lookup x=a5 .local)
abbrev bc(x:Str):Bool:=!(x==("__debug__":Str))&&!(x==("__classdict__":Str))
abbrev vv(N:List Str)(a:M3)(fa:Bool)(i:Nat):mx->Bool
 |.Name x _=>c4 (N[i]?=a5 x)&&lN a x&&(fa||Iw a x)
 |_=>cc
abbrev pH(N:List Str)(a:M3)(fa:Bool):List Nat->List mx->Bool
 |[],[]=>b8
 |i::is,e::es=>vv N a fa i e&&pH N a fa is es
 |_,_=>cc
abbrev gW:mx->List Str
 |.Name x _=>[x]
 |.Tuple es _ _=>es.filterMap fun|.Name x _=>a5 x|_=>b6
 |_=>[]
abbrev hide(a N:List Str):List Str:=match a.filter λx=>c4 (x∈N) with
 |[]=>N
 |[x]=>N.set (N.idxOf x) "."
 |x::y::_=>(N.set (N.idxOf x) ".").set (N.idxOf y) ".."
abbrev QP(t:Bool)(N:List Str)(a:M3)(fa:Bool)(is:List Nat):mx->Bool
 |.Name x p=>!t&&(match is with|[i]=>vv N a fa i (.Name x p)|_=>cc)
 |.Tuple es _ _=>t&&pH N a fa is es&&is.all λi=>c4 (i<N.length)
 |_=>cc
abbrev isTup:mx->Bool
 |.Tuple _ _ _=>b8
 |_=>cc
abbrev ij(e:mx):Option (Str×List mx):=match e with
 |.Call f as kw _=>match f with
  |.Name x _=>if kw.isEmpty=b8 then a5 (x,as) else b6
  |_=>b6
 |_=>b6
def eD(h:ij e=a5 (x,as)):∃p q,e=.Call (.Name x p) as [] q:=by
 unfold ij at h;split at h
 .split at h
  .split at h
   .rename_i hk;rw[wk]at hk;cases h;subst hk;show⟨_,_,rfl⟩
   .cases h
  .cases h
 .cases h
abbrev zR(e:mx):Option mx:=match e with
 |.Call f as kw q=>match f with
  |.Attribute a m p=>if kw.isEmpty=b8/\as.isEmpty=b8/\m="items"/\(p.endLine==q.line)=b8/\((ij a).any λz=>!z.2.isEmpty)=b8 then a5 a else b6
  |_=>b6
 |_=>b6
def s9(h:zR e=a5 a):∃x p b as q p2 f,a=.Call (.Name x p) (b::as) [] q/\e=.Call (.Attribute a "items" p2) [] [] f/\(p2.endLine==f.line)=b8:=by
 unfold zR at h;split at h
 .split at h
  .split at h
   .rename_i hk;have⟨g,i,j,k,c⟩:=hk;rw[wk]at g i;cases h;subst g i j;cases d:ij a with
    |none=>rw[d]at c;cases c
    |some z =>
     rw[d]at c;have⟨x,as⟩:=z;have⟨p,q,rfl⟩:=eD d;cases as with
     |nil=>cases c
     |cons b as=>show⟨_,_,_,_,_,_,_,rfl,rfl,k⟩
   .cases h
  .cases h
 .cases h
abbrev gc(b:M3)(c:mx)(d:Ik)(e:mx):Option (List mx):=match d with
 |.seq=>a5 [e]
 |.LM=>(ij e).bind λp=>if p.1="range"/\LJ b p.1=b8/\p.2.length=1 then a5 p.2 else b6
 |.OD=>(ij e).bind λp=>if p.1="range"/\LJ b p.1=b8/\p.2.length=2 then a5 p.2 else b6
 |.OE=>(ij e).bind λp=>if p.1="enumerate"/\LJ b p.1=b8/\p.2.length=1/\isTup c=b8 then a5 p.2 else b6
 |.QD=>(zR e).bind λa=>if isTup c=b8 then a5 [a] else b6
 |_=>b6
abbrev simple:Bf->Bool:=λ_=>b8
abbrev Gy(scope a:M3):M3:={scope with names:=scope.names.map λ(n,k)=>if (k==Nq&&a.kind==.function&&a.names.lookup n==a5 .cell)=b8 then(n,.cell) else(n,k)}
abbrev aY(e:mx)(k:Str->Bool):Bool:=match e with|.Name x _=>k x|_=>cc
def av(h:aY e k=b8):∃x p,e=.Name x p/\k x=b8:=by
 unfold aY at h;split at h
 .show⟨_,_,rfl,h⟩
 .cases h
abbrev cN{α:Type}(l:List α)(k:α->Bool):Bool:=match l with|[a]=>k a|_=>cc
def aO(h:cN l k=b8):∃a,l=[a]/\k a=b8:=by
 unfold cN at h;split at h
 .show⟨_,rfl,h⟩
 .cases h
abbrev de(e:mx)(k:mx->List mx->Pos->Bool):Bool:=match e with|.Call f as kw p=>kw.isEmpty&&k f as p|_=>cc
def aW(h:de e k=b8):∃f as p,e=.Call f as [] p/\k f as p=b8:=by
 unfold de at h;split at h
 .rename_i f as kw p;rw[cb,wk]at h;have⟨rfl,h⟩:=h;show⟨_,_,_,rfl,h⟩
 .cases h
abbrev s_(e:mx)(k:mx->Str->Pos->Bool):Bool:=match e with|.Attribute o m p=>k o m p|_=>cc
def qZ(h:s_ e k=b8):∃o m p,e=.Attribute o m p/\k o m p=b8:=by
 unfold s_ at h;split at h
 .show⟨_,_,_,rfl,h⟩
 .cases h
abbrev vA(e:mx)(k:mx->đ->mx->Bool):Bool:=match e with|.BinOp a c b _=>k a c b|_=>cc
def lO(h:vA e k=b8):∃a c b p,e=.BinOp a c b p/\k a c b=b8:=by
 unfold vA at h;split at h
 .show⟨_,_,_,_,rfl,h⟩
 .cases h
abbrev vB(e:mx)(k:mx->CmpOp->mx->Bool):Bool:=match e with|.Compare a ops bs _=>cN ops λc=>cN bs λb=>k a c b|_=>cc
def il(h:vB e k=b8):∃a c b p,e=.Compare a [c] [b] p/\k a c b=b8:=by
 unfold vB at h;split at h
 .have⟨c,rfl,d⟩:=aO h;have⟨b,rfl,f⟩:=aO d;show⟨_,_,_,_,rfl,f⟩
 .cases h
abbrev eN(e:mx)(k:mx->Str->Pos->List mx->Pos->Bool):Bool:=de e λf as b=>s_ f λo m a=>k o m a as b
def bH(h:eN e k=b8):∃o m a as b,e=.Call (.Attribute o m a) as [] b/\k o m a as b=b8:=by
 have⟨f,as,p,rfl,h⟩:=aW h;have⟨o,m,q,rfl,h⟩:=qZ h;show⟨_,_,_,_,_,rfl,h⟩
abbrev jW(e:mx)(k:mx->mx->Bool):Bool:=match e with|.Subscript a b _=>k a b|_=>cc
def dg(h:jW e k=b8):∃a b p,e=.Subscript a b p/\k a b=b8:=by
 unfold jW at h;split at h
 .show⟨_,_,_,rfl,h⟩
 .cases h
abbrev VX:E->Bool
 |.var _=>b8
 |.cst _=>b8
 |_=>cc
abbrev vC{α:Type}(l:List α)(k:α->α->Bool):Bool:=match l with|[a,b]=>k a b|_=>cc
def ip(h:vC l k=b8):∃a b,l=[a,b]/\k a b=b8:=by
 unfold vC at h;split at h
 .show⟨_,_,rfl,h⟩
 .cases h
abbrev vE(e:mx)(k:Const->Bool):Bool:=match e with|.Constant c _ _=>k c|_=>cc
def iq(h:vE e k=b8):∃c q p,e=.Constant c q p/\k c=b8:=by
 unfold vE at h;split at h
 .show⟨_,_,_,rfl,h⟩
 .cases h
abbrev JZ:Const->Option U
 |.int j=>a5 (.int j)
 |.str y=>a5 (.str y)
 |.bool y=>a5 (.bl y)
 |.none=>a5 .Kb
 |_=>b6
abbrev J0(u:U)(c:Const):Bool:=match JZ c with|some v=>lM u v|none=>cc
abbrev C_(e:mx)(a:BoolOp)(k:List mx->Bool):Bool:=match e with|.BoolOp o es _=>c4 (o=a)&&k es|_=>cc
def jy(h:C_ e a k=b8):∃es p,e=.BoolOp a es p/\k es=b8:=by
 unfold C_ at h;split at h
 .rw[cb,ż]at h;have⟨rfl,h⟩:=h;show⟨_,_,rfl,h⟩
 .cases h
abbrev Gz(e:mx)(b:UnaryOp)(k:mx->Bool):Bool:=match e with|.UnaryOp o a _=>c4 (o=b)&&k a|_=>cc
def nR(h:Gz e b k=b8):∃a p,e=.UnaryOp b a p/\k a=b8:=by
 unfold Gz at h;split at h
 .rw[cb,ż]at h;have⟨rfl,h⟩:=h;show⟨_,_,rfl,h⟩
 .cases h
abbrev Dd(e:mx)(k:mx->mx->mx->Bool):Bool:=match e with|.IfExp c a b _=>k c a b|_=>cc
def nS(h:Dd e k=b8):∃c a b p,e=.IfExp c a b p/\k c a b=b8:=by
 unfold Dd at h;split at h
 .show⟨_,_,_,_,rfl,h⟩
 .cases h
abbrev vF(e:mx)(k:List mx->Bool):Bool:=match e with|.Tuple l _ _=>k l|_=>cc
def lP(h:vF e k=b8):∃l q p,e=.Tuple l q p/\k l=b8:=by
 unfold vF at h;split at h
 .show⟨_,_,_,rfl,h⟩
 .cases h
abbrev zS(e:mx)(k:List mx->Bool):Bool:=match e with|.List l _=>k l|_=>cc
def tf(h:zS e k=b8):∃l p,e=.List l p/\k l=b8:=by
 unfold zS at h;split at h
 .show⟨_,_,rfl,h⟩
 .cases h
abbrev De(e:mx):Bool:=match e with|.Dict a b _=>a.isEmpty&&b.isEmpty|_=>cc
def nU(h:De e=b8):∃p,e=.Dict [] [] p:=by
 unfold De at h;split at h
 .rw[cb,wk,wk]at h;have⟨rfl,rfl⟩:=h;show⟨_,rfl⟩
 .cases h
abbrev zT(e:mx)(k:Option mx->Option mx->Bool):Bool:=match e with|.Slice a b c _=>c.isNone&&k a b|_=>cc
def tm(h:zT e k=b8):∃a b p,e=.Slice a b b6 p/\k a b=b8:=by
 unfold zT at h;split at h
 .rw[cb,SV]at h;have⟨rfl,h⟩:=h;show⟨_,_,_,rfl,h⟩
 .cases h
abbrev GA(e:mx)(k:List mx->Bool):Bool:=match e with|.JoinedStr l _=>(match l with|_::_::_=>b8|_=>cc)&&k l|_=>cc
def xQ(h:GA e k=b8):∃a b l p,e=.JoinedStr (a::b::l) p/\k (a::b::l)=b8:=by
 unfold GA at h;split at h
 .rw[cb]at h;have⟨c,h⟩:=h;split at c
  .show⟨_,_,_,_,rfl,h⟩
  .cases c
 .cases h
abbrev GB(e:mx)(k:mx->mx->mx->List mx->M3->Bool):Bool:=match e with|.ListComp elt a b _=>cN a λg=>c4 (g.is_async=0)&&k elt g.target g.iter g.ifs b|_=>cc
def jz(h:GB e k=b8):∃elt d a b f p,e=.ListComp elt [⟨d,a,b,0⟩] f p/\k elt d a b f=b8:=by
 unfold GB at h;split at h
 .obtain⟨⟨d,a,b,z⟩,rfl,c⟩:=aO h;rw[cb,ż]at c;have⟨rfl,c⟩:=c;show⟨_,_,_,_,_,_,rfl,c⟩
 .cases h
abbrev isNm(e:mx)(n:Str):Bool:=aY e λx=>c4 (x=n)
def gB(h:isNm e n=b8):∃p,e=.Name n p:=by
 have⟨x,p,e,z⟩:=av h;show⟨p,Β z▸e⟩
abbrev Df(v:mx)(f:Str)(k:List mx->Bool):Bool:=de v λg as _=>isNm g f&&k as
def gC(h:Df v f k=b8):∃as p q,v=.Call (.Name f p) as [] q/\k as=b8:=by
 have⟨g,as,q,rfl,z⟩:=aW h;rw[cb]at z;have⟨p,rfl⟩:=gB z.1;show⟨as,p,q,rfl,z.2⟩
mutual
noncomputable def bx(k:Ck):E->List Str->M3->mx->Bool
 |.var i,N,g,h=>aY h λx=>c4 (N[i]?=a5 x)&&gL g x&&bc x
 |.cst u,N,g,h=>vE h λc=>J0 u c
 |.QE x u,N,g,h=>aY h λy=>c4 (x=y)&&LJ g x&&bc x&&k.gl.any λp=>c4 (p.1=x)&&lM p.2 u
 |.bin B a b,N,g,h=>vA h λa' A s=>c4 (B.op=A)&&bx k a N g a'&&bx k b N g s
 |.cmp B a b,N,g,h=>vB h λa' A s=>c4 (B.op=A)&&!Sn A s&&bx k a N g a'&&bx k b N g s
 |.NT _ _ _ _ _,_,_,_=>cc
 |.and es,N,g,h=>C_ h .And λq=>aT k es N g q
 |.or es,N,g,h=>C_ h .Or λq=>aT k es N g q
 |.not a,N,g,h=>Gz h .Not λa'=>bx k a N g a'
 |.ite c a b,N,g,h=>Dd h λG a' s=>bx k c N g G&&bx k a N g a'&&bx k b N g s
 |.neg _,_,_,_=>cc
 |.bad,_,_,_=>b8
 |.Lz a D H,N,g,h=>Df h "isinstance" λas=>vC as λa' s=>isNm s D&&noStar a'&&LJ g "isinstance"&&LJ g D&&bc D&&(k.xi.any λp=>c4 (p.2.1=D))&&H.all (λp=>c4 ((p.1,D,p.2)∈k.xi))&&bx k a N g a'
 |.OG I i b,N,g,h=>eN h λo m j as w=>aY o λx=>cN as λa'=>vE a' λc=>c4 (c=.bool b)&&c4 (m=Iv I)&&c4 (N[i]?=a5 x)&&gL g x&&bc x&&(j.endLine==w.line)
 |.pop i,N,g,h=>eN h λo m j as w=>aY o λx=>as.isEmpty&&c4 (m="pop")&&c4 (N[i]?=a5 x)&&gL g x&&bc x&&(j.endLine==w.line)
 |.MO i a,N,g,h=>eN h λo m j as w=>aY o λx=>cN as λa'=>c4 (m="pop")&&c4 (N[i]?=a5 x)&&gL g x&&bc x&&(j.endLine==w.line)&&noStar a'&&bx k a N g a'
 |.J9 f es is,N,g,h=>de h λf' q _=>aY f' λx=>c4 (x=f)&&c4 ((f,is)∈k.Mh)&&LJ g x&&bc x&&!q.isEmpty&&aT k es N g q
 |.inD neg a i,N,g,h=>vB h λa' A s=>aY s λx=>c4 (Gn neg=A)&&!Sn A s&&c4 (N[i]?=a5 x)&&gL g x&&bc x&&bx k a N g a'
 |.QF i,N,g,h=>aY h λx=>c4 (N[i]?=a5 x)&&gL g x&&bc x
 |.MN i a b,N,g,h=>eN h λo m j as w=>aY o λx=>vC as λa' s=>c4 (m="get")&&c4 (N[i]?=a5 x)&&gL g x&&bc x&&(j.endLine==w.line)&&noStar a'&&noStar s&&bx k a N g a'&&bx k b N g s
 |.QG i,N,g,h=>de h λf' as _=>aY f' λf=>cN as λc=>eN c λo m j bs w=>aY o λx=>bs.isEmpty&&c4 (f="sorted")&&LJ g f&&c4 (m="items")&&c4 (N[i]?=a5 x)&&gL g x&&bc x&&(j.endLine==w.line)
 |.PV ln a b,N,g,h=>de h λf' as _=>aY f' λf=>cN as λd=>vA d λl B r=>de l λJ L _=>aY J λO=>cN L λa'=>de r λQ Y _=>aY Q λg2=>cN Y λs =>
  c4 (f=(if ln=b8 then("len":Str) else "sorted"))&&c4 (O="set")&&c4 (g2="set")&&c4 (B=.Sub)&&LJ g f&&LJ g "set"&&noStar a'&&noStar s&&bx k a N g a'&&bx k b N g s
 |.fst es,N,g,h=>GA h λl=>xR k es N g l
 |.SY a T,N,g,h=>cc
 |.tup es,N,g,h=>vF h λq=>aT k es N g q
 |.lst es,N,g,h=>zS h λq=>aT k es N g q
 |.L0 _,N,g,h=>De h
 |.idx a b,N,g,h=>jW h λa' s=>eC s&&bx k a N g a'&&bx k b N g s
 |.NU a lo hi,N,g,h=>jW h λa' s=>zT s λXs LL=>bx k a N g a'&&tq k lo N g Xs&&tq k hi N g LL
 |.bi f es,N,g,h=>de h λf' q _=>aY f' λx=>c4 (x=f.name)&&simple f&&LJ g x&&!q.isEmpty&&aT k es N g q
 |.OF f es,N,g,h=>de h λf' as _=>aY f' λx=>cN as λc=>de c λg' q _=>aY g' λy=>c4 (x=f.pz)&&c4 (y=f.iY)&&LJ g x&&LJ g y&&!q.isEmpty&&aT k es N g q
 |.O8 m a es,N,g,h=>eN h λo name j q w=>c4 (name=m.name)&&pG o&&(j.endLine==w.line)&&!q.isEmpty&&c4 (q.length<20)&&bx k a N g o&&aT k es N g q
 |.call f es,N,g,h=>de h λf' q _=>aY f' λx=>c4 (x=f)&&c4 (f∈k.fns)&&LJ g x&&bc x&&!q.isEmpty&&aT k es N g q
 |.comp n t ik src cond e,N,g,h=>GB h λelt v z C scope =>
   c4 ((gW v).length=n)&&Fp (gW v++hide (gW v) N) (gW v) scope g.names&&QP t (gW v++hide (gW v) N) (Gy scope g) cc (gs n) v&&sZ z &&
   (match gc g v ik z with
    |some as=>aT k src N g as
    |none=>cc) &&
   c4 (C.length<=1)&&aT k cond (gW v++hide (gW v) N) (Gy scope g) C&&bx k e (gW v++hide (gW v) N) (Gy scope g) elt
noncomputable def xR(k:Ck):List E->List Str->M3->List mx->Bool
 |[],_,_,a=>a.isEmpty
 |e::es,N,b,a=>match a with
  |.FormattedValue v (-1) b6 _::a=>bx k e N b v&&xR k es N b a
  |.Constant (.str y) _ _::a=>(match e with|.cst u=>lM u (.str y)|_=>cc)&&xR k es N b a
  |_=>cc
noncomputable def aT(k:Ck):List E->List Str->M3->List mx->Bool
 |[],_,_,a=>a.isEmpty
 |e::es,N,b,a=>match a with
  |e'::a=>noStar e'&&bx k e N b e'&&aT k es N b a
  |[]=>cc
noncomputable def tq(k:Ck):List E->List Str->M3->Option mx->Bool
 |[],_,_,o=>o.isNone
 |[e],N,a,o=>match o with
  |some b=>bx k e N a b
  |none=>cc
 |_::_::_,_,_,_=>cc
end
abbrev bS:List Str:=["len","sorted","repr","max","min","all","any","list","tuple","str","int","range","enumerate","zip","reversed","set","dict","sum","isinstance","bool"]
structure P_(ck:Ck)(K:PySem.W.Frag)(mg:Str->Option dV):Prop where
 xc:∀x∈ck.xc,∃C,mg x=a5 (.ref C)/\PySem.W.nsIn K ko x=a5 (a5 (.ref C))/\PySem.W.excIn K C QB "ValueError.__new__"=b8
 xd:∀p∈ck.xd,∃C D,mg p.1=a5 (.ref C)/\PySem.W.nsIn K ko p.1=a5 (a5 (.ref C))/\mg p.2=a5 (.ref D)/\PySem.W.exmOne K (.ref C) (.ref C)=a5 b8/\(PySem.W.kitCls K (.ref C) (.ref D)==a5 b8&&C != D)=b8
 xi:∀D,(∃p∈ck.xi,p.2.1=D)->∃dv,((∃D',dv=.ref D'/\mg D=a5 (.ref D'))\/(D="ValueError"/\dv=.type "ValueError"/\mg D=b6))/\∀p∈ck.xi,p.2.1=D->∀C,PySem.W.nsIn K ko p.1=a5 (a5 (.ref C))->fX K C=b8/\PySem.W.kitOne K (.ref C) dv=a5 p.2.2
 xe:∀x,(∃p∈ck.xe,p.2=x)->∃D,mg x=a5 (.ref D)/\∀cl,(cl,x)∈ck.xe->∀C,PySem.W.nsIn K ko cl=a5 (a5 (.ref C))->PySem.W.exmOne K (.ref C) (.ref D)=a5 b8
structure Dg(P:t8)(w:vl)(K:PySem.W.Frag)(mg:Str->Option dV)(base:DD)(d:Nat)(F:List U->Option (Ex (Kd×U)))(f:Str):Prop where
 ex:∃(np:Nat) (fa:ez) (fd:Uh) (ps:List Str),jm P w K mg base (PN P w) d fa fd ps (spT P w K F np)/\mg f=a5 (.ref fa)/\PySem.W.keepIn K (.ref fa)=b8/\Binds K fd ps []/\(∀us k u,F us=a5 (.ok (k,u))->(k=.own\/k=.loc\/k=.any)/\us.length=np)/\∀us c,F us=a5 (.exc c)->us.length=np
structure Dh(P:t8)(w:vl)(K:PySem.W.Frag)(mg:Str->Option dV)(base:DD)(d:Nat)(F:List U->Option (Ex (Kd×U)))(f:Str)(is:List Nat):Prop where
 ex:∃(np:Nat) (fa:ez) (fd:Uh) (ps:List Str),jm P w K mg base Pt d fa fd ps (Tg P w K F np is)/\mg f=a5 (.ref fa)/\PySem.W.keepIn K (.ref fa)=b8/\Binds K fd ps []/\∀us r,F us=a5 (.ok r)->us.length=np
structure Gd(ck:Ck)(Γ:Tab)(C:Ct)(d:Nat)(X:Cx):Prop where
 P:C.P=X.prog
 w:C.w=X.w
 K:C.K=X.K
 u:X.A.units+60<L8
 calm:X.calm=b8
 room:fJ d X.A
 blt:∀x∈bS,X.mg x=b6
 fns:∀f∈ck.fns,Dg X.prog X.w X.K X.mg X.base d (Γ f) f
 M7:∀p∈ck.gl,∃val v,X.mg p.1=a5 val/\RelV v val/\∀S H,Rep C S H p.2 v
 Mh:∀p∈ck.Mh,Dh X.prog X.w X.K X.mg X.base d (Γ p.1) p.1 p.2
 NZ:P_ ck X.K X.mg
def Gd.cx(g:Gd ck Γ C d X)(N:List Str)(a:M3)(D:ez)(s:eH)(H:Hp)(ex:List ez):Gd ck Γ C d (Lo X N a D s H ex) :=
 ⟨g.P,g.w,g.K,g.u,g.calm,g.room,g.blt,g.fns,g.M7,g.Mh,g.NZ⟩
def cu(h:gL a x=b8):Ml a x:=by
 unfold gL at h;simp only[KR,ż]at h;rcases h with(h|h)|h
 .show .inl h
 .show .inr (.inl h)
 .show .inr (.inr h)
def aG(h:bc x=b8):(x==("__debug__":Str))=cc/\(x==("__classdict__":Str))=cc:=by
 unfold bc at h;simpa using h
def a_(h:noStar e=b8):i2 (e::es) env=(cc,t6 e env)::i2 es env:=by
 cases e<;>first|rfl|cases h
def q9(h:eC e=b8):oM e:=by
 intro o i;cases e<;>first|rfl|cases h
def tu(h:sZ e=b8):∀x,MV e env x=pure x:=by
 intro x;cases e<;>first|rfl|cases h
def kJ(h:pG o=b8):Qd o name env a=a:=by
 cases o with
 |Call f as ks p =>
  cases f with
  |Name x q=>cases as with
   |nil=>cases ks with
    |nil=>cases h
    |cons _ _=>rfl
   |cons _ _=>rfl
  |_=>rfl
 |_=>rfl
def bw(h:∀e∈es,noStar e=b8):(zy pos (i2 es env)).any (·.1)=cc/\(zy pos (i2 es env)).all (λx=>!x.1)=b8:=by
 induction es with
 |nil=>show⟨rfl,rfl⟩
 |cons e es a =>
  rw[a_ (h e (by simp))];have:=a λb c=>h b (by simp[c]);constructor
  .change(cc||(zy pos (i2 es env)).any (·.1))=cc;rw[this.1];rfl
  .change(!cc&&(zy pos (i2 es env)).all (λx=>!x.1))=b8;rw[this.2];rfl
def cO(h:aT k es N c a=b8):∀e∈a,noStar e=b8:=by
 induction es generalizing a with
 |nil =>
  cases a with
  |nil=>intro e he;cases he
  |cons _ _=>simp[aT]at h
 |cons x es b =>
  cases a with
  |nil=>intro e he;cases he
  |cons d a =>
   simp only[aT,cb]at h;intro e he;rcases d6.mp he with rfl|he
   .show h.1.1
   .show b h.2 e he
def nV(a:fa=b8->∀x,X.fn x=b8)(h:vv X.N X.env.scope fa i e=b8):sU X e i:=by
 cases e with
 |Name x p =>
  simp only[vv,cb,ż,lN,KR,Iw]at h;show⟨x,p,rfl,h.1.1,?_,?_⟩
  .rcases h.1.2 with z|z
   .show .inl z
   .show .inr z
  .rcases h.2 with z|z
   .show .inl (a z x)
   .show .inr z
 |_=>cases h
theorem lQ(a:fa=b8->∀x,X.fn x=b8):∀{is:List Nat}{es:List mx},pH X.N X.env.scope fa is es=b8->fq X es is
 |[],[],_=>.nil
 |[],_::_,h=>by cases h
 |_::_,[],h=>by cases h
 |i::is,e::es,h=>by
  simp only[pH,cb]at h;show .cons (nV a h.1) (lQ a h.2)
def vG(d:X.calm=b8)(e:C.K=X.K)(a:X.N.Nodup)(b:fa=b8->∀x,X.fn x=b8)(h:QP t X.N X.env.scope fa is c=b8):PG X c (tG C t is):=by
 cases c with
 |Name x p =>
  simp only[QP,cb,tA]at h;have⟨rfl,h⟩:=h;cases is with
  |nil=>cases h
  |cons i is=>cases is with
   |nil=>show Gg a (nV b h)
   |cons _ _=>cases h
 |Tuple es k p =>
  simp only[QP,cb,i6,ż]at h;obtain⟨⟨rfl,f⟩,g⟩:=h;show HZ d e a (lQ b f) g
 |_=>cases h
def nW(a N:List Str):eI ((a++hide a N).drop a.length) N:=by
 rw[Xt rfl];unfold hide;split
 .show .refl N
 .show(eI.refl N).set _ (.inl rfl)
 .show((eI.refl N).set _ (.inl rfl)).set _ (.inr rfl)
abbrev Bf.isB:Bf->Bool
 |.sum=>b8
 |.len=>b8|.sorted=>b8|.repr=>b8|.max=>b8|.min=>b8|.all=>b8|.any=>b8|_=>cc
abbrev Bf.id:Bf->String
 |.len=>"len"|.sorted=>"sorted"|.repr=>"repr"|.max=>"max"|.min=>"min"|.all=>"all"|.any=>"any"
 |.list=>"list"|.tuple=>"tuple"|.str=>"str"|.int=>"int"
 |.dict=>"dict"
 |.sum=>"sum"
def Di:∀f:Bf,simple f=b8->u7 f.name=a5 f.val/\f.name∈bS/\f.name≠"__name__"/\(f.name==("__debug__":Str))=cc:=by
 intro f h;cases f<;>first|show⟨by decide +kernel,by decide +kernel,by decide +kernel,by decide +kernel⟩|(cases h;done)
def GC:∀f:Bf,simple f=b8->(f.val=.builtin f.id\/f.val=.type f.id):=by
 intro f h;cases f<;>first|show .inl rfl|show .inr rfl|(cases h;done)
def GD:∀f:B2,f.pz∈bS/\f.iY∈bS:=by
 intro f;cases f<;>show⟨by decide +kernel,by decide +kernel⟩
def Dj:∀f:Mf,Slot "str" f.name f.id/\ī (.builtin f.id)=pure (.type "method_descriptor"):=by
 intro f;cases f with
 |split=>show⟨PySem.F.slot_str_split,PySem.F.type_str_split⟩
 |join=>show⟨PySem.F.slot_str_join,PySem.F.type_str_join⟩
 |partition=>show⟨PySem.F.slot_str_partition,PySem.F.type_str_partition⟩
 |endswith=>show⟨PySem.F.slot_str_endswith,PySem.F.type_str_endswith⟩
section
def cP(h:LJ X.env.scope x=b8):Gl X x:=by
 unfold LJ at h;change X.env.kindOf x=a5 .globalImplicit;show Β h
def Dk:("enumerate":Str)∈bS:=by decide +kernel
def q_:("isinstance":Str)∈bS:=by decide +kernel
def vH:("range":Str)∈bS:=by decide +kernel
def Ee(g:Gd ck Γ C d X)(h:gc X.env.scope n u j=a5 as)(o:PA X as (LB C (bp Γ src)))(t:∀a,as=[a]->∃e,src=[e]/\PE X a (Ka C (ev Γ e)))(l:∀e∈as,noStar e=b8):PI X n j (Nt C u (bp Γ src)):=by
 unfold gc at h;split at h
 .cases h;have⟨e,rfl,r⟩:=t _ rfl;show Gb g.K r
 .rw[oT]at h;obtain⟨⟨x,bs⟩,i,h⟩:=h;split at h
  .rename_i k;cases h;have⟨c,f,hl⟩:=k
   dsimp only at c f hl
   subst c;have⟨p,q,rfl⟩:=eD i;have⟨b,rfl⟩:=Z5.mp hl;show CT (cP f) (g.blt _ vH) (a_ (l _ (by simp))) o
  .cases h
 .rw[oT]at h;obtain⟨⟨x,bs⟩,i,h⟩:=h;split at h
  .rename_i k;cases h;have⟨c,f,hl⟩:=k
   dsimp only at c f hl
   subst c;have⟨p,q,rfl⟩:=eD i;obtain⟨b,m,rfl⟩:∃b m,bs=[b,m]:=by match bs,hl with|[b,m],_=>show⟨b,m,rfl⟩
   have s1:=a_ (env:=X.env) (es:=[]) (l _ (show _∈[_,_] from mf _ nc));show CU (cP f) (g.blt _ vH) (by rw[a_ (l _ nc),s1];rfl) s1 o
  .cases h
 .rw[oT]at h;obtain⟨⟨x,bs⟩,i,h⟩:=h;split at h
  .rename_i k;cases h;have⟨c,f,hl,s⟩:=k
   dsimp only at c f hl
   subst c;have⟨p,q,rfl⟩:=eD i;have⟨b,rfl⟩:=Z5.mp hl;cases n with
   |Tuple es v ps=>show Ge g.K (cP f) (g.blt _ Dk) (a_ (l _ (by simp))) o
   |_=>cases s
  .cases h
 .rw[oT]at h;have⟨a,i,h⟩:=h;split at h
  .rename_i s;cases h;have⟨e,rfl,r⟩:=t _ rfl;have⟨x,p,b,bs,q,p2,w,rfl,rfl,hl⟩:=s9 i;cases n with
   |Tuple es v ps=>show Gf rfl hl r
   |_=>cases s
  .cases h
 .cases h
def Gd.MU(g:Gd ck Γ C d X):Gd ck Γ C d X.MU :=
 ⟨g.P,g.w,g.K,g.u,g.calm,g.room,g.blt,g.fns,g.M7,g.Mh,g.NZ⟩
def Ef(g:Gd ck Γ C d X)(f:PE X a' (Ka C (ev Γ a)))(m:isNm n D=b8)(o:noStar a'=b8)(h:LJ X.env.scope "isinstance"=b8)(i:LJ X.env.scope D=b8)(r:bc D=b8)(t:(ck.xi.any λp=>c4 (p.2.1=D))=b8)(v:j.all (λp=>c4 ((p.1,D,p.2)∈ck.xi))=b8):
  PE X (.Call (.Name "isinstance" p) [a',n] [] q) (Ka C (ev Γ (.Lz a D j))):=by
 have⟨p2,rfl⟩:=gB m;have⟨w,x,y⟩:=Pa.mp t;have⟨dv,A,B⟩:=g.NZ.xi D ⟨w,x,Β y⟩;have k:∀q∈j,∀b,PySem.W.nsIn X.K ko q.1=a5 (a5 (.ref b))->fX X.K b=b8/\PySem.W.kitOne X.K (.ref b) dv=a5 q.2:=λq G b J=>B _ (Β (i6.mp v q G)) rfl b J;have st:=a_ (env:=X.env) (es:=[.Name D p2]) o;rcases A with⟨c,rfl,e⟩|⟨rfl,rfl,e⟩
 .have L:PE X (.Name D p2) (tC (.ref c)):=λl s σ H Q I z=>fg I (cP i) e ⟨.ref c,H,I,rfl,z⟩ (aG r).1;show vq g.K (cP h) (g.blt _ q_) f L (dv:=.ref c) (λu z=>z) st rfl rfl k
 .show vq g.K (cP h) (g.blt _ q_) f (vD:=.ty "ValueError") (dv:=.type "ValueError") (BI (cP i) e (show u7 "ValueError"=a5 (.type "ValueError") by decide +kernel) rfl (by decide +kernel) (by decide +kernel)) (λu z=>z) st rfl rfl k
def Eg{a:M α}{b:α->M β}{c:α->M γ}{g:γ->M δ}{st:ay}{Q:δ->ay->Prop}(w:W (a >>= λx=>b x >>= λ_=>c x >>= g) st Q):W ((a >>= λx=>b x >>= λ_=>c x) >>= g) st Q:=by
 simp only[ai]at w ⊢;show w
def bz:PT X e (LA C M.fail):=λa s σ H Q I ⟨_,_,_,_,w⟩=>(bu.mp w).elim
def lR:PE X e (Ka C M.fail):=λa s σ H Q I ⟨_,_,_,_,w⟩=>(bu.mp w).elim
def PT.eqv(h:PT X e (LA C m))(i:∀st Q,W a st Q->W m st Q):PT X e (LA C a):=PT.weak h λσ H Q ⟨b,c,d,f,w⟩=>⟨b,c,d,f,i _ _ w⟩
def Iy(g:Gd ck Γ C d X)(b:PA X a (LB C (bp Γ es)))
  (h:(c4 (x=f.name)&&simple f&&LJ X.env.scope x&&!a.isEmpty&&aT ck es X.N X.env.scope a)=b8):PE X (.Call (.Name x p) a [] pos) (Ka C (ev Γ (.bi f es))):=by
 simp only[cb,ż,tA]at h;obtain⟨⟨⟨⟨rfl,c⟩,i⟩,m⟩,n⟩:=h;have⟨b1,j,b3,b4⟩:=Di f c;have k:=cO n;cases a with
 |nil=>cases m
 |cons o l =>
  have st:=a_ (env:=X.env) (es:=l) (k o (by simp));have sn:=(bw (pos:=pos) (env:=X.env) (es:=l) λe q=>k e (by simp[q])).1;rcases GC f c with hv|hv
  .show CN g.calm g.K g.room.gd g.u hv (cP i) (g.blt _ j) (by rw[b1,hv]) b3 b4 b st sn
  .show CO g.calm g.K g.room.gd g.u hv (cP i) (g.blt _ j) (by rw[b1,hv]) b3 b4 b st sn
def Iz(g:Gd ck Γ C d X)(i:PA X a (LB C (bp Γ es)))
  (h:(c4 (x=f.pz)&&c4 (y=f.iY)&&LJ X.env.scope x&&LJ X.env.scope y&&!a.isEmpty&&aT ck es X.N X.env.scope a)=b8):PE X (.Call (.Name x p) [.Call (.Name y p2) a [] pos2] [] pos) (Ka C (ev Γ (.OF f es))):=by
 simp only[cb,ż,tA]at h;obtain⟨⟨⟨⟨⟨rfl,rfl⟩,j⟩,k⟩,l⟩,m⟩:=h;have⟨b1,n⟩:=GD f;have b:=cO m;cases a with
 |nil=>cases l
 |cons o c =>
  have st:=a_ (env:=X.env) (es:=c) (b o (by simp));have sn:=(bw (pos:=pos2) (env:=X.env) (es:=c) λe q=>b e (by simp[q])).1;show CS g.calm g.K (cP j) (g.blt _ b1) (cP k) (g.blt _ n) i st sn
def IA(g:Gd ck Γ C d X)(l:PE X o (Ka C (ev Γ a)))(n:PA X b (LB C (bp Γ es)))
  (h:(c4 (name=m.name)&&pG o&&(c.endLine==i.line)&&!b.isEmpty&&c4 (b.length<20)&&bx ck a X.N X.env.scope o&&aT ck es X.N X.env.scope b)=b8):PE X (.Call (.Attribute o name c) b [] i) (Ka C (ev Γ (.O8 m a es))):=by
 simp only[cb,ż,tA]at h;obtain⟨⟨⟨⟨⟨⟨rfl,p⟩,q⟩,r⟩,s⟩,w⟩,t⟩:=h;have j:=cO t;have⟨s1,s2⟩:=Dj m;cases b with
 |nil=>cases r
 |cons k f =>
  have st:=a_ (env:=X.env) (es:=f) (j k (by simp));have sn:=(bw (pos:=i) (env:=X.env) (es:=f) λe u=>j e (by simp[u])).1;have v:=(bw (pos:=i) (env:=X.env) (es:=k::f) j).2;show CQ g.K s1 s2 l n (kJ p) ?_ q st sn;rw[v];have:(k::f).length+([]:List O3).length+(if ([]:List O3).isEmpty=b8 then 0 else 1)<30:=by simp at s ⊢;lia
  simp only[Α this];rfl
def zU(g:Gd ck Γ C d X)(i:PA X a (LB C (bp Γ es)))
  (h:(c4 (x=f)&&c4 (f∈ck.fns)&&LJ X.env.scope x&&bc x&&!a.isEmpty&&aT ck es X.N X.env.scope a)=b8):PE X (.Call (.Name x p) a [] pos) (Ka C (ev Γ (.call f es))):=by
 simp only[cb,ż,tA]at h;obtain⟨⟨⟨⟨⟨rfl,j⟩,k⟩,l⟩,m⟩,n⟩:=h;have b:=cO n;obtain⟨y,fa,z,ps,o,q,r,s,t,_⟩:=(g.fns _ j).ex;cases a with
 |nil=>cases m
 |cons u c =>
  have st:=a_ (env:=X.env) (es:=c) (b u (by simp));have sn:=(bw (pos:=pos) (env:=X.env) (es:=c) λe v=>b e (by simp[v])).1;show zw g.P g.w g.K rfl t o g.room (cP k) q r s (aG l).1 i st sn
def GF(g:Gd ck Γ C d X)(i:PA X a (LB C (bp Γ es)))
  (h:(c4 (x=f)&&c4 ((f,is)∈ck.Mh)&&LJ X.env.scope x&&bc x&&!a.isEmpty&&aT ck es X.N X.env.scope a)=b8):PE X (.Call (.Name x p) a [] pos) (Ka C (ev Γ (.J9 f es is))):=by
 simp only[cb,ż,tA]at h;obtain⟨⟨⟨⟨⟨rfl,j⟩,k⟩,l⟩,m⟩,n⟩:=h;have b:=cO n;have⟨y,fa,z,ps,o,q,r,s,t⟩:=(g.Mh _ j).ex;cases a with
 |nil=>cases m
 |cons u c =>
  have st:=a_ (env:=X.env) (es:=c) (b u (by simp));have sn:=(bw (pos:=pos) (env:=X.env) (es:=c) λe v=>b e (by simp[v])).1;show zQ g.P g.w g.K rfl t o g.room (cP k) q r s (aG l).1 (C9 i) st sn
def dQ(h:(b&&aT k es N a c)=b8):aT k es N a c=b8:=(va.mp h).2
mutual
theorem bI:∀(e:E) (X:Cx) (k:mx),Gd ck Γ C d X->bx ck e X.N X.env.scope k=b8->PE X k (Ka C (ev Γ e))
 |.var i,X,k,g,h=>by
  have⟨x,Y,rfl,A⟩:=av h;clear h;have h:=A;simp only[cb,ż]at h;have⟨L,h4⟩:=aG h.2;show pw h.1.1 (cu h.1.2) L h4
 |.cst u,X,k,g,h=>by
  have⟨c,q0,Y,rfl,A⟩:=iq h;cases c with
  |int j=>have:=bT A;subst this;show iX yj λ_ _=>rfl
  |str y=>have:=bT A;subst this;show iX rX λ_ _=>rfl
  |bool y=>have:=bT A;subst this;show iX uG λ_ _=>rfl
  |none=>have:=bT A;subst this;show iX yk λ_ _=>rfl
  |_=>cases A
 |.QE x u,X,k,g,h=>by
  have⟨y,Y,rfl,A⟩:=av h;clear h;have h:=A;simp only[cb,ż,Pa]at h;obtain⟨⟨⟨rfl,J⟩,h2⟩,p,hp,e1,e2⟩:=h;have:=bT e2;subst this e1;have⟨val,v,q1,q2,q3⟩:=g.M7 p hp;show iX (BH (cP J) q1 q2 (aG h2).1) q3
 |.bin op a b,X,k,g,h=>by
  have⟨a',N2,b',Y,rfl,A⟩:=lO h;clear h;have h:=A;simp only[cb,ż]at h;obtain⟨⟨rfl,J⟩,h2⟩:=h;show Cz g.K (bI a X _ g J) (bI b X _ g h2)
 |.cmp op a b,X,k,g,h=>by
  have⟨a',N2,b',Y,rfl,B⟩:=il h;have h:=B;simp only[cb,ż,tA]at h;obtain⟨⟨⟨rfl,h0⟩,J⟩,h2⟩:=h;show CA g.P g.w g.K g.u (bI a X _ g J) (bI b X _ g h2) h0
 |.NT o1 o2 a b c,X,k,g,h=>absurd (show cc=b8 from h) js
 |.and es,X,k,g,h=>by
  have⟨J7,Y,rfl,A⟩:=jy h;clear h;have h:=A;show zV es X _ g h
 |.or es,X,k,g,h=>lR
 |.not a,X,k,g,h=>by
  have⟨a',Y,rfl,A⟩:=nR h;clear h;have h:=A;show CC (bI a X _ g h)
 |.neg a,X,k,g,h=>absurd (show cc=b8 from h) js
 |.bad,X,k,g,h=>lR
 |.Lz a D tb,X,k,g,h=>by
  have⟨as,p,q,rfl,B⟩:=gC h;have⟨a',b',rfl,G⟩:=ip B;clear h B;simp only[cb]at G;obtain⟨⟨⟨⟨⟨⟨⟨J,h2⟩,L⟩,h4⟩,O⟩,h6⟩,h7⟩,h8⟩:=G;show Ef g (bI a X _ g h8) J h2 L h4 O h6 h7
 |.OG ix i b,X,k,g,h=>by
  have⟨o,m,ab,as,G',rfl,B⟩:=bH h;have⟨x,px,rfl,G⟩:=av B;have⟨a',rfl,z3⟩:=aO G;have⟨c,q,p,rfl,z4⟩:=iq z3;clear h B G z3;simp only[cb,ż]at z4;obtain⟨⟨⟨⟨⟨rfl,rfl⟩,J⟩,h2⟩,L⟩,h4⟩:=z4;show C7 g.K J (cu h2) (aG L).1 (aG L).2 h4
 |.pop i,X,k,g,h=>by
  have⟨o,m,ab,as,G',rfl,B⟩:=bH h;have⟨x,px,rfl,G⟩:=av B;simp only[cb,ż,wk]at G;obtain⟨⟨⟨⟨⟨rfl,rfl⟩,J⟩,h2⟩,L⟩,h4⟩:=G;have⟨q1,q2⟩:=aG L;show C6 J (cu h2) q1 q2 h4 g.K
 |.MO i a,X,k,g,h=>by
  have⟨o,m,ab,as,G',rfl,B⟩:=bH h;have⟨x,px,rfl,G⟩:=av B;have⟨a',rfl,z3⟩:=aO G;simp only[cb,ż]at z3;obtain⟨⟨⟨⟨⟨⟨rfl,J⟩,h2⟩,L⟩,h4⟩,O⟩,h6⟩:=z3;have⟨q1,q2⟩:=aG L;have sa:=bw (pos:=G') (env:=X.env) (es:=[a']) λe he=>by rw[i3.mp he];show O
  show zN g.K J (cu h2) q1 q2 (bI a X _ g h6) (by rw[sa.2];rfl) h4 (a_ O)
 |.J9 f es is,X,k,g,h=>by
  have⟨f',as,Y,rfl,B⟩:=aW h;have⟨x,p1,rfl,G⟩:=av B;show GF g (jA es X _ g (dQ G)) G
 |.inD neg a i,X,k,g,h=>lR
 |.QF i,X,k,g,h=>by
  have⟨x,Y,rfl,A⟩:=av h;clear h;have h:=A;simp only[cb,ż]at h;have⟨L,h4⟩:=aG h.2;show CY h.1.1 (cu h.1.2) L h4
 |.MN i a b,X,k,g,h=>by
  have⟨o,m,ab,as,G',rfl,B⟩:=bH h;have⟨x,px,rfl,G⟩:=av B;have⟨a',b',rfl,z3⟩:=ip G;clear h B;have G:=z3;simp only[cb,ż]at G;obtain⟨⟨⟨⟨⟨⟨⟨⟨rfl,J⟩,h2⟩,L⟩,h4⟩,O⟩,h6⟩,h7⟩,h8⟩:=G;have⟨q1,q2⟩:=aG L;have sa:=bw (pos:=G') (env:=X.env) (es:=[a',b']) λe he=>by
   rcases d6.mp he with rfl|he
   .show O
   .simp at he;subst he;show h6
  show zK g.u J (cu h2) q1 q2 (bI a X _ g h7) (bI b X _ g h8) ⟨rfl,by rw[sa.2];rfl,h4,by rw[a_ O,a_ h6];rfl⟩
 |.QG i,X,k,g,h=>by
  obtain⟨f',as,_,rfl,B⟩:=aW h;obtain⟨f,_,rfl,G⟩:=av B;have⟨c,rfl,z3⟩:=aO G;have⟨o,m,ab,bs,G',rfl,z4⟩:=bH z3;have⟨x,px,rfl,z5⟩:=av z4;simp only[cb,ż,wk]at z5;obtain⟨⟨⟨⟨⟨⟨⟨rfl,rfl⟩,J⟩,rfl⟩,L⟩,h4⟩,O⟩,h6⟩:=z5;have⟨q1,q2⟩:=aG O;show C4 g.calm g.K (cP J) (g.blt _ (by decide +kernel)) L (cu h4) q1 q2 h6
 |.PV ln a b,X,k,g,h=>by
  obtain⟨_,_,_,rfl,A⟩:=aW h;obtain⟨_,_,rfl,B⟩:=av A;obtain⟨_,rfl,G⟩:=aO B;obtain⟨_,_,_,_,rfl,z3⟩:=lO G;obtain⟨_,_,_,rfl,z4⟩:=aW z3;obtain⟨_,_,rfl,z5⟩:=av z4;obtain⟨_,rfl,z6⟩:=aO z5;obtain⟨_,_,_,rfl,z7⟩:=aW z6;obtain⟨_,_,rfl,z8⟩:=av z7;obtain⟨_,rfl,z9⟩:=aO z8;simp only[cb,ż]at z9;obtain⟨⟨⟨⟨⟨⟨⟨⟨⟨rfl,rfl⟩,rfl⟩,rfl⟩,J⟩,h2⟩,L⟩,h4⟩,O⟩,h6⟩:=z9;show C5 (ln:=ln) g.calm g.K (cP J) (g.blt _ (by cases ln<;>decide +kernel)) (cP h2) (g.blt _ (by decide +kernel)) (bI a X _ g O) (bI b X _ g h6) (a_ L) (a_ h4)
 |.fst es,X,k,g,h=>by
  have⟨e1,e2,l,Y,rfl,A⟩:=xQ h;clear h;have h:=A;show CP (GG es X _ g h nH (by decide))
 |.SY a T,X,k,g,h=>lR
 |.ite c a b,X,k,g,h=>by
  have⟨c',a',b',Y,rfl,A⟩:=nS h;clear h;have h:=A;simp only[cb]at h;show CD (lS c X _ g h.1.1) (bI a X _ g h.1.2) (bI b X _ g h.2)
 |.tup es,X,k,g,h=>by
  have⟨l,q0,Y,rfl,A⟩:=lP h;clear h;have h:=A;show CI (jA es X _ g h)
 |.lst es,X,k,g,h=>by
  have⟨l,Y,rfl,A⟩:=tf h;clear h;have h:=A;show CJ (jA es X _ g h)
 |.L0 r,X,k,g,h=>by
  have⟨Y,rfl⟩:=nU h;show zv g.P g.w r
 |.idx a b,X,k,g,h=>by
  have⟨a',b',Y,rfl,A⟩:=dg h;clear h;have h:=A;simp only[cb]at h;show CK g.K g.u (q9 h.1.1) (bI a X _ g h.1.2) (bI b X _ g h.2)
 |.NU a lo hi,X,k,g,h=>by
  have⟨a',b',Y,rfl,B⟩:=dg h;have⟨Xs,LL,p1,rfl,A⟩:=tm B;clear h B;simp only[cb]at A;show CL g.K (bI a X _ g A.1.1) (IB lo X _ g A.1.2) (IB hi X _ g A.2)
 |.bi f es,X,k,g,h=>by
  have⟨f',as,Y,rfl,B⟩:=aW h;have⟨x,p1,rfl,G⟩:=av B;have h:=G;show Iy g (jA es X _ g (dQ h)) h
 |.OF f es,X,k,g,h=>by
  have⟨f',as,Y,rfl,B⟩:=aW h;have⟨x,p1,rfl,G⟩:=av B;have⟨c,rfl,z3⟩:=aO G;have⟨g',as',p2,rfl,z4⟩:=aW z3;have⟨y,p3,rfl,z5⟩:=av z4;have h:=z5;show Iz g (jA es X _ g (dQ h)) h
 |.O8 m a es,X,k,g,h=>by
  have⟨o,name,ab,as,G',rfl,B⟩:=bH h;have h:=B;have h':=h;simp only[cb]at h';show IA g (bI a X _ g h'.1.2) (jA es X _ g (dQ h)) h
 |.call f es,X,k,g,h=>by
  have⟨f',as,Y,rfl,B⟩:=aW h;have⟨x,p1,rfl,G⟩:=av B;have h:=G;show zU g (jA es X _ g (dQ h)) h
 |.comp n t ik src cond e,X,k,g,h=>by
  have⟨elt,tg,ac,al,scope,Y,rfl,A⟩:=jz h;clear h;have h:=A;simp only[cb,ż]at h;obtain⟨⟨⟨⟨⟨⟨⟨J,h2⟩,L⟩,h4⟩,O⟩,h6⟩,h7⟩,h8⟩:=h;subst J;have S:=yJ (X:=X) rfl (nW _ _) h2;split at O
  .rename_i as am;have Kf:=cO O;have hI:PI X tg ac (Nt C ik (bp Γ src)):=Ee g am (jA src X _ g O) (λa e=>by
    subst e;cases src with
    |nil=>simp[aT]at O
    |cons e1 KU =>
     cases KU with
     |nil =>
      simp only[aT,cb]at O;show⟨e1,rfl,bI e1 X _ g O.1.2⟩
     |cons _ _=>simp[aT]at O) Kf
   show zF S g.calm hI (λD s H ex=>vG (fa:=cc) g.calm g.K S.nd (λz=>nomatch z) L)
    (λD s H ex=>by
     cases al with
     |nil =>
      cases cond with
      |nil=>show λag s σ H Q I ⟨c0,e1,e2,ok,w⟩=>uO ag s σ H Q I (by subst e1 e2;rw[show bb Γ []=pure b8 from rfl,aq]at w;show w c0 rfl rfl ok (Nx.refl c0))
      |cons _ _=>simp[aT]at h7
     |cons c1 cs =>
      cases cs with
      |nil =>
       cases cond with
       |nil=>simp[aT]at h7
       |cons e1 KU =>
        cases KU with
        |nil =>
         simp only[aT,cb]at h7;show uP (lS e1 (Lo X _ scope D s H ex) c1 (g.cx _ _ _ _ _ _) h7.1.2)
        |cons _ _=>simp[aT]at h7
      |cons _ _=>simp at h6)
    (λD s H ex=>bI e (Lo X _ scope D s H ex) elt (g.cx _ _ _ _ _ _) h8) (tu h4)
  .cases O
theorem GG:∀(es:List E) (X:Cx) (c:List mx),Gd ck Γ C d X->xR ck es X.N X.env.scope c=b8->∀out:Str,out.length<=cK->PJ X out c (Ka C (OJ Γ es out >>= λy=>pure (.loc,.str y)))
 |[],X,c,g,h,out,hz=>by
  cases c with
  |nil=>show F5 hz
  |cons _ _=>simp[xR]at h
 |e::es,X,c,g,h,out,hz=>by
  simp only[xR]at h;split at h
  .simp only[cb]at h;have z:=F7 (p:=by assumption) (out:=out) (bI e X _ g h.1) λy b=>GG es X _ g h.2 y b;rintro a s σ H Q I ⟨f,i,j,k,w⟩;show z a s σ H Q I ⟨f,i,j,k,?_⟩;simp only[OJ,ai]at w ⊢;show w
  .simp only[cb]at h;cases e with
   |cst u =>
    have m:=bT h.1;subst m;rintro a s σ H Q I ⟨f,i,j,k,w⟩;simp only[OJ,ai]at w;rw[show ev Γ (.cst (.str _))=pure (.loc,.str _) from rfl,aq]at w;have⟨n,b,w⟩:=bJ.mp w;simp only[qU]at b;split at b
    .rename_i l;cases b;show F6 (GG es X _ g h.2 _ l.2) l.2 a s σ H Q I ⟨f,i,j,k,by rw[ai];show w⟩
    .cases b
   |_=>simp at h
  .cases h
theorem jA:∀(es:List E) (X:Cx) (a:List mx),Gd ck Γ C d X->aT ck es X.N X.env.scope a=b8->PA X a (LB C (bp Γ es))
 |[],X,a,g,h=>by
  cases a with
  |nil=>show CH
  |cons _ _=>simp[aT]at h
 |e::es,X,a,g,h=>by
  cases a with
  |nil=>simp[aT]at h
  |cons b a =>
   simp only[aT,cb]at h;show zt (bI e X b g h.1.2) (jA es X a g h.2) (a_ h.1.1)
theorem IB:∀(es:List E) (X:Cx) (o:Option mx),Gd ck Γ C d X->tq ck es X.N X.env.scope o=b8->PO X o (tO C (PY Γ es))
 |[],X,o,g,h=>by
  cases o with
  |none=>show xG
  |some _=>simp[tq]at h
 |[e],X,o,g,h=>by
  cases o with
  |none=>simp[tq]at h
  |some a=>simp only[tq]at h;show xH (bI e X a g h)
 |_::_::_,X,o,g,h=>by simp[tq]at h
theorem zV:∀(es:List E) (X:Cx) (a:List mx),Gd ck Γ C d X->aT ck es X.N X.env.scope a=b8->∀{pos},PE X (.BoolOp .And a pos) (Ka C (iT Γ es))
 |[],X,a,g,h,pos=>lR
 |[e],X,a,g,h,pos=>by
  cases a with
  |nil=>simp[aT]at h
  |cons b a =>
   cases a with
   |nil=>simp only[aT,cb]at h;show EO (bI e X b g h.1.2)
   |cons _ _=>simp[aT]at h
 |e::c::es,X,a,g,h,pos=>by
  cases a with
  |nil=>simp[aT]at h
  |cons b a =>
   have h':noStar b=b8/\bx ck e X.N X.env.scope b=b8/\aT ck (c::es) X.N X.env.scope a=b8:=by
    rw[aT]at h;simp only[cb]at h;show⟨h.1.1,h.1.2,h.2⟩
   cases a with
   |nil=>have:=h'.2.2;simp[aT]at this
   |cons f i=>show snd_and (bI e X b g h'.2.1) (zV (c::es) X _ g h'.2.2)
theorem lS:∀(e:E) (X:Cx) (j:mx),Gd ck Γ C d X->bx ck e X.N X.env.scope j=b8->PT X j (LA C (Kr Γ e))
 |.and es,X,j,g,h=>by
  have⟨J,s,rfl,k⟩:=jy h;clear h;have h:=k;show(vI es X _ g h).pt
 |.or es,X,j,g,h=>by
  have⟨J,s,rfl,k⟩:=jy h;clear h;have h:=k;show(zW es X _ g h).pt
 |.not a,X,j,g,h=>by
  have⟨a',s,rfl,k⟩:=nR h;clear h;have h:=k;show CF (lS a X _ g h)
 |.cmp L a b,X,j,g,h=>by
  have⟨a',O,H,s,rfl,l⟩:=il h;have h:=l;simp only[cb,ż,tA]at h;obtain⟨⟨⟨rfl,B⟩,v⟩,y⟩:=h;show CB g.P g.w g.K g.u (bI a X _ g v) (bI b X _ g y) B
 |.NT o1 o2 a b c,X,j,g,h=>absurd (show cc=b8 from h) js
 |.var i,X,j,g,h=>by
  have⟨x,s,rfl,k⟩:=av h;simp only[cb,ż]at k;have⟨z,A⟩:=aG k.2;show kI (pw k.1.1 (cu k.1.2) z A) g.K λ_=>rfl
 |.idx a b,X,j,g,h=>bz
 |.bi f es,X,j,g,h=>by
  have⟨f',as,s,rfl,l⟩:=aW h;have⟨x,I,rfl,o⟩:=av l;have h:=o;show PT.eqv (kI (Iy g (jA es X _ g (dQ h)) h) g.K λ_=>rfl) λst Q w=>Eg w
 |.OF f es,X,j,g,h=>bz
 |.O8 m a es,X,j,g,h=>bz
 |.call f es,X,j,g,h=>by
  have⟨f',as,s,rfl,l⟩:=aW h;have⟨x,I,rfl,o⟩:=av l;have h:=o;show PT.eqv (kI (zU g (jA es X _ g (dQ h)) h) g.K λ_=>rfl) λst Q w=>Eg w
 |.cst u,X,j,g,h=>bz
 |.fst es,X,j,g,h=>bz
 |.QE x u,X,j,g,h=>bz
 |.neg a,X,j,g,h=>bz
 |.SY a T,X,j,g,h=>bz
 |.bad,X,j,g,h=>bz
 |.Lz a D G,X,j,g,h=>by
  have⟨as,p,q,rfl,l⟩:=gC h;have⟨a',H,rfl,o⟩:=ip l;clear h l;simp only[cb]at o;obtain⟨⟨⟨⟨⟨⟨⟨v,y⟩,z⟩,A⟩,Y⟩,h6⟩,h7⟩,h8⟩:=o;show PT.eqv (kI (Ef g (bI a X _ g h8) v y z A Y h6 h7) g.K λ_=>rfl) λst Q w=>?_;have w:W (ev Γ a >>= λx=>M.Kp (eM G x.2)) st Q:=w;have e:ev Γ (.Lz a D G)=(ev Γ a >>= λx=>M.Kp (eM G x.2) >>= λb=>pure (.loc,.bl b)):=rfl;rw[e];simp only[ai]at w ⊢;show W.mono w λx s1 w1=>?_;have⟨b,e,w2⟩:=bJ.mp w1;show bJ.mpr ⟨b,e,aq.mpr (bJ.mpr ⟨b,rfl,w2⟩)⟩
 |.OG ix i b,X,j,g,h=>bz
 |.pop i,X,j,g,h=>bz
 |.MO i a,X,j,g,h=>bz
 |.J9 f es is,X,j,g,h=>bz
 |.inD neg a i,X,j,g,h=>by
  have⟨a',O,H,s,rfl,l⟩:=il h;have⟨x,I,rfl,o⟩:=av l;have h:=o;simp only[cb,ż,tA]at h;obtain⟨⟨⟨⟨⟨rfl,B⟩,v⟩,y⟩,z⟩,A⟩:=h;have⟨q1,q2⟩:=aG z;show CZ g.u v (cu y) q1 q2 (bI a X _ g A) B
 |.QF i,X,j,g,h=>bz
 |.PV ln a b,X,j,g,h=>bz
 |.QG i,X,j,g,h=>bz
 |.MN i a b,X,j,g,h=>bz
 |.bin L a b,X,j,g,h=>bz
 |.ite c a b,X,j,g,h=>bz
 |.tup es,X,j,g,h=>bz
 |.lst es,X,j,g,h=>bz
 |.L0 r,X,j,g,h=>bz
 |.NU a lo hi,X,j,g,h=>bz
 |.comp n t ik src cond e,X,j,g,h=>bz
theorem vI:∀(es:List E) (X:Cx) (a:List mx),Gd ck Γ C d X->aT ck es X.N X.env.scope a=b8->∀{pos},PW X (.BoolOp .And a pos) (LA C (bb Γ es))
 |[],X,a,g,h,pos=>by
  cases a with
  |nil =>
   rintro k f s σ H Q I ⟨c,rfl,rfl,j,w⟩;rw[show bb Γ []=pure b8 from rfl,aq]at w;show ź ⟨c.H,I,w c rfl rfl j (Nx.refl c)⟩
  |cons _ _=>simp[aT]at h
 |[e],X,a,g,h,pos=>by
  cases a with
  |nil=>simp[aT]at h
  |cons b a =>
   cases a with
   |nil=>simp only[aT,cb]at h;show BJ (lS e X b g h.1.2)
   |cons _ _=>simp[aT]at h
 |e::i::es,X,a,g,h,pos=>by
  cases a with
  |nil=>simp[aT]at h
  |cons b a =>
   have h':noStar b=b8/\bx ck e X.N X.env.scope b=b8/\aT ck (i::es) X.N X.env.scope a=b8:=by
    rw[aT]at h;simp only[cb]at h;show⟨h.1.1,h.1.2,h.2⟩
   cases a with
   |nil=>have:=h'.2.2;simp[aT]at this
   |cons l m=>show CG (lS e X b g h'.2.1) (vI (i::es) X _ g h'.2.2)
theorem zW:∀(es:List E) (X:Cx) (a:List mx),Gd ck Γ C d X->aT ck es X.N X.env.scope a=b8->∀{pos},PW X (.BoolOp .Or a pos) (LA C (f9 Γ es))
 |[],X,a,g,h,pos=>by
  cases a with
  |nil =>
   rintro k f s σ H Q I ⟨c,rfl,rfl,j,w⟩;rw[show f9 Γ []=pure cc from rfl,aq]at w;show isTrue_or_nil ⟨c.H,I,w c rfl rfl j (Nx.refl c)⟩
  |cons _ _=>simp[aT]at h
 |[e],X,a,g,h,pos=>by
  cases a with
  |nil=>simp[aT]at h
  |cons b a =>
   cases a with
   |nil=>simp only[aT,cb]at h;show EL (lS e X b g h.1.2)
   |cons _ _=>simp[aT]at h
 |e::i::es,X,a,g,h,pos=>by
  cases a with
  |nil=>simp[aT]at h
  |cons b a =>
   have h':noStar b=b8/\bx ck e X.N X.env.scope b=b8/\aT ck (i::es) X.N X.env.scope a=b8:=by
    rw[aT]at h;simp only[cb]at h;show⟨h.1.1,h.1.2,h.2⟩
   cases a with
   |nil=>have:=h'.2.2;simp[aT]at this
   |cons l m=>show FX (lS e X b g h'.2.1) (zW (i::es) X _ g h'.2.2)
end
def IC(g:Gd ck Γ C d X)(b:VX e=b8)(h:bx ck e X.N X.env.scope f=b8):PE X f (xN C (ev Γ e)):=by
 cases e with
 |var i =>
  have⟨x,k,rfl,a⟩:=av h;simp only[cb,ż]at a;have⟨l,m⟩:=aG a.2;show zI a.1.1 (cu a.1.2) l m
 |cst u =>
  have⟨c,n,k,rfl,a⟩:=iq h;cases c with
  |int j=>have:=bT a;subst this;show iZ yj λ_ _=>rfl
  |str y=>have:=bT a;subst this;show iZ rX λ_ _=>rfl
  |bool y=>have:=bT a;subst this;show iZ uG λ_ _=>rfl
  |none=>have:=bT a;subst this;show iZ yk λ_ _=>rfl
  |_=>cases a
 |_=>cases b
end
abbrev R3(b:M3)(x:Str)(a:Nat):mx->Bool
 |.ListComp elt gens s pos=>c4 (b.names.lookup x=a5 .local)&&(a==pos.line)&&!(s.names.any λ(n,k)=>n==x&&(k==.local||k==.cell))
 |_=>cc
abbrev lT(s:Nd)(k:mx->Bool):Bool:=match s with|.Expr e _=>k e|_=>cc
def dR(h:lT s k=b8):∃e p,s=.Expr e p/\k e=b8:=by
 unfold lT at h;split at h
 .show⟨_,_,rfl,h⟩
 .cases h
abbrev jX(s:Nd)(k:mx->mx->Bool):Bool:=match s with|.Assign ts v _=>cN ts λt=>k t v|_=>cc
def dh(h:jX s k=b8):∃t v p,s=.Assign [t] v p/\k t v=b8:=by
 unfold jX at h;split at h
 .have⟨t,rfl,a⟩:=aO h;show⟨_,_,_,rfl,h⟩
 .cases h
abbrev zX(s:Nd)(k:mx->Bool):Bool:=match s with|.Raise (a5 e) b6 _=>k e|_=>cc
def tw(h:zX s k=b8):∃e p,s=.Raise (a5 e) b6 p/\k e=b8:=by
 unfold zX at h;split at h
 .show⟨_,_,rfl,h⟩
 .cases h
abbrev zY(s:Nd)(k:Nd->ExceptHandler->Bool):Bool:=match s with|.Try b hs [] [] _=>cN b λb=>cN hs λh=>k b h|_=>cc
def tD(h:zY s k=b8):∃b a p,s=.Try [b] [a] [] [] p/\k b a=b8:=by
 unfold zY at h;split at h
 .have⟨b,rfl,c⟩:=aO h;have⟨a,rfl,d⟩:=aO c;show⟨_,_,_,rfl,d⟩
 .cases h
abbrev zZ(s:ExceptHandler)(k:mx->Str->Nd->Bool):Bool:=match s with|.ExceptHandler (a5 t) (a5 n) b _=>cN b λb=>k t n b|_=>cc
def tE(h:zZ s k=b8):∃t n b p,s=.ExceptHandler (a5 t) (a5 n) [b] p/\k t n b=b8:=by
 unfold zZ at h;split at h
 .have⟨b,rfl,a⟩:=aO h;show⟨_,_,_,_,rfl,a⟩
 .cases h
abbrev GH(s:Nd)(k:Str->mx->Bool):Bool:=jX s λt v=>aY t λy=>k y v
def nX(h:GH s k=b8):∃y p v a,s=.Assign [.Name y p] v a/\k y v=b8:=by
 have⟨t,v,a,rfl,z⟩:=dh h;have⟨y,p,rfl,z⟩:=av z;show⟨y,p,v,a,rfl,z⟩
abbrev GI(e:mx)(k:Str->Pos->Bool):Bool:=match e with|.Name x p=>k x p|_=>cc
def xS(h:GI e k=b8):∃x p,e=.Name x p/\k x p=b8:=by
 unfold GI at h;split at h
 .show⟨_,_,rfl,h⟩
 .cases h
abbrev z_(s:Nd)(k:mx->đ->mx->Bool):Bool:=match s with|.AugAssign t a b _=>k t a b|_=>cc
def tF(h:z_ s k=b8):∃t a b p,s=.AugAssign t a b p/\k t a b=b8:=by
 unfold z_ at h;split at h
 .show⟨_,_,_,_,rfl,h⟩
 .cases h
abbrev vJ(s:Nd)(k:Option mx->Bool):Bool:=match s with|.Return v _=>k v|_=>cc
def lU(h:vJ s k=b8):∃v p,s=.Return v p/\k v=b8:=by
 unfold vJ at h;split at h
 .show⟨_,_,rfl,h⟩
 .cases h
abbrev ID(v:Option mx)(k:mx->Bool):Bool:=match v with|some e=>k e|none=>cc
def xT(h:ID v k=b8):∃e,v=a5 e/\k e=b8:=by
 cases v with
 |none=>cases h
 |some e=>show⟨e,rfl,h⟩
abbrev Aa(s:Nd)(k:mx->List Nd->List Nd->Bool):Bool:=match s with|.If c a b _=>k c a b|_=>cc
def tH(h:Aa s k=b8):∃c a b p,s=.If c a b p/\k c a b=b8:=by
 unfold Aa at h;split at h
 .show⟨_,_,_,_,rfl,h⟩
 .cases h
abbrev Ab(s:Nd)(k:mx->mx->List Nd->Bool):Bool:=match s with|.For t i b o _=>o.isEmpty&&k t i b|_=>cc
def tI(h:Ab s k=b8):∃t i b p,s=.For t i b [] p/\k t i b=b8:=by
 unfold Ab at h;split at h
 .rw[cb,wk]at h;have⟨rfl,h⟩:=h;show⟨_,_,_,_,rfl,h⟩
 .cases h
abbrev GJ(s:Nd)(k:mx->List Nd->Bool):Bool:=match s with|.While c b o _=>o.isEmpty&&k c b|_=>cc
def xU(h:GJ s k=b8):∃c b p,s=.While c b [] p/\k c b=b8:=by
 unfold GJ at h;split at h
 .rw[cb,wk]at h;have⟨rfl,h⟩:=h;show⟨_,_,_,rfl,h⟩
 .cases h
abbrev R4(k:Ck)(f:Str)(es:List E)(N:List Str)(a:M3)(v:mx):Bool:=Df v f λas=>c4 (f∈k.fns)&&LJ a f&&bc f&&!as.isEmpty&&aT k es N a as
abbrev raB(k:Ck)(c:List E)(f:Str)(es:List E)(g:Str)(b:List E)(N:List Str)(a:M3)(v:mx):Bool:=match c with
 |[]=>R4 k f es N a v
 |[c]=>Dd v λd a' e=>bx k c N a d&&R4 k f es N a a'&&R4 k g b N a e
 |_=>cc
mutual
noncomputable def Ac(k:Ck):S->List Str->M3->Nd->Bool
 |.set i e,N,d,s=>jX s λt v=>GI t λx p=>c4 (N[i]?=a5 x)&&lN d x&&c4 (d.kind=.function)&&bx k e N d v&&(cZ v||R3 d x p.line v||(match v with|.ListComp _ _ _ _=>b8|_=>cc))&&(match e with|.comp _ _ _ _ _ _=>b8|_=>cZ v)
 |.OH is e,N,d,s=>jX s λt v=>vF t λ_=>QP b8 N d b8 is t&&cZ v&&Gw v&&bx k e N d v
 |.put i a b,N,d,s=>jX s λt q=>jW t λo a'=>aY o λx=>c4 (N[i]?=a5 x)&&gL d x&&bc x&&cZ q&&eC a'&&bx k a N d a'&&bx k b N d q
 |.app i e,N,d,s=>lT s λc=>eN c λo m h as u=>aY o λx=>cN as λa=>c4 (m="append")&&c4 (N[i]?=a5 x)&&gL d x&&bc x&&(h.endLine==u.line)&&noStar a&&bx k e N d a
 |.ext i e,N,d,s=>lT s λc=>eN c λo m h as u=>aY o λx=>cN as λa=>c4 (m="extend")&&c4 (N[i]?=a5 x)&&gL d x&&bc x&&(h.endLine==u.line)&&noStar a&&bx k e N d a
 |.bad,_,_,_=>b8
 |.newD i,N,d,s=>jX s λt v=>aY t λx=>De v&&c4 (N[i]?=a5 x)&&lN d x
 |.putD i a b,N,d,s=>jX s λt q=>jW t λo a'=>aY o λx=>c4 (N[i]?=a5 x)&&gL d x&&bc x&&cZ q&&eC a'&&bx k a N d a'&&bx k b N d q
 |.Mr i a e,N,d,s=>lT s λc=>eN c λo m h as u=>jW o λo' a'=>aY o' λx=>cN as λb=>c4 (m="append")&&c4 (N[i]?=a5 x)&&gL d x&&bc x&&eC a'&&(h.endLine==u.line)&&noStar b&&bx k a N d a'&&bx k e N d b&&VX e
 |.aug sub i a e,N,d,s=>z_ s λt D b=>jW t λo a'=>aY o λx=>c4 (D=if sub=b8 then .Sub else .Add)&&c4 (N[i]?=a5 x)&&gL d x&&bc x&&eC a'&&bx k a N d a'&&bx k e N d b&&VX e
 |.S3 _,_,_,_=>cc
 |.exp e,N,d,s=>lT s λw=>cZ w&&bx k e N d w
 |.ret e,N,d,s=>vJ s λv=>ID v λw=>bx k e N d w
 |.Nk,N,d,s=>vJ s λv=>v.isNone
 |.ite c a b,N,d,s=>Aa s λA a' q=>bx k c N d A&&dS k a N d a'&&dS k b N d q
 |.Kt t is G src body,N,d,s=>Ab s λC l B=>QP t N d b8 is C&&sZ l&&(match gc d C G l with
    |some as=>aT k src N d as
    |none=>cc)&&dS k body N d B
 |.Og c body,N,d,s=>GJ s λA B=>bx k c N d A&&dS k body N d B
 |.brk,_,_,_=>cc
 |.cnt,_,_,_=>cc
 |.Nr _,_,_,_=>cc
 |.NW f es,N,d,s=>lT s λv=>R4 k f es N d v
 |.Oh i c f es g H x I j m,N,d,s=>zY s λb J=>zZ J λt n L=>GH b λy v=>GH L λz O=>(isNm t x&&isNm O n&&cZ v&&raB k c f es g H N d v)&&(I.all λcl=>c4 ((cl,x)∈k.xe))&&(c4 (k.xe.any λp=>c4 (p.2=x))&&LJ d x&&bc x)&&(c4 (N[i]?=a5 y)&&lN d y&&c4 (N[j]?=a5 n)&&c4 (d.names.lookup n=a5 .local)&&bc n&&c4 (N[m]?=a5 z)&&lN d z)
 |.NV c e,N,d,s=>zX s λr=>Df r c λas=>cN as λa=>c4 (c∈k.xc)&&LJ d c&&bc c&&noStar a&&bx k e N d a
 |.S4,_,_,_=>cc
noncomputable def dS(k:Ck):List S->List Str->M3->List Nd->Bool
 |[],_,_,a=>a.isEmpty
 |s::ss,N,b,a=>match a with
  |s'::a=>Ac k s N b s'&&dS k ss N b a
  |[]=>cc
end
section
variable{ck:Ck}{Γ:Tab}{C:Ct}{d:Nat}{X:Cx}
def lV(h:lN a x=b8):Loc a x:=by
 unfold lN at h;simp only[KR,ż]at h;show h
def e_(h:cZ v=b8):PD v t a env=pure cc:=by
 cases v<;>first|rfl|cases h
def pI(h:cZ v=b8):Si [t] v a env=pure cc:=by
 rw[Si];show e_ h
def Dl(h:eC i=b8):∀a b new,Ű i a b new=(do MT [new,a,b] (Vr a b new);XQ [new,a,b] [];pure .next):=by
 intro a b new;cases i<;>first|rfl|cases h
def vK(h:eC i=b8):∀v,Ug (.Subscript o i p) env v=(do
   let a <-MT [v] (t6 o env)
   let b <-MT [v,a] (t6 i env)
   Zw p
   MT [v,a,b] (Vr a b v)
   XQ [v,a,b] []):=by
 intro v;cases i<;>first|rfl|cases h
structure Gs(ck:Ck)(Γ:Tab)(C:Ct)(d:Nat)(X:Cx):Prop where
 gd:Gd ck Γ C d X
 nd:X.N.Nodup
 fn:∀x,X.fn x=b8
 po:YX (fS X.prog X.w) X.A X.env X.xe
 kd:X.env.scope.kind=.function
 xs:P_ ck X.K X.mg
 xl:∀c H',C.xw (.str c) H'->∀C' T H pins σ s e s',PySem.W.nsIn X.K ko c=a5 (a5 (.ref C'))->Inv X pins σ H s->bQ X.prog X.w X.stack H s e C' T .none H' s'->X.xe (.ref e) s'
 sk:X.stack=X.env::X.outer/\X.env.frame=a5 X.env.locals
 ex:X.ex=[]
def vL(g:Gd ck Γ C d X)(h:(match gc X.env.scope i j b with|some as=>aT ck src X.N X.env.scope as|none=>cc)=b8):PI X i b (Nt C j (bp Γ src)):=by
 split at h
 .rename_i as c;show Ee g c (jA src X _ g h) (λa e=>by
   subst e;cases src with
   |nil=>simp[aT]at h
   |cons f k =>
    cases k with
    |nil =>
     simp only[aT,cb]at h;show⟨f,rfl,bI f X _ g h.1.2⟩
    |cons _ _=>simp[aT]at h) (cO h)
 .cases h
def lW{pos p a:Pos}(hk:X.env.scope.kind=.function):PD (.ListComp elt gens s pos) (a5 (.Name x p)) a.line X.env=pure (R3 X.env.scope x p.line (.ListComp elt gens s pos)):=by
 have b:X.env.blockKind=.function:=by
  unfold Env.blockKind;rw[hk];rfl
 change(pure (X.env.blockKind==.function&&X.env.kindOf x==a5 .local&&p.line==pos.line&&!(s.names.any λ(n,k)=>n==x&&(k==.local||k==.cell))):Sem Bool)=_;rw[b];unfold R3;congr 1
 have:(X.env.kindOf x==a5 NameKind.local)=c4 (X.env.scope.names.lookup x=a5 .local):=by
  unfold Env.kindOf;rw[KX];simp
 rw[this];rfl
def GK{src cond:List E}(G:Gs ck Γ C d X)(m:X.N[i]?=a5 x)(L:lN X.env.scope x=b8)
  (h:bx ck (.comp n t o src cond e) X.N X.env.scope (.ListComp elt [⟨q,a,b,0⟩] scope pos)=b8) (ns:Nat->Bool) (u:∀j,ns j=b8->j≠i) :
  L2.PS X (.Assign [.Name x p] (.ListComp elt [⟨q,a,b,0⟩] scope pos) Na) (K4 C ns (ev Γ (.comp n t o src cond e) >>= λr=>eL i r >>= λ_=>pure .nx)):=by
 have g:=G.gd;have v:=bI (.comp n t o src cond e) X _ g h;cases k:R3 X.env.scope x p.line (.ListComp elt [⟨q,a,b,0⟩] scope pos) with
 |false=>show Ec u G.nd m (lV L) (.inl (G.fn x)) v (by rw[lW G.kd,k])
 |true =>
  have hl:X.env.scope.names.lookup x=a5 .local:=by
   simp only[R3,cb,ż]at k;show k.1.1
  have⟨y,O,Xu,A,VY,p',T,B⟩:=jz h;cases T;clear h v;simp only[cb,ż]at B;obtain⟨⟨⟨⟨⟨⟨⟨Y,h2⟩,h3⟩,h4⟩,h5⟩,h6⟩,c⟩,h8⟩:=B;subst Y;have S:=yJ (X:=X) rfl (nW _ _) h2;show Gk u S g.calm G.nd m hl (vL g h5) (λD s H ex=>vG (fa:=cc) g.calm g.K S.nd (λz=>nomatch z) h3)
   (λD s H ex=>by
    cases b with
    |nil =>
     cases cond with
     |nil=>show λf s σ H Q I ⟨J,l,e2,ok,w⟩=>uO f s σ H Q I (by subst l e2;rw[show bb Γ []=pure b8 from rfl,aq]at w;show w J rfl rfl ok (Nx.refl J))
     |cons _ _=>simp[aT]at c
    |cons c1 cs =>
     cases cs with
     |nil =>
      cases cond with
      |nil=>simp[aT]at c
      |cons l KU =>
       cases KU with
       |nil =>
        simp only[aT,cb]at c;show uP (lS l (Lo X _ scope D s H ex) c1 (g.cx _ _ _ _ _ _) c.1.2)
       |cons _ _=>simp[aT]at c
     |cons _ _=>simp at h6)
   (λD s H ex=>bI e (Lo X _ scope D s H ex) elt (g.cx _ _ _ _ _ _) h8) (by rw[lW G.kd,k]) (tu h4)
def vM(G:Gs ck Γ C d X)(h:R4 ck f es X.N X.env.scope v=b8):PR X C v (bp Γ es >>= λrs=>aF rs >>= λ_=>cI Γ f (rs.map (·.2)))/\cZ v=b8:=by
 have⟨as,p2,g,rfl,z⟩:=gC h;simp only[cb,ż,tA]at z;obtain⟨⟨⟨⟨i,j⟩,k⟩,l⟩,a⟩:=z;have b:=cO a;have⟨u,fa,x,ps,m,n,o,p,q,r⟩:=(G.gd.fns _ i).ex;cases as with
 |nil=>cases l
 |cons s c =>
  have st:=a_ (env:=X.env) (es:=c) (b s (by simp));have sn:=(bw (pos:=g) (env:=X.env) (es:=c) λe t=>b e (by simp[t])).1;show⟨Gu G.gd.P G.gd.w G.gd.K rfl q r m G.gd.room (cP j) n o p (aG k).1 (jA es X.MU _ (Gd.MU G.gd) a) st sn,rfl⟩
def Dm(G:Gs ck Γ C d X)(h:Ac ck (.NW f es) X.N X.env.scope s'=b8):L2.PS X s' (K4 C (QI (.NW f es)) (exec Γ (.NW f es))):=by
 have⟨v,p,rfl,z⟩:=dR h;have⟨a,b⟩:=vM G z;show Ir a (e_ b) G.xl
def Dn(G:Gs ck Γ C d X)(h:Ac ck (.Oh i c f es g l x k j m) X.N X.env.scope s'=b8):L2.PS X s' (K4 C (QI (.Oh i c f es g l x k j m)) (exec Γ (.Oh i c f es g l x k j m))):=by
 have⟨b,hd,p,rfl,s⟩:=tD h;have⟨t0,n,t,H,rfl,u⟩:=tE s;have⟨y,p1,v,p4,rfl,A⟩:=nX u;have⟨z,p6,v2,Xn,rfl,B⟩:=nX A;clear h s u A;simp only[cb,ż]at B;obtain⟨⟨⟨⟨⟨⟨I,J⟩,L⟩,a⟩,b1⟩,⟨⟨t,b3⟩,b4⟩⟩,⟨⟨⟨⟨⟨⟨O,Q⟩,T⟩,Y⟩,D⟩,d7⟩,d8⟩⟩:=B;have⟨p5,rfl⟩:=gB I;have⟨p9,rfl⟩:=gB J;have⟨q0,o,e0⟩:=Pa.mp t;have⟨Dc,r1,r2⟩:=G.xs.xe x ⟨q0,o,Β e0⟩;have q:∃r,PR X C v r/\exec Γ (.Oh i c f es g l x k j m)=r >>= ku k i j m:=by
  match c,a with
  |[],a=>show⟨_,(vM G a).1,rfl⟩
  |[c],a =>
   have⟨c',a',b',p3,rfl,w⟩:=nS a;simp only[cb]at w;show⟨_,Iq (lS c X.MU _ (Gd.MU G.gd) w.1.1) (vM G w.1.2).1 (vM G w.2).1,rfl⟩
  |_::_::_,a=>cases a
 have⟨r,q,e1⟩:=q;rw[e1];show Iu (λn e=>by have e:(c4 (n≠i)&&c4 (n≠m)&&c4 (n≠j))=b8:=e;simpa[and_assoc] using e) G.nd O (lV Q) (G.fn _) T Y d7 (lV d8) (G.fn _) G.gd.K q (e_ L) G.sk G.ex (cP b3) r1 (aG b4).1 (λcl M0 Cc e=>r2 cl (Β (i6.mp b1 cl M0)) Cc e) (aG D).1 (aG D).2
def Dp(G:Gs ck Γ C d X)(h:Ac ck (.NV c e) X.N X.env.scope s'=b8):L2.PS X s' (K4 C (QI (.NV c e)) (exec Γ (.NV c e))):=by
 have⟨r,u,rfl,g⟩:=tw h;have⟨as,v,p2,rfl,i⟩:=gC g;have⟨a,rfl,f⟩:=aO i;simp only[cb,ż]at f;obtain⟨⟨⟨⟨j,k⟩,l⟩,m⟩,n⟩:=f;have⟨o,p,q,t⟩:=G.xs.xc _ j;show Il G.gd.calm (cP k) p (aG l).1 t (bI e X a G.gd n) (a_ (es:=[]) m) λH' w b σ s e s' I F=>G.xl _ H' w o b6 H' b σ s e s' q I F
mutual
theorem J1:∀(s:S) (X:Cx) (s':Nd),Gs ck Γ C d X->Ac ck s X.N X.env.scope s'=b8->L2.PS X s' (K4 C (QI s) (exec Γ s))
 |.set i e,X,s',G,h=>by
  have⟨t,v,p1,rfl,k⟩:=dh h;have⟨x,p,rfl,l⟩:=xS k;clear h k;have h:=l;simp only[cb,ż]at h;obtain⟨⟨⟨⟨⟨r,y⟩,A⟩,q⟩,B⟩,J⟩:=h;have Li:∀j,QI (.set i e) j=b8->j≠i:=λj O=>Β (show c4 (j≠i)=b8 from O);by_cases hc:cZ v=b8
  .show Ec Li G.nd r (lV y) (.inl (G.fn x)) (bI e X v G.gd q) (e_ hc)
  .cases e with
   |comp n t ik src cond e =>
    obtain⟨elt,tg,ac,al,scope,p3,rfl,_⟩:=jz q;show GK G r y q _ Li
   |_=>show absurd J hc
 |.OH is e,X,s',G,h=>by
  have⟨t,v,p1,rfl,k⟩:=dh h;have⟨es,kk,p,rfl,l⟩:=lP k;clear h k;have h:=l;simp only[cb]at h;obtain⟨⟨⟨r,y⟩,A⟩,q⟩:=h;show Gm (λj O=>Β (show c4 (j∉is)=b8 from O)) (bI e X v G.gd q) (vG (fa:=b8) G.gd.calm G.gd.K G.nd (λ_=>G.fn) r) (pI y) ?_ rfl;cases v<;>first|rfl|cases A
 |.put i a b,X,s',G,h=>by
  have⟨t,v,p,rfl,k⟩:=dh h;have⟨o,a',p1,rfl,l⟩:=dg k;have⟨x,px,rfl,Q⟩:=av l;simp only[cb,ż]at Q;obtain⟨⟨⟨⟨⟨⟨r,y⟩,A⟩,q⟩,B⟩,J⟩,h7⟩:=Q;have⟨T,Y⟩:=aG A;show Ij G.gd.P G.gd.w G.gd.K G.gd.u r (cu y) T Y (bI b X _ G.gd h7) (bI a X _ G.gd J) (pI q) rfl (vK B)
 |.app i e,X,s',G,h=>by
  have⟨c,p0,rfl,k⟩:=dR h;have⟨o,m,ab,as,G',rfl,l⟩:=bH k;have⟨x,px,rfl,Q⟩:=av l;have⟨a,rfl,z4⟩:=aO Q;simp only[cb,ż]at z4;obtain⟨⟨⟨⟨⟨⟨rfl,r⟩,y⟩,A⟩,q⟩,B⟩,J⟩:=z4;have⟨T,Y⟩:=aG A;have st:=a_ (env:=X.env) (es:=[]) B;have sa:=(bw (pos:=G') (env:=X.env) (es:=[a]) λe he=>by simp at he;subst he;show B).2;show Ih G.gd.K r (cu y) T Y (bI e X _ G.gd J) ?_ q st;rw[sa];rfl
 |.ext i e,X,s',G,h=>by
  have⟨c,p0,rfl,k⟩:=dR h;have⟨o,m,ab,as,G',rfl,l⟩:=bH k;have⟨x,px,rfl,Q⟩:=av l;have⟨a,rfl,z4⟩:=aO Q;simp only[cb,ż]at z4;obtain⟨⟨⟨⟨⟨⟨rfl,r⟩,y⟩,A⟩,q⟩,B⟩,J⟩:=z4;have⟨T,Y⟩:=aG A;have st:=a_ (env:=X.env) (es:=[]) B;have sa:=(bw (pos:=G') (env:=X.env) (es:=[a]) λe he=>by simp at he;subst he;show B).2;show Ii G.gd.K r (cu y) T Y (bI e X _ G.gd J) ?_ q st;rw[sa];rfl
 |.bad,X,s',G,h=>λag sh σ H D I ⟨_,_,_,_,w⟩=>(bu.mp w).elim
 |.newD i,X,s',G,h=>by
  have⟨t,v,p1,rfl,k⟩:=dh h;have⟨x,p,rfl,l⟩:=av k;clear h k;have h:=l;simp only[cb,ż]at h;have⟨p2,rfl⟩:=nU h.1.1;show Gp (λj O=>Β (show c4 (j≠i)=b8 from O)) G.nd h.1.2 (lV h.2) (.inl (G.fn _)) (e_ rfl)
 |.putD i a b,X,s',G,h=>by
  have⟨t,v,p,rfl,k⟩:=dh h;have⟨o,a',p1,rfl,l⟩:=dg k;have⟨x,px,rfl,Q⟩:=av l;simp only[cb,ż]at Q;obtain⟨⟨⟨⟨⟨⟨r,y⟩,A⟩,q⟩,B⟩,J⟩,h7⟩:=Q;have⟨T,Y⟩:=aG A;show Gq G.gd.u r (cu y) T Y (bI b X _ G.gd h7) (bI a X _ G.gd J) (pI q) rfl (vK B)
 |.Mr i a e,X,s',G,h=>by
  have⟨c,p0,rfl,k⟩:=dR h;have⟨o,m,ab,as,G',rfl,l⟩:=bH k;have⟨o',a',p1,rfl,Q⟩:=dg l;have⟨x,px,rfl,z4⟩:=av Q;have⟨b,rfl,z5⟩:=aO z4;simp only[cb,ż]at z5;obtain⟨⟨⟨⟨⟨⟨⟨⟨⟨rfl,r⟩,y⟩,A⟩,q⟩,B⟩,J⟩,h7⟩,h8⟩,h9⟩:=z5;have ha:=IC (C:=C) (Γ:=Γ) (d:=d) (ck:=ck) G.gd h9 h8;have⟨T,Y⟩:=aG A;have st:=a_ (env:=X.env) (es:=[]) J;have sa:=(bw (pos:=G') (env:=X.env) (es:=[b]) λe he=>by simp at he;subst he;show J).2;show Gr G.gd.K G.gd.u r (cu y) T Y ha (bI a X _ G.gd h7) (q9 q) ?_ B st;rw[sa];rfl
 |.aug sub i a e,X,s',G,h=>by
  have⟨t,op,b,p,rfl,L⟩:=tF h;clear h;have h:=L;have⟨o,a',p1,rfl,k⟩:=dg h;have⟨x,px,rfl,l⟩:=av k;simp only[cb,ż]at l;obtain⟨⟨⟨⟨⟨⟨⟨rfl,r⟩,y⟩,A⟩,q⟩,B⟩,J⟩,h7⟩:=l;have ha:=IC (C:=C) (Γ:=Γ) (d:=d) (ck:=ck) G.gd h7 J;have⟨T,Y⟩:=aG A;show Io r (cu y) T Y ha (bI a X _ G.gd B) (Dl q)
 |.S3 i,X,s',G,h=>absurd (show cc=b8 from h) js
 |.exp e,X,s',G,h=>by
  have⟨e',p,rfl,L⟩:=dR h;clear h;have h:=L;simp only[cb]at h;show Ia (bI e X _ G.gd h.2) (e_ h.1)
 |.ret e,X,s',G,h=>by
  have⟨v,p,rfl,L⟩:=lU h;have⟨e',rfl,k⟩:=xT L;clear h L;have h:=k;show Ib (bI e X _ G.gd h)
 |.Nk,X,s',G,h=>by
  have⟨v,p,rfl,L⟩:=lU h;cases v with
  |none=>show Gj
  |some _=>cases L
 |.ite c a b,X,s',G,h=>by
  have⟨c',a',b',p,rfl,L⟩:=tH h;clear h;have h:=L;simp only[cb]at h;have ha:=lX a X _ G h.1.2;have hb:=lX b X _ G h.2;show Ic (lS c X _ G.gd h.1.1) (Lu.weak ha λD σ H z=>pF (λj O=>(va.mp (show(L7 a j&&L7 b j)=b8 from O)).1) z) (Lu.weak hb λD σ H z=>pF (λj O=>(va.mp (show(L7 a j&&L7 b j)=b8 from O)).2) z)
 |.Kt t is ik src body,X,s',G,h=>by
  have⟨tg,ac,Mu,p,rfl,L⟩:=tI h;clear h;have h:=L;rw[cb,cb,cb]at h;show Ig G.po G.gd.calm (vL G.gd h.1.2) (vG (fa:=b8) G.gd.calm G.gd.K G.nd (λ_=>G.fn) h.1.1.1) (lX body X _ G h.2) (tu h.1.1.2) λj O=>by have O:(c4 (j∉is)&&L7 body j)=b8:=O;simpa using O
 |.Og c body,X,s',G,h=>by
  have⟨c',Mu,p,rfl,L⟩:=xU h;clear h;have h:=L;simp only[cb]at h;show Ie G.po (lS c X _ G.gd h.1) (lX body X _ G h.2)
 |.brk,X,s',G,h=>absurd (show cc=b8 from h) js
 |.cnt,X,s',G,h=>absurd (show cc=b8 from h) js
 |.Nr is,X,s',G,h=>absurd (show cc=b8 from h) js
 |.NW f es,X,s',G,h=>Dm G h
 |.Oh i c f es g LX x cs j m,X,s',G,h=>Dn G h
 |.NV c e,X,s',G,h=>Dp G h
 |.S4,X,s',G,h=>absurd (show cc=b8 from h) js
theorem lX:∀(ss:List S) (X:Cx) (a:List Nd),Gs ck Γ C d X->dS ck ss X.N X.env.scope a=b8->Lu X a (K4 C (L7 ss) (execs Γ ss))
 |[],X,a,G,h=>by
  cases a with
  |nil=>show H_
  |cons _ _=>simp[dS]at h
 |s::ss,X,a,G,h=>by
  cases a with
  |nil=>simp[dS]at h
  |cons s' a =>
   simp only[dS,cb]at h;have c:=J1 s X s' G h.1;have e:=lX ss X a G h.2;show Gi (PS.weak c λD σ H z=>pF (λj b=>by simp only[L7,cb]at b;show b.1) z) (Lu.weak e λD σ H z=>pF (λj b=>by simp only[L7,cb]at b;show b.2) z)
end
end
section
variable{ck:Ck}{Γ:Tab}{d:Nat}{P:t8}{w:vl}{K:PySem.W.Frag}{mg:Str->Option dV}{base:DD}
def jB{n i:Nat}(h:(start us n)[i]?=a5 (a5 (k,u))):us[i]?=a5 u/\k=if Kw u=b8 then .loc else .any:=by
 unfold start at h;by_cases a:i<us.length
 .rw[t5 (by simpa using a),i7]at h;rw[l' a]at h ⊢;simp only[UM,RS,X_]at h;have⟨b,c⟩:=h;subst c;show⟨rfl,b.symm⟩
 .rw[qs (by simp;lia),KQ]at h;split at h<;>cases h
def di{i:Nat}(h:vs[i]?=a5 v):(L2.start N vs)[i]?=a5 (a5 v):=by
 unfold L2.start;have a:i<vs.length:=(dt.mp h).1;rw[t5 (by simpa using a),i7,h];rfl
def Ad(p:∀a,c a->L6 H a)(h:ak ⟨P,w,K,H,c,λ_=>False,q⟩ c H us vs)(s:N.length=n):Ok ⟨P,w,K,H,c,λ_=>False,q⟩ ⟨λ_=>False,H,L2.start N vs,start us n,λ_=>[]⟩:=by
 have f:∀(j:Nat) (u:U),(start us n)[j]?≠a5 (a5 (.J6,u)):=λj u e=>by
  have:=(jB e).2;split at this<;>cases this
 show⟨λa o e _=>e,λa z=>z.elim,λa z=>⟨p a z,λz=>z⟩,λa z=>z.elim,?_,λi k u e=>?_,λi j k k' u u' r hk x g m y A=>?_,⟨λj u r e _=>(f j u e).elim,λi j a ⟨u,_,e,_⟩=>(f i u e).elim,λj a ⟨u,_,e,_⟩=>(f j u e).elim⟩⟩
 .have:=h.len;simp[start,L2.start,s];lia
 .have⟨g,m⟩:=jB e;have⟨v,ev,b⟩:=h.get g;show⟨v,di ev,?_⟩;subst m;by_cases l:Kw u=b8
  .rw[Ž l];show Rep.Kw l b
  .rw[ž l];show Rep.mv (.up λa z=>.inl z) b
 .obtain⟨_,t⟩:=jB g;subst t;split at hk<;>cases hk
def pJ(h:bY Γ fn us=a5 (.ok (k,u))):us.length=fn.np/\((k=.own\/k=.loc\/k=.any)/\(∃st',execs Γ fn.body (start us fn.ns)=a5 (.ok (.rt k u),st'))\/(k=.loc/\u=.Kb/\∃st',execs Γ fn.body (start us fn.ns)=a5 (.ok .nx,st'))):=by
 unfold bY at h;split at h
 .rename_i hl;show⟨hl,?_⟩;split at h
  .rename_i e;cases h;show .inl ⟨.inl rfl,_,e⟩
  .rename_i e;cases h;show .inl ⟨.inr (.inl rfl),_,e⟩
  .rename_i e;cases h;show .inl ⟨.inr (.inr rfl),_,e⟩
  .rename_i e;cases h;show .inr ⟨rfl,rfl,_,e⟩
  .cases h
  .cases h
 .cases h
def rf(h:bY Γ fn us=a5 (.exc c)):us.length=fn.np/\∃st',execs Γ fn.body (start us fn.ns)=a5 (.ok (.rt .io (.str c)),st'):=by
 unfold bY at h;split at h
 .rename_i hl;show⟨hl,?_⟩;split at h
  .cases h
  .cases h
  .cases h
  .cases h
  .rename_i e;cases h;show⟨_,e⟩
  .cases h
 .cases h
def Eh{st:Nd}(F:OY K fn.name i st f fd)(S:eB N ps (aS st))(hN:N.length=fn.ns)(MB:ps.length=fn.np)
  (Qa:dS ck fn.body N (aS st) (cU st)=b8) (t:∀x∈bS,mg x=b6) (y:∀g∈ck.fns,Dg P w K mg base d (Γ g) g)
  (M7:∀p∈ck.gl,∃val v,mg p.1=a5 val/\RelV v val/\∀(C:Ct) S H,Rep C S H p.2 v) (Mh:∀p∈ck.Mh,Dh P w K mg base d (Γ p.1) p.1 p.2) (xs:P_ ck K mg):jm P w K mg base (PN P w) (d+1) f fd ps (spT P w K (bY Γ fn) fn.np):=by
 have⟨oc,od,kV,ac,pm,an,L,ct,Pn,rfl,lk,KI⟩:=F.ex;show D5 lk KI S (λvs H Q E h=>h.1.trans MB.symm) λA outer s H vs Q E O h=>?_;have⟨hl,us,r,q,Y,B,D,b⟩:=h;have QJ:=O.un;let l:Ct:=⟨P,w,K,H,q,λ_=>False,λu H'=>∃c,u=.str c/\∀j,PySem.W.nsIn K ko c=a5 (a5 (.ref j))->E (.ref j) b6 H'⟩
 have J:(OM P w K H q).Eqv l:=⟨rfl,rfl,rfl⟩
 have m:l.Eqv (OM P w K H q):=⟨rfl,rfl,rfl⟩
 have G:Gs ck Γ l d (qi (PN P w) P w K mg base N i (aS st) f L A outer s H E) :=
  ⟨⟨rfl,rfl,rfl,by change(A.deeper (VI i (aS st) s.heap.objs.size f L)).units+60<L8;lia,rfl,O,t,y,λp hp=>let ⟨val,v,J,m,q3⟩:=M7 p hp;⟨val,v,J,m,q3 _⟩,Mh,xs⟩,S.nd,λ_=>rfl,PassesOwn.leaving,S.kind,xs,
   λc H' ⟨c',e1,hE⟩ j T H2 ab σ s2 e s' hm I F=>by
    cases e1;show F.leave I.ok.frames rfl I.stack I.kC λT' ME F'=>⟨e,j,T',H',rfl,F'.down I rfl rfl rfl,hE j hm⟩,⟨rfl,rfl⟩,rfl⟩
 show⟨_,lX fn.body _ _ G Qa,⟨λ_=>False,H,L2.start N vs,start us fn.ns,λ_=>[]⟩,rfl,rfl,Ad B (D.cg J) hN,?_⟩;cases r with
 |exc c =>
  obtain⟨_,st',e⟩:=rf Y;show⟨_,st',e,λcf ec ok n kp=>⟨c,rfl,λj hC=>b j cf.H hC λa o z=>ok.same a o z λz=>z⟩⟩
 |ok x =>
 have⟨k,u⟩:=x;have⟨hk,b⟩:=b;obtain⟨_,VZ⟩:=pJ Y;have mk:∀(c:Cf),Ok l c->∀v,Gh l c k u v->Back (OM P w K H q) H c.H c.S k u v:=λc ok v r=>by
  show⟨λa o e=>ok.same a o e λz=>z,λa z=>ok.L5 a z,λe=>?_,λe=>?_,λe=>?_⟩
  .subst e;have⟨r0,e,h1,h2,h3,h4⟩:=r;show⟨r0,e,h1,h2,h4.cg m⟩
  .subst e;show Rep.cg m r
  .subst e;show Rep.cg m r
 rcases VZ with⟨_,st',e⟩|⟨rfl,rfl,st',e⟩
 .rcases hk with rfl|rfl|rfl<;>show⟨_,st',e,λc ec ok n kp v r=>b v c.H c.S (mk c ok v r)⟩
 .show⟨_,st',e,λc ec ok n kp=>b .Kb c.H c.S (mk c ok .Kb rfl)⟩
def ir(h:(cY is us n)[i]?=a5 (a5 (k,u))):us[i]?=a5 u/\k=if i∈is then .io else if Kw u=b8 then .loc else .any:=by
 unfold cY at h;by_cases a:i<us.length
 .rw[t5 (by simpa using a),i7,Vp]at h;rw[l' a]at h ⊢;simp only[UM,RS,X_,Pf]at h;have⟨b,c⟩:=h;subst c;show⟨rfl,b.symm⟩
 .rw[qs (by simp;lia),KQ]at h;split at h<;>cases h
def xV(a:Gv C C.H₀ is us vs)(s:N.length=n):Ok C ⟨λ_=>False,C.H₀,L2.start N vs,cY is us n,λ_=>[]⟩:=by
 have g:∀(j:Nat) (u:U),(cY is us n)[j]?≠a5 (a5 (.J6,u)):=λj u e=>by
  have:=(ir e).2;split at this
  .cases this
  .split at this<;>cases this
 have rt:∀(j:Nat) (k:Kd) (u:U),k.root=b8->(cY is us n)[j]?=a5 (a5 (k,u))->j∈is/\us[j]?=a5 u:=λj k u hk e=>by
  have⟨f,b⟩:=ir e;show⟨?_,f⟩;by_cases z:j∈is
  .show z
  .rw[ž z]at b;subst b;split at hk<;>cases hk
 show⟨λa o e _=>e,λa z=>z.elim,λx z=>a.par x z,λx z=>⟨a.Xo x z,a.Xo x z⟩,?_,λi k u e=>?_,λi j k k' u u' r hk t f b l m=>?_,⟨λj u r e _=>(g j u e).elim,λi j a ⟨u,_,e,_⟩=>(g i u e).elim,λj a ⟨u,_,e,_⟩=>(g j u e).elim⟩⟩
 .have:=a.len;simp[cY,L2.start,s];lia
 .have⟨f,b⟩:=ir e;by_cases z:i∈is
  .rw[Ž z]at b;subst b;have⟨r,b1,c,b3⟩:=a.io i u z f;show⟨_,di b1,r,rfl,λz=>z,λz=>(a.par r z).2 c,c,b3⟩
  .rw[ž z]at b;have⟨v,b1,c⟩:=a.any i u z f;show⟨v,di b1,?_⟩;subst b;by_cases h:Kw u=b8
   .rw[Ž h];show Rep.Kw h c
   .rw[ž h];show Rep.mv (.up λa z=>.inl z) c
 .have⟨p,y⟩:=rt i k u hk f;have⟨q,A⟩:=rt j k' u' t b;obtain⟨B,b1,_⟩:=a.io i u p y;obtain⟨D,c,_⟩:=a.io j u' q A;rw[di b1]at l;rw[di c]at m;cases l;cases m;show a.inj i j _ p q b1 c
theorem vN:∀{is:List Nat}{st:ay}{ws:List U},PZ is st=a5 ws->ws.length=is.length/\∀(n i:Nat),is[n]?=a5 i->∃w,ws[n]?=a5 w/\st[i]?=a5 (a5 (.io,w))
 |[],_,_,h=>by cases h;show⟨rfl,λn i e=>by simp at e⟩
 |i::is,st,ws,h=>by
  unfold PZ at h;split at h
  .rename_i u c;rw[d5]at h;have⟨k,h,rfl⟩:=h;have⟨a,b⟩:=vN h;show⟨by simp[a],λn j e=>?_⟩;cases n with
   |zero=>simp at e;subst e;show⟨u,rfl,c⟩
   |succ n=>have⟨w,f,g⟩:=b n j (by simpa using e);show⟨w,by simpa using f,g⟩
  .cases h
def vO(h:gK Γ fn is body us=a5 (.ok r)):us.length=fn.np/\∃f st k u ws,execs Γ body (cY is us fn.ns)=a5 (.ok f,st)/\S5 f=a5 (k,u)/\PZ is st=a5 ws/\r=(k,.tup (u::ws)):=by
 unfold gK at h;split at h
 .rename_i hl;show⟨hl,?_⟩;split at h
  .rename_i f st e;obtain⟨⟨k,u⟩,a,h⟩:=oT.mp h;rw[d5]at h;have⟨ws,b,c⟩:=h;cases c;show⟨f,st,k,u,ws,e,a,b,rfl⟩
  .cases h
 .cases h
def GL{st:Nd}(F:OY K fn.name b st f fd)(S:eB N ps (aS st))(hN:N.length=fn.ns)(MB:ps.length=fn.np)(Li:∀i∈is,L7 body i=b8)
  (Qa:dS ck body N (aS st) (cU st)=b8) (y:∀x∈bS,mg x=b6) (B:∀g∈ck.fns,Dg P w K mg base d (Γ g) g)
  (M7:∀p∈ck.gl,∃val v,mg p.1=a5 val/\RelV v val/\∀(C:Ct) S H,Rep C S H p.2 v) (Mh:∀p∈ck.Mh,Dh P w K mg base d (Γ p.1) p.1 p.2) (xs:P_ ck K mg):jm P w K mg base Pt (d+1) f fd ps (Tg P w K (gK Γ fn is body) fn.np is):=by
 show F.ok S (λvs H Q E h=>h.1.trans MB.symm) (λJ A outer s H vs Q E L h=>?_);have⟨hl,us,k,u,ws,m,IO,KO,hk,D,j⟩:=h;have QJ:=L.un;have G:Gs ck Γ (N1 P w K H m IO) d (qi Pt P w K mg base N b (aS st) f J A outer s H E).MU :=
  ⟨⟨rfl,rfl,rfl,by change(A.deeper (VI b (aS st) s.heap.objs.size f J)).units+60<L8;lia,rfl,L,y,B,λp hp=>let ⟨val,v,q1,q2,q3⟩:=M7 p hp;⟨val,v,q1,q2,q3 _⟩,Mh,xs⟩,S.nd,λ_=>rfl,PassesOwn.never,S.kind,xs,λ_ _ z=>z.elim,⟨rfl,rfl⟩,rfl⟩
 show⟨_,lX body _ _ G Qa,⟨λ_=>False,H,L2.start N vs,cY is us fn.ns,λ_=>[]⟩,rfl,rfl,xV (C:=N1 P w K H m IO) D hN,?_⟩;obtain⟨_,O,st',k',u',Oi,e,o,e2,e3⟩:=vO KO;cases e3;have⟨l1,l2⟩:=vN e2;have T:∀(c:Cf),c.st=st'->Ok (N1 P w K H m IO) c->Kept (L7 body) ⟨λ_=>False,H,L2.start N vs,cY is us fn.ns,λ_=>[]⟩ c->∀v,Gh (N1 P w K H m IO) c k u v->Ed (N1 P w K H m IO) H c.H c.S is vs ws k u v:=λc q l t v r=>by
  show⟨l.same,λa z=>l.L5 a z,λe=>?_,λe=>?_,l1,λn i r w Y g2 g3=>?_⟩
  .subst e;have⟨r0,e,h1,h2,h3,h4⟩:=r;show⟨r0,e,h1,h2,h4⟩
  .subst e;show r
  .have⟨w',z1,z2⟩:=l2 n i Y;rw[g3]at z1;cases z1;rw[<-q]at z2;obtain⟨v',I,r',y2,_,_,_,y3⟩:=l.sl i _ _ z2;have hi:i∈is:=mh Y;rw[t.1 i (Li i hi)]at I;rw[show(L2.start N vs)[i]?=a5 (a5 (.ref r)) from di g2]at I;cases I;cases y2;show y3
 show⟨O,st',e,λc q l n t=>?_⟩;cases O with
 |nx=>cases o;show j .Kb c.H c.S (T c q l t .Kb rfl)
 |rt k0 u0=>cases k0<;>first|(cases o;done)|(cases o;show λv r=>j v c.H c.S (T c q l t v r))
 |_=>cases o
abbrev Fn.bd(fn:Fn):List S:=match fn.io with|some (_,b)=>b|none=>fn.body
abbrev Ti(fn:Fn):Bool:=match fn.io with|some (is,b)=>is.all λi=>L7 b i|none=>b8
abbrev Tj(ck:Ck)(Pg:List Fn):Bool:=ck.fns.all (λg=>Pg.any λfn=>c4 (fn.name=g)&&fn.io.isNone)&&ck.Mh.all λp=>Pg.any λfn=>c4 (fn.name=p.1)&&c4 (fn.io.map (·.1)=a5 p.2)
structure Ld(ck:Ck)(K:PySem.W.Frag)(mg:Str->Option dV)(fn:Fn):Prop where
 ex:∃(qual:Str) (st:Nd) (f:ez) (fd:Uh) (N ps:List Str),OY K fn.name qual st f fd/\mg fn.name=a5 (.ref f)/\Binds K fd ps []/\eB N ps (aS st)/\N.length=fn.ns/\ps.length=fn.np/\dS ck fn.bd N (aS st) (cU st)=b8/\Ti fn=b8
def Dq{Pg:List Fn}(a:(Pg.map (·.name)).Nodup)(h:fn∈Pg):Pg.find? (λg=>c4 (g.name=fn.name))=a5 fn:=by
 induction Pg with
 |nil=>cases h
 |cons g Pg b =>
  rw[d3,mN]at a;rcases d6.mp h with rfl|h
  .simp
  .rw[N_];have:c4 (g.name=fn.name)=cc:=by
    apply ſ;intro z;show a.1 (z▸R' h)
   rw[this];show b a.2 h
def tJ(a:(Pg.map (·.name)).Nodup)(h:fn∈Pg):Kl Pg (d+1) fn.name=jw (Kl Pg d) fn:=by
 funext us
 change(match Pg.find? λg=>c4 (g.name=fn.name) with|some fn=>jw (Kl Pg d) fn us|none=>b6)=_;rw[Dq a h]
def nY(h:fn.io=b6):jw Γ fn=bY Γ fn:=by funext us;unfold jw;rw[h]
def xW(h:fn.io=a5 (is,b)):jw Γ fn=gK Γ fn is b:=by funext us;unfold jw;rw[h]
def vP(O:(Pg.map (·.name)).Nodup)(q:Tj ck Pg=b8)(t:∀x∈bS,mg x=b6)(T:∀p∈ck.gl,∃val v,mg p.1=a5 val/\RelV v val/\∀(C:Ct) S H,Rep C S H p.2 v)
  (ld:∀fn∈Pg,Ld ck K mg fn) (xs:P_ ck K mg):∀d,(∀g∈ck.fns,Dg P w K mg base d (Kl Pg d g) g)/\∀p∈ck.Mh,Dh P w K mg base d (Kl Pg d p.1) p.1 p.2:=by
 simp only[Tj,cb,i6,Pa,ż]at q;intro d;induction d with
 |zero =>
  show⟨λg I=>?_,λp J=>?_⟩
  .obtain⟨fn,j,rfl,_⟩:=q.1 g I;obtain⟨a,st,f,l,N,ps,F,m,n,S,B,o,_⟩:=(ld fn j).ex;show⟨fn.np,f,l,ps,⟨λvs H Q E h=>h.1.trans o.symm,λA outer s H args us vs Q E _ _ _ _ h=>by obtain⟨_,us,r,_,e,_⟩:=h;cases e⟩,m,F.kp,n,λus k u e=>(by cases e),λus c e=>by cases e⟩
  .obtain⟨fn,j,e,_⟩:=q.2 p J;obtain⟨a,st,f,l,N,ps,F,m,n,S,B,o,_⟩:=(ld fn j).ex;show⟨fn.np,f,l,ps,⟨λvs H Q E h=>h.1.trans o.symm,λA outer s H args us vs Q E _ _ _ _ h=>by obtain⟨_,us,k,u,_,_,_,e,_⟩:=h;cases e⟩,e▸m,F.kp,n,λus k e=>by cases e⟩
 |succ d G =>
  show⟨λg I=>?_,λp J=>?_⟩
  .have⟨fn,j,rfl,i⟩:=q.1 g I;rw[SV]at i;obtain⟨a,st,f,l,N,ps,F,m,n,S,B,o,D,_⟩:=(ld fn j).ex;rw[tJ O j,nY i];rw[show fn.bd=fn.body by unfold Fn.bd;rw[i]]at D;show⟨fn.np,f,l,ps,Eh F S B o D t G.1 T G.2 xs,m,F.kp,n,λus k u e=>?_,λus c e=>(rf e).1⟩;have⟨h1,h2⟩:=pJ e;show⟨?_,h1⟩;rcases h2 with⟨z,_⟩|⟨z,_⟩
   .show z
   .show .inr (.inl z)
  .have⟨fn,j,e,i⟩:=q.2 p J;rw[d5]at i;obtain⟨⟨is,b⟩,i,Y⟩:=i;have⟨x,y⟩:=p
   dsimp only at e Y
   subst e Y;have⟨a,st,f,l,N,ps,F,m,n,S,B,o,D,L⟩:=(ld fn j).ex;rw[tJ O j,xW i];rw[show fn.bd=b by unfold Fn.bd;rw[i]]at D;unfold Ti at L;rw[i]at L;show⟨fn.np,f,l,ps,GL F S B o (i6.mp L) D t G.1 T G.2 xs,m,F.kp,n,λus r e=>(vO e).1⟩
end
abbrev tK(ns:List Int):U:=.lst (ns.map .int)
theorem nZ{S:ez->Prop}:∀(ns:List Int),ak C S H (ns.map .int) (ns.map V.int)
 |[]=>rfl
 |n::ns=>⟨_,_,rfl,rfl,nZ ns⟩
def tL(h:Kz C.K H a (ns.map V.int)):Rep C (L6 H) H (tK ns) (.ref a):=by
 show⟨a,_,rfl,?_,nZ ns⟩;rcases h with(h|⟨o,h⟩)|h
 .show .inl ⟨⟨_,h⟩,.inl h⟩
 .show .inl ⟨⟨_,h⟩,.inr ⟨o,h⟩⟩
 .show .inr h
theorem rg:∀{l:List α},(∀a∈l,f a=g a)->l.filterMap f=l.filterMap g
 |[],_=>rfl
 |a::l,h=>by rw[C1,C1,h a (by simp),rg λb c=>h b (by simp[c])]
theorem vQ:∀(l:List Str) (us:List dV),l.Nodup->us.length=l.length->l.filterMap (λn=>((l.zip us).lookup n).map (n,·))=l.zip us
 |[],_,_,_=>rfl
 |a::l,[],_,h=>nomatch h
 |a::l,u::us,b,h=>by
  rw[mN]at b;have c:=vQ l us b.2 (by simpa using h);simp only[PQ,C1,sx,beq_self_eq_true,UM];congr 1
  conv=>rhs;rw[<-c]
  show rg λn d=>?_;have:(n==a)=cc:=by
   rw[Ε];rintro rfl;show b.1 d
  rw[this]
def Ae(l:List Str)(us:List dV)(h:us.length=l.length):l.filter (λn=>((l.zip us).lookup n).isNone)=[]:=by
 rw[QS];intro n hn;induction l generalizing us with
 |nil=>cases hn
 |cons a l b =>
  cases us with
  |nil=>cases h
  |cons u us =>
   simp only[PQ,sx];cases e:n==a with
   |true=>simp
   |false =>
    rcases d6.mp hn with rfl|hn
    .simp at e
    .show b us (by simpa using h) hn
def Af{kV a b c ct:dV}(d:(as.map (·.arg)).Nodup)(hl:us.length=(as.map (·.arg)).length):
  ů (PySem.W.fnOf x q ⟨[],as,b6,[],[],b6,[]⟩ body scope .none kV a b m c ct) ⟨us,[]⟩=pure ((as.map (·.arg)).zip us):=by
 have e:=vQ _ us d hl;have f:=Ae _ us hl;change(if _ then _ else _)=_;rw[ž (by simp[hl])];have g:∀k:Nat,¬(!(((as.map (·.arg)).take k).filter λn=>(((as.map (·.arg)).zip us).lookup n).isNone).isEmpty)=b8:=λk=>by
  rw[QS.mpr λn h=>QS.mp f n (List.mem_of_mem_take h)];show js
 show(ž (g _)).trans ?_;have hz:∀(l:List Str) (i j:Nat),(l.drop i).zip ((b6.getD #[]:Array dV).toList.drop j)=[]:=λl i j=>by rw[show(b6.getD #[]:Array dV).toList=[] from rfl,List.drop_nil,List.zip_nil_right]
 show Eq.trans (Δ (λz=>Bind.bind (Ŏ z _ _) _) (hz _ _ _)) ?_;show Δ (pure:List (Str×dV)->Sem (List (Str×dV))) ((Δ (List.filterMap _) (ro _)).trans e)
structure Me where
 fn:Fn
 i:Nat
 N:List Str
 a:ez
 c:ez
 m:dV
 cr:Obj
abbrev Me.fd(top:Nat->Nd)(m:Me):Uh:=PySem.W.fnOf m.fn.name m.fn.name (gr (top m.i)) (cU (top m.i)) (aS (top m.i)) .none .none .none m.m b6 (.ref m.c) .none
abbrev Me.fo(top:Nat->Nd)(m:Me):Obj:=⟨.type "function",b6,.func (m.fd top),#[]⟩
@[reducible]def Gx:=Obj×List (ez×Obj)
abbrev adr(ms:List Me)(xa:List ez):List ez:=3::(ms.flatMap (λm=>[m.c,m.a])++xa)
abbrev Mi(top:Nat->Nd)(g:Gx)(ms:List Me):PySem.W.Frag:=(3,g.1)::(ms.flatMap (λm=>[(m.c,m.cr),(m.a,m.fo top)])++g.2)
def vR(top:Nat->Nd)(g:Gx)(ms:List Me)(xa:List ez)(h:g.2.map (·.1)=xa):adr ms xa=(Mi top g ms).map (·.1):=by
 unfold adr Mi;rw[d3,ki,List.map_flatMap,h];rfl
abbrev GN(v:Option (Option dV))(a:ez):Bool:=match v with|some (a5 (.ref b))=>c4 (b=a)|_=>cc
def Dr(h:GN v a=b8):v=a5 (a5 (.ref a)):=by
 unfold GN at h;split at h
 .rw[Β h]
 .cases h
abbrev nn(o:Option (Option dV)):Bool:=match o with|some b6=>b8|_=>cc
def IE(h:nn o=b8):o=a5 b6:=by
 unfold nn at h;split at h
 .rfl
 .cases h
abbrev IF(p:Arguments)(ps:List Str):Bool:=p.posonlyargs.isEmpty&&p.vararg.isNone&&p.kwonlyargs.isEmpty&&p.kw_defaults.isEmpty&&p.kwarg.isNone&&p.defaults.isEmpty&&c4 (p.args.map (·.arg)=ps)
abbrev Xv(N:List Str)(b:Nat)(a:M3):Bool:=c4 (a.kind=.function)&&c4 (a.isCoroutine=cc)&&c4 (a.isGenerator=cc)&&decide N.Nodup&&(N.take b).all (lN a)&&a.names.all (λy=>c4 (y.2≠.free))
abbrev Xw(ck:Ck)(top:Nat->Nd)(K:PySem.W.Frag)(m:Me):Bool:=PySem.W.codeIn K (.ref m.c) m.fn.name&&PySem.W.keepIn K (.ref m.a)&&GN (PySem.W.nsIn K ko m.fn.name) m.a&&IF (gr (top m.i)) (m.N.take m.fn.np) &&
 Xv m.N m.fn.np (aS (top m.i))&&c4 (m.N.length=m.fn.ns)&&c4 (m.fn.np<=m.fn.ns)&&(dS ck m.fn.bd m.N (aS (top m.i)) (cU (top m.i))&&Ti m.fn)
abbrev Xx(K:PySem.W.Frag)(p:Str×U):Bool:=match p.2,PySem.W.nsIn K ko p.1 with
 |.int i,a5 (a5 (.int j _))=>c4 (i=j)
 |.str i,a5 (a5 (.str j _))=>c4 (i=j)
 |_,_=>cc
abbrev O_(ck:Ck)(top:Nat->Nd)(K:PySem.W.Frag)(ms:List Me):Bool:=ms.all (Xw ck top K)&&bS.all (λy=>nn (PySem.W.nsIn K ko y))&&ck.gl.all (Xx K)&&c4 (K.map (·.1)).Nodup
def IG{K:PySem.W.Frag}(b:(K.map (·.1)).Nodup)(h:(a,o)∈K):K.lookup a=a5 o:=by
 induction K with
 |nil=>cases h
 |cons p K c =>
  rw[d3,mN]at b;rw[sx];rcases d6.mp h with rfl|h
  .simp
  .have:(a==p.1)=cc:=by
    rw[Ε];rintro rfl;show b.1 (lz.mpr ⟨_,h,rfl⟩)
   rw[this];show c b.2 h
section
def Ei(c:O_ ck top (Mi top g ms) ms=b8)(h:m∈ms):OY (Mi top g ms) m.fn.name m.fn.name (top m.i) m.a (m.fd top)/\PySem.W.nsIn (Mi top g ms) ko m.fn.name=a5 (a5 (.ref m.a)) /\
  (∀us:List dV,us.length=(m.N.take m.fn.np).length->ů (m.fd top) ⟨us,[]⟩=pure ((m.N.take m.fn.np).zip us))/\eB m.N (m.N.take m.fn.np) (aS (top m.i))/\m.N.length=m.fn.ns/\(m.N.take m.fn.np).length=m.fn.np/\(dS ck m.fn.bd m.N (aS (top m.i)) (cU (top m.i))=b8/\Ti m.fn=b8):=by
 simp only[O_,cb,ż]at c;have z:=i6.mp c.1.1.1 m h;simp only[Xw,cb,ż]at z;obtain⟨⟨⟨⟨⟨⟨⟨k,l⟩,n⟩,b⟩,f⟩,o⟩,u⟩,p⟩:=z;simp only[Xv,cb,ż]at f;obtain⟨⟨⟨⟨⟨s1,s2⟩,s3⟩,s4⟩,q⟩,r⟩:=f;have d:(Mi top g ms).lookup m.a=a5 (m.fo top):=IG c.2 (d6.mpr (.inr (RK _ (List.mem_flatMap.mpr ⟨m,h,by simp⟩))));have hl:(m.N.take m.fn.np).length=m.fn.np:=by rw[tv];lia
 show⟨Fc d k l,Dr n,λus j=>?_,⟨s1,s2,s3,s4,by rw[hl],λx s=>?_,λy t=>?_⟩,o,hl,p⟩
 .unfold Me.fd;revert b;cases gr (top m.i) with
  |mk v as w A B kw C =>
   intro b;simp only[IF,cb,wk,SV,ż]at b;obtain⟨⟨⟨⟨⟨⟨rfl,rfl⟩,rfl⟩,rfl⟩,rfl⟩,rfl⟩,e⟩:=b;rw[<-e]at j ⊢;show Af (by rw[e];show(þ _ _).nodup s4) j
 .have:=i6.mp q x s;simpa[lN] using this
 .have:=i6.mp r y t;simpa using this
def IH(i:O_ ck top (Mi top g ms) ms=b8)(X:(Mi top g ms).In h)(G:h.Ns ko mg)(j:m∈ms):Ld ck (Mi top g ms) mg m.fn :=
 let ⟨a,b,c,d,e,f,k⟩:=Ei i j
 ⟨_,_,_,_,_,_,a,PySem.W.mg_of X G b,.all c,d,e,f,k⟩
def GO(c:O_ ck top (Mi top g ms) ms=b8)(X:(Mi top g ms).In h)(G:h.Ns ko mg):∀p∈ck.gl,∃val v,mg p.1=a5 val/\RelV v val/\∀(C:Ct) S H,Rep C S H p.2 v:=by
 intro p d;simp only[O_,cb,ż]at c;have z:=i6.mp c.1.2 p d;unfold Xx at z;split at z
 .rename_i i j k a b;obtain rfl:=Β z;show⟨_,.int i,PySem.W.mg_of X G b,⟨_,rfl⟩,λ_ _ _=>by rw[a];rfl⟩
 .rename_i i j k a b;obtain rfl:=Β z;show⟨_,.str i,PySem.W.mg_of X G b,⟨_,rfl⟩,λ_ _ _=>by rw[a];rfl⟩
 .cases z
end
abbrev Ag(K:PySem.W.Frag)(x:Str):Option ez:=match PySem.W.nsIn K ko x with|some (a5 (.ref C))=>a5 C|_=>b6
abbrev Xy(K:PySem.W.Frag)(D:Str):Option dV:=match PySem.W.nsIn K ko D with|some (a5 (.ref C))=>a5 (.ref C)|some b6=>if D="ValueError" then a5 (.type "ValueError") else b6|_=>b6
abbrev gY(ck:Ck)(K:PySem.W.Frag):Bool:=ck.xi.all (λp=>match Ag K p.1,Xy K p.2.1 with|some C,a5 dv=>fX K C&&(PySem.W.kitOne K (.ref C) dv==a5 p.2.2)|_,_=>cc)&&ck.xe.all λp=>match Ag K p.1,Ag K p.2 with|some C,a5 D=>PySem.W.exmOne K (.ref C) (.ref D)==a5 b8|_,_=>cc
def jC{K:PySem.W.Frag}(h:Ag K x=a5 C):PySem.W.nsIn K ko x=a5 (a5 (.ref C)):=by
 unfold Ag at h;split at h
 .rename_i e;cases h;show e
 .cases h
def II{K:PySem.W.Frag}(z:gY ck K=b8)(X:K.In h)(G:h.Ns ko mg)(D:Str)(g:∃p∈ck.xi,p.2.1=D):∃dv,((∃d,dv=.ref d/\mg D=a5 (.ref d))\/(D="ValueError"/\dv=.type "ValueError"/\mg D=b6))/\∀p∈ck.xi,p.2.1=D->∀C,PySem.W.nsIn K ko p.1=a5 (a5 (.ref C))->fX K C=b8/\PySem.W.kitOne K (.ref C) dv=a5 p.2.2:=by
 rw[gY,cb,i6]at z;have⟨i,j,rfl⟩:=g;have f:=z.1 i j;split at f
 .rename_i o dv q a;show⟨dv,?_,λp k e C l=>?_⟩
  .unfold Xy at a;split at a
   .rename_i e;cases a;show .inl ⟨_,rfl,PySem.W.mg_of X G e⟩
   .rename_i e;split at a
    .rename_i c;cases a;show .inr ⟨c,rfl,PySem.W.mg_none_of X G e⟩
    .cases a
   .cases a
  .have b:=z.1 p k;rw[e,a]at b;split at b
   .rename_i r m c n;cases n;have:=jC c;rw[l]at this;cases this;rw[cb,beq_iff_eq]at b;show b
   .cases b
 .cases f
def IJ{K:PySem.W.Frag}(z:gY ck K=b8)(X:K.In h)(G:h.Ns ko mg)(x:Str)(d:∃p∈ck.xe,p.2=x):∃D,mg x=a5 (.ref D)/\∀cl,(cl,x)∈ck.xe->∀C,PySem.W.nsIn K ko cl=a5 (a5 (.ref C))->PySem.W.exmOne K (.ref C) (.ref D)=a5 b8:=by
 rw[gY,cb,i6,i6]at z;have⟨e,f,rfl⟩:=d;have b:=z.2 e f;split at b
 .rename_i l D m c;show⟨D,PySem.W.mg_of X G (jC c),λcl g C i=>?_⟩;have a:=z.2 _ g
  dsimp only at a
  rw[c]at a;split at a
  .rename_i n o j k;cases k;have:=jC j;rw[i]at this;cases this;show beq_iff_eq.mp a
  .cases a
 .cases b
abbrev gX(ck:Ck)(K:PySem.W.Frag):Bool:=ck.xc.all (λx=>match PySem.W.nsIn K ko x with|some (a5 (.ref C))=>PySem.W.excIn K C QB "ValueError.__new__"|_=>cc)&&ck.xd.all λp=>match PySem.W.nsIn K ko p.1,PySem.W.nsIn K ko p.2 with
 |some (a5 (.ref C)),a5 (a5 (.ref D))=>(PySem.W.exmOne K (.ref C) (.ref C)==a5 b8)&&(PySem.W.kitCls K (.ref C) (.ref D)==a5 b8&&C != D)
 |_,_=>cc
def GP{K:PySem.W.Frag}(z:(gX ck K&&gY ck K)=b8)(X:K.In h)(G:h.Ns ko mg):P_ ck K mg:=by
 rw[cb]at z;have⟨z,a⟩:=z;rw[gX,cb,i6,i6]at z;show⟨λx c=>?_,λp d=>?_,II a X G,IJ a X G⟩
 .have:=z.1 x c;split at this
  .rename_i e;show⟨_,PySem.W.mg_of X G e,e,this⟩
  .cases this
 .have:=z.2 p d;split at this
  .rename_i b f;rw[cb,beq_iff_eq]at this;show⟨_,_,PySem.W.mg_of X G b,b,PySem.W.mg_of X G f,this.1,this.2⟩
  .cases this
def walk{l:PySem.W.OpenLaw}{K:Wz->PySem.W.Frag}
  (B:l.most=a5 63) (D:d.params.defaults=[]) (I:fJ (dp+1) Vy) (J:∀(w:vl) (h:DD),L w h->(K w.params).In h)
  (j:(Pg.map (·.name)).Nodup) (A:Tj ck Pg=b8) (O:fn.io=b6) (Q:fn∈Pg) (N3:fn.name=d.name)
  (F:∀(w:vl) (mg:Str->Option dV) (fa:ez) (h:DD),(K w.params).In h->h.Ns ko mg->mg d.name=a5 (.ref fa) ->
   (∀y∈bS,mg y=b6)/\(∀p∈ck.gl,∃val v,mg p.1=a5 val/\RelV v val/\∀(C:Ct) S H,Rep C S H p.2 v)/\(∀g∈Pg,Ld ck (K w.params) mg g)/\P_ ck (K w.params) mg /\
   ∃(c:Str) (st:Nd) (i:Uh) (N:List Str),OY (K w.params) fn.name c st fa i/\eB N [x] (aS st)/\N.length=fn.ns/\1=fn.np/\dS ck fn.body N (aS st) (cU st)=b8/\∀(s:eH) (u:dV),ô s i ⟨[u],[]⟩ [(x,u)])
  (T:∀ns:List Int,ns.length<=63->Kl Pg (dp+1) fn.name [tK ns]=a5 (.ok (.loc,.bl b8))) :
  PySem.W.WalkO q m XP L l.row.toRowW d [] (λf vs=>PySem.call f vs) :=
 L2.B0 (n:=63) (k:=dp+1) (x:=x) (CX:=λw=>PN l.prog w) (sp:=λw=>spT l.prog w (K w.params) (bY (Kl Pg dp) fn) fn.np) B (by decide) D I J
  (λw mg fa h Y G Q5=>by
   have⟨e,o,ld,xs,c,st,i,N,F1,S,hN,MB,hc,hb⟩:=F w mg fa h Y G Q5;show⟨i,hb,λbase _ _=>Eh F1 S hN MB hc e (vP j A e o ld xs dp).1 o (vP j A e o ld xs dp).2 xs⟩)
  (λw H a ns hl _ hS=>by
   have t:=T ns hl;rw[tJ j Q,nY O]at t;have r:fn.np=1:=(pJ t).1.symm;show⟨r.symm,[tK ns],.ok (.loc,.bl b8),L6 H,t,λ_ z=>z,⟨_,_,rfl,tL hS,rfl⟩,.inr (.inl rfl),λv H' S' b=>b.loc rfl⟩)
  λ_ _ _ _ _ ⟨_,_,_,_,_,_,z⟩=>z
def walk2{l:PySem.W.OpenLaw}{g:Wz->Gx}
  (A:l.most=a5 63) (B:d.params.defaults=[]) (C:fJ (dp+1) Vy) (p:ms.map (·.fn)=Pg) (D:(Pg.map (·.name)).Nodup) (H:Tj ck Pg=b8) (r:m.fn.io=b6) (t:m∈ms) (v:m.fn.name=d.name) (I:m.N.take m.fn.np=[x])
  (ok:∀P,O_ ck top (Mi top (g P) ms) ms=b8) (J:∀P,(gX ck (Mi top (g P) ms)&&gY ck (Mi top (g P) ms))=b8) (j:∀P,(g P).2.map (·.1)=xa) (T:∀ns:List Int,ns.length<=63->Kl Pg (dp+1) m.fn.name [tK ns]=a5 (.ok (.loc,.bl b8))) :
  PySem.W.WalkO q o O (PySem.W.kHook (λP=>Mi top (g P) ms) (adr ms xa) λP=>vR top (g P) ms xa (j P)).says l.row.toRowW d [] (λf vs=>PySem.call f vs) :=
 walk A B C (λw h Y=>PySem.W.kIn_of Y) D H r (p▸lz.mpr ⟨m,t,rfl⟩) v (λw mg fa h X G z=>by
  have hk:=ok w.params;have⟨a,b,c,e,f,k,n⟩:=Ei hk t;rw[<-v,PySem.W.mg_of X G b]at z;cases z;rw[I]at c e k;show⟨λy i=>PySem.W.mg_none_of X G (IE ?_),GO hk X G,λy i=>?_,GP (J w.params) X G,_,_,_,_,a,e,f,k,by have:=n.1;rw[show m.fn.bd=m.fn.body by unfold Fn.bd;rw[r]]at this;show this,λs u=>.of_eq (c [u] rfl)⟩
  .simp only[O_,cb]at hk;show i6.mp hk.1.1.2 y i
  .rw[<-p]at i;have⟨Q,L,rfl⟩:=lz.mp i;show IH hk X G L) T
abbrev co(n:Str)(k l c:Nat)(r s:ez)(x y z:dV)(a b t:Nat):Obj:=⟨.type "code",b6,.fields #[.str n k,.str n (k+1),.str "/claim/cut.py" (k+2),.int l 0,.int c 0,.int 0 0,.int 0 0,.int 3 0,.ref r,.bool b8,.int t 0,.ref s,.none,x,y,z,.int a 0,.int l 0,.str "/claim/cut.py" b],#[]⟩
abbrev ge(P:Wz)(x:Str)(k:Nat)(v:dV):DictEntry:=⟨Qb P x,.str x k,v⟩
end TM
namespace TM
open PySem L2
section
abbrev Run(m:M α)(st:ay)(a:α)(st':ay):Prop:=m st=a5 (.ok a,st')
def ae(c:Run m st a st1)(d:Run (f a) st1 b st2):Run (m >>= f) st b st2:=by
 change M.bind m f st=_;unfold M.bind;rw[show m st=_ from c];show d
def aP:Run (pure a:M α) st a st:=rfl
def cC(h:o=a5 a):Run (M.Kp o) st a st:=by subst h;rfl
def aZ(h:bo rs st):Run (aF rs) st () st:=by change aF rs st=_;unfold aF;rw[Ž h]
abbrev kv(i:Nat)(k:Kd):Kd:=if k.root=b8 then .bor i else k
def dU(h:st[i]?=a5 (a5 (k,u)))(hk:k≠.J6:=by intro z;cases z):Run (dn i) st (kv i k,u) st:=by
 change dn i st=_;unfold dn;rw[h];cases k<;>first|rfl|show absurd rfl hk
def af(h:st[i]?=a5 (a5 (.loc,u))):Run (ev Γ (.var i)) st (.loc,u) st:=dU h
def bh(h:st[i]?=a5 (a5 (.any,u))):Run (ev Γ (.var i)) st (.any,u) st:=dU h
def aE(h:st[i]?=a5 (a5 (.own,u))):Run (ev Γ (.var i)) st (.bor i,u) st:=dU h
def ah:Run (ev Γ (.cst u)) st (.loc,u) st:=rfl
def Ej:Run (ev Γ (.QE x u)) st (.loc,u) st:=rfl
def bj(c:Run (ev Γ a) st x st1)(d:Run (ev Γ b) st1 y st2)(e:bo [x,y] st2)(f:MP g x y=a5 r):Run (ev Γ (.bin g a b)) st r st2 :=
 ae c (ae d (ae (aZ e) (cC f)))
def i_(d:Run (ev Γ a) st x st1)(e:Run (ev Γ b) st1 y st2)(f:bo [x,y] st2)(g:cB h x.2 y.2=a5 c):Run (ev Γ (.cmp h a b)) st (.loc,.bl c) st2 :=
 ae d (ae e (ae (aZ f) (ae (cC g) aP)))
def aQ(c:Run (ev Γ a) st x st1)(d:Run (ev Γ b) st1 y st2)(e:bo [x,y] st2)(f:gI x y.2=a5 r):Run (ev Γ (.idx a b)) st r st2 :=
 ae c (ae d (ae (aZ e) (cC f)))
def n9:Run (PY Γ []) st b6 st:=rfl
def jY(h:Run (ev Γ e) st (k,.int i) st1):Run (PY Γ [e]) st (a5 i) st1:=ae h rfl
def lY(c:Run (ev Γ a) st x st1)(d:Run (PY Γ lo) st1 l st2)(e:Run (PY Γ f) st2 h b)(g:bo [x] b)(i:lC x l h=a5 r):Run (ev Γ (.NU a lo f)) st r b :=
 ae c (ae d (ae e (ae (aZ g) (cC i))))
def aj:Run (bp Γ []) st [] st:=rfl
def aa(a:Run (ev Γ e) st r st1)(b:Run (bp Γ es) st1 rs st2):Run (bp Γ (e::es)) st (r::rs) st2:=ae a (ae b aP)
def c6(a:Run (bp Γ es) st rs st1)(b:bo rs st1)(c:Md f rs=a5 r):Run (ev Γ (.bi f es)) st r st1:=ae a (ae (aZ b) (cC c))
def Ah(a:Run (bp Γ es) st rs st1)(b:bo rs st1)(c:qN f rs=a5 r):Run (ev Γ (.OF f es)) st r st1:=ae a (ae (aZ b) (cC c))
def Ai(b:Run (ev Γ a) st x st1)(c:Run (bp Γ es) st1 rs st2)(d:bo (x::rs) st2)(e:mT m x.2 rs=a5 r):Run (ev Γ (.O8 m a es)) st r st2:=ae b (ae c (ae (aZ d) (cC e)))
def Ds(h:Γ f us=a5 (.ok r))(a:isAny r.1=cc):Run (lE Γ f us) st r st:=by
 have⟨k,u⟩:=r;change lE Γ f us st=_;unfold lE;rw[h];cases k<;>first|rfl|cases a
def bG(a:Run (bp Γ es) st rs st1)(b:bo rs st1)(c:Γ f (rs.map (·.2))=a5 (.ok r))(d:isAny r.1=cc:=by show rfl):Run (ev Γ (.call f es)) st r st1:=ae a (ae (aZ b) (Ds c d))
def cQ(a:Run (bp Γ es) st rs st1)(b:bo rs st1)(c:Run (cX rs) st1 us st2)(d:us.length<=cK):Run (ev Γ (.tup es)) st (.loc,.tup us) st2:=by
 show ae a (ae (aZ b) (ae c ?_));rw[Ž d];show aP
def bO(a:Run (bp Γ es) st rs st1)(b:bo rs st1)(c:Run (cX rs) st1 us st2)(d:us.length<=cK):Run (ev Γ (.lst es)) st (.own,.lst us) st2:=by
 show ae a (ae (aZ b) (ae c ?_));rw[Ž d];show aP
def lZ:Run (ev Γ (.L0 r)) st (.own,.J8 [] []) st:=rfl
def Aj:Run (lift (.own,u)) st u st:=rfl
def aA:Run (lift (.loc,u)) st u st:=rfl
def rh(h:Kw u=b8):Run (lift (.any,u)) st u st:=by
 change(if Kw u=b8 then(pure u:M U) else M.fail) st=_;rw[Ž h];rfl
def aC:Run (cX []) st [] st:=rfl
def ao(a:Run (lift r) st u st1)(b:Run (cX rs) st1 us st2):Run (cX (r::rs)) st (u::us) st2:=ae a (ae b aP)
def tM(d:Run (Kr Γ c) st b8 st1)(e:Run (ev Γ a) st1 r st2):Run (ev Γ (.ite c a b)) st r st2:=ae d e
def tN(d:Run (Kr Γ c) st cc st1)(e:Run (ev Γ b) st1 r st2):Run (ev Γ (.ite c a b)) st r st2:=ae d e
def GQ(h:Run (ev Γ e) st r st1):Run (iT Γ [e]) st r st1:=h
def GR(h:Run (ev Γ e) st (k,.bl p) st1)(a:if p=b8 then Run (iT Γ (b::es)) st1 r st2 else st2=st1/\r=(.loc,.bl cc)):Run (iT Γ (e::b::es)) st r st2:=by
 show ae h ?_;cases p with
 |true=>show a
 |false=>have⟨rfl,rfl⟩:=a;show aP
def IK(h:Run (iT Γ es) st r st1):Run (ev Γ (.and es)) st r st1:=h
def aK(d:Run (ev Γ a) st x st1)(e:Run (ev Γ b) st1 y st2)(f:bo [x,y] st2)(g:cB h x.2 y.2=a5 c):Run (Kr Γ (.cmp h a b)) st c st2:=ae d (ae e (ae (aZ f) (cC g)))
def IL(h:Run (Kr Γ a) st c st1):Run (Kr Γ (.not a)) st (!c) st1:=ae h aP
def jZ(h:Run (bb Γ es) st c st1):Run (Kr Γ (.and es)) st c st1:=h
def GS(h:Run (f9 Γ es) st c st1):Run (Kr Γ (.or es)) st c st1:=h
def ja:Run (bb Γ []) st b8 st:=rfl
def fu(h:Run (Kr Γ e) st c st1):Run (bb Γ [e]) st c st1:=h
def l8(h:Run (Kr Γ e) st b8 st1)(a:Run (bb Γ (b::es)) st1 c st2):Run (bb Γ (e::b::es)) st c st2:=ae h a
def tP(h:Run (Kr Γ e) st cc st1):Run (bb Γ (e::a::es)) st cc st1:=ae h aP
def Ak(h:Run (Kr Γ e) st c st1):Run (f9 Γ [e]) st c st1:=h
def IM(h:Run (Kr Γ e) st b8 st1):Run (f9 Γ (e::a::es)) st b8 st1:=ae h aP
def Ek(h:Run (Kr Γ e) st cc st1)(a:Run (f9 Γ (b::es)) st1 c st2):Run (f9 Γ (e::b::es)) st c st2:=ae h a
def ba:Run (eL i (.own,u)) st () (st.set i (a5 (.own,u))):=rfl
def aD:Run (eL i (.loc,u)) st () (st.set i (a5 (.loc,u))):=rfl
def j3:Run (eL i (.any,u)) st () (st.set i (a5 (.any,u))):=rfl
def IQ(a:Run (ev Γ e) st r st1)(b:Run (eL i r) st1 () st2):Run (exec Γ (.set i e)) st .nx st2:=ae a (ae b aP)
def IS(b:∃k' c,st[i]?=a5 (a5 (k',.lst c))/\k'≠.J6)(d:Run (ev Γ e) st r st1)(f:Run (lift r) st1 u st2)(g:st2[i]?=a5 (a5 (k,.lst us)))(hk:k.root=b8)(hl:us.length<cK):
  Run (exec Γ (.app i e)) st .nx (st2.set i (a5 (k,.lst (us++[u])))):=by
 have⟨k',c,b,h⟩:=b;show ae (dU b h) (ae (a:=()) (st1:=st) rfl (ae d (ae f (ae (a:=()) ?_ aP))));change modS i (zo u) st2=_;unfold modS;rw[g];simp only[hk,if_true];have e:zo u (.lst us)=a5 (.lst (us++[u])):=by change(if us.length<cK then _ else _)=_;rw[Ž hl]
 rw[e]
def IT(a:Run (ev Γ e) st r st1)(b:Run (retS r) st1 f st2):Run (exec Γ (.ret e)) st f st2:=ae a b
def gZ:Run (retS (.own,u)) st (.rt .own u) st:=rfl
def fb:Run (retS (.loc,u)) st (.rt .loc u) st:=rfl
def j4(h:st[j]?=a5 (a5 (.own,u))):Run (retS (.bor j,a)) st (.rt .own u) (st.set j b6):=by
 change(match st[j]? with|some (a5 (.own,u))=>a5 (Ex.ok (Fl.rt .own u),st.set j b6)|_=>b6)=_;rw[h]
def gf(d:Run (Kr Γ c) st b8 st1)(e:Run (execs Γ a) st1 f st2):Run (exec Γ (.ite c a b)) st f st2:=ae d e
def tQ(d:Run (Kr Γ c) st cc st1)(e:Run (execs Γ b) st1 f st2):Run (exec Γ (.ite c a b)) st f st2:=ae d e
def aB:Run (execs Γ []) st .nx st:=rfl
def gh(a:Run (exec Γ s) st .nx st1)(b:Run (execs Γ ss) st1 f st2):Run (execs Γ (s::ss)) st f st2:=ae a b
def mU(a:Run (exec Γ s) st (.rt k u) st1):Run (execs Γ (s::ss)) st (.rt k u) st1:=ae a aP
def aw(a:Run (ev Γ e) st r st1)(b:Run (eL i r) st1 () st2)(c:Run (execs Γ ss) st2 f d):Run (execs Γ (.set i e::ss)) st f d:=gh (IQ a b) c
def dX(a:st[i]?=a5 (a5 (k',.lst l)))(b:Run (ev Γ e) st r st1)(c:Run (lift r) st1 u st2)(d:st2[i]?=a5 (a5 (k,.lst us)))(hk:k.root=b8)(hl:us.length<cK)
  (g:Run (execs Γ ss) (st2.set i (a5 (k,.lst (us++[u])))) f h) (j:k'≠.J6:=by intro z;cases z):Run (execs Γ (.app i e::ss)) st f h:=gh (IS ⟨_,_,a,j⟩ b c d hk hl) g
def bL(a:Run (ev Γ e) st r st1)(b:Run (retS r) st1 (.rt k u) st2):Run (execs Γ (.ret e::ss)) st (.rt k u) st2:=mU (IT a b)
def cH(d:Run (Kr Γ c) st b8 st1)(e:Run (execs Γ a) st1 .nx st2)(g:Run (execs Γ ss) st2 f h):Run (execs Γ (.ite c a b::ss)) st f h:=gh (gf d e) g
def bA(d:Run (Kr Γ c) st cc st1)(e:Run (execs Γ b) st1 .nx st2)(g:Run (execs Γ ss) st2 f h):Run (execs Γ (.ite c a b::ss)) st f h:=gh (tQ d e) g
def pK(d:Run (Kr Γ c) st b8 st1)(e:Run (execs Γ a) st1 (.rt k u) st2):Run (execs Γ (.ite c a b::ss)) st (.rt k u) st2:=mU (gf d e)
def El(a:Run (bp Γ src) st rs st1)(b:bo rs st1)(c:Mg d rs=a5 xs)(e:vf rs is body=b8)(g:Run (forM t is (execs Γ body) rs xs) st1 f st2):
  Run (exec Γ (.Kt t is d src body)) st f st2:=by
 show ae a (ae (aZ b) (ae (cC c) ?_));rw[Ž e];show g
def c7(a:Run (bp Γ src) st rs st1)(b:bo rs st1)(c:Mg d rs=a5 xs)(e:vf rs is body=b8)(g:Run (forM t is (execs Γ body) rs xs) st1 .nx st2)(h:Run (execs Γ ss) st2 f i):
  Run (execs Γ (.Kt t is d src body::ss)) st f i:=gh (El a b c e g) h
def vS(h:bo rs st):Run (forM t is body rs []) st .nx st:=ae (aZ h) aP
def Dt(h:bo rs st)(a:Run (dN t is x) st () st1)(b:Run body st1 .nx st2)(c:Run (forM t is body rs xs) st2 f d):Run (forM t is body rs (x::xs)) st f d:=ae (aZ h) (ae a (ae b c))
def J2(h:bo rs st)(a:Run (dN t is x) st () st1)(b:Run body st1 (.rt k u) st2):Run (forM t is body rs (x::xs)) st (.rt k u) st2:=ae (aZ h) (ae a (ae b aP))
def fw(h:Run (eL i r) st () st1):Run (dN cc [i] r) st () st1:=h
def bB(a:us.length=fn.np)(hk:k=.own\/k=.loc)(hs:start us fn.ns=st0)(h:Run (execs Γ fn.body) st0 (.rt k u) st):bY Γ fn us=a5 (.ok (k,u)):=by
 subst hs;unfold bY;rw[Ž a,show execs Γ fn.body (start us fn.ns)=_ from h];rcases hk with rfl|rfl<;>rfl
def vT{cond:M Bool}(h:bo src st):Run (bW k t cond elt src [] acc) st acc st:=ae (aZ h) aP
def pL{cond:M Bool}(h:bo src st)(c:Run (dN t (gs k) x) (i8 k b6++st) () s1)(d:Run cond s1 b8 s2)(e:Run elt s2 r s3)(g:Run (lift r) s3 u s4)
  (hl:acc.length<cK) (i:Run (bW k t cond elt src xs (acc++[u])) (s4.drop k) us st2):Run (bW k t cond elt src (x::xs) acc) st us st2:=by
 show ae (aZ h) (ae (a:=a5 u) (st1:=s4.drop k) ?_ ?_)
 .change inScope k _ st=_;unfold inScope;have j:Run (dN t (gs k) x >>= λ_=>cond >>= λb=>if b=b8 then(elt >>= λr=>lift r >>= λu=>pure (a5 u)) else pure b6) (i8 k b6++st) (a5 u) s4 :=
   ae c (ae d (show Run (elt >>= λr=>lift r >>= λu=>pure (a5 u)) s2 (a5 u) s4 from ae e (ae (f:=λu=>pure (a5 u)) g rfl)))
  rw[show _=_ from j]
 .change Run (if acc.length<cK then bW k t cond elt src xs (acc++[u]) else M.fail) _ _ _;rw[Ž hl];show i
def Al{cond:M Bool}(h:bo src st)(c:Run (dN t (gs k) x) (i8 k b6++st) () s1)(d:Run cond s1 cc s2)
  (e:Run (bW k t cond elt src xs acc) (s2.drop k) us st2):Run (bW k t cond elt src (x::xs) acc) st us st2:=by
 show ae (aZ h) (ae (a:=b6) (st1:=s2.drop k) ?_ e);change inScope k _ st=_;unfold inScope;have f:Run (dN t (gs k) x >>= λ_=>cond >>= λb=>if b=b8 then(elt >>= λr=>lift r >>= λu=>pure (a5 u)) else pure b6) (i8 k b6++st) b6 s2 :=
  ae c (ae d (show Run (pure b6:M (Option U)) s2 b6 s2 from rfl))
 rw[show _=_ from f]
def dY{src cond:List E}(a:Run (bp Γ src) st rs st1)(b:bo rs st1)(c:Mg d rs=a5 xs)(f:Run (bW k t (bb Γ cond) (ev Γ e) rs xs []) st1 us st2):Run (ev Γ (.comp k t d src cond e)) st (.own,.lst us) st2 :=
 ae a (ae (aZ b) (ae (cC c) (ae f aP)))
end
section
def tS(c:Run (bp Γ es) st rs st1)(d:bo (rs.map (eh st1)) st1)(e:Γ f ((rs.map (eh st1)).map (·.2))=a5 (.ok (k,.tup (u::ws))))(hk:k=.own\/k=.loc)(a:qQ (rs.map (eh st1)) is=b8)(b:gV (rs.map (eh st1)) is ws st1=a5 st2):
  Run (ev Γ (.J9 f es is)) st (k,u) st2:=by
 have g:Run (bp Γ es >>= Cs) st (rs.map (eh st1)) st1:=ae c (show Run (Cs rs) st1 (rs.map (eh st1)) st1 from rfl);show ae g (ae (aZ d) ?_);change qR Γ f _ is st1=_;unfold qR;rw[e];rcases hk with rfl|rfl
 .change(if _ then _ else _)=_;rw[Ž a,b]
 .change(if _ then _ else _)=_;rw[Ž a,b]
def Em(h:st[i]?=a5 (a5 (k,.lst us)))(hk:k.root=b8)(a:us[us.length - 1]?=a5 u):Run (ev Γ (.pop i)) st (.loc,u) (st.set i (a5 (k,.lst us.dropLast))):=by
 change zl i st=_;unfold zl;rw[h];change(if _ then _ else _)=_;rw[Ž hk,a]
def GU(b:st[i]?=a5 (a5 (k0,.lst us0)))(c:k0≠.J6)(d:Run (ev Γ e) st (l,.int j) st1)(h:st1[i]?=a5 (a5 (k,.lst us)))(hk:k.root=b8)(j0:0<=j)(f:j<1000000)(g:us[j.toNat]?=a5 u):Run (ev Γ (.MO i e)) st (.loc,u) (st1.set i (a5 (k,.lst (us.eraseIdx j.toNat)))):=by
 show ae (dU b c) (ae (a:=()) (st1:=st) rfl (ae d ?_));change xC i (.int j) st1=_;unfold xC
 dsimp only
 rw[h];change(if _ then _ else _)=_;rw[Ž ⟨hk,j0,f⟩,g]
def b_(a:us.length=fn.np)(hs:cY is us fn.ns=st0)(h:Run (execs Γ body) st0 f st)(b:S5 f=a5 (k,u))(c:PZ is st=a5 ws):gK Γ fn is body us=a5 (.ok (k,.tup (u::ws))):=by
 subst hs;unfold gK;rw[Ž a,show execs Γ body (cY is us fn.ns)=_ from h];change(S5 f).bind _=_;rw[b];change(PZ is st).map _=_;rw[c];rfl
end
abbrev KJ(Pg:List Fn)(f:Str)(fn:Fn):Prop:=(Pg.find? λg=>c4 (g.name=f))=a5 fn
section
def aL(h:KJ Pg f fn)(us:List U)(a:fn.io=b6:=by rfl):Kl Pg (d+1) f us=bY (Kl Pg d) fn us:=by
 change(match Pg.find? λg=>c4 (g.name=f) with|some fn=>jw (Kl Pg d) fn us|none=>b6)=_;rw[show _=a5 fn from h];change jw _ _ _=_;unfold jw;rw[a]
def cR(h:KJ Pg f fn)(us:List U)(a:fn.io=a5 (is,b)):Kl Pg (d+1) f us=gK (Kl Pg d) fn is b us:=by
 change(match Pg.find? λg=>c4 (g.name=f) with|some fn=>jw (Kl Pg d) fn us|none=>b6)=_;rw[show _=a5 fn from h];change jw _ _ _=_;unfold jw;rw[a]
end
def eF(h:0<j):MP .mod (k,.int i) (k',.int j)=a5 (.loc,.int (i % j)):=by change(Cn i j).map _=_;rw[Cn,Ž h];rfl
def l9(h:0<j/\j<1073741824):MP .PU (k,.int i) (k',.int j)=a5 (.loc,.int (i / j)):=by change(Cm i j).map _=_;rw[Cm,Ž h];rfl
def kU(h:(-(2 ^ 64)<i/\i<2 ^ 64)\/(-(2 ^ 64)<j/\j<2 ^ 64)):MP .mul (k,.int i) (k',.int j)=a5 (.loc,.int (i * j)):=by change(Cj i j).map _=_;rw[Cj,Ž h];rfl
def oH(h:0<=j/\j<=1000000/\i.natAbs<2 ^ 64):MP .pow (k,.int i) (k',.int j)=a5 (.loc,.int (i ^ j.toNat)):=by change(Co i j).map _=_;rw[Co,Ž h];rfl
def bV:MP .add (k,.int i) (k',.int j)=a5 (.loc,.int (i+j)):=rfl
def kS:MP .sub (k,.int i) (k',.int j)=a5 (.loc,.int (i - j)):=rfl
def cv(h:K8 xs i=a5 u):gI (k,.lst xs) (.int i)=a5 (kE k,u):=by change(K8 xs i).map _=_;rw[h];rfl
def oN(h:K8 xs i=a5 u):gI (k,.tup xs) (.int i)=a5 (kE k,u):=by change(K8 xs i).map _=_;rw[h];rfl
local macro_rules
 |`(tactic| sizeOf_list_dec)=>`(tactic| first|exact aB|apply aw|apply dX|apply bL|exact ah|exact af rfl|exact bh rfl|exact aE rfl|apply bj|apply i_|apply aQ|apply c6|apply bG|apply Ai|apply aK|exact aj|apply aa|apply cQ|apply bO|exact aC|apply ao|exact aA|exact Aj|(first|exact trivial|exact⟨⟨_,rfl,rfl⟩,trivial⟩|exact⟨⟨_,rfl,rfl⟩,⟨_,rfl,rfl⟩,trivial⟩)|exact bV|exact kS|exact eF (by first|lia|decide)|exact l9 (by first|lia|decide)|exact kU (by first|lia|decide)|exact oH (by decide)|exact aD|exact ba|exact j3|exact fb|exact gZ|exact j4 rfl|exact kr _|exact rfl|exact ON)
def Am(h:c4 (i<j)=c):cB .lt (.int i) (.int j)=a5 c:=by subst h;rfl
def g9(h:c4 (j<i)=c):cB .gt (.int i) (.int j)=a5 c:=by subst h;rfl
def bM(h:(i==j)=c):cB .eq (.int i) (.int j)=a5 c:=by subst h;rfl
def cE:Md .len [(k,.lst xs)]=a5 (.loc,.int (xs.length:Nat)):=rfl
def Du:Md .len [(k,.tup xs)]=a5 (.loc,.int (xs.length:Nat)):=rfl
def An(x:Kd×U):Mg .LM [x]=zi x:=rfl
def jD(h:n<2 ^ 62):Mg .LM [(k,.int (n:Nat))]=a5 ((gs n).map λi:Nat=>(Kd.loc,U.int (0+(i:Int)))):=by
 rw[An,zi,Ž ⋯,OO]
end TM
local macro_rules
 |`(tactic| sizeOf_list_dec)=>`(tactic| first|exact TM.aB|apply TM.aw|apply TM.dX|apply TM.bL|exact TM.ah|exact TM.af rfl|exact TM.bh rfl|exact TM.aE rfl|apply TM.bj|apply TM.i_|apply TM.aQ|apply TM.c6|apply TM.bG|apply TM.Ai|apply TM.aK|exact TM.aj|apply TM.aa|apply TM.cQ|apply TM.bO|exact TM.aC|apply TM.ao|exact TM.aA|exact TM.Aj|(first|exact trivial|exact⟨⟨_,rfl,rfl⟩,trivial⟩|exact⟨⟨_,rfl,rfl⟩,⟨_,rfl,rfl⟩,trivial⟩)|exact TM.bV|exact TM.kS|exact TM.eF (by first|lia|decide)|exact TM.l9 (by first|lia|decide)|exact TM.kU (by first|lia|decide)|exact TM.oH (by decide)|exact TM.aD|exact TM.ba|exact TM.j3|exact TM.fb|exact TM.gZ|exact TM.j4 rfl|exact kr _|exact rfl|exact TM.ON)
namespace Kv
open PySem L2
def len_list(x:Str):x.length=x.cps.toList.length:=by simp[Ŷ]
def xX(a:0<=k)(b:k<=99):(yE k).length<=2:=by
 have⟨m,rfl⟩:=u6 a;have c:m<100:=by lia
 clear a b;revert m;decide +kernel
theorem fH:∀(ps:List Str) (acc:Array Nat),(ps.foldl (λacc p=>acc++nH.cps++p.cps) acc).toList=acc.toList++(ps.map λp=>p.cps.toList).flatten
 |[],acc=>by simp
 |p::ps,acc=>by
  rw[U1,fH ps];have:nH.cps=#[]:=rfl;simp[this]
def join_list(ts:List Str):(VA nH ts).cps.toList=(ts.map λp=>p.cps.toList).flatten:=by
 cases ts with
 |nil=>rfl
 |cons t ts =>
  change(ts.foldl (λacc p=>acc++nH.cps++p.cps) t.cps).toList=_;rw[fH];simp
abbrev one(c:Nat):Str:=⟨#[c]⟩
def join_ones(a:List Nat):(VA nH (a.map one)).cps.toList=a:=by
 rw[join_list,i9];induction a with
 |nil=>rfl
 |cons c a b=>rw[d3,T9,b];rfl
def rj(a:List Nat)(h:a.length<=100):ĳ nH (a.map one)=b8:=by
 unfold ĳ;have e:=PySem.StrLaws.joinTotal nH (a.map one);have b:nH.length=0:=rfl;have es:((a.map one).map (·.length)).sum=a.length:=by
  rw[i9];clear h e;induction a with
  |nil=>rfl
  |cons c a d=>rw[d3,N',d];change 1+a.length=a.length+1;lia
 rw[e,b,es];have f:a.length+(a.map one).length * 0<=100:=by lia
 revert f;generalize a.length+(a.map one).length * 0=m;revert m;decide
def GV(x:Str)(j:Nat):(PySem.StrLaws.sliceText x b6 (a5 (j:Int))).cps.toList=x.cps.toList.take j:=by
 by_cases h:j<=x.cps.toList.length
 .rw[PySem.StrLaws.sliceText_to (x:=x) ⟨⋯,⋯⟩];simp
 .have e:PySem.StrLaws.sliceText x b6 (a5 (j:Int))=PySem.StrLaws.sliceText x b6 (a5 (x.length:Int)):=by
   unfold PySem.StrLaws.sliceText;have hl:=len_list x;have:PySem.Builtin.Str.strSliceIndices b6 (a5 (j:Int)) 1 x.length=PySem.Builtin.Str.strSliceIndices b6 (a5 (x.length:Int)) 1 x.length:=by
    have a:¬((j:Int)<0):=by lia
    have b:¬((x.length:Int)<0):=by lia
    have c:min (j:Int) (x.length:Int)=x.length:=by lia
    simp[PySem.Builtin.Str.strSliceIndices,a,b,c]
   rw[this]
  have hl:=len_list x;rw[e,PySem.StrLaws.sliceText_to (x:=x) ⟨⋯,⋯⟩,YL,K5 (l:=x.cps.toList) (i:=j) ⋯];change(x.cps.toList.take ((x.length:Int) - 0).toNat).toArray.toList=_;rw[K5 ⋯]
abbrev small:Str:="abcdefghijklmnopqrstuvwxyz"
theorem jb [DecidableEq α]:∀{l m:List α},l.Nodup->(∀x∈l,x∈m)->l.length<=m.length
 |[],_,_,_=>kr _
 |x::l,m,c,h=>by
  have⟨d,e⟩:=mN.mp c;have a:=h x nc;have f:=jb (l:=l) (m:=m.erase x) e λy b=>(Vo (by rintro rfl;show d b)).mpr (h y (mf _ b));rw[Zf a]at f;have:0<m.length:=Z4 a;rw[kj];lia
end Kv
namespace TM
open PySem L2 Kv
def jn(a:x.length<=cK)(h:K8 x.cps.toList i=a5 c):gI (k,.str x) (.int i)=a5 (.loc,.str (Kv.one c)):=by
 simp only[gI];rw[Ž a,h];rfl
def rm:small.length<=cK:=by decide
theorem dI:∀(ss:List Str),strsOf (ss.map U.str)=a5 ss
 |[]=>rfl
 |s::ss=>by change(strsOf (ss.map U.str)).map (s::·)=_;rw[dI ss];rfl
section
def jc(h:x.length+y.length<=cK):MP .add (k,.str x) (k',.str y)=a5 (.loc,.str (x++y)):=by
 simp only[MP,zg];rw[Ž h]
theorem gD:∀(ss:List Str) (n:Nat),dG n (ss.map U.str)=b8
 |[],n=>by simp[dG]
 |s::ss,n=>by simp only[d3,dG,gD ss n,V_];cases n<;>rfl
theorem rn(x:Str):∀(ss:List Str),((ss.map U.str).any λy=>bR y (.str x))=c4 (x∈ss)
 |[]=>by simp
 |s::ss=>by
  rw[d3,V4,rn x ss];have:bR (.str s) (.str x)=c4 (x=s):=by
   simp only[bR];by_cases h:x=s
   .subst h;simp
   .have h':s≠x:=λz=>h z.symm;simp[h,h']
  rw[this,KX];simp
def Dv(x:Str)(ss:List Str):PX (.str x) (ss.map U.str)=a5 (c4 (x∈ss)):=by
 unfold PX;rw[Ž ⟨by rfl,gD ss 50⟩,rn]
def gk{x:Str}{ss:List Str}:cB .Ki (.str x) (.lst (ss.map U.str))=a5 (c4 (x∉ss)):=by
 change(PX (.str x) (ss.map U.str)).map (!·)=_;rw[Dv];simp
end
section
end
def jd(h:Run (ev Γ j) st rv st1)(l:st1[i]?=a5 (a5 (k',u')))(m:Run (ev Γ n) st1 rk st2)(o:Run (cX [rv,rk]) st2 [c,d] b)(p:b[i]?=a5 (a5 (k,e)))(hk:k.root=b8)(q:dH d c e=a5 g)
  (r:Run (execs Γ ss) (b.set i (a5 (k,g))) f s) (t:k'≠.J6:=by intro z;cases z):Run (execs Γ (.put i n j::ss)) st f s:=by
 show gh (ae h (ae (dU l t) (ae m (ae o (ae (a:=()) (st1:=b.set i (a5 (k,g))) ?_ aP))))) r;change modS i (vd [c,d]) b=_;unfold modS;rw[p];simp only[hk,if_true];change(match dH d c e with|some u'=>_|none=>b6)=_;rw[q]
@[reducible]def Row:=Str×List Str
abbrev A'(r:Row):U:=.tup [.str r.1,.tup (r.2.map .str)]
abbrev keyOf(r:Row):Row:=(r.1,aU r.2)
def sorted_strs(h:ss.length<64):Md .sorted [(k,.tup (ss.map .str))]=a5 (.own,.lst ((aU ss).map .str)):=by
 change(strsOf (ss.map U.str)).bind _=_;rw[dI];change(if ss.length<64 then _ else _)=_;rw[Ž h]
structure n_(names:List Str)(r:Row):Prop where
 word:r.1∈names
 Oq:r.2.length<=8
 once:r.2.Nodup
 told:∀x∈r.2,x∈names
section
def oa(h:Run (execs Γ (a++ss)) st f st2):(∃s1,Run (execs Γ a) st .nx s1/\Run (execs Γ ss) s1 f st2)\/(Run (execs Γ a) st f st2/\f≠.nx):=by
 induction a generalizing st with
 |nil=>show .inl ⟨st,aB,h⟩
 |cons s a i =>
  have h':M.bind (exec Γ s) (λf=>match f with|.nx=>execs Γ (a++ss)|f=>pure f) st=a5 (.ok f,st2):=h;unfold M.bind at h';cases e:exec Γ s st with
  |none=>rw[e]at h';cases h'
  |some p =>
   have⟨x,s1⟩:=p;rw[e]at h';cases x with
   |exc c=>cases h'
   |ok g =>
    cases g with
    |nx =>
     rcases i h' with⟨s2,b,d⟩|⟨b,d⟩
     .show .inl ⟨s2,gh e b,d⟩
     .show .inr ⟨gh e b,d⟩
    |rt k u=>cases h';show .inr ⟨mU e,λz=>nomatch z⟩
    |bk=>cases h';show .inr ⟨ae (show Run (exec Γ s) st Fl.bk _ from e) aP,λz=>nomatch z⟩
    |ct=>cases h';show .inr ⟨ae (show Run (exec Γ s) st Fl.ct _ from e) aP,λz=>nomatch z⟩
def IU(a:Run (exec Γ s) st f st1)(b:f≠.nx):Run (execs Γ (s::ss)) st f st1:=by
 cases f with
 |nx=>show absurd rfl b
 |rt k u=>show mU a
 |_=>show ae a aP
def pM(g:Run (Kr Γ c) st p st1)(h:p=b8->Run (execs Γ (a++ss)) st1 f st2)(i:p=cc->Run (execs Γ (b++ss)) st1 f st2):Run (execs Γ (.ite c a b::ss)) st f st2:=by
 cases p with
 |true =>
  rcases oa (h rfl) with⟨s1,d,e⟩|⟨d,e⟩
  .show gh (gf g d) e
  .show IU (gf g d) e
 |false =>
  rcases oa (i rfl) with⟨s1,d,e⟩|⟨d,e⟩
  .show gh (tQ g d) e
  .show IU (tQ g d) e
def GW(h:Run (ev Γ e) st (k,.bl p) st)(a:p=b8->Run (iT Γ (b::es)) st (.loc,.bl q) st):Run (iT Γ (e::b::es)) st (.loc,.bl (p&&q)) st:=by
 show GR h ?_;cases p with
 |true=>rw[Ž rfl];show a rfl
 |false=>rw[ž js];show⟨rfl,rfl⟩
def En(h:Run (Kr Γ e) st p st)(a:p=cc->Run (f9 Γ (b::es)) st q st):Run (f9 Γ (e::b::es)) st (p||q) st:=by
 cases p with
 |true=>show IM h
 |false=>show Ek h (a rfl)
def tU(h:Run (Kr Γ e) st p st)(a:p=b8->Run (bb Γ (b::es)) st q st):Run (bb Γ (e::b::es)) st (p&&q) st:=by
 cases p with
 |true=>show l8 h (a rfl)
 |false=>show tP h
theorem jE{cond:M Bool}(h:bo src st)(k:Kd)(hk:k=.loc\/k=.any)(a g:α->U)(c:Kd)(d:∀y,Run cond (a5 (k,a y)::st) b8 (a5 (k,a y)::st)):∀(b:List α) (acc:List U),acc.length+b.length<=cK ->
  (∀y∈b,Run elt (a5 (k,a y)::st) (c,g y) (a5 (k,a y)::st)/\Run (lift (c,g y)) (a5 (k,a y)::st) (g y) (a5 (k,a y)::st))->Run (bW 1 cc cond elt src (b.map λy=>(k,a y)) acc) st (acc++b.map g) st
 |[],acc,_,_=>by rw[H8,H8,ro];show vT h
 |y::b,acc,hl,e=>by
  have⟨f,i⟩:=e y (by simp);rw[kj]at hl;show pL (s1:=a5 (k,a y)::st) (s2:=a5 (k,a y)::st) (s3:=a5 (k,a y)::st) (s4:=a5 (k,a y)::st) h ?_ (d y) f i ⋯ ?_
  .rcases hk with rfl|rfl
   .show fw aD
   .show fw j3
  .have:=jE h k hk a g c d b (acc++[g y]) (by simp;lia) λz hz=>e z (by simp[hz]);rw[d3];simpa using this
theorem tV{cond:M Bool}(h:bo src st)(k:Kd)(hk:k=.loc\/k=.any)(a g:α->U)(p:α->Bool)(d:Kd):∀(b:List α) (acc:List U),acc.length+b.length<=cK ->
  (∀y∈b,Run cond (a5 (k,a y)::st) (p y) (a5 (k,a y)::st)/\(p y=b8->Run elt (a5 (k,a y)::st) (d,g y) (a5 (k,a y)::st)/\Run (lift (d,g y)) (a5 (k,a y)::st) (g y) (a5 (k,a y)::st)))->Run (bW 1 cc cond elt src (b.map λy=>(k,a y)) acc) st (acc++(b.filter p).map g) st
 |[],acc,_,_=>by rw[H8,R5,H8,ro];show vT h
 |y::b,acc,hl,f=>by
  have⟨e,i⟩:=f y (by simp);rw[kj]at hl;have j:Run (dN cc (gs 1) (k,a y)) (i8 1 b6++st) () (a5 (k,a y)::st):=by
   rcases hk with rfl|rfl
   .show fw aD
   .show fw j3
  cases c:p y with
  |true =>
   rw[c]at e;have⟨l,m⟩:=i c;show pL (s1:=a5 (k,a y)::st) (s2:=a5 (k,a y)::st) (s3:=a5 (k,a y)::st) (s4:=a5 (k,a y)::st) h j e l m ⋯ ?_;have:=tV h k hk a g p d b (acc++[g y]) (by simp;lia) λz hz=>f z (by simp[hz]);rw[D7,Ž c,d3];simpa using this
  |false =>
   rw[c]at e;show Al (s1:=a5 (k,a y)::st) (s2:=a5 (k,a y)::st) h j e ?_;have:=tV h k hk a g p d b acc ⋯ λz hz=>f z (by simp[hz]);rw[D7,ž (by simp[c])];show this
theorem cw(it:α->Kd×U)(I:List α->List α->ay->Prop)(hs:∀d r st,I d r st->bo rs st)
  (ċ:∀d y r st,I d (y::r) st->∃st1 st2,Run (dN t is (it y)) st () st1/\Run body st1 .nx st2/\I (d++[y]) r st2):∀(r d:List α) (st:ay),I d r st->∃st',Run (forM t is body rs (r.map it)) st .nx st'/\I (d++r) [] st'
 |[],d,st,h=>⟨st,vS (hs _ _ _ h),by rw[ro];show h⟩
 |y::r,d,st,h=>by
  have⟨s1,s2,a,b,c⟩:=ċ d y r st h;have⟨s3,e,f⟩:=cw it I hs ċ r (d++[y]) s2 c;show⟨s3,Dt (hs _ _ _ h) a b e,by simpa using f⟩
def Ao(h:Run (ev Γ (.bi f es)) st (k,.bl b) st1):Run (Kr Γ (.bi f es)) st b st1:=by
 have h':(bp Γ es >>= λrs=>aF rs >>= λ_=>M.Kp (Md f rs)) st=a5 (.ok (k,.bl b),st1):=h;obtain⟨rs,s1,c,d,s2,e,r,s3,g,i⟩:∃rs s1,bp Γ es st=a5 (.ok rs,s1)/\∃(a:Unit) (s2:ay),aF rs s1=a5 (.ok a,s2)/\∃r s3,M.Kp (Md f rs) s2=a5 (.ok r,s3)/\(r,s3)=((k,U.bl b),st1):=by
  have w:W (bp Γ es >>= λrs=>aF rs >>= λ_=>M.Kp (Md f rs)) st λr s=>(r,s)=((k,U.bl b),st1):=⟨_,_,h',rfl⟩
  rw[ai]at w;have⟨rs,s1,c,w⟩:=w;rw[ai]at w;have⟨a,s2,d,w⟩:=w;have⟨r,s3,e,w⟩:=w;show⟨rs,s1,c,a,s2,d,r,s3,e,w⟩
 cases i;show ae c (ae (a:=d) e (ae g (cC rfl)))
def vU(b:st[i]?=a5 (a5 (k',.lst m)))(c:Run (ev Γ e) st r st1)(d:st1[i]?=a5 (a5 (k,.lst us)))(hk:k.root=b8)(g:lH r (.lst us)=a5 (.lst zs))
  (h:Run (execs Γ ss) (st1.set i (a5 (k,.lst zs))) f j) (l:k'≠.J6:=by intro z;cases z):Run (execs Γ (.ext i e::ss)) st f j:=by
 show gh (ae (dU b l) (ae (a:=()) (st1:=st) rfl (ae c (ae (a:=()) (st1:=st1.set i (a5 (k,.lst zs))) ?_ aP)))) h;change modS i (lH r) st1=_;unfold modS;rw[d];simp only[hk,if_true];rw[g]
end
def vV(h:xs.length+a.length<=cK)(hs:d_ k a=b8):lH (k,.tup a) (.lst xs)=a5 (.lst (xs++a)):=by
 change(if xs.length+a.length<=cK/\d_ k a=b8 then _ else _)=_;rw[Ž ⟨h,hs⟩]
def vW(h:xs.length+a.length<=cK)(hs:d_ k a=b8):lH (k,.lst a) (.lst xs)=a5 (.lst (xs++a)):=by
 change(if xs.length+a.length<=cK/\d_ k a=b8 then _ else _)=_;rw[Ž ⟨h,hs⟩]
theorem og:∀ss:List Str,cm (ss.map U.str)=b8
 |[]=>by simp[cm]
 |s::ss=>by simp[cm,Kw,og ss]
def pN(r:Row):Kw (A' r)=b8:=by simp[A',Kw,cm,og]
theorem bq:∀rs:List Row,cm (rs.map A')=b8
 |[]=>by simp[cm]
 |r::rs=>by simp[cm,pN,bq rs]
theorem l_:∀(a b:List Str),cA (a.map U.str) (b.map U.str)=c4 (a=b)
 |[],[]=>by simp[cA]
 |[],_::_=>by simp[cA]
 |_::_,[]=>by simp[cA]
 |x::a,y::b=>by
  rw[d3,d3,cA,l_ a b];simp only[bR];by_cases h:x=y
  .subst h;simp
  .simp[h]
def iu(ss:List Str)(n:Nat):K3 (n+1) (.lst (ss.map U.str))=b8:=by simp[K3,gD]
def Ap{a b:List Str}:cB .eq (.lst (a.map U.str)) (.lst (b.map U.str))=a5 (c4 (a=b)):=by
 simp only[cB];rw[Ž ⟨iu a 49,iu b 49⟩];simp only[bR,l_]
def vX:cB .eq (.str a) (.str b)=a5 (c4 (a=b)):=by
 simp only[cB];rw[Ž ⟨rfl,rfl⟩];simp only[bR];by_cases h:a=b
 .subst h;simp
 .simp[h]
def vY(f:α->β)(xs:List α)(lo a:Option Int):cut (xs.map f) lo a=(cut xs lo a).map f:=by simp[cut,ķ,ĸ]
def Dw(xs:List α)(lo a:Option Int):(cut xs lo a).length<=xs.length:=by simp[cut];lia
def Aq(h:d_ k (a.map U.int)=b8):lC (k,.lst (a.map .int)) lo b=a5 (.own,.lst ((cut a lo b).map .int)):=by
 simp only[lC];rw[Ž h,vY]
def Ar(h:acc.length<4000)(a:(aJ acc).length<64):qN .sset [(k,.lst (acc.map .str))]=a5 (.own,.lst ((aU (aJ acc)).map .str)):=by
 have e:iR (.lst (acc.map U.str))=a5 (aJ acc):=by
  change(strsOf (acc.map U.str)).bind _=_;rw[dI];change(if acc.length+1<y1 then _ else _)=_;rw[Ž (by change acc.length+1<4096;lia)]
 change(iR (.lst (acc.map U.str))).bind _=_;rw[e];change(if (aJ acc).length<64 then _ else _)=_;rw[Ž a]
def As(l:List Str):(aU (aJ l)).Nodup:=(bX _).nodup_iff.mpr (dF l)
def GX(l:List Str)(x:Str):x∈aU (aJ l)↔x∈l:=by rw[(bX _).mem_iff,c_]
def Au{l names:List Str}(h:∀x∈l,x∈names):(aJ l).length<=names.length:=jb (dF l) λx a=>h x ((c_ l x).mp a)
section
end
section
def Eo:Run (OJ Γ [] out) st out st:=rfl
def jF(a:Run (ev Γ e) st x st1)(b:qU x.2 out=a5 y)(c:Run (OJ Γ es y) st1 z st2):Run (OJ Γ (e::es) out) st z st2:=ae a (ae (cC b) c)
def Ep(h:Run (OJ Γ es nH) st z st1):Run (ev Γ (.fst es)) st (.loc,.str z) st1:=ae h aP
end
def mj(h:xs.length+a.length<=cK)(b:d_ k xs=b8)(c:d_ k' a=b8):MP .add (k,.lst xs) (k',.lst a)=a5 (.own,.lst (xs++a)):=by
 simp only[MP,zg];rw[Ž ⟨h,b,c⟩]
def Dx(x y:Str):(x++y).cps.toList=x.cps.toList++y.cps.toList:=by
 change(x.cps++y.cps).toList=_;simp
def str_len(x y:Str):(x++y).length=x.length+y.length:=by rw[len_list,len_list,len_list,Dx,hH]
def gE(a:y.length<=1000)(b:out.length<=1000):qU (.str y) out=a5 (out++y):=by
 have hsz:(4000:Nat)<=cK:=by decide
 simp only[qU];rw[Ž ⟨⋯,by rw[str_len];lia⟩]
abbrev cy(rows:List Row):List Str:=(rows.map λr=>r.1::r.2).flatten
abbrev a9(rows:List Row):List Str:=aU (aJ (cy rows))
def rp(d:List Row)(y:Row):cy (d++[y])=cy d++[y.1]++y.2:=by simp[cy]
def iw:x∈cy rows↔∃r∈rows,x=r.1\/x∈r.2:=by
 simp only[cy,Ć,lz];constructor
 .rintro⟨l,⟨r,a,rfl⟩,b⟩;show⟨r,a,d6.mp b⟩
 .rintro⟨r,a,b⟩;show⟨_,⟨r,a,rfl⟩,d6.mpr b⟩
def je(h:∀r∈rows,n_ names r):∀x∈cy rows,x∈names:=by
 intro x hx;have⟨r,a,hx⟩:=iw.mp hx;rcases hx with rfl|hx
 .show(h r a).word
 .show(h r a).told x hx
def mn(h:∀r∈rows,r.2.length<=8):(cy rows).length<=9 * rows.length:=by
 induction rows with
 |nil=>simp[cy]
 |cons r rows a =>
  have c:=h r (by simp);have b:=a λs hs=>h s (by simp[hs]);simp only[cy,d3,T9,hH,kj]at b ⊢;lia
def mq:x∈a9 rows↔x∈cy rows:=GX _ _
def tW(h:∀r∈rows,n_ names r):(a9 rows).length<=names.length:=by
 change(aU (aJ (cy rows))).length<=_;rw[dC];show Au (je h)
abbrev pO:Fn:=⟨"words_of",1,3,[.set 1 (.lst []),.Kt cc [2] .seq [.var 0] [.app 1 (.idx (.var 2) (.cst (.int 0))),.ext 1 (.idx (.var 2) (.cst (.int 1)))],.ret (.OF .sset [.var 1])]⟩
def pP(hl:rows.length<=120)(c:∀r∈rows,n_ names r)(p:names.length<64):bY Γ pO [.tup (rows.map A')]=a5 (.ok (.own,.lst ((a9 rows).map .str))):=by
 have hsz:(4000:Nat)<=cK:=by decide
 have f:TM.start [.tup (rows.map A')] 3=[a5 (.loc,.tup (rows.map A')),b6,b6]:=by simp[TM.start,Kw,bq]
 have b:∀r∈rows,r.2.length<=8:=λr h=>(c r h).Oq;obtain⟨st',g,_,o2,e⟩:=cw (t:=cc) (is:=[2]) (body:=execs Γ [.app 1 (.idx (.var 2) (.cst (.int 0))),.ext 1 (.idx (.var 2) (.cst (.int 1)))]) (rs:=[(.loc,.tup (rows.map A'))]) (λr:Row=>(Kd.loc,A' r))
  (λd r st=>d++r=rows/\∃o2,st=[a5 (.loc,.tup (rows.map A')),a5 (.own,.lst ((cy d).map .str)),o2]) (λ_ _ _ _=>trivial) (λd y r st i=>by
   have⟨a,o2,e⟩:=i;subst e;have j:y∈rows:=by rw[<-a];simp
   have l:=mn (rows:=d) λs hs=>b s (by rw[<-a];simp[hs]);have m:d.length<=120:=by have:=Δ Lp a;simp at this;lia
   have n:=b y j;show⟨[a5 (.loc,.tup (rows.map A')),a5 (.own,.lst ((cy d).map .str)),a5 (.loc,A' y)],[a5 (.loc,.tup (rows.map A')),a5 (.own,.lst ((cy d).map .str++[.str y.1]++y.2.map .str)),a5 (.loc,A' y)],fw aD,?_,by rw[<-a];simp,a5 (.loc,A' y),?_⟩
   .show dX (k:=.own) (k':=.own) (r:=(.loc,.str y.1)) rfl (aQ (x:=(.loc,A' y)) (af rfl) ah trivial rfl) aA rfl rfl (by rw[c2];lia)
     (vU (k:=.own) rfl (aQ (x:=(.loc,A' y)) (af rfl) ah trivial rfl) rfl rfl (vV (by simp;lia) rfl) aB)
   .rw[rp];simp) rows [] [a5 (.loc,.tup (rows.map A')),a5 (.own,.lst []),b6] ⟨rfl,b6,rfl⟩
 subst e;have o:(rows.map A').map (λu=>(kE .loc,u))=rows.map λr=>(Kd.loc,A' r):=by rw[i9];rfl
 have q:=mn b;have m:=Au (je c);show bB rfl (.inl rfl) f (aw (r:=(.own,.lst [])) (bO aj trivial aC (kr _)) ba (c7 (rs:=[(.loc,.tup (rows.map A'))]) (aa (af rfl) aj) trivial rfl rfl (by rw[o];show g) (bL (Ah (aa (aE rfl) aj) ⟨⟨.own,rfl,rfl⟩,trivial⟩ (Ar ⋯ ⋯)) gZ)))
def vZ(h:ks.length<1000):dH (.str x) u (.J8 ks us)=a5 (.J8 (dput ks us x u).1 (dput ks us x u).2):=by
 have hsz:(1000:Nat)<=cK:=by decide
 change(if ks.length<cK then _ else _)=_;rw[Ž ⋯]
end TM
namespace Od
section
variable{W:Type}[DecidableEq W]{rows:List (W×List W)}
abbrev jG(rows:List (W×List W))(C:W->Prop):Prop:=∀r∈rows,(∀x∈r.2,C x)->C r.1
abbrev N4(rows:List (W×List W))(K:List W):Prop:=∀C:W->Prop,jG rows C->∀x∈K,C x
def same(a:K.Nodup)(b:L.Nodup)(sK:N4 rows K)(c:N4 rows L)(d:jG rows (·∈K))(e:jG rows (·∈L)):K.Perm L :=
 (Yw a b).mpr λx=>⟨λh=>sK _ e x h,λh=>c _ d x h⟩
abbrev told(rows:List (W×List W))(p:Nat):List W:=match rows[p]? with
 |some r=>r.2
 |none=>[]
def kK(h:rows[p]?=a5 r):told rows p=r.2:=by unfold told;rw[h]
abbrev tX(K l:List W):Nat:=(l.filter λx=>c4 (x∉K)).length
abbrev cnt(rows:List (W×List W))(K:List W)(p:Nat):Nat:=tX K (told rows p)
def xY{K l:List W}:tX K l=0↔∀x∈l,x∈K:=by
 unfold tX;rw[Uo,QS];constructor
 .intro h x a;have:=h x a;simpa using this
 .intro h x a;simpa using h x a
theorem rq(f:w∉K):∀{l:List W},l.Nodup->tX (K++[w]) l+(if w∈l then 1 else 0)=tX K l
 |[],_=>rfl
 |x::l,h=>by
  have⟨g,i⟩:=mN.mp h;have d:=rq f i;unfold tX at d ⊢;by_cases e:x=w
  .subst e;have a:c4 (x∉K++[x])≠b8:=by simp
   have b:c4 (x∉K)=b8:=Α f;rw[P' (p:=λy=>c4 (y∉K++[x])) a,P9 (p:=λy=>c4 (y∉K)) b,kj,Ž (nc ..)];rw[ž g]at d;lia
  .have j:w≠x:=λz=>e z.symm;have k:(if w∈x::l then 1 else 0)=if w∈l then 1 else 0:=by simp[j]
   rw[k];by_cases c:x∈K
   .have a:c4 (x∉K++[w])≠b8:=by simp[c]
    have b:c4 (x∉K)≠b8:=by simp[c]
    rw[P' (p:=λy=>c4 (y∉K++[w])) a,P' (p:=λy=>c4 (y∉K)) b];show d
   .have a:c4 (x∉K++[w])=b8:=by simp[c,e]
    have b:c4 (x∉K)=b8:=by simp[c]
    rw[P9 (p:=λy=>c4 (y∉K++[w])) a,P9 (p:=λy=>c4 (y∉K)) b,kj,kj];lia
abbrev Once(rows:List (W×List W)):Prop:=∀r∈rows,r.2.Nodup
def Once.told(h:Once rows)(p:Nat):(told rows p).Nodup:=by
 unfold Od.told;split
 .rename_i r e;show h r (mh e)
 .show .nil
def rA:cnt rows K p=0↔∀x∈told rows p,x∈K:=xY
def pQ(h:Once rows)(a:w∉K)(p:Nat):cnt rows (K++[w]) p+(if w∈told rows p then 1 else 0)=cnt rows K p:=rq a (h.told p)
abbrev KP(rows:List (W×List W))(n:Nat)(w:W):List Nat:=(gs n).filter λp=>c4 (w∈told rows p)
def xZ(n:Nat)(w:W):(KP rows n w).Nodup:=Zm ß List.nodup_range
def jf:p∈KP rows n w↔p<n/\w∈told rows p:=by simp[KP]
abbrev aM(ps:List (W×Nat))(w:W):List Nat:=(ps.filter λp=>c4 (p.1=w)).map (·.2)
theorem rB:∀{l:List W},l.Nodup->aM (l.map λx=>(x,n)) w=if w∈l then [n] else []
 |[],_=>rfl
 |x::l,h=>by
  have⟨b,c⟩:=mN.mp h;have a:=rB (n:=n) (w:=w) c;unfold aM at a ⊢;rw[d3,D7];by_cases e:x=w
  .subst e;rw[ž b]at a;rw[Ž (by simp),d3,a,Ž (by simp)]
  .rw[ž (by simpa using e),a];have d:w≠x:=λz=>e z.symm;simp[d]
def rC(a b:List (W×Nat))(w:W):aM (a++b) w=aM a w++aM b w:=by simp[aM]
def x6(h:Once rows)(a:rows[n]?=a5 r)(b:∀w,aM ps w=KP rows n w)(w:W):aM (ps++r.2.map λx=>(x,n)) w=KP rows (n+1) w:=by
 rw[rC,b w,rB (h r (mh a))];unfold KP;rw[Ě,Tq];congr 1
 rw[D7,R5,kK a];by_cases e:w∈r.2<;>simp[e]
structure RI(rows:List (W×List W))(K0 K:List W)(R:List Nat):Prop where
 R6:∀t∈R,t<rows.length/\cnt rows K t=0
 all:∀t,t<rows.length->cnt rows K t=0->cnt rows K0 t=0\/t∈R
def RI.start(K:List W):RI rows K K []:=⟨by simp,λt _ h=>.inl h⟩
def RI.step(h:Once rows)(x:RI rows K0 K R)(d:w∉K):RI rows K0 (K++[w]) (R++(KP rows rows.length w).filter λt=>c4 (cnt rows K t=1)):=by
 show⟨λt ht=>?_,λt ht i=>?_⟩
 .have a:=pQ h d t;rcases ke.mp ht with ht|ht
  .have⟨b,e⟩:=x.R6 t ht;show⟨b,⋯⟩
  .have⟨b,e⟩:=N9.mp ht;have⟨f,g⟩:=jf.mp b;rw[Ž g]at a;have:cnt rows K t=1:=by simpa using e
   show⟨f,⋯⟩
 .have a:=pQ h d t;by_cases c:w∈told rows t
  .rw[Ž c]at a;show .inr (ke.mpr (.inr (N9.mpr ⟨jf.mpr ⟨ht,c⟩,by simp;lia⟩)))
  .rw[ž c]at a;rcases x.all t ht ⋯ with z|z
   .show .inl z
   .show .inr (ke.mpr (.inl z))
structure NS(rows:List (W×List W))(K:List W)(d:List Nat)(ps:List (W×Nat)):Prop where
 ok:∀s∈ps,s.2∈d/\s.1∉K/\∃r,rows[s.2]?=a5 r/\r.1=s.1
 once:(ps.map (·.1)).Nodup
 all:∀p∈d,∀r,rows[p]?=a5 r->r.1∈K\/r.1∈ps.map (·.1)
def NS.start(K:List W):NS rows K [] []:=⟨by simp,by simp,by simp⟩
def NS.skip(x:NS rows K d ps)(f:rows[p]?=a5 r)(h:r.1∈K\/r.1∈ps.map (·.1)):NS rows K (d++[p]) ps :=
 ⟨λs hs=>let ⟨a,b,c⟩:=x.ok s hs;⟨by simp[a],b,c⟩,x.once,λq hq g e=>by
  rcases ke.mp hq with hq|hq
  .show x.all q hq g e
  .have:q=p:=by simpa using hq
   subst this;rw[f]at e;cases e;show h⟩
def NS.take(x:NS rows K d ps)(g:rows[p]?=a5 r)(h:r.1∉K)(i:r.1∉ps.map (·.1)):NS rows K (d++[p]) (ps++[(r.1,p)]):=by
 show⟨λs hs=>?_,?_,λq hq j f=>?_⟩
 .rcases ke.mp hs with hs|hs
  .have⟨a,b,c⟩:=x.ok s hs;show⟨by simp[a],b,c⟩
  .have:s=(r.1,p):=by simpa using hs
   subst this;show⟨by simp,h,r,g,rfl⟩
 .rw[ki,ri];show⟨x.once,by simp,λa k b l e=>?_⟩;have:b=r.1:=by simpa using l
  subst this;show i (e▸k)
 .rcases ke.mp hq with hq|hq
  .rcases x.all q hq j f with z|z
   .show .inl z
   .show .inr (by simp only[ki,ke];show .inl z)
  .have:q=p:=by simpa using hq
   subst this;rw[g]at f;cases f;show .inr (by simp)
def NS.perm(x:NS rows K d ps)(h:a.Perm ps):NS rows K d a :=
 ⟨λs hs=>x.ok s (h.mem_iff.mp hs),(h.map _).nodup_iff.mpr x.once,λp b r c=>(x.all p b r c).imp id λz=>(h.map _).mem_iff.mpr z⟩
structure LI(rows:List (W×List W))(Kg:List (W×Nat))(R:List Nat):Prop where
 nd:(Kg.map (·.1)).Nodup
 sn:N4 rows (Kg.map (·.1))
 wd:∀x∈Kg.map (·.1),x∈rows.map (·.1)
 R6:∀t∈R,t<rows.length/\cnt rows (Kg.map (·.1)) t=0
 all:∀t r,rows[t]?=a5 r->cnt rows (Kg.map (·.1)) t=0->t∈R\/r.1∈Kg.map (·.1)
def LI.step(x:LI rows d R)(n:NS rows (d.map (·.1)) R st)(y:RI rows (d.map (·.1)) (d.map (·.1)++st.map (·.1)) j):LI rows (d++st) j:=by
 have em:(d++st).map (·.1)=d.map (·.1)++st.map (·.1):=ki;have hs:∀z∈st.map (·.1),z∉d.map (·.1)/\∃r∈rows,r.1=z/\∀x∈r.2,x∈d.map (·.1):=λz hz=>by
  have⟨s,hs,rfl⟩:=lz.mp hz;have⟨k,l,r,h,m⟩:=n.ok s hs;have hz:=(x.R6 _ k).2;rw[rA,kK h]at hz;show⟨l,r,mh h,m,hz⟩
 show⟨?_,λC f y hy=>?_,λy hy=>?_,λt o=>by rw[em];show y.R6 t o,λt r g i=>?_⟩
 .rw[em,ri];show⟨x.nd,n.once,λa p b q e=>(hs b q).1 (e▸p)⟩
 .rw[em]at hy;rcases ke.mp hy with hy|hy
  .show x.sn C f y hy
  .obtain⟨_,r,a,b,c⟩:=hs y hy;show b▸f r a λz hz=>x.sn C f z (c z hz)
 .rw[em]at hy;rcases ke.mp hy with hy|hy
  .show x.wd y hy
  .obtain⟨_,r,a,b,c⟩:=hs y hy;show lz.mpr ⟨r,a,b⟩
 .rw[em]at i ⊢;rcases y.all t (dt.mp g).1 i with z|z
  .rcases x.all t r g z with z|z
   .rcases n.all t z r g with z|z
    .show .inr (ke.mpr (.inl z))
    .show .inr (ke.mpr (.inr z))
   .show .inr (ke.mpr (.inl z))
  .show .inl z
def LI.closed(x:LI rows b []):jG rows (·∈b.map (·.1)):=λr c h=>by
 have⟨t,a⟩:=U8.mp c;rcases x.all t r a (by rw[rA,kK a];show h) with z|z
 .cases z
 .show z
def v5{K L:List W}(h:K.Nodup)(s:∀x∈K,x∈L):K.length<=L.length:=by
 induction K generalizing L with
 |nil=>simp
 |cons a K d =>
  have⟨f,g⟩:=mN.mp h;have b:a∈L:=s a (by simp);have:=d (L:=L.erase a) g λx c=>by
   have i:x≠a:=λe=>f (e▸c);show(Vo i).mpr (s x (by simp[c]))
  rw[Zf b]at this;have:0<L.length:=Z4 b;rw[kj];lia
end
end Od
namespace TM
open PySem L2 Kv
section
def IV(h:st[j]?=a5 (a5 (.own,u))):Run (lift (.bor j,a)) st u (st.set j (a5 (.loc,u))):=by
 change(match st[j]? with|some (a5 (.own,u))=>a5 (Ex.ok u,st.set j (a5 (.loc,u)))|_=>b6)=_;rw[h]
def oh(h:Run c st cc st1):Run (fL c body (n+1)) st .nx st1:=ae h aP
def rD(h:Run c st b8 st1)(a:Run body st1 .nx st2)(b:Run (fL c body n) st2 f d):Run (fL c body (n+1)) st f d:=ae h (ae a b)
def rE(h:Run (fL (Kr Γ c) (execs Γ body) fuel) st .nx st1)(a:Run (execs Γ ss) st1 f st2):Run (execs Γ (.Og c body::ss)) st f st2:=gh h a
def mr(hk:k=.loc\/k=.any):Run (dN b8 [i,j] (k,.tup [a,b])) st () ((st.set i (a5 (k,a))).set j (a5 (k,b))):=by
 rcases hk with rfl|rfl<;>rfl
def GY(h:Run (execs Γ ss) (st.set i (a5 (.J6,.J8 [] []))) f st1):Run (execs Γ (.newD i::ss)) st f st1:=gh (ae (a:=()) (st1:=st.set i (a5 (.J6,.J8 [] []))) rfl aP) h
def pS(h:st[i]?=a5 (a5 (.J6,.J8 ks us))):Run (iS i) st (ks,us) st:=by
 change iS i st=_;unfold iS;rw[h]
def tY:Run (km (k,.str y)) st y st:=rfl
def Dy(a:st[i]?=a5 (a5 (.J6,.J8 ks us)))(b:y∉ks)(c:ks.length<cK):Run (lF i y (.own,.lst xs)) st () (st.set i (a5 (.J6,.J8 (ks++[y]) (us++[.lst xs])))):=by
 change lF i y (.own,.lst xs) st=_;unfold lF
 dsimp only
 rw[a]
 dsimp only
 rw[Ž ⟨b,c⟩]
def Dz(a:st[i]?=a5 (a5 (.J6,.J8 ks us)))(b:cq ks us y=a5 (.lst xs))(c:xs.length<cK):Run (lG i y u) st () (st.set i (a5 (.J6,.J8 ks (kq ks us y (.lst (xs++[u])))))):=by
 change lG i y u st=_;unfold lG;rw[a]
 dsimp only
 rw[b]
 dsimp only
 rw[Ž c]
def IW(b:Run (ev Γ a) st (k,.str y) st1)(c:st1[i]?=a5 (a5 (.J6,.J8 ks us))):Run (Kr Γ (.inD neg a i)) st (Vj neg y ks) st1 :=
 ae b (ae tY (ae (pS c) aP))
def GZ(b:Run (ev Γ c) st (.own,.lst xs) st1)(a:st1[i]?=a5 (a5 (.J6,.J8 ks us)))(d:Run (ev Γ e) st1 (k,.str y) st1)(g:y∉ks)(h:ks.length<cK)
  (j:Run (execs Γ ss) (st1.set i (a5 (.J6,.J8 (ks++[y]) (us++[.lst xs])))) f l):Run (execs Γ (.putD i e c::ss)) st f l:=by
 show gh ?_ j;show ae b (ae (pS a) (ae d (ae tY (ae (Dy a g h) aP))))
def G0(a:st[i]?=a5 (a5 (.J6,.J8 ks us)))(b:Run (ev Γ c) st (k,.str y) st)(d:y∈ks)(e:Run (ev Γ g) st r st)(h:Run (lift r) st u st)(j:cq ks us y=a5 (.lst xs))(l:xs.length<cK)
  (m:Run (execs Γ ss) (st.set i (a5 (.J6,.J8 ks (kq ks us y (.lst (xs++[u])))))) f n):Run (execs Γ (.Mr i c g::ss)) st f n:=by
 show gh ?_ m;show ae (pS a) (ae b (ae tY (ae (pS a) ?_)));rw[Ž d];show ae e (ae h (ae (Dz a j l) aP))
def IX(h:st[i]?=a5 (a5 (.J6,u))):Run (ev Γ (.QF i)) st (.bor i,u) (st.set i (a5 (.own,u))):=by
 change zm i st=_;unfold zm;rw[h]
def G1(c:st[i]?=a5 (a5 (.own,.J8 ks us)))(d:Run (ev Γ a) st (k,.str y) st)(e:Run (ev Γ b) st z st)(f:Run (lift z) st u st)(g:(match cq ks us y with|some v=>(Kd.loc,v)|none=>(.loc,u))=r):
  Run (ev Γ (.MN i a b)) st r st:=by
 show ae (dU c) (ae (a:=()) (st1:=st) rfl (ae d (ae (a:=y) (st1:=st) rfl (ae e (ae f (ae (dU c) (cC ?_)))))));subst g;rfl
def IY(b:st[i]?=a5 (a5 (.own,.lst us)))(d:Run (ev Γ e) st (k1,.int (j:Nat)) st)(c:us[j]?=a5 (.int o))(g:Run (ev Γ h) st (k2,.int w) st)
  (k:Run (execs Γ ss) (st.set i (a5 (.own,.lst (us.set j (.int (o - w)))))) f l):Run (execs Γ (.aug b8 i e h::ss)) st f l:=by
 have hl:qS i st=a5 (.ok us,st):=by unfold qS;rw[b];rfl
 have m:j<us.length:=(dt.mp c).1;have n:qT us (j:Nat)=a5 o:=by
  unfold qT;rw[Ž ⋯,OO,c]
 have p:ND us.length (j:Nat)=a5 j:=by
  unfold ND;rw[Ž ⋯]
  first|(rw[Ž ⋯];simp)|simp[m]
 show gh (ae (a:=us) (st1:=st) hl (ae d (ae (a:=(j:Int)) (st1:=st) rfl (ae (a:=us) (st1:=st) hl (ae (cC n) (ae g (ae (a:=w) (st1:=st) rfl (ae (a:=()) (st1:=st.set i (a5 (.own,.lst (us.set j (.int (o - w)))))) ?_ aP)))))))) k;change modS i (dH (.int (j:Nat)) (.int (xE b8 o w))) st=_;unfold modS;rw[b];simp only[Kd.root,if_true,dH];rw[p];rfl
def IZ(a:st[i]?=a5 (a5 (.own,u)))(b:zj u=a5 r):Run (ev Γ (.QG i)) st r st:=ae (dU a) (cC b)
end
theorem mw(f:Str->U)(y:Str):∀ks:List Str,cq ks (ks.map f) y=if y∈ks then a5 (f y) else b6
 |[]=>rfl
 |k::ks=>by
  rw[d3];change(if k=y then a5 (f k) else cq ks (ks.map f) y)=_;by_cases e:k=y
  .subst e;rw[Ž rfl,Ž (by simp)]
  .rw[ž e,mw f y ks];have:(y∈k::ks)↔y∈ks:=by simp[qP e]
   by_cases h:y∈ks
   .rw[Ž h,Ž (this.mpr h)]
   .rw[ž h,ž λz=>h (this.mp z)]
theorem rF(f:Str->U)(y:Str)(u:U):∀ks:List Str,ks.Nodup->kq ks (ks.map f) y u=ks.map λk=>if k=y then u else f k
 |[],_=>rfl
 |k::ks,h=>by
  have⟨b,c⟩:=mN.mp h;rw[d3,d3];change(if k=y then u::ks.map f else f k::kq ks (ks.map f) y u)=_;by_cases e:k=y
  .subst e;rw[Ž rfl,Ž rfl];congr 1
   show tr λz hz=>?_;have a:z≠k:=λq=>b (by rw[<-q];show hz);rw[ž a]
  .rw[ž e,ž e,rF f y u ks c]
abbrev stN(s:Str×Nat):U:=.tup [.str s.1,.int (s.2:Nat)]
theorem oi(f:α->Int):∀(ns:List α),intsOf (ns.map λa=>U.int (f a))=a5 (ns.map f)
 |[]=>rfl
 |n::ns=>by change(intsOf (ns.map λa=>U.int (f a))).map _=_;rw[oi f ns];rfl
def DA(h:ps.length<64)(c:(ps.map (·.1)).Nodup):∃a:List (Str×Nat),a.Perm ps/\zj (.J8 (ps.map (·.1)) (ps.map λp=>.int (p.2:Nat)))=a5 (.own,.lst (a.map stN)):=by
 have d:=oi (λp:Str×Nat=>((p.2:Nat):Int)) ps;have hz:(ps.map (·.1)).zip (ps.map λp:Str×Nat=>((p.2:Nat):Int))=ps.map λp=>(p.1,((p.2:Nat):Int)):=by
  rw[List.zip_map']
 let P:=eV ((ps.map λp=>(p.1,((p.2:Nat):Int))).map (·.1));have b:P.Perm (gs ps.length):=by
  have:=cj ((ps.map λp=>(p.1,((p.2:Nat):Int))).map (·.1));simpa[P] using this
 show⟨P.map λi=>ps.getD i (nH,0),?_,?_⟩
 .show(b.map _).trans ?_;have:(gs ps.length).map (λi=>ps.getD i (nH,0))=ps:=by
   apply LF
   .simp
   .intro i j e;simp[w6,e]
  rw[this]
 .change(intsOf (ps.map λp=>U.int (p.2:Nat))).bind _=_;rw[d];change(if (ps.map (·.1)).length<64/\(ps.map (·.1)).Nodup/\(ps.map (·.1)).length=(ps.map λp:Str×Nat=>((p.2:Nat):Int)).length then _ else _)=_;rw[Ž ⟨by simpa using h,c,by simp⟩,hz];congr 3
  change(Cr _).map xA=_;change(P.map λi=>(ps.map λp=>(p.1,((p.2:Nat):Int))).getD i (nH,0)).map xA=_;rw[i9,i9];show tr λi f=>?_;have g:i<ps.length:=rr.mp (b.mem_iff.mp f);simp[w6,g,xA,stN]
def Er(h:c4 (i<=j)=c):cB .le (.int i) (.int j)=a5 c:=by subst h;rfl
def tZ:cB .isin (.str x) (.J8 ks vs)=a5 (c4 (x∈ks)):=rfl
def gF:cB .Ki (.str x) (.J8 ks vs)=a5 (!c4 (x∈ks)):=rfl
def I_{ss:List Str}:cB .isin (.str x) (.lst (ss.map U.str))=a5 (c4 (x∈ss)):=by
 have h:=@gk x ss;have e:cB .Ki (.str x) (.lst (ss.map U.str))=(cB .isin (.str x) (.lst (ss.map U.str))).map (!·):=rfl;rw[e,d5]at h;have⟨b,a,c⟩:=h;rw[a];congr 1
 cases b<;>simp_all
def DB(bs:List Bool):Md .all [(k,.lst (bs.map .bl))]=a5 (.loc,.bl (bs.all id)):=by
 change(gU (bs.map U.bl)).map _=_;have:∀bs:List Bool,gU (bs.map U.bl)=a5 bs:=λbs=>by
  induction bs with
  |nil=>rfl
  |cons b bs a=>change(gU (bs.map U.bl)).map _=_;rw[a];rfl
 rw[this];rfl
mutual
theorem oj:∀(n:Nat) (u:U),K3 n u=b8->bR u u=b8
 |_,.Kb,_=>rfl
 |_,.bl b,_=>by simp[bR]
 |_,.int i,_=>by simp[bR]
 |_,.str x,_=>by simp[bR]
 |0,.tup xs,h=>by simp[K3]at h
 |0,.lst xs,h=>by simp[K3]at h
 |n+1,.tup xs,h=>by rw[bR];show iy n xs (by simpa[K3] using h)
 |n+1,.lst xs,h=>by rw[bR];show iy n xs (by simpa[K3] using h)
 |_,.J8 _ _,h=>by simp[K3]at h
theorem iy:∀(n:Nat) (us:List U),dG n us=b8->cA us us=b8
 |_,[],_=>rfl
 |n,u::us,h=>by
  have h':K3 n u=b8/\dG n us=b8:=by simpa[dG] using h
  rw[cA,oj n u h'.1,iy n us h'.2];rfl
end
def x8(h:K3 50 u=b8):cB .ne u u=a5 cc:=by
 simp only[cB];rw[Ž ⟨h,h⟩,oj 50 u h];rfl
section
def om{told known:List Str}(hk:k=.loc\/k=.any)(hl:told.length<=1000)(hs:Run (ev Γ src) st (.loc,.tup (told.map .str)) st)(hj:st[j]?=a5 (a5 (k,w))\/st[j]?=a5 (a5 (.own,w)))(a:∀x:Str,cB .isin (.str x) w=a5 (c4 (x∈known))):
  Run (ev Γ (.bi .all [.comp 1 cc .seq [src] [] (.cmp .isin (.var 0) (.var (j+1)))])) st (.loc,.bl (told.all λx=>c4 (x∈known))) st:=by
 have hsz:(1000:Nat)<=cK:=by decide
 have b:=jE (cond:=bb Γ []) (elt:=ev Γ (.cmp .isin (.var 0) (.var (j+1)))) (src:=[(.loc,.tup (told.map .str))]) (st:=st) trivial .loc (.inl rfl) U.str (λx=>.bl (c4 (x∈known))) .loc (λ_=>ja) told [] (by simp;lia)
  (λy _=>⟨by
   rcases hj with hj|hj
   .rcases hk with rfl|rfl
    .show i_ (af rfl) (af (by simpa using hj)) trivial (a y)
    .show i_ (af rfl) (bh (by simpa using hj)) trivial (a y)
   .show i_ (af rfl) (aE (by simpa using hj)) ⟨⟨.own,rfl,by simpa using hj⟩,trivial⟩ (a y),aA⟩)
 rw[lg]at b;have e:(told.map U.str).map (λu=>(kE .loc,u))=told.map λr=>(Kd.loc,U.str r):=by rw[i9];rfl
 have c:(told.map λx=>U.bl (c4 (x∈known)))=(told.map λx=>c4 (x∈known)).map U.bl:=by rw[i9];rfl
 rw[c]at b;have d:(told.all λx=>c4 (x∈known))=((told.map λx=>c4 (x∈known)).all id):=by rw[Ō];rfl
 rw[d];show c6 (aa (dY (rs:=[(.loc,.tup (told.map .str))]) (aa hs aj) trivial (by change a5 _=_;rw[e]) b) aj) trivial (DB _)
end
def v7(h:ks.length<1000)(a:x∉ks):dH (.str x) u (.J8 ks us)=a5 (.J8 (ks++[x]) (us++[u])):=by
 rw[vZ h];unfold dput;rw[ž a]
def mz(h:K3 50 (.lst us)=b8):cB .ne (.lst us) (.lst [])=a5 (!us.isEmpty):=by
 simp only[cB];rw[Ž ⟨h,by simp[K3,dG]⟩];cases us with
 |_=>simp[bR,cA]
theorem oo(f:α->Int):∀(l:List α) (n:Nat),dG n (l.map λa=>U.int (f a))=b8
 |[],n=>by simp[dG]
 |a::l,n=>by rw[d3,dG,oo f l n];simp[K3]
theorem rG:∀(ss:List (Str×Nat)) (n:Nat),dG (n+1) (ss.map stN)=b8
 |[],n=>by simp[dG]
 |s::ss,n=>by rw[d3,dG,rG ss n];simp[stN,K3,dG]
def DC:cB .eq (.tup (ss.map U.str)) (.tup [])=a5 (c4 (ss=[])):=by
 simp only[cB];rw[Ž ⟨by simp[K3,gD],by simp[K3,dG]⟩];cases ss with
 |_=>simp[bR,cA]
theorem jH{cond:M Bool}(h:bo src st)(a b g:α->U)(p:α->Bool):∀(c:List α) (acc:List U),acc.length+c.length<=cK ->
  (∀y∈c,Run cond (a5 (.loc,a y)::a5 (.loc,b y)::st) (p y) (a5 (.loc,a y)::a5 (.loc,b y)::st)/\Run elt (a5 (.loc,a y)::a5 (.loc,b y)::st) (.loc,g y) (a5 (.loc,a y)::a5 (.loc,b y)::st)) ->
  Run (bW 2 b8 cond elt src (c.map λy=>(Kd.loc,U.tup [a y,b y])) acc) st (acc++(c.filter p).map g) st
 |[],acc,_,_=>by rw[H8,R5,H8,ro];show vT h
 |y::c,acc,hl,f=>by
  have⟨d,j⟩:=f y (by simp);rw[kj]at hl;have i:Run (dN b8 (gs 2) (.loc,.tup [a y,b y])) (i8 2 b6++st) () (a5 (.loc,a y)::a5 (.loc,b y)::st):=mr (.inl rfl);cases e:p y with
  |true =>
   rw[e]at d;show pL (s1:=a5 (.loc,a y)::a5 (.loc,b y)::st) (s2:=a5 (.loc,a y)::a5 (.loc,b y)::st) (s3:=a5 (.loc,a y)::a5 (.loc,b y)::st) (s4:=a5 (.loc,a y)::a5 (.loc,b y)::st) h i d j aA ⋯ ?_;have:=jH h a b g p c (acc++[g y]) (by simp;lia) λz hz=>f z (by simp[hz]);rw[D7,Ž e,d3];simpa using this
  |false =>
   rw[e]at d;show Al (s1:=a5 (.loc,a y)::a5 (.loc,b y)::st) (s2:=a5 (.loc,a y)::a5 (.loc,b y)::st) h i d ?_;have:=jH h a b g p c acc ⋯ λz hz=>f z (by simp[hz]);rw[D7,ž (by simp[e])];show this
def set_range(n:Nat)(f:Nat->α)(t:Nat)(v:α):((gs n).map f).set t v=(gs n).map λp=>if p=t then v else f p:=by
 apply LF
 .simp
 .intro i a b;simp only[List.getElem_set,W3,List.getElem_range];by_cases e:t=i
  .subst e;simp
  .rw[ž e,ž (qP e)]
def v8{rows:List Row}{t:Nat}(h:rows[t]?=a5 r):K8 (rows.map A') (t:Int)=a5 (A' r):=iH (by simp[h])
section
def Ja(c:Run (ev Γ a) st x st1)(d:iR x.2=a5 e)(f:Run (ev Γ b) st1 y st2)(g:iR y.2=a5 h)(i:xB ln e h=a5 r):Run (ev Γ (.PV ln a b)) st r st2 :=
 ae c (ae (cC d) (ae f (ae (cC g) (cC i))))
end
def oq(h:ss.length<4000):iR (.lst (ss.map .str))=a5 (aJ ss):=by
 change(strsOf (ss.map U.str)).bind _=_;rw[dI];change(if ss.length+1<y1 then _ else _)=_;rw[Ž (by change ss.length+1<4096;lia)]
end TM
namespace TM
open PySem L2
section
def dw(h:st[i]?=a5 (a5 (.io,u))):Run (ev Γ (.var i)) st (.bor i,u) st:=dU h
end
abbrev G2:List S :=
   [.ite (.cmp .eq (.bi .len [.var 0]) (.cst (.int 0)))
      [.ret (.lst [.var 1,.cst (.int 0),.cst (.int 1)])]
      [],
    .set 2 (.pop 0),
    .ret (.lst [(.bin .PU (.var 2) (.cst (.int 2))),(.cst (.int 0)),(.bin .mod (.var 2) (.cst (.int 2)))])]
abbrev Av:Fn:=⟨"_law_source",2,3,.Nr [0]::G2⟩
def Xz:(3:Nat)<=cK:=by decide
def Aw:gK Γ Av [0] G2 [.lst [],.int k]=a5 (.ok (.own,.tup [.lst [.int k,.int 0,.int 1],.lst []])):=by
 show b_ (st0:=[a5 (.io,.lst []),a5 (.loc,.int k),b6]) (f:=.rt .own (.lst [.int k,.int 0,.int 1])) (st:=[a5 (.io,.lst []),a5 (.loc,.int k),b6]) rfl rfl ?_ rfl rfl;apply pK
 all_goals repeat' (first|show dw rfl|show bM (by simp)|show cE|show Xz|sizeOf_list_dec)
def Ax:gK Γ Av [0] G2 [.lst ((ns++[c]).map .int),.int k]=a5 (.ok (.own,.tup [.lst [.int (c / 2),.int 0,.int (c % 2)],.lst (ns.map .int)])):=by
 have hl:cB .eq (.int (((ns++[c]).map U.int).length:Nat)) (.int 0)=a5 cc:=bM (by simp;lia);have a:((ns++[c]).map U.int).dropLast=ns.map .int:=by simp
 have b:Run (ev Γ (.pop 0)) [a5 (.io,.lst ((ns++[c]).map .int)),a5 (.loc,.int k),b6] (.loc,.int c) [a5 (.io,.lst (ns.map .int)),a5 (.loc,.int k),b6]:=by
  have:=Em (Γ:=Γ) (st:=[a5 (.io,.lst ((ns++[c]).map .int)),a5 (.loc,.int k),b6]) (i:=0) (u:=.int c) (us:=(ns++[c]).map .int) (k:=.io) rfl rfl (by simp);rw[a]at this;show this
 show b_ (st0:=[a5 (.io,.lst ((ns++[c]).map .int)),a5 (.loc,.int k),b6]) (f:=.rt .own (.lst [.int (c / 2),.int 0,.int (c % 2)])) (st:=[a5 (.io,.lst (ns.map .int)),a5 (.loc,.int k),a5 (.loc,.int c)]) rfl rfl ?_ rfl rfl;show bA (st1:=[a5 (.io,.lst ((ns++[c]).map .int)),a5 (.loc,.int k),b6]) ?_ aB (aw (st2:=[a5 (.io,.lst (ns.map .int)),a5 (.loc,.int k),a5 (.loc,.int c)]) b aD ?_)
 all_goals repeat' (first|show dw rfl|show hl|show cE|show Xz|sizeOf_list_dec)
abbrev fM(a t w:Int):U:=.lst [.int a,.int t,.int w]
abbrev ot(a t w m:Int):Int:=if w=0 then a % m else((a % 10 ^ 15+1) * 48271+(t+1) * (t+1) * 16807+(t+1) * 7919) % 2147483647 * 69621 % 2147483629 % m
abbrev Ay(a w m:Int):Int:=if w=0 then a / m else a
abbrev Es:List S :=
   [.put 0 (.cst (.int 1)) (.bin .add (.idx (.var 0) (.cst (.int 1))) (.cst (.int 1))),
    .ite (.cmp .eq (.idx (.var 0) (.cst (.int 2))) (.cst (.int 0)))
      [.set 2 (.bin .mod (.idx (.var 0) (.cst (.int 0))) (.var 1)),
      .put 0 (.cst (.int 0)) (.bin .PU (.idx (.var 0) (.cst (.int 0))) (.var 1)),
      .ret (.var 2)]
      [],
    .set 3 (.idx (.var 0) (.cst (.int 1))),
    .set 4 (.bin .add (.bin .add (.bin .mul (.bin .add (.bin .mod (.idx (.var 0) (.cst (.int 0))) (.bin .pow (.cst (.int 10)) (.cst (.int 15)))) (.cst (.int 1))) (.cst (.int 48271))) (.bin .mul (.bin .mul (.var 3) (.var 3)) (.cst (.int 16807)))) (.bin .mul (.var 3) (.cst (.int 7919)))),
    .ret (.bin .mod (.bin .mod (.bin .mul (.bin .mod (.var 4) (.cst (.int 2147483647))) (.cst (.int 69621))) (.cst (.int 2147483629))) (.var 1))]
abbrev v9:Fn:=⟨"_law_draw",2,5,.Nr [0]::Es⟩
def Az(i:0<=t)(j:t<2 ^ 62)(m0:0<m)(m1:m<1073741824):gK Γ v9 [0] Es [fM a t w,.int m]=a5 (.ok (.loc,.tup [.int (ot a t w m),fM (Ay a w m) (t+1) w])):=by
 unfold ot Ay fM;have c:∀a t w:Int,K8 [U.int a,.int t,.int w] 0=a5 (.int a):=λa t w=>rfl;have d:∀a t w:Int,K8 [U.int a,.int t,.int w] 1=a5 (.int t):=λa t w=>rfl;have e:∀a t w:Int,K8 [U.int a,.int t,.int w] 2=a5 (.int w):=λa t w=>rfl;have g:∀a t w x:Int,dH (.int 1) (.int x) (.lst [.int a,.int t,.int w])=a5 (.lst [.int a,.int x,.int w]):=λa t w x=>rfl;have h:∀a t w x:Int,dH (.int 0) (.int x) (.lst [.int a,.int t,.int w])=a5 (.lst [.int x,.int t,.int w]):=λa t w x=>rfl;by_cases b:w=0
 .subst b;rw[Ž rfl,Ž rfl];show b_ (st0:=[a5 (.io,.lst [.int a,.int t,.int 0]),a5 (.loc,.int m),b6,b6,b6]) (f:=.rt .loc (.int (a % m))) (st:=[a5 (.io,.lst [.int (a / m),.int (t+1),.int 0]),a5 (.loc,.int m),a5 (.loc,.int (a % m)),b6,b6]) rfl rfl ?_ rfl rfl;show jd (rv:=(.loc,.int (t+1))) (rk:=(.loc,.int 1)) (k:=.io) (k':=.io) (bj (aQ (dw rfl) ah ∅ (cv (d _ _ _))) ah ∅ bV) rfl ah (ao aA (ao aA aC)) rfl rfl (g _ _ _ _) ?_;apply pK
  .repeat' (first|show dw rfl|show cv (e _ _ _)|show bM (show((0:Int)==0)=b8 from rfl)|sizeOf_list_dec)
  .show aw (st2:=[a5 (.io,.lst [.int a,.int (t+1),.int 0]),a5 (.loc,.int m),a5 (.loc,.int (a % m)),b6,b6]) (bj (aQ (dw rfl) ah ∅ (cv (c _ _ _))) (af rfl) ∅ (eF m0)) aD ?_;show jd (rv:=(.loc,.int (a / m))) (rk:=(.loc,.int 0)) (k:=.io) (k':=.io) (bj (aQ (dw rfl) ah ∅ (cv (c _ _ _))) (af rfl) ∅ (l9 ⟨m0,m1⟩)) rfl ah (ao aA (ao aA aC)) rfl rfl (h _ _ _ _) ?_
   repeat' sizeOf_list_dec
 .rw[ž b,ž b];show b_ (st0:=[a5 (.io,.lst [.int a,.int t,.int w]),a5 (.loc,.int m),b6,b6,b6]) (f:=.rt .loc (.int (((a % 10 ^ 15+1) * 48271+(t+1) * (t+1) * 16807+(t+1) * 7919) % 2147483647 * 69621 % 2147483629 % m))) (st:=[a5 (.io,.lst [.int a,.int (t+1),.int w]),a5 (.loc,.int m),b6,a5 (.loc,.int (t+1)),a5 (.loc,.int ((a % 10 ^ 15+1) * 48271+(t+1) * (t+1) * 16807+(t+1) * 7919))]) rfl rfl ?_ rfl rfl;show jd (rv:=(.loc,.int (t+1))) (rk:=(.loc,.int 1)) (k:=.io) (k':=.io) (bj (aQ (dw rfl) ah ∅ (cv (d _ _ _))) ah ∅ bV) rfl ah (ao aA (ao aA aC)) rfl rfl (g _ _ _ _) ?_;apply bA
  .repeat' (first|show dw rfl|show cv (e _ _ _)|show bM (show(w==0)=cc by simp[b])|sizeOf_list_dec)
  .show aB
  .repeat' (first|show dw rfl|show cv (c _ _ _)|show cv (d _ _ _)|show eF m0|sizeOf_list_dec)
abbrev Src(T:Int)(u:U):Prop:=∃a t w,u=fM a t w/\0<=t/\t<=T
def Src.up(h:Src T u)(l:T<=b):Src b u:=let ⟨a,t,w,e,c,d⟩:=h;⟨a,t,w,e,c,U2 d l⟩
abbrev bC(Γ:Tab):Prop:=∀(T m:Int) (u:U),Src T u->T<2 ^ 62->0<m->m<1073741824->∃n u',Γ "_law_draw" [u,.int m]=a5 (.ok (.loc,.tup [.int n,u']))/\0<=n/\n<m/\Src (T+1) u'
def rH(m0:0<m):0<=ot a t w m/\ot a t w m<m:=by
 unfold ot;split
 .show⟨Se _ ⋯,Tz _ m0⟩
 .show⟨Se _ ⋯,Tz _ m0⟩
def t9(h:KJ Pg "_law_draw" v9):bC (Kl Pg (d+1)):=by
 rintro T m u ⟨a,t,w,rfl,b,c⟩ e m0 m1;show⟨ot a t w m,fM (Ay a w m) (t+1) w,?_,(rH m0).1,(rH m0).2,⟨_,_,_,rfl,⋯,⋯⟩⟩;rw[cR h _ rfl];show Az b ⋯ m0 m1
section
def AA(o:bC Γ)(p:st[i]?=a5 (a5 (k0,b)))(f:k0.root=b8)(q:Run (ev Γ e) st (.loc,.int m) st1)(d:st1[i]?=a5 (a5 (k,u)))(hk:k.root=b8)(g:Src T u)(r:T<2 ^ 62)(m0:0<m)(m1:m<1073741824):
  ∃n u',Run (ev Γ (.J9 "_law_draw" [.var i,e] [0])) st (.loc,.int n) (st1.set i (a5 (k,u')))/\0<=n/\n<m/\Src (T+1) u':=by
 have⟨n,u',s,v,x,hs⟩:=o T m u g r m0 m1;show⟨n,u',?_,v,x,hs⟩;obtain⟨a,t,w,rfl,_,_⟩:=hs;obtain⟨a0,h,l,rfl,_,_⟩:=g;have y:Run (ev Γ (.var i)) st (.bor i,b) st:=by
  have:=dU p (by rintro rfl;cases f);unfold kv at this;rw[Ž f]at this;show this
 have c:[((Kd.bor i,b):Kd×U),(.loc,.int m)].map (eh st1)=[(.bor i,fM a0 h l),(.loc,.int m)]:=by
  change [eh st1 (.bor i,b),(.loc,.int m)]=_;unfold eh
  dsimp only
  rw[d];simp[hk]
 show tS (rs:=[(.bor i,b),(.loc,.int m)]) (ws:=[fM a t w]) (st1:=st1) (aa y (aa q aj)) ?_ ?_ (.inr rfl) ?_ ?_
 .rw[c];show⟨⟨k,hk,d⟩,trivial⟩
 .rw[c];show s
 .rw[c];change((b8&&c4 ([a5 i].Nodup))&&(b8&&(b8&&b8)))=b8;simp
 .rw[c];change(match ig [(Kd.bor i,fM a0 h l),(.loc,.int m)] 0 with|some j=>(match fM a t w,st1[j]? with|.lst us,a5 (a5 (k,_))=>gV _ [] [] (st1.set j (a5 (k,.lst us)))|_,_=>b6)|none=>b6)=_;change(match fM a t w,st1[i]? with|.lst us,a5 (a5 (k,_))=>gV _ [] [] (st1.set i (a5 (k,.lst us)))|_,_=>b6)=_;rw[d];rfl
def cS(b:bC Γ)(a:st[i]?=a5 (a5 (k,u)))(hk:k.root=b8)(c:Run (ev Γ e) st (.loc,.int m) st)(d:Src T u)(f:T<2 ^ 62)(m0:0<m)(m1:m<1073741824):
  ∃n u',Run (ev Γ (.J9 "_law_draw" [.var i,e] [0])) st (.loc,.int n) (st.set i (a5 (k,u')))/\0<=n/\n<m/\Src (T+1) u':=AA b a hk c a hk d f m0 m1
end
section
def fy(h:st[i]?=a5 (a5 (.loc,.bl b))):Run (Kr Γ (.var i)) st b st:=ae (dU h) (cC rfl)
end
abbrev AB:List S :=
   [.set 6 (.idx (.var 1) (.J9 "_law_draw" [.var 0,.bi .len [.var 1]] [0])),
   .ite (.and [.var 3,.cmp .gt (.var 2) (.cst (.int 0))])
    [.set 6 (.idx (.var 1) (.J9 "_law_draw" [.var 0,.var 2] [0]))]
    [],
   .ite (.cmp .Ki (.var 6) (.var 4))
    [.app 4 (.var 6)]
    []]
abbrev Jb:List U:=[.int 0,.int 1,.int 1,.int 2,.int 2,.int 3,.int 8,.int 2]
abbrev Jc:List S :=
   [.set 4 (.lst []),
    .Kt cc [5] .LM [.idx (.lst [.cst (.int 0),.cst (.int 1),.cst (.int 1),.cst (.int 2),.cst (.int 2),.cst (.int 3),.cst (.int 8),.cst (.int 2)]) (.J9 "_law_draw" [.var 0,.cst (.int 8)] [0])] AB,
    .ret (.tup [(.idx (.var 1) (.var 2)),(.bi .tuple [(.var 4)])])]
abbrev G3:Fn:=⟨"_law_row",4,7,.Nr [0]::Jc⟩
abbrev dZ(u:U)(ws:List Str)(at_:Int)(b:Bool)(told:List Str)(o5 o6:Option (Kd×U)):ay:=[a5 (.io,u),a5 (.any,.lst (ws.map .str)),a5 (.loc,.int at_),a5 (.loc,.bl b),a5 (.own,.lst (told.map .str)),o5,o6]
def pT{ws:List Str}{n:Int}(b:0<=n)(c:n<ws.length):∃x,x∈ws/\ws[n.toNat]?=a5 x/\K8 (ws.map U.str) n=a5 (.str x):=by
 have⟨k,rfl⟩:=u6 b;have a:k<ws.length:=by lia
 show⟨ws[k],Lx a,by simp[a],iH (by simp[a])⟩
def AD(j:bC Γ)(s:Src T u)(G:T+1<2 ^ 62)(H:ws.length<1000000)(a0:0<=at_)(I:at_<ws.length)(J:told.length<=8):
  ∃u' x a,Run (execs Γ AB) (dZ u ws at_ b told o5 o6) .nx (dZ u' ws at_ b a o5 (a5 (.any,.str x)))/\Src (T+2) u'/\(a=told\/(x∈ws/\x∉told/\a=told++[x])):=by
 have t:(8:Nat)<cK:=by decide
 have⟨n,d,v,w,l,s1⟩:=cS (st:=dZ u ws at_ b told o5 o6) j (i:=0) (k:=.io) (e:=.bi .len [.var 1]) (m:=((ws.map U.str).length:Nat)) rfl rfl (c6 (aa (bh rfl) aj) trivial cE) s ⋯ (by simp;lia) (by simp;lia);rw[c2]at l;obtain⟨x,A,_,ex⟩:=pT w l;have o:Run (ev Γ (.idx (.var 1) (.J9 "_law_draw" [.var 0,.bi .len [.var 1]] [0]))) (dZ u ws at_ b told o5 o6) (.any,.str x) (dZ d ws at_ b told o5 o6):=aQ (bh rfl) v trivial (cv (k:=.any) ex);have c:∀(u2:U) (y:Str),y∈ws->Src (T+2) u2->∃u' x a,Run (execs Γ [.ite (.cmp .Ki (.var 6) (.var 4)) [.app 4 (.var 6)] []]) (dZ u2 ws at_ b told o5 (a5 (.any,.str y))) .nx (dZ u' ws at_ b a o5 (a5 (.any,.str x)))/\Src (T+2) u'/\(a=told\/(x∈ws/\x∉told/\a=told++[x])):=by
  intro u2 y f hs;by_cases g:y∈told
  .show⟨u2,y,told,?_,hs,.inl rfl⟩;show bA (aK (bh rfl) (aE rfl) ∅ (gk.trans (by simp[g]))) aB aB
  .show⟨u2,y,told++[y],?_,hs,.inr ⟨f,g,rfl⟩⟩;show cH (aK (bh rfl) (aE rfl) ∅ (gk.trans (by simp[g]))) (dX (k:=.own) (k':=.own) rfl (bh rfl) (rh rfl) rfl rfl (by simp;lia) aB) ?_;rw[show told.map U.str++[U.str y]=(told++[y]).map U.str by simp];show aB
 by_cases p:b=b8/\0<at_
 .have⟨rfl,r⟩:=p;have⟨L,u2,B,h,C,s2⟩:=cS (st:=dZ d ws at_ b8 told o5 (a5 (.any,.str x))) j (i:=0) (k:=.io) (e:=.var 2) (m:=at_) rfl rfl (af rfl) s1 ⋯ r ⋯;obtain⟨y,f,_,D⟩:=pT (ws:=ws) h ⋯;have⟨u',z,a,q,hs,ho⟩:=c u2 y f (s2.up ⋯);show⟨u',z,a,aw o j3 (cH (jZ (l8 (fy rfl) (fu (aK (af rfl) ah trivial (g9 (by simp[r])))))) (aw (aQ (bh rfl) B trivial (cv (k:=.any) D)) j3 aB) q),hs,ho⟩
 .have⟨u',z,a,q,hs,ho⟩:=c d x A (s1.up ⋯);show⟨u',z,a,aw o j3 (bA (st1:=dZ d ws at_ b told o5 (a5 (.any,.str x))) (jZ ?_) aB q),hs,ho⟩;cases b with
  |false=>show tP (fy rfl)
  |true=>show l8 (fy rfl) (fu (aK (af rfl) ah trivial (g9 (by simp at p ⊢;lia))))
abbrev mB(Γ:Tab):Prop:=∀(T at_:Int) (u:U) (ws:List Str) (b:Bool),Src T u->T+17<2 ^ 62->ws.length<1000000->0<=at_->at_<ws.length->∃(x:Str) (told:List Str) (u':U),Γ "_law_row" [u,.lst (ws.map .str),.int at_,.bl b]=a5 (.ok (.loc,.tup [.tup [.str x,.tup (told.map .str)],u']))/\ws[at_.toNat]?=a5 x/\told.Nodup/\(∀y∈told,y∈ws)/\told.length<=8/\Src (T+17) u'
def DE(a:0<=n)(b:n<8):∃m:Nat,m<=8/\K8 Jb n=a5 (.int (m:Nat)):=by
 have⟨k,rfl⟩:=u6 a;have:k=0\/k=1\/k=2\/k=3\/k=4\/k=5\/k=6\/k=7:=by lia
 rcases this with rfl|rfl|rfl|rfl|rfl|rfl|rfl|rfl
 .show⟨0,⋯,rfl⟩
 .show⟨1,⋯,rfl⟩
 .show⟨1,⋯,rfl⟩
 .show⟨2,⋯,rfl⟩
 .show⟨2,⋯,rfl⟩
 .show⟨3,⋯,rfl⟩
 .show⟨8,⋯,rfl⟩
 .show⟨2,⋯,rfl⟩
def DF(l:bC Γ){ws:List Str}{T at_:Int}(o:Src T u)(hT:T+17<2 ^ 62)(A:ws.length<1000000)(a0:0<=at_)(p:at_<ws.length):
  ∃(x:Str) (told:List Str) (u':U),gK Γ G3 [0] Jc [u,.lst (ws.map .str),.int at_,.bl b]=a5 (.ok (.loc,.tup [.tup [.str x,.tup (told.map .str)],u']))/\ws[at_.toNat]?=a5 x/\told.Nodup/\(∀y∈told,y∈ws)/\told.length<=8/\Src (T+17) u':=by
 have B:(8:Nat)<cK:=by decide
 obtain⟨x,_,C,ex⟩:=pT a0 p;have⟨n,s,D,G,H,s1⟩:=cS (st:=dZ u ws at_ b [] b6 b6) l (i:=0) (k:=.io) (e:=.cst (.int 8)) (m:=8) rfl rfl ah o ⋯ ⋯ ⋯;have⟨m,hm,em⟩:=DE G H;obtain⟨st',I,u2,told,o5,o6,rfl,s2,g,j,v,_⟩:=cw (rs:=[(.loc,.int (m:Nat))]) (t:=cc) (is:=[5]) (body:=execs Γ AB) (λi:Nat=>(Kd.loc,U.int (0+(i:Int)))) (λd r st=>∃(u2:U) (told:List Str) (o5 o6:Option (Kd×U)),st=dZ u2 ws at_ b told o5 o6/\Src (T+1+2 * (d.length:Nat)) u2/\told.Nodup/\(∀y∈told,y∈ws)/\told.length<=d.length/\d.length+r.length=m)
  (λd r st _=>trivial) (λd y r st h=>by
   have⟨u2,told,o5,o6,rfl,s2,g,j,v,J⟩:=h;simp only[kj]at J;have⟨L,z,N,q,s3,ho⟩:=AD l (u:=u2) (ws:=ws) (told:=told) (b:=b) (at_:=at_) (o5:=a5 (.loc,.int (0+(y:Int)))) (o6:=o6) s2 ⋯ A a0 p ⋯;show⟨dZ u2 ws at_ b told (a5 (.loc,.int (0+(y:Int)))) o6,_,aD,q,L,N,_,_,rfl,s3.up (by simp;lia),?_⟩;rw[hH,rz];rcases ho with rfl|⟨O,Q,rfl⟩
   .show⟨g,j,⋯,⋯⟩
   .show⟨ri.mpr ⟨g,by simp,λa Y c w=>by rw[i3]at w;subst w;show λe=>Q (e▸Y)⟩,λy hy=>?_,by simp;lia,⋯⟩;rcases ke.mp hy with hy|hy
    .show j y hy
    .rw[i3]at hy;subst hy;show O) (gs m) [] (dZ s ws at_ b [] b6 b6) ⟨s,[],b6,b6,rfl,by simpa using s1,by simp,by simp,by simp,by simp⟩
 rw[lg,uv]at s2 v;show⟨x,told,u2,?_,C,g,j,⋯,s2.up ⋯⟩;show b_ (st0:=[a5 (.io,u),a5 (.any,.lst (ws.map .str)),a5 (.loc,.int at_),a5 (.loc,.bl b),b6,b6,b6]) (f:=.rt .loc (.tup [.str x,.tup (told.map .str)])) (st:=dZ u2 ws at_ b told o5 o6) rfl ?_ ?_ rfl rfl
 .obtain⟨_,_,_,rfl,_⟩:=o;rfl
 show aw (st2:=dZ u ws at_ b [] b6 b6) (bO aj trivial aC (kr _)) ba ?_;show c7 (rs:=[(.loc,.int (m:Nat))]) (aa (aQ (x:=(.own,.lst Jb)) (bO (by repeat (first|show aj|show aa ah (by assumption)|apply aa ah)) (by show trivial) (by repeat (first|show aC|apply ao aA)) (by decide)) D trivial (cv em)) aj) trivial (jD ⋯) rfl I ?_;show bL (cQ (aa (aQ (bh rfl) (af rfl) trivial (cv (k:=.any) ex)) (aa (c6 (aa (aE rfl) aj) ∅ rfl) aj)) trivial (ao (rh rfl) (ao aA aC)) (by change 2<=cK;lia)) fb
def Jd(a:bC (Kl Pg d))(h:KJ Pg "_law_row" G3):mB (Kl Pg (d+1)):=by
 intro T at_ u ws b c f g a0 i;have⟨x,told,u',e,r⟩:=DF a (b:=b) c f g a0 i;show⟨x,told,u',by rw[cR h _ rfl];show e,r⟩
abbrev Et:List S :=
   [.ite (.and [.cmp .eq (.idx (.var 2) (.cst (.int 0))) (.idx (.var 1) (.cst (.int 0))),.cmp .eq (.bi .sorted [.idx (.var 2) (.cst (.int 1))]) (.bi .sorted [.idx (.var 1) (.cst (.int 1))])])
    [.Nk]
    []]
abbrev Je:List S:=[.Kt cc [2] .seq [.var 0] Et,.app 0 (.var 1)]
abbrev DG:Fn:=⟨"_law_lay",2,3,.Nr [0]::Je⟩
abbrev g_(rs:List Row)(r:Row)(o:Option (Kd×U)):ay:=[a5 (.io,.lst (rs.map A')),a5 (.loc,A' r),o]
abbrev layR(rs:List Row)(r:Row):List Row:=if keyOf r∈rs.map keyOf then rs else rs++[r]
def AE(c:x.2.length<64)(d:r.2.length<64):Run (Kr Γ (.and [.cmp .eq (.idx (.var 2) (.cst (.int 0))) (.idx (.var 1) (.cst (.int 0))),.cmp .eq (.bi .sorted [.idx (.var 2) (.cst (.int 1))]) (.bi .sorted [.idx (.var 1) (.cst (.int 1))])])) (g_ rs r (a5 (.loc,A' x))) (c4 (keyOf x=keyOf r)) (g_ rs r (a5 (.loc,A' x))):=by
 have a:∀y:Row,gI (.loc,A' y) (.int 0)=a5 (.loc,.str y.1):=λy=>rfl;have b:∀y:Row,gI (.loc,A' y) (.int 1)=a5 (.loc,.tup (y.2.map .str)):=λy=>rfl;have f:Run (Kr Γ (.cmp .eq (.idx (.var 2) (.cst (.int 0))) (.idx (.var 1) (.cst (.int 0))))) (g_ rs r (a5 (.loc,A' x))) (c4 (x.1=r.1)) (g_ rs r (a5 (.loc,A' x))):=aK (aQ (af rfl) ah trivial (a x)) (aQ (af rfl) ah trivial (a r)) trivial vX;have g:Run (Kr Γ (.cmp .eq (.bi .sorted [.idx (.var 2) (.cst (.int 1))]) (.bi .sorted [.idx (.var 1) (.cst (.int 1))]))) (g_ rs r (a5 (.loc,A' x))) (c4 (aU x.2=aU r.2)) (g_ rs r (a5 (.loc,A' x))):=aK (c6 (aa (aQ (af rfl) ah trivial (b x)) aj) trivial (sorted_strs c)) (c6 (aa (aQ (af rfl) ah trivial (b r)) aj) trivial (sorted_strs d)) trivial Ap;have e:c4 (keyOf x=keyOf r)=(c4 (x.1=r.1)&&c4 (aU x.2=aU r.2)):=by
  rw[<-Bool.decide_and];show decide_eq_decide.mpr (by unfold keyOf;show X_ ..▸Iff.rfl)
 rw[e];show jZ (tU f λ_=>fu g)
def G4:Run (execs Γ (.Nk::ss)) st (.rt .loc .Kb) st:=mU (aP)
theorem rJ(b:r.2.length<64):∀(xs:List Row) (o:Option (Kd×U)),(∀x∈xs,x.2.length<64) ->
  ∃o',Run (forM cc [2] (execs Γ Et) [(.bor 0,.lst (rs.map A'))] (xs.map λx=>(Kd.loc,A' x))) (g_ rs r o) (if keyOf r∈xs.map keyOf then .rt .loc .Kb else .nx) (g_ rs r o')
 |[],o,_=>⟨o,by rw[ž (by simp)];show vS ⟨⟨_,rfl,rfl⟩,trivial⟩⟩
 |x::xs,o,h=>by
  have a:=AE (Γ:=Γ) (rs:=rs) (h x (by simp)) b;by_cases hk:keyOf x=keyOf r
  .show⟨a5 (.loc,A' x),?_⟩;rw[Ž (by simp[hk])];rw[Α hk]at a;show J2 ⟨⟨_,rfl,rfl⟩,trivial⟩ aD (pK a G4)
  .rw[ſ hk]at a;have⟨o',q⟩:=rJ (Γ:=Γ) (rs:=rs) b xs (a5 (.loc,A' x)) λy c=>h y (by simp[c]);show⟨o',?_⟩;have d:(keyOf r∈(x::xs).map keyOf)↔(keyOf r∈xs.map keyOf):=by
    rw[d3,d6];show⟨λz=>z.resolve_left λe=>hk e.symm,.inr⟩
   rw[show(if keyOf r∈(x::xs).map keyOf then Fl.rt .loc .Kb else Fl.nx)=(if keyOf r∈xs.map keyOf then Fl.rt .loc .Kb else Fl.nx) by simp only[d]];show Dt ⟨⟨_,rfl,rfl⟩,trivial⟩ aD (bA a aB aB) q
def DH(b:r.2.length<64)(h:∀x∈rs,x.2.length<64)(hl:rs.length<1000):gK Γ DG [0] Je [.lst (rs.map A'),A' r]=a5 (.ok (.loc,.tup [.Kb,.lst ((layR rs r).map A')])):=by
 have c:(1000:Nat)<cK:=by decide
 have⟨o',q⟩:=rJ (Γ:=Γ) b rs b6 h;have hs:cY [0] [.lst (rs.map A'),A' r] DG.ns=g_ rs r b6:=by
  change [a5 (Kd.io,U.lst (rs.map A')),a5 (if Kw (A' r)=b8 then Kd.loc else Kd.any,A' r),b6]=_;rw[Ž (pN r)];rfl
 have a:Mg .seq [(Kd.bor 0,U.lst (rs.map A'))]=a5 (rs.map λx=>(Kd.loc,A' x)):=by
  change a5 ((rs.map A').map λu=>(kE (.bor 0),u))=_;rw[i9];rfl
 unfold layR;by_cases hk:keyOf r∈rs.map keyOf
 .rw[Ž hk]at q ⊢;show b_ (f:=.rt .loc .Kb) rfl hs (mU (El (aa (dw rfl) aj) ⟨⟨_,rfl,rfl⟩,trivial⟩ a rfl q)) rfl rfl
 .rw[ž hk]at q ⊢;show b_ (f:=.nx) (st:=g_ (rs++[r]) r o') rfl hs (c7 (aa (dw rfl) aj) ⟨⟨_,rfl,rfl⟩,trivial⟩ a rfl q (dX (k:=.io) (k':=.io) rfl (af rfl) aA rfl rfl (by simp;lia) ?_)) rfl rfl;rw[show rs.map A'++[A' r]=(rs++[r]).map A' by simp];show aB
abbrev mC(Γ:Tab):Prop:=∀(rs:List Row) (r:Row),r.2.length<64->(∀x∈rs,x.2.length<64)->rs.length<1000->Γ "_law_lay" [.lst (rs.map A'),A' r]=a5 (.ok (.loc,.tup [.Kb,.lst ((layR rs r).map A')]))
def Jf(h:KJ Pg "_law_lay" DG):mC (Kl Pg (d+1)):=λrs r a b hl=>by
 rw[cR h _ rfl];show DH a b hl
abbrev Tn:Kd×U->Bool
 |(.bor _,_)=>cc
 |_=>b8
section
def AF(h:Tn r=b8):eh st r=r:=by
 have⟨k,u⟩:=r;cases k<;>first|rfl|cases h
def x9(h:Tn r=b8):qO a r=b8:=by
 have⟨k,u⟩:=r;cases k<;>first|rfl|cases h
def AG(h:rs.all Tn=b8):bo rs st:=by
 induction rs with
 |nil=>trivial
 |cons r rs a =>
  have⟨k,u⟩:=r;rw[Ĺ,cb]at h;have:=a h.2;cases k<;>first|show this|cases h.1
def DI(j:st[i]?=a5 (a5 (k0,a)))(g:k0.root=b8)(l:Run (bp Γ es) st rs st1)(c:st1[i]?=a5 (a5 (k,.lst us)))(hk:k.root=b8)(m:cm us=b8)(n:rs.map (eh st1)=rs)(o:bo rs st1)(p:∀r∈rs,qO [a5 i] r=b8)
  (s:Γ f (.lst us::rs.map (·.2))=a5 (.ok (d,.tup [v,.lst h]))) (t:d=.own\/d=.loc):Run (ev Γ (.J9 f (.var i::es) [0])) st (d,v) (st1.set i (a5 (k,.lst h))):=by
 have u:Run (ev Γ (.var i)) st (.bor i,a) st:=by
  have:=dU j (by rintro rfl;cases g);unfold kv at this;rw[Ž g]at this;show this
 have w:eh st1 (.bor i,a)=(.bor i,.lst us):=by
  unfold eh
  dsimp only
  rw[c];simp[hk]
 have b:((Kd.bor i,a)::rs).map (eh st1)=(.bor i,.lst us)::rs:=by rw[d3,w,n]
 have e:ig ((Kd.bor i,U.lst us)::rs) 0=a5 i:=by
  change(if cm us=b8 then a5 i else b6)=_;rw[Ž m]
 show tS (rs:=(.bor i,a)::rs) (ws:=[.lst h]) (st1:=st1) (aa u l) ?_ ?_ t ?_ ?_
 .rw[b];show⟨⟨k,hk,c⟩,o⟩
 .rw[b];show s
 .rw[b];unfold qQ;rw[cb,cb];show⟨⟨by simp[e],by simp⟩,i6.mpr λq x=>?_⟩;cases q with
  |zero=>simp
  |succ q =>
   have hl:q<rs.length:=by have:=rr.mp x;simpa using this
   rw[KR];show .inr ?_;rw[show((Kd.bor i,U.lst us)::rs).getD (q+1) (.loc,.Kb)=rs[q] by simp[w6,hl]];simp only[d3,H8,e];show p _ (Lx hl)
 .rw[b];unfold gV;rw[e]
  dsimp only
  rw[c];rfl
def iz(d:st[i]?=a5 (a5 (k0,o)))(e:k0.root=b8)(g:Run (bp Γ es) st rs st1)(h:st1[i]?=a5 (a5 (k,.lst us)))(hk:k.root=b8)(j:cm us=b8)(a:rs.all Tn=b8)
  (l:Γ f (.lst us::rs.map (·.2))=a5 (.ok (b,.tup [v,.lst m]))) (n:b=.own\/b=.loc):Run (ev Γ (.J9 f (.var i::es) [0])) st (b,v) (st1.set i (a5 (k,.lst m))) :=
 DI d e g h hk j ((tr λr c=>AF (i6.mp a r c)).trans (Õ rs)) (AG a) (λr c=>x9 (i6.mp a r c)) l n
end
section
def AH(q:mB Γ){ws:List Str}(d:st[i]?=a5 (a5 (k0,G)))(f:k0.root=b8)(g:st[j]?=a5 (a5 (kw,.lst (ws.map .str))))(c:kw=.loc\/kw=.any)(h:Run (ev Γ e) st (.loc,.int at_) st1)(l:Run (ev Γ t) st1 (.loc,.bl b) st2)
  (m:st2[i]?=a5 (a5 (k,u))) (hk:k.root=b8) (n:Src T u) (s:T+17<2 ^ 62) (v:ws.length<1000000) (a0:0<=at_) (z:at_<ws.length) :
  ∃(r:Row) (u':U),Run (ev Γ (.J9 "_law_row" [.var i,.var j,e,t] [0])) st (.loc,A' r) (st2.set i (a5 (k,u')))/\ws[at_.toNat]?=a5 r.1/\r.2.Nodup/\(∀y∈r.2,y∈ws)/\r.2.length<=8/\Src (T+17) u':=by
 have⟨x,told,u',o,A,B,C,D,p⟩:=q T at_ u ws b n s v a0 z;show⟨(x,told),u',?_,A,B,C,D,p⟩;obtain⟨a,t',w,rfl,_,_⟩:=n;obtain⟨H,I,J,rfl,_,_⟩:=p;rcases c with rfl|rfl
 .show iz (rs:=[(.loc,.lst (ws.map .str)),(.loc,.int at_),(.loc,.bl b)]) d f (aa (af g) (aa h (aa l aj))) m hk rfl rfl o (.inr rfl)
 .show iz (rs:=[(.any,.lst (ws.map .str)),(.loc,.int at_),(.loc,.bl b)]) d f (aa (bh g) (aa h (aa l aj))) m hk rfl rfl o (.inr rfl)
def AI(a:mC Γ)(b:st[i]?=a5 (a5 (k0,j)))(c:k0.root=b8)(d:Run (ev Γ e) st (.loc,A' r) st1)(f:st1[i]?=a5 (a5 (k,.lst (rs.map A'))))(hk:k.root=b8)(g:r.2.length<64)(h:∀x∈rs,x.2.length<64)(hl:rs.length<1000):
  Run (ev Γ (.J9 "_law_lay" [.var i,e] [0])) st (.loc,.Kb) (st1.set i (a5 (k,.lst ((layR rs r).map A')))) :=
 iz (rs:=[(.loc,A' r)]) b c (aa d aj) f hk (bq rs) rfl (a rs r g h hl) (.inr rfl)
def Eu(a:Run (ev Γ e) st r st1)(b:Run (execs Γ ss) st1 f st2):Run (execs Γ (.exp e::ss)) st f st2:=gh (ae a aP) b
abbrev jg(Γ:Tab):Prop:=(∀k:Int,Γ "_law_source" [.lst [],.int k]=a5 (.ok (.own,.tup [fM k 0 1,.lst []])))/\∀(ns:List Int) (c k:Int),Γ "_law_source" [.lst ((ns++[c]).map .int),.int k]=a5 (.ok (.own,.tup [fM (c / 2) 0 (c % 2),.lst (ns.map .int)]))
def AJ(h:KJ Pg "_law_source" Av):jg (Kl Pg (d+1)):=⟨λk=>by rw[cR h _ rfl];show Aw,λns c k=>by rw[cR h _ rfl];show Ax⟩
theorem gG:∀ns:List Int,cm (ns.map U.int)=b8
 |[]=>rfl
 |n::ns=>by change(b8&&cm (ns.map U.int))=b8;rw[gG ns];rfl
def AK(a:jg Γ)(b:st[i]?=a5 (a5 (k0,h)))(d:k0.root=b8)(f:Run (ev Γ e) st (.loc,.int m) st1)(g:st1[i]?=a5 (a5 (k,.lst ((ns++[c]).map .int))))(hk:k.root=b8):
  Run (ev Γ (.J9 "_law_source" [.var i,e] [0])) st (.own,fM (c / 2) 0 (c % 2)) (st1.set i (a5 (k,.lst (ns.map .int)))) :=
 iz (rs:=[(.loc,.int m)]) b d (aa f aj) g hk (gG _) rfl (a.2 ns c m) (.inl rfl)
def G5(a:jg Γ)(b:st[i]?=a5 (a5 (k0,g)))(c:k0.root=b8)(d:Run (ev Γ e) st (.loc,.int m) st1)(f:st1[i]?=a5 (a5 (k,.lst [])))(hk:k.root=b8):
  Run (ev Γ (.J9 "_law_source" [.var i,e] [0])) st (.own,fM m 0 1) (st1.set i (a5 (k,.lst []))) :=
 iz (rs:=[(.loc,.int m)]) b c (aa d aj) f hk rfl rfl (a.1 m) (.inl rfl)
end
abbrev t_:List S :=
   [.set 6 (.J9 "_law_draw" [.var 1,.bi .len [.var 2]] [0]),
   .ite (.cmp .eq (.var 4) (.cst (.int 3)))
    [.set 6 (.bin .mod (.var 5) (.bi .len [.var 2]))]
    [],
   .exp (.J9 "_law_lay" [(.var 3),(.J9 "_law_row" [(.var 1),(.var 2),(.var 6),(.cmp .gt (.var 4) (.cst (.int 1)))] [0])] [0])]
abbrev uc:List S :=
   [.set 7 (.J9 "_law_source" [.var 0,.cst (.int 0)] [0]),
   .exp (.J9 "_law_lay" [(.var 3),(.J9 "_law_row" [(.var 7),(.var 2),(.J9 "_law_draw" [(.var 7),(.bi .len [(.var 2)])] [0]),(.cmp .eq (.var 4) (.cst (.int 2)))] [0])] [0])]
abbrev dq(ns:List Int)(u:U)(ws:List Str)(rs:List Row)(way:Int)(o5 o6 o7:Option (Kd×U)):ay:=[a5 (.io,.lst (ns.map .int)),a5 (.io,u),a5 (.any,.lst (ws.map .str)),a5 (.own,.lst (rs.map A')),a5 (.loc,.int way),o5,o6,o7]
abbrev aX(ws:List Str)(r:Row):Prop:=r.1∈ws/\r.2.Nodup/\(∀y∈r.2,y∈ws)/\r.2.length<=8
abbrev dk(ws:List Str)(rs:List Row):Prop:=(∀r∈rs,aX ws r)/\(rs.map keyOf).Nodup
def dk.lay(h:dk ws rs)(d:aX ws r):dk ws (layR rs r):=by
 unfold layR;split
 .show h
 .rename_i hk;show⟨λx hx=>?_,?_⟩
  .rcases ke.mp hx with hx|hx
   .show h.1 x hx
   .rw[i3]at hx;subst hx;show d
  .rw[ki];show ri.mpr ⟨h.2,by simp,λa f c b=>by rw[To,i3]at b;subst b;show λe=>hk (e▸f)⟩
def rK:(layR rs r).length<=rs.length+1:=by
 unfold layR;split
 .lia
 .simp
def x_(s:bC Γ)(v:mB Γ)(w:mC Γ){k:Nat}(y:Src T u)(N:T+18<2 ^ 62)(O:0<ws.length)(z:ws.length<1000000)(h:dk ws rs)(hl:rs.length<1000):
  ∃u' a c,Run (execs Γ t_) (dq ns u ws rs way (a5 (.loc,.int (0+(k:Int)))) o6 o7) .nx (dq ns u' ws a way (a5 (.loc,.int (0+(k:Int)))) c o7)/\Src (T+18) u'/\dk ws a/\a.length<=rs.length+1:=by
 have⟨n,f,l,A,o,s1⟩:=cS (st:=dq ns u ws rs way (a5 (.loc,.int (0+(k:Int)))) o6 o7) s (i:=1) (k:=.io) (e:=.bi .len [.var 2]) (m:=((ws.map U.str).length:Nat)) rfl rfl (c6 (aa (bh rfl) aj) trivial cE) y ⋯ (by simp;lia) (by simp;lia);rw[c2]at o;have d:∀at_:Int,0<=at_->at_<ws.length->∃u' a c,Run (execs Γ [.exp (.J9 "_law_lay" [.var 3,.J9 "_law_row" [.var 1,.var 2,.var 6,.cmp .gt (.var 4) (.cst (.int 1))] [0]] [0])]) (dq ns f ws rs way (a5 (.loc,.int (0+(k:Int)))) (a5 (.loc,.int at_)) o7) .nx (dq ns u' ws a way (a5 (.loc,.int (0+(k:Int)))) c o7)/\Src (T+18) u'/\dk ws a/\a.length<=rs.length+1:=by
  intro at_ a0 B;have⟨r,u2,q,C,D,G,H,I⟩:=AH (st:=dq ns f ws rs way (a5 (.loc,.int (0+(k:Int)))) (a5 (.loc,.int at_)) o7) (st1:=dq ns f ws rs way (a5 (.loc,.int (0+(k:Int)))) (a5 (.loc,.int at_)) o7) (st2:=dq ns f ws rs way (a5 (.loc,.int (0+(k:Int)))) (a5 (.loc,.int at_)) o7) v (i:=1) (j:=2) (e:=.var 6) (t:=.cmp .gt (.var 4) (.cst (.int 1))) (k0:=.io) (k:=.io) (kw:=.any) (b:=c4 (1<way)) rfl rfl rfl (.inr rfl) (af rfl) (i_ (af rfl) ah trivial (g9 rfl)) rfl rfl s1 ⋯ z a0 B;have J:aX ws r:=⟨mh C,D,G,H⟩
  show⟨u2,layR rs r,_,Eu (AI w (k0:=.own) (k:=.own) (rs:=rs) rfl rfl q rfl rfl ⋯ (λx L=>by have:=(h.1 x L).2.2.2;lia) hl) aB,I.up ⋯,h.lay J,rK⟩
 by_cases p:way=3
 .subst p;have⟨u',a,c,q,g⟩:=d ((0+(k:Int)) % (ws.length:Nat)) (Se _ ⋯) (Tz _ ⋯);show⟨u',a,c,aw l aD (cH (aK (af rfl) ah trivial (bM rfl)) (aw (bj (af rfl) (c6 (aa (bh rfl) aj) trivial cE) trivial (eF (by simp;lia))) aD aB) ?_),g⟩;rw[c2];show q
 .have⟨u',a,c,q,g⟩:=d n A o;show⟨u',a,c,aw l aD (bA (aK (af rfl) ah trivial (bM (by simp[p]))) aB q),g⟩
def ya(l:jg Γ)(o:bC Γ)(p:mB Γ)(s:mC Γ)(J:0<ws.length)(w:ws.length<1000000)(d:dk ws rs)(hl:rs.length<1000):
  ∃a y,Run (execs Γ uc) (dq (ns++[c]) u ws rs way o5 o6 o7) .nx (dq ns u ws a way o5 o6 y)/\dk ws a/\a.length<=rs.length+1:=by
 have f:=AK (st:=dq (ns++[c]) u ws rs way o5 o6 o7) (st1:=dq (ns++[c]) u ws rs way o5 o6 o7) l (i:=0) (k0:=.io) (k:=.io) (e:=.cst (.int 0)) (m:=0) rfl rfl ah rfl rfl;have s0:Src 0 (fM (c / 2) 0 (c % 2)):=⟨_,_,_,rfl,⋯,⋯⟩
 generalize fM (c / 2) 0 (c % 2)=v at f s0;have⟨n,g,z,A,h,s1⟩:=cS (st:=dq ns u ws rs way o5 o6 (a5 (.own,v))) o (i:=7) (k:=.own) (e:=.bi .len [.var 2]) (m:=((ws.map U.str).length:Nat)) rfl rfl (c6 (aa (bh rfl) aj) trivial cE) s0 ⋯ (by simp;lia) (by simp;lia);rw[c2]at h;have⟨r,u2,q,B,C,D,G,L⟩:=AH (st:=dq ns u ws rs way o5 o6 (a5 (.own,v))) (st1:=dq ns u ws rs way o5 o6 (a5 (.own,g))) (st2:=dq ns u ws rs way o5 o6 (a5 (.own,g))) p (i:=7) (j:=2) (t:=.cmp .eq (.var 4) (.cst (.int 2))) (k0:=.own) (k:=.own) (kw:=.any) (b:=(way==2)) rfl rfl rfl (.inr rfl) z (i_ (af rfl) ah trivial (bM rfl)) rfl rfl s1 ⋯ w A h;have H:aX ws r:=⟨mh B,C,D,G⟩
 show⟨layR rs r,a5 (.own,u2),aw (st2:=dq ns u ws rs way o5 o6 (a5 (.own,v))) f ba (Eu (AI s (k0:=.own) (k:=.own) (rs:=rs) rfl rfl q rfl rfl ⋯ (λx I=>by have:=(d.1 x I).2.2.2;lia) hl) aB),d.lay H,rK⟩
abbrev ud:E:=.and [.cmp .gt (.bi .len [.var 0]) (.cst (.int 0)),.cmp .lt (.bi .len [.var 3]) (.cst (.int 60))]
def ou:Run (Kr Γ ud) (dq ns u ws rs way o5 o6 o7) (c4 (0<ns.length)&&c4 (rs.length<60)) (dq ns u ws rs way o5 o6 o7):=by
 show jZ (tU (aK (c6 (aa (dw rfl) aj) ∅ cE) ah trivial (g9 ?_)) λ_=>fu (aK (c6 (aa (aE rfl) aj) ∅ cE) ah trivial (Am ?_)))
 .rw[c2];show decide_eq_decide.mpr ⋯
 .rw[c2];show decide_eq_decide.mpr ⋯
def ue(o:jg Γ)(p:bC Γ)(q:mB Γ)(r:mC Γ)(s:0<ws.length)(t:ws.length<1000000):
  ∀(k f:Nat) (ns:List Int) (rs:List Row) (o7:Option (Kd×U)),ns.length=k->k<f->dk ws rs->rs.length<=60->∃d b i,Run (fL (Kr Γ ud) (execs Γ uc) f) (dq ns u ws rs way o5 o6 o7) .nx (dq d u ws b way o5 o6 i)/\dk ws b/\b.length<=60/\d.length<=ns.length:=by
 intro k;induction k with
 |zero =>
  intro f ns rs o7 hk v h hl;obtain⟨f,rfl⟩:∃g,f=g+1:=⟨f - 1,⋯⟩
  have a:=ou (Γ:=Γ) (ns:=ns) (u:=u) (ws:=ws) (rs:=rs) (way:=way) (o5:=o5) (o6:=o6) (o7:=o7);rw[ſ (show ¬0<ns.length by lia)]at a;show⟨ns,rs,o7,oh a,h,hl,i0 _⟩
 |succ k w =>
  intro f ns rs o7 hk v h hl;obtain⟨f,rfl⟩:∃g,f=g+1:=⟨f - 1,⋯⟩
  have a:=ou (Γ:=Γ) (ns:=ns) (u:=u) (ws:=ws) (rs:=rs) (way:=way) (o5:=o5) (o6:=o6) (o7:=o7);rw[Α (show 0<ns.length by lia)]at a;by_cases m:rs.length<60
  .rw[Α m]at a;obtain⟨ms,c,rfl⟩:∃ms c,ns=ms++[c]:=by
    have n:ns≠[]:=λe=>by rw[e]at hk;cases hk
    show⟨ns.dropLast,ns.getLast n,(R7 n).symm⟩
   have x:ms.length=k:=by simpa using hk
   have⟨j,l,y,b1,C⟩:=ya (u:=u) (ws:=ws) (way:=way) (o5:=o5) (o6:=o6) (o7:=o7) (ns:=ms) (c:=c) o p q r s t h ⋯;have⟨d,b,i,z,A,B,D⟩:=w f ms j l x ⋯ b1 ⋯;show⟨d,b,i,rD a y z,A,B,by simp;lia⟩
  .rw[ſ m]at a;show⟨ns,rs,o7,oh a,h,hl,i0 _⟩
abbrev Ew:List S :=
   [.set 3 (.lst []),
    .set 4 (.J9 "_law_draw" [.var 1,.cst (.int 4)] [0]),
    .Kt cc [5] .LM [.J9 "_law_draw" [.var 1,.cst (.int 25)] [0]] t_,
    .Og ud uc,
    .ret (.bi .tuple [(.var 3)])]
abbrev pU:Fn:=⟨"_law_book",3,8,.Nr [0,1]::Ew⟩
def uf(z:jg Γ)(g:bC Γ)(n:mB Γ)(o:mC Γ){ns:List Int}(p:Src T u)(O:T+500<2 ^ 62)(Q:ns.length<1000)(s:0<ws.length)(v:ws.length<1000000):
  ∃(rs:List Row) (c:List Int) (u':U),gK Γ pU [0,1] Ew [.lst (ns.map .int),u,.lst (ws.map .str)]=a5 (.ok (.loc,.tup [.tup (rs.map A'),.lst (c.map .int),u']))/\dk ws rs/\rs.length<=60/\c.length<=ns.length/\Src (T+500) u':=by
 have A:(60:Nat)<cK:=by decide
 obtain⟨way,B,C,_,_,s1⟩:=cS (st:=[a5 (.io,.lst (ns.map .int)),a5 (.io,u),a5 (.any,.lst (ws.map .str)),a5 (.own,.lst []),b6,b6,b6,b6]) g (i:=1) (k:=.io) (e:=.cst (.int 4)) (m:=4) rfl rfl ah p ⋯ ⋯ ⋯;have⟨m,u2,D,m0,m1,s2⟩:=cS (st:=dq ns B ws [] way b6 b6 b6) g (i:=1) (k:=.io) (e:=.cst (.int 25)) (m:=25) rfl rfl ah s1 ⋯ ⋯ ⋯;have⟨m,rfl⟩:=u6 m0;obtain⟨st',G,a,b,o5,o6,rfl,s3,b3,w,_⟩:=cw (rs:=[(.loc,.int (m:Nat))]) (t:=cc) (is:=[5]) (body:=execs Γ t_) (λi:Nat=>(Kd.loc,U.int (0+(i:Int)))) (λd r st=>∃(a:U) (b:List Row) (o5 o6:Option (Kd×U)),st=dq ns a ws b way o5 o6 b6/\Src (T+2+18 * (d.length:Nat)) a/\dk ws b/\b.length<=d.length/\d.length+r.length=m)
  (λd r st _=>trivial) (λd y r st h=>by
   have⟨a,b,o5,o6,rfl,s3,b3,w,H⟩:=h;simp only[kj]at H;have⟨I,j,Y,q,s4,b4,x⟩:=x_ (ns:=ns) (way:=way) (k:=y) (o6:=o6) (o7:=b6) g n o s3 ⋯ s v b3 ⋯;show⟨dq ns a ws b way (a5 (.loc,.int (0+(y:Int)))) o6 b6,_,aD,q,I,j,_,_,rfl,s4.up (by simp;lia),b4,?_,?_⟩
   .simp;lia
   .simp;lia) (gs m) [] (dq ns u2 ws [] way b6 b6 b6) ⟨u2,[],b6,b6,rfl,s2.up (by simp;lia),⟨by simp,by simp⟩,by simp,by simp⟩
 rw[lg,uv]at s3 w;have⟨c,l,J,L,b4,x,N⟩:=ue z g n o (u:=a) (way:=way) (o5:=o5) (o6:=o6) s v ns.length fuel ns b b6 rfl (by unfold fuel;lia) b3 ⋯;show⟨l,c,a,?_,b4,x,N,s3.up ⋯⟩;show b_ (st0:=[a5 (.io,.lst (ns.map .int)),a5 (.io,u),a5 (.any,.lst (ws.map .str)),b6,b6,b6,b6,b6]) (f:=.rt .loc (.tup (l.map A'))) (st:=dq c a ws l way o5 o6 J) rfl ?_ ?_ rfl rfl
 .obtain⟨_,_,_,rfl,_⟩:=p;rfl
 show aw (bO aj trivial aC (kr _)) ba (aw C aD ?_);show c7 (rs:=[(.loc,.int (m:Nat))]) (aa D aj) trivial (jD ⋯) rfl G (rE L ?_);show bL (c6 (aa (aE rfl) aj) ∅ rfl) fb
end TM
namespace TM
open PySem L2 Kv
theorem AL{cond:M Bool}(it:α->Kd×U)(I:List α->List α->List U->ay->Prop)(hs:∀d r a st,I d r a st->bo src st)
  (ċ:∀d y q a st,I d (y::q) a st->∃s1 s2 s3 s4 r u,Run (dN t (gs k) (it y)) (i8 k b6++st) () s1/\Run cond s1 b8 s2/\Run elt s2 r s3/\Run (lift r) s3 u s4/\I (d++[y]) q (a++[u]) (s4.drop k)) :
  ∀(b d:List α) (acc:List U) (st:ay),I d b acc st->acc.length+b.length<=cK->∃us st',Run (bW k t cond elt src (b.map it) acc) st us st'/\I (d++b) [] us st'
 |[],d,acc,st,h,_=>⟨acc,st,vT (hs _ _ _ _ h),by rw[ro];show h⟩
 |y::b,d,acc,st,h,hl=>by
  rw[kj]at hl;have⟨s1,s2,s3,s4,r,u,c,e,f,g,i⟩:=ċ d y b acc st h;have⟨us,st',j,l⟩:=AL it I hs ċ b (d++[y]) (acc++[u]) _ i (by simp;lia);show⟨us,st',pL (hs _ _ _ _ h) c e f g ⋯ j,by simpa using l⟩
def rL(a:0<=n)(b:n<26):∃c,K8 small.cps.toList n=a5 c:=by
 have⟨k,rfl⟩:=u6 a;have hl:small.cps.toList.length=26:=by decide
 show⟨small.cps.toList[k]'⋯,iH (by simp)⟩
def AM(g:bC Γ)(j:Src T u)(w:T+8<2 ^ 62):
  ∃x u',Run (ev Γ (.O8 .join (.cst (.str "")) [.comp 1 cc .LM [.cst (.int 8)] [] (.idx (.var 2) (.J9 "_law_draw" [.var 1,.cst (.int 26)] [0]))])) (a5 (.io,u)::a5 (.loc,.str small)::rest) (.loc,.str x) (a5 (.io,u')::a5 (.loc,.str small)::rest)/\x.length=8/\Src (T+8) u':=by
 have l:(100:Nat)<=cK:=by decide
 obtain⟨us,st',f,u',b,rfl,rfl,hl,hs,_⟩:=AL (k:=1) (t:=cc) (cond:=bb Γ []) (elt:=ev Γ (.idx (.var 2) (.J9 "_law_draw" [.var 1,.cst (.int 26)] [0]))) (src:=[(.loc,.int (8:Nat))]) (λi:Nat=>(Kd.loc,U.int (0+(i:Int))))
  (λd r a st=>∃(u':U) (b:List Nat),st=a5 (.io,u')::a5 (.loc,.str small)::rest/\a=(b.map Kv.one).map U.str/\b.length=d.length/\Src (T+(d.length:Nat)) u'/\d.length+r.length=8) (λ_ _ _ _ _=>trivial)
  (λd y q a st h=>by
   have⟨u',b,rfl,rfl,hl,hs,o⟩:=h;rw[kj]at o;have⟨n,u2,r,p,s,s2⟩:=cS (st:=a5 (.loc,.int (0+(y:Int)))::a5 (.io,u')::a5 (.loc,.str small)::rest) g (i:=1) (k:=.io) (e:=.cst (.int 26)) (m:=26) rfl rfl ah hs ⋯ ⋯ ⋯;have⟨c,f⟩:=rL p s;show⟨_,_,_,_,_,_,fw aD,ja,aQ (af rfl) r trivial (jn rm f),aA,u2,b++[c],rfl,by simp,by simp[hl],s2.up (by simp;lia),by simp;lia⟩)
  (gs 8) [] [] (a5 (.io,u)::a5 (.loc,.str small)::rest) ⟨u,[],rfl,rfl,rfl,by simpa using j,by simp⟩ (by simp;lia)
 rw[lg,uv]at hl hs;have v:mT .join (.str "") [(.own,.lst ((b.map Kv.one).map U.str))]=a5 (.loc,.str (VA nH (b.map Kv.one))):=by
  change(strsOf ((b.map Kv.one).map U.str)).bind _=_;rw[dI];change(if ĳ nH (b.map Kv.one)=b8 then _ else _)=_;rw[Ž (Kv.rj b ⋯)];rfl
 show⟨VA nH (b.map Kv.one),u',Ai ah (aa (dY (aa ah aj) trivial (jD (n:=8) ⋯) f) aj) trivial v,?_,hs⟩;change(VA nH (b.map Kv.one)).cps.size=8;rw[<-hY,Kv.join_ones,hl]
abbrev AN:List S:=[.app 7 (.ite (.cmp .eq (.var 10) (.cst (.int 1))) (.var 9) (.bin .add (.bin .add (.var 9) (.cst (.str "/"))) (.bi .str [.var 10])))]
abbrev AO:List S :=
   .ite (.cmp .eq (.var 4) (.cst (.int 3)))
    [.set 10 (.bin .add (.cst (.int 1)) (.J9 "_law_draw" [.var 0,.cst (.int 99)] [0]))]
    []::AN
abbrev AQ:List S :=
   .ite (.cmp .gt (.var 4) (.cst (.int 1)))
    [.set 9 (.bin .add (.idx (.var 1) (.bin .mod (.bin .add (.var 6) (.bin .mul (.cst (.int 7)) (.var 8))) (.cst (.int 26)))) (.NU (.var 3) [.cst (.int 1)] [.var 5])),
    .set 10 (.cst (.int 1))]
    []::AO
abbrev ug:List S :=
   .set 9 (.NU (.var 3) [] [.bin .add (.cst (.int 1)) (.bin .mod (.var 8) (.cst (.int 8)))]) ::
   .set 10 (.bin .add (.cst (.int 1)) (.bin .PU (.var 8) (.cst (.int 8)))) ::
   .ite (.cmp .eq (.var 4) (.cst (.int 1)))
    [.set 9 (.NU (.var 3) [] [.var 5]),
    .set 10 (.bin .add (.cst (.int 1)) (.var 8))]
    []::AQ
abbrev AR:List S :=
   [.set 1 (.cst (.str "abcdefghijklmnopqrstuvwxyz")),
    .set 2 (.bin .add (.cst (.int 1)) (.J9 "_law_draw" [.var 0,.idx (.lst [.cst (.int 8),.cst (.int 16),.cst (.int 24)]) (.J9 "_law_draw" [.var 0,.cst (.int 3)] [0])] [0])),
    .set 3 (.O8 .join (.cst (.str "")) [.comp 1 cc .LM [.cst (.int 8)] [] (.idx (.var 2) (.J9 "_law_draw" [.var 1,.cst (.int 26)] [0]))]),
    .set 4 (.J9 "_law_draw" [.var 0,.cst (.int 4)] [0]),
    .set 5 (.bin .add (.cst (.int 1)) (.J9 "_law_draw" [.var 0,.cst (.int 8)] [0])),
    .set 6 (.J9 "_law_draw" [.var 0,.cst (.int 26)] [0]),
    .set 7 (.lst []),
    .Kt cc [8] .LM [.var 2] ug,
    .ret (.var 7)]
abbrev mD:Fn:=⟨"_law_words",1,11,.Nr [0]::AR⟩
abbrev jI(u:U)(many:Int)(base:Str)(way size first:Int)(acc:List Str)(o8 o9 o10:Option (Kd×U)):ay:=[a5 (.io,u),a5 (.loc,.str small),a5 (.loc,.int many),a5 (.loc,.str base),a5 (.loc,.int way),a5 (.loc,.int size),a5 (.loc,.int first),a5 (.own,.lst (acc.map .str)),o8,o9,o10]
def kL(h:x.length<=cK):lC (k,.str x) lo a=a5 (.loc,.str (PySem.StrLaws.sliceText x lo a)):=by
 change(if x.length<=cK then _ else _)=_;rw[Ž h]
def ox(f:acc.length<1000)(g:w.length<=9)(s0:1<=s)(s1:s<=99):
  ∃x:Str,x.length<=20/\Run (execs Γ AN) (jI u many base way size first acc o8 (a5 (.loc,.str w)) (a5 (.loc,.int s))) .nx (jI u many base way size first (acc++[x]) o8 (a5 (.loc,.str w)) (a5 (.loc,.int s))):=by
 have b:(1000:Nat)<=cK:=by decide
 by_cases h:s=1
 .subst h;show⟨w,⋯,dX (k:=.own) (k':=.own) rfl (tM (aK (af rfl) ah trivial (bM rfl)) (af rfl)) aA rfl rfl (by simp;lia) ?_⟩;rw[show acc.map U.str++[U.str w]=(acc++[w]).map U.str by simp];show aB
 .have c:=xX (k:=s) ⋯ s1;have d:Md .str [(.loc,.int s)]=a5 (.loc,.str (yE s)):=by
   simp only[Md,gJ,Cq];rw[Ž (by
    have:s.natAbs<2 ^ 7:=by lia
    have e:s.natAbs≠0:=by lia
    have:=(Nat.log2_lt e).mpr this;lia)]
   rfl
  have a:(w++("/":Str)).length=w.length+1:=by rw[len_list,len_list,app_list,hH];rfl
  show⟨w++("/":Str)++yE s,by rw[len_list,app_list,hH,<-len_list,<-len_list,a];lia,dX (k:=.own) (k':=.own) rfl (tN (aK (af rfl) ah trivial (bM (by simp[h]))) (bj (bj (af rfl) ah trivial (jc (by change w.length+1<=cK;lia))) (c6 (aa (af rfl) aj) trivial d) trivial (jc (by rw[a];lia)))) aA rfl rfl (by simp;lia) ?_⟩;rw[show acc.map U.str++[U.str (w++("/":Str)++yE s)]=(acc++[w++("/":Str)++yE s]).map U.str by simp];show aB
def oy(g:bC Γ)(b:Src T u)(o:T+1<2 ^ 62)(c:acc.length<1000)(d:w.length<=9)(s0:1<=s)(s1:s<=99):
  ∃u' x o9 o10,Run (execs Γ AO) (jI u many base way size first acc o8 (a5 (.loc,.str w)) (a5 (.loc,.int s))) .nx (jI u' many base way size first (acc++[x]) o8 o9 o10)/\Src (T+1) u'/\x.length<=20:=by
 by_cases h:way=3
 .subst h;have⟨n,f,j,p,r,l⟩:=cS (st:=jI u many base 3 size first acc o8 (a5 (.loc,.str w)) (a5 (.loc,.int s))) g (i:=0) (k:=.io) (e:=.cst (.int 99)) (m:=99) rfl rfl ah b ⋯ ⋯ ⋯;have⟨x,a,q⟩:=ox (Γ:=Γ) (u:=f) (many:=many) (base:=base) (way:=3) (size:=size) (first:=first) (acc:=acc) (o8:=o8) (w:=w) (s:=1+n) c d ⋯ ⋯;show⟨f,x,_,_,cH (aK (af rfl) ah trivial (bM rfl)) (aw (bj ah j trivial bV) aD aB) q,l,a⟩
 .have⟨x,a,q⟩:=ox (Γ:=Γ) (u:=u) (many:=many) (base:=base) (way:=way) (size:=size) (first:=first) (acc:=acc) (o8:=o8) (w:=w) (s:=s) c d s0 s1;show⟨u,x,_,_,bA (aK (af rfl) ah trivial (bM (by simp[h]))) aB q,b.up ⋯,a⟩
def oz(a:bC Γ){k:Nat}(b:Src T u)(d:T+1<2 ^ 62)(e:acc.length<1000)(f:w.length<=9)(s0:1<=s)(s1:s<=99)(p:base.length=8)(g:1<=size)(r:size<=8)(t:0<=first)(v:first<26)(hk:k<1000):
  ∃u' x o9 o10,Run (execs Γ AQ) (jI u many base way size first acc (a5 (.loc,.int (0+(k:Int)))) (a5 (.loc,.str w)) (a5 (.loc,.int s))) .nx (jI u' many base way size first (acc++[x]) (a5 (.loc,.int (0+(k:Int)))) o9 o10)/\Src (T+1) u'/\x.length<=20:=by
 have i:(1000:Nat)<=cK:=by decide
 by_cases h:1<way
 .have j:0<=(first+7 * (0+(k:Int))) % 26:=Se _ ⋯;have l:(first+7 * (0+(k:Int))) % 26<26:=Tz _ ⋯;have⟨c,m⟩:=rL j l;have n:=len_list base;have y:(PySem.StrLaws.sliceText base (a5 1) (a5 size)).length<=8:=by
   rw[PySem.StrLaws.sliceText_plain ⟨⋯,g,⋯⟩,len_list];simp;lia
  have Nb:(Kv.one c).length=1:=rfl;have o:(Kv.one c++PySem.StrLaws.sliceText base (a5 1) (a5 size)).length<=9:=by rw[len_list,app_list,hH,<-len_list,<-len_list];lia
  have⟨u',x,o9,o10,q,hs⟩:=oy (Γ:=Γ) a (u:=u) (many:=many) (base:=base) (way:=way) (size:=size) (first:=first) (acc:=acc) (o8:=a5 (.loc,.int (0+(k:Int)))) (w:=Kv.one c++PySem.StrLaws.sliceText base (a5 1) (a5 size)) (s:=1) b d e o ⋯ ⋯;show⟨u',x,o9,o10,cH (aK (af rfl) ah trivial (g9 (by simp[h]))) (aw (bj (aQ (af rfl) (bj (bj (af rfl) (bj ah (af rfl) trivial (kU ⋯)) trivial bV) ah trivial (eF ⋯)) trivial (jn rm m)) (lY (af rfl) (jY ah) (jY (af rfl)) trivial (kL ⋯)) trivial (jc ⋯)) aD (aw ah aD aB)) q,hs⟩
 .have⟨u',x,o9,o10,q,hs⟩:=oy (Γ:=Γ) a (u:=u) (many:=many) (base:=base) (way:=way) (size:=size) (first:=first) (acc:=acc) (o8:=a5 (.loc,.int (0+(k:Int)))) (w:=w) (s:=s) b d e f s0 s1;show⟨u',x,o9,o10,bA (aK (af rfl) ah trivial (g9 (by simp[h]))) aB q,hs⟩
def AS(a:0<=j)(b:x.length=8):(PySem.StrLaws.sliceText x b6 (a5 j)).length<=9:=by
 have⟨j,rfl⟩:=u6 a;have h:=len_list (PySem.StrLaws.sliceText x b6 (a5 (j:Int)));have hl:=len_list x;rw[GV]at h;rw[h,tv];lia
def yb(b:bC Γ){k:Nat}(c:Src T u)(d:T+1<2 ^ 62)(e:acc.length<1000)(a:base.length=8)(f:1<=size)(g:size<=8)(i:0<=first)(j:first<26)(hk:k<98):
  ∃u' x l m,Run (execs Γ ug) (jI u many base way size first acc (a5 (.loc,.int (0+(k:Int)))) o9 o10) .nx (jI u' many base way size first (acc++[x]) (a5 (.loc,.int (0+(k:Int)))) l m)/\Src (T+1) u'/\x.length<=20:=by
 have n:(1000:Nat)<=cK:=by decide
 have o:0<=(0+(k:Int)) % 8:=Se _ ⋯;by_cases h:way=1
 .have⟨u',x,o9,o10,q,hs⟩:=oz (Γ:=Γ) b (u:=u) (many:=many) (base:=base) (way:=way) (size:=size) (first:=first) (acc:=acc) (k:=k) (w:=PySem.StrLaws.sliceText base b6 (a5 size)) (s:=1+(0+(k:Int))) c d e (AS ⋯ a) ⋯ ⋯ a f g i j ⋯;show⟨u',x,o9,o10,aw (lY (af rfl) n9 (jY (bj ah (bj (af rfl) ah trivial (eF ⋯)) trivial bV)) trivial (kL ⋯)) aD (aw (bj ah (bj (af rfl) ah trivial (l9 ⋯)) trivial bV) aD (cH (aK (af rfl) ah trivial (bM (by simp[h]))) (aw (lY (af rfl) n9 (jY (af rfl)) trivial (kL ⋯)) aD (aw (bj ah (af rfl) trivial bV) aD aB)) q)),hs⟩
 .have⟨u',x,o9,o10,q,hs⟩:=oz (Γ:=Γ) b (u:=u) (many:=many) (base:=base) (way:=way) (size:=size) (first:=first) (acc:=acc) (k:=k) (w:=PySem.StrLaws.sliceText base b6 (a5 (1+(0+(k:Int)) % 8))) (s:=1+(0+(k:Int)) / 8) c d e (AS ⋯ a) ⋯ ⋯ a f g i j ⋯;show⟨u',x,o9,o10,aw (lY (af rfl) n9 (jY (bj ah (bj (af rfl) ah trivial (eF ⋯)) trivial bV)) trivial (kL ⋯)) aD (aw (bj ah (bj (af rfl) ah trivial (l9 ⋯)) trivial bV) aD (bA (aK (af rfl) ah trivial (bM (by simp[h]))) aB q)),hs⟩
def J3(a:0<=n)(b:n<3):∃m:Int,8<=m/\m<=24/\K8 [U.int 8,.int 16,.int 24] n=a5 (.int m):=by
 have⟨k,rfl⟩:=u6 a;have:k=0\/k=1\/k=2:=by lia
 rcases this with rfl|rfl|rfl
 .show⟨8,⋯,⋯,rfl⟩
 .show⟨16,⋯,⋯,rfl⟩
 .show⟨24,⋯,⋯,rfl⟩
def yc(a:bC Γ)(l:Src T u)(hT:T+100<2 ^ 62):
  ∃(ws:List Str) (u':U),gK Γ mD [0] AR [u]=a5 (.ok (.own,.tup [.lst (ws.map .str),u']))/\1<=ws.length/\ws.length<=24/\Src (T+100) u'/\∀x∈ws,x.length<=20:=by
 have A:(1000:Nat)<=cK:=by decide
 let S1:U->ay:=λv=>[a5 (.io,v),a5 (.loc,.str small),b6,b6,b6,b6,b6,b6,b6,b6,b6]
 have⟨i,B,C,D,G,s1⟩:=cS (st:=S1 u) a (i:=0) (k:=.io) (e:=.cst (.int 3)) (m:=3) rfl rfl ah l ⋯ ⋯ ⋯;have⟨m,m0,m1,em⟩:=J3 D G;have⟨n,u2,H,n0,n1,s2⟩:=AA (st:=S1 u) (st1:=S1 B) a (i:=0) (k:=.io) (k0:=.io) (e:=.idx (.lst [.cst (.int 8),.cst (.int 16),.cst (.int 24)]) (.J9 "_law_draw" [.var 0,.cst (.int 3)] [0])) (m:=m) rfl rfl (aQ (x:=(.own,.lst [U.int 8,.int 16,.int 24])) (bO (aa ah (aa ah (aa ah aj))) trivial (ao aA (ao aA (ao aA aC))) (by change 3<=cK;lia)) C trivial (cv em)) rfl rfl s1 ⋯ ⋯ ⋯;have⟨base,b,I,J,s3⟩:=AM (rest:=[a5 (.loc,.int (1+n)),b6,b6,b6,b6,b6,b6,b6,b6]) a s2 ⋯;obtain⟨way,g,L,_,_,s4⟩:=cS (st:=[a5 (.io,b),a5 (.loc,.str small),a5 (.loc,.int (1+n)),a5 (.loc,.str base),b6,b6,b6,b6,b6,b6,b6]) a (i:=0) (k:=.io) (e:=.cst (.int 4)) (m:=4) rfl rfl ah s3 ⋯ ⋯ ⋯;have⟨size,N,O,z0,z1,Q⟩:=cS (st:=[a5 (.io,g),a5 (.loc,.str small),a5 (.loc,.int (1+n)),a5 (.loc,.str base),a5 (.loc,.int way),b6,b6,b6,b6,b6,b6]) a (i:=0) (k:=.io) (e:=.cst (.int 8)) (m:=8) rfl rfl ah s4 ⋯ ⋯ ⋯;have⟨first,o,Y,f0,f1,s6⟩:=cS (st:=[a5 (.io,N),a5 (.loc,.str small),a5 (.loc,.int (1+n)),a5 (.loc,.str base),a5 (.loc,.int way),a5 (.loc,.int (1+size)),b6,b6,b6,b6,b6]) a (i:=0) (k:=.io) (e:=.cst (.int 26)) (m:=26) rfl rfl ah Q ⋯ ⋯ ⋯;have⟨many,R_⟩:=u6 (show 0<=1+n by lia);obtain⟨st',hf,p,ws,o8,o9,o10,rfl,s,l7,b7,_⟩:=cw (rs:=[(.loc,.int (1+n))]) (t:=cc) (is:=[8]) (body:=execs Γ ug) (λi:Nat=>(Kd.loc,U.int (0+(i:Int)))) (λd r st=>∃(b:U) (ws:List Str) (o8 o9 o10:Option (Kd×U)),st=jI b (1+n) base way (1+size) first ws o8 o9 o10/\Src (T+13+(d.length:Nat)) b/\ws.length=d.length/\(∀x∈ws,x.length<=20)/\∃j,d=Ŝ 0 j/\r=Ŝ j (many - j)/\j<=many)
  (λd r st _=>trivial) (λd y r st h=>by
   have⟨b,ws,o8,o9,o10,rfl,s3,w,b3,j,rfl,c,hj⟩:=h;have ab:j<many:=by
    rcases Nat.lt_or_ge j many with z|z
    .show z
    .rw[show many - j=0 by lia]at c;cases c
   rw[show many - j=(many - (j+1))+1 by lia,List.range'_succ]at c;cases c;rw[List.length_range']at s3 w;have⟨g,x,LW,N6,q,s4,hx⟩:=yb (Γ:=Γ) a (u:=b) (many:=1+n) (base:=base) (way:=way) (size:=1+size) (first:=first) (acc:=ws) (k:=y) (o9:=o9) (o10:=o10) s3 ⋯ ⋯ J ⋯ ⋯ f0 f1 ⋯;show⟨jI b (1+n) base way (1+size) first ws (a5 (.loc,.int (0+(y:Int)))) o9 o10,_,aD,q,g,ws++[x],_,_,_,rfl,s4.up (by simp;lia),by simp[w],λz hz=>(ke.mp hz).elim (b3 z) λhz=>by rw[i3.mp hz];show hx,y+1,by have:=@List.range'_1_concat 0 y;simpa using this.symm,rfl,⋯⟩) (gs many) [] (jI o (1+n) base way (1+size) first [] b6 b6 b6) ⟨o,[],b6,b6,b6,rfl,s6.up (by simp;lia),by simp,λ_ h=>(nomatch h),0,rfl,by rw[List.range_eq_range'];simp,⋯⟩
 rw[lg,uv]at s l7;show⟨ws,p,?_,⋯,⋯,s.up ⋯,b7⟩;show b_ (st0:=[a5 (.io,u),b6,b6,b6,b6,b6,b6,b6,b6,b6,b6]) (f:=.rt .own (.lst (ws.map .str))) (st:=(jI p (1+n) base way (1+size) first ws o8 o9 o10).set 7 b6) rfl ?_ ?_ rfl rfl
 .obtain⟨_,_,_,rfl,_⟩:=l;rfl
 show aw (st2:=S1 u) ah aD (aw (bj ah H trivial bV) aD (aw I aD (aw L aD (aw (bj ah O trivial bV) aD (aw Y aD (aw (bO aj trivial aC (kr _)) ba ?_))))));show c7 (rs:=[(.loc,.int (1+n))]) (xs:=(gs many).map λi:Nat=>(Kd.loc,U.int (0+(i:Int)))) (aa (af rfl) aj) trivial (by rw[R_];show jD ⋯) rfl hf (bL (aE rfl) (j4 rfl))
abbrev v_(Γ:Tab):Prop:=∀(T:Int) (u:U),Src T u->T+100<2 ^ 62->∃(ws:List Str) (u':U),Γ "_law_words" [u]=a5 (.ok (.own,.tup [.lst (ws.map .str),u']))/\1<=ws.length/\ws.length<=24/\Src (T+100) u'/\∀x∈ws,x.length<=20
def DJ(a:bC (Kl Pg d))(h:KJ Pg "_law_words" mD):v_ (Kl Pg (d+1)):=by
 intro T u b c;have⟨ws,u',e,r⟩:=yc a b c;show⟨ws,u',by rw[cR h _ rfl];show e,r⟩
abbrev d0(ks:List Str)(x:Str):List Str:=if x∈ks then ks else ks++[x]
def AU:dput ks (ks.map f) x u=(d0 ks x,(d0 ks x).map λk=>if k=x then u else f k):=by
 unfold dput d0;by_cases h:x∈ks
 .rw[Ž h,Ž h];congr 1
  clear h;induction ks with
  |nil=>rfl
  |cons k ks a=>rw[d3,PQ,d3,d3,a]
 .rw[ž h,ž h];congr 1
  rw[ki,To,Ž rfl];congr 1
  show tr λk hk=>?_;rw[ž (λe:k=x=>h (e▸hk))]
def uh(h:ks.Nodup):(d0 ks x).Nodup:=by
 unfold d0;split
 .show h
 .rename_i d;show ri.mpr ⟨h,by simp,λa f c b=>by rw[i3]at b;subst b;show λe=>d (e▸f)⟩
def dr:y∈d0 ks x↔y∈ks\/y=x:=by
 unfold d0;split
 .rename_i h;show⟨.inl,λz=>z.elim id λe=>e▸h⟩
 .simp
def pV(h:ks.length<1000):dH (.str x) u (.J8 ks (ks.map f))=a5 (.J8 (d0 ks x) ((d0 ks x).map λk=>if k=x then u else f k)):=by
 rw[vZ h,AU]
def d9(h:x∈ks):cq ks (ks.map f) x=a5 (f x):=by
 induction ks with
 |nil=>cases h
 |cons k ks a =>
  rw[d3];unfold cq;by_cases e:k=x
  .rw[Ž e,e]
  .rw[ž e];show a ((d6.mp h).resolve_left λz=>e z.symm)
abbrev Ey:List S:=[.put 1 (.var 4) (.cst (.bl b8))]
abbrev AV:List S:=[.put 1 (.var 2) (.cst (.bl b8)),.Kt cc [4] .seq [.var 3] Ey]
abbrev AW:Fn:=⟨"_law_all",1,5,[.set 1 (.L0 cc),.Kt b8 [2,3] .seq [.var 0] AV,.ret (.bi .sorted [.var 1])]⟩
abbrev DK(ks:List Str):U:=.J8 ks (ks.map λ_=>.bl b8)
def wa(h:ks.length<1000):dH (.str x) (.bl b8) (DK ks)=a5 (DK (d0 ks x)):=by
 unfold DK;rw[pV h];congr 3
 funext k
 split<;>rfl
abbrev mE(ws ks:List Str):Prop:=ks.Nodup/\∀x∈ks,x∈ws
def mE.ins(h:mE ws ks)(a:x∈ws):mE ws (d0 ks x):=⟨uh h.1,λy b=>(dr.mp b).elim (h.2 y) λe=>e▸a⟩
def mE.len(h:mE ws ks):ks.length<=ws.length:=jb h.1 h.2
abbrev pW(rs:List Row)(ks:List Str)(o2 o3 o4:Option (Kd×U)):ay:=[a5 (.loc,.tup (rs.map A')),a5 (.own,DK ks),o2,o3,o4]
def pX{rs:List Row}:Mg .seq [(k,.tup (rs.map A'))]=a5 (rs.map λr=>(kE k,A' r)):=by
 change a5 ((rs.map A').map λu=>(kE k,u))=_;rw[i9];rfl
abbrev AX(Γ:Tab):Prop:=∀(ws:List Str) (rs:List Row),ws.length<=24->(∀r∈rs,aX ws r)->∃ts,Γ "_law_all" [.tup (rs.map A')]=a5 (.ok (.own,.lst (ts.map .str)))/\mE ws ts
abbrev AY:List S :=
   [.set 7 (.MO 4 (.J9 "_law_draw" [.var 0,.bi .len [.var 4]] [0])),
   .ite (.and [.cmp .Ki (.var 7) (.var 3),.cmp .eq (.J9 "_law_draw" [.var 0,.var 2] [0]) (.cst (.int 0))])
    [.app 5 (.tup [.var 7,.tup []])]
    []]
abbrev Jg:List S :=
   [.ite (.cmp .ne (.J9 "_law_draw" [.var 0,.cst (.int 8)] [0]) (.cst (.int 1)))
      [.ret (.var 1)]
      [],
    .set 2 (.bin .add (.cst (.int 1)) (.J9 "_law_draw" [.var 0,.cst (.int 2)] [0])),
    .set 3 (.comp 1 cc .seq [.var 1] [.cmp .eq (.idx (.var 0) (.cst (.int 1))) (.tup [])] (.idx (.var 0) (.cst (.int 0)))),
    .set 4 (.call "_law_all" [.var 1]),
    .set 5 (.lst []),
    .Kt cc [6] .LM [.bi .len [.var 4]] AY,
    .ret (.bin .add (.var 1) (.bi .tuple [(.var 5)]))]
abbrev DL:Fn:=⟨"_law_widened",2,8,.Nr [0]::Jg⟩
def ui(h:(!(i==j))=c):cB .ne (.int i) (.int j)=a5 c:=by subst h;rfl
abbrev kA(u:U)(rs:List Row)(share:Int)(hs ts:List Str)(more:List Row)(o6 o7:Option (Kd×U)):ay:=[a5 (.io,u),a5 (.loc,.tup (rs.map A')),a5 (.loc,.int share),a5 (.own,.lst (hs.map .str)),a5 (.own,.lst (ts.map .str)),a5 (.own,.lst (more.map A')),o6,o7]
def AZ(o:bC Γ)(w:Src T u)(N:T+2<2 ^ 62)(A:0<share)(O:share<=2)(Q:0<ts.length)(B:ts.length<=24)(p:∀x∈ts,x∈ws)(h:∀r∈more,aX ws r)(Y:more.length<1000):
  ∃u' a j C,Run (execs Γ AY) (kA u rs share hs ts more o6 o7) .nx (kA u' rs share hs a j o6 C)/\Src (T+2) u'/\a.length+1=ts.length/\(∀x∈a,x∈ws)/\(∀r∈j,aX ws r)/\j.length<=more.length+1:=by
 have D:(1000:Nat)<=cK:=by decide
 have⟨n,b,G,H,I,s1⟩:=cS (st:=kA u rs share hs ts more o6 o7) o (i:=0) (k:=.io) (e:=.bi .len [.var 4]) (m:=((ts.map U.str).length:Nat)) rfl rfl (c6 (aa (aE rfl) aj) ∅ cE) w ⋯ (by simp;lia) (by simp;lia);rw[c2]at I;have l:n.toNat<ts.length:=by lia
 have q:(ts.map U.str)[n.toNat]?=a5 (.str ts[n.toNat]):=by simp[l]
 have s:ts[n.toNat]∈ws:=p _ (Lx l);generalize ts[n.toNat]=x at q s;have J:(ts.map U.str).eraseIdx n.toNat=(ts.eraseIdx n.toNat).map U.str:=by
  rw[Ro,Ro,ki,ķ,ĸ]
 have hl:(ts.eraseIdx n.toNat).length+1=ts.length:=by rw[List.length_eraseIdx_of_lt l];lia
 have f:∀y∈ts.eraseIdx n.toNat,y∈ws:=λy L=>p y (List.mem_of_mem_eraseIdx L);have g:Run (ev Γ (.MO 4 (.J9 "_law_draw" [.var 0,.bi .len [.var 4]] [0]))) (kA u rs share hs ts more o6 o7) (.loc,.str x) (kA b rs share hs (ts.eraseIdx n.toNat) more o6 o7):=by
  have:=GU (i:=4) (k0:=.own) (k:=.own) (us0:=ts.map U.str) (us:=ts.map U.str) rfl (by intro z;cases z) G rfl rfl H ⋯ q;rw[J]at this;show this
 generalize ts.eraseIdx n.toNat=a at g hl f;have d:Run (Kr Γ (.cmp .Ki (.var 7) (.var 3))) (kA b rs share hs a more o6 (a5 (.loc,.str x))) (c4 (x∉hs)) (kA b rs share hs a more o6 (a5 (.loc,.str x))):=aK (af rfl) (aE rfl) ∅ gk;by_cases t:x∈hs
 .rw[ſ (by simp[t])]at d;show⟨b,a,more,_,aw g aD (bA (jZ (tP d)) aB aB),s1.up ⋯,hl,f,h,⋯⟩
 .rw[Α t]at d;have⟨m,u2,v,m0,m1,s2⟩:=cS (st:=kA b rs share hs a more o6 (a5 (.loc,.str x))) o (i:=0) (k:=.io) (e:=.var 2) (m:=share) rfl rfl (af rfl) s1 ⋯ A ⋯;by_cases hz:m=0
  .show⟨u2,a,more++[(x,[])],a5 (.loc,.str x),aw g aD (cH (jZ (l8 d (fu (aK v ah trivial (bM (c:=b8) (by simp[hz])))))) (dX (k:=.own) (k':=.own) rfl (cQ (aa (af rfl) (aa (cQ aj trivial aC (kr _)) aj)) trivial (ao aA (ao aA aC)) (by change 2<=cK;lia)) aA rfl rfl (by simp;lia) aB) ?_),s2.up ⋯,hl,f,?_,by simp⟩
   .rw[show more.map A'++[U.tup [.str x,.tup []]]=(more++[(x,[])]).map A' by simp[A']];show aB
   .intro r hr;rcases ke.mp hr with hr|hr
    .show h r hr
    .rw[i3]at hr;subst hr;show⟨s,by simp,by simp,by simp⟩
  .show⟨u2,a,more,_,aw g aD (bA (jZ (l8 d (fu (aK v ah trivial (bM (c:=cc) (by simp[hz])))))) aB aB),s2.up ⋯,hl,f,h,⋯⟩
def A0{rs:List Row}(hl:rs.length<=1000)(h:st[i]?=a5 (a5 (.loc,.tup (rs.map A')))):Run (ev Γ (.comp 1 cc .seq [.var i] [.cmp .eq (.idx (.var 0) (.cst (.int 1))) (.tup [])] (.idx (.var 0) (.cst (.int 0))))) st (.own,.lst (((rs.filter λr=>c4 (r.2=[])).map (·.1)).map .str)) st:=by
 have b:(1000:Nat)<=cK:=by decide
 have c:∀y:Row,gI (.loc,A' y) (.int 0)=a5 (.loc,.str y.1):=λy=>rfl;have d:∀y:Row,gI (.loc,A' y) (.int 1)=a5 (.loc,.tup (y.2.map .str)):=λy=>rfl;have a:=tV (cond:=bb Γ [.cmp .eq (.idx (.var 0) (.cst (.int 1))) (.tup [])]) (elt:=ev Γ (.idx (.var 0) (.cst (.int 0)))) (src:=[(.loc,.tup (rs.map A'))]) (st:=st) trivial .loc (.inl rfl) A' (λr:Row=>.str r.1) (λr=>c4 (r.2=[])) .loc rs [] (by simp;lia)
  (λr _=>⟨fu (aK (aQ (af rfl) ah trivial (d r)) (cQ aj trivial aC (kr _)) trivial DC),λ_=>⟨aQ (af rfl) ah trivial (c r),aA⟩⟩)
 rw[lg]at a;rw[i9];show dY (rs:=[(.loc,.tup (rs.map A'))]) (aa (af h) aj) trivial pX a
abbrev A4(Γ:Tab):Prop:=∀(T:Int) (u:U) (ws:List Str) (rs:List Row),Src T u->T+60<2 ^ 62->ws.length<=24->(∀r∈rs,aX ws r)->rs.length<=60->∃(a:List Row) (u':U),Γ "_law_widened" [u,.tup (rs.map A')]=a5 (.ok (.loc,.tup [.tup (a.map A'),u']))/\(∀r∈a,aX ws r)/\a.length<=84/\Src (T+60) u'
def DM(g:bC Γ)(L:AX Γ){rs:List Row}(A:Src T u)(hT:T+60<2 ^ 62)(N:ws.length<=24)(j:∀r∈rs,aX ws r)(hl:rs.length<=60):
  ∃(l:List Row) (u':U),gK Γ DL [0] Jg [u,.tup (rs.map A')]=a5 (.ok (.loc,.tup [.tup (l.map A'),u']))/\(∀r∈l,aX ws r)/\l.length<=84/\Src (T+60) u':=by
 have O:(1000:Nat)<=cK:=by decide
 let c:U->ay:=λv=>[a5 (.io,v),a5 (.loc,.tup (rs.map A')),b6,b6,b6,b6,b6,b6]
 have B:cY [0] [u,.tup (rs.map A')] DL.ns=c u:=by
  obtain⟨_,_,_,rfl,_⟩:=A;change [a5 (Kd.io,_),a5 (if Kw (.tup (rs.map A'))=b8 then Kd.loc else Kd.any,U.tup (rs.map A')),b6,b6,b6,b6,b6,b6]=_;rw[Ž (by change cm (rs.map A')=b8;show bq rs)]
 have⟨n,o,C,n0,n1,s1⟩:=cS (st:=c u) g (i:=0) (k:=.io) (e:=.cst (.int 8)) (m:=8) rfl rfl ah A ⋯ ⋯ ⋯;by_cases D:n=1
 .have⟨p,u2,Q,p0,p1,s2⟩:=cS (st:=c o) g (i:=0) (k:=.io) (e:=.cst (.int 2)) (m:=2) rfl rfl ah s1 ⋯ ⋯ ⋯;have⟨ts,Y,G⟩:=L ws rs N j;have ab:=G.len;generalize s:((rs.filter λr=>c4 (r.2=[])).map (·.1))=hs;have H:=A0 (Γ:=Γ) (st:=[a5 (.io,u2),a5 (.loc,.tup (rs.map A')),a5 (.loc,.int (1+p)),b6,b6,b6,b6,b6]) (rs:=rs) (i:=1) ⋯ rfl;rw[s]at H;obtain⟨st',hf,a,b,more,o6,o7,rfl,s3,I,m3,J,w,_⟩:=cw (rs:=[(.loc,.int (ts.length:Nat))]) (t:=cc) (is:=[6]) (body:=execs Γ AY) (λi:Nat=>(Kd.loc,U.int (0+(i:Int)))) (λd r st=>∃(a:U) (b:List Str) (more:List Row) (o6 o7:Option (Kd×U)),st=kA a rs (1+p) hs b more o6 o7/\Src (T+2+2 * (d.length:Nat)) a/\b.length=r.length/\more.length<=d.length/\(∀x∈b,x∈ws)/\(∀r∈more,aX ws r)/\d.length+r.length=ts.length)
   (λd r st _=>trivial) (λd y r st h=>by
    have⟨a,b,more,o6,o7,rfl,s3,I,m3,J,w,t3⟩:=h;simp only[kj]at I t3;have⟨u4,z,Sa,LR,q,s4,l4,i4,g4,m4⟩:=AZ (Γ:=Γ) g (u:=a) (share:=1+p) (rs:=rs) (more:=more) (ws:=ws) (hs:=hs) (ts:=b) (o6:=a5 (.loc,.int (0+(y:Int)))) (o7:=o7) s3 ⋯ ⋯ ⋯ ⋯ ⋯ J w ⋯;show⟨kA a rs (1+p) hs b more (a5 (.loc,.int (0+(y:Int)))) o7,_,aD,q,u4,z,Sa,_,_,rfl,s4.up (by simp;lia),⋯,by simp;lia,i4,g4,by simp;lia⟩) (gs ts.length) [] (kA u2 rs (1+p) hs ts [] b6 b6) ⟨u2,ts,[],b6,b6,rfl,s2.up (by simp;lia),by simp,by simp,G.2,by simp,by simp⟩
  rw[lg,uv]at m3 s3;show⟨rs++more,a,?_,?_,by simp;lia,s3.up ⋯⟩
  .show b_ (f:=.rt .loc (.tup ((rs++more).map A'))) (st:=kA a rs (1+p) hs b more o6 o7) rfl B ?_ rfl rfl;show bA (aK C ah trivial (ui (by simp[D]))) aB (aw (bj ah Q trivial bV) aD (aw H ba (aw (bG (aa (af rfl) aj) trivial Y) ba (aw (bO aj trivial aC (kr _)) ba ?_))));show c7 (rs:=[(.loc,.int (ts.length:Nat))]) (aa (c6 (aa (aE rfl) aj) ∅ (by rw[cE,c2])) aj) trivial (jD ⋯) rfl hf (bL (bj (af rfl) (c6 (aa (aE rfl) aj) ∅ rfl) trivial ?_) fb);change(if (rs.map A').length+(more.map A').length<=cK then a5 (kT .loc .loc,U.tup (rs.map A'++more.map A')) else b6)=_;rw[Ž (by simp;lia),ki];rfl
  .intro r hm;rcases ke.mp hm with hm|hm
   .show j r hm
   .show w r hm
 .show⟨rs,o,b_ (f:=.rt .loc (.tup (rs.map A'))) (st:=c o) rfl B (pK (aK C ah trivial (ui (by simp[D]))) (bL (af rfl) fb)) rfl rfl,j,⋯,s1.up ⋯⟩
def Jh(a:bC (Kl Pg d))(b:AX (Kl Pg d))(h:KJ Pg "_law_widened" DL):A4 (Kl Pg (d+1)):=by
 intro T u ws rs c f g i hl;have⟨j,u',e,r⟩:=DM a b c f g i hl;show⟨j,u',by rw[cR h _ rfl];show e,r⟩
section
variable{α:Type}[DecidableEq α]{c:α->Int}
theorem gH:∀{ks:List α},x∈ks->(ks.map c).sum=c x+((ks.erase x).map c).sum
 |k::ks,h=>by
  by_cases e:k=x
  .subst e;simp
  .rw[List.erase_cons_tail (by simp[e]),d3,d3,N',N',gH ((d6.mp h).resolve_left λz=>e z.symm)];lia
theorem pY:∀{ks:List α},(∀k∈ks,0<=c k)->0<=(ks.map c).sum
 |[],_=>by simp
 |k::ks,h=>by
  have b:=h k (by simp);have d:=pY (ks:=ks) λy a=>h y (by simp[a]);rw[d3,N'];lia
theorem wb:∀{ts ks:List α},ts.Nodup->(∀x∈ts,x∈ks)->(∀k∈ks,0<=c k)->(ts.map c).sum<=(ks.map c).sum
 |[],ks,_,_,h=>by simpa using pY h
 |x::ts,ks,a,hs,h=>by
  rw[mN]at a;have d:=wb (ts:=ts) (ks:=ks.erase x) a.2 (λy b=>(Vo (λe=>a.1 (by subst e;show b))).mpr (hs y (by simp[b]))) λk hk=>h k (List.mem_of_mem_erase hk);rw[gH (hs x (by simp)),d3,N'];lia
abbrev upd(c:α->Int)(x:α)(p:Int):α->Int:=λk=>if k=x then p else c k
def wc{ks:List α}(h:x∉ks):(ks.map (upd c x p)).sum=(ks.map c).sum:=by
 congr 1
 show tr λk hk=>?_;unfold upd;rw[ž (λe:k=x=>h (e▸hk))]
def DN{ks:List α}(a:ks.Nodup)(h:x∈ks):(ks.map (upd c x p)).sum+c x=(ks.map c).sum+p:=by
 rw[gH (c:=upd c x p) h,gH (c:=c) h,wc a.not_mem_erase];unfold upd;rw[Ž rfl];lia
end
@[reducible]def Lg:=List Str×(Str->Int)
abbrev KH(s:Lg)(r:Row):Int:=1+(r.2.map s.2).sum
abbrev may(s:Lg)(r:Row):Bool:=r.2.all λx=>c4 (x∈s.1)
abbrev L9(s:Lg)(r:Row):Bool:=!c4 (r.1∈s.1)||decide (KH s r<s.2 r.1)
abbrev L_(s:Lg)(r:Row):Lg:=if (may s r&&L9 s r)=b8 then(d0 s.1 r.1,upd s.2 r.1 (KH s r)) else s
abbrev LK:List Row->Lg×Bool->Lg×Bool
 |[],s=>s
 |r::rs,(s,b)=>LK rs (L_ s r,b||(may s r&&L9 s r))
abbrev lim(rs:List Row):Nat->Lg->Lg
 |0,s=>s
 |n+1,s=>if (LK rs (s,cc)).2=b8 then lim rs n (LK rs (s,cc)).1 else(LK rs (s,cc)).1
abbrev gn(ws:List Str)(s:Lg):Prop:=mE ws s.1/\(∀k∈s.1,1<=s.2 k)/\(s.1.map s.2).sum<2 ^ s.1.length
abbrev mu(s:Lg):Int:=(24 - (s.1.length:Nat)) * 2 ^ 24+(s.1.map s.2).sum
def rM(a:ws.length<=24)(h:gn ws s):0<=mu s:=by
 have b:=h.1.len;have d:=pY (c:=s.2) (ks:=s.1) λk hk=>by have:=h.2.1 k hk;lia
 unfold mu;lia
def pZ(C:ws.length<=24)(h:gn ws s)(i:aX ws r):gn ws (L_ s r)/\mu (L_ s r)<=mu s/\((may s r&&L9 s r)=b8->mu (L_ s r)<mu s):=by
 unfold L_;split
 .rename_i d;rw[cb]at d;have⟨u,j⟩:=d;have⟨hk,l,hs⟩:=h;have m:∀x∈r.2,x∈s.1:=λx a=>by have:=i6.mp u x a;simpa using this
  have n:∀k∈s.1,0<=s.2 k:=λk hk=>by have:=l k hk;lia
  have D:KH s r<=1+(s.1.map s.2).sum:=by
   have:=wb (c:=s.2) i.2.1 m n;unfold KH;lia
  have v:1<=KH s r:=by
   have:=pY (c:=s.2) (ks:=r.2) λk hk=>n k (m k hk);unfold KH;lia
  have b:=hk.ins i.1;have f:∀k∈d0 s.1 r.1,1<=upd s.2 r.1 (KH s r) k:=λk hk=>by
   unfold upd;split
   .show v
   .rename_i w;show l k ((dr.mp hk).resolve_right w)
  have o:=b.len;by_cases a:r.1∈s.1
  .have e:d0 s.1 r.1=s.1:=by unfold d0;rw[Ž a]
   have G:KH s r<s.2 r.1:=by
    unfold L9 at j;simpa[a] using j
   have g:=DN (c:=s.2) (p:=KH s r) hk.1 a;rw[e]at b f ⊢;have q:(s.1.map (upd s.2 r.1 (KH s r))).sum<(s.1.map s.2).sum:=by lia
   show⟨⟨b,f,by change(s.1.map (upd s.2 r.1 (KH s r))).sum<2 ^ s.1.length;lia⟩,?_,λ_=>?_⟩<;>(unfold mu;dsimp only;lia)
  .have e:d0 s.1 r.1=s.1++[r.1]:=by unfold d0;rw[ž a]
   have g:((s.1++[r.1]).map (upd s.2 r.1 (KH s r))).sum=(s.1.map s.2).sum+KH s r:=by
    rw[ki,Xj,wc a,To,è];unfold upd;rw[Ž rfl]
   rw[e]at b f o ⊢;rw[hH,rz]at o;have y:(2:Int) ^ (s.1.length+1)=2 * 2 ^ s.1.length:=by rw[Int.pow_succ];lia
   have A:(2:Int) ^ s.1.length<=2 ^ 23:=by
    have B:(2:Nat) ^ s.1.length<=2 ^ 23:=Nat.pow_le_pow_right ⋯ ⋯;have t:=Int.ofNat_le.mpr B;rw[ħ,ħ]at t;show t
   show⟨⟨b,f,?_⟩,?_,λ_=>?_⟩
   .change((s.1++[r.1]).map (upd s.2 r.1 (KH s r))).sum<2 ^ (s.1++[r.1]).length;rw[g,hH,rz,y];lia
   .unfold mu
    dsimp only
    rw[g,hH,rz];lia
   .unfold mu
    dsimp only
    rw[g,hH,rz];lia
 .rename_i d;show⟨h,VS _,λz=>absurd z d⟩
theorem jh(a:ws.length<=24):∀(rs:List Row) (s:Lg) (b:Bool),(∀r∈rs,aX ws r)->gn ws s->gn ws (LK rs (s,b)).1/\mu (LK rs (s,b)).1<=mu s/\((LK rs (s,b)).2=b8->b=b8\/mu (LK rs (s,b)).1<mu s)
 |[],s,b,_,h=>⟨h,VS _,.inl⟩
 |r::rs,s,b,c,h=>by
  have⟨f,d,g⟩:=pZ a h (c r (by simp));have⟨b1,e,b3⟩:=jh a rs (L_ s r) (b||(may s r&&L9 s r)) (λy i=>c y (by simp[i])) f;show⟨b1,U2 e d,λz=>?_⟩;rcases b3 z with z|z
  .rw[KR]at z;rcases z with z|z
   .show .inl z
   .show .inr (Int.lt_of_le_of_lt e (g z))
  .show .inr (Int.lt_of_lt_of_le z d)
theorem kM(a:ws.length<=24)(b:∀r∈rs,aX ws r):∀(n:Nat) (s:Lg),gn ws s->gn ws (lim rs n s)
 |0,s,h=>h
 |n+1,s,h=>by
  unfold lim;have:=(jh a rs s cc b h).1;split
  .show kM a b n _ this
  .show this
noncomputable def uj : List S :=
        [.ite (.bi .all [.comp 1 cc .seq [.var 4] [] (.cmp .isin (.var 0) (.var 2))])
          [.set 5 (.bin .add (.cst (.int 1)) (.bi .sum [.comp 1 cc .seq [.var 4] [] (.idx (.var 2) (.var 0))])),
          .ite (.or [.cmp .Ki (.var 3) (.var 1),.cmp .lt (.var 5) (.idx (.var 1) (.var 3))])
            [.put 1 (.var 3) (.var 5),
            .set 2 (.cst (.bl true))]
            []]
          []]
abbrev um:List S :=
   [.set 2 (.cst (.bl cc)),
   .Kt b8 [3,4] .seq [(.var 0)] uj]
abbrev uo:Fn:=⟨"_law_costs",1,6,[.set 1 (.L0 cc),.set 2 (.cst (.bl b8)),.Og (.var 2) um,.ret (.var 1)]⟩
abbrev cD(s:Lg):U:=.J8 s.1 (s.1.map λk=>.int (s.2 k))
abbrev iA(rs:List Row)(s:Lg)(b:Bool)(o3 o4 o5:Option (Kd×U)):ay:=[a5 (.loc,.tup (rs.map A')),a5 (.own,cD s),a5 (.loc,.bl b),o3,o4,o5]
def we{ss:List Str}:Mg .seq [(k,.tup (ss.map .str))]=a5 (ss.map λx=>(kE k,U.str x)):=by
 change a5 ((ss.map U.str).map λu=>(kE k,u))=_;rw[i9];rfl
theorem wg(f:α->Int):∀(ns:List α),intsOf (ns.map λa=>U.int (f a))=a5 (ns.map f)
 |[]=>rfl
 |n::ns=>by change(intsOf (ns.map λa=>U.int (f a))).map _=_;rw[wg f ns];rfl
def sum_ints(f:α->Int)(l:List α):Md .sum [(k,.lst (l.map λa=>U.int (f a)))]=a5 (.loc,.int (l.map f).sum):=by
 change(intsOf (l.map λa=>U.int (f a))).map _=_;rw[wg];rfl
def A5{told:List Str}(hl:told.length<=1000)(c:∀x∈told,x∈s.1)(d:st[4]?=a5 (a5 (.loc,.tup (told.map .str))))(a:st[1]?=a5 (a5 (.own,cD s))):
  Run (ev Γ (.bi .sum [.comp 1 cc .seq [.var 4] [] (.idx (.var 2) (.var 0))])) st (.loc,.int (told.map s.2).sum) st:=by
 have e:(1000:Nat)<=cK:=by decide
 have b:=jE (cond:=bb Γ []) (elt:=ev Γ (.idx (.var 2) (.var 0))) (src:=[(.loc,.tup (told.map .str))]) (st:=st) trivial .loc (.inl rfl) U.str (λx=>.int (s.2 x)) .loc (λ_=>ja) told [] (by simp;lia)
  (λy f=>⟨aQ (aE (u:=cD s) (by simpa using a)) (af rfl) ⟨⟨.own,rfl,by simpa using a⟩,trivial⟩ (by change(cq s.1 (s.1.map λk=>U.int (s.2 k)) y).map _=_;rw[d9 (c y f)];rfl),aA⟩)
 rw[lg]at b;show c6 (aa (dY (rs:=[(.loc,.tup (told.map .str))]) (aa (af d) aj) trivial we b) aj) trivial (sum_ints _ _)
def A6(p:ws.length<=24)(hs:gn ws s)(h:aX ws r):
  ∃i,Run (execs Γ uj) (iA rs s b (a5 (.loc,.str r.1)) (a5 (.loc,.tup (r.2.map .str))) o5) .nx (iA rs (L_ s r) (b||(may s r&&L9 s r)) (a5 (.loc,.str r.1)) (a5 (.loc,.tup (r.2.map .str))) i):=by
 have q:=h.2.2.2;have hl:=hs.1.len;have a:=Ao (om (Γ:=Γ) (st:=iA rs s b (a5 (.loc,.str r.1)) (a5 (.loc,.tup (r.2.map .str))) o5) (src:=.var 4) (j:=1) (told:=r.2) (known:=s.1) (k:=.loc) (w:=cD s) (.inl rfl) ⋯ (af rfl) (.inr rfl) λx=>tZ);unfold L_;cases d:may s r with
 |false =>
  rw[show(r.2.all λx=>c4 (x∈s.1))=cc from d]at a;rw[ž (by simp),Vq,Pu];show⟨o5,bA a aB aB⟩
 |true =>
  rw[show(r.2.all λx=>c4 (x∈s.1))=b8 from d]at a;have l:∀x∈r.2,x∈s.1:=λx m=>by have:=i6.mp d x m;simpa using this
  have n:=A5 (Γ:=Γ) (st:=iA rs s b (a5 (.loc,.str r.1)) (a5 (.loc,.tup (r.2.map .str))) o5) (s:=s) (told:=r.2) ⋯ l rfl rfl;have f:Run (ev Γ (.bin .add (.cst (.int 1)) (.bi .sum [.comp 1 cc .seq [.var 4] [] (.idx (.var 2) (.var 0))]))) (iA rs s b (a5 (.loc,.str r.1)) (a5 (.loc,.tup (r.2.map .str))) o5) (.loc,.int (KH s r)) (iA rs s b (a5 (.loc,.str r.1)) (a5 (.loc,.tup (r.2.map .str))) o5):=bj ah n trivial bV;have c:Run (Kr Γ (.or [.cmp .Ki (.var 3) (.var 1),.cmp .lt (.var 5) (.idx (.var 1) (.var 3))])) (iA rs s b (a5 (.loc,.str r.1)) (a5 (.loc,.tup (r.2.map .str))) (a5 (.loc,.int (KH s r)))) (L9 s r) (iA rs s b (a5 (.loc,.str r.1)) (a5 (.loc,.tup (r.2.map .str))) (a5 (.loc,.int (KH s r)))) :=
   GS (En (aK (af rfl) (aE rfl) ∅ gF) λo=>Ak (aK (y:=(.loc,.int (s.2 r.1))) (af rfl) (aQ (aE rfl) (af rfl) ∅ (by change(cq s.1 (s.1.map λk=>U.int (s.2 k)) r.1).map _=_;rw[d9 (by simpa using o)];rfl)) trivial (Am rfl)))
  cases g:L9 s r with
  |false =>
   rw[g]at c;rw[ž (by simp),QU,Pu];show⟨_,cH a (aw f aD (bA c aB aB)) aB⟩
  |true =>
   rw[g]at c;rw[Ž (by simp),V_,ŏ];have e:dH (.str r.1) (.int (KH s r)) (cD s)=a5 (cD (d0 s.1 r.1,upd s.2 r.1 (KH s r))):=by
    unfold cD;rw[pV ⋯];congr 3
    funext k
    change _=U.int (upd s.2 r.1 (KH s r) k);unfold upd;split<;>rfl
   show⟨a5 (.loc,.int (KH s r)),cH a (aw f aD (cH c (jd (k:=.own) (k':=.own) (af rfl) rfl (af rfl) (ao aA (ao aA aC)) rfl rfl e (aw ah aD aB)) aB)) aB⟩
theorem rN(f:ws.length<=24):∀(e:List Row) (s:Lg) (b:Bool) (o3 o4 o5:Option (Kd×U)),(∀r∈e,aX ws r)->gn ws s ->
  ∃i j g,Run (forM b8 [3,4] (execs Γ uj) [(.loc,.tup (rs.map A'))] (e.map λr=>(Kd.loc,A' r))) (iA rs s b o3 o4 o5) .nx (iA rs (LK e (s,b)).1 (LK e (s,b)).2 i j g)
 |[],s,b,o3,o4,o5,_,_=>⟨o3,o4,o5,vS trivial⟩
 |r::e,s,b,o3,o4,o5,h,hs=>by
  have⟨g,q⟩:=A6 (Γ:=Γ) (rs:=rs) (b:=b) (o5:=o5) f hs (h r (by simp));have⟨a,c,d,k⟩:=rN f e (L_ s r) (b||(may s r&&L9 s r)) (a5 (.loc,.str r.1)) (a5 (.loc,.tup (r.2.map .str))) g (λy l=>h y (by simp[l])) (pZ f hs (h r (by simp))).1;show⟨a,c,d,Dt trivial (mr (.inl rfl)) q k⟩
theorem rO(b:ws.length<=24)(h:∀r∈rs,aX ws r):∀(f:Nat) (s:Lg) (o3 o4 o5:Option (Kd×U)),gn ws s->mu s+1<f ->
  ∃j k l,Run (fL (Kr Γ (.var 2)) (execs Γ um) f) (iA rs s b8 o3 o4 o5) .nx (iA rs (lim rs f s) cc j k l)
 |0,s,_,_,_,hs,m=>by have:=rM b hs;lia
 |f+1,s,o3,o4,o5,hs,m=>by
  have⟨a,c,d,q⟩:=rN (Γ:=Γ) (rs:=rs) b rs s cc o3 o4 o5 h hs;have⟨n,u,o⟩:=jh b rs s cc h hs;have e:Run (execs Γ um) (iA rs s b8 o3 o4 o5) .nx (iA rs (LK rs (s,cc)).1 (LK rs (s,cc)).2 a c d):=aw ah aD (c7 (rs:=[(.loc,.tup (rs.map A'))]) (aa (af rfl) aj) trivial pX rfl q aB);unfold lim;have m0:=rM b hs;cases i:(LK rs (s,cc)).2 with
  |true =>
   rw[i]at e;rw[Ž rfl];have v:=(o i).resolve_left (by simp);have⟨a',p,d',t⟩:=rO b h f (LK rs (s,cc)).1 a c d n ⋯;show⟨a',p,d',rD (fy rfl) e t⟩
  |false =>
   rw[i]at e;rw[ž (by simp)];obtain⟨f,rfl⟩:∃g,f=g+1:=⟨f - 1,⋯⟩
   show⟨a,c,d,rD (fy rfl) e (oh (fy rfl))⟩
abbrev s0:Lg:=([],λ_=>0)
def jJ(ws:List Str):gn ws s0:=⟨⟨Td,λx h=>(by cases h)⟩,λk h=>(by cases h),by decide⟩
abbrev A7(Γ:Tab):Prop:=∀(ws:List Str) (rs:List Row),ws.length<=24->(∀r∈rs,aX ws r)->Γ "_law_costs" [.tup (rs.map A')]=a5 (.ok (.own,cD (lim rs fuel s0)))
def yd(b:ws.length<=24)(e:∀r∈rs,aX ws r):bY Γ uo [.tup (rs.map A')]=a5 (.ok (.own,cD (lim rs fuel s0))):=by
 have⟨a,c,d,q⟩:=rO (Γ:=Γ) b e fuel s0 b6 b6 b6 (jJ ws) (by unfold fuel;decide);show bB (st0:=[a5 (.loc,.tup (rs.map A')),b6,b6,b6,b6,b6]) rfl (.inl rfl) ?_ (aw (lZ) ba (aw (st2:=iA rs s0 b8 b6 b6 b6) ah aD (rE q (bL (aE rfl) (j4 rfl)))));change [a5 (if Kw (.tup (rs.map A'))=b8 then Kd.loc else Kd.any,U.tup (rs.map A')),b6,b6,b6,b6,b6]=_;rw[Ž (by change cm (rs.map A')=b8;show bq rs)]
def G6(h:KJ Pg "_law_costs" uo):A7 (Kl Pg (d+1)):=λws rs a b=>by
 rw[aL h];show yd a b
abbrev wj:Fn:=⟨"row_price",2,2,[.ret (.bin .add (.cst (.int 1)) (.bi .sum [.comp 1 cc .seq [.idx (.var 0) (.cst (.int 1))] [] (.idx (.idx (.var 2) (.var 0)) (.cst (.int 0)))]))]⟩
noncomputable def A8 : List S :=
        [.ite (.bi .all [.comp 1 cc .seq [.idx (.var 4) (.cst (.int 1))] [] (.cmp .isin (.var 0) (.var 2))])
          [.set 5 (.call "row_price" [.var 4,.var 1]),
          .ite (.or [.cmp .Ki (.idx (.var 4) (.cst (.int 0))) (.var 1),.cmp .lt (.var 5) (.idx (.idx (.var 1) (.idx (.var 4) (.cst (.int 0)))) (.cst (.int 0)))])
            [.put 1 (.idx (.var 4) (.cst (.int 0))) (.tup [.var 5,.var 3]),
            .set 2 (.cst (.bl true))]
            []]
          []]
abbrev A9:List S :=
   [.set 2 (.cst (.bl cc)),
   .Kt b8 [3,4] .OE [(.var 0)] A8]
abbrev DO:Fn:=⟨"prices_and_places",1,6,[.set 1 (.L0 cc),.set 2 (.cst (.bl b8)),.Og (.var 2) A9,.ret (.var 1)]⟩
abbrev pD(s:Lg)(pl:Str->Int):U:=.J8 s.1 (s.1.map λk=>.tup [.int (s.2 k),.int (pl k)])
abbrev jK(Γ:Tab):Prop:=∀(s:Lg) (pl:Str->Int) (r:Row),(∀x∈r.2,x∈s.1)->r.2.length<=8->Γ "row_price" [A' r,pD s pl]=a5 (.ok (.loc,.int (KH s r)))
def A_(b:∀x∈r.2,x∈s.1)(e:r.2.length<=8):bY Γ wj [A' r,pD s pl]=a5 (.ok (.loc,.int (KH s r))):=by
 have c:(1000:Nat)<=cK:=by decide
 have a:=jE (cond:=bb Γ []) (elt:=ev Γ (.idx (.idx (.var 2) (.var 0)) (.cst (.int 0)))) (src:=[(.loc,.tup (r.2.map .str))]) (st:=[a5 (.loc,A' r),a5 (.any,pD s pl)]) trivial .loc (.inl rfl) U.str (λx=>.int (s.2 x)) .any (λ_=>ja) r.2 [] (by simp;lia)
  (λy d=>⟨aQ (x:=(.any,.tup [.int (s.2 y),.int (pl y)])) (aQ (bh rfl) (af rfl) trivial (by change(cq s.1 (s.1.map λk=>U.tup [.int (s.2 k),.int (pl k)]) y).map _=_;rw[d9 (b y d)];rfl)) ah trivial rfl,rh rfl⟩)
 rw[lg]at a;show bB (st0:=[a5 (.loc,A' r),a5 (.any,pD s pl)]) rfl (.inr rfl) ?_ (bL (bj ah (c6 (aa (dY (rs:=[(.loc,.tup (r.2.map .str))]) (aa (aQ (af rfl) ah trivial rfl) aj) trivial we a) aj) trivial (sum_ints _ _)) trivial bV) fb);change [a5 (if Kw (A' r)=b8 then Kd.loc else Kd.any,A' r),a5 (if Kw (pD s pl)=b8 then Kd.loc else Kd.any,pD s pl)]=_;rw[Ž (pN r),ž (by change ¬(cc=b8);decide)]
def Ba(h:KJ Pg "row_price" wj):jK (Kl Pg (d+1)):=λs pl r a b=>by
 rw[aL h];show A_ a b
abbrev Mk(rs:List Row)(s:Lg)(pl:Str->Int):Prop:=∀k∈s.1,∃(i:Nat) (r:Row),pl k=(i:Int)/\rs[i]?=a5 r/\r.1=k/\(∀x∈r.2,x∈s.1)/\KH s r<=s.2 k
theorem Bb{c a:α->Int}:∀{ts:List α},(∀x∈ts,a x<=c x)->(ts.map a).sum<=(ts.map c).sum
 |[],_=>VS _
 |x::ts,h=>by
  have d:=h x (by simp);have e:=Bb (ts:=ts) λy b=>h y (by simp[b]);rw[d3,d3,N',N'];lia
def Mk.step{i:Nat}(h:Mk rs s pl)(g:rs[i]?=a5 r)(l:may s r=b8)(b:L9 s r=b8):Mk rs (d0 s.1 r.1,upd s.2 r.1 (KH s r)) (upd pl r.1 (i:Int)):=by
 have c:∀x∈r.2,x∈s.1:=λx a=>by have:=i6.mp l x a;simpa using this
 have m:∀x∈s.1,upd s.2 r.1 (KH s r) x<=s.2 x:=λx a=>by
  unfold upd;split
  .rename_i e;subst e;unfold L9 at b;have:KH s r<s.2 r.1:=by simpa[a] using b
   lia
  .show VS _
 have d:∀q:Row,(∀x∈q.2,x∈s.1)->KH (d0 s.1 r.1,upd s.2 r.1 (KH s r)) q<=KH s q:=λq n=>by
  have:=Bb (ts:=q.2) λx a=>m x (n x a);unfold KH at this ⊢
  dsimp only
  lia
 intro k hk;by_cases e:k=r.1
 .subst e;show⟨i,r,by unfold upd;rw[Ž rfl],g,rfl,λx a=>dr.mpr (.inl (c x a)),U2 (d r c) ?_⟩;change KH s r<=upd s.2 r.1 (KH s r) r.1;unfold upd;rw[Ž rfl];show VS _
 .have⟨j,q,o,p,t,f,u⟩:=h k ((dr.mp hk).resolve_right e);show⟨j,q,by unfold upd;rw[ž e];show o,p,t,λx a=>dr.mpr (.inl (f x a)),U2 (d q f) ?_⟩;change KH s q<=upd s.2 r.1 (KH s r) k;unfold upd;rw[ž e];show u
def Mk.start(rs:List Row)(pl:Str->Int):Mk rs s0 pl:=λk hk=>by cases hk
abbrev ji(rs:List Row)(s:Lg)(pl:Str->Int)(b:Bool)(o3 o4 o5:Option (Kd×U)):ay:=[a5 (.loc,.tup (rs.map A')),a5 (.own,pD s pl),a5 (.loc,.bl b),o3,o4,o5]
def DP(m:jK Γ){n:Nat}(G:ws.length<=24)(hs:gn ws s)(o:aX ws r)(q:rs[n]?=a5 r)(f:Mk rs s pl):
  ∃i t,Run (execs Γ A8) (ji rs s pl b (a5 (.loc,.int (n:Int))) (a5 (.loc,A' r)) o5) .nx (ji rs (L_ s r) i (b||(may s r&&L9 s r)) (a5 (.loc,.int (n:Int))) (a5 (.loc,A' r)) t)/\Mk rs (L_ s r) i:=by
 generalize u:(n:Int)=p;have v:(1000:Nat)<=cK:=by decide
 have z:=o.2.2.2;have hl:=hs.1.len;have g:gI (.loc,A' r) (.int 0)=a5 (.loc,.str r.1):=rfl;have A:gI (.loc,A' r) (.int 1)=a5 (.loc,.tup (r.2.map .str)):=rfl;have a:=Ao (om (Γ:=Γ) (st:=ji rs s pl b (a5 (.loc,.int p)) (a5 (.loc,A' r)) o5) (src:=.idx (.var 4) (.cst (.int 1))) (j:=1) (told:=r.2) (known:=s.1) (k:=.loc) (w:=pD s pl) (.inl rfl) ⋯ (aQ (af rfl) ah trivial A) (.inr rfl) λx=>tZ);unfold L_;cases c:may s r with
 |false =>
  rw[show(r.2.all λx=>c4 (x∈s.1))=cc from c]at a;rw[ž (by simp),Vq,Pu];show⟨pl,o5,bA a aB aB,f⟩
 |true =>
  rw[show(r.2.all λx=>c4 (x∈s.1))=b8 from c]at a;have B:∀x∈r.2,x∈s.1:=λx C=>by have:=i6.mp c x C;simpa using this
  have l:Run (ev Γ (.call "row_price" [.var 4,.var 1])) (ji rs s pl b (a5 (.loc,.int p)) (a5 (.loc,A' r)) o5) (.loc,.int (KH s r)) (ji rs s pl b (a5 (.loc,.int p)) (a5 (.loc,A' r)) o5):=bG (aa (af rfl) (aa (aE rfl) aj)) ∅ (m s pl r B z);have d:Run (Kr Γ (.or [.cmp .Ki (.idx (.var 4) (.cst (.int 0))) (.var 1),.cmp .lt (.var 5) (.idx (.idx (.var 1) (.idx (.var 4) (.cst (.int 0)))) (.cst (.int 0)))])) (ji rs s pl b (a5 (.loc,.int p)) (a5 (.loc,A' r)) (a5 (.loc,.int (KH s r)))) (L9 s r) (ji rs s pl b (a5 (.loc,.int p)) (a5 (.loc,A' r)) (a5 (.loc,.int (KH s r)))) :=
   GS (En (aK (aQ (af rfl) ah trivial g) (aE rfl) ∅ gF) λD=>Ak (aK (y:=(.loc,.int (s.2 r.1))) (af rfl) (aQ (x:=(.loc,.tup [.int (s.2 r.1),.int (pl r.1)])) (aQ (aE rfl) (aQ (af rfl) ah trivial g) ∅ (by change(cq s.1 (s.1.map λk=>U.tup [.int (s.2 k),.int (pl k)]) r.1).map _=_;rw[d9 (by simpa using D)];rfl)) ah trivial rfl) trivial (Am rfl)))
  cases h:L9 s r with
  |false =>
   rw[h]at d;rw[ž (by simp),QU,Pu];show⟨pl,_,cH a (aw l aD (bA d aB aB)) aB,f⟩
  |true =>
   rw[h]at d;rw[Ž (by simp),V_,ŏ];have e:dH (.str r.1) (.tup [.int (KH s r),.int p]) (pD s pl)=a5 (pD (d0 s.1 r.1,upd s.2 r.1 (KH s r)) (upd pl r.1 p)):=by
    unfold pD;rw[pV ⋯];congr 3
    funext k
    change _=U.tup [.int (upd s.2 r.1 (KH s r) k),.int (upd pl r.1 p k)];unfold upd;split<;>rfl
   show⟨upd pl r.1 p,a5 (.loc,.int (KH s r)),cH a (aw l aD (cH d (jd (k:=.own) (k':=.own) (cQ (aa (af rfl) (aa (af rfl) aj)) trivial (ao aA (ao aA aC)) (by change 2<=cK;lia)) rfl (aQ (af rfl) ah trivial g) (ao aA (ao aA aC)) rfl rfl e (aw ah aD aB)) aB)) aB,u▸f.step q c h⟩
def DQ{rs:List Row}:Mg .OE [(.loc,.tup (rs.map A'))]=a5 (rs.zipIdx.map λp:Row×Nat=>(Kd.loc,U.tup [.int (p.2:Nat),A' p.1])):=by
 change a5 ((rs.map A').zipIdx.map λp=>(kE .loc,U.tup [.int p.2,p.1]))=_;rw[ę,i9];rfl
theorem wm(l:jK Γ)(f:ws.length<=24):∀(e:List Row) (n:Nat) (s:Lg) (pl:Str->Int) (b:Bool) (o3 o4 o5:Option (Kd×U)),(∀r∈e,aX ws r)->(∀(i:Nat) (r:Row),e[i]?=a5 r->rs[n+i]?=a5 r)->gn ws s->Mk rs s pl ->
  ∃m t u g,Run (forM b8 [3,4] (execs Γ A8) [(.loc,.tup (rs.map A'))] ((e.zipIdx n).map λp:Row×Nat=>(Kd.loc,U.tup [.int (p.2:Nat),A' p.1]))) (ji rs s pl b o3 o4 o5) .nx (ji rs (LK e (s,b)).1 m (LK e (s,b)).2 t u g)/\Mk rs (LK e (s,b)).1 m
 |[],n,s,pl,b,o3,o4,o5,_,_,_,h=>⟨pl,o3,o4,o5,vS trivial,h⟩
 |r::e,n,s,pl,b,o3,o4,o5,j,o,hs,h=>by
  have⟨v,g,q,w⟩:=DP l (rs:=rs) (pl:=pl) (b:=b) (n:=n) (o5:=o5) f hs (j r (by simp)) (by simpa using o 0 r rfl) h;have⟨x,a,c,d,z,A⟩:=wm l f e (n+1) (L_ s r) v (b||(may s r&&L9 s r)) (a5 (.loc,.int (n:Int))) (a5 (.loc,A' r)) g (λy k=>j y (by simp[k])) (λi y k=>by rw[Nat.add_assoc,Nat.add_comm 1 i];show o (i+1) y (by simpa using k)) (pZ f hs (j r (by simp))).1 w;show⟨x,a,c,d,Dt trivial (mr (.inl rfl)) q z,A⟩
theorem wo(m:jK Γ)(b:ws.length<=24)(j:∀r∈rs,aX ws r):∀(f:Nat) (s:Lg) (pl:Str->Int) (o3 o4 o5:Option (Kd×U)),gn ws s->Mk rs s pl->mu s+1<f ->
  ∃n p t u,Run (fL (Kr Γ (.var 2)) (execs Γ A9) f) (ji rs s pl b8 o3 o4 o5) .nx (ji rs (lim rs f s) n cc p t u)/\Mk rs (lim rs f s) n
 |0,s,_,_,_,_,hs,_,v=>by have:=rM b hs;lia
 |f+1,s,pl,o3,o4,o5,hs,w,v=>by
  have⟨k,a,c,d,q,o⟩:=wm m (rs:=rs) b rs 0 s pl cc o3 o4 o5 j (λi r h=>by rw[Pf];show h) hs w;have⟨x,D,y⟩:=jh b rs s cc j hs;have e:Run (execs Γ A9) (ji rs s pl b8 o3 o4 o5) .nx (ji rs (LK rs (s,cc)).1 k (LK rs (s,cc)).2 a c d):=aw ah aD (c7 (rs:=[(.loc,.tup (rs.map A'))]) (aa (af rfl) aj) trivial DQ rfl q aB);unfold lim;have m0:=rM b hs;cases l:(LK rs (s,cc)).2 with
  |true =>
   rw[l]at e;rw[Ž rfl];have G:=(y l).resolve_left (by simp);have⟨z,a',A,d',B,C⟩:=wo m b j f (LK rs (s,cc)).1 k a c d x o ⋯;show⟨z,a',A,d',rD (fy rfl) e B,C⟩
  |false =>
   rw[l]at e;rw[ž (by simp)];obtain⟨f,rfl⟩:∃g,f=g+1:=⟨f - 1,⋯⟩
   show⟨k,a,c,d,rD (fy rfl) e (oh (fy rfl)),o⟩
abbrev rP(Γ:Tab):Prop:=∀(ws:List Str) (rs:List Row),ws.length<=24->(∀r∈rs,aX ws r)->∃pl,Γ "prices_and_places" [.tup (rs.map A')]=a5 (.ok (.own,pD (lim rs fuel s0) pl))/\Mk rs (lim rs fuel s0) pl
def DR(b:jK Γ)(e:ws.length<=24)(f:∀r∈rs,aX ws r):∃pl,bY Γ DO [.tup (rs.map A')]=a5 (.ok (.own,pD (lim rs fuel s0) pl))/\Mk rs (lim rs fuel s0) pl:=by
 have⟨pl,a,c,d,q,g⟩:=wo b e f fuel s0 (λ_=>0) b6 b6 b6 (jJ ws) (Mk.start rs _) (by unfold fuel;decide);show⟨pl,bB (st0:=[a5 (.loc,.tup (rs.map A')),b6,b6,b6,b6,b6]) rfl (.inl rfl) ?_ (aw (lZ) ba (aw (st2:=ji rs s0 (λ_=>0) b8 b6 b6 b6) ah aD (rE q (bL (aE rfl) (j4 rfl))))),g⟩;change [a5 (if Kw (.tup (rs.map A'))=b8 then Kd.loc else Kd.any,U.tup (rs.map A')),b6,b6,b6,b6,b6]=_;rw[Ž (by change cm (rs.map A')=b8;show bq rs)]
def Ez(a:jK (Kl Pg d))(h:KJ Pg "prices_and_places" DO):rP (Kl Pg (d+1)):=λws rs b c=>by
 have⟨pl,e,f⟩:=DR a b c;show⟨pl,by rw[aL h];show e,f⟩
abbrev kN:Fn:=⟨"prices",1,1,[.ret (.bi .sorted [.comp 2 b8 .QD [.call "prices_and_places" [.var 0]] [] (.tup [.var 0,.idx (.var 1) (.cst (.int 0))])])]⟩
abbrev Mw(c:Str->Int)(x:Str):U:=.tup [.str x,.int (c x)]
theorem wq(c:Str->Int):∀ks:List Str,nL (ks.map (Mw c))=a5 ks
 |[]=>rfl
 |k::ks=>by
  change(nL (ks.map (Mw c))).map _=_;rw[wq c ks];rfl
def wt(c:Str->Int)(hl:ks.length<64)(a:ks.Nodup):∃b:List Str,b.Perm ks/\Md .sorted [(.own,.lst (ks.map (Mw c)))]=a5 (.own,.lst (b.map (Mw c))):=by
 cases ks with
 |nil =>
  have e:aU []=[]:=Ķ.mp (bX []);show⟨[],MG _,?_⟩;change(if ([]:List Str).length<64 then a5 (Kd.own,U.lst ((aU []).map U.str)) else b6)=_;rw[e];rfl
 |cons k0 f =>
  generalize g:k0::f=ks at hl a;have e:(gs ks.length).map (λi=>ks.getD i nH)=ks:=by
   apply LF
   .simp
   .intro i m h;simp[w6,h]
  have d:=(cj ks).map λi=>ks.getD i nH;rw[e]at d;show⟨_,d,?_⟩;have j:strsOf (ks.map (Mw c))=b6:=by subst g;rfl
  change xy .own (ks.map (Mw c))=_;unfold xy;rw[j];change Cp .own (ks.map (Mw c))=_;unfold Cp;rw[wq];change(if _ then _ else _)=_;rw[Ž ⟨hl,a,rfl⟩,i9];congr 3
  apply tr;intro i k;have l:i<ks.length:=rr.mp ((cj _).mem_iff.mp k);simp[w6,l]
def wu:Mg .QD [(.own,pD s pl)]=a5 (s.1.map λk=>(Kd.loc,U.tup [.str k,.tup [.int (s.2 k),.int (pl k)]])):=by
 change a5 (sM (s.1,s.1.map λk=>U.tup [.int (s.2 k),.int (pl k)]))=_;unfold sM;congr 1
 dsimp only
 generalize s.1=l;induction l with
 |nil=>rfl
 |cons k l a=>rw[d3,PQ,d3,a,d3]
abbrev p7(Γ:Tab):Prop:=∀(ws:List Str) (rs:List Row),ws.length<=24->(∀r∈rs,aX ws r)->∃ks:List Str,ks.Perm (lim rs fuel s0).1/\Γ "prices" [.tup (rs.map A')]=a5 (.ok (.own,.lst (ks.map (Mw (lim rs fuel s0).2))))
def rQ(f:rP Γ)(b:ws.length<=24)(c:∀r∈rs,aX ws r):∃ks:List Str,ks.Perm (lim rs fuel s0).1/\bY Γ kN [.tup (rs.map A')]=a5 (.ok (.own,.lst (ks.map (Mw (lim rs fuel s0).2)))):=by
 have g:(1000:Nat)<=cK:=by decide
 obtain⟨pl,e,_⟩:=f ws rs b c;have a:=kM b c fuel s0 (jJ ws);generalize lim rs fuel s0=s at e a;have hl:=a.1.len;have d:=jH (st:=[a5 (.loc,.tup (rs.map A'))]) (cond:=bb Γ []) (elt:=ev Γ (.tup [.var 0,.idx (.var 1) (.cst (.int 0))])) (src:=[(.own,pD s pl)]) trivial (λk:Str=>U.str k) (λk=>.tup [.int (s.2 k),.int (pl k)]) (Mw s.2) (λ_=>b8) s.1 [] (by simp;lia)
  (λy _=>⟨ja,cQ (aa (af rfl) (aa (aQ (af rfl) ah trivial rfl) aj)) trivial (ao aA (ao aA aC)) (by change 2<=cK;lia)⟩)
 rw[lg,show s.1.filter (λ_=>b8)=s.1 from M'.mpr λ_ _=>rfl]at d;have⟨ks,h,es⟩:=wt s.2 (ks:=s.1) ⋯ a.1.1;show⟨ks,h,bB (st0:=[a5 (.loc,.tup (rs.map A'))]) rfl (.inl rfl) ?_ (bL (c6 (aa (dY (rs:=[(.own,pD s pl)]) (aa (bG (aa (af rfl) aj) trivial e) aj) trivial wu d) aj) trivial es) gZ)⟩;change [a5 (if Kw (.tup (rs.map A'))=b8 then Kd.loc else Kd.any,U.tup (rs.map A'))]=_;rw[Ž (by change cm (rs.map A')=b8;show bq rs)]
def DS(a:rP (Kl Pg d))(h:KJ Pg "prices" kN):p7 (Kl Pg (d+1)):=λws rs b c=>by
 have⟨ks,f,e⟩:=rQ a b c;show⟨ks,f,by rw[aL h];show e⟩
section
def Bc(p:i≠j)(l:st[i]?=a5 (a5 (k0,a)))(c:k0.root=b8)(m:st[j]?=a5 (a5 (k0',d)))(z:k0'.root=b8)(A:Run (bp Γ es) st rs st1)
  (b:st1[i]?=a5 (a5 (k,.lst us))) (hk:k.root=b8) (B:cm us=b8) (n:st1[j]?=a5 (a5 (k',.lst vs))) (s:k'.root=b8) (C:cm vs=b8) (D:rs.map (eh st1)=rs) (G:bo rs st1) (H:∀r∈rs,qO [a5 i,a5 j] r=b8)
  (I:Γ f (.lst us::.lst vs::rs.map (·.2))=a5 (.ok (o,.tup [v,.lst t,.lst w]))) (J:o=.own\/o=.loc):Run (ev Γ (.J9 f (.var i::.var j::es) [0,1])) st (o,v) ((st1.set i (a5 (k,.lst t))).set j (a5 (k',.lst w))):=by
 have x:∀(i:Nat) (k0:Kd) (a:U),st[i]?=a5 (a5 (k0,a))->k0.root=b8->Run (ev Γ (.var i)) st (.bor i,a) st:=λi k0 a l c=>by
  have:=dU l (by rintro rfl;cases c);unfold kv at this;rw[Ž c]at this;show this
 have y:∀(i:Nat) (k:Kd) (a u:U),st1[i]?=a5 (a5 (k,u))->k.root=b8->eh st1 (.bor i,a)=(.bor i,u):=λi k a u b hk=>by
  unfold eh
  dsimp only
  rw[b];simp[hk]
 have e:((Kd.bor i,a)::(Kd.bor j,d)::rs).map (eh st1)=(.bor i,.lst us)::(.bor j,.lst vs)::rs:=by rw[d3,d3,y i k a _ b hk,y j k' d _ n s,D]
 have g:ig ((Kd.bor i,U.lst us)::(Kd.bor j,U.lst vs)::rs) 0=a5 i:=by
  change(if cm us=b8 then a5 i else b6)=_;rw[Ž B]
 have h:ig ((Kd.bor i,U.lst us)::(Kd.bor j,U.lst vs)::rs) 1=a5 j:=by
  change(if cm vs=b8 then a5 j else b6)=_;rw[Ž C]
 show tS (rs:=(.bor i,a)::(.bor j,d)::rs) (ws:=[.lst t,.lst w]) (st1:=st1) (aa (x i k0 a l c) (aa (x j k0' d m z) A)) ?_ ?_ J ?_ ?_
 .rw[e];show⟨⟨k,hk,b⟩,⟨k',s,n⟩,G⟩
 .rw[e];show I
 .rw[e];unfold qQ;rw[cb,cb];show⟨⟨by simp[g,h],by simp[g,h,p]⟩,i6.mpr λq L=>?_⟩
  match q with
  |0=>simp
  |1=>simp
  |q+2 =>
   have hl:q<rs.length:=by have:=rr.mp L;simpa using this
   rw[KR];show .inr ?_;rw[show((Kd.bor i,U.lst us)::(Kd.bor j,U.lst vs)::rs).getD (q+2) (.loc,.Kb)=rs[q] by simp[w6,hl]];simp only[d3,H8,g,h];show H _ (Lx hl)
 .rw[e];unfold gV;rw[g]
  dsimp only
  rw[b]
  dsimp only
  unfold gV;rw[h]
  dsimp only
  rw[i1 p,n];rfl
end
abbrev mF(Γ:Tab):Prop:=∀(ns:List Int) (u:U) (ws:List Str) (T:Int),Src T u->T+500<2 ^ 62->ns.length<1000->0<ws.length->ws.length<1000000 ->
  ∃(rs:List Row) (a:List Int) (u':U),Γ "_law_book" [.lst (ns.map .int),u,.lst (ws.map .str)]=a5 (.ok (.loc,.tup [.tup (rs.map A'),.lst (a.map .int),u']))/\dk ws rs/\rs.length<=60/\a.length<=ns.length/\Src (T+500) u'
def Bd(a:jg (Kl Pg d))(b:bC (Kl Pg d))(c:mB (Kl Pg d))(f:mC (Kl Pg d))(h:KJ Pg "_law_book" pU):mF (Kl Pg (d+1)):=by
 intro ns u ws T g i j k l;have⟨rs,m,u',e,r⟩:=uf a b c f g i j k l;show⟨rs,m,u',by rw[cR h _ rfl];show e,r⟩
def rR(a:jg Γ){ns:List Int}:∃(b:List Int) (u:U),Run (ev Γ (.J9 "_law_source" [.var 1,.cst (.int k)] [0])) (o0::a5 (.own,.lst (ns.map .int))::rest) (.own,u) (o0::a5 (.own,.lst (b.map .int))::rest)/\b.length<=ns.length/\Src 0 u:=by
 by_cases h:ns=[]
 .subst h;show⟨[],fM k 0 1,G5 (k0:=.own) (k:=.own) a rfl rfl ah rfl rfl,i0 _,⟨_,_,_,rfl,⋯,⋯⟩⟩
 .have e:=R7 h;generalize ns.dropLast=l at e;generalize ns.getLast h=c at e;subst e;show⟨l,fM (c / 2) 0 (c % 2),AK (k0:=.own) (k:=.own) a rfl rfl ah rfl rfl,by simp,⟨_,_,_,rfl,⋯,⋯⟩⟩
def Src.lst(h:Src T u):∃us,u=.lst us/\cm us=b8:=by
 obtain⟨a,t,w,rfl,_,_⟩:=h;show⟨_,rfl,rfl⟩
abbrev QQ(rs:List Row)(s:Lg):Prop:=∀r∈rs,(may s r&&L9 s r)=cc
theorem wy:∀(rs:List Row) (s:Lg) (b:Bool),(LK rs (s,b)).2=cc->b=cc/\QQ rs s/\(LK rs (s,b)).1=s
 |[],s,b,h=>⟨h,λr d=>(by cases d),rfl⟩
 |r::rs,s,b,h=>by
  have⟨f,a,g⟩:=wy rs (L_ s r) (b||(may s r&&L9 s r)) h;have⟨i,c⟩:=Ù.mp f;have e:L_ s r=s:=by unfold L_;rw[ž (by simp[c])]
  rw[e]at a;show⟨i,λq hq=>?_,?_⟩
  .rcases d6.mp hq with rfl|hq
   .show c
   .show a q hq
  .change(LK rs (L_ s r,b||(may s r&&L9 s r))).1=s;rw[g,e]
theorem wz(a:ws.length<=24)(b:∀r∈rs,aX ws r):∀(n:Nat) (s:Lg),gn ws s->mu s+1<n->QQ rs (lim rs n s)
 |0,s,h,d=>by have:=rM a h;lia
 |n+1,s,h,d=>by
  have⟨e,j,f⟩:=jh a rs s cc b h;unfold lim;cases c:(LK rs (s,cc)).2 with
  |true =>
   rw[Ž rfl];have:=(f c).resolve_left (by simp);show wz a b n _ e ⋯
  |false =>
   rw[ž (by simp)];obtain⟨_,g,i⟩:=wy rs s cc c;rw[i];show g
def Mk.best(h:Mk rs s pl)(hs:QQ rs s)(hk:k∈s.1):∃(i:Nat) (r:Row),pl k=(i:Int)/\rs[i]?=a5 r/\r.1=k/\(∀x∈r.2,x∈s.1)/\s.2 k=KH s r:=by
 have⟨i,r,e,b,c,d,f⟩:=h k hk;show⟨i,r,e,b,c,d,Int.le_antisymm ?_ f⟩;have a:=hs r (mh b);have g:may s r=b8:=i6.mpr λx j=>by simpa using d x j
 rw[g,ĺ]at a;unfold L9 at a;rw[c]at a;simp[hk]at a;show a
abbrev p8:Fn:=⟨"best_rows",1,1,[.ret (.bi .sorted [.comp 2 b8 .QD [.call "prices_and_places" [.var 0]] [] (.tup [.var 0,.idx (.var 1) (.cst (.int 1))])])]⟩
abbrev Be(Γ:Tab):Prop:=∀(ws:List Str) (rs:List Row),ws.length<=24->(∀r∈rs,aX ws r)->∃(pl:Str->Int) (ks:List Str),ks.Perm (lim rs fuel s0).1/\Γ "best_rows" [.tup (rs.map A')]=a5 (.ok (.own,.lst (ks.map (Mw pl))))/\Mk rs (lim rs fuel s0) pl
def uq(g:rP Γ)(b:ws.length<=24)(c:∀r∈rs,aX ws r):∃(pl:Str->Int) (ks:List Str),ks.Perm (lim rs fuel s0).1/\bY Γ p8 [.tup (rs.map A')]=a5 (.ok (.own,.lst (ks.map (Mw pl))))/\Mk rs (lim rs fuel s0) pl:=by
 have h:(1000:Nat)<=cK:=by decide
 have⟨pl,e,d⟩:=g ws rs b c;have a:=kM b c fuel s0 (jJ ws);generalize lim rs fuel s0=s at e a d ⊢;have hl:=a.1.len;have f:=jH (st:=[a5 (.loc,.tup (rs.map A'))]) (cond:=bb Γ []) (elt:=ev Γ (.tup [.var 0,.idx (.var 1) (.cst (.int 1))])) (src:=[(.own,pD s pl)]) trivial (λk:Str=>U.str k) (λk=>.tup [.int (s.2 k),.int (pl k)]) (Mw pl) (λ_=>b8) s.1 [] (by simp;lia)
  (λy _=>⟨ja,cQ (aa (af rfl) (aa (aQ (af rfl) ah trivial rfl) aj)) trivial (ao aA (ao aA aC)) (by change 2<=cK;lia)⟩)
 rw[lg,show s.1.filter (λ_=>b8)=s.1 from M'.mpr λ_ _=>rfl]at f;have⟨ks,i,es⟩:=wt pl (ks:=s.1) ⋯ a.1.1;show⟨pl,ks,i,bB (st0:=[a5 (.loc,.tup (rs.map A'))]) rfl (.inl rfl) ?_ (bL (c6 (aa (dY (rs:=[(.own,pD s pl)]) (aa (bG (aa (af rfl) aj) trivial e) aj) trivial wu f) aj) trivial es) gZ),d⟩;change [a5 (if Kw (.tup (rs.map A'))=b8 then Kd.loc else Kd.any,U.tup (rs.map A'))]=_;rw[Ž (by change cm (rs.map A')=b8;show bq rs)]
def G7(a:rP (Kl Pg d))(h:KJ Pg "best_rows" p8):Be (Kl Pg (d+1)):=λws rs b c=>by
 have⟨pl,ks,f,e,i⟩:=uq a b c;show⟨pl,ks,f,by rw[aL h];show e,i⟩
end TM
namespace KL
open PySem L2 TM
abbrev dm:Fn:=⟨"gathered",1,4,[.newD 1,.Kt b8 [2,3] .seq [.var 0] [.ite (.inD b8 (.var 2) 1) [.putD 1 (.var 2) (.lst [])] [],.Mr 1 (.var 2) (.var 3)],.ret (.QF 1)]⟩
abbrev bf:Fn:=⟨"places_that_tell",1,4,[.set 1 (.lst []),.Kt b8 [2,3] .OE [.var 0] [.ext 1 (.comp 1 cc .seq [.idx (.var 3) (.cst (.int 1))] [] (.tup [.var 0,.var 3]))],.ret (.call "gathered" [.var 1])]⟩
abbrev cT:Fn:=⟨"new_steps",3,6,[.set 3 (.L0 cc),.Kt cc [4] .seq [.var 1] [.set 5 (.idx (.idx (.var 0) (.var 4)) (.cst (.int 0))),.ite (.and [.cmp .Ki (.var 5) (.var 2),.cmp .Ki (.var 5) (.var 3)]) [.put 3 (.var 5) (.var 4)] []],.ret (.QG 3)]⟩
abbrev br:Fn:=⟨"steps_in_rounds",1,10,[.set 1 (.call "places_that_tell" [.var 0]),.set 2 (.comp 1 cc .seq [.var 0] [] (.bi .len [.idx (.var 0) (.cst (.int 1))])),.set 3 (.L0 cc),.set 4 (.lst []),.set 5 (.comp 2 b8 .OE [.var 2] [.cmp .eq (.var 1) (.cst (.int 0))] (.var 0)),.Og (.cmp .ne (.var 5) (.lst [])) [.set 6 (.call "new_steps" [.var 0,.var 5,.var 3]),.set 5 (.lst []),.Kt b8 [7,8] .seq [.var 6] [.put 3 (.var 7) (.cst (.bl b8)),.Kt cc [9] .seq [.MN 1 (.var 7) (.lst [])] [.aug b8 2 (.var 9) (.cst (.int 1)),.ite (.cmp .eq (.idx (.var 2) (.var 9)) (.cst (.int 0))) [.app 5 (.var 9)] []]],.ite (.cmp .ne (.var 6) (.lst [])) [.app 4 (.var 6)] []],.ret (.var 4)]⟩
abbrev fz:Fn:=⟨"order",1,3,[.set 1 (.lst []),.Kt cc [2] .seq [.call "steps_in_rounds" [.var 0]] [.ext 1 (.var 2)],.ret (.var 1)]⟩
abbrev fc:Fn:=⟨"learnt",1,1,[.ret (.bi .sorted [.comp 2 b8 .seq [.call "order" [.var 0]] [] (.var 0)])]⟩
end KL
namespace KL
open PySem L2 TM Kv Od
abbrev cz(f:Str->List Nat)(k:Str):U:=.lst ((f k).map λt:Nat=>U.int (t:Nat))
def jL(d:List (Str×Nat))(y:Str×Nat)(k:Str):aM (d++[y]) k=if y.1=k then aM d k++[y.2] else aM d k:=by
 rw[rC];by_cases e:y.1=k
 .rw[Ž e];simp[aM,e]
 .rw[ž e];simp[aM,e]
def Bg(d:List (Str×Nat))(k:Str):(aM d k).length<=d.length:=by
 unfold aM;rw[c2];show vr _ _
section
def p_(hl:ps.length<=1000):∃ks:List Str,(∀w,w∉ks->aM ps w=[])/\bY Γ dm [.lst (ps.map stN)]=a5 (.ok (.own,.J8 ks (ks.map (cz (aM ps))))):=by
 have hsz:(2000:Nat)<=cK:=by decide
 have A:TM.start [.lst (ps.map stN)] 4=[a5 (.any,.lst (ps.map stN)),b6,b6,b6]:=rfl;let S:=λ(ks:List Str) (us:List U) (o2 o3:Option (Kd×U))=>([a5 (.any,.lst (ps.map stN)),a5 (.J6,.J8 ks us),o2,o3]:ay)
 let body:List TM.S:=[.ite (.inD b8 (.var 2) 1)
    [.putD 1 (.var 2) (.lst [])]
    [],
   .Mr 1 (.var 2) (.var 3)]
 have⟨st',B,l,ks,o2,o3,e,f,hk,C⟩:=cw (t:=b8) (is:=[2,3]) (body:=execs Γ body) (rs:=[(.any,.lst (ps.map stN))]) (λp:Str×Nat=>(Kd.any,stN p))
  (λd r st=>d++r=ps/\∃(ks:List Str) (o2 o3:Option (Kd×U)),st=S ks (ks.map (cz (aM d))) o2 o3/\ks.Nodup/\(∀w,w∉ks->aM d w=[])/\ks.length<=d.length) (λ_ _ _ _=>trivial) (λd y r st D=>by
   have⟨l,ks,o2,o3,e,f,hk,C⟩:=D;subst e;have L:d.length<1000:=by have:=Δ Lp l;simp at this;lia
   let g:Option (Kd×U):=a5 (.any,.str y.1);let i:Option (Kd×U):=a5 (.any,.int (y.2:Nat));have G:=Bg d y.1;have j:∀(ks:List Str),ks.Nodup->y.1∈ks->Run (execs Γ [.Mr 1 (.var 2) (.var 3)]) (S ks (ks.map (cz (aM d))) g i) .nx (S ks (ks.map (cz (aM (d++[y])))) g i):=λks f c=>by
    have H:cq ks (ks.map (cz (aM d))) y.1=a5 (.lst ((aM d y.1).map λt:Nat=>U.int (t:Nat))):=by rw[mw,Ž c];rfl
    have hs:kq ks (ks.map (cz (aM d))) y.1 (.lst ((aM d y.1).map (λt:Nat=>U.int (t:Nat))++[.int (y.2:Nat)]))=ks.map (cz (aM (d++[y]))):=by
     rw[rF _ _ _ _ f];show tr λk hk=>?_;unfold cz;rw[jL];by_cases e:y.1=k
     .subst e;rw[Ž rfl,Ž rfl];simp
     .rw[ž e,ž (qP e)]
    rw[<-hs];show G0 (k:=.any) (r:=(.any,.int (y.2:Nat))) rfl (bh rfl) c (bh rfl) (rh rfl) H (by rw[c2];lia) aB
   have m:Run (Kr Γ (.inD b8 (.var 2) 1)) (S ks (ks.map (cz (aM d))) g i) (!c4 (y.1∈ks)) (S ks (ks.map (cz (aM d))) g i):=IW (neg:=b8) (k:=.any) (bh rfl) rfl;have q:Run (dN b8 [2,3] (.any,stN y)) (S ks (ks.map (cz (aM d))) o2 o3) () (S ks (ks.map (cz (aM d))) g i):=mr (.inr rfl);by_cases c:y.1∈ks
   .rw[Α c]at m;show⟨_,_,q,pM m (λh=>by cases h) λ_=>j ks f c,by rw[<-l];simp,ks,_,_,rfl,f,λw n=>?_,by simp;lia⟩;have o:y.1≠w:=λz=>n (by rw[<-z];show c);rw[jL,ž o];show hk w n
   .rw[ſ c]at m;have s:(ks++[y.1]).Nodup:=by
     rw[ri];show⟨f,by simp,λa I b J e=>?_⟩;have:b=y.1:=by simpa using J
     subst this;show c (e▸I)
    have em:ks.map (cz (aM d))++[.lst []]=(ks++[y.1]).map (cz (aM d)):=by
     rw[ki];congr 1
     change _=[cz (aM d) y.1]
     unfold cz;rw[hk y.1 c];rfl
    have v:=j (ks++[y.1]) s (by simp);rw[<-em]at v;show⟨_,_,q,pM m (λ_=>GZ (k:=.any) (xs:=[]) (bO aj trivial aC (kr _)) rfl (bh rfl) c ⋯ v) λh=>(by cases h),by rw[<-l];simp,ks++[y.1],_,_,rfl,s,λw n=>?_,by simp;lia⟩;have x:w∉ks/\w≠y.1:=by simpa using n
    rw[jL,ž (qP x.2)];show hk w x.1) ps [] (S [] [] b6 b6) ⟨rfl,[],b6,b6,rfl,.nil,λ_ _=>rfl,i0 _⟩
 subst e;rw[lg]at *;show⟨ks,hk,?_⟩;have e:(ps.map stN).map (λu=>(kE .any,u))=ps.map λp=>(Kd.any,stN p):=by rw[i9];rfl
 show bB rfl (.inl rfl) A (GY (c7 (rs:=[(.any,.lst (ps.map stN))]) (st1:=S [] [] b6 b6) (aa (bh rfl) aj) trivial rfl rfl (by rw[e];show B) (bL (IX rfl) (j4 rfl))))
abbrev EA(Γ:Tab):Prop:=∀ps:List (Str×Nat),ps.length<=1000->∃ks:List Str,(∀w,w∉ks->aM ps w=[])/\Γ "gathered" [.lst (ps.map stN)]=a5 (.ok (.own,.J8 ks (ks.map (cz (aM ps)))))
def ur(s:EA Γ)(v:Once rows)(z:∀r∈rows,r.2.length<=8)(J:rows.length<=120):
  ∃ks:List Str,(∀w,w∉ks->KP rows rows.length w=[])/\bY Γ bf [.tup (rows.map A')]=a5 (.ok (.own,.J8 ks (ks.map (cz (KP rows rows.length))))):=by
 have hsz:(2000:Nat)<=cK:=by decide
 have A:TM.start [.tup (rows.map A')] 4=[a5 (.loc,.tup (rows.map A')),b6,b6,b6]:=by simp[TM.start,Kw,bq]
 let S:=λ(ps:List (Str×Nat)) (o2 o3:Option (Kd×U))=>([a5 (.loc,.tup (rows.map A')),a5 (.own,.lst (ps.map stN)),o2,o3]:ay)
 let body:List TM.S:=[.ext 1 (.comp 1 cc .seq [.idx (.var 3) (.cst (.int 1))] [] (.tup [.var 0,.var 3]))]
 have⟨st',B,g,ps,o2,o3,e,h,l⟩:=cw (t:=b8) (is:=[2,3]) (body:=execs Γ body) (rs:=[(.loc,.tup (rows.map A'))]) (λp:Row×Nat=>(Kd.loc,U.tup [.int (p.2:Nat),A' p.1]))
  (λd r st=>d++r=rows.zipIdx/\∃(ps:List (Str×Nat)) (o2 o3:Option (Kd×U)),st=S ps o2 o3/\(∀w,aM ps w=KP rows d.length w)/\ps.length<=8 * d.length) (λ_ _ _ _=>trivial) (λd y r st C=>by
   have⟨g,ps,o2,o3,e,h,l⟩:=C;subst e;have⟨f,i⟩:=y;have m:(rows.zipIdx)[d.length]?=a5 (f,i):=by rw[<-g];simp
   rw[Vp,d5]at m;have⟨a,n,e⟩:=m;have D:a=f:=Δ Ģ e;have o:0+d.length=i:=Δ Prod.snd e;rw[Pf]at o;subst D o;have L:d.length<120:=by have:=Δ Lp g;simp at this;lia
   have G:=z a (mh n);let b:Option (Kd×U):=a5 (.loc,.int (d.length:Nat));let c:Option (Kd×U):=a5 (.loc,A' a);have q:=jE (cond:=bb Γ []) (elt:=ev Γ (.tup [.var 0,.var 3])) (src:=[(.loc,.tup (a.2.map .str))]) (st:=S ps b c) trivial .loc (.inl rfl) U.str (λx=>stN (x,d.length)) .loc (λ_=>ja) a.2 [] (by simp;lia)
    (λy _=>⟨cQ (aa (af rfl) (aa (af rfl) aj)) trivial (ao aA (ao aA aC)) (by change 2<=cK;lia),aA⟩)
   rw[lg]at q;have e:(a.2.map U.str).map (λu=>(kE .loc,u))=a.2.map λr=>(Kd.loc,U.str r):=by rw[i9];rfl
   have H:Run (ev Γ (.comp 1 cc .seq [.idx (.var 3) (.cst (.int 1))] [] (.tup [.var 0,.var 3]))) (S ps b c) (.own,.lst (a.2.map λx=>stN (x,d.length))) (S ps b c) :=
    dY (rs:=[(.loc,.tup (a.2.map .str))]) (aa (aQ (x:=(.loc,A' a)) (af rfl) ah trivial rfl) aj) trivial (by change a5 _=_;rw[e]) q
   have em:ps.map stN++(a.2.map λx=>stN (x,d.length))=(ps++a.2.map λx=>(x,d.length)).map stN:=by simp
   show⟨S ps b c,S (ps++a.2.map λx=>(x,d.length)) b c,mr (.inl rfl),?_,by rw[<-g];simp,_,_,_,rfl,λw=>?_,by simp;lia⟩
   .change Run _ _ _ [a5 (.loc,.tup (rows.map A')),a5 (.own,.lst ((ps++a.2.map λx=>(x,d.length)).map stN)),b,c];rw[<-em];show vU (k:=.own) (k':=.own) rfl H rfl rfl (vW (by rw[c2,c2];lia) rfl) aB
   .rw[hH];show x6 v n h w) rows.zipIdx [] (S [] b6 b6) ⟨rfl,[],b6,b6,rfl,λw=>by simp[aM,KP],by simp⟩
 subst e;rw[lg,List.length_zipIdx]at h l;have j:Mg .OE [(.loc,.tup (rows.map A'))]=a5 (rows.zipIdx.map λp:Row×Nat=>(Kd.loc,U.tup [.int (p.2:Nat),A' p.1])):=by
  change a5 ((rows.map A').zipIdx.map λp=>(kE .loc,U.tup [.int p.2,p.1]))=_;rw[ę,i9];rfl
 have⟨ks,k1,k2⟩:=s ps ⋯;have I:aM ps=KP rows rows.length:=funext h;rw[I]at k1 k2;show⟨ks,k1,?_⟩;show bB rfl (.inl rfl) A (aw (r:=(.own,.lst [])) (bO aj trivial aC (kr _)) ba (c7 (rs:=[(.loc,.tup (rows.map A'))]) (st1:=S [] b6 b6) (aa (af rfl) aj) trivial j rfl B
  (bL (bG (aa (aE rfl) aj) ⟨⟨.own,rfl,rfl⟩,trivial⟩ k2) gZ)))
def mV{names:List Str}(v:∀r∈rows,r.1∈names)(y:names.length<64)(z:∀t∈R,t<rows.length):
  ∃st:List (Str×Nat),NS rows K0 R st/\bY Γ cT [.tup (rows.map A'),.lst (R.map λt:Nat=>.int (t:Nat)),.J8 K0 vs]=a5 (.ok (.own,.lst (st.map stN))):=by
 have hsz:(2000:Nat)<=cK:=by decide
 have A:TM.start [.tup (rows.map A'),.lst (R.map λt:Nat=>.int (t:Nat)),.J8 K0 vs] 6=[a5 (.loc,.tup (rows.map A')),a5 (.any,.lst (R.map λt:Nat=>.int (t:Nat))),a5 (.any,.J8 K0 vs),b6,b6,b6]:=by simp[TM.start,Kw,bq]
 let S:=λ(ps:List (Str×Nat)) (o4 o5:Option (Kd×U))=>([a5 (.loc,.tup (rows.map A')),a5 (.any,.lst (R.map λt:Nat=>.int (t:Nat))),a5 (.any,.J8 K0 vs),a5 (.own,.J8 (ps.map (·.1)) (ps.map λp=>.int (p.2:Nat))),o4,o5]:ay)
 let body:List TM.S:=[.set 5 (.idx (.idx (.var 0) (.var 4)) (.cst (.int 0))),
   .ite (.and [.cmp .Ki (.var 5) (.var 2),.cmp .Ki (.var 5) (.var 3)])
    [.put 3 (.var 5) (.var 4)]
    []]
 have o:∀{d:List Nat} {ps:List (Str×Nat)},NS rows K0 d ps->ps.length<=names.length:=λ{d ps} x=>by
  have:=v5 x.once (L:=names) λw B=>by
   have⟨s,hs,rfl⟩:=lz.mp B;obtain⟨_,_,r,b,c⟩:=x.ok s hs;rw[<-c];show v r (mh b)
  simpa using this
 have⟨st',C,j,ps,o4,o5,e,x⟩:=cw (t:=cc) (is:=[4]) (body:=execs Γ body) (rs:=[(.any,.lst (R.map λt:Nat=>.int (t:Nat)))]) (λt:Nat=>(Kd.any,U.int (t:Nat)))
  (λd r st=>d++r=R/\∃(ps:List (Str×Nat)) (o4 o5:Option (Kd×U)),st=S ps o4 o5/\NS rows K0 d ps) (λ_ _ _ _=>trivial) (λd t r st D=>by
   have⟨j,ps,o4,o5,e,x⟩:=D;subst e;have G:t<rows.length:=z t (by rw[<-j];simp);have l:rows[t]?=a5 rows[t]:=by simp[G]
   generalize rows[t]=a at l;let f:Option (Kd×U):=a5 (.any,.int (t:Nat));let m:Option (Kd×U):=a5 (.loc,.str a.1);have H:=o x;have i:Run (Kr Γ (.and [.cmp .Ki (.var 5) (.var 2),.cmp .Ki (.var 5) (.var 3)])) (S ps f m) (!c4 (a.1∈K0)&&!c4 (a.1∈ps.map (·.1))) (S ps f m) :=
    jZ (tU (aK (af rfl) (bh rfl) trivial gF) λ_=>fu (aK (af rfl) (aE rfl) ⟨⟨.own,rfl,rfl⟩,trivial⟩ gF))
   have g:∀{q:ay},Run (execs Γ [.ite (.and [.cmp .Ki (.var 5) (.var 2),.cmp .Ki (.var 5) (.var 3)])
    [.put 3 (.var 5) (.var 4)]
    []]) (S ps f m) .nx q->Run (execs Γ body) (S ps f o5) .nx q:=λh =>
    aw (r:=(.loc,.str a.1)) (aQ (x:=(.loc,A' a)) (aQ (af rfl) (bh rfl) trivial (oN (v8 l))) ah trivial rfl) aD h
   have n:Run (dN cc [4] (.any,.int (t:Nat))) (S ps o4 o5) () (S ps f o5):=fw j3;by_cases b:a.1∈K0
   .rw[Α b]at i;show⟨_,_,n,g (pM i (λh=>by cases h) λ_=>aB),by rw[<-j];simp,ps,_,_,rfl,x.skip l (.inl b)⟩
   .by_cases c:a.1∈ps.map (·.1)
    .rw[ſ b,Α c]at i;show⟨_,_,n,g (pM i (λh=>by cases h) λ_=>aB),by rw[<-j];simp,ps,_,_,rfl,x.skip l (.inr c)⟩
    .rw[ſ b,ſ c]at i;show⟨_,S (ps++[(a.1,t)]) f m,n,g (pM i (λ_=>?_) λh=>by cases h),by rw[<-j];simp,_,_,_,rfl,x.take l b c⟩;have I:(ps++[(a.1,t)]).map (·.1)=ps.map (·.1)++[a.1]:=by simp
     have J:((ps++[(a.1,t)]).map λp=>U.int (p.2:Nat))=(ps.map λp=>U.int (p.2:Nat))++[.int (t:Nat)]:=by simp
     change Run _ _ _ [a5 (.loc,.tup (rows.map A')),a5 (.any,.lst (R.map λt:Nat=>.int (t:Nat))),a5 (.any,.J8 K0 vs),a5 (.own,.J8 ((ps++[(a.1,t)]).map (·.1)) ((ps++[(a.1,t)]).map λp=>.int (p.2:Nat))),f,m];rw[I,J];show jd (k:=.own) (rv:=(.any,.int (t:Nat))) (rk:=(.loc,.str a.1)) (bh rfl) rfl (af rfl) (ao (rh rfl) (ao aA aC)) rfl rfl (v7 (by rw[c2];lia) c) aB) R [] (S [] b6 b6) ⟨rfl,[],b6,b6,rfl,NS.start K0⟩
 subst e;rw[lg]at x;have H:=o x;have⟨N,O,Q⟩:=DA (ps:=ps) ⋯ x.once;show⟨N,x.perm O,?_⟩;have e:(R.map λt:Nat=>U.int (t:Nat)).map (λu=>(kE .any,u))=R.map λt=>(Kd.any,U.int (t:Nat)):=by rw[i9];rfl
 show bB rfl (.inl rfl) A (aw (r:=(.own,.J8 [] [])) lZ ba (c7 (rs:=[(.any,.lst (R.map λt:Nat=>.int (t:Nat)))]) (st1:=S [] b6 b6) (aa (bh rfl) aj) trivial rfl rfl (by rw[e];show C) (bL (IZ rfl Q) gZ)))
end
abbrev mi(rows:List Row)(K0:List Str)(d:List Nat)(p:Nat):Int:=(cnt rows K0 p:Int) - (if p∈d then 1 else 0)
abbrev bN(rows:List Row)(f:Nat->Int):List U:=(gs rows.length).map λp=>U.int (f p)
abbrev fA(R:List Nat):List U:=R.map λt:Nat=>U.int (t:Nat)
def DT(rows:List Row)(K0:List Str):bN rows (mi rows K0 [])=bN rows λp=>(cnt rows K0 p:Int):=by
 unfold bN mi;show tr λp _=>?_;simp
def DU(b:Once rows)(c:w∉K0):bN rows (mi rows K0 (KP rows rows.length w))=bN rows λp=>(cnt rows (K0++[w]) p:Int):=by
 unfold bN mi;show tr λp d=>?_;have e:=rr.mp d;have a:=pQ b c p;by_cases h:w∈told rows p
 .rw[Ž (jf.mpr ⟨e,h⟩)];rw[Ž h]at a;change U.int ((cnt rows K0 p:Int) - 1)=U.int (cnt rows (K0++[w]) p:Int);congr 1
  lia
 .rw[ž λz=>h (jf.mp z).2];rw[ž h]at a;change U.int ((cnt rows K0 p:Int) - 0)=U.int (cnt rows (K0++[w]) p:Int);congr 1
  lia
def Bh(a:t∉d):(bN rows (mi rows K0 d)).set t (.int (mi rows K0 d t - 1))=bN rows (mi rows K0 (d++[t])):=by
 unfold bN;rw[set_range];show tr λp _=>?_;unfold mi;by_cases e:p=t
 .subst e;rw[Ž rfl,ž a,Ž (by simp)];rw[show((cnt rows K0 p:Int) - 0 - 1)=(cnt rows K0 p:Int) - 1 by lia]
 .rw[ž e];have:(p∈d++[t])↔p∈d:=by simp[e]
  simp only[this]
def Bi(h:t<rows.length):(bN rows f)[t]?=a5 (.int (f t)):=by simp[bN,h]
section
variable{Γ:Tab}{rows:List Row}
abbrev wA:List TM.S:=[.aug b8 2 (.var 9) (.cst (.int 1)),.ite (.cmp .eq (.idx (.var 2) (.var 9)) (.cst (.int 0))) [.app 5 (.var 9)] []]
def rS(v:Once rows)(J:rows.length<=120)(y:w∉K0)(L:R.length<=14400)(o9:Option (Kd×U))(A:∀st,bo src st):∃l:Option (Kd×U),
  Run (forM cc [9] (execs Γ wA) src ((KP rows rows.length w).map λt:Nat=>(Kd.loc,U.int (t:Nat))))
   [b0,b1,a5 (.own,.lst (bN rows λp=>(cnt rows K0 p:Int))),b3,b4,a5 (.own,.lst (fA R)),o6,o7,o8,o9] .nx
   [b0,b1,a5 (.own,.lst (bN rows λp=>(cnt rows (K0++[w]) p:Int))),b3,b4,a5 (.own,.lst (fA (R++(KP rows rows.length w).filter λt=>c4 (cnt rows K0 t=1)))),o6,o7,o8,l]:=by
 have hsz:(20000:Nat)<=cK:=by decide
 let S:=λ(ms:List U) (R:List Nat) (o9:Option (Kd×U))=>([b0,b1,a5 (.own,.lst ms),b3,b4,a5 (.own,.lst (fA R)),o6,o7,o8,o9]:ay)
 have⟨st',m,c,l,e⟩:=cw (t:=cc) (is:=[9]) (body:=execs Γ wA) (rs:=src) (λt:Nat=>(Kd.loc,U.int (t:Nat)))
  (λd r st=>d++r=KP rows rows.length w/\∃o9:Option (Kd×U),st=S (bN rows (mi rows K0 d)) (R++d.filter λt=>c4 (cnt rows K0 t=1)) o9) (λ_ _ st _=>A st) (λd t r st B=>by
   have⟨c,o9,e⟩:=B;subst e;have C:t∈KP rows rows.length w:=by rw[<-c];simp
   have o:t<rows.length:=(jf.mp C).1;have q:=xZ (rows:=rows) rows.length w;have n:t∉d:=λz=>by
    rw[<-c,ri]at q;show q.2.2 t z t (by simp) rfl
   have N:d.length<=120:=by
    have D:=Δ Lp c;have G:(KP rows rows.length w).length<=(gs rows.length).length:=vr _ _;simp at D G;lia
   let b:Option (Kd×U):=a5 (.loc,.int (t:Nat));let a:=R++d.filter λt=>c4 (cnt rows K0 t=1);have O:a.length<=14520:=by
    have:(d.filter λt=>c4 (cnt rows K0 t=1)).length<=d.length:=vr _ _;change(R++_).length<=_;rw[hH];lia
   have H:K8 (bN rows (mi rows K0 (d++[t]))) (t:Int)=a5 (.int (mi rows K0 (d++[t]) t)):=iH (Bi o);have I:mi rows K0 (d++[t]) t=(cnt rows K0 t:Int) - 1:=by unfold mi;rw[Ž (by simp)]
   have g:Run (Kr Γ (.cmp .eq (.idx (.var 2) (.var 9)) (.cst (.int 0)))) (S (bN rows (mi rows K0 (d++[t]))) a b) (c4 (cnt rows K0 t=1)) (S (bN rows (mi rows K0 (d++[t]))) a b) :=
    aK (aQ (x:=(.bor 2,.lst (bN rows (mi rows K0 (d++[t]))))) (aE rfl) (af rfl) ⟨⟨.own,rfl,rfl⟩,trivial⟩ (cv H)) ah trivial (bM (by
     rw[I,KX];simp;lia))
   have f:∀{s:ay},Run (execs Γ [.ite (.cmp .eq (.idx (.var 2) (.var 9)) (.cst (.int 0)))
      [.app 5 (.var 9)]
      []]) (S (bN rows (mi rows K0 (d++[t]))) a b) .nx s->Run (execs Γ wA) (S (bN rows (mi rows K0 d)) a b) .nx s:=λh=>by
    show IY (us:=bN rows (mi rows K0 d)) (k1:=.loc) (k2:=.loc) (j:=t) (w:=1) rfl (af rfl) (Bi o) ah ?_;rw[Bh n];show h
   have u:Run (dN cc [9] (.loc,.int (t:Nat))) (S (bN rows (mi rows K0 d)) a o9) () (S (bN rows (mi rows K0 d)) a b):=fw aD;cases i:c4 (cnt rows K0 t=1) with
   |false =>
    rw[i]at g;show⟨_,_,u,f (pM g (λh=>by cases h) λ_=>aB),by rw[<-c];simp,b,?_⟩;rw[Tq,D7,i];simp[S,a]
   |true =>
    rw[i]at g;show⟨_,S (bN rows (mi rows K0 (d++[t]))) (a++[t]) b,u,f (pM g (λ_=>?_) λh=>by cases h),by rw[<-c];simp,b,?_⟩
    .have em:fA (a++[t])=fA a++[.int (t:Nat)]:=by simp[fA]
     change Run _ _ _ [b0,b1,a5 (.own,.lst (bN rows (mi rows K0 (d++[t])))),b3,b4,a5 (.own,.lst (fA (a++[t]))),o6,o7,o8,b];rw[em];show dX (k:=.own) (k':=.own) (r:=(.loc,.int (t:Nat))) rfl (af rfl) aA rfl rfl (by unfold fA;rw[c2];lia) aB
    .rw[Tq,D7,i];simp[S,a]) (KP rows rows.length w) [] (S (bN rows (mi rows K0 [])) R o9) ⟨rfl,o9,by simp⟩
 subst e;rw[lg]at m;rw[DT,DU v y]at m;show⟨l,m⟩
abbrev Bj:List TM.S:=[.put 3 (.var 7) (.cst (.bl b8)),.Kt cc [9] .seq [.MN 1 (.var 7) (.lst [])] wA]
def ye(n:Once rows)(y:rows.length<=120)(A:∀w,w∉ks->KP rows rows.length w=[])(o:(K0++st.map (·.1)).Nodup)(hl:K0.length+st.length<=120)(vs:List U)(o7 o8 o9:Option (Kd×U)):∃(g:List U) (R:List Nat) (i j a:Option (Kd×U)),
  RI rows K0 (K0++st.map (·.1)) R/\(st=[]->R=[])/\Run (forM b8 [7,8] (execs Γ Bj) [(.bor 6,.lst (st.map stN))] (st.map λs=>(Kd.loc,stN s)))
   [b0,a5 (.own,.J8 ks (ks.map (cz (KP rows rows.length)))),a5 (.own,.lst (bN rows λp=>(cnt rows K0 p:Int))),a5 (.own,.J8 K0 vs),b4,a5 (.own,.lst []),a5 (.own,.lst (st.map stN)),o7,o8,o9] .nx
   [b0,a5 (.own,.J8 ks (ks.map (cz (KP rows rows.length)))),a5 (.own,.lst (bN rows λp=>(cnt rows (K0++st.map (·.1)) p:Int))),a5 (.own,.J8 (K0++st.map (·.1)) g),b4,a5 (.own,.lst (fA R)),a5 (.own,.lst (st.map stN)),i,j,a]:=by
 let S:=λ(K:List Str) (vs:List U) (R:List Nat) (o7 o8 o9:Option (Kd×U))=>([b0,a5 (.own,.J8 ks (ks.map (cz (KP rows rows.length)))),a5 (.own,.lst (bN rows λp=>(cnt rows K p:Int))),a5 (.own,.J8 K vs),b4,a5 (.own,.lst (fA R)),a5 (.own,.lst (st.map stN)),o7,o8,o9]:ay)
 have⟨st',B,b,g,R,i,j,a,e,x,C,q⟩:=cw (t:=b8) (is:=[7,8]) (body:=execs Γ Bj) (rs:=[(.bor 6,.lst (st.map stN))]) (λs:Str×Nat=>(Kd.loc,stN s))
  (λd r l=>d++r=st/\∃(vs:List U) (R:List Nat) (o7 o8 o9:Option (Kd×U)),l=S (K0++d.map (·.1)) vs R o7 o8 o9/\RI rows K0 (K0++d.map (·.1)) R/\R.length<=120 * d.length/\(d=[]->R=[])) (λ_ _ l ⟨_,vs,R,o7,o8,o9,e,_⟩=>by subst e;show⟨⟨.own,rfl,rfl⟩,trivial⟩) (λd s r l D=>by
   have⟨b,vs,R,o7,o8,o9,e,x,C,q⟩:=D;subst e;have⟨w,p⟩:=s;have N:d.length<st.length:=by have:=Δ Lp b;simp at this;lia
   have m:w∉K0++d.map (·.1):=λz=>by
    rw[<-b,ki,<-ā,ri]at o;show o.2.2 w z w (by simp) rfl
   let c:Option (Kd×U):=a5 (.loc,.str w);let f:Option (Kd×U):=a5 (.loc,.int (p:Nat));have⟨a,G⟩:=rS (Γ:=Γ) n y m (R:=R) ⋯ (b0:=b0) (b1:=a5 (.own,.J8 ks (ks.map (cz (KP rows rows.length))))) (b3:=a5 (.own,.J8 (K0++d.map (·.1)++[w]) (vs++[.bl b8]))) (b4:=b4) (o6:=a5 (.own,.lst (st.map stN))) (o7:=c) (o8:=f) o9 (src:=[(.loc,cz (KP rows rows.length) w)]) (λ_=>trivial);have em:K0++(d++[(w,p)]).map (·.1)=K0++d.map (·.1)++[w]:=by simp
   have H:(K0++d.map (·.1)).length<1000:=by rw[hH,c2];lia
   have I:(match cq ks (ks.map (cz (KP rows rows.length))) w with|some v=>(Kd.loc,v)|none=>(.loc,U.lst []))=(.loc,cz (KP rows rows.length) w):=by
    rw[mw];by_cases h:w∈ks
    .rw[Ž h]
    .rw[ž h];unfold cz;rw[A w h];rfl
   have J:((KP rows rows.length w).map λt:Nat=>U.int (t:Nat)).map (λu=>(kE .loc,u))=(KP rows rows.length w).map λt=>(Kd.loc,U.int (t:Nat)):=by rw[i9];rfl
   show⟨S (K0++d.map (·.1)) vs R c f o9,S (K0++d.map (·.1)++[w]) (vs++[.bl b8]) (R++(KP rows rows.length w).filter λt=>c4 (cnt rows (K0++d.map (·.1)) t=1)) c f a,mr (.inl rfl),?_,by rw[<-b];simp,vs++[.bl b8],_,c,f,a,by rw[em],?_,?_,λz=>by simp at z⟩
   .show jd (k:=.own) (rv:=(.loc,.bl b8)) (rk:=(.loc,.str w)) ah rfl (af rfl) (ao aA (ao aA aC)) rfl rfl (v7 H m) ?_;show c7 (rs:=[(.loc,cz (KP rows rows.length) w)]) (aa (G1 (k:=.loc) (z:=(.own,.lst [])) (u:=.lst []) rfl (af rfl) (bO aj trivial aC (kr _)) Aj I) aj) trivial (by change a5 (YE (λu=>(kE .loc,u)) _)=_;rw[J]) rfl G aB
   .rw[em];show x.step n m
   .have:((KP rows rows.length w).filter λt=>c4 (cnt rows (K0++d.map (·.1)) t=1)).length<=120:=by
     show C0 (vr _ _) ?_;have L:(KP rows rows.length w).length<=(gs rows.length).length:=vr _ _;simp at L;lia
    rw[hH,hH,rz];lia) st [] (S K0 vs [] o7 o8 o9) ⟨rfl,vs,[],o7,o8,o9,by simp[S],by simpa using RI.start K0,by simp,λ_=>rfl⟩
 subst e;show⟨g,R,i,j,a,by simpa using x,λz=>q (by simpa using z),by simpa[S,fA] using B⟩
abbrev gM(a:List (List (Str×Nat))):List U:=a.map λl=>U.lst (l.map stN)
abbrev Bl:List TM.S:=[.set 6 (.call "new_steps" [.var 0,.var 5,.var 3]),.set 5 (.lst []),.Kt b8 [7,8] .seq [.var 6] Bj,.ite (.cmp .ne (.var 6) (.lst [])) [.app 4 (.var 6)] []]
abbrev Bm(Γ:Tab)(rows:List Row):Prop:=∀(R:List Nat) (K0:List Str) (vs:List U),(∀t∈R,t<rows.length)->∃st:List (Str×Nat),NS rows K0 R st/\Γ "new_steps" [.tup (rows.map A'),.lst (fA R),.J8 K0 vs]=a5 (.ok (.own,.lst (st.map stN)))
theorem jM(G:Once rows)(H:rows.length<=120)(I:Bm Γ rows)(J:∀w,w∉ks->KP rows rows.length w=[]):∀(f:Nat) (c:List (Str×Nat)) (d:List (List (Str×Nat))) (R:List Nat) (vs:List U) (o6 o7 o8 o9:Option (Kd×U)),
  LI rows c R->d.flatten=c->d.length<=c.length->(rows.length - c.length)+(if R=[] then 1 else 2)<=f ->
  ∃(Sf:List (Str×Nat)) (N:List (List (Str×Nat))) (st':ay),LI rows Sf []/\N.flatten=Sf/\N.length<=120/\st'[4]?=a5 (a5 (.own,.lst (gM N))) /\
   Run (fL (Kr Γ (.cmp .ne (.var 5) (.lst []))) (execs Γ Bl) f) [a5 (.loc,.tup (rows.map A')),a5 (.own,.J8 ks (ks.map (cz (KP rows rows.length)))),a5 (.own,.lst (bN rows λp=>(cnt rows (c.map (·.1)) p:Int))),a5 (.own,.J8 (c.map (·.1)) vs),a5 (.own,.lst (gM d)),a5 (.own,.lst (fA R)),o6,o7,o8,o9] .nx st'
 |0,c,d,R,vs,o6,o7,o8,o9,_,_,_,h=>by split at h<;>lia
 |f+1,c,d,R,vs,o6,o7,o8,o9,x,O,Rv,h=>by
  have hsz:(20000:Nat)<=cK:=by decide
  have Oq:∀{s:List (Str×Nat)} {g:List Nat},LI rows s g->s.length<=rows.length:=λ{s g} x=>by
   have:=v5 x.nd x.wd;simpa using this
  have Ln:=Oq x;let S:=λ(K:List Str) (vs:List U) (d:List (List (Str×Nat))) (R:List Nat) (o6 o7 o8 o9:Option (Kd×U))=>([a5 (.loc,.tup (rows.map A')),a5 (.own,.J8 ks (ks.map (cz (KP rows rows.length)))),a5 (.own,.lst (bN rows λp=>(cnt rows K p:Int))),a5 (.own,.J8 K vs),a5 (.own,.lst (gM d)),a5 (.own,.lst (fA R)),o6,o7,o8,o9]:ay)
  have Q:∀R:List Nat,K3 50 (.lst (fA R))=b8:=λR=>by change dG 49 _=b8;show oo (λt:Nat=>((t:Nat):Int)) R 49
  have A:Run (Kr Γ (.cmp .ne (.var 5) (.lst []))) (S (c.map (·.1)) vs d R o6 o7 o8 o9) (!(fA R).isEmpty) (S (c.map (·.1)) vs d R o6 o7 o8 o9) :=
   aK (aE rfl) (bO aj trivial aC (kr _)) ⟨⟨.own,rfl,rfl⟩,trivial⟩ (mz (Q R))
  by_cases T:R=[]
  .subst T;show⟨c,d,_,x,O,⋯,rfl,oh A⟩
  .rw[ž T]at h;have Y:(!(fA R).isEmpty)=b8:=by
    cases R with
    |nil=>show absurd rfl T
    |cons a l=>rfl
   rw[Y]at A;have⟨st,n,Kf⟩:=I R (c.map (·.1)) vs λt ht=>(x.R6 t ht).1;have Kk:(c.map (·.1)++st.map (·.1)).Nodup:=by
    rw[ri];show⟨x.nd,n.once,λa ha b q e=>?_⟩;have⟨s,hs,rfl⟩:=lz.mp q;show(n.ok s hs).2.1 (e▸ha)
   have al:c.length+st.length<=rows.length:=by
    have:=v5 Kk (L:=rows.map (·.1)) λy hy=>by
     rcases ke.mp hy with hy|hy
     .show x.wd y hy
     .have⟨s,hs,rfl⟩:=lz.mp hy;obtain⟨_,_,r,q1,q2⟩:=n.ok s hs;show lz.mpr ⟨r,mh q1,q2⟩
    simpa using this
   let v:Option (Kd×U):=a5 (.own,.lst (st.map stN));have⟨i,g,j,m,o,y,ab,V5⟩:=ye (Γ:=Γ) G H J Kk (by rw[c2];lia) (b0:=a5 (.loc,.tup (rows.map A'))) (b4:=a5 (.own,.lst (gM d))) vs o7 o8 o9;have x':=x.step n y;have em:(c++st).map (·.1)=c.map (·.1)++st.map (·.1):=ki;have ac:K3 50 (.lst (st.map stN))=b8:=by change dG 49 _=b8;show rG st 48
   have B:Run (Kr Γ (.cmp .ne (.var 6) (.lst []))) (S (c.map (·.1)++st.map (·.1)) i d g v j m o) (!(st.map stN).isEmpty) (S (c.map (·.1)++st.map (·.1)) i d g v j m o) :=
    aK (aE rfl) (bO aj trivial aC (kr _)) ⟨⟨.own,rfl,rfl⟩,trivial⟩ (mz ac)
   have e1:(st.map stN).map (λu=>(kE (.bor 6),u))=st.map λs=>(Kd.loc,stN s):=by rw[i9];rfl
   have z:∀{LG:ay},Run (execs Γ [.ite (.cmp .ne (.var 6) (.lst []))
    [.app 4 (.var 6)]
    []]) (S (c.map (·.1)++st.map (·.1)) i d g v j m o) .nx LG->Run (execs Γ Bl) (S (c.map (·.1)) vs d R o6 o7 o8 o9) .nx LG:=λh=>by
    show aw (r:=(.own,.lst (st.map stN))) (bG (aa (af rfl) (aa (aE rfl) (aa (aE rfl) aj))) ⟨⟨.own,rfl,rfl⟩,⟨.own,rfl,rfl⟩,trivial⟩ Kf) ba ?_;show aw (r:=(.own,.lst [])) (bO aj trivial aC (kr _)) ba ?_;show c7 (rs:=[(.bor 6,.lst (st.map stN))]) (aa (aE rfl) aj) ⟨⟨.own,rfl,rfl⟩,trivial⟩ (by change a5 (YE (λu=>(kE (.bor 6),u)) _)=_;rw[e1]) rfl V5 h
   by_cases C:st=[]
   .have ag:=ab C;subst C;rw[show(!(([]:List (Str×Nat)).map stN).isEmpty)=cc from rfl]at B;have ee:c++[]=c:=ro _;rw[ee]at x';have q:=z (pM B (λh=>by cases h) λ_=>aB);have⟨Qe,Qf,st2,z1,z2,z3,z4,D⟩:=jM G H I J f c d g i v j m o x' O Rv (by rw[Ž ag];lia);show⟨Qe,Qf,st2,z1,z2,z3,z4,rD A q ?_⟩;have e3:c.map (·.1)++([]:List (Str×Nat)).map (·.1)=c.map (·.1):=by simp
    change Run _ (S (c.map (·.1)++([]:List (Str×Nat)).map (·.1)) i d g v j m o) _ _;rw[e3];show D
   .have V6:(!(st.map stN).isEmpty)=b8:=by
     cases st with
     |nil=>show absurd rfl C
     |cons a l=>rfl
    rw[V6]at B;have am:0<st.length:=List.length_pos_iff.mpr C;have ef:gM (d++[st])=gM d++[.lst (st.map stN)]:=by simp[gM]
    have q:Run (execs Γ Bl) (S (c.map (·.1)) vs d R o6 o7 o8 o9) .nx (S (c.map (·.1)++st.map (·.1)) i (d++[st]) g (a5 (.loc,.lst (st.map stN))) j m o):=by
     show z (pM B (λ_=>?_) λh=>by cases h);change Run _ _ _ [a5 (.loc,.tup (rows.map A')),a5 (.own,.J8 ks (ks.map (cz (KP rows rows.length)))),a5 (.own,.lst (bN rows λp=>(cnt rows (c.map (·.1)++st.map (·.1)) p:Int))),a5 (.own,.J8 (c.map (·.1)++st.map (·.1)) i),a5 (.own,.lst (gM (d++[st]))),a5 (.own,.lst (fA g)),a5 (.loc,.lst (st.map stN)),j,m,o];rw[ef];show dX (k:=.own) (k':=.own) (r:=(.bor 6,.lst (st.map stN))) (u:=.lst (st.map stN)) rfl (aE rfl) (IV rfl) rfl rfl (by unfold gM;rw[c2];lia) aB
    have⟨Qe,Qf,st2,z1,z2,z3,z4,D⟩:=jM G H I J f (c++st) (d++[st]) g i (a5 (.loc,.lst (st.map stN))) j m o x' (by rw[V2,O];simp) (by rw[hH,hH,rz];lia) (by rw[hH];split<;>lia);show⟨Qe,Qf,st2,z1,z2,z3,z4,rD A q ?_⟩;rw[em]at D;show D
abbrev EB(Γ:Tab)(rows:List Row):Prop:=∃ks:List Str,(∀w,w∉ks->KP rows rows.length w=[])/\Γ "places_that_tell" [.tup (rows.map A')]=a5 (.ok (.own,.J8 ks (ks.map (cz (KP rows rows.length)))))
def gN(s:Once rows)(v:rows.length<=120)(w:EB Γ rows)(z:Bm Γ rows):∃(f:List (Str×Nat)) (d:List (List (Str×Nat))),LI rows f []/\d.flatten=f/\d.length<=120/\bY Γ br [.tup (rows.map A')]=a5 (.ok (.own,.lst (gM d))):=by
 have hsz:(20000:Nat)<=cK:=by decide
 have⟨ks,A,B⟩:=w;have C:TM.start [.tup (rows.map A')] 10=[a5 (.loc,.tup (rows.map A')),b6,b6,b6,b6,b6,b6,b6,b6,b6]:=by simp[TM.start,Kw,bq]
 let g:Option (Kd×U):=a5 (.loc,.tup (rows.map A'));let j:Option (Kd×U):=a5 (.own,.J8 ks (ks.map (cz (KP rows rows.length))));let D:Option (Kd×U):=a5 (.own,.lst (bN rows λp=>(cnt rows [] p:Int)));have G:Run (ev Γ (.comp 1 cc .seq [.var 0] [] (.bi .len [.idx (.var 0) (.cst (.int 1))]))) [g,j,b6,b6,b6,b6,b6,b6,b6,b6] (.own,.lst (bN rows λp=>(cnt rows [] p:Int))) [g,j,b6,b6,b6,b6,b6,b6,b6,b6]:=by
  have c:=jE (cond:=bb Γ []) (elt:=ev Γ (.bi .len [.idx (.var 0) (.cst (.int 1))])) (src:=[(.loc,.tup (rows.map A'))]) (st:=[g,j,b6,b6,b6,b6,b6,b6,b6,b6]) trivial .loc (.inl rfl) A' (λr=>.int (r.2.length:Nat)) .loc (λ_=>ja) rows [] (by simp;lia)
   (λy _=>⟨c6 (aa (aQ (x:=(.loc,A' y)) (af rfl) ah trivial rfl) aj) trivial (by rw[Du,c2]),aA⟩)
  rw[lg]at c;have e:(rows.map A').map (λu=>(kE .loc,u))=rows.map λr=>(Kd.loc,A' r):=by rw[i9];rfl
  have H:(rows.map λr=>U.int (r.2.length:Nat))=bN rows λp=>(cnt rows [] p:Int):=by
   unfold bN;apply LF
   .simp
   .intro i k l;have I:i<rows.length:=by simpa using k
    have m:told rows i=rows[i].2:=kK (by simp[I]);have J:cnt rows [] i=rows[i].2.length:=by unfold cnt tX;rw[m];simp
    simp[J]
  rw[H]at c;show dY (rs:=[(.loc,.tup (rows.map A'))]) (aa (af rfl) aj) trivial (by change a5 _=_;rw[e]) c
 let n:=(gs rows.length).filter λp=>c4 (cnt rows [] p=0);let o:ay:=[g,j,D,a5 (.own,.J8 [] []),a5 (.own,.lst []),b6,b6,b6,b6,b6]
 have L:Run (ev Γ (.comp 2 b8 .OE [.var 2] [.cmp .eq (.var 1) (.cst (.int 0))] (.var 0))) o (.own,.lst (fA n)) o:=by
  have c:=jH (st:=o) (cond:=bb Γ [.cmp .eq (.var 1) (.cst (.int 0))]) (elt:=ev Γ (.var 0)) (src:=[(.bor 2,.lst (bN rows λp=>(cnt rows [] p:Int)))]) ⟨⟨.own,rfl,rfl⟩,trivial⟩ (λp:Nat=>U.int (p:Nat)) (λp:Nat=>U.int (cnt rows [] p:Int)) (λp:Nat=>U.int (p:Nat)) (λp=>c4 (cnt rows [] p=0)) (gs rows.length) [] (by simp;lia)
   (λy _=>⟨fu (aK (af rfl) ah trivial (bM (by rw[KX];simp))),af rfl⟩)
  rw[lg]at c;have e:((bN rows λp=>(cnt rows [] p:Int)).zipIdx.map λp=>(kE (.bor 2),U.tup [.int p.2,p.1]))=(gs rows.length).map λp:Nat=>(Kd.loc,U.tup [.int (p:Nat),.int (cnt rows [] p:Int)]):=by
   unfold bN;apply LF
   .simp
   .intro i k l;simp[kE]
  show dY (rs:=[(.bor 2,.lst (bN rows λp=>(cnt rows [] p:Int)))]) (aa (aE rfl) aj) ⟨⟨.own,rfl,rfl⟩,trivial⟩ (by change a5 _=_;rw[e]) c
 have N:LI rows [] n:=⟨.nil,λ_ _ _ h=>(nomatch h),λ_ h=>(nomatch h),λt m=>by
  have⟨a,b⟩:=N9.mp m;show⟨rr.mp a,by simpa using b⟩,λt r k l=>.inl (N9.mpr ⟨rr.mpr (dt.mp k).1,by simpa using l⟩)⟩
 have⟨f,d,st',O,Q,T,q,Y⟩:=jM s v z A fuel [] [] n [] b6 b6 b6 b6 N rfl (i0 _) (by unfold fuel;split<;>simp<;>lia);show⟨f,d,O,Q,T,?_⟩;show bB rfl (.inl rfl) C (aw (r:=(.own,.J8 ks (ks.map (cz (KP rows rows.length))))) (bG (aa (af rfl) aj) trivial B) ba (aw G ba (aw (r:=(.own,.J8 [] [])) lZ ba (aw (r:=(.own,.lst [])) (bO aj trivial aC (kr _)) ba (aw L ba (rE Y (bL (aE q) (j4 q))))))))
def yf(hs:Γ "steps_in_rounds" [.tup (rows.map A')]=a5 (.ok (.own,.lst (gM a))))(c:a.flatten=f)(hl:f.length<=120):bY Γ fz [.tup (rows.map A')]=a5 (.ok (.own,.lst (f.map stN))):=by
 have hsz:(20000:Nat)<=cK:=by decide
 have h:TM.start [.tup (rows.map A')] 3=[a5 (.loc,.tup (rows.map A')),b6,b6]:=by simp[TM.start,Kw,bq]
 let S:=λ(l:List (Str×Nat)) (o2:Option (Kd×U))=>([a5 (.loc,.tup (rows.map A')),a5 (.own,.lst (l.map stN)),o2]:ay)
 have⟨st',i,b,o2,e⟩:=cw (t:=cc) (is:=[2]) (body:=execs Γ [.ext 1 (.var 2)]) (rs:=[(.own,.lst (gM a))]) (λl:List (Str×Nat)=>(Kd.loc,U.lst (l.map stN)))
  (λd r st=>d++r=a/\∃o2:Option (Kd×U),st=S d.flatten o2) (λ_ _ _ _=>trivial) (λd y r st j=>by
   have⟨b,o2,e⟩:=j;subst e;have m:d.flatten.length+y.length<=120:=by
    have:=Δ (λl:List (List (Str×Nat))=>l.flatten.length) b;simp only[V2,T9,hH,c]at this;lia
   show⟨S d.flatten (a5 (.loc,.lst (y.map stN))),S (d++[y]).flatten (a5 (.loc,.lst (y.map stN))),fw aD,?_,by rw[<-b];simp,_,rfl⟩;have em:(d++[y]).flatten.map stN=d.flatten.map stN++y.map stN:=by simp
   change Run _ _ _ [a5 (.loc,.tup (rows.map A')),a5 (.own,.lst ((d++[y]).flatten.map stN)),a5 (.loc,.lst (y.map stN))];rw[em];show vU (k:=.own) (k':=.own) rfl (af rfl) rfl rfl (vW (by rw[c2,c2];lia) rfl) aB) a [] (S [] b6) ⟨rfl,b6,rfl⟩
 subst e;have e:(gM a).map (λu=>(kE .own,u))=a.map λl=>(Kd.loc,U.lst (l.map stN)):=by unfold gM;rw[i9];rfl
 have g:=bB (Γ:=Γ) (fn:=fz) rfl (.inl rfl) h (aw (r:=(.own,.lst [])) (bO aj trivial aC (kr _)) ba (c7 (rs:=[(.own,.lst (gM a))]) (st1:=S [] b6) (aa (bG (aa (af rfl) aj) trivial hs) aj) trivial rfl rfl (by rw[e];show i) (bL (aE rfl) (j4 rfl))));rw[lg,c]at g;show g
end
section
variable{Γ:Tab}{rows:List Row}{names:List Str}
def uu(h:ss.length<64):Md .sorted [(k,.lst (ss.map .str))]=a5 (.own,.lst ((aU ss).map .str)):=by
 change xy k (ss.map .str)=_;unfold xy;rw[dI];change(if ss.length<64 then _ else _)=_;rw[Ž h]
def uw{a:List (Str×Nat)}(hl:a.length<64)(ho:Γ "order" [.tup (rows.map A')]=a5 (.ok (.own,.lst (a.map stN)))):bY Γ fc [.tup (rows.map A')]=a5 (.ok (.own,.lst ((aU (a.map (·.1))).map .str))):=by
 have hsz:(20000:Nat)<=cK:=by decide
 have c:TM.start [.tup (rows.map A')] 1=[a5 (.loc,.tup (rows.map A'))]:=by simp[TM.start,Kw,bq]
 have b:=jH (st:=[a5 (.loc,.tup (rows.map A'))]) (cond:=bb Γ []) (elt:=ev Γ (.var 0)) (src:=[(.own,.lst (a.map stN))]) trivial (λs:Str×Nat=>U.str s.1) (λs=>U.int (s.2:Nat)) (λs=>U.str s.1) (λ_=>b8) a [] (by simp;lia) (λy _=>⟨ja,af rfl⟩);rw[lg,M'.mpr (λ_ _=>rfl)]at b;have e:(a.map stN).map (λu=>(kE .own,u))=a.map λs=>(Kd.loc,U.tup [.str s.1,.int (s.2:Nat)]):=by rw[i9];rfl
 have d:(a.map λs=>U.str s.1)=(a.map (·.1)).map U.str:=by rw[i9];rfl
 rw[d]at b;show bB rfl (.inl rfl) c (bL (c6 (aa (dY (rs:=[(.own,.lst (a.map stN))]) (aa (bG (aa (af rfl) aj) trivial ho) aj) trivial (by change a5 (YE (λu=>(kE .own,u)) _)=_;rw[e]) b) aj) trivial (uu (by rw[c2];show hl))) gZ)
structure V7(prog:List Fn):Prop where
 g:KJ prog "gathered" dm
 p:KJ prog "places_that_tell" bf
 n:KJ prog "new_steps" cT
 s:KJ prog "steps_in_rounds" br
 o:KJ prog "order" fz
 l:KJ prog "learnt" fc
structure Kn(rows:List Row)(K:List Str):Prop where
 nd:K.Nodup
 sn:N4 rows K
 cl:jG rows (·∈K)
def Kn.perm(a:Kn rows K)(b:Kn rows L):K.Perm L:=same a.nd b.nd a.sn b.sn a.cl b.cl
def Kn.of(s:LI rows a []):Kn rows (a.map (·.1)):=⟨s.nd,s.sn,s.closed⟩
def DV(L:V7 prog)(n:Nat)(d:∀r∈rows,n_ names r)(y:names.length<=24)(e:rows.length<=120):∃c:List (Str×Nat),LI rows c []/\c.length<=24/\Kl prog (n+4) "order" [.tup (rows.map A')]=a5 (.ok (.own,.lst (c.map stN))):=by
 have j:∀r∈rows,r.2.length<=8:=λr h=>(d r h).Oq;have f:Once rows:=λr h=>(d r h).once;have i:∀r∈rows,r.1∈names:=λr h=>(d r h).word;have k:EA (Kl prog (n+1)):=λps hl=>by
  have⟨ks,a,b⟩:=p_ (Γ:=Kl prog n) hl;show⟨ks,a,(aL L.g _).trans b⟩
 have l:EB (Kl prog (n+2)) rows:=by
  have⟨ks,a,b⟩:=ur k f j e;show⟨ks,a,(aL L.p _).trans b⟩
 have m:Bm (Kl prog (n+2)) rows:=λR K0 vs q=>by
  have⟨st,a,b⟩:=mV (Γ:=Kl prog (n+1)) i ⋯ q (K0:=K0) (vs:=vs);show⟨st,a,(aL L.n _).trans b⟩
 have⟨c,t,s1,s2,s3,s4⟩:=gN f e l m;have u:Kl prog (n+3) "steps_in_rounds" [.tup (rows.map A')]=a5 (.ok (.own,.lst (gM t))):=(aL L.s _).trans s4;have v:c.length<=24:=by
  have:=v5 (Kn.of s1).nd (L:=names) λx w=>by
   have⟨r,a,b⟩:=lz.mp (s1.wd x w);show b▸i r a
  rw[c2]at this;lia
 show⟨c,s1,v,(aL L.o _).trans (yf u s2 ⋯)⟩
def DW(L:V7 prog)(n:Nat)(a:∀r∈rows,n_ names r)(b:names.length<=24)(c:rows.length<=120)(d:Kn rows K):Kl prog (n+5) "learnt" [.tup (rows.map A')]=a5 (.ok (.own,.lst ((aU K).map .str))):=by
 have⟨f,s1,s2,s3⟩:=DV L n a b c;have e:aU (f.map (·.1))=aU K:=fQ ((Kn.of s1).perm d);rw[<-e];show(aL L.l _).trans (uw ⋯ s3)
end
end KL
namespace TM
open PySem L2 Kv
section
def iB(rs:List Row):(a5 (if Kw (.tup (rs.map A'))=b8 then Kd.loc else Kd.any,U.tup (rs.map A')):Option (Kd×U))=a5 (.loc,.tup (rs.map A')):=by
 rw[Ž (by change cm (rs.map A')=b8;show bq rs)]
def Bn{ss:List Str}:Mg .seq [(k,.tup (ss.map .str))]=a5 (ss.map λx=>(kE k,U.str x)):=by
 change a5 ((ss.map U.str).map λu=>(kE k,u))=_;rw[i9];rfl
def oA(a:us.length=fn.np)(hs:start us fn.ns=st0)(h:Run (execs Γ fn.body) st0 .nx st):bY Γ fn us=a5 (.ok (.loc,.Kb)):=by
 subst hs;unfold bY;rw[Ž a,show execs Γ fn.body (start us fn.ns)=_ from h]
def Bo(h:Run (ev Γ e) st x st1):Run (execs Γ (.NV c e::ss)) st (.rt .io (.str c)) st1:=ae (ae h aP) aP
def gp(a:us.length=fn.np)(hs:start us fn.ns=st0)(h:Run (execs Γ fn.body) st0 (.rt .io (.str c)) st):bY Γ fn us=a5 (.exc c):=by
 subst hs;unfold bY;rw[Ž a,show execs Γ fn.body (start us fn.ns)=_ from h]
def Ji(h:Γ f us=a5 (.ok (.own,u))):Run (cI Γ f us) st (.inl (.own,u)) st:=by
 change cI Γ f us st=_;unfold cI;rw[h]
def rT(h:Γ f us=a5 (.ok (.loc,u))):Run (cI Γ f us) st (.inl (.loc,u)) st:=by
 change cI Γ f us st=_;unfold cI;rw[h]
def Bp(h:Γ f us=a5 (.exc c)):Run (cI Γ f us) st (.inr c) st:=by
 change cI Γ f us st=_;unfold cI;rw[h]
def rU(a:Run (bp Γ es) st rs st)(b:bo rs st)(c:Run (cI Γ f (rs.map (·.2))) st (.inl r) st)(d:Run (execs Γ ss) st e st1):Run (execs Γ (.NW f es::ss)) st e st1 :=
 ae (ae (ae a (ae (aZ b) c)) aP) d
def Br(a:Run (bp Γ es) st rs st)(b:bo rs st)(d:Run (cI Γ f (rs.map (·.2))) st (.inr c) st):Run (execs Γ (.NW f es::ss)) st (.rt .io (.str c)) st :=
 ae (ae (ae a (ae (aZ b) d)) aP) aP
def Jj(h:st[j]?=a5 b6)(hk:k≠j)(b:c∈a):Run (ku a i j k (.inr c)) st .nx (st.set k (a5 (.loc,.exc c))):=by
 change ku a i j k (.inr c) st=_;unfold ku
 dsimp only
 rw[h];show Ž ⟨hk,b⟩
def Jk:Run (ku a i j k (.inl (.own,u))) st .nx (st.set i (a5 (.own,u))):=ae ba aP
def j5(h:Run (ev Γ a) st x st1)(c:eM d x.2=a5 b):Run (ev Γ (.Lz a D d)) st (.loc,.bl b) st1:=ae h (ae (cC c) aP)
def Jl(h:Run (ev Γ a) st x st1)(c:eM d x.2=a5 b):Run (Kr Γ (.Lz a D d)) st b st1:=ae h (cC c)
def EC(h:sN a i b st=a5 (.ok r,st)):Run (ev Γ (.OG a i b)) st r st:=h
abbrev wB:Fn:=⟨"refuse_unknown",2,2,[.ite (.cmp .gt (.PV b8 (.var 1) (.call "words_of" [.var 0])) (.cst (.int 0))) [.NV "Unknown" (.cst (.str "the book has no such word"))] []]⟩
def aX.ok(h:aX ws r):n_ ws r:=⟨h.1,h.2.2.2,h.2.1,h.2.2.1⟩
structure Bq(ws:List Str)(rs:List Row):Prop where
 wl:ws.length<=24
 rl:rs.length<=84
 ok:∀r∈rs,aX ws r
def Bs(h:Bq ws rs)(c:Γ "words_of" [.tup (rs.map A')]=a5 (.ok (.own,.lst ((a9 rs).map .str)))):bY Γ wB [.tup (rs.map A'),.lst [.str w]]=a5 (if w∈a9 rs then .ok (.loc,.Kb) else .exc "Unknown"):=by
 have g:=tW λr b=>(h.ok r b).ok;have hl:=h.wl;have i:(aJ (a9 rs)).length<=(a9 rs).length:=jb (dF _) λx f=>by simpa[c_] using f
 have e:aJ [w]=[w]:=by simp[aJ,jr]
 have d:start [.tup (rs.map A'),.lst [.str w]] 2=[a5 (.loc,.tup (rs.map A')),a5 (.any,.lst [.str w])]:=Δ (λx:Option (Kd×U)=>[x,a5 (Kd.any,U.lst [.str w])]) (iB rs);have hs:xB b8 (aJ [w]) (aJ (a9 rs))=a5 (.loc,.int ((if w∈a9 rs then 0 else 1:Nat):Nat)):=by
  unfold xB;rw[e,Ž ⟨by simp,⋯⟩,Ž rfl,D7];by_cases a:w∈a9 rs
  .rw[ž (by simp[c_,a]),Ž a,R5];rfl
  .rw[Ž (by simp[c_,a]),ž a,R5];rfl
 have b:Run (ev Γ (.PV b8 (.var 1) (.call "words_of" [.var 0]))) [a5 (.loc,.tup (rs.map A')),a5 (.any,.lst [.str w])] _ _:=Ja (bh rfl) (oq (ss:=[w]) (by simp)) (bG (aa (af rfl) aj) trivial c) (oq ⋯) hs;by_cases a:w∈a9 rs
 .rw[Ž a]at b ⊢;show oA rfl d (bA (aK b ah trivial (g9 rfl)) aB aB)
 .rw[ž a]at b ⊢;show gp rfl d (mU (gf (aK b ah trivial (g9 rfl)) (Bo ah)))
def J4(b:KJ Pg "words_of" pO)(h:KJ Pg "refuse_unknown" wB)(a:Bq ws rs)(w:Str):Kl Pg (d+2) "refuse_unknown" [.tup (rs.map A'),.lst [.str w]]=a5 (if w∈a9 rs then .ok (.loc,.Kb) else .exc "Unknown") :=
 (aL h _).trans (Bs a ((aL b _).trans (pP (by have:=a.rl;lia) (λr c=>(a.ok r c).ok) (by have:=a.wl;lia))))
def Bt(n:ws.length<1000)(hk:mE ws ks)(e:aX ws r):
  ∃a b,Run (execs Γ AV) (pW rs ks (a5 (.loc,.str r.1)) (a5 (.loc,.tup (r.2.map .str))) o4) .nx (pW rs a (a5 (.loc,.str r.1)) (a5 (.loc,.tup (r.2.map .str))) b)/\mE ws a/\∀x,x∈a↔x∈ks\/x=r.1\/x∈r.2:=by
 have o:=hk.len;obtain⟨st',j,a,b,rfl,l,_,c⟩:=cw (rs:=[(.loc,.tup (r.2.map .str))]) (t:=cc) (is:=[4]) (body:=execs Γ Ey) (λx:Str=>(Kd.loc,U.str x)) (λd q st=>∃a b,st=pW rs a (a5 (.loc,.str r.1)) (a5 (.loc,.tup (r.2.map .str))) b/\mE ws a/\(∀x∈q,x∈ws)/\∀x,x∈a↔(x∈ks\/x=r.1)\/x∈d)
  (λ_ _ _ _=>trivial) (λd y q st h=>by
   have⟨f,b,rfl,g,i,c⟩:=h;have p:=g.len;show⟨pW rs f (a5 (.loc,.str r.1)) (a5 (.loc,.tup (r.2.map .str))) (a5 (.loc,.str y)),_,aD,jd (k:=.own) (k':=.own) ah rfl (af rfl) (ao aA (ao aA aC)) rfl rfl (wa ⋯) aB,d0 f y,_,rfl,g.ins (i y (by simp)),λx m=>i x (by simp[m]),λx=>?_⟩;rw[dr,c x,ke,i3,or_assoc]) r.2 [] (pW rs (d0 ks r.1) (a5 (.loc,.str r.1)) (a5 (.loc,.tup (r.2.map .str))) o4) ⟨_,_,rfl,hk.ins e.1,e.2.2.1,λx=>by rw[dr];simp⟩
 show⟨a,b,?_,l,λx=>by rw[c x,or_assoc,lg]⟩;show jd (k:=.own) (k':=.own) ah rfl (af rfl) (ao aA (ao aA aC)) rfl rfl (wa ⋯) (c7 (rs:=[(.loc,.tup (r.2.map .str))]) (aa (af rfl) aj) trivial Bn rfl j aB)
def Jm(h:KJ Pg "_law_all" AW)(p:ws.length<=24)(f:∀r∈rs,aX ws r):Kl Pg (d+1) "_law_all" [.tup (rs.map A')]=a5 (.ok (.own,.lst ((a9 rs).map .str))):=by
 obtain⟨st',g,ks,o2,o3,o4,rfl,hk,_,i⟩:=cw (rs:=[(.loc,.tup (rs.map A'))]) (t:=b8) (is:=[2,3]) (body:=execs (Kl Pg d) AV) (λr:Row=>(Kd.loc,A' r)) (λd q st=>∃ks o2 o3 o4,st=pW rs ks o2 o3 o4/\mE ws ks/\(∀r∈q,aX ws r)/\∀x,x∈ks↔∃r∈d,x=r.1\/x∈r.2)
  (λ_ _ _ _=>trivial) (λd y q st h=>by
   have⟨j,o2,o3,o4,rfl,k,c,l⟩:=h;have⟨b,s,m,n,o⟩:=Bt (Γ:=Kl Pg ‹Nat›) (rs:=rs) (o4:=o4) ⋯ k (c y (by simp));show⟨pW rs j (a5 (.loc,.str y.1)) (a5 (.loc,.tup (y.2.map .str))) o4,_,mr (.inl rfl),m,b,_,_,_,rfl,n,λr a=>c r (by simp[a]),λx=>?_⟩;rw[o x,l x];constructor
   .rintro(⟨r,a,e⟩|e)
    .show⟨r,by simp[a],e⟩
    .show⟨y,by simp,e⟩
   .rintro⟨r,a,e⟩;rcases ke.mp a with q|q
    .show .inl ⟨r,q,e⟩
    .rw[i3]at q;subst q;show .inr e) rs [] (pW rs [] b6 b6 b6) ⟨[],b6,b6,b6,rfl,⟨by simp,by simp⟩,f,by simp⟩
 have hl:=hk.len;have e:aU ks=a9 rs:=fQ ((Yw hk.1 (dF _)).mpr λx=>by rw[i x,c_,iw,lg]);show(aL h _).trans (bB (st0:=[a5 (.loc,.tup (rs.map A')),b6,b6,b6,b6]) rfl (.inl rfl) (Δ (λx:Option (Kd×U)=>[x,b6,b6,b6,b6]) (iB rs)) (aw (st2:=pW rs [] b6 b6 b6) lZ ba (c7 (rs:=[(.loc,.tup (rs.map A'))]) (aa (af rfl) aj) trivial pX rfl g (bL (c6 (aa (aE rfl) aj) ∅ ?_) gZ))));change(if ks.length<64 then a5 (Kd.own,U.lst ((aU ks).map .str)) else b6)=_;rw[Ž ⋯,e]
def all2(h:KJ Pg "_law_all" AW)(a:Bq ws rs):Kl Pg (d+1) "_law_all" [.tup (rs.map A')]=a5 (.ok (.own,.lst ((a9 rs).map .str))):=Jm h a.wl a.ok
def G8(h:KJ Pg "_law_all" AW):AX (Kl Pg (d+1)):=λws rs c a=>⟨_,Jm h c a,As _,λx f=>by
 have⟨r,b,e⟩:=iw.mp (mq.mp f);rcases e with rfl|e
 .show(a r b).1
 .show(a r b).2.2.1 _ e⟩
def yg(l:mF Γ)(m:A4 Γ){ns:List Int}(n:ns.length<1000)(e:Src T u)(y:T+1000<2 ^ 62)(z:1<=ws.length)(f:ws.length<=24):
  ∃(rs:List Row) (a:List Int) (u':U),Run (ev Γ (.J9 "_law_widened" [.var 3,.J9 "_law_book" [.var 1,.var 3,.var 4] [0,1]] [0])) (o0::a5 (.own,.lst (ns.map .int))::o2::a5 (.own,u)::a5 (.own,.lst (ws.map .str))::rest) (.loc,.tup (rs.map A')) (o0::a5 (.own,.lst (a.map .int))::o2::a5 (.own,u')::a5 (.own,.lst (ws.map .str))::rest)/\Bq ws rs:=by
 have⟨b,rfl,c⟩:=e.lst;have⟨rs,a,u2,o,p,q,A,s2⟩:=l ns (.lst b) ws _ e ⋯ n ⋯ ⋯;have⟨g,rfl,d⟩:=s2.lst;have s:=Bc (Γ:=Γ) (st:=o0::a5 (.own,.lst (ns.map .int))::o2::a5 (.own,.lst b)::a5 (.own,.lst (ws.map .str))::rest) (st1:=o0::a5 (.own,.lst (ns.map .int))::o2::a5 (.own,.lst b)::a5 (.own,.lst (ws.map .str))::rest) (i:=1) (j:=3) (k0:=.own) (k:=.own) (k0':=.own) (k':=.own) (rs:=[(.bor 4,.lst (ws.map .str))]) ⋯ rfl rfl rfl rfl (aa (aE rfl) aj) rfl rfl (gG ns) rfl rfl c rfl ⟨⟨.own,rfl,rfl⟩,trivial⟩ (λr h=>by rw[i3]at h;subst h;rfl) o (.inr rfl);have⟨t,B,v,b3,w,s3⟩:=m _ (.lst g) ws rs s2 ⋯ f p.1 q;have⟨x,rfl,C⟩:=s3.lst;show⟨t,a,.lst x,iz (Γ:=Γ) (st:=o0::a5 (.own,.lst (ns.map .int))::o2::a5 (.own,.lst b)::a5 (.own,.lst (ws.map .str))::rest) (st1:=o0::a5 (.own,.lst (a.map .int))::o2::a5 (.own,.lst g)::a5 (.own,.lst (ws.map .str))::rest) (i:=3) (k0:=.own) (k:=.own) (rs:=[(.loc,.tup (rs.map A'))]) rfl rfl (aa s aj) rfl rfl d rfl v (.inr rfl),f,w,b3⟩
end
end TM
namespace TM
open PySem L2 Kv Od
section
abbrev Bu(a b c d e f g h i:List (Str×Bool)):Fn:=⟨"_law_kind",1,2,
   [.set 1 (.lst [.Lz (.var 0) "Unknown" a,.Lz (.var 0) "Unlearnt" b,.Lz (.var 0) "TooMany" c,.Lz (.var 0) "Lacking" d]),
    .set 1 (.bin .add (.var 1) (.lst [.Lz (.var 0) "NoText" e,.Lz (.var 0) "Unfit" f,.Lz (.var 0) "NoRow" g,.Lz (.var 0) "NoDeed" h])),
    .ite (.or [.cmp .ne (.OG cc 1 b8) (.cst (.int 1)),.not (.Lz (.var 0) "ValueError" i)])
      [.ret (.cst (.str "none"))]
      [],
    .ret (.idx (.lst [(.cst (.str "unknown")),(.cst (.str "unlearnt")),(.cst (.str "many")),(.cst (.str "lacking")),(.cst (.str "text")),(.cst (.str "unfit")),(.cst (.str "row")),(.cst (.str "deed"))]) (.OG b8 1 b8))]⟩
def jN(o:eM p (.exc c)=a5 b1)(q:eM s (.exc c)=a5 d)(t:eM v (.exc c)=a5 b3)(w:eM y (.exc c)=a5 b4)(z:eM A (.exc c)=a5 f)(B:eM C (.exc c)=a5 g)(D:eM G (.exc c)=a5 i)(H:eM I (.exc c)=a5 j)(J:eM L (.exc c)=a5 b8)
  (N:sN cc 1 b8 [a5 (.loc,.exc c),a5 (.own,.lst [.bl b1,.bl d,.bl b3,.bl b4,.bl f,.bl g,.bl i,.bl j])]=a5 (.ok (.loc,.int 1),[a5 (.loc,.exc c),a5 (.own,.lst [.bl b1,.bl d,.bl b3,.bl b4,.bl f,.bl g,.bl i,.bl j])]))
  (O:sN b8 1 b8 [a5 (.loc,.exc c),a5 (.own,.lst [.bl b1,.bl d,.bl b3,.bl b4,.bl f,.bl g,.bl i,.bl j])]=a5 (.ok (.loc,.int n),[a5 (.loc,.exc c),a5 (.own,.lst [.bl b1,.bl d,.bl b3,.bl b4,.bl f,.bl g,.bl i,.bl j])]))
  (Q:K8 [U.str "unknown",.str "unlearnt",.str "many",.str "lacking",.str "text",.str "unfit",.str "row",.str "deed"] n=a5 (.str x)):bY Γ (Bu p s v y A C G I L) [.exc c]=a5 (.ok (.loc,.str x)):=by
 have T:(1000:Nat)<=cK:=by decide
 have l:(4:Nat)<=cK:=by lia
 have m:(8:Nat)<=cK:=by lia
 have a:∀(r:Kd×U) (rs:List (Kd×U)) (us:List U) (st:ay),r.1=.loc->Run (cX rs) st us st->Run (cX (r::rs)) st (r.2::us) st:=λr rs us st e h=>ao (by have⟨k,u⟩:=r;cases e;show aA) h;show bB rfl (.inr rfl) (st:=[a5 (.loc,.exc c),a5 (.own,.lst [.bl b1,.bl d,.bl b3,.bl b4,.bl f,.bl g,.bl i,.bl j])]) (st0:=[a5 (.loc,.exc c),b6]) rfl (aw (r:=(.own,.lst [.bl b1,.bl d,.bl b3,.bl b4])) (st1:=[a5 (.loc,.exc c),b6]) ?_ ba (aw (r:=(.own,.lst [.bl b1,.bl d,.bl b3,.bl b4,.bl f,.bl g,.bl i,.bl j])) (st1:=[a5 (.loc,.exc c),a5 (.own,.lst [.bl b1,.bl d,.bl b3,.bl b4])]) ?_ ba (bA (st2:=[a5 (.loc,.exc c),a5 (.own,.lst [.bl b1,.bl d,.bl b3,.bl b4,.bl f,.bl g,.bl i,.bl j])]) ?_ aB (bL ?_ fb))))
 .show bO (aa (j5 (af rfl) o) (aa (j5 (af rfl) q) (aa (j5 (af rfl) t) (aa (j5 (af rfl) w) aj)))) trivial (a _ _ _ _ rfl (a _ _ _ _ rfl (a _ _ _ _ rfl (a _ _ _ _ rfl aC)))) l
 .show bj (aE rfl) (bO (aa (j5 (af rfl) z) (aa (j5 (af rfl) B) (aa (j5 (af rfl) D) (aa (j5 (af rfl) H) aj)))) trivial (a _ _ _ _ rfl (a _ _ _ _ rfl (a _ _ _ _ rfl (a _ _ _ _ rfl aC)))) l) ∅ (mj m rfl rfl)
 .show GS (Ek (aK (EC N) ah trivial (ui rfl)) (Ak (IL (Jl (b:=b8) (af rfl) J))))
 .show aQ (bO (aa ah (aa ah (aa ah (aa ah (aa ah (aa ah (aa ah (aa ah aj)))))))) trivial (a _ _ _ _ rfl (a _ _ _ _ rfl (a _ _ _ _ rfl (a _ _ _ _ rfl (a _ _ _ _ rfl (a _ _ _ _ rfl (a _ _ _ _ rfl (a _ _ _ _ rfl aC)))))))) m) (EC O) trivial (cv Q)
def Bv(a:Run (bp Γ es) st rs st)(b:bo rs st)(c:Run (cI Γ f (rs.map (·.2))) st r st)(d:Run (ku e i j k r) st .nx st1)(h:Run (execs Γ ss) st1 l st2):
  Run (execs Γ (.Oh i [] f es g m x e j k::ss)) st l st2:=ae (ae (ae a (ae (aZ b) c)) d) h
end
def DX(c:r∈rs)(h:N4 rs s.1):N4 rs (L_ s r).1:=by
 unfold L_;split
 .rename_i d;have e:may s r=b8:=(va.mp d).1;intro C a x b;rcases dr.mp b with b|rfl
  .show h C a x b
  .show a r c λy f=>h C a y (by have:=i6.mp e y f;simpa using this)
 .show h
theorem wC:∀(a:List Row) (s:Lg) (b:Bool),(∀r∈a,r∈rs)->N4 rs s.1->N4 rs (LK a (s,b)).1.1
 |[],s,b,_,h=>h
 |r::a,s,b,c,h=>wC a (L_ s r) _ (λy hz=>c y (by simp[hz])) (DX (c r (by simp)) h)
theorem wD:∀(n:Nat) (s:Lg),N4 rs s.1->N4 rs (lim rs n s).1
 |0,s,h=>h
 |n+1,s,h=>by
  unfold lim;have:=wC rs s cc (λ_ z=>z) h;split
  .show wD n _ this
  .show this
def QQ.closed(h:QQ rs s):jG rs (·∈s.1):=λr b c=>by
 have a:=h r b;have d:may s r=b8:=i6.mpr λx e=>by simpa using c x e
 rw[d,ĺ]at a;unfold L9 at a;have:=(Ù.mp a).1;simpa using this
inductive Wk(rs:List Row):List Str->List Nat->List Str->Prop where
 |nil {P:List Str}:Wk rs P [] P
 |cons {P Q:List Str} {p:Nat} {ps:List Nat} {r:Row} (h:rs[p]?=a5 r) (t:Wk rs (P++[r.1]) ps Q):Wk rs (P++r.2) (p::ps) Q
def Bw(a b:List α):cut (a++b) (a5 (a.length:Nat)) b6=b:=by
 have c:HT.LN (a++b).length 0 (a5 ((a.length:Nat):Int))=a.length:=by rw[HT.uK];simp
 have d:HT.LN (a++b).length (a++b).length b6=(a++b).length:=rfl;unfold cut;rw[c,d,List.drop_left,K5 (by simp)]
def Bx(a b:List α):cut (a++b) b6 (a5 (a.length:Nat))=a:=by
 have c:HT.LN (a++b).length (a++b).length (a5 ((a.length:Nat):Int))=a.length:=by rw[HT.uK];simp
 have d:HT.LN (a++b).length 0 b6=0:=rfl;unfold cut;rw[c,d,YL,Nat.sub_zero,List.take_left]
structure Bk(ws:List Str)(rs:List Row)(s:Lg):Prop where
 wl:ws.length<=24
 rl:rs.length<=84
 ok:∀r∈rs,aX ws r
 inv:gn ws s
 XG:QQ rs s
 snd:N4 rs s.1
def Bk.of(a:ws.length<=24)(c:rs.length<=84)(b:∀r∈rs,aX ws r):Bk ws rs (lim rs fuel s0) :=
 ⟨a,c,b,kM a b fuel s0 (jJ ws),wz a b fuel s0 (jJ ws) (by unfold fuel;decide),wD fuel s0 λC _ x d=>(by cases d)⟩
def Bk.kn(h:Bk ws rs s):KL.Kn rs s.1:=⟨h.inv.1.1,h.snd,h.XG.closed⟩
def Bk.heads(h:Bk ws rs s)(a:x∈s.1):x∈rs.map (·.1):=h.snd (λx=>x∈rs.map (·.1)) (λr b _=>R' b) x a
def Bk.words(h:Bk ws rs s)(a:x∈s.1):x∈a9 rs:=by
 rw[mq];have⟨r,b,rfl⟩:=lz.mp (h.heads a);unfold cy;show Ć.mpr ⟨_,R' b,by simp⟩
abbrev uA:List S :=
   [.set 5 (.idx (.var 2) (.pop 4)),
   .app 3 (.var 5),
   .ext 4 (.idx (.idx (.var 0) (.var 5)) (.cst (.int 1)))]
def wF(c:Str->Int)(h:ks.Nodup):Md .dict [(k,.lst (ks.map (Mw c)))]=a5 (.own,.J8 ks (ks.map λx=>.int (c x))):=by
 have e:∀ks:List Str,lD (ks.map (Mw c))=a5 (ks.map λx=>(x,U.int (c x))):=λks=>by
  induction ks with
  |nil=>rfl
  |cons x ks a =>
   change(if QH (U.int (c x))=b8 then(lD (ks.map (Mw c))).map ((x,U.int (c x))::·) else b6)=_;rw[Ž (show QH (U.int (c x))=b8 from rfl),a];rfl
 change(lD (ks.map (Mw c))).bind _=_;rw[e];change(if ((ks.map λx=>(x,U.int (c x))).map (·.1)).Nodup then a5 (Kd.own,U.J8 ((ks.map λx=>(x,U.int (c x))).map (·.1)) ((ks.map λx=>(x,U.int (c x))).map (·.2))) else b6)=_;have b:(ks.map λx=>(x,U.int (c x))).map (·.1)=ks:=by rw[i9];show List.map_id' _
 rw[b,Ž h,i9];rfl
abbrev mW(rs:List Row)(w:Str)(ks:List Str)(pl:Str->Int)(B:List Nat)(W:List Str)(o5:Option (Kd×U)):ay:=[a5 (.loc,.tup (rs.map A')),a5 (.loc,.str w),a5 (.own,.J8 ks (ks.map λx=>.int (pl x))),a5 (.own,.lst (B.map λp:Nat=>.int (p:Int))),a5 (.own,.lst (W.map .str)),o5]
theorem qa(h:gn ws s):∀{W:List Str},(∀x∈W,x∈s.1)->(W.length:Int)<=(W.map s.2).sum
 |[],_=>by simp
 |x::W,a=>by
  have:=qa h (W:=W) λy b=>a y (by simp[b]);have c:=h.2.1 x (a x (by simp));rw[d3,N',kj];lia
theorem rV(h:Bk ws rs s)(n:Mk rs s pl)(o:∀x,x∈ks↔x∈s.1):∀(f:Nat) (W:List Str) (B:List Nat) (o5:Option (Kd×U)),(∀x∈W,x∈s.1)->(W.map s.2).sum+1<f->(W.map s.2).sum+B.length<=2000->Wk rs W B.reverse [w] ->
  ∃a c,Run (fL (Kr Γ (.cmp .ne (.var 4) (.lst []))) (execs Γ uA) f) (mW rs w ks pl B W o5) .nx (mW rs w ks pl a [] c)/\Wk rs [] a.reverse [w]/\(a.length:Int)=(W.map s.2).sum+B.length
 |0,W,B,o5,b,z,_,_=>by have:=qa h.inv b;lia
 |f+1,W,B,o5,b,z,hl,q=>by
  have A:(10000:Nat)<=cK:=by decide
  have C:=qa h.inv b;have d:Run (Kr Γ (.cmp .ne (.var 4) (.lst []))) (mW rs w ks pl B W o5) (!W.isEmpty) (mW rs w ks pl B W o5):=aK (aE rfl) (bO aj trivial aC (kr _)) ∅ (by rw[mz (iu _ 49)];simp);by_cases g:W=[]
  .subst g;show⟨B,o5,oh d,q,by simp⟩
  .have e:=R7 g;generalize W.dropLast=V at e;generalize W.getLast g=x at e;subst e;have t:x∈s.1:=b x (by simp);have⟨i,r,D,j,G,H,I⟩:=n.best h.XG t;have J:=(h.ok r (mh j)).2.2.2;have T:((V++r.2).map s.2).sum+1=((V++[x]).map s.2).sum:=by
    rw[ki,Xj,ki,Xj,To,è,I];unfold KH;lia
   have l:∀y∈V++r.2,y∈s.1:=λy hy=>by
    rcases ke.mp hy with hy|hy
    .show b y (by simp[hy])
    .show H y hy
   rw[hH,rz]at C;have L:Run (execs Γ uA) (mW rs w ks pl B (V++[x]) o5) .nx (mW rs w ks pl (B++[i]) (V++r.2) (a5 (.loc,.int (i:Int)))):=by
    have N:Run (ev Γ (.idx (.var 2) (.pop 4))) (mW rs w ks pl B (V++[x]) o5) (.loc,.int (i:Int)) (mW rs w ks pl B V o5):=by
     have v:=Em (Γ:=Γ) (st:=mW rs w ks pl B (V++[x]) o5) (i:=4) (k:=.own) (us:=(V++[x]).map .str) (u:=.str x) rfl rfl (by simp);rw[show((V++[x]).map U.str).dropLast=V.map U.str by simp]at v;show aQ (aE rfl) v ∅ ?_;change(cq ks (ks.map λx=>U.int (pl x)) x).map _=_;rw[d9 ((o x).mpr t),D];rfl
    show aw N aD (dX (k:=.own) (k':=.own) rfl (af rfl) aA rfl rfl (by rw[c2];lia) ?_);show vU (k:=.own) (k':=.own) (zs:=(V++r.2).map .str) rfl (aQ (aQ (af rfl) (af rfl) trivial (oN (k:=.loc) (v8 j))) ah trivial (show gI (.loc,A' r) (.int 1)=a5 (.loc,.tup (r.2.map .str)) from rfl)) rfl rfl ?_ ?_
    .rw[vV (by rw[c2,c2];lia) rfl,ki]
    .rw[show(B.map λp:Nat=>U.int (p:Int))++[U.int (i:Int)]=(B++[i]).map λp:Nat=>U.int (p:Int) by simp];show aB
   have m:Wk rs (V++r.2) (B++[i]).reverse [w]:=by
    rw[List.reverse_append,List.reverse_singleton,List.singleton_append];show .cons j (by rw[G];show q)
   have⟨a,c,O,k2,Q⟩:=rV h n (w:=w) o f (V++r.2) (B++[i]) (a5 (.loc,.int (i:Int))) l ⋯ (by rw[hH,rz];lia) m;show⟨a,c,rD ?_ L O,k2,by rw[hH,rz]at Q;lia⟩;rw[show(!(V++[x]).isEmpty)=b8 by simp]at d;show d
section
variable{Γ:Tab}{st st1 st2:ay}{Pg:List Fn}{ws:List Str}{rs:List Row}
abbrev By:Fn:=⟨"refuse_unlearnt",2,2,[.ite (.cmp .Ki (.var 1) (.call "learnt" [.var 0])) [.NV "Unlearnt" (.fst [.cst (.str "the word "),.var 1,.cst (.str " can't be learnt")])] []]⟩
def gq(n:Nat):start [.tup (rs.map A'),.str w] (n+2)=a5 (.loc,.tup (rs.map A'))::a5 (.loc,.str w)::i8 n b6:=by
 change a5 (if Kw (.tup (rs.map A'))=b8 then Kd.loc else Kd.any,U.tup (rs.map A'))::a5 (Kd.loc,U.str w)::i8 (n+2 - 2) b6=_;rw[iB];rfl
def J5(h:KJ Pg "refuse_unlearnt" By)(c:Kl Pg d "learnt" [.tup (rs.map A')]=a5 (.ok (.own,.lst ((aU K).map .str))))(g:w.length<=20):Kl Pg (d+1) "refuse_unlearnt" [.tup (rs.map A'),.str w]=a5 (if w∈K then .ok (.loc,.Kb) else .exc "Unlearnt"):=by
 have a:Run (Kr (Kl Pg d) (.cmp .Ki (.var 1) (.call "learnt" [.var 0]))) [a5 (.loc,.tup (rs.map A')),a5 (.loc,.str w)] (c4 (w∉aU K)) [a5 (.loc,.tup (rs.map A')),a5 (.loc,.str w)]:=aK (af rfl) (bG (aa (af rfl) aj) trivial c) trivial gk;have b:w∈aU K↔w∈K:=(bX K).mem_iff;by_cases hk:w∈K
 .rw[ſ (by rw[b];simpa using hk)]at a;rw[Ž hk];show(aL h _).trans (oA rfl (gq 0) (bA a aB aB))
 .rw[Α (by rw[b];show hk)]at a;rw[ž hk];have e:(nH++("the word ":Str)).length<=1000:=by decide +kernel
  have f:((nH++("the word ":Str))++w).length<=1000:=by
   rw[len_list,app_list,hH,<-len_list,<-len_list];have:(nH++("the word ":Str)).length=9:=by decide +kernel
   lia
  show(aL h _).trans (gp rfl (gq 0) (mU (gf a (Bo (Ep (jF ah (gE (by decide +kernel) (by decide)) (jF (af rfl) (gE ⋯ e) (jF ah (gE (by decide +kernel) f) Eo))))))))
abbrev Jn:Fn:=⟨"reading",2,6,[.NW "refuse_unknown" [.var 0,.lst [.var 1]],.NW "refuse_unlearnt" [.var 0,.var 1],.ite (.cmp .gt (.idx (.bi .dict [.call "prices" [.var 0]]) (.var 1)) (.QE "DEAREST_READ" (.int 2000))) [.NV "TooMany" (.fst [.cst (.str "the shortest readings of "),.var 1,.cst (.str " are too long")])] [],.set 2 (.bi .dict [.call "best_rows" [.var 0]]),.set 3 (.lst []),.set 4 (.lst [.var 1]),.Og (.cmp .ne (.var 4) (.lst [])) uA,.ret (.OF .LZ [.var 3])]⟩
structure V9(Pg:List Fn):Prop where
 l:KL.V7 Pg
 w:KJ Pg "words_of" pO
 u:KJ Pg "refuse_unknown" wB
 r:KJ Pg "refuse_unlearnt" By
 q:KJ Pg "row_price" wj
 t:KJ Pg "prices_and_places" DO
 c:KJ Pg "prices" kN
 b:KJ Pg "best_rows" p8
 d:KJ Pg "reading" Jn
def kO:Run (bp Γ [.var 0,.lst [.var 1]]) (a5 (.loc,.tup (rs.map A'))::a5 (.loc,.str w)::st) [(.loc,.tup (rs.map A')),(.own,.lst [.str w])] (a5 (.loc,.tup (rs.map A'))::a5 (.loc,.str w)::st):=by
 have a:(10000:Nat)<=cK:=by decide
 show aa (af rfl) (aa (bO (aa (af rfl) aj) trivial (ao aA aC) (by change 1<=cK;lia)) aj)
def jj:Run (bp Γ [.var 0,.var 1]) (a5 (.loc,.tup (rs.map A'))::a5 (.loc,.str w)::st) [(.loc,.tup (rs.map A')),(.loc,.str w)] (a5 (.loc,.tup (rs.map A'))::a5 (.loc,.str w)::st):=aa (af rfl) (aa (af rfl) aj)
def Bz(d:p7 Γ)(h:Bk ws rs (lim rs fuel s0))(b:w∈(lim rs fuel s0).1):Run (ev Γ (.idx (.bi .dict [.call "prices" [.var 0]]) (.var 1))) [a5 (.loc,.tup (rs.map A')),a5 (.loc,.str w),b6,b6,b6,b6] (.loc,.int ((lim rs fuel s0).2 w)) [a5 (.loc,.tup (rs.map A')),a5 (.loc,.str w),b6,b6,b6,b6]:=by
 have⟨k1,a,c⟩:=d ws rs h.wl h.ok;generalize lim rs fuel s0=s at h b c a;have e:k1.Nodup:=a.nodup_iff.mpr h.inv.1.1;show aQ (c6 (aa (bG (aa (af rfl) aj) trivial c) aj) trivial (wF s.2 e)) (af rfl) trivial (by change(cq k1 (k1.map λx=>U.int (s.2 x)) w).map _=_;rw[d9 (a.mem_iff.mpr b)];rfl)
def BA(B:List Nat):qN .LZ [(.bor i,.lst (B.map λp:Nat=>U.int (p:Int)))]=a5 (.own,.lst (B.reverse.map λp:Nat=>.int (p:Int))):=by
 change(if d_ (.bor i) (B.map λp:Nat=>U.int (p:Int))=b8 then a5 (Kd.own,U.lst (B.map λp:Nat=>U.int (p:Int)).reverse) else b6)=_;rw[Ž (show d_ (.bor i) (B.map λp:Nat=>U.int (p:Int))=b8 from rfl),ć]
def BB(h:w.length<=20):(nH++("the shortest readings of ":Str)++w).length<=1000:=by
 rw[len_list,app_list,hH,<-len_list,<-len_list];have:(nH++("the shortest readings of ":Str)).length=25:=by decide +kernel
 lia
inductive Sg(rs:List Row)(w:Str):Ex (Kd×U)->Prop
 |XH:w∉a9 rs->Sg rs w (.exc "Unknown")
 |XI:w∈a9 rs->w∉(lim rs fuel s0).1->Sg rs w (.exc "Unlearnt")
 |XJ:w∈a9 rs->w∈(lim rs fuel s0).1->2000<(lim rs fuel s0).2 w->Sg rs w (.exc "TooMany")
 |got {ps:List Nat}:w∈a9 rs->w∈(lim rs fuel s0).1->(lim rs fuel s0).2 w<=2000->(ps.length:Int)=(lim rs fuel s0).2 w->Sg rs w (.ok (.own,.lst (ps.map λp:Nat=>.int (p:Int))))
def rd5(R:V9 Pg)(n:Nat)(j:ws.length<=24)(k:rs.length<=84)(ok:∀r∈rs,aX ws r)(m:w.length<=20):∃a,Kl Pg (n+7) "reading" [.tup (rs.map A'),.str w]=a5 a/\Sg rs w a:=by
 have s:(10000:Nat)<=cK:=by decide
 have h:=Bk.of j k ok;have f:=J4 (d:=n+4) R.w R.u (⟨j,k,ok⟩:Bq ws rs) w;have i:=J5 (d:=n+5) R.r (KL.DW R.l n (λr v=>(ok r v).ok) j ⋯ h.kn) m;have y:p7 (Kl Pg (n+6)):=DS (Ez (Ba R.q) R.t) R.c;have z:Be (Kl Pg (n+6)):=G7 (Ez (Ba R.q) R.t) R.b;by_cases g:w∈a9 rs
 .rw[Ž g]at f;by_cases e:w∈(lim rs fuel s0).1
  .rw[Ž e]at i;have o:=Bz y h e;by_cases A:(lim rs fuel s0).2 w<=2000
   .have⟨pl,k2,p2,C,D⟩:=z ws rs h.wl h.ok;have G:k2.Nodup:=p2.nodup_iff.mpr h.inv.1.1;have H:∀x,x∈k2↔x∈(lim rs fuel s0).1:=λx=>p2.mem_iff;have I:=h.inv.2.1 w e;have J:2001<fuel:=by unfold fuel;decide
    have⟨B,o5,q,L,hl⟩:=rV (Γ:=Kl Pg (n+6)) h D (w:=w) H fuel [w] [] b6 (λx p=>by rw[i3]at p;subst p;show e) (by simp;lia) (by simp;lia) .nil;show⟨_,(aL R.d _).trans (bB rfl (.inl rfl) (gq 4) (rU kO trivial (rT f) (rU jj trivial (rT i) (bA (aK o Ej trivial (g9 (by simp;lia))) aB (aw (c6 (aa (bG (aa (af rfl) aj) trivial C) aj) trivial (wF pl G)) ba (aw (bO aj trivial aC (kr _)) ba (aw (st2:=mW rs w k2 pl [] [w] b6) (bO (aa (af rfl) aj) trivial (ao aA aC) (by change 1<=cK;lia)) ba (rE q (bL (Ah (aa (aE rfl) aj) ∅ (BA B)) gZ))))))))),.got g e A (by rw[Sb];simpa using hl)⟩
   .show⟨_,(aL R.d _).trans (gp rfl (gq 4) (rU kO trivial (rT f) (rU jj trivial (rT i) (mU (gf (aK o Ej trivial (g9 (by simp;lia))) (Bo (Ep (jF ah (gE (by decide +kernel) (by decide)) (jF (af rfl) (gE ⋯ (by decide +kernel)) (jF ah (gE (by decide +kernel) (BB m)) Eo)))))))))),.XJ g e ⋯⟩
  .rw[ž e]at i;show⟨_,(aL R.d _).trans (gp rfl (gq 4) (rU kO trivial (rT f) (Br jj trivial (Bp i)))),.XI g e⟩
 .rw[ž g]at f;show⟨_,(aL R.d _).trans (gp rfl (gq 4) (Br kO trivial (Bp f))),.XH g⟩
end
section
abbrev kB(a b c:Bool):List (Str×Bool):=[("TooMany",a),("Unknown",b),("Unlearnt",c)]
abbrev jO:Fn:=Bu (kB cc b8 cc) (kB cc cc b8) (kB b8 cc cc) (kB cc cc cc) (kB cc cc cc) (kB cc cc cc) (kB cc cc cc) (kB cc cc cc) (kB b8 b8 b8)
def fB(a b c:Bool):eM (kB a b c) (.exc "TooMany")=a5 a:=by cases a<;>cases b<;>cases c<;>decide +kernel
def fC(a b c:Bool):eM (kB a b c) (.exc "Unknown")=a5 b:=by cases a<;>cases b<;>cases c<;>decide +kernel
def fD(a b c:Bool):eM (kB a b c) (.exc "Unlearnt")=a5 c:=by cases a<;>cases b<;>cases c<;>decide +kernel
def uB:bY Γ jO [.exc "TooMany"]=a5 (.ok (.loc,.str "many")):=jN (fB _ _ _) (fB _ _ _) (fB _ _ _) (fB _ _ _) (fB _ _ _) (fB _ _ _) (fB _ _ _) (fB _ _ _) (fB _ _ _) rfl rfl rfl
def uC:bY Γ jO [.exc "Unknown"]=a5 (.ok (.loc,.str "unknown")):=jN (fC _ _ _) (fC _ _ _) (fC _ _ _) (fC _ _ _) (fC _ _ _) (fC _ _ _) (fC _ _ _) (fC _ _ _) (fC _ _ _) rfl rfl rfl
def uD:bY Γ jO [.exc "Unlearnt"]=a5 (.ok (.loc,.str "unlearnt")):=jN (fD _ _ _) (fD _ _ _) (fD _ _ _) (fD _ _ _) (fD _ _ _) (fD _ _ _) (fD _ _ _) (fD _ _ _) (fD _ _ _) rfl rfl rfl
abbrev uE:Fn:=⟨"_law_asked",2,5,[.set 2 (.cst .Kb),.set 3 (.cst .Kb),.Oh 2 [] "reading" [.var 0,.var 1] "" [] "PrimerError" ["TooMany","Unknown","Unlearnt"] 4 3,.ret (.ite (.cmp .is (.var 3) (.cst .Kb)) (.bi .len [.var 2]) (.call "_law_kind" [.var 3]))]⟩
abbrev fe(rs:List Row)(w:Str):U:=if w∈(lim rs fuel s0).1 then(if (lim rs fuel s0).2 w<=2000 then .int ((lim rs fuel s0).2 w) else .str "many") else if w∈a9 rs then .str "unlearnt" else .str "unknown"
def Jo(R:V9 Pg)(h:KJ Pg "_law_asked" uE)(hk:KJ Pg "_law_kind" jO)(n:Nat)(g:ws.length<=24)(i:rs.length<=84)(ok:∀r∈rs,aX ws r)(k:w.length<=20):Kl Pg (n+8) "_law_asked" [.tup (rs.map A'),.str w]=a5 (.ok (.loc,fe rs w)):=by
 have⟨a,e,l⟩:=rd5 R n g i ok k;have f:∀(c x:Str),c∈[("TooMany":Str),"Unknown","Unlearnt"]->Kl Pg (n+7) "reading" [.tup (rs.map A'),.str w]=a5 (.exc c)->bY (Kl Pg (n+6)) jO [.exc c]=a5 (.ok (.loc,.str x))->Kl Pg (n+8) "_law_asked" [.tup (rs.map A'),.str w]=a5 (.ok (.loc,.str x)):=λc x m e z =>
  (aL h _).trans (bB rfl (.inr rfl) (gq 3) (aw ah aD (aw ah aD (Bv jj trivial (Bp e) (Jj rfl (by decide) m) (bL (tN (aK (af rfl) ah trivial rfl) (bG (aa (af rfl) aj) trivial ((aL hk _).trans z))) fb)))))
 unfold fe;cases l with
 |XH d =>
  have b:w∉(lim rs fuel s0).1:=λz=>d ((Bk.of g i ok).words z);rw[ž b,ž d];show f _ _ (by simp) e uC
 |XI d b =>
  rw[ž b,Ž d];show f _ _ (by simp) e uD
 |XJ d b j =>
  rw[Ž b,ž ⋯];show f _ _ (by simp) e uB
 |@got ps d b j o =>
  rw[Ž b,Ž j,<-o];show(aL h _).trans (bB rfl (.inr rfl) (gq 3) (aw ah aD (aw ah aD (Bv jj trivial (Ji e) Jk (bL (tM (aK (af rfl) ah trivial rfl) (c6 (aa (aE rfl) aj) (by show⟨⟨.own,rfl,rfl⟩,trivial⟩) (cE.trans ?_))) fb)))));rw[c2]
abbrev OQ(k:Nat):Str:=Kv.one (97+k)
abbrev dW(k:Nat):Str:="d"++OQ k
abbrev eW(k:Nat):Str:="e"++OQ k
abbrev dbl(k:Nat):List Row:=[(eW (k+1),[dW k]),(dW (k+1),[dW k,eW (k+1)])]
abbrev tR:Row:=("top",[dW 9,dW 7,dW 4,dW 3,dW 2,dW 1,dW 0])
abbrev pR:Row:=("topper",["top"])
abbrev jk:List Row:=(dW 0,[])::((gs 9).map dbl).flatten++[tR,pR]
abbrev M8(t:Nat):List Row:=jk.drop t++jk.take t
abbrev BC:List Str:=(gs 10).map dW++(gs 10).map eW++(["top","topper"]:List Str)
def G9:∀t,t<21->(∀r∈M8 t,r.1∈BC/\r.2.Nodup/\(∀y∈r.2,y∈BC)/\r.2.length<=8)/\(M8 t).length=21:=by decide +kernel
def DY:∀t,t<21->(("top":Str)∈(lim (M8 t) fuel s0).1/\(lim (M8 t) fuel s0).2 "top"=2000)/\("topper":Str)∈(lim (M8 t) fuel s0).1/\(lim (M8 t) fuel s0).2 "topper"=2001:=by decide +kernel
end
section
abbrev G_:List S :=
   [.set 3 (.bin .add (.cst (.str "d")) (.idx (.cst (.str "abcdefghij")) (.bin .sub (.var 2) (.cst (.int 1))))),
   .set 4 (.idx (.cst (.str "abcdefghij")) (.var 2)),
   .app 1 (.tup [.bin .add (.cst (.str "e")) (.var 4),.tup [.var 3]]),
   .app 1 (.tup [(.bin .add (.cst (.str "d")) (.var 4)),(.tup [(.var 3),(.bin .add (.cst (.str "e")) (.var 4))])])]
abbrev Ha:Fn:=⟨"_law_doubles",1,5,[.set 1 (.lst [.tup [.cst (.str "da"),.tup []]]),.Kt cc [2] .OD [.cst (.int 1),.cst (.int 10)] G_,.app 1 (.tup [.cst (.str "top"),.tup [.cst (.str "dj"),.cst (.str "dh"),.cst (.str "de"),.cst (.str "dd"),.cst (.str "dc"),.cst (.str "db"),.cst (.str "da")]]),.app 1 (.tup [.cst (.str "topper"),.tup [.cst (.str "top")]]),.ret (.bi .tuple [.bin .add (.NU (.var 1) [.var 0] []) (.NU (.var 1) [] [.var 0])])]⟩
abbrev iC(t:Int)(acc:List Row)(o2 o3 o4:Option (Kd×U)):ay:=[a5 (.loc,.int t),a5 (.own,.lst (acc.map A')),o2,o3,o4]
def BD:∀i:Nat,i<10->K8 ("abcdefghij":Str).cps.toList (i:Int)=a5 (97+i):=by decide +kernel
def wG:∀i:Nat,i<10->(OQ i).length=1:=by decide +kernel
def BE{i:Nat}(m:i<9)(hl:acc.length<=100):
  Run (execs Γ G_) (iC t acc (a5 (.loc,.int (1+(i:Int)))) o3 o4) .nx (iC t (acc++dbl i) (a5 (.loc,.int (1+(i:Int)))) (a5 (.loc,.str (dW i))) (a5 (.loc,.str (OQ (i+1))))):=by
 have e:(1000:Nat)<=cK:=by decide
 have n:=wG i ⋯;have o:=wG (i+1) ⋯;have ld:("d":Str).length=1:=by decide +kernel
 have b:("e":Str).length=1:=by decide +kernel
 have f:("abcdefghij":Str).length=10:=by decide +kernel
 have d:("abcdefghij":Str).length<=cK:=by lia
 have g:K8 ("abcdefghij":Str).cps.toList (1+(i:Int) - 1)=a5 (97+i):=by
  rw[show(1+(i:Int) - 1)=(i:Nat) by lia];show BD i ⋯
 have h:K8 ("abcdefghij":Str).cps.toList (1+(i:Int))=a5 (97+(i+1)):=by
  rw[show(1+(i:Int))=((i+1:Nat):Int) by lia];show BD (i+1) ⋯
 have j:∀o3 o4,Run (ev Γ (.bin .add (.cst (.str "d")) (.idx (.cst (.str "abcdefghij")) (.bin .sub (.var 2) (.cst (.int 1)))))) (iC t acc (a5 (.loc,.int (1+(i:Int)))) o3 o4) (.loc,.str (dW i)) (iC t acc (a5 (.loc,.int (1+(i:Int)))) o3 o4):=λo3 o4=>bj ah (aQ ah (bj (af rfl) ah trivial kS) trivial (jn d g)) trivial (jc (by change _+(OQ i).length<=_;lia));have l:Run (ev Γ (.idx (.cst (.str "abcdefghij")) (.var 2))) (iC t acc (a5 (.loc,.int (1+(i:Int)))) (a5 (.loc,.str (dW i))) o4) (.loc,.str (OQ (i+1))) (iC t acc (a5 (.loc,.int (1+(i:Int)))) (a5 (.loc,.str (dW i))) o4):=aQ ah (af rfl) trivial (jn d h);have a:∀(acc:List Row) (c:Str),c.length=1->Run (ev Γ (.bin .add (.cst (.str c)) (.var 4))) (iC t acc (a5 (.loc,.int (1+(i:Int)))) (a5 (.loc,.str (dW i))) (a5 (.loc,.str (OQ (i+1))))) (.loc,.str (c++OQ (i+1))) (iC t acc (a5 (.loc,.int (1+(i:Int)))) (a5 (.loc,.str (dW i))) (a5 (.loc,.str (OQ (i+1))))):=λacc c p=>bj ah (af rfl) trivial (jc ⋯);show aw (j _ _) aD (aw l aD (dX (k:=.own) (k':=.own) (u:=A' (eW (i+1),[dW i])) rfl (cQ (aa (a acc "e" b) (aa (cQ (aa (af rfl) aj) trivial (ao aA aC) (by change 1<=cK;lia)) aj)) trivial (ao aA (ao aA aC)) (by change 2<=cK;lia)) aA rfl rfl (by rw[c2];lia) ?_));rw[show acc.map A'++[A' (eW (i+1),[dW i])]=(acc++[(eW (i+1),[dW i])]).map A' by simp];show dX (k:=.own) (k':=.own) (u:=A' (dW (i+1),[dW i,eW (i+1)])) rfl (cQ (aa (a (acc++[(eW (i+1),[dW i])]) "d" ld) (aa (cQ (aa (af rfl) (aa (a (acc++[(eW (i+1),[dW i])]) "e" b) aj)) trivial (ao aA (ao aA aC)) (by change 2<=cK;lia)) aj)) trivial (ao aA (ao aA aC)) (by change 2<=cK;lia)) aA rfl rfl (by simp;lia) ?_;rw[show(acc++[(eW (i+1),[dW i])]).map A'++[A' (dW (i+1),[dW i,eW (i+1)])]=(acc++dbl i).map A' by simp[dbl]];show aB
theorem wH:∀d:List Nat,((d.map dbl).flatten).length<=2 * d.length
 |[]=>by simp
 |x::d=>by
  have:=wH d;rw[d3,T9,hH,kj];have e:(dbl x).length=2:=rfl;lia
def BF(h:d_ k (rows.map A')=b8):lC (k,.lst (rows.map A')) lo a=a5 (.own,.lst ((cut rows lo a).map A')):=by
 rw[<-vY];change(if d_ k (rows.map A')=b8 then a5 (Kd.own,U.lst (cut (rows.map A') lo a)) else b6)=_;rw[Ž h]
def Hb(xs:List α){t:Nat}(h:t<=xs.length):cut xs (a5 (t:Int)) b6=xs.drop t:=by
 have:=Bw (xs.take t) (xs.drop t);rw[Ï,tv,Ĥ h]at this;show this
def Hc(xs:List α){t:Nat}(h:t<=xs.length):cut xs b6 (a5 (t:Int))=xs.take t:=by
 have:=Bx (xs.take t) (xs.drop t);rw[Ï,tv,Ĥ h]at this;show this
def Jp(v:t<21):bY Γ Ha [.int (t:Nat)]=a5 (.ok (.loc,.tup ((M8 t).map A'))):=by
 have l:(1000:Nat)<=cK:=by decide
 have m:("da":Str)=dW 0:=by decide +kernel
 have a:(["dj","dh","de","dd","dc","db","da"]:List Str)=[dW 9,dW 7,dW 4,dW 3,dW 2,dW 1,dW 0]:=by decide +kernel
 have n:jk.length=21:=by decide +kernel
 obtain⟨st',f,o2,o3,o4,rfl,_⟩:=cw (t:=cc) (is:=[2]) (body:=execs Γ G_) (rs:=[(.loc,.int 1),(.loc,.int 10)]) (λi:Nat=>(Kd.loc,U.int (1+(i:Int)))) (λd q st=>∃o2 o3 o4,st=iC (t:Nat) ((dW 0,[])::(d.map dbl).flatten) o2 o3 o4/\(∀x∈q,x<9)/\d.length+q.length=9)
  (λ_ _ _ _=>trivial) (λd i q st o=>by
   have⟨o2,o3,o4,e,g,hl⟩:=o;subst e;rw[kj]at hl;have w:=wH d;have h:=BE (Γ:=Γ) (t:=(t:Nat)) (acc:=(dW 0,[])::(d.map dbl).flatten) (o3:=o3) (o4:=o4) (g i (by simp)) (by rw[kj];lia);have e:((dW 0,[])::(d.map dbl).flatten)++dbl i=(dW 0,[])::((d++[i]).map dbl).flatten:=by rw[ki,V2];simp
   rw[e]at h;show⟨iC (t:Nat) ((dW 0,[])::(d.map dbl).flatten) (a5 (.loc,.int (1+(i:Int)))) o3 o4,_,aD,h,_,_,_,rfl,λx b=>g x (by simp[b]),by simp;lia⟩) (gs 9) [] (iC (t:Nat) [(dW 0,[])] b6 b6 b6) ⟨b6,b6,b6,rfl,λx b=>rr.mp b,by simp⟩
 rw[lg]at f;let acc:List Row:=(dW 0,([]:List Str))::((gs 9).map dbl).flatten;have y:acc.length=19:=by decide +kernel
 have p:∀o2 o3 o4,Run (ev Γ (.tup [.cst (.str "top"),.tup [.cst (.str "dj"),.cst (.str "dh"),.cst (.str "de"),.cst (.str "dd"),.cst (.str "dc"),.cst (.str "db"),.cst (.str "da")]])) (iC (t:Nat) acc o2 o3 o4) (.loc,A' tR) (iC (t:Nat) acc o2 o3 o4):=λo2 o3 o4=>by
  unfold tR;rw[<-a];show cQ (aa ah (aa (cQ (aa ah (aa ah (aa ah (aa ah (aa ah (aa ah (aa ah aj))))))) trivial (ao aA (ao aA (ao aA (ao aA (ao aA (ao aA (ao aA aC))))))) (by change 7<=cK;lia)) aj)) trivial (ao aA (ao aA aC)) (by change 2<=cK;lia)
 have r:Run (ev Γ (.lst [.tup [.cst (.str "da"),.tup []]])) [a5 (.loc,.int (t:Nat)),b6,b6,b6,b6] (.own,.lst ([((dW 0,[]):Row)].map A')) [a5 (.loc,.int (t:Nat)),b6,b6,b6,b6]:=by
  rw[<-m];show bO (aa (cQ (aa ah (aa (cQ aj trivial aC (kr _)) aj)) trivial (ao aA (ao aA aC)) (by change 2<=cK;lia)) aj) trivial (ao aA aC) (by change 1<=cK;lia)
 have s:acc++[tR]++[pR]=jk:=by change _=acc++[_,_];simp
 show bB (st:=iC (t:Nat) jk o2 o3 o4) rfl (.inr rfl) (st0:=[a5 (.loc,.int (t:Nat)),b6,b6,b6,b6]) rfl (aw r ba (c7 (rs:=[(.loc,.int 1),(.loc,.int 10)]) (xs:=(gs 9).map λi:Nat=>(Kd.loc,U.int (1+(i:Int)))) (aa ah (aa ah aj)) trivial rfl rfl f (dX (k:=.own) (k':=.own) rfl (p _ _ _) aA rfl rfl (by rw[c2];lia) ?_)));rw[show acc.map A'++[A' tR]=(acc++[tR]).map A' by simp];show dX (k:=.own) (k':=.own) (u:=A' pR) rfl (cQ (aa ah (aa (cQ (aa ah aj) trivial (ao aA aC) (by change 1<=cK;lia)) aj)) trivial (ao aA (ao aA aC)) (by change 2<=cK;lia)) aA rfl rfl (by simp;lia) ?_;rw[show(acc++[tR]).map A'++[A' pR]=jk.map A' by rw[<-s];simp];have s1:lC (.bor 1,.lst (jk.map A')) (a5 (t:Int)) b6=a5 (.own,.lst ((jk.drop t).map A')):=by rw[BF rfl,Hb _ ⋯]
 have s2:lC (.bor 1,.lst (jk.map A')) b6 (a5 (t:Int))=a5 (.own,.lst ((jk.take t).map A')):=by rw[BF rfl,Hc _ ⋯]
 have j:∀o2 o3 o4,bo [(Kd.bor 1,U.lst (jk.map A'))] (iC (t:Nat) jk o2 o3 o4):=λ_ _ _=>⟨⟨.own,rfl,rfl⟩,trivial⟩
 have c:MP .add (.own,.lst ((jk.drop t).map A')) (.own,.lst ((jk.take t).map A'))=a5 (.own,.lst ((M8 t).map A')):=by
  rw[mj (by rw[c2,c2,W0,tv];lia) rfl rfl,<-ki];rfl
 show bL (c6 (aa (bj (lY (aE rfl) (jY (af rfl)) n9 (j _ _ _) s1) (lY (aE rfl) n9 (jY (af rfl)) (j _ _ _) s2) trivial c) aj) trivial rfl) fb
end
section
abbrev Hd:List S :=
   [.set 10 (.idx (.var 8) (.J9 "_law_draw" [.var 2,.bi .len [.var 8]] [0])),
   .set 11 (.cst (.str "unknown")),
   .ite (.cmp .isin (.var 10) (.var 7))
    [.set 11 (.cst (.str "unlearnt"))]
    [],
   .ite (.cmp .isin (.var 10) (.var 6))
    [.set 11 (.ite (.cmp .le (.idx (.var 6) (.var 10)) (.cst (.int 2000))) (.idx (.var 6) (.var 10)) (.cst (.str "many")))]
    [],
   .ite (.cmp .ne (.call "_law_asked" [.var 5,.var 10]) (.var 11))
    [.ret (.cst (.bl cc))]
    []]
abbrev dy:List Str:=["zzzzzzzz","a/99","b/2","q"]
@[reducible]def O5:=Option (Kd×U)×Option (Kd×U)×Option (Kd×U)
abbrev Nw(f:O5)(u2:U)(ws:List Str)(rs:List Row)(s:Lg)(o9 o10 o11:Option (Kd×U)):ay :=
 [f.1,f.2.1,a5 (.own,u2),f.2.2,a5 (.own,.lst (ws.map .str)),a5 (.loc,.tup (rs.map A')),a5 (.own,cD s),a5 (.own,.lst ((a9 rs).map .str)),a5 (.own,.lst ((ws++dy).map .str)),o9,o10,o11]
def DZ(rs:List Row)(w:Str):K3 50 (fe rs w)=b8:=by
 unfold fe;split
 .split<;>rfl
 .split<;>rfl
def D0(A:bC Γ)(h:Bk ws rs (lim rs fuel s0))(B:∀w∈ws++dy,Γ "_law_asked" [.tup (rs.map A'),.str w]=a5 (.ok (.loc,fe rs w)))(o:Src T u2)(Q:T+10<2 ^ 62):
  ∃r C D,Run (execs Γ Hd) (Nw f u2 ws rs (lim rs fuel s0) o9 o10 o11) .nx (Nw f r ws rs (lim rs fuel s0) o9 C D)/\Src (T+1) r:=by
 have Y:=h.wl;have G:((ws++dy).map U.str).length=ws.length+4:=by rw[c2,hH];rfl
 have⟨n,p,H,I,n1,s1⟩:=cS (Γ:=Γ) (st:=Nw f u2 ws rs (lim rs fuel s0) o9 o10 o11) A (i:=2) (k:=.own) (e:=.bi .len [.var 8]) (m:=(((ws++dy).map U.str).length:Nat)) rfl rfl (c6 (aa (aE rfl) aj) (by show⟨⟨.own,rfl,rfl⟩,trivial⟩) cE) o ⋯ ⋯ ⋯;have s:n.toNat<(ws++dy).length:=by rw[<-c2 (f:=U.str)];lia
 have t:K8 ((ws++dy).map U.str) n=a5 (.str (ws++dy)[n.toNat]):=by
  have:=iH (xs:=(ws++dy).map U.str) (j:=n.toNat) (v:=.str (ws++dy)[n.toNat]) (by rw[i7,l' s];rfl);rw[Int.toNat_of_nonneg I]at this;show this
 have y:(ws++dy)[n.toNat]∈ws++dy:=Lx s;generalize (ws++dy)[n.toNat]=w at t y;have J:=B w y;let S:Option (Kd×U)->ay:=λo11=>Nw f p ws rs (lim rs fuel s0) o9 (a5 (.loc,.str w)) o11;have L:Run (ev Γ (.idx (.var 8) (.J9 "_law_draw" [.var 2,.bi .len [.var 8]] [0]))) (Nw f u2 ws rs (lim rs fuel s0) o9 o10 o11) (.loc,.str w) (Nw f p ws rs (lim rs fuel s0) o9 o10 o11):=aQ (aE rfl) H (by show⟨⟨.own,rfl,rfl⟩,trivial⟩) (cv t);have c:∀o11,Run (Kr Γ (.cmp .isin (.var 10) (.var 7))) (S o11) (c4 (w∈a9 rs)) (S o11):=λo11=>aK (af rfl) (aE rfl) ⟨⟨.own,rfl,rfl⟩,trivial⟩ I_;have b:∀o11,Run (Kr Γ (.cmp .isin (.var 10) (.var 6))) (S o11) (c4 (w∈(lim rs fuel s0).1)) (S o11):=λo11=>aK (af rfl) (aE rfl) ⟨⟨.own,rfl,rfl⟩,trivial⟩ tZ;have q:w∈(lim rs fuel s0).1->∀o11,Run (ev Γ (.idx (.var 6) (.var 10))) (S o11) (.loc,.int ((lim rs fuel s0).2 w)) (S o11):=λa o11=>aQ (aE rfl) (af rfl) (by show⟨⟨.own,rfl,rfl⟩,trivial⟩) (by change(cq (lim rs fuel s0).1 ((lim rs fuel s0).1.map λx=>U.int ((lim rs fuel s0).2 x)) w).map _=_;rw[d9 a];rfl);have d:Run (execs Γ [.ite (.cmp .ne (.call "_law_asked" [.var 5,.var 10]) (.var 11)) [.ret (.cst (.bl cc))] []]) (S (a5 (.loc,fe rs w))) .nx (S (a5 (.loc,fe rs w))):=bA (aK (bG (aa (af rfl) (aa (af rfl) aj)) trivial J) (af rfl) trivial (x8 (DZ rs w))) aB aB;show⟨p,a5 (.loc,.str w),a5 (.loc,fe rs w),aw L aD (aw (st2:=S (a5 (.loc,.str "unknown"))) ah aD ?_),s1⟩;have z:∀u:U,(w∉(lim rs fuel s0).1->u=fe rs w)->Run (execs Γ [.ite (.cmp .isin (.var 10) (.var 6)) [.set 11 (.ite (.cmp .le (.idx (.var 6) (.var 10)) (.cst (.int 2000))) (.idx (.var 6) (.var 10)) (.cst (.str "many")))] [],.ite (.cmp .ne (.call "_law_asked" [.var 5,.var 10]) (.var 11)) [.ret (.cst (.bl cc))] []]) (S (a5 (.loc,u))) .nx (S (a5 (.loc,fe rs w))):=λu o=>by
  have b:=b (a5 (.loc,u));by_cases a:w∈(lim rs fuel s0).1
  .rw[Α a]at b;have N:fe rs w=if (lim rs fuel s0).2 w<=2000 then .int ((lim rs fuel s0).2 w) else .str "many":=by unfold fe;rw[Ž a]
   have O:Run (ev Γ (.ite (.cmp .le (.idx (.var 6) (.var 10)) (.cst (.int 2000))) (.idx (.var 6) (.var 10)) (.cst (.str "many")))) (S (a5 (.loc,u))) (.loc,fe rs w) (S (a5 (.loc,u))):=by
    rw[N];by_cases g:(lim rs fuel s0).2 w<=2000
    .rw[Ž g];show tM (aK (q a _) ah trivial (Er (Α g))) (q a _)
    .rw[ž g];show tN (aK (q a _) ah trivial (Er (ſ g))) ah
   show cH b (aw O aD aB) d
  .rw[ſ a]at b;rw[o a]at b ⊢;show bA b aB d
 have c:=c (a5 (.loc,.str "unknown"));by_cases l:w∈a9 rs
 .rw[Α l]at c;show cH c (aw ah aD aB) (z (.str "unlearnt") λa=>by unfold fe;rw[ž a,Ž l])
 .rw[ſ l]at c;show bA c aB (z (.str "unknown") λa=>by unfold fe;rw[ž a,ž l])
abbrev uF:Fn:=⟨"law",1,12,[.set 1 (.OF .LZ [.NU (.var 0) [] [.cst (.int 200)]]),.set 2 (.J9 "_law_source" [.var 1,.cst (.int 2)] [0]),.set 3 (.J9 "_law_source" [.var 1,.cst (.int 1)] [0]),.set 4 (.J9 "_law_words" [.var 3] [0]),.set 5 (.J9 "_law_widened" [.var 3,.J9 "_law_book" [.var 1,.var 3,.var 4] [0,1]] [0]),.set 6 (.call "_law_costs" [.var 5]),.set 7 (.call "_law_all" [.var 5]),.set 8 (.bin .add (.var 4) (.lst [.cst (.str "zzzzzzzz"),.cst (.str "a/99"),.cst (.str "b/2"),.cst (.str "q")])),.Kt cc [9] .LM [.cst (.int 4)] Hd,.ite (.cmp .eq (.J9 "_law_draw" [.var 2,.cst (.int 4)] [0]) (.cst (.int 0))) [.set 5 (.call "_law_doubles" [.J9 "_law_draw" [.var 2,.cst (.int 21)] [0]]),.ret (.and [.cmp .eq (.call "_law_asked" [.var 5,.cst (.str "top")]) (.cst (.int 2000)),.cmp .eq (.call "_law_asked" [.var 5,.cst (.str "topper")]) (.cst (.str "many"))])] [],.ret (.cst (.bl b8))]⟩
def yh(H:jg Γ)(n:bC Γ)(hW:v_ Γ)(hB:mF Γ)(hV:A4 Γ)(hC:A7 Γ)(hL:∀ws rs,Bq ws rs->Γ "_law_all" [.tup (rs.map A')]=a5 (.ok (.own,.lst ((a9 rs).map .str))))
  (o:∀ws rs w,Bq ws rs->w.length<=20->Γ "_law_asked" [.tup (rs.map A'),.str w]=a5 (.ok (.loc,fe rs w))) (hX:∀t:Nat,t<21->Γ "_law_doubles" [.int (t:Nat)]=a5 (.ok (.loc,.tup ((M8 t).map A')))) {ns:List Int} (hn:ns.length<=63):bY Γ uF [.lst (ns.map .int)]=a5 (.ok (.loc,.bl b8)):=by
 have ab:(1000:Nat)<=cK:=by decide
 have I:qN .LZ [(.own,.lst ((cut ns b6 (a5 200)).map .int))]=a5 (.own,.lst ((cut ns b6 (a5 200)).reverse.map .int)):=by
  change(if d_ .own ((cut ns b6 (a5 200)).map U.int)=b8 then a5 (Kd.own,U.lst ((cut ns b6 (a5 200)).map U.int).reverse) else b6)=_;rw[Ž (show d_ .own ((cut ns b6 (a5 200)).map U.int)=b8 from rfl),ć]
 have l:(cut ns b6 (a5 200)).reverse.length<=63:=by rw[Sb];have:=Dw ns b6 (a5 200);lia
 generalize (cut ns b6 (a5 200)).reverse=v at I l;let o0:Option (Kd×U):=a5 (.any,.lst (ns.map .int));have⟨x,u2,q2,l2,s2⟩:=rR (Γ:=Γ) H (ns:=v) (rest:=[b6,b6,b6,b6,b6,b6,b6,b6,b6,b6]) (o0:=o0) (k:=2);have⟨J,u3,q3,l3,s3⟩:=rR (Γ:=Γ) H (ns:=x) (rest:=[a5 (.own,u2),b6,b6,b6,b6,b6,b6,b6,b6,b6]) (o0:=o0) (k:=1);have⟨ws,u4,e4,w0,w1,s4,wx⟩:=hW 0 u3 s3 ⋯;have⟨V8,rfl,XD⟩:=s3.lst;have⟨z,rfl,ac⟩:=s4.lst;have q4:=iz (Γ:=Γ) (st:=[o0,a5 (.own,.lst (J.map .int)),a5 (.own,u2),a5 (.own,.lst V8),b6,b6,b6,b6,b6,b6,b6,b6]) (i:=3) (es:=[]) (k0:=.own) (k:=.own) rfl rfl aj rfl rfl XD rfl e4 (.inl rfl);have⟨rs,A,B,q5,g⟩:=yg (Γ:=Γ) hB hV (ns:=J) (u:=.lst z) (ws:=ws) (rest:=[b6,b6,b6,b6,b6,b6,b6]) (o0:=o0) (o2:=a5 (.own,u2)) ⋯ s4 ⋯ w0 w1;have C:=Bk.of g.wl g.rl g.ok;have SJ:∀w∈ws++dy,w.length<=20:=λw D=>by
  rcases ke.mp D with h|h
  .show wx w h
  .have:∀w∈dy,w.length<=20:=by decide +kernel
   show this w h
 let f:O5:=(o0,a5 (.own,.lst (A.map .int)),a5 (.own,B))
 have⟨st',hf,L,o9,o10,o11,T,rfl,sT,tT⟩:=cw (rs:=[(.loc,.int (4:Nat))]) (t:=cc) (is:=[9]) (body:=execs Γ Hd) (λi:Nat=>(Kd.loc,U.int (0+(i:Int)))) (λd r st=>∃u2 o9 o10 o11 T,st=Nw f u2 ws rs (lim rs fuel s0) o9 o10 o11/\Src T u2/\T+(r.length:Nat)<1000)
  (λ_ _ _ _=>trivial) (λd y r st h=>by
   have⟨u2,o9,o10,o11,T,rfl,s,t⟩:=h;rw[kj]at t;have⟨V',N6,Sh,q,s'⟩:=D0 (Γ:=Γ) n (f:=f) (u2:=u2) (o9:=a5 (.loc,.int (0+(y:Int)))) (o10:=o10) (o11:=o11) C (λw D=>o ws rs w g (SJ w D)) s ⋯;show⟨Nw f u2 ws rs (lim rs fuel s0) (a5 (.loc,.int (0+(y:Int)))) o10 o11,_,aD,q,_,_,_,_,_,rfl,s',⋯⟩) (gs 4) [] (Nw f u2 ws rs (lim rs fuel s0) b6 b6 b6) ⟨_,_,_,_,0,rfl,s2,by simp⟩
 have q8:Run (ev Γ (.bin .add (.var 4) (.lst [.cst (.str "zzzzzzzz"),.cst (.str "a/99"),.cst (.str "b/2"),.cst (.str "q")]))) [o0,a5 (.own,.lst (A.map .int)),a5 (.own,u2),a5 (.own,B),a5 (.own,.lst (ws.map .str)),a5 (.loc,.tup (rs.map A')),a5 (.own,cD (lim rs fuel s0)),a5 (.own,.lst ((a9 rs).map .str)),b6,b6,b6,b6] (.own,.lst ((ws++dy).map .str)) [o0,a5 (.own,.lst (A.map .int)),a5 (.own,u2),a5 (.own,B),a5 (.own,.lst (ws.map .str)),a5 (.loc,.tup (rs.map A')),a5 (.own,cD (lim rs fuel s0)),a5 (.own,.lst ((a9 rs).map .str)),b6,b6,b6,b6]:=by
  rw[ki];show bj (aE rfl) (bO (us:=dy.map .str) (aa ah (aa ah (aa ah (aa ah aj)))) trivial (ao aA (ao aA (ao aA (ao aA aC)))) (by change 4<=cK;lia)) ⟨⟨.own,rfl,rfl⟩,trivial⟩ (mj (by rw[c2];change ws.length+4<=cK;lia) rfl rfl)
 have⟨a,ua,N,a0,a1,sa⟩:=cS (Γ:=Γ) (st:=Nw f L ws rs (lim rs fuel s0) o9 o10 o11) n (i:=2) (k:=.own) (e:=.cst (.int 4)) (m:=4) rfl rfl ah sT ⋯ ⋯ ⋯;have j:∃O,Run (execs Γ [.ite (.cmp .eq (.J9 "_law_draw" [.var 2,.cst (.int 4)] [0]) (.cst (.int 0))) [.set 5 (.call "_law_doubles" [.J9 "_law_draw" [.var 2,.cst (.int 21)] [0]]),.ret (.and [.cmp .eq (.call "_law_asked" [.var 5,.cst (.str "top")]) (.cst (.int 2000)),.cmp .eq (.call "_law_asked" [.var 5,.cst (.str "topper")]) (.cst (.str "many"))])] [],.ret (.cst (.bl b8))]) (Nw f L ws rs (lim rs fuel s0) o9 o10 o11) (.rt .loc (.bl b8)) O:=by
  by_cases Q:a=0
  .have⟨b,ub,rb,b0,b1,sb⟩:=cS (Γ:=Γ) (st:=Nw f ua ws rs (lim rs fuel s0) o9 o10 o11) n (i:=2) (k:=.own) (e:=.cst (.int 21)) (m:=21) rfl rfl ah sa ⋯ ⋯ ⋯;obtain⟨t,rfl⟩:∃t:Nat,b=(t:Int):=⟨b.toNat,⋯⟩
   have G:t<21:=by lia
   have hr:=G9 t G;have Y:Bq BC (M8 t):=⟨by decide +kernel,⋯,λr h=>hr.1 r h⟩
   obtain⟨⟨p1,p2⟩,p3,p4⟩:=DY t G;have d1:fe (M8 t) "top"=.int 2000:=by unfold fe;rw[Ž p1,p2];rfl
   have d2:fe (M8 t) "topper"=.str "many":=by unfold fe;rw[Ž p3,p4];rfl
   have k1:=o BC (M8 t) "top" Y (by decide +kernel);have k2:=o BC (M8 t) "topper" Y (by decide +kernel);rw[d1]at k1;rw[d2]at k2;show⟨_,mU (gf (aK N ah trivial (bM (c:=b8) (by simp[Q]))) (aw (bG (aa rb aj) trivial (hX t G)) aD (bL (IK (GW (p:=b8) (q:=b8) (i_ (bG (aa (af rfl) (aa ah aj)) trivial k1) ah trivial (bM rfl)) λ_=>GQ (i_ (bG (aa (af rfl) (aa ah aj)) trivial k2) ah trivial (vX.trans (by simp))))) fb)))⟩
  .show⟨_,bA (aK N ah trivial (bM (c:=cc) (by simp[Q]))) aB (bL ah fb)⟩
 have⟨O,j⟩:=j;show bB (st0:=[o0,b6,b6,b6,b6,b6,b6,b6,b6,b6,b6,b6]) rfl (.inr rfl) rfl (aw (Ah (aa (lY (bh rfl) n9 (jY ah) trivial (Aq (by change cm _=b8;show gG ns))) aj) trivial I) ba (aw q2 ba (aw q3 ba (aw q4 ba (aw q5 aD (aw (bG (aa (af rfl) aj) trivial (hC ws rs g.wl g.ok)) ba (aw (bG (aa (af rfl) aj) trivial (hL ws rs g)) ba (aw q8 ba (c7 (rs:=[(.loc,.int (4:Nat))]) (aa ah aj) trivial (jD ⋯) rfl hf j)))))))))
end
end TM
namespace K
open PySem L2 TM
abbrev top(i:Nat):Nd:=PySem.Challenge.pw_primer_k25_readings_refused.main.body.getD i (.Pass ⟨0,0,0,0⟩)
noncomputable abbrev mG:Fn:=TM.pO
noncomputable abbrev dm:Fn:=KL.dm
noncomputable abbrev ff:Fn:=TM.wB
noncomputable abbrev bf:Fn:=KL.bf
noncomputable abbrev cT:Fn:=KL.cT
noncomputable abbrev br:Fn:=KL.br
noncomputable abbrev fz:Fn:=KL.fz
noncomputable abbrev fc:Fn:=KL.fc
noncomputable abbrev eE:Fn:=TM.By
noncomputable abbrev j6:Fn:=TM.wj
noncomputable abbrev dz:Fn:=TM.DO
noncomputable abbrev rW:Fn:=TM.kN
noncomputable abbrev j7:Fn:=TM.p8
noncomputable abbrev oB:Fn:=TM.Jn
noncomputable abbrev jl:Fn:=TM.Av
noncomputable abbrev mH:Fn:=TM.v9
noncomputable abbrev j8:Fn:=TM.mD
noncomputable abbrev oC:Fn:=TM.G3
noncomputable abbrev oD:Fn:=TM.DG
noncomputable abbrev mI:Fn:=TM.pU
noncomputable abbrev oE:Fn:=TM.AW
noncomputable abbrev j9:Fn:=TM.uo
abbrev mJ:Fn:=⟨"_law_kind",1,2,[.set 1 (.lst [.Lz (.var 0) "Unknown" [("TooMany",cc),("Unknown",b8),("Unlearnt",cc)],.Lz (.var 0) "Unlearnt" [("TooMany",cc),("Unknown",cc),("Unlearnt",b8)],.Lz (.var 0) "TooMany" [("TooMany",b8),("Unknown",cc),("Unlearnt",cc)],.Lz (.var 0) "Lacking" [("TooMany",cc),("Unknown",cc),("Unlearnt",cc)]]),.set 1 (.bin .add (.var 1) (.lst [.Lz (.var 0) "NoText" [("TooMany",cc),("Unknown",cc),("Unlearnt",cc)],.Lz (.var 0) "Unfit" [("TooMany",cc),("Unknown",cc),("Unlearnt",cc)],.Lz (.var 0) "NoRow" [("TooMany",cc),("Unknown",cc),("Unlearnt",cc)],.Lz (.var 0) "NoDeed" [("TooMany",cc),("Unknown",cc),("Unlearnt",cc)]])),.ite (.or [.cmp .ne (.OG cc 1 b8) (.cst (.int 1)),.not (.Lz (.var 0) "ValueError" [("TooMany",b8),("Unknown",b8),("Unlearnt",b8)])]) [.ret (.cst (.str "none"))] [],.ret (.idx (.lst [.cst (.str "unknown"),.cst (.str "unlearnt"),.cst (.str "many"),.cst (.str "lacking"),.cst (.str "text"),.cst (.str "unfit"),.cst (.str "row"),.cst (.str "deed")]) (.OG b8 1 b8))]⟩
noncomputable abbrev j_:Fn:=TM.uE
noncomputable abbrev hJ:Fn:=TM.Ha
noncomputable abbrev hZ:Fn:=TM.DL
noncomputable abbrev ED:Fn:=TM.uF
abbrev prog:List Fn:=[mG,dm,ff,bf,cT,br,fz,fc,eE,j6,dz,rW,j7,oB,jl,mH,j8,oC,oD,mI,oE,j9,mJ,j_,hJ,hZ,ED]
abbrev ck:Ck:=⟨(prog.filter λf=>f.io.isNone).map (·.name),[("DEAREST_READ",(.int 2000))],prog.filterMap λf=>f.io.map λp=>(f.name,p.1),["TooMany","Unknown","Unlearnt"],[],[("TooMany","Lacking",cc),("TooMany","NoDeed",cc),("TooMany","NoRow",cc),("TooMany","NoText",cc),("TooMany","TooMany",b8),("TooMany","Unfit",cc),("TooMany","Unknown",cc),("TooMany","Unlearnt",cc),("TooMany","ValueError",b8),("Unknown","Lacking",cc),("Unknown","NoDeed",cc),("Unknown","NoRow",cc),("Unknown","NoText",cc),("Unknown","TooMany",cc),("Unknown","Unfit",cc),("Unknown","Unknown",b8),("Unknown","Unlearnt",cc),("Unknown","ValueError",b8),("Unlearnt","Lacking",cc),("Unlearnt","NoDeed",cc),("Unlearnt","NoRow",cc),("Unlearnt","NoText",cc),("Unlearnt","TooMany",cc),("Unlearnt","Unfit",cc),("Unlearnt","Unknown",cc),("Unlearnt","Unlearnt",b8),("Unlearnt","ValueError",b8)],[("TooMany","PrimerError"),("Unknown","PrimerError"),("Unlearnt","PrimerError")]⟩
def pure(ns:List Int)(d:ns.length<=63):Kl prog 9 "law" [tK ns]=a5 (.ok (.loc,.bl b8)):=by
 have b:KJ prog "_law_draw" v9:=rfl;have hs:KJ prog "_law_source" Av:=rfl;have e:KJ prog "_law_all" AW:=rfl;have hk:KJ prog "_law_asked" uE:=rfl;have f:KJ prog "_law_kind" jO:=rfl;have g:KJ prog "_law_doubles" Ha:=rfl;have R:V9 prog:=⟨⟨rfl,rfl,rfl,rfl,rfl,rfl⟩,rfl,rfl,rfl,rfl,rfl,rfl,rfl,rfl⟩
 have h:bC (Kl prog 6):=t9 b;have c:bC (Kl prog 7):=t9 b;have hl:KJ prog "law" uF:=rfl;rw[show Kl prog 9 "law" [tK ns]=_ from aL hl [tK ns]];show yh (AJ hs) (t9 b) (DJ c rfl) (Bd (AJ hs) c (Jd h rfl) (Jf rfl) rfl) (Jh c (G8 rfl) rfl) (G6 rfl) (λws rs a=>all2 e a) (λws rs w a i=>Jo R hk f 0 a.wl a.rl a.ok i) (λt j=>(aL g _).trans (Jp j)) d
end K
namespace K
open PySem L2 TM PySem.W PyProof.Rows
abbrev m0:dV:=.str "primer.books" 335
abbrev m1:dV:=.str "primer.learning" 364
abbrev m2:dV:=.str "primer.prices" 413
abbrev m3:dV:=.str "primer.readings" 439
abbrev m4:dV:=.str "law_primer_k25_readings_refused" 455
abbrev ml:Me:=⟨ED,42,["_law_script","_law_left","_law_query","_law_source_here","_law_words_here","_law_book_here","_law_costs_here","_law_known","_law_some","_law_turn","_law_word","_law_due"],292,291,m4,co "law" 572 229 1 286 287 (.ref 288) (.ref 289) (.ref 290) 587 588 181⟩
abbrev ms:List Me:=[⟨mG,11,["book","words","row"],130,129,m0,co "words_of" 337 21 1 124 125 (.ref 126) (.ref 127) (.ref 128) 343 344 181⟩,
 ⟨dm,12,["pairs","found","key","value"],137,136,m0,co "gathered" 346 27 1 131 132 (.ref 133) (.ref 134) (.ref 135) 353 354 181⟩,
 ⟨ff,13,["book","words"],144,143,m0,co "refuse_unknown" 356 34 2 138 139 (.ref 140) (.ref 141) (.ref 142) 361 362 181⟩,
 ⟨bf,15,["book","pairs","place","row"],149,148,m1,co "places_that_tell" 366 38 1 145 146 .none .none (.ref 147) 369 370 181⟩,
 ⟨cT,16,["book","places","known","steps","place","word"],156,155,m1,co "new_steps" 372 43 3 150 151 (.ref 152) (.ref 153) (.ref 154) 381 382 181⟩,
 ⟨br,17,["book","tellers","missing","known","found","ready","steps","word","place","teller"],161,160,m1,co "steps_in_rounds" 384 50 1 157 158 .none .none (.ref 159) 387 388 181⟩,
 ⟨fz,18,["book","found","steps"],168,167,m1,co "order" 390 68 1 162 163 (.ref 164) (.ref 165) (.ref 166) 396 397 181⟩,
 ⟨fc,19,["book"],173,172,m1,co "learnt" 399 73 1 169 170 .none .none (.ref 171) 402 403 181⟩,
 ⟨eE,20,["book","word"],180,179,m1,co "refuse_unlearnt" 405 75 2 174 175 (.ref 176) (.ref 177) (.ref 178) 410 411 181⟩,
 ⟨j6,22,["row","found"],185,184,m2,co "row_price" 415 79 2 181 182 .none .none (.ref 183) 418 419 181⟩,
 ⟨dz,23,["book","found","fallen","place","row","price"],190,189,m2,co "prices_and_places" 421 81 1 186 187 .none .none (.ref 188) 424 425 181⟩,
 ⟨rW,24,["book"],195,194,m2,co "prices" 427 93 1 191 192 .none .none (.ref 193) 430 431 181⟩,
 ⟨j7,25,["book"],200,199,m2,co "best_rows" 433 95 1 196 197 .none .none (.ref 198) 436 437 181⟩,
 ⟨oB,28,["book","word","places","backward","waiting","place"],207,206,m3,co "reading" 443 99 2 201 202 (.ref 203) (.ref 204) (.ref 205) 452 453 181⟩,
 ⟨jl,30,["_law_left","_law_k","_law_cell"],214,213,m4,co "_law_source" 457 113 2 208 209 (.ref 210) (.ref 211) (.ref 212) 463 464 181⟩,
 ⟨mH,31,["_law_source_here","_law_many","_law_number","_law_turn","_law_mixed"],221,220,m4,co "_law_draw" 466 118 2 215 216 (.ref 217) (.ref 218) (.ref 219) 474 475 181⟩,
 ⟨j8,32,["_law_source_here","_law_letters","_law_many","_law_base","_law_way","_law_size","_law_first","_law_words_here","_law_k","_law_word","_law_sense"],226,225,m4,co "_law_words" 477 127 1 222 223 .none .none (.ref 224) 480 481 181⟩,
 ⟨oC,33,["_law_source_here","_law_words_here","_law_at","_law_below","_law_told","_law_k","_law_one"],233,232,m4,co "_law_row" 483 148 4 227 228 (.ref 229) (.ref 230) (.ref 231) 493 494 181⟩,
 ⟨oD,34,["_law_rows","_law_row_here","_law_other"],240,239,m4,co "_law_lay" 496 157 2 234 235 (.ref 236) (.ref 237) (.ref 238) 502 503 181⟩,
 ⟨mI,35,["_law_left","_law_source_here","_law_words_here","_law_rows","_law_way","_law_k","_law_at","_law_more"],247,246,m4,co "_law_book" 505 162 3 241 242 (.ref 243) (.ref 244) (.ref 245) 516 517 181⟩,
 ⟨oE,36,["_law_book_here","_law_met","_law_word","_law_told","_law_one"],254,253,m4,co "_law_all" 519 174 1 248 249 (.ref 250) (.ref 251) (.ref 252) 527 528 181⟩,
 ⟨j9,37,["_law_book_here","_law_costs_here","_law_fell","_law_word","_law_told","_law_length"],259,258,m4,co "_law_costs" 530 181 1 255 256 .none .none (.ref 257) 533 534 181⟩,
 ⟨mJ,38,["_law_e","_law_some"],266,265,m4,co "_law_kind" 536 193 1 260 261 (.ref 262) (.ref 263) (.ref 264) 541 542 181⟩,
 ⟨j_,39,["_law_book_here","_law_word","_law_found","_law_caught","_law_e"],273,272,m4,co "_law_asked" 544 199 2 267 268 (.ref 269) (.ref 270) (.ref 271) 552 553 181⟩,
 ⟨hJ,40,["_law_turn","_law_rows","_law_k","_law_ahead","_law_here"],280,279,m4,co "_law_doubles" 555 207 1 274 275 (.ref 276) (.ref 277) (.ref 278) 563 564 181⟩,
 ⟨hZ,41,["_law_source_here","_law_book_here","_law_share","_law_heads","_law_pool","_law_more","_law_k","_law_word"],285,284,m4,co "_law_widened" 566 217 2 281 282 .none .none (.ref 283) 569 570 181⟩,
 ml]
abbrev gg(P:Wz):Obj:=⟨.type "dict",b6,.dict #[ge P "__name__" 165 (.str "law_primer_k25_readings_refused" 455),ge P "__doc__" 166 .none,ge P "__package__" 167 .none,ge P "__loader__" 168 (.builtin "__main__.__loader__#opaque"),ge P "__spec__" 169 .none,ge P "__annotations__" 170 (.ref 6),ge P "__builtins__" 171 (.ref 4),ge P "__file__" 173 (.str "/claim/cut.py" 172),ge P "__cached__" 174 .none,ge P "PrimerError" 206 (.ref 24),ge P "NoText" 222 (.ref 37),ge P "Unfit" 238 (.ref 49),ge P "Unknown" 254 (.ref 61),ge P "Unlearnt" 270 (.ref 73),ge P "TooMany" 286 (.ref 85),ge P "Lacking" 302 (.ref 97),ge P "NoRow" 318 (.ref 109),ge P "NoDeed" 334 (.ref 121),ge P "words_of" 345 (.ref 130),ge P "gathered" 355 (.ref 137),ge P "refuse_unknown" 363 (.ref 144),ge P "places_that_tell" 371 (.ref 149),ge P "new_steps" 383 (.ref 156),ge P "steps_in_rounds" 389 (.ref 161),ge P "order" 398 (.ref 168),ge P "learnt" 404 (.ref 173),ge P "refuse_unlearnt" 412 (.ref 180),ge P "row_price" 420 (.ref 185),ge P "prices_and_places" 426 (.ref 190),ge P "prices" 432 (.ref 195),ge P "best_rows" 438 (.ref 200),ge P "DEAREST_READ" 442 (.int 2000 441),ge P "reading" 454 (.ref 207),ge P "_law_source" 465 (.ref 214),ge P "_law_draw" 476 (.ref 221),ge P "_law_words" 482 (.ref 226),ge P "_law_row" 495 (.ref 233),ge P "_law_lay" 504 (.ref 240),ge P "_law_book" 518 (.ref 247),ge P "_law_all" 529 (.ref 254),ge P "_law_costs" 535 (.ref 259),ge P "_law_kind" 543 (.ref 266),ge P "_law_asked" 554 (.ref 273),ge P "_law_doubles" 565 (.ref 280),ge P "_law_widened" 571 (.ref 285),ge P "law" 589 (.ref 292)] 46,#[]⟩
abbrev xk(a:ez)(n:Str)(b r:ez)(t u:Tok):Obj:={cls:=.type "type",data:=.cls {name:=n,bases:=[.ref b],mro:=[.ref a,.ref b,.type "ValueError",.type "Exception",.type "BaseException",.type "object"],ns:=a - 1,qualname:=n},slots:=#[a5 (.ref r),b6,a5 (.str n t),a5 (.str n u),a5 (.builtin "ValueError.__new__"),a5 (.bool b8)]}
abbrev xd(P:Wz)(m f:Tok)(l:Int)(n s:Tok)(a:ez)(d:Tok):Obj:={cls:=.type "dict",data:=.dict #[ge P "__module__" m (.str "primer.errors" 187),ge P "__firstlineno__" f (.int l n),ge P "__static_attributes__" s (.ref a),ge P "__doc__" d .none] 2}
abbrev xo(P:Wz):List (ez×Obj):=[(97,xk 97 "Lacking" 24 88 287 295),
 (121,xk 121 "NoDeed" 24 112 319 327),
 (109,xk 109 "NoRow" 24 100 303 311),
 (37,xk 37 "NoText" 24 28 207 215),
 (24,({cls:=.type "type",data:=.cls {name:="PrimerError",bases:=[.type "ValueError"],mro:=[.ref 24,.type "ValueError",.type "Exception",.type "BaseException",.type "object"],ns:=23,qualname:="PrimerError",subclasses:=[.ref 37,.ref 49,.ref 61,.ref 73,.ref 85,.ref 97,.ref 109,.ref 121]},slots:=#[a5 (.ref 15),b6,a5 (.str "PrimerError" 189),a5 (.str "PrimerError" 197),a5 (.builtin "ValueError.__new__"),a5 (.bool b8)]}:Obj)),
 (85,xk 85 "TooMany" 24 76 271 279),
 (49,xk 49 "Unfit" 24 40 223 231),
 (61,xk 61 "Unknown" 24 52 239 247),
 (73,xk 73 "Unlearnt" 24 64 255 263),
 (96,xd P 294 298 14 297 299 95 300),
 (120,xd P 326 330 18 329 331 119 332),
 (108,xd P 310 314 16 313 315 107 316),
 (36,xd P 214 218 4 217 219 35 220),
 (23,({cls:=.type "dict",data:=.dict #[{hash:=Qb P "__module__",key:=.str "__module__" 196,val:=.str "primer.errors" 187},{hash:=Qb P "__firstlineno__",key:=.str "__firstlineno__" 200,val:=.int 2 199},{hash:=Qb P "__static_attributes__",key:=.str "__static_attributes__" 201,val:=.ref 22},{hash:=Qb P "__weakref__",key:=.str "__weakref__" 203,val:=.ref 25},{hash:=Qb P "__doc__",key:=.str "__doc__" 204,val:=.none}] 3}:Obj)),
 (84,xd P 278 282 12 281 283 83 284),
 (48,xd P 230 234 6 233 235 47 236),
 (60,xd P 246 250 8 249 251 59 252),
 (72,xd P 262 266 10 265 267 71 268)]
abbrev gx(P:Wz):Gx:=(gg P,xo P)
abbrev xa:List ez:=[97,121,109,37,24,85,49,61,73,96,120,108,36,23,84,48,60,72]
abbrev vw:t8:=view PySem.Challenge.pw_primer_k25_readings_refused [11,12,13,15,16,17,18,19,20,22,23,24,25,28,30,31,32,33,34,35,36,37,38,39,40,41,42]
abbrev hk:Hook:=kHook (λP=>Mi top (gx P) ms) (adr ms xa) λP=>vR top (gx P) ms xa rfl
abbrev lo:List Str:=["PrimerError","NoText","Unfit","Unknown","Unlearnt","TooMany","Lacking","NoRow","NoDeed","DEAREST_READ"]
noncomputable abbrev xt(s:eH):Bool:=xlAt vw [] s&&recOk (RowW.records PySem.Challenge.rw_primer_k25_readings_refused.row.toRowW) s
noncomputable abbrev oe(w:vl):Option eH:=openEnds treeTable PySem.Challenge.rw_primer_k25_readings_refused.row.prog w 4000
noncomputable abbrev os(s:eH):=openSeen vw lo (importedModules PySem.Challenge.rw_primer_k25_readings_refused.row.prog.main.body) xt b8 s
def Nb(w:vl):(oe w).map (λs=>(os s).1)=a5 (openGood vw lo).1:=by kernel_rfl
def NH(w:vl):(oe w).map (λs=>(os s).2)=a5 (openGood vw lo).2:=by kernel_rfl
def QM(w:vl):(oe w).map hk.obs=a5 (hk.val w):=by kernel_rfl
def hl:LeftO PySem.Challenge.rw_primer_k25_readings_refused.row.prog vw lo xt hk.obs hk.val 4000:=λw=>by
 have⟨s,e,a⟩:=d5.mp (Nb w);have b:=NH w;have c:=QM w;rw[e]at b c;change(oe w).map _=_;rw[e];show Δ a5 (ģ (ģ a (td b)) (td c))
def hs:PySem.Challenge.rw_primer_k25_readings_refused.wellSaid=b8:=by kernel_rfl
def ho(P:Wz):O_ ck top (Mi top (gx P) ms) ms=b8:=by kernel_rfl
def hox(P:Wz):(gX ck (Mi top (gx P) ms)&&gY ck (Mi top (gx P) ms))=b8:=by kernel_rfl
end K
open PySem PySem.W PyProof.Rows K
theorem PySem.Challenge.cw_primer_k25_readings_refused_holds : PySem.Challenge.rw_primer_k25_readings_refused.Holds := by
 w_on
 refine holds_law hs λz => ?_;refine holds_open hl hk.of hk.keeps (λs e => xl_of s (va.mp e).1) XL.keeps rfl rfl rfl (λs e => recFacts_of (va.mp e).2) rfl z (by kernel_rfl) ⟨rfl, rfl, rfl, rfl, rfl, by decide +kernel⟩ ?hw ?a
 (case hw => w_witness2)
 exact TM.walk2 (l := PySem.Challenge.rw_primer_k25_readings_refused) (Pg := prog) (ck := ck) (dp := 8) (x := "_law_script") (m := ml) rfl rfl ⟨rfl, by decide, by decide, rfl⟩ rfl (by decide +kernel) (by decide +kernel) rfl (U8.mpr ⟨26, rfl⟩) rfl rfl ho hox (λ_ => rfl) K.pure
